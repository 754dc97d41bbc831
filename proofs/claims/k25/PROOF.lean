import PyProof.Rows.All
import Wide.All
import OpenK.AllK
import Wide.FinOn
import Lean
import PyProof.EqAt
import PyProof.EqKinds
import PyProof.TupleCall
import PyProof.StrLawsRepr
import PySem.Challenge.RW_wakefew_k25_what_ends
set_option compiler.extract_closed false
set_option Elab.async false
set_option linter.all false
set_option maxRecDepth 100000
namespace L2
open PySem PySem.Spec PyProof.Rows
abbrev Key := Sum Int Str
def md : Key -> Value -> Bool
 | .inl k, v => Value.isInt k v
 | .inr x, v => Value.isStrOf x v
def MU (w : World) : Key -> Int
 | .inl k => hashInt k
 | .inr x => hashStr w x
theorem bz : ∀ {k : Key} {v : Value}, md k v = true -> (∃ i t, k = Sum.inl i /\ v = Value.int i t) \/ (∃ x t, k = Sum.inr x /\ v = Value.str x t)
 | .inl i, v, h => by
   obtain ⟨t, e⟩ := Value.isInt_shape (k := i) (v := v) h
   exact .inl ⟨i, t, rfl, e⟩
 | .inr x, v, h => by
   obtain ⟨t, e⟩ := Value.isStrOf_shape (x := x) (v := v) h
   exact .inr ⟨x, t, rfl, e⟩
theorem vK (i : Int) (t : Tok) : md (.inl i) (.int i t) = true := by simp [md, Value.isInt]
theorem uW (x : Str) (t : Tok) : md (.inr x) (.str x t) = true := by simp [md, Value.isStrOf]
theorem DS (a b : Int) : decide ((Sum.inl a : Key) = Sum.inl b) = (a == b) := by
 by_cases e : a = b
 . subst e; simp
 . have h : ¬ (Sum.inl a : Key) = Sum.inl b := fun q => e (Sum.inl.inj q)
   rw [decide_eq_false h]
   exact (beq_eq_false_iff_ne.mpr e).symm
theorem Dy (a b : Str) : decide ((Sum.inr a : Key) = Sum.inr b) = decide (a = b) := by
 by_cases e : a = b
 . subst e; simp
 . have h : ¬ (Sum.inr a : Key) = Sum.inr b := fun q => e (Sum.inr.inj q)
   rw [decide_eq_false h, decide_eq_false e]
theorem D4 (a : Int) (b : Str) : decide ((Sum.inl a : Key) = Sum.inr b) = false := decide_eq_false (fun q => nomatch q)
theorem Ea (a : Str) (b : Int) : decide ((Sum.inr a : Key) = Sum.inl b) = false := decide_eq_false (fun q => nomatch q)
def aJ (prog : Program) (w : World) : PySem.KeyKind prog w Key where
 is := md
 hash := MU w
 inj := fun v a b ha hb => by
  rcases bz ha with ⟨i, t, rfl, rfl⟩ | ⟨x, t, rfl, rfl⟩
  . rcases bz hb with ⟨j, u, rfl, e⟩ | ⟨y, u, rfl, e⟩
    . injection e with e1 _; rw [e1]
    . exact nomatch e
  . rcases bz hb with ⟨j, u, rfl, e⟩ | ⟨y, u, rfl, e⟩
    . exact nomatch e
    . injection e with e1 _; rw [e1]
 byValue := fun k v h => by
  rcases bz h with ⟨i, t, rfl, rfl⟩ | ⟨x, t, rfl, rfl⟩ <;> rfl
 pyHash := fun hv h => by
  rcases bz hv with ⟨i, t, rfl, rfl⟩ | ⟨x, t, rfl, rfl⟩
  . exact wpAny_pyHash_int h
  . exact wpAny_pyHash_str h
 eqBool := fun hu hv h => by
  rcases bz hu with ⟨i, t, rfl, rfl⟩ | ⟨x, t, rfl, rfl⟩
  . rcases bz hv with ⟨j, u, rfl, rfl⟩ | ⟨y, u, rfl, rfl⟩
    . rw [DS] at h; exact wpAny_eqBool_int h
    . rw [D4] at h; exact SeqAt.EqAt.int_str i t y u _ _ _ _ h
  . rcases bz hv with ⟨j, u, rfl, rfl⟩ | ⟨y, u, rfl, rfl⟩
    . rw [Ea] at h; exact SeqAt.EqAt.str_int x t j u _ _ _ _ h
    . rw [Dy] at h; exact wpAny_eqBool_str h
 «strs» := fun k x t v h => by
  rcases bz h with ⟨i, u, rfl, e⟩ | ⟨y, u, rfl, e⟩
  . exact nomatch e
  . injection e with e1 _
    subst e1
    cases v <;> rfl
theorem pJ (prog : Program) (w : World) (i : Int) (t : Tok) : (aJ prog w).is (.inl i) (.int i t) = true := vK i t
theorem qP (prog : Program) (w : World) (x : Str) (t : Tok) : (aJ prog w).is (.inr x) (.str x t) = true := uW x t
inductive V where
 | aP | bl (b : Bool) | int (i : Int) | str (x : Str) | uH (b : Array UInt8) | D6 (b : UInt64) | ref (a : Addr) | ty (n : String)
 deriving DecidableEq
def RelV : V -> Value -> Prop
 | .aP, u => u = Value.none
 | .bl b, u => u = Value.bool b
 | .int i, u => ∃ t, u = Value.int i t
 | .str x, u => ∃ t, u = Value.str x t
 | .uH b, u => ∃ t, u = Value.bytes b t
 | .D6 b, u => ∃ t, u = Value.float b t
 | .ref a, u => u = Value.ref a
 | .ty n, u => u = Value.type n
abbrev Vals : List V -> List Value -> Prop := Paired RelV
theorem Vals.length {xs : List V} {us : List Value} (r : Vals xs us) : xs.length = us.length := Paired.length r
theorem Vals.get : ∀ {xs : List V} {us : List Value} {i : Nat} {x : V}, Vals xs us -> xs[i]? = some x -> ∃ u, us[i]? = some u /\ RelV x u
 | _, _, _, _, .nil, e => by simp at e
 | _, _, 0, _, .cons r _, e => by simp at e; subst e; exact ⟨_, rfl, r⟩
 | _, _, i + 1, x, .cons _ t, e => by
   obtain ⟨u, h1, h2⟩ := Vals.get (i := i) (x := x) t (by simpa using e)
   exact ⟨u, by simpa using h1, h2⟩
theorem Vals.append : ∀ {xs ys : List V} {us ws : List Value}, Vals xs us -> Vals ys ws -> Vals (xs ++ ys) (us ++ ws)
 | _, _, _, _, .nil, s => s
 | _, _, _, _, .cons r t, s => .cons r (Vals.append t s)
theorem Vals.take : ∀ {xs : List V} {us : List Value} (n : Nat), Vals xs us -> Vals (xs.take n) (us.take n)
 | _, _, 0, _ => .nil
 | _, _, _ + 1, .nil => .nil
 | _, _, n + 1, .cons r t => .cons r (Vals.take n t)
theorem Vals.drop : ∀ {xs : List V} {us : List Value} (n : Nat), Vals xs us -> Vals (xs.drop n) (us.drop n)
 | _, _, 0, r => r
 | _, _, _ + 1, .nil => .nil
 | _, _, n + 1, .cons _ t => Vals.drop n t
def hZ : Option V -> Option Value -> Prop
 | some v, some u => RelV v u
 | none, none => True
 | _, _ => False
def KV {κ : Type} : List (κ × V) -> List (κ × Value) -> Prop := Paired fun (p : κ × V) (q : κ × Value) => p.1 = q.1 /\ RelV p.2 q.2
def kV : Key -> V
 | .inl i => .int i
 | .inr x => .str x
inductive HO where
 | lst (xs : List V)
 | tup (xs : List V)
 | dK (kvs : List (Key × V)) | dT (kvs : List (List Key × V))
 | set (S : Int -> Bool) (n : Nat)
 | ins (C dx : Addr) (fs : List (Str × V))
 | own (x : Addr)
 | xd (fs : List (Str × V))
 | met (f x : Addr)
 | JI (lo hi : Int)
 | dX (o : Obj) (u : HO)
 | ia (ps : Array Value)
 | ext (φ : Heap -> Prop)
abbrev Hp := Addr -> Option HO
def upd (H : Hp) (a : Addr) (o : HO) : Hp := fun b => if b = a then some o else H b
theorem aj {H : Hp} {a : Addr} {o : HO} : upd H a o a = some o := by unfold upd; rw [if_pos rfl]
theorem ah {H : Hp} {a b : Addr} {o : HO} (h : b ≠ a) : upd H a o b = H b := by unfold upd; rw [if_neg h]
theorem et {H : Hp} {a b : Addr} {o u : HO} (h : H a = some o) (h' : H b = some u) (d : o ≠ u) : a ≠ b := by
 intro e; subst e; rw [h] at h'; exact d (Option.some.inj h')
theorem ay {H : Hp} {a b : Addr} {o : HO} (h : H a = some o) (h' : H b = none) : a ≠ b := by
 intro e; subst e; rw [h] at h'; cases h'
section
variable (P : Program) (w : World)
def aO (H : Hp) (h : Heap) (a : Addr) : HO -> Prop
 | .lst xs => xs.length <= sizeLine /\ ∃ (aY : List Value) (n : Nat), Vals xs aY /\ h.get? a = some { cls := .type "list", data := .seq aY.toArray n }
 | .tup xs => xs.length <= sizeLine /\ ∃ aY : List Value, Vals xs aY /\ IsTup h a aY.toArray
 | .dK kvs => kvs.length <= sizeLine /\ (a == sysModules) = false /\ ∃ vs, KV kvs vs /\ h.DictOf (aJ P w) a vs
 | .dT kvs => kvs.length <= sizeLine /\ (a == sysModules) = false /\ ∃ xs : List (List Key × Addr × Value),
  Paired (fun (p : List Key × V) (q : List Key × Addr × Value) => p.1 = q.1 /\ H q.2.1 = some (.tup (p.1.map kV)) /\ RelV p.2 q.2.2) kvs xs /\
  ∃ o es ep, h.get? a = some o /\ o.ExactDict /\ o.data = .dict es ep /\ es.toList = xs.map (entryOfKey (tupleKind (aJ P w))) /\ (xs.map (·.1)).Nodup
 | .set S n => h.SetOf (intKind P w) a S n
 | .ins C dx fs => H dx = some (.own a) /\ fs.length <= 1000 /\ dx ≠ a /\ h.get? a = some (PySem.W.instObj C dx) /\
  ∃ mA, h.Ns1 dx mA /\ (∀ f, hZ (fs.lookup f) (mA f)) /\ PySem.Within mA (fs.map (·.1))
 | .own _ => ∃ o, h.get? a = some o
 | .xd fs => ∃ mA, h.Ns1 a mA /\ ∀ f, hZ (fs.lookup f) (mA f)
 | .JI lo hi => ∃ t u v, h.get? a = some { cls := .type "range", data := .fields #[.int lo t, .int hi u, .int 1 v] }
 | .dX o u => h.get? a = some o /\ aO H h a u
 | .ia ps => h.get? a = some { cls := .none, data := .fields ps }
 | .met f x => h.get? a = some (PySem.W.methodObj (.ref f) (.ref x))
 | .ext φ => φ h /\ (∃ o, h.get? a = some o) /\ ∀ h1 h2 : Heap, φ h1 -> (∀ o, h1.get? a = some o -> h2.get? a = some o) -> φ h2
def fW (H : Hp) (h : Heap) : Prop := ∀ a o, H a = some o -> aO P w H h a o
end
section
variable {P : Program} {w : World} {H H' : Hp} {h h' : Heap} {a : Addr} {o : HO}
theorem aO.lt (x : aO P w H h a o) : a < h.objs.size := by
 cases o with
 | lst xs => obtain ⟨_, _, _, _, e⟩ := x; exact Heap.lt_size e
 | tup xs => obtain ⟨_, _, _, p⟩ := x; exact p.lt
 | dK kvs => obtain ⟨_, _, _, _, o, _, _, e, _⟩ := x; exact Heap.lt_size e
 | dT kvs => obtain ⟨_, _, _, _, o, _, _, e, _⟩ := x; exact Heap.lt_size e
 | set S n => obtain ⟨o, _, _, _, e, _⟩ := x; exact Heap.lt_size e
 | ins C dx fs => obtain ⟨_, _, _, e, _⟩ := x; exact Heap.lt_size e
 | own y => obtain ⟨_, e⟩ := x; exact Heap.lt_size e
 | xd fs => obtain ⟨_, ⟨_, _, _, e, _⟩, _⟩ := x; exact Heap.lt_size e
 | JI lo hi => obtain ⟨_, _, _, e⟩ := x; exact Heap.lt_size e
 | dX ob u => obtain ⟨e, _⟩ := x; exact Heap.lt_size e
 | ia ps => exact Heap.lt_size (show h.get? a = some _ from x)
 | met f y => exact Heap.lt_size (show h.get? a = some _ from x)
 | ext φ => obtain ⟨_, ⟨_, e⟩, _⟩ := x; exact Heap.lt_size e
theorem Paired.EJ {α β : Type} {F G : α -> β -> Prop} : ∀ {l₁ : List α} {l₂ : List β}, Paired F l₁ l₂ -> (∀ a b, F a b -> G a b) -> Paired G l₁ l₂
 | _, _, .nil, _ => .nil
 | _, _, .cons r t, f => .cons (f _ _ r) (Paired.EJ t f)
theorem aO.iA (x : aO P w H h a o) (k : ∀ b u, (b = a \/ H b = some (.own a)) -> h.get? b = some u -> h'.get? b = some u)
 (ho : ∀ b, H b = some (.own a) -> H' b = some (.own a)) (ht : ∀ b xs, H b = some (.tup xs) -> H' b = some (.tup xs)) : aO P w H' h' a o := by
 induction o with
 | lst xs => obtain ⟨z, aY, n, r, e⟩ := x; exact ⟨z, aY, n, r, k _ _ (.inl rfl) e⟩
 | tup xs => obtain ⟨z, aY, r, ob, e, c⟩ := x; exact ⟨z, aY, r, ob, k _ _ (.inl rfl) e, c⟩
 | dK kvs => obtain ⟨z, y, vs, r, ob, es, ep, e, c⟩ := x; exact ⟨z, y, vs, r, ob, es, ep, k _ _ (.inl rfl) e, c⟩
 | dT kvs =>
   obtain ⟨z, y, xs, r, ob, es, ep, e, c⟩ := x
   exact ⟨z, y, xs, Paired.EJ r fun p q z => ⟨z.1, ht _ _ z.2.1, z.2.2⟩, ob, es, ep, k _ _ (.inl rfl) e, c⟩
 | set S n => obtain ⟨ob, es, ep, t, e, c⟩ := x; exact ⟨ob, es, ep, t, k _ _ (.inl rfl) e, c⟩
 | ins C dx fs =>
   obtain ⟨d, z, ne, e, mA, ⟨od, es, ep, e2, c⟩, r⟩ := x
   exact ⟨ho _ d, z, ne, k _ _ (.inl rfl) e, mA, ⟨od, es, ep, k _ _ (.inr d) e2, c⟩, r⟩
 | own y => obtain ⟨ob, e⟩ := x; exact ⟨ob, k _ _ (.inl rfl) e⟩
 | xd fs => obtain ⟨mA, ⟨od, es, ep, e, c⟩, r⟩ := x; exact ⟨mA, ⟨od, es, ep, k _ _ (.inl rfl) e, c⟩, r⟩
 | JI lo hi => obtain ⟨t, u, v, e⟩ := x; exact ⟨t, u, v, k _ _ (.inl rfl) e⟩
 | dX ob u ih => obtain ⟨e, q⟩ := x; exact ⟨k _ _ (.inl rfl) e, ih q⟩
 | ia ps =>
   have e : h.get? a = some { cls := .none, data := .fields ps } := x
   show h'.get? a = some { cls := .none, data := .fields ps }
   exact k a _ (.inl rfl) e
 | met f y =>
   have e : h.get? a = some (PySem.W.methodObj (.ref f) (.ref y)) := x
   show h'.get? a = some (PySem.W.methodObj (.ref f) (.ref y))
   exact k a _ (.inl rfl) e
 | ext φ => obtain ⟨p, ⟨o, e⟩, st⟩ := x; exact ⟨st _ _ p fun o q => k _ _ (.inl rfl) q, ⟨o, k _ _ (.inl rfl) e⟩, st⟩
theorem fW.lt (x : fW P w H h) (e : H a = some o) : a < h.objs.size := (x a o e).lt
theorem fW.fresh (x : fW P w H h) (e : h.objs.size <= a) : H a = none := by
 cases q : H a with
 | none => rfl
 | some u => exact absurd (Nat.lt_of_lt_of_le (x.lt q) e) (Nat.lt_irrefl _)
theorem fW.kept (x : fW P w H h) (k : ∀ b u, h.get? b = some u -> h'.get? b = some u) : fW P w H h' := fun a o e =>
 (x a o e).iA (fun b u _ q => k b u q) (fun _ q => q) fun _ _ q => q
theorem fW.laid (x : fW P w H h) (k : ∀ b u, h.get? b = some u -> h'.get? b = some u) (hp : h.objs.size <= a) (new : aO P w (upd H a o) h' a o) : fW P w (upd H a o) h' := fun b u e => by
 have hn := x.fresh hp
 by_cases hb : b = a
 . subst hb; rw [aj] at e; cases e; exact new
 . rw [ah hb] at e
   exact (x b u e).iA (fun c v _ q => k c v q) (fun c q => by rw [ah (ay q hn)]; exact q) fun c xs q => by rw [ah (ay q hn)]; exact q
end
def Rd (H : Hp) (a : Addr) (u : HO) : Prop := H a = some u \/ ∃ o, H a = some (.dX o u)
theorem Rd.of {H : Hp} {a : Addr} {u : HO} (h : H a = some u) : Rd H a u := .inl h
theorem Rd.ok {P : Program} {w : World} {H : Hp} {h : Heap} {a : Addr} {u : HO} (r : Rd H a u) (x : fW P w H h) : aO P w H h a u := by
 rcases r with r | ⟨o, r⟩
 . exact x a u r
 . obtain ⟨_, q⟩ := x a _ r
   exact q
def Hm : Option HO -> Prop
 | some (.lst _) => True
 | some (.dK _) => True
 | some (.dT _) => True
 | some (.set _ _) => True
 | some (.ins _ _ _) => True
 | some (.ext _) => True
 | _ => False
section
variable {P : Program} {w : World} {H : Hp} {h h' : Heap} {x e : Addr} {o' : HO}
theorem fW.write (ok : fW P w H h) (mu : Hm (H x)) (he : e = x \/ H e = some (.own x)) (k : ∀ b u, b ≠ e -> h.get? b = some u -> h'.get? b = some u) (Cy : ∃ u, h'.get? e = some u)
 (new : aO P w (upd H x o') h' x o') : fW P w (upd H x o') h' := fun b u q => by
 have HJ : ∀ c y, H c = some (.own y) -> c ≠ x := fun c y r z => by subst z; rw [r] at mu; exact mu
 have Lg : ∀ c xs, H c = some (.tup xs) -> c ≠ x := fun c xs r z => by subst z; rw [r] at mu; exact mu
 by_cases hb : b = x
 . subst hb; rw [aj] at q; cases q; exact new
 . rw [ah hb] at q
   by_cases vQ : b = e
   . have q' : H b = some (.own x) := by
      rcases he with z | z
      . exact absurd (vQ.trans z) hb
      . rw [vQ]; exact z
     rw [q] at q'; cases q'
     obtain ⟨v, hv⟩ := Cy
     exact ⟨v, by rw [vQ]; exact hv⟩
   . refine (ok b u q).iA (fun c v hc r => k c v ?_ r) (fun c r => by rw [ah (HJ c b r)]; exact r) fun c xs r => by rw [ah (Lg c xs r)]; exact r
     rcases hc with rfl | hc
     . exact vQ
     . rintro rfl
       rcases he with z | z
       . exact HJ c b hc z
       . rw [hc] at z; cases z; exact hb rfl
end
structure Un (fs ex : List Addr) (H H' : Hp) (h h' : Heap) : Prop where
 keep : ∀ b o, h.get? b = some o -> H b = none -> b ∉ fs -> b ∉ ex -> h'.get? b = some o
 slot : ∀ b o, h.get? b = some o -> H b = none -> b ∈ fs -> b ∉ ex -> ∃ sl, h'.get? b = some { o with slots := sl }
 free : ∀ b o, h.get? b = some o -> H b = none -> b ∉ ex -> H' b = none
 there : ∀ b o, h.get? b = some o -> b ∉ ex -> ∃ o', h'.get? b = some o'
 gb : ∀ b xs, H b = some (.tup xs) -> H' b = some (.tup xs)
 fJ : ∀ b o u, H b = some (.dX o u) -> H' b = some (.dX o u)
 ib : ∀ b ps, H b = some (.ia ps) -> ∃ more, H' b = some (.ia (ps ++ more))
section
variable {fs JV ex Sb : List Addr} {H H1 H2 : Hp} {h h1 h2 h' : Heap} {a x e : Addr} {o : HO}
theorem Un.any (u : Un fs ex H H1 h h1) {b : Addr} {ob : Obj} (q : h.get? b = some ob) (n : H b = none) (hx : b ∉ ex) : ∃ sl, h1.get? b = some { ob with slots := sl } := by
 by_cases hb : b ∈ fs
 . exact u.slot b ob q n hb hx
 . exact ⟨ob.slots, u.keep b ob q n hb hx⟩
theorem Un.kept (k : ∀ b u, h.get? b = some u -> h'.get? b = some u) : Un fs ex H H h h' :=
 ⟨fun b ob q _ _ _ => k b ob q, fun b ob q _ _ _ => ⟨ob.slots, k b ob q⟩, fun _ _ _ n _ => n, fun b ob q _ => ⟨ob, k b ob q⟩, fun _ _ q => q, fun _ _ _ q => q, fun _ ps q => ⟨#[], by rw [q]; simp⟩⟩
theorem Un.refl : Un fs ex H H h h := Un.kept fun _ _ q => q
theorem Un.laid (k : ∀ b u, h.get? b = some u -> h'.get? b = some u) (hp : h.objs.size <= a) (hn : H a = none) : Un fs ex H (upd H a o) h h' where
 keep := fun b u q _ _ _ => k b u q
 slot := fun b u q _ _ _ => ⟨u.slots, k b u q⟩
 free := fun b u q n _ => by rw [ah (Nat.ne_of_lt (Nat.lt_of_lt_of_le (Heap.lt_size q) hp))]; exact n
 there := fun b u q _ => ⟨u, k b u q⟩
 gb := fun b xs q => by rw [ah (ay q hn)]; exact q
 fJ := fun b u xs q => by rw [ah (ay q hn)]; exact q
 ib := fun b ps q => ⟨#[], by rw [ah (ay q hn), q]; simp⟩
theorem Un.write (mu : Hm (H x)) (he : e = x \/ H e = some (.own x)) (k : ∀ b u, b ≠ e -> h.get? b = some u -> h'.get? b = some u) (Cy : ∃ u, h'.get? e = some u) : Un fs ex H (upd H x o) h h' := by
 have hx : ∀ b, H b = none -> b ≠ x := fun b n z => by subst z; rw [n] at mu; exact mu
 have hb : ∀ b, H b = none -> b ≠ e := fun b n z => by
  subst z
  rcases he with r | r
  . exact hx b n r
  . rw [n] at r; cases r
 have hm : ∀ b u, H b = some u -> ¬ Hm (some u) -> b ≠ x := fun b u q nm z => by subst z; rw [q] at mu; exact nm mu
 refine ⟨fun b u q n _ _ => k b u (hb b n) q, fun b u q n _ _ => ⟨u.slots, k b u (hb b n) q⟩, fun b u q n _ => by rw [ah (hx b n)]; exact n, fun b u q _ => ?_,
  fun b xs q => by rw [ah (hm b _ q fun z => z)]; exact q, fun b u xs q => by rw [ah (hm b _ q fun z => z)]; exact q, fun b ps q => ⟨#[], by rw [ah (hm b _ q fun z => z), q]; simp⟩⟩
 by_cases vQ : b = e
 . subst vQ; exact Cy
 . exact ⟨u, k b u vQ q⟩
end
def Jv (h : Heap) (H : Hp) : List Addr := (List.range h.objs.size).filter fun a => (H a).isSome
def nh (h : Heap) (H : Hp) : Heap := PySem.W.hideAll h (Jv h H)
theorem vA (h : Heap) (H : Hp) : (nh h H).objs.size = h.objs.size := PySem.W.hideAll_size _ _
theorem yL {h : Heap} {H : Hp} {b : Addr} {o : Obj} (e : h.get? b = some o) (n : H b = none) : (nh h H).get? b = some o :=
 PySem.W.hideAll_get _ e fun hm => by
  have q : (H b).isSome = true := (List.mem_filter.mp hm).2
  rw [n] at q; simp at q
theorem BF {h : Heap} {H : Hp} {b : Addr} {o : Obj} (e : (nh h H).get? b = some o) : h.get? b = some o /\ H b = none := by
 have e' : h.get? b = some o := PySem.W.of_hideAll (Jv h H) e
 refine ⟨e', ?_⟩
 cases q : H b with
 | none => rfl
 | some x =>
   have hm : b ∈ Jv h H := List.mem_filter.mpr ⟨List.mem_range.mpr (Heap.lt_size e'), by simp [q]⟩
   have z : (nh h H).get? b = none := PySem.W.hideAll_none (Jv h H) hm
   rw [z] at e; cases e
def Az (g h : Heap) (L : Addr) : List (Addr × Obj) := (List.range h.objs.size).filterMap fun a => if a = L \/ (g.get? a).isSome = true then none else (h.get? a).map fun o => (a, o)
def rest (g h : Heap) (L d : Addr) : List (Addr × Obj) := (Az g h L).filter fun p => decide (p.1 ≠ d)
structure Mod (K : PySem.W.Frag) (mg : Str -> Option Value) (base : Heap) : Prop where
 Fh : K.In base
 glob : base.Ns mainGlobals mg
 blt : ∃ mb, base.Ns builtinsNs mb /\ ∀ x : Str, x ≠ "__name__" -> mb x = bootBuiltins x
 nolimit : base.NoLimit
structure Cx where
 prog : Program
 w : World
 K : PySem.W.Frag
 mg : Str -> Option Value
 base : Heap
 A : Around
 N : List Str
 cf : Shared
 qe : Hp
 env : Env
 outer : List Env
 stack : List Env
 ex : List Addr
 fn : Str -> Bool
 calm : Bool
 pn : List (Addr × Obj)
 xe : Value -> Shared -> Prop
def my (l : List Env) : List Addr := l.filterMap (·.frame)
abbrev Cx.fs (X : Cx) : List Addr := my X.outer
def Ex (sc : Scope) (x : Str) : Prop := sc.names.lookup x = some .local \/ sc.names.lookup x = some .cell \/ sc.names.lookup x = some .free
def Loc (sc : Scope) (x : Str) : Prop := sc.names.lookup x = some .local \/ sc.names.lookup x = some .cell
def Look (env : Env) (h : Heap) (m : Str -> Option Value) (x : Str) (u : Value) : Prop :=
 (env.kindOf x = some .local /\ m x = some u) \/ ((env.kindOf x = some .cell \/ env.kindOf x = some .free) /\ ∃ c, env.cells.lookup x = some c /\ h.IsCell c (some u))
structure Cx.Ok (X : Cx) : Prop where
 mod : Mod X.K X.mg X.base
 kind : X.env.scope.kind = .function
 glob : X.env.globals = mainGlobals
 blt : X.env.builtins = builtinsNs
 above : X.cf.heap.objs.size <= X.env.locals
 inj : ∀ x y c, X.env.cells.lookup x = some c -> X.env.cells.lookup y = some c -> x = y
 has : ∀ x, (X.env.kindOf x = some .cell \/ X.env.kindOf x = some .free) -> ∃ c, X.env.cells.lookup x = some c
 za : ∀ x c, X.fn x = true -> X.env.cells.lookup x = some c -> X.cf.heap.objs.size <= c
 hd : X.calm = true -> X.A.handled = none
 frames : X.A.frames = some X.stack
 Ba : X.stack = X.outer \/ (X.stack = X.env :: X.outer /\ X.env.frame = some X.env.locals)
 Br : ∀ b ∈ X.ex, b ≠ X.env.locals /\ ∀ x c, X.env.cells.lookup x = some c -> c ≠ b
 bs : ∀ b o, X.base.get? b = some o -> X.cf.heap.get? b = some o /\ X.qe b = none
 pA : X.base.objs.size <= X.cf.heap.objs.size
 mY : ∀ b o, X.base.get? b = some o -> b ∉ X.ex
 nq : ∀ b ∈ X.ex, b ∉ X.fs
 fX : X.cf.heap.FunFrames X.base X.outer
 sf : ∀ b ∈ X.fs, X.qe b = none
structure Inv (X : Cx) (pins : List (Addr × Obj)) (σ : List (Option V)) (H : Hp) (s : Shared) : Prop where
 ok : X.Ok
 os : s.os = X.cf.os
 bare : AllBare s.gens
 base : Un X.fs X.ex X.qe H X.cf.heap s.heap
 loc : ∃ m, s.heap.Ns X.env.locals m /\ ∀ (i : Nat) (x : Str) (v : V), X.N[i]? = some x -> σ[i]? = some (some v) -> Ex X.env.scope x -> ∃ u, RelV v u /\ Look X.env s.heap m x u
 cell : ∀ x c, X.env.cells.lookup x = some c -> ∃ v, s.heap.IsCell c v
 free : H X.env.locals = none
 cE : ∀ x c, X.env.cells.lookup x = some c -> H c = none
 pin : ∀ p ∈ X.pn ++ pins, s.heap.get? p.1 = some p.2 /\ H p.1 = none /\ p.1 ≠ X.env.locals /\ p.1 ∉ X.fs /\ ∀ v, p.2.data ≠ .cell v
 aF : fW X.prog X.w H s.heap
 len : σ.length = X.N.length
section
variable {X : Cx} {pins : List (Addr × Obj)} {σ : List (Option V)} {H H' : Hp} {s : Shared} {h' : Heap}
theorem Cx.Ok.MI (ok : X.Ok) {b : Addr} {o : Obj} (e : X.base.get? b = some o) : b ∉ X.fs := fun hb => by
 have := (ok.fX.mem hb).1
 rw [e] at this; cases this
theorem Inv.bs (I : Inv X pins σ H s) : ∀ b o, X.base.get? b = some o -> s.heap.get? b = some o /\ H b = none := fun b o e =>
 ⟨I.base.keep b o (I.ok.bs b o e).1 (I.ok.bs b o e).2 (I.ok.MI e) (I.ok.mY b o e), I.base.free b o (I.ok.bs b o e).1 (I.ok.bs b o e).2 (I.ok.mY b o e)⟩
theorem Inv.bk (I : Inv X pins σ H s) : ∀ b o, X.base.get? b = some o -> s.heap.get? b = some o := fun b o e => (I.bs b o e).1
theorem Inv.mod (I : Inv X pins σ H s) : Mod X.K X.mg X.base := I.ok.mod
theorem Inv.fL (I : Inv X pins σ H s) : X.K.In s.heap := I.ok.mod.Fh.keeps I.bk
theorem Inv.nolimit (I : Inv X pins σ H s) : s.heap.NoLimit := I.ok.mod.nolimit.keeps I.bk
theorem Inv.fr (I : Inv X pins σ H s) : ∃ m, Fr X.base X.env.locals s.heap m :=
 let ⟨m, hn, _⟩ := I.loc
 ⟨m, hn, I.bk, Nat.le_trans I.ok.pA I.ok.above⟩
theorem Inv.lt (I : Inv X pins σ H s) : X.env.locals < s.heap.objs.size := let ⟨_, hn, _⟩ := I.loc; hn.lt
theorem Inv.sz (I : Inv X pins σ H s) : X.cf.heap.objs.size <= s.heap.objs.size := Nat.le_trans I.ok.above (Nat.le_of_lt I.lt)
theorem Inv.HW (I : Inv X pins σ H s) {a : Addr} (h : s.heap.objs.size <= a) : a ∉ X.fs := fun hb => by
 obtain ⟨_, o, ho, _⟩ := I.ok.fX.mem hb
 exact absurd (Nat.lt_of_lt_of_le (Heap.lt_size ho) (Nat.le_trans I.sz h)) (Nat.lt_irrefl _)
theorem Inv.Aq (I : Inv X pins σ H s) : ∀ x c, X.env.cells.lookup x = some c -> c ≠ X.env.locals := fun x c e z => by
 obtain ⟨v, o, ho, hd⟩ := I.cell x c e
 obtain ⟨m, ⟨o', es, ep, AH, jY, _⟩, _⟩ := I.loc
 rw [z, AH] at ho; cases ho; rw [jY] at hd; cases hd
theorem Inv.fX (I : Inv X pins σ H s) : s.heap.FunFrames X.base X.outer := by
 have all : ∀ (l : List Env), (∀ b ∈ my l, b ∈ X.fs) -> X.cf.heap.FunFrames X.base l -> s.heap.FunFrames X.base l := by
  intro l
  induction l with
  | nil => intro _ _; trivial
  | cons env r ih =>
    intro hs hl
    obtain ⟨hk, ⟨L, o, hf, hn, ho, hd⟩, hr⟩ := hl
    have hL : L ∈ X.fs := hs L (by unfold my; rw [List.filterMap_cons, hf]; exact List.mem_cons_self)
    obtain ⟨sl, e⟩ := I.base.slot L o ho (I.ok.sf L hL) hL fun z => I.ok.nq L z hL
    exact ⟨hk, ⟨L, _, hf, hn, e, hd⟩, ih (fun b hb => hs b (by unfold my; rw [List.filterMap_cons, hf]; exact List.mem_cons_of_mem _ hb)) hr⟩
 exact all X.outer (fun _ hb => hb) I.ok.fX
theorem Inv.stack (I : Inv X pins σ H s) : s.heap.FunFrames X.base X.stack := by
 rcases I.ok.Ba with e | ⟨e, hf⟩
 . rw [e]; exact I.fX
 . rw [e]
   obtain ⟨m, hn, _⟩ := I.loc
   refine .cons (by rw [I.ok.kind]; decide) hf hn ?_ I.fX
   exact Heap.get?_none_of_le (Nat.le_trans I.ok.pA I.ok.above)
theorem Inv.oO (I : Inv X pins σ H s) : ∀ b ∈ my X.stack, b ∈ X.env.locals :: X.fs := fun b hb => by
 rcases I.ok.Ba with e | ⟨e, hf⟩
 . rw [e] at hb; exact List.mem_cons_of_mem _ hb
 . rw [e] at hb
   unfold my at hb
   rw [List.filterMap_cons, hf] at hb
   exact hb
theorem Inv.lC (I : Inv X pins σ H s) : ∀ b ∈ my X.stack, H b = none := fun b hb => by
 rcases List.mem_cons.mp (I.oO b hb) with e | hb
 . rw [e]; exact I.free
 . obtain ⟨_, o, ho, _⟩ := I.ok.fX.mem hb
   exact I.base.free b o ho (I.ok.sf b hb) fun z => I.ok.nq b z hb
theorem Inv.step {g' : Array GenState} {t' : Nat} {d' : Drawn} {ch : List Addr} (I : Inv X pins σ H s)
 (zg : ∀ b ∈ ch, (b ∈ X.ex \/ X.cf.heap.objs.size <= b) /\ b ≠ X.env.locals /\ (∀ x c, X.env.cells.lookup x = some c -> c ≠ b) /\ ∀ p ∈ X.pn ++ pins, p.1 ≠ b)
 (keep : ∀ b o, b ≠ X.env.locals -> b ∉ X.fs -> b ∉ ch -> s.heap.get? b = some o -> H b = none -> h'.get? b = some o)
 (slot : ∀ b o, b ≠ X.env.locals -> b ∈ X.fs -> b ∉ ch -> s.heap.get? b = some o -> H b = none -> ∃ sl, h'.get? b = some { o with slots := sl }) (free : ∀ b o, b ∉ ch -> s.heap.get? b = some o -> H b = none -> H' b = none)
 (there : ∀ b o, b ∉ ch -> s.heap.get? b = some o -> ∃ o', h'.get? b = some o')
 (gb : ∀ b xs, H b = some (.tup xs) -> H' b = some (.tup xs)) (fJ : ∀ b o u, H b = some (.dX o u) -> H' b = some (.dX o u)) (ib : ∀ b ps, H b = some (.ia ps) -> ∃ more, H' b = some (.ia (ps ++ more)))
 (ns : ∀ m, s.heap.Ns X.env.locals m -> h'.Ns X.env.locals m) (aF : fW X.prog X.w H' h') (hg : AllBare g') :
 Inv X pins σ H' { s with heap := h', gens := g', drawn := d', toks := t' } := by
 have rC : ∀ b o, X.cf.heap.get? b = some o -> b ≠ X.env.locals := fun b o e => Nat.ne_of_lt (Nat.lt_of_lt_of_le (Heap.lt_size e) I.ok.above)
 have JP : ∀ b o, X.cf.heap.get? b = some o -> b ∉ X.ex -> b ∉ ch := fun b o e hx hb => by
  rcases (zg b hb).1 with z | z
  . exact hx z
  . exact absurd (Nat.lt_of_lt_of_le (Heap.lt_size e) z) (Nat.lt_irrefl _)
 have cellK : ∀ x c, X.env.cells.lookup x = some c -> ∀ v, s.heap.IsCell c v -> h'.IsCell c v := fun x c e v ⟨o, ho, hd⟩ => by
  have HY : c ∉ ch := fun z => (zg c z).2.2.1 x c e rfl
  by_cases hc : c ∈ X.fs
  . obtain ⟨sl, q⟩ := slot c o (I.Aq x c e) hc HY ho (I.cE x c e)
    exact ⟨_, q, hd⟩
  . exact ⟨o, keep c o (I.Aq x c e) hc HY ho (I.cE x c e), hd⟩
 refine ⟨I.ok, I.os, hg, ⟨fun b o e n hb hx => ?_, fun b o e n hb hx => ?_, fun b o e n hx => ?_, fun b o e hx => ?_, fun b xs e => gb b xs (I.base.gb b xs e), fun b o xs e => fJ b o xs (I.base.fJ b o xs e), fun b ps e => ?_⟩, ?_, fun x c e => ?_, ?_, fun x c e => ?_, fun p hp => ?_, aF, I.len⟩
 . exact keep b o (rC b o e) hb (JP b o e hx) (I.base.keep b o e n hb hx) (I.base.free b o e n hx)
 . obtain ⟨sl, e1⟩ := I.base.slot b o e n hb hx
   obtain ⟨JG, e2⟩ := slot b _ (rC b o e) hb (JP b o e hx) e1 (I.base.free b o e n hx)
   exact ⟨JG, e2⟩
 . obtain ⟨o', e1⟩ := I.base.there b o e hx
   exact free b o' (JP b o e hx) e1 (I.base.free b o e n hx)
 . obtain ⟨o', e1⟩ := I.base.there b o e hx
   exact there b o' (JP b o e hx) e1
 . obtain ⟨m1, e1⟩ := I.base.ib b ps e
   obtain ⟨m2, e2⟩ := ib b _ e1
   exact ⟨m1 ++ m2, by rw [e2, Array.append_assoc]⟩
 . obtain ⟨m, hn, hl⟩ := I.loc
   refine ⟨m, ns m hn, fun i x v e1 e2 e3 => ?_⟩
   obtain ⟨u, r, l⟩ := hl i x v e1 e2 e3
   refine ⟨u, r, ?_⟩
   rcases l with l | ⟨k, c, e, z⟩
   . exact .inl l
   . exact .inr ⟨k, c, e, cellK x c e _ z⟩
 . obtain ⟨v, z⟩ := I.cell x c e
   exact ⟨v, cellK x c e v z⟩
 . obtain ⟨m, ⟨o, _, _, ho, _⟩, _⟩ := I.loc
   exact free _ o (fun z => (zg _ z).2.1 rfl) ho I.free
 . obtain ⟨v, o, ho, hd⟩ := I.cell x c e
   exact free c o (fun z => (zg c z).2.2.1 x c e rfl) ho (I.cE x c e)
 . obtain ⟨e, n, ne, nf, d⟩ := I.pin p hp
   have HY : p.1 ∉ ch := fun z => (zg p.1 z).2.2.2 p hp rfl
   exact ⟨keep p.1 p.2 ne nf HY e n, free p.1 p.2 HY e n, ne, nf, d⟩
theorem Inv.un {t' : Nat} (I : Inv X pins σ H s) (u : Un X.fs [] H H' s.heap h') (aF : fW X.prog X.w H' h') : Inv X pins σ H' { s with heap := h', toks := t' } := by
 obtain ⟨m, ⟨o, es, ep, ho, r⟩, _⟩ := id I.loc
 obtain ⟨sl, hL⟩ := u.any ho I.free (by simp)
 exact I.step (g' := s.gens) (d' := s.drawn) (ch := []) (fun _ z => nomatch z) (fun b o _ hb _ e n => u.keep b o e n hb (by simp)) (fun b o _ hb _ e n => u.slot b o e n hb (by simp)) (fun b o _ e n => u.free b o e n (by simp)) (fun b o _ e => u.there b o e (by simp)) u.gb u.fJ u.ib (fun m' hm => by
  obtain ⟨o', MX, L6, AH, r'⟩ := hm
  rw [ho] at AH; cases AH
  exact ⟨_, MX, L6, hL, r'⟩) aF I.bare
theorem Inv.call {g' : Array GenState} {t' : Nat} {d' : Drawn} {ch : List Addr} (I : Inv X pins σ H s) (u : Un (my X.stack) ch H H' s.heap h') (aF : fW X.prog X.w H' h') (hg : AllBare g')
 (zg : ∀ b ∈ ch, (b ∈ X.ex \/ X.cf.heap.objs.size <= b) /\ b ≠ X.env.locals /\ (∀ x c, X.env.cells.lookup x = some c -> c ≠ b) /\ ∀ p ∈ X.pn ++ pins, p.1 ≠ b) :
 Inv X pins σ H' { s with heap := h', gens := g', drawn := d', toks := t' } := by
 obtain ⟨m, ⟨o, es, ep, ho, r⟩, _⟩ := id I.loc
 obtain ⟨sl, hL⟩ := u.any ho I.free fun z => (zg _ z).2.1 rfl
 exact I.step (ch := ch) zg (fun b o hL hb hc e n => u.keep b o e n (fun z => (List.mem_cons.mp (I.oO b z)).elim hL hb) hc) (fun b o _ _ hc e n => u.any e n hc) (fun b o hc e n => u.free b o e n hc) (fun b o hc e => u.there b o e hc) u.gb u.fJ u.ib (fun m' hm => by
  obtain ⟨o', MX, L6, AH, r'⟩ := hm
  rw [ho] at AH; cases AH
  exact ⟨_, MX, L6, hL, r'⟩) aF hg
theorem Inv.turned {t' : Nat} {it : Addr} (I : Inv X pins σ H s) (k : ∀ b o, b ≠ it -> s.heap.get? b = some o -> h'.get? b = some o) (hn : H it = none) (hL : it ≠ X.env.locals)
 (h1 : it ∈ X.ex \/ X.cf.heap.objs.size <= it) (h2 : ∀ x c, X.env.cells.lookup x = some c -> c ≠ it) (h3 : ∀ p ∈ X.pn ++ pins, p.1 ≠ it) : Inv X pins σ H { s with heap := h', toks := t' } := by
 have DN : ∀ b u, H b = some u -> b ≠ it := fun b u e z => by rw [z, hn] at e; cases e
 refine I.step (g' := s.gens) (d' := s.drawn) (ch := [it]) (fun b hb => ?_) (fun b o _ _ hc e _ => k b o (fun z => hc (by simp [z])) e) (fun b o _ _ hc e _ => ⟨o.slots, k b o (fun z => hc (by simp [z])) e⟩) (fun _ _ _ _ n => n)
  (fun b o hc e => ⟨o, k b o (fun z => hc (by simp [z])) e⟩) (fun _ _ e => e) (fun _ _ _ e => e) (fun b ps e => ⟨#[], by rw [e]; simp⟩) (fun m hm => ?_) (fun b u e => ?_) I.bare
 . have e : b = it := by simpa using hb
   subst e
   exact ⟨h1, hL, h2, h3⟩
 . obtain ⟨o, es, ep, ho, r⟩ := hm
   exact ⟨o, es, ep, k _ o (Ne.symm hL) ho, r⟩
 . refine (I.aF b u e).iA (fun c v hc q => k c v ?_ q) (fun _ q => q) fun _ _ q => q
   rcases hc with z | z
   . rw [z]; exact DN b u e
   . exact DN c _ z
theorem Inv.tok (I : Inv X pins σ H s) (t : Nat) : Inv X pins σ H { s with toks := t } := I.un (h' := s.heap) (t' := t) Un.refl I.aF
theorem Inv.kept {t' : Nat} (I : Inv X pins σ H s) (k : ∀ b u, s.heap.get? b = some u -> h'.get? b = some u) : Inv X pins σ H { s with heap := h', toks := t' } := I.un (Un.kept k) (I.aF.kept k)
theorem Inv.laid {a : Addr} {o : HO} {t' : Nat} (I : Inv X pins σ H s) (k : ∀ b u, s.heap.get? b = some u -> h'.get? b = some u) (hp : s.heap.objs.size <= a) (new : aO X.prog X.w (upd H a o) h' a o) :
 Inv X pins σ (upd H a o) { s with heap := h', toks := t' } := I.un (Un.laid k hp (I.aF.fresh hp)) (I.aF.laid k hp new)
theorem Inv.write {x e : Addr} {o : HO} {t' : Nat} (I : Inv X pins σ H s) (mu : Hm (H x)) (he : e = x \/ H e = some (.own x)) (k : ∀ b u, b ≠ e -> s.heap.get? b = some u -> h'.get? b = some u) (Cy : ∃ u, h'.get? e = some u)
 (new : aO X.prog X.w (upd H x o) h' x o) : Inv X pins σ (upd H x o) { s with heap := h', toks := t' } := I.un (Un.write mu he k Cy) (I.aF.write mu he k Cy new)
theorem Inv.weak {σ' : List (Option V)} (I : Inv X pins σ H s) (hl : σ'.length = σ.length) (w : ∀ (i : Nat) v, σ'[i]? = some (some v) -> σ[i]? = some (some v)) : Inv X pins σ' H s :=
 ⟨I.ok, I.os, I.bare, I.base, let ⟨m, hn, wZ⟩ := I.loc; ⟨m, hn, fun i x v e1 e2 e3 => wZ i x v e1 (w i v e2) e3⟩, I.cell, I.free, I.cE, I.pin, I.aF, hl.trans I.len⟩
theorem Inv.gv {qG : List (Addr × Obj)} (I : Inv X pins σ H s) (h : ∀ p ∈ qG, s.heap.get? p.1 = some p.2 /\ H p.1 = none /\ p.1 ≠ X.env.locals /\ p.1 ∉ X.fs /\ ∀ v, p.2.data ≠ .cell v) : Inv X qG σ H s :=
 ⟨I.ok, I.os, I.bare, I.base, I.loc, I.cell, I.free, I.cE, fun p hp => (List.mem_append.mp hp).elim (fun z => I.pin p (List.mem_append_left _ z)) (h p), I.aF, I.len⟩
theorem lV {N : List Str} (hN : N.Nodup) {i j : Nat} {x : Str} (a : N[i]? = some x) (b : N[j]? = some x) : i = j := by
 obtain ⟨h1, e1⟩ := List.getElem?_eq_some_iff.mp a
 obtain ⟨h2, e2⟩ := List.getElem?_eq_some_iff.mp b
 exact (List.getElem_inj hN).mp (e1.trans e2.symm)
theorem uZ {M : Model} {A : Around} {E : Value -> Shared -> Prop} {i : Nat} {x : Str} {v : V} {u : Value} {Q : Unit -> Shared -> Prop} (I : Inv X pins σ H s) (hN : X.N.Nodup) (hi : X.N[i]? = some x) (hx : Loc X.env.scope x) (r : RelV v u)
 (h : ∀ s', Inv X pins (σ.set i (some v)) H s' -> (∃ a, Heap.SameBut a s.heap s'.heap /\ (a = X.env.locals \/ X.env.cells.lookup x = some a)) -> Q () s') (hf : X.fn x = true \/ X.env.scope.names.lookup x = some .local := by first | exact .inl rfl | exact .inr rfl | assumption) : wpAny M A (storeName X.env x u) Q E s := by
 obtain ⟨m, hn, hl⟩ := id I.loc
 have vL : (X.env.scope.kind == .class || (X.env.scope.kind == .module && X.env.locals != X.env.globals)) = false := by rw [I.ok.kind]; rfl
 have Gv : i < σ.length := by rw [I.len]; exact (List.getElem?_eq_some_iff.mp hi).1
 have Aq := I.Aq
 have tracked : ∀ {a : Addr} {h' : Heap}, (∃ o, s.heap.get? a = some o /\ H a = none) -> Heap.SameBut a s.heap h' -> fW X.prog X.w H h' := fun {a h'} ha hs b ob e => by
  obtain ⟨_, _, B5⟩ := ha
  refine (I.aF b ob e).iA (fun c w' hc q => (hs.2 c ?_).trans q) (fun _ q => q) fun _ _ q => q
  rintro rfl
  rcases hc with rfl | hc
  . rw [B5] at e; cases e
  . rw [B5] at hc; cases hc
 rcases hx with hk | hk
 . refine wpAny_storeName_local hk hn (fun h' FP hs => ?_) vL
   obtain ⟨oL, _, _, zf, _⟩ := id hn
   refine h _ ⟨I.ok, I.os, I.bare, ⟨fun b o e n hb hx => ?_, fun b o e n hb hx => ?_, I.base.free, fun b o e hx => ?_, I.base.gb, I.base.fJ, I.base.ib⟩, ⟨_, FP, fun j y v' e1 e2 e3 => ?_⟩, fun y c e => ?_, I.free, I.cE, fun p hp => ?_, tracked ⟨oL, zf, I.free⟩ hs, by simpa using I.len⟩ ⟨_, hs, .inl rfl⟩
   . exact (hs.2 b (Nat.ne_of_lt (Nat.lt_of_lt_of_le (Heap.lt_size e) I.ok.above))).trans (I.base.keep b o e n hb hx)
   . obtain ⟨sl, e1⟩ := I.base.slot b o e n hb hx
     exact ⟨sl, (hs.2 b (Nat.ne_of_lt (Nat.lt_of_lt_of_le (Heap.lt_size e) I.ok.above))).trans e1⟩
   . obtain ⟨o', e1⟩ := I.base.there b o e hx
     exact ⟨o', (hs.2 b (Nat.ne_of_lt (Nat.lt_of_lt_of_le (Heap.lt_size e) I.ok.above))).trans e1⟩
   . by_cases hj : j = i
     . subst hj
       rw [hi] at e1; cases e1
       rw [List.getElem?_set_self Gv] at e2
       cases e2
       exact ⟨u, r, .inl ⟨hk, by simp⟩⟩
     . rw [List.getElem?_set_ne (Ne.symm hj)] at e2
       obtain ⟨u', r', q⟩ := hl j y v' e1 e2 e3
       refine ⟨u', r', ?_⟩
       rcases q with ⟨k, e⟩ | ⟨k, c, e, z⟩
       . refine .inl ⟨k, ?_⟩
         have : y ≠ x := fun e => hj (lV hN e1 (e ▸ hi))
         simp [this, e]
       . exact .inr ⟨k, c, e, z.sameBut hs (Aq y c e)⟩
   . obtain ⟨w', z⟩ := I.cell y c e
     exact ⟨w', z.sameBut hs (Aq y c e)⟩
   . obtain ⟨e, n, ne, nf, d⟩ := I.pin p hp
     exact ⟨(hs.2 p.1 ne).trans e, n, ne, nf, d⟩
 . have KP : X.fn x = true := by
    rcases hf with z | z
    . exact z
    . rw [z] at hk; cases hk
   obtain ⟨c, hc⟩ := I.ok.has x (.inl hk)
   obtain ⟨w', z⟩ := I.cell x c hc
   refine wpAny_storeName_cell I.ok.kind hk hc z (fun h' kK hs => ?_)
   obtain ⟨oc, M3, Mi⟩ := id z
   refine h { s with heap := h' } ⟨I.ok, I.os, I.bare, ⟨fun b o e n hb hx => ?_, fun b o e n hb hx => ?_, I.base.free, fun b o e hx => ?_, I.base.gb, I.base.fJ, I.base.ib⟩, ⟨m, hn.sameBut hs (Ne.symm (Aq x c hc)), fun j y v' e1 e2 e3 => ?_⟩, fun y c' e => ?_, I.free, I.cE, fun p hp => ?_, tracked ⟨oc, M3, I.cE x c hc⟩ hs, by simpa using I.len⟩ ⟨c, hs, .inr hc⟩
   . exact (hs.2 b (Nat.ne_of_lt (Nat.lt_of_lt_of_le (Heap.lt_size e) (I.ok.za x c KP hc)))).trans (I.base.keep b o e n hb hx)
   . obtain ⟨sl, e1⟩ := I.base.slot b o e n hb hx
     exact ⟨sl, (hs.2 b (Nat.ne_of_lt (Nat.lt_of_lt_of_le (Heap.lt_size e) (I.ok.za x c KP hc)))).trans e1⟩
   . obtain ⟨o', e1⟩ := I.base.there b o e hx
     exact ⟨o', (hs.2 b (Nat.ne_of_lt (Nat.lt_of_lt_of_le (Heap.lt_size e) (I.ok.za x c KP hc)))).trans e1⟩
   . by_cases hj : j = i
     . subst hj
       rw [hi] at e1; cases e1
       rw [List.getElem?_set_self Gv] at e2
       cases e2
       exact ⟨u, r, .inr ⟨.inl hk, c, hc, kK⟩⟩
     . rw [List.getElem?_set_ne (Ne.symm hj)] at e2
       obtain ⟨u', r', q⟩ := hl j y v' e1 e2 e3
       refine ⟨u', r', ?_⟩
       rcases q with q | ⟨k, c', e, z'⟩
       . exact .inl q
       . refine .inr ⟨k, c', e, z'.sameBut hs ?_⟩
         rintro rfl
         exact hj (lV hN e1 (I.ok.inj _ _ _ e hc ▸ hi))
   . by_cases CL : c' = c
     . subst CL; exact ⟨_, kK⟩
     . obtain ⟨w2, z2⟩ := I.cell y c' e
       exact ⟨w2, z2.sameBut hs CL⟩
   . obtain ⟨e, n, ne, nf, d⟩ := I.pin p hp
     refine ⟨(hs.2 p.1 ?_).trans e, n, ne, nf, d⟩
     intro q
     rw [q, M3] at e
     have q' : oc = p.2 := Option.some.inj e
     exact d w' (by rw [<- q']; exact Mi)
theorem mz {M : Model} {A : Around} {E : Value -> Shared -> Prop} {i : Nat} {x : Str} {v : V} {u : Value} {Q : Unit -> Shared -> Prop} (I : Inv X pins σ H s) (hN : X.N.Nodup) (hi : X.N[i]? = some x) (hx : Loc X.env.scope x) (r : RelV v u)
 (h : ∀ s', Inv X pins (σ.set i (some v)) H s' -> Q () s') (hf : X.fn x = true \/ X.env.scope.names.lookup x = some .local := by first | exact .inl rfl | exact .inr rfl | assumption) : wpAny M A (storeName X.env x u) Q E s :=
 uZ I hN hi hx r (fun s' I' _ => h s' I') hf
theorem Inv.wa {s' : Shared} {ch : List Addr} (I : Inv X pins σ H s) (ho : s'.os = s.os) (u : Un (my X.stack) ch H H' s.heap s'.heap) (aF : fW X.prog X.w H' s'.heap) (hg : AllBare s'.gens)
 (zg : ∀ b ∈ ch, (b ∈ X.ex \/ X.cf.heap.objs.size <= b) /\ b ≠ X.env.locals /\ (∀ x c, X.env.cells.lookup x = some c -> c ≠ b) /\ ∀ p ∈ X.pn ++ pins, p.1 ≠ b) : Inv X pins σ H' s' := by
 obtain ⟨h', g', d', t', o'⟩ := s'
 have e : o' = s.os := ho
 subst e
 exact I.call (g' := g') (t' := t') (d' := d') u aF hg zg
end
abbrev XK := Value -> Option Addr -> Hp -> Prop
abbrev St := List (Option V)
abbrev VK := V -> Hp -> Prop
abbrev TE := St -> Hp -> VK -> Prop
abbrev TT := St -> Hp -> (Bool -> Hp -> Prop) -> Prop
abbrev TA := St -> Hp -> (List V -> Hp -> Prop) -> Prop
structure Ends where
 nx : St -> Hp -> Prop
 rt : VK
 bk : St -> Hp -> Prop := fun _ _ => False
 ct : St -> Hp -> Prop := fun _ _ => False
abbrev TS := Ends -> St -> Hp -> Prop
def EP (X : Cx) (pins : List (Addr × Obj)) (σ : St) (Q : VK) (u : Value) (s' : Shared) : Prop := ∃ v H', Inv X pins σ H' s' /\ RelV v u /\ Q v H'
def TP (X : Cx) (pins : List (Addr × Obj)) (σ : St) (Q : Bool -> Hp -> Prop) (b : Bool) (s' : Shared) : Prop := ∃ H', Inv X pins σ H' s' /\ Q b H'
def AP (X : Cx) (pins : List (Addr × Obj)) (σ : St) (Q : List V -> Hp -> Prop) (us : List Value) (s' : Shared) : Prop := ∃ vs H', Inv X pins σ H' s' /\ Vals vs us /\ Q vs H'
def SP (X : Cx) (pins : List (Addr × Obj)) (D : Ends) (f : Flow) (s' : Shared) : Prop :=
 match f with
 | .next => ∃ σ' H', Inv X pins σ' H' s' /\ D.nx σ' H'
 | .brk => ∃ σ' H', Inv X pins σ' H' s' /\ D.bk σ' H'
 | .cont => ∃ σ' H', Inv X pins σ' H' s' /\ D.ct σ' H'
 | .ret u => ∃ v σ' H', Inv X pins σ' H' s' /\ RelV v u /\ D.rt v H'
def PE (X : Cx) (e : Expr) (t : TE) : Prop :=
 ∀ (pins : List (Addr × Obj)) (s : Shared) (σ : St) (H : Hp) (Q : VK), Inv X pins σ H s -> t σ H Q -> wpAny (model X.prog X.w) X.A (eval e X.env) (EP X pins σ Q) X.xe s
def PT (X : Cx) (e : Expr) (t : TT) : Prop :=
 ∀ (pins : List (Addr × Obj)) (s : Shared) (σ : St) (H : Hp) (Q : Bool -> Hp -> Prop), Inv X pins σ H s -> t σ H Q -> wpAny (model X.prog X.w) X.A (isTrue e X.env (eval e X.env)) (TP X pins σ Q) X.xe s
def PW (X : Cx) (e : Expr) (t : TT) : Prop :=
 ∀ (whole : Sem Value) (pins : List (Addr × Obj)) (s : Shared) (σ : St) (H : Hp) (Q : Bool -> Hp -> Prop), Inv X pins σ H s -> t σ H Q -> wpAny (model X.prog X.w) X.A (isTrue e X.env whole) (TP X pins σ Q) X.xe s
theorem PW.pt {X : Cx} {e : Expr} {t : TT} (h : PW X e t) : PT X e t := h _
def PA (X : Cx) (es : List Expr) (t : TA) : Prop :=
 ∀ (pos : Pos) (pins : List (Addr × Obj)) (s : Shared) (σ : St) (H : Hp) (Q : List V -> Hp -> Prop), Inv X pins σ H s -> t σ H Q -> wpAny (model X.prog X.w) X.A (spliced (backTo pos (starEach es X.env))) (AP X pins σ Q) X.xe s
def PS (X : Cx) (st : Stmt) (t : TS) : Prop :=
 ∀ (pins : List (Addr × Obj)) (s : Shared) (σ : St) (H : Hp) (D : Ends), Inv X pins σ H s -> t D σ H -> wpAny (model X.prog X.w) X.A (exec st X.env) (SP X pins D) X.xe s
def nj (X : Cx) (st : List Stmt) (t : TS) : Prop :=
 ∀ (pins : List (Addr × Obj)) (s : Shared) (σ : St) (H : Hp) (D : Ends), Inv X pins σ H s -> t D σ H -> wpAny (model X.prog X.w) X.A (execs st X.env) (SP X pins D) X.xe s
theorem bR {α : Type} {t : Sem α} {Q Q' : α -> Shared -> Prop} {M : Model} {A : Around} {E : Value -> Shared -> Prop} {s : Shared} (h : wpAny M A t Q E s) (hQ : ∀ a s, Q a s -> Q' a s) : wpAny M A t Q' E s := wpAny_mono h hQ fun _ _ x => x
section
variable {X : Cx}
def Dc (i : Nat) : TE := fun σ H Q => ∃ v, σ[i]? = some (some v) /\ Q v H
def tC (v : V) : TE := fun _ H Q => Q v H
theorem Dk {i : Nat} {x : Str} {pos : Pos} (hN : X.N[i]? = some x) (hv : Ex X.env.scope x) (hd : (x == ("__debug__" : Str)) = false := by decide) (kX : (x == ("__classdict__" : Str)) = false := by decide) : PE X (.Name x pos) (Dc i) := by
 intro pins s σ H Q I h
 obtain ⟨v, e, h⟩ := h
 obtain ⟨m, hn, hl⟩ := I.loc
 obtain ⟨u, r, l⟩ := hl i x v hN e hv
 have fin : EP X pins σ Q u s := ⟨v, H, I, r, h⟩
 rcases l with ⟨hk, hm⟩ | ⟨hk, c, hc, nO⟩
 . exact wpAny_Name (wpAny_loadName_local I.ok.kind hk hn hm fin) hd
 . rcases hk with hk | hk
   . exact wpAny_Name (wpAny_loadName_cell I.ok.kind hk hc nO fin) hd
   . exact wpAny_Name (wpAny_loadName_free I.ok.kind hk hc nO fin kX) hd
theorem aB {i j pos} : PE X (.Constant (.int i) j pos) (tC (.int i)) := fun _ _ _ H _ I h => wpAny_Constant_int ⟨.int i, H, I.tok _, ⟨_, rfl⟩, h⟩
theorem gW {b j pos} : PE X (.Constant (.bool b) j pos) (tC (.bl b)) := fun _ _ _ H _ I h => Constant_bool ⟨.bl b, H, I, rfl, h⟩
theorem j7 {j pos} : PE X (.Constant .none j pos) (tC .aP) := fun _ _ _ H _ I h => Constant_none ⟨.aP, H, I, rfl, h⟩
theorem rm {x j pos} : PE X (.Constant (.str x) j pos) (tC (.str x)) := fun _ _ _ H _ I h => Calls.Constant_str ⟨.str x, H, I.tok _, ⟨_, rfl⟩, h⟩
def Gl (X : Cx) (x : Str) : Prop := X.env.kindOf x = some .globalImplicit
theorem iS {E : Value -> Shared -> Prop} {pins : List (Addr × Obj)} {s : Shared} {σ : St} {H : Hp} {x : Str} {u : Value} {pos : Pos} {Q : Value -> Shared -> Prop} (I : Inv X pins σ H s) (hg : Gl X x) (hm : X.mg x = some u) (h : Q u s)
 (hd : (x == ("__debug__" : Str)) = false := by decide) : wpAny (model X.prog X.w) X.A (eval (.Name x pos) X.env) Q E s :=
 Calls.Name_function_global I.ok.kind hg (Calls.loadGlobal_global (by rw [I.ok.glob]; exact I.mod.glob.keeps I.bk) hm h) hd
theorem lU {E : Value -> Shared -> Prop} {pins : List (Addr × Obj)} {s : Shared} {σ : St} {H : Hp} {x : Str} {u : Value} {pos : Pos} {Q : Value -> Shared -> Prop} (I : Inv X pins σ H s) (hg : Gl X x) (hm : X.mg x = none) (hv : bootBuiltins x = some u) (h : Q u s)
 (hn : x ≠ "__name__" := by decide) (hd : (x == ("__debug__" : Str)) = false := by decide) : wpAny (model X.prog X.w) X.A (eval (.Name x pos) X.env) Q E s := by
 obtain ⟨mb, h1, h2⟩ := I.mod.blt
 exact Calls.Name_function_global I.ok.kind hg (Calls.loadGlobal_builtin (by rw [I.ok.glob]; exact I.mod.glob.keeps I.bk) hm (by rw [I.ok.blt]; exact h1.keeps I.bk) ((h2 x hn).trans hv) h) hd
theorem zK {x : Str} {v : V} {u : Value} {pos : Pos} (hg : Gl X x) (hm : X.mg x = some u) (r : RelV v u) (hd : (x == ("__debug__" : Str)) = false := by decide) : PE X (.Name x pos) (tC v) :=
 fun _ _ _ H _ I h => iS I hg hm ⟨v, H, I, r, h⟩ hd
theorem zB {x : Str} {v : V} {u : Value} {pos : Pos} (hg : Gl X x) (hm : X.mg x = none) (hv : bootBuiltins x = some u) (r : RelV v u) (hn : x ≠ "__name__" := by decide) (hd : (x == ("__debug__" : Str)) = false := by decide) : PE X (.Name x pos) (tC v) :=
 fun _ _ _ H _ I h => lU I hg hm hv ⟨v, H, I, r, h⟩ hn hd
variable {a b : Expr} {ta tb : TE} {pos : Pos}
def PC (X : Cx) (op : CmpOp) (a b : Expr) (t : TE) : Prop :=
 ∀ (pins : List (Addr × Obj)) (s : Shared) (σ : St) (H : Hp) (Q : VK), Inv X pins σ H s -> t σ H Q ->
   wpAny (model X.prog X.w) X.A (eval a X.env) (fun v s₁ => wpAny (model X.prog X.w) X.A (eval b X.env) (fun u s₂ => wpAny (model X.prog X.w) X.A (compareOp op v u) (EP X pins σ Q) X.xe s₂) X.xe s₁) X.xe s
def tB (t : TE) : TT := fun σ H Q => t σ H fun x H1 => ∃ c, x = .bl c /\ Q c H1
theorem rX {op : CmpOp} {t : TE} (h : PC X op a b t) (h1 : behindInMarks op b = false := by first | exact xC _ (by decide) (by decide) | rfl) : PE X (.Compare a [op] [b] pos) t := fun pins s σ H Q I hw => wpAny_Compare1 (h pins s σ H Q I hw) h1
theorem rq {op : CmpOp} {t : TE} (h : PC X op a b t) (h1 : behindInMarks op b = false := by first | exact xC _ (by decide) (by decide) | rfl) : PT X (.Compare a [op] [b] pos) (tB t) := by
 intro pins s σ H Q I hw
 refine wpAny_isTrue_Compare1 (bR (h pins s σ H _ I hw) fun v s1 h1 => bR h1 fun u s2 h2 => bR h2 fun c s3 ⟨x, H1, I1, r1, q1⟩ => ?_) h1
 obtain ⟨d, rfl, q⟩ := q1
 cases r1
 exact wpAny_truthy_bool ⟨H1, I1, q⟩
variable {tA Jx : TT} {rest : List Expr}
def Ih (t u : TT) : TT := fun σ H Q => t σ H fun c H1 => if c = true then u σ H1 Q else Q false H1
def OS (t u : TT) : TT := fun σ H Q => t σ H fun c H1 => if c = true then Q true H1 else u σ H1 Q
def GR (t : TT) : TT := fun σ H Q => t σ H fun c H1 => Q (!c) H1
theorem uc (ha : PT X a tA) : PW X (.BoolOp .And [a] pos) tA := by
 intro wh pins s σ H Q I h
 refine isTrue_and (bR (ha pins s σ H Q I h) fun c s1 e => ?_)
 cases c with
 | true => exact isTrue_and_nil e
 | false => exact e
theorem yX (ha : PT X a tA) : PW X (.BoolOp .Or [a] pos) tA := by
 intro wh pins s σ H Q I h
 refine isTrue_or (bR (ha pins s σ H Q I h) fun c s1 e => ?_)
 cases c with
 | false => exact isTrue_or_nil e
 | true => exact e
theorem xQ (ha : PT X a tA) (hb : PW X (.BoolOp .And (b :: rest) pos) Jx) : PW X (.BoolOp .And (a :: b :: rest) pos) (Ih tA Jx) := by
 intro wh pins s σ H Q I h
 refine isTrue_and (bR (ha pins s σ H _ I h) fun c s1 ⟨H1, I1, q1⟩ => ?_)
 cases c with
 | true => exact hb wh pins s1 σ H1 Q I1 q1
 | false => exact ⟨H1, I1, q1⟩
theorem tE (ha : PT X a tA) (hb : PW X (.BoolOp .Or (b :: rest) pos) Jx) : PW X (.BoolOp .Or (a :: b :: rest) pos) (OS tA Jx) := by
 intro wh pins s σ H Q I h
 refine isTrue_or (bR (ha pins s σ H _ I h) fun c s1 ⟨H1, I1, q1⟩ => ?_)
 cases c with
 | true => exact ⟨H1, I1, q1⟩
 | false => exact hb wh pins s1 σ H1 Q I1 q1
theorem pe (ha : PT X a tA) : PT X (.UnaryOp .Not a pos) (GR tA) := by
 intro pins s σ H Q I h
 exact isTrue_not (ha pins s σ H (fun c H1 => Q (!c) H1) I h)
def CJ (ta tb : TE) : TE := fun σ H Q => ta σ H fun x H1 => ∃ c, x = .bl c /\ if c = true then tb σ H1 Q else Q (.bl false) H1
def Cr (ta : TE) : TE := fun σ H Q => ta σ H fun x H1 => ∃ c, x = .bl c /\ Q (.bl (!c)) H1
theorem xu {op} {t : TE} (h : PE X a t) : PE X (.BoolOp op [a] pos) t := fun pins s σ H Q I hw => BoolOp_one (h pins s σ H Q I hw)
theorem rJ (ha : PE X a ta) (hb : PE X (.BoolOp .And (b :: rest) pos) tb) : PE X (.BoolOp .And (a :: b :: rest) pos) (CJ ta tb) := by
 intro pins s σ H Q I h
 refine BoolOp_and (bR (ha pins s σ H _ I h) fun v s1 ⟨x, H1, I1, r1, q1⟩ => ?_)
 obtain ⟨c, rfl, q1⟩ := q1
 cases r1
 refine wpAny_truthy_bool ?_
 cases c with
 | true => exact hb pins s1 σ H1 Q I1 q1
 | false => exact ⟨.bl false, H1, I1, rfl, q1⟩
theorem El (ha : PE X a ta) : PE X (.UnaryOp .Not a pos) (Cr ta) := by
 intro pins s σ H Q I h
 refine UnaryOp_ (bR (ha pins s σ H _ I h) fun v s1 ⟨x, H1, I1, r1, q1⟩ => ?_)
 obtain ⟨c, rfl, q1⟩ := q1
 cases r1
 exact not_of (wpAny_truthy_bool ⟨.bl (!c), H1, I1, rfl, q1⟩)
end
def dY (K : PySem.W.Frag) (H : Hp) (a : Addr) (xs : List V) : Prop :=
 Rd H a (.lst xs) \/
  ∃ (o : Obj) (aY : Array Value) (n : Nat), K.lookup a = some o /\ o.cls = .type "list" /\ o.dict = none /\ o.data = .seq aY n /\ aY.size <= sizeLine /\ Vals xs aY.toList
def r6 (K : PySem.W.Frag) (H : Hp) (a : Addr) (xs : List V) : Prop :=
 Rd H a (.tup xs) \/
  ∃ (o : Obj) (aY : Array Value) (n : Nat), K.lookup a = some o /\ o.cls = .type "tuple" /\ o.data = .seq aY n /\ aY.size <= sizeLine /\ Vals xs aY.toList
def LY : Value -> Option V
 | .none => some .aP
 | .bool b => some (.bl b)
 | .int i _ => some (.int i)
 | .str x _ => some (.str x)
 | .bytes b _ => some (.uH b)
 | .float b _ => some (.D6 b)
 | .ref a => some (.ref a)
 | .type n => some (.ty n)
 | _ => none
theorem RelV.abs {x : V} {u : Value} (r : RelV x u) : LY u = some x := by
 cases x with
 | aP => cases r; rfl
 | bl _ => cases r; rfl
 | int _ => obtain ⟨t, rfl⟩ := r; rfl
 | str _ => obtain ⟨t, rfl⟩ := r; rfl
 | uH _ => obtain ⟨t, rfl⟩ := r; rfl
 | D6 _ => obtain ⟨t, rfl⟩ := r; rfl
 | ref _ => cases r; rfl
 | ty _ => cases r; rfl
theorem RelV.inj {x y : V} {u : Value} (r : RelV x u) (q : RelV y u) : x = y := Option.some.inj (r.abs.symm.trans q.abs)
theorem Vals.inj : ∀ {xs ys : List V} {us : List Value}, Vals xs us -> Vals ys us -> xs = ys
 | _, _, _, .nil, .nil => rfl
 | _, _, _, .cons r t, .cons r' t' => by rw [r.inj r', Vals.inj t t']
section
variable {X : Cx} {pins : List (Addr × Obj)} {σ : St} {H : Hp} {s : Shared} {a : Addr} {xs ys : List V}
theorem dY.of {K : PySem.W.Frag} (h : H a = some (.lst xs)) : dY K H a xs := .inl (.inl h)
theorem r6.of {K : PySem.W.Frag} (h : H a = some (.tup xs)) : r6 K H a xs := .inl (.inl h)
theorem Inv.list (I : Inv X pins σ H s) (h : dY X.K H a xs) : ∃ aY : List Value, Vals xs aY /\ PlainL s.heap a aY.toArray /\ xs.length <= sizeLine := by
 rcases h with h | ⟨o, aY, n, hk, hc, hd, hs, hz, r⟩
 . obtain ⟨z, aY, n, r, e⟩ := h.ok I.aF
   exact ⟨aY, r, ⟨_, n, e, rfl, rfl, rfl⟩, z⟩
 . refine ⟨aY.toList, r, ⟨o, n, I.fL a o hk, hc, hd, by simpa using hs⟩, ?_⟩
   have e := r.length
   simp only [Array.length_toList] at e
   omega
theorem Inv.tuple (I : Inv X pins σ H s) (h : r6 X.K H a xs) : ∃ aY : List Value, Vals xs aY /\ IsTup s.heap a aY.toArray /\ xs.length <= sizeLine := by
 rcases h with h | ⟨o, aY, n, hk, hc, hs, hz, r⟩
 . obtain ⟨z, aY, r, p⟩ := h.ok I.aF
   exact ⟨aY, r, p, z⟩
 . refine ⟨aY.toList, r, ⟨o, I.fL a o hk, hc, n, by simpa using hs⟩, ?_⟩
   have e := r.length
   simp only [Array.length_toList] at e
   omega
theorem Inv.pL (I : Inv X pins σ H s) (h : dY X.K H a xs) (h' : dY X.K H a ys) : xs = ys := by
 obtain ⟨aY, r, ⟨o, n, e, _, _, d⟩, _⟩ := I.list h
 obtain ⟨its', r', ⟨o', n', e', _, _, d'⟩, _⟩ := I.list h'
 rw [e] at e'; cases e'
 rw [d] at d'
 injection d' with d1 _
 have : aY = its' := by simpa using congrArg Array.toList d1
 subst this
 exact r.inj r'
end
abbrev Cx.lE (X : Cx) (E : Value -> Shared -> Prop) : Cx := { X with xe := E }
abbrev Cx.y3 (X : Cx) : Cx := X.lE fun _ _ => False
theorem Cx.Ok.lE {X : Cx} (ok : X.Ok) (E : Value -> Shared -> Prop) : (X.lE E).Ok :=
 ⟨ok.mod, ok.kind, ok.glob, ok.blt, ok.above, ok.inj, ok.has, ok.za, ok.hd, ok.frames, ok.Ba, ok.Br, ok.bs, ok.pA, ok.mY, ok.nq, ok.fX, ok.sf⟩
theorem Cx.Ok.gG {X : Cx} {E : Value -> Shared -> Prop} (ok : (X.lE E).Ok) : X.Ok :=
 ⟨ok.mod, ok.kind, ok.glob, ok.blt, ok.above, ok.inj, ok.has, ok.za, ok.hd, ok.frames, ok.Ba, ok.Br, ok.bs, ok.pA, ok.mY, ok.nq, ok.fX, ok.sf⟩
section
variable {X : Cx} {pins : List (Addr × Obj)} {σ : St} {H : Hp} {s : Shared} {E : Value -> Shared -> Prop}
theorem Inv.lE (I : Inv X pins σ H s) (E : Value -> Shared -> Prop) : Inv (X.lE E) pins σ H s := ⟨I.ok.lE E, I.os, I.bare, I.base, I.loc, I.cell, I.free, I.cE, I.pin, I.aF, I.len⟩
theorem Inv.gG (I : Inv (X.lE E) pins σ H s) : Inv X pins σ H s := ⟨I.ok.gG, I.os, I.bare, I.base, I.loc, I.cell, I.free, I.cE, I.pin, I.aF, I.len⟩
theorem SP.gG {D : Ends} {f : Flow} {s' : Shared} (h : SP (X.lE E) pins D f s') : SP X pins D f s' := by
 cases f with
 | next => obtain ⟨σ', H', I, q⟩ := h; exact ⟨σ', H', I.gG, q⟩
 | brk => obtain ⟨σ', H', I, q⟩ := h; exact ⟨σ', H', I.gG, q⟩
 | cont => obtain ⟨σ', H', I, q⟩ := h; exact ⟨σ', H', I.gG, q⟩
 | ret u => obtain ⟨v, σ', H', I, r, q⟩ := h; exact ⟨v, σ', H', I.gG, r, q⟩
theorem nj.y3 {st : List Stmt} {t : TS} (h : nj X.y3 st t) : nj X st t := fun pins s σ H D I hw =>
 wpAny_mono (h pins s σ H D (I.lE _) hw) (fun _ _ q => q.gG) fun _ _ z => False.elim z
end
section
variable {X : Cx} {st : Stmt} {rest : List Stmt} {t u : TS} {e : Expr} {te : TE} {pos : Pos}
def CA : TS := fun D σ H => D.nx σ H
theorem aZ : nj X [] CA := fun _ _ σ H _ I h => wpAny_execs_nil ⟨σ, H, I, h⟩
theorem aw (h1 : PS X st t) : nj X [st] t := by
 intro pins s σ H D I h
 refine wpAny_execs_cons (bR (h1 pins s σ H D I h) fun f s1 q => ?_)
 cases f with
 | next => exact wpAny_execs_nil q
 | ret v => exact q
 | brk => exact q
 | cont => exact q
theorem Inv.quiet {pins : List (Addr × Obj)} {σ : St} {H : Hp} {s : Shared} (I : Inv X pins σ H s) : interactive X.env = false := by simp [interactive, I.ok.kind]
def Cu (te : TE) : TS := fun D σ H => te σ H fun _ H1 => D.nx σ H1
theorem bo (he : PE X e te) (hs : swapsWith e none pos.line X.env = pure false := by rfl) : PS X (.Expr e pos) (Cu te) := by
 intro pins s σ H D I h
 exact wpAny_Expr_any (bR (he pins s σ H _ I h) fun v s1 ⟨x, H1, I1, r1, q1⟩ => ⟨σ, H1, I1, q1⟩) I.quiet hs
def IE (te : TE) : TS := fun D σ H => te σ H D.rt
theorem bh (he : PE X e te) : PS X (.Return (some e) pos) (IE te) := by
 intro pins s σ H D I h
 exact wpAny_Return_some (bR (he pins s σ H _ I h) fun v s1 ⟨x, H1, I1, r1, q1⟩ => ⟨x, σ, H1, I1, r1, q1⟩)
def Hj (c : TT) (t u : TS) : TS := fun D σ H => c σ H fun b H1 => if b = true then t D σ H1 else u D σ H1
theorem cR {c : Expr} {a b : List Stmt} {tc : TT} (hc : PT X c tc) (ha : nj X a t) (hb : nj X b u) : PS X (.If c a b pos) (Hj tc t u) := by
 intro pins s σ H D I h
 refine wpAny_If (bR (hc pins s σ H _ I h) fun d s1 ⟨H1, I1, q1⟩ => ?_)
 cases d with
 | true => exact ha pins s1 σ H1 D I1 q1
 | false => exact hb pins s1 σ H1 D I1 q1
end
abbrev TG := V -> St -> Hp -> (St -> Hp -> Prop) -> Prop
abbrev wL := List V -> St -> Hp -> (St -> Hp -> Prop) -> Prop
def PG (X : Cx) (target : Expr) (t : TG) : Prop :=
 ∀ (pins : List (Addr × Obj)) (s : Shared) (σ : St) (H : Hp) (v : V) (u : Value) (Q : St -> Hp -> Prop), Inv X pins σ H s -> RelV v u -> t v σ H Q ->
   wpAny (model X.prog X.w) X.A (assign target X.env u) (fun _ s' => ∃ σ' H', Inv X pins σ' H' s' /\ Q σ' H') X.xe s
def He (X : Cx) (ts : List Expr) (t : wL) : Prop :=
 ∀ (pins : List (Addr × Obj)) (s : Shared) (σ : St) (H : Hp) (vs : List V) (us : List Value) (Q : St -> Hp -> Prop), Inv X pins σ H s -> Vals vs us -> t vs σ H Q ->
   wpAny (model X.prog X.w) X.A (assignInOrder ((assignEach ts X.env).map (·.2)) us) (fun _ s' => ∃ σ' H', Inv X pins σ' H' s' /\ Q σ' H') X.xe s
section
variable {X : Cx} {pos : Pos}
def kM (i : Nat) : TG := fun v σ H Q => Q (σ.set i (some v)) H
theorem cU {i : Nat} {x : Str} (hN : X.N.Nodup) (hi : X.N[i]? = some x) (hx : Loc X.env.scope x) (hf : X.fn x = true \/ X.env.scope.names.lookup x = some .local := by first | exact .inl rfl | exact .inr rfl | assumption) : PG X (.Name x pos) (kM i) := by
 intro pins s σ H v u Q I r h
 exact wpAny_assign_Name (mz I hN hi hx r (fun s' I' => ⟨_, H, I', h⟩) hf)
def Fe : wL := fun vs σ H Q => vs = [] /\ Q σ H
def t9 (t : TG) (u : wL) : wL := fun vs σ H Q => ∃ v r, vs = v :: r /\ t v σ H fun σ' H' => u r σ' H' Q
theorem oX : He X [] Fe := by
 intro pins s σ H vs us Q I r h
 obtain ⟨e, h⟩ := h
 subst e
 cases r
 exact assignInOrder_nil ⟨σ, H, I, h⟩
theorem fR {e : Expr} {es : List Expr} {t : TG} {u : wL} (h1 : PG X e t) (h2 : He X es u)
 (hs : (assignEach (e :: es) X.env).map (·.2) = assign e X.env :: (assignEach es X.env).map (·.2) := by rfl) : He X (e :: es) (t9 t u) := by
 intro pins s σ H vs us Q I r h
 obtain ⟨v, vr, e1, h⟩ := h
 subst e1
 cases r with
 | cons r rr =>
   rw [hs]
   refine assignInOrder_cons (bR (h1 pins s σ H _ _ _ I r h) fun _ s1 ⟨σ1, H1, I1, q1⟩ => ?_)
   exact h2 pins s1 σ1 H1 _ _ Q I1 rr q1
def zZ (K : PySem.W.Frag) (n : Nat) (t : wL) : TG := fun v σ H Q => ∃ a xs, v = .ref a /\ r6 K H a xs /\ xs.length = n /\ t xs σ H Q
theorem ri {es : List Expr} {k : Nat} {t : wL} {n : Nat} (hc : X.calm = true) (h : He X es t)
 (hn : (assignEach es X.env).length = n := by rfl) (kN : (assignEach es X.env).findIdx? (·.1) = none := by rfl) : PG X (.Tuple es k pos) (zZ X.K n t) := by
 intro pins s σ H v u Q I r hw
 obtain ⟨a, xs, e1, hq, hl, hw⟩ := hw
 subst e1
 cases r
 obtain ⟨aY, rv, ht, hz⟩ := I.tuple hq
 refine assign_Tuple_tuple (I.ok.hd hc) ht (by simp [hn, <- hl, rv.length]) kN fun h' hx => ?_
 have I1 : Inv X pins σ H { s with heap := h' } := I.kept (t' := s.toks) fun b o e => hx b o (Nat.ne_of_lt (Heap.lt_size e)) e
 exact h pins _ σ H xs _ Q I1 (by simpa using rv) hw
def Hs (te : TE) (g : TG) : TS := fun D σ H => te σ H fun x H1 => g x σ H1 D.nx
theorem bq {i : Nat} {x : Str} {e : Expr} {te : TE} {pos' : Pos} (hN : X.N.Nodup) (hi : X.N[i]? = some x) (hx : Loc X.env.scope x) (he : PE X e te) (hs : swapsWith e (some (.Name x pos')) pos.line X.env = pure false := by rfl) (hf : X.fn x = true \/ X.env.scope.names.lookup x = some .local := by first | exact .inl rfl | exact .inr rfl | assumption) :
 PS X (.Assign [.Name x pos'] e pos) (Hs te (kM i)) := by
 intro pins s σ H D I h
 refine wpAny_Assign_Name (bR (he pins s σ H _ I h) fun v s1 ⟨y, H1, I1, r1, q1⟩ => ?_) hs
 exact mz I1 hN hi hx r1 (fun s2 I2 => ⟨_, H1, I2, q1⟩) hf
end
section
variable {X : Cx} {pos : Pos}
def xJ (c : TT) (tb : TS) : TS := fun D σ H => ∃ W : Nat -> St -> Hp -> Prop, (∃ m, W m σ H) /\ ∀ m σ H, W m σ H ->
 c σ H fun b H1 => if b = true then ∃ N : St -> Hp -> Prop, (∀ σ' H', N σ' H' -> ∃ m', m' < m /\ W m' σ' H') /\ tb { D with nx := N, ct := N, bk := D.nx } σ H1 else D.nx σ H1
theorem yW {c : Expr} {body : List Stmt} {tc : TT} {tb : TS} (hp : PassesOwn (model X.prog X.w) X.A X.env X.xe) (hc : PT X c tc) (hb : nj X body tb) : PS X (.While c body [] pos) (xJ tc tb) := by
 intro pins s σ H D I h
 obtain ⟨W, ⟨m0, w0⟩, turn⟩ := h
 refine wpAny_While (codeAny_whileLoop (fun n s' => ∃ σ' H', Inv X pins σ' H' s' /\ W n σ' H') ?_ m0 ⟨σ, H, I, w0⟩)
 rintro n s1 ⟨σ1, H1, I1, w1⟩
 refine wpAny_passesOwn hp (bR (hc pins s1 σ1 H1 _ I1 (turn n σ1 H1 w1)) fun b s2 ⟨H2, I2, q2⟩ => ?_)
 cases b with
 | true =>
   obtain ⟨N, hN, q2⟩ := q2
   rw [if_pos rfl]
   refine wpAny_passesOwn hp (bR (hb pins s2 σ1 H2 _ I2 q2) fun f s3 q3 => ?_)
   cases f with
   | next =>
     obtain ⟨σ3, H3, I3, n3⟩ := q3
     obtain ⟨m', hm, w3⟩ := hN σ3 H3 n3
     exact ⟨m', hm, σ3, H3, I3, w3⟩
   | cont =>
     obtain ⟨σ3, H3, I3, n3⟩ := q3
     obtain ⟨m', hm, w3⟩ := hN σ3 H3 n3
     exact ⟨m', hm, σ3, H3, I3, w3⟩
   | brk => exact q3
   | ret v => exact q3
 | false =>
   rw [if_neg Bool.false_ne_true]
   exact wpAny_execs_nil ⟨σ1, H2, I2, q2⟩
end
structure It where
 go : Nat -> Hp -> Prop
 F2 : Nat -> Hp -> V -> Hp -> Prop
 stop : Nat -> Hp -> Prop
def dU (X : Cx) (pins : List (Addr × Obj)) (H : Hp) (b : Addr) : Prop :=
 H b = none /\ b ≠ X.env.locals /\ b ∉ X.fs /\ (b ∈ X.ex \/ X.cf.heap.objs.size <= b) /\ (∀ x c, X.env.cells.lookup x = some c -> c ≠ b) /\ ∀ p ∈ X.pn ++ pins, p.1 ≠ b
theorem Inv.p8 {X : Cx} {pins : List (Addr × Obj)} {σ : St} {H H' : Hp} {s : Shared} {b : Addr} (I : Inv X pins σ H s) (hb : s.heap.objs.size <= b) (hn : H' b = none) : dU X pins H' b := by
 refine ⟨hn, Nat.ne_of_gt (Nat.lt_of_lt_of_le I.lt hb), I.HW hb, .inr (Nat.le_trans I.sz hb), fun x c e z => ?_, fun p hp z => ?_⟩
 . obtain ⟨v, q⟩ := I.cell x c e
   exact absurd (Nat.lt_of_lt_of_le q.lt (by rw [z]; exact hb)) (Nat.lt_irrefl _)
 . exact absurd (Nat.lt_of_lt_of_le (Heap.lt_size (I.pin p hp).1) (by rw [z]; exact hb)) (Nat.lt_irrefl _)
structure Turn (P : Program) (w : World) (K : PySem.W.Frag) (tg : Expr) (J : It) (fp : List Addr) (it : Addr) (tn : Nat -> Heap -> Prop) : Prop where
 mem : it ∈ fp
 obj : ∀ i h, tn i h -> ∀ b ∈ fp, ∃ o, h.get? b = some o /\ ∀ v, o.data ≠ .cell v
 keep : ∀ i h h', tn i h -> (∀ b ∈ fp, ∀ o, h.get? b = some o -> h'.get? b = some o) -> tn i h'
 item : ∀ (X : Cx), X.prog = P -> X.w = w -> X.K = K -> X.calm = true -> ∀ (i : Nat) (pins : List (Addr × Obj)) (s : Shared) (σ : St) (H : Hp) (E : Value -> Shared -> Prop), Inv X pins σ H s -> (∀ b ∈ fp, dU X pins H b) -> tn i s.heap -> J.go i H ->
  wpAny (model P w) X.A (pyNext (.ref it)) (fun r s1 => ∃ u, r = some u /\
   wpAny (model P w) X.A (letOwnedTupleGo tg (.ref it) u) (fun _ s2 => ∃ x H', Inv X pins σ H' s2 /\ RelV x u /\ J.F2 i H x H' /\ tn (i + 1) s2.heap /\ ∀ b ∈ fp, H' b = none) E s1) E s
 done : ∀ (X : Cx), X.prog = P -> X.w = w -> X.K = K -> X.calm = true -> ∀ (i : Nat) (pins : List (Addr × Obj)) (s : Shared) (σ : St) (H : Hp) (E : Value -> Shared -> Prop), Inv X pins σ H s -> (∀ b ∈ fp, dU X pins H b) -> tn i s.heap -> J.stop i H ->
  wpAny (model P w) X.A (pyNext (.ref it)) (fun r s1 => r = none /\ Inv X pins σ H s1) E s
 self : ∀ (A : Around) (i : Nat) (s : Shared) (Q : Value -> Shared -> Prop) (E : Value -> Shared -> Prop), tn i s.heap -> Q (.ref it) s -> wpAny (model P w) A (pyIter (.ref it)) Q E s
abbrev TI := St -> Hp -> (It -> Hp -> Prop) -> Prop
def RN (X : Cx) (pins : List (Addr × Obj)) (σ : St) (tg : Expr) (R : It -> Hp -> Prop) (KH : Value) (s2 : Shared) : Prop :=
 ∃ (it : Addr) (fp : List Addr) (tn : Nat -> Heap -> Prop) (J : It) (H' : Hp), KH = .ref it /\ Inv X pins σ H' s2 /\ Turn X.prog X.w X.K tg J fp it tn /\ tn 0 s2.heap /\ (∀ b ∈ fp, dU X pins H' b) /\ R J H'
def PI (X : Cx) (tg iter : Expr) (wi : TI) : Prop :=
 ∀ (pins : List (Addr × Obj)) (s : Shared) (σ : St) (H : Hp) (R : It -> Hp -> Prop), Inv X pins σ H s -> wi σ H R ->
   wpAny (model X.prog X.w) X.A (eval iter X.env) (fun v s1 => wpAny (model X.prog X.w) X.A (pyIter v) (RN X pins σ tg R) X.xe s1) X.xe s
theorem B2 {M : Model} {A : Around} {E : Value -> Shared -> Prop} {s : Shared} {tg : Expr} {it : Addr} {u : Value} {o : Obj} {n : String} {vs : Array Value} {Q : Unit -> Shared -> Prop} (ho : s.heap.get? it = some o) (hc : o.cls = .type n) (hd : o.data = .fields vs)
 (hn : ["enumerate", "zip", "dict_itemiterator", "dict_reverseitemiterator", "odict_iterator", "itertools.zip_longest", "itertools.pairwise"].contains n = false) (hQ : Q () s) : wpAny M A (letOwnedTupleGo tg (.ref it) u) Q E s := by
 unfold letOwnedTupleGo
 cases tg <;> first
  | exact wpAny_pure hQ
  | (cases u <;> first
   | exact wpAny_pure hQ
   | (refine wpAny_bind (wpAny_load ho ?_)
      rw [hc, hd]
      show wpAny M A (if (["enumerate", "zip", "dict_itemiterator", "dict_reverseitemiterator", "odict_iterator", "itertools.zip_longest", "itertools.pairwise"].contains n && vs[0]? == some (rawInt _)) = true then _ else _) Q E s
      rw [if_neg (by intro h; rw [hn, Bool.false_and] at h; cases h)]
      exact wpAny_pure hQ))
def zb (K : PySem.W.Frag) (a : Addr) : It :=
 ⟨fun i H => ∃ xs x, dY K H a xs /\ xs[i]? = some x, fun i H x H' => H' = H /\ ∀ xs, dY K H a xs -> xs[i]? = some x, fun i H => ∃ xs, dY K H a xs /\ xs.length <= i⟩
theorem uL {P : Program} {w : World} {K : PySem.W.Frag} {tg : Expr} (a it : Addr) : Turn P w K tg (zb K a) [it] it (fun i h => h.IsListIter it a i) where
 mem := by simp
 obj := fun i h st b hb => by
  have e : b = it := by simpa using hb
  subst e
  obtain ⟨o, e, c, d⟩ := st
  exact ⟨o, e, fun v z => by rw [d] at z; cases z⟩
 keep := fun i h h' st k => st.at fun o e => k it (by simp) o e
 item := by
  intro X hP hw hK hc i pins s σ H E I hf st hg
  subst hP hw hK
  obtain ⟨xs, x, hq, hx⟩ := hg
  obtain ⟨aY, rv, p, hz⟩ := I.list hq
  obtain ⟨u, hu, ru⟩ := rv.get hx
  obtain ⟨f0, f1, f2, f3, f4, f5⟩ := hf it (by simp)
  refine wpAny_pyNext_list_item st p.isList (x := u) (by simpa using hu) fun h' vS sb => ?_
  have I1 : Inv X pins σ H { s with heap := h' } := I.turned (t' := s.toks) (fun b o hb e => (sb.2 b hb).trans e) f0 f1 f3 f4 f5
  obtain ⟨o, e, c, d⟩ := id vS
  exact ⟨u, rfl, B2 (s := { s with heap := h' }) e c d (by decide) ⟨x, H, I1, ru, ⟨rfl, fun ys hy => by rw [I.pL hy hq]; exact hx⟩, vS, fun b hb => (hf b hb).1⟩⟩
 done := by
  intro X hP hw hK hc i pins s σ H E I hf st hg
  subst hP hw hK
  obtain ⟨xs, hq, hx⟩ := hg
  obtain ⟨aY, rv, p, hz⟩ := I.list hq
  obtain ⟨f0, f1, f2, f3, f4, f5⟩ := hf it (by simp)
  have hl := rv.length
  exact wpAny_pyNext_list_end (I.ok.hd hc) st p.isList (by simp; omega) fun h' eb => ⟨rfl, I.turned (t' := s.toks) (fun b o hb e => eb b o hb e) f0 f1 f3 f4 f5⟩
 self := fun _ _ _ _ _ st h => wpAny_pyIter_listiter st h
section
variable {X : Cx} {tg : Expr}
def yj (K : PySem.W.Frag) (tl : TE) : TI := fun σ H R => tl σ H fun x H1 => ∃ a, x = .ref a /\ (∃ xs, dY K H1 a xs) /\ R (zb K a) H1
theorem jz {l : Expr} {tl : TE} (hl : PE X l tl) : PI X tg l (yj X.K tl) := by
 intro pins s σ H R I h
 refine bR (hl pins s σ H _ I h) fun v s1 ⟨x, H1, I1, r1, q1⟩ => ?_
 obtain ⟨a, e, ⟨xs, hq⟩, q⟩ := q1
 subst e
 cases r1
 obtain ⟨aY, rv, p, hz⟩ := I1.list hq
 refine wpAny_pyIter_list p.isList ?_
 refine ⟨s1.heap.objs.size, [s1.heap.objs.size], _, _, H1, rfl, I1.kept (t' := s1.toks) fun b o e => Heap.get?_push_of_some _ e, uL a _, ⟨_, Heap.get?_push_size _ rfl, rfl, rfl⟩, fun b hb => ?_, q⟩
 have e : b = s1.heap.objs.size := by simpa using hb
 subst e
 exact I1.p8 (Nat.le_refl _) (I1.aF.fresh (Nat.le_refl _))
def Ak (wi : TI) (g : TG) (tb : TS) : TS := fun D σ H => wi σ H fun J H1 => ∃ W : Nat -> Nat -> St -> Hp -> Prop, (∃ m, W 0 m σ H1) /\ ∀ i m σ H, W i m σ H ->
 (J.stop i H /\ D.nx σ H) \/ (J.go i H /\ ∃ N : St -> Hp -> Prop, (∀ σ' H', N σ' H' -> ∃ m', m' < m /\ W (i + 1) m' σ' H') /\ ∀ x H', J.F2 i H x H' -> g x σ H' fun σ2 H2 => tb { D with nx := N, ct := N, bk := D.nx } σ2 H2)
def mj (fp : List Addr) (h : Heap) : List (Addr × Obj) := fp.filterMap fun b => (h.get? b).map fun o => (b, o)
theorem gM {fp : List Addr} {h : Heap} {b : Addr} {o : Obj} (hb : b ∈ fp) (e : h.get? b = some o) : (b, o) ∈ mj fp h := List.mem_filterMap.mpr ⟨b, hb, by rw [e]; rfl⟩
theorem vw {fp : List Addr} {h : Heap} {p : Addr × Obj} (hp : p ∈ mj fp h) : p.1 ∈ fp /\ h.get? p.1 = some p.2 := by
 obtain ⟨b, hb, e⟩ := List.mem_filterMap.mp hp
 cases q : h.get? b with
 | none => rw [q] at e; cases e
 | some o =>
   rw [q] at e
   have e' : (b, o) = p := Option.some.inj e
   subst e'
   exact ⟨hb, q⟩
theorem Inv.pinned {pins : List (Addr × Obj)} {σ : St} {H : Hp} {s : Shared} {fp : List Addr} (I : Inv X pins σ H s) (hf : ∀ b ∈ fp, dU X pins H b) (ho : ∀ b ∈ fp, ∃ o, s.heap.get? b = some o /\ ∀ v, o.data ≠ .cell v) : Inv X (pins ++ mj fp s.heap) σ H s :=
 I.gv fun p hp => (List.mem_append.mp hp).elim (fun z => I.pin p (List.mem_append_right _ z)) fun z => by
  obtain ⟨hb, e⟩ := vw z
  obtain ⟨f0, f1, f2, _⟩ := hf p.1 hb
  obtain ⟨o, e', d⟩ := ho p.1 hb
  rw [e] at e'; cases e'
  exact ⟨e, f0, f1, f2, d⟩
theorem Inv.iC {pins pl : List (Addr × Obj)} {σ : St} {H : Hp} {s : Shared} (I : Inv X (pins ++ pl) σ H s) : Inv X pins σ H s := I.gv fun p hp => I.pin p (List.mem_append_right _ (List.mem_append_left _ hp))
theorem lI {iter : Expr} {body : List Stmt} {wi : TI} {g : TG} {tb : TS} {pos : Pos} (hp : PassesOwn (model X.prog X.w) X.A X.env X.xe) (hc : X.calm = true) (hi : PI X tg iter wi) (hg : PG X tg g) (hb : nj X body tb)
 (hs : ∀ x, foldedSetIterable iter X.env x = pure x := by intro _; rfl) : PS X (.For tg iter body [] pos) (Ak wi g tb) := by
 intro pins s σ H D I h
 refine wpAny_For (bR (hi pins s σ H _ I h) fun v s1 h1 => bR h1 fun KH s2 h2 => ?_) hs
 obtain ⟨it, fp, tn, J, H2, e, I2, T, QY, f2, W, ⟨m0, w0⟩, turn⟩ := h2
 subst e
 have stat : ∀ {H' : Hp}, (∀ b ∈ fp, H' b = none) -> ∀ b ∈ fp, dU X pins H' b := fun hn b hb => ⟨hn b hb, (f2 b hb).2⟩
 refine codeAny_forLoop_any (fun n s' => ∃ i σ' H', Inv X pins σ' H' s' /\ tn i s'.heap /\ (∀ b ∈ fp, H' b = none) /\ W i n σ' H') ?_ m0 ⟨0, σ, H2, I2, QY, fun b hb => (f2 b hb).1, w0⟩
 rintro n s3 ⟨i, σ3, H3, I3, Iz, IG, w3⟩
 rcases turn i n σ3 H3 w3 with ⟨stop, qn⟩ | ⟨go, N, hN, step⟩
 . refine wpAny_passesOwn hp (bR (T.done X rfl rfl rfl hc i pins s3 σ3 H3 X.xe I3 (stat IG) Iz stop) fun r s4 ⟨hr, I4⟩ => ?_)
   subst hr
   exact wpAny_execs_nil ⟨σ3, H3, I4, qn⟩
 . refine wpAny_passesOwn hp (bR (T.item X rfl rfl rfl hc i pins s3 σ3 H3 X.xe I3 (stat IG) Iz go) fun r s4 ⟨u, hr, h4⟩ => ?_)
   subst hr
   refine wpAny_passesOwn hp (bR h4 fun _ s5 ⟨x, H5, I5, r5, y5, DP, MC⟩ => ?_)
   have Kp := I5.pinned (stat MC) (T.obj _ _ DP)
   refine wpAny_passesOwn hp (bR (hg _ s5 σ3 H5 x u _ Kp r5 (step x H5 y5)) fun _ s6 ⟨σ6, H6, I6, q6⟩ => ?_)
   refine wpAny_passesOwn hp (bR (hb _ s6 σ6 H6 _ I6 q6) fun f s7 q7 => ?_)
   have again : ∀ {σ7 : St} {H7 : Hp}, Inv X (pins ++ mj fp s5.heap) σ7 H7 s7 -> N σ7 H7 -> ∃ m, m < n /\ ∃ i σ' H', Inv X pins σ' H' s7 /\ tn i s7.heap /\ (∀ b ∈ fp, H' b = none) /\ W i m σ' H' := fun {σ7 H7} I7 n7 => by
    obtain ⟨m', hm, w7⟩ := hN σ7 H7 n7
    refine ⟨m', hm, i + 1, σ7, H7, I7.iC, T.keep _ _ _ DP fun b hb o e => (I7.pin (b, o) (List.mem_append_right _ (List.mem_append_right _ (gM hb e)))).1, fun b hb => ?_, w7⟩
    obtain ⟨o, e, d⟩ := T.obj _ _ DP b hb
    exact (I7.pin (b, o) (List.mem_append_right _ (List.mem_append_right _ (gM hb e)))).2.1
   cases f with
   | next => obtain ⟨σ7, H7, I7, n7⟩ := q7; exact again I7 n7
   | cont => obtain ⟨σ7, H7, I7, n7⟩ := q7; exact again I7 n7
   | brk => obtain ⟨σ7, H7, I7, q7⟩ := q7; exact ⟨σ7, H7, I7.iC, q7⟩
   | ret v => obtain ⟨x7, σ7, H7, I7, r7, q7⟩ := q7; exact ⟨x7, σ7, H7, I7.iC, r7, q7⟩
end
theorem wd {K : PySem.W.Frag} {a : Addr} {xs : List V} {g : TG} {tb : TS} {D : Ends} {σ : St} {H : Hp} (Pv : Nat -> St -> Hp -> Prop) (h0 : Pv 0 σ H) (hl : ∀ i σ H, i <= xs.length -> Pv i σ H -> dY K H a xs)
 (hs : ∀ i x σ H, xs[i]? = some x -> Pv i σ H -> g x σ H fun σ2 H2 => tb { D with nx := Pv (i + 1), ct := Pv (i + 1), bk := D.nx } σ2 H2) (hd : ∀ σ H, Pv xs.length σ H -> D.nx σ H) :
 ∃ W : Nat -> Nat -> St -> Hp -> Prop, (∃ m, W 0 m σ H) /\ ∀ i m σ H, W i m σ H ->
   ((zb K a).stop i H /\ D.nx σ H) \/ ((zb K a).go i H /\ ∃ N : St -> Hp -> Prop, (∀ σ' H', N σ' H' -> ∃ m', m' < m /\ W (i + 1) m' σ' H') /\ ∀ x H', (zb K a).F2 i H x H' -> g x σ H' fun σ2 H2 => tb { D with nx := N, ct := N, bk := D.nx } σ2 H2) := by
 refine ⟨fun i m σ H => m = xs.length - i /\ i <= xs.length /\ Pv i σ H, ⟨xs.length, by simp, Nat.zero_le _, h0⟩, ?_⟩
 rintro i m σ H ⟨rfl, hi, p⟩
 have q := hl i σ H hi p
 by_cases jZ : i < xs.length
 . refine .inr ⟨⟨xs, xs[i], q, by simp [jZ]⟩, Pv (i + 1), fun σ' H' p' => ⟨xs.length - (i + 1), by omega, rfl, jZ, p'⟩, fun x H' y => ?_⟩
   obtain ⟨e, y⟩ := y
   subst e
   exact hs i x σ _ (y xs q) p
 . have e : i = xs.length := by omega
   subst e
   exact .inl ⟨⟨xs, q, Nat.le_refl _⟩, hd σ H p⟩
abbrev R2 := V -> V -> Hp -> VK -> Prop
def jk (X : Cx) (f : Value -> Value -> Sem Value) (r : R2) : Prop :=
 ∀ (pins : List (Addr × Obj)) (s : Shared) (σ : St) (H : Hp) (x y : V) (v u : Value) (Q : VK), Inv X pins σ H s -> RelV x v -> RelV y u -> r x y H Q ->
   wpAny (model X.prog X.w) X.A (f v u) (EP X pins σ Q) X.xe s
def LR (X : Cx) (f : Value -> Sem Value) (r : V -> Hp -> VK -> Prop) : Prop :=
 ∀ (pins : List (Addr × Obj)) (s : Shared) (σ : St) (H : Hp) (x : V) (v : Value) (Q : VK), Inv X pins σ H s -> RelV x v -> r x H Q ->
   wpAny (model X.prog X.w) X.A (f v) (EP X pins σ Q) X.xe s
def ie (X : Cx) (f : Value) (r : List V -> Hp -> VK -> Prop) : Prop :=
 ∀ (pins : List (Addr × Obj)) (s : Shared) (σ : St) (H : Hp) (xs : List V) (us : List Value) (Q : VK), Inv X pins σ H s -> Vals xs us -> r xs H Q ->
   wpAny (model X.prog X.w) X.A (call f us) (EP X pins σ Q) X.xe s
def K0 (X : Cx) (r : V -> Hp -> (Bool -> Hp -> Prop) -> Prop) : Prop :=
 ∀ (pins : List (Addr × Obj)) (s : Shared) (σ : St) (H : Hp) (x : V) (v : Value) (Q : Bool -> Hp -> Prop), Inv X pins σ H s -> RelV x v -> r x H Q ->
   wpAny (model X.prog X.w) X.A (truthy v) (TP X pins σ Q) X.xe s
def Iu (r : R2) (ta tb : TE) : TE := fun σ H Q => ta σ H fun x H1 => tb σ H1 fun y H2 => r x y H2 Q
def OT (r : V -> Hp -> VK -> Prop) (ta : TE) : TE := fun σ H Q => ta σ H fun x H1 => r x H1 Q
def rI (C : Int -> Int -> Prop) (g : Int -> Int -> V) : R2 := fun x y H Q => ∃ i j, x = .int i /\ y = .int j /\ C i j /\ Q (g i j) H
def B4 (g : Int -> Int -> V) : R2 := fun x y H Q => ∃ i j, x = .int i /\ y = .int j /\ Q (g i j) H
def rU (g : Int -> V) : V -> Hp -> VK -> Prop := fun x H Q => ∃ i, x = .int i /\ Q (g i) H
section
variable {X : Cx} {a b c : Expr} {ta tb tc : TE} {pos : Pos}
theorem Dl (ha : PE X a ta) (hb : PE X b tb) {pins : List (Addr × Obj)} {s : Shared} {σ : St} {H : Hp} {R : V -> V -> Hp -> Prop} (I : Inv X pins σ H s)
 (h : ta σ H fun x H1 => tb σ H1 fun y H2 => R x y H2) {Q : Value -> Shared -> Prop} {f : Value -> Value -> Sem Value}
 (hf : ∀ v u s2 x y H2, Inv X pins σ H2 s2 -> RelV x v -> RelV y u -> R x y H2 -> wpAny (model X.prog X.w) X.A (f v u) Q X.xe s2) :
 wpAny (model X.prog X.w) X.A (eval a X.env) (fun v s₁ => wpAny (model X.prog X.w) X.A (eval b X.env) (fun u s₂ => wpAny (model X.prog X.w) X.A (f v u) Q X.xe s₂) X.xe s₁) X.xe s := by
 refine bR (ha pins s σ H _ I h) fun v s1 ⟨x, H1, I1, r1, q1⟩ => ?_
 refine bR (hb pins s1 σ H1 _ I1 q1) fun u s2 ⟨y, H2, I2, r2, q2⟩ => ?_
 exact hf v u s2 x y H2 I2 r1 r2 q2
theorem bp {op : Operator} {r : R2} (ho : jk X (binaryOp op) r) (ha : PE X a ta) (hb : PE X b tb) : PE X (.BinOp a op b pos) (Iu r ta tb) := by
 intro pins s σ H Q I h
 exact wpAny_BinOp (Dl ha hb I h fun v u s2 x y H2 I2 rx ry q => ho pins s2 σ H2 x y v u Q I2 rx ry q)
theorem wW {op : UnaryOp} {r : V -> Hp -> VK -> Prop} (ho : LR X (unaryOp op) r) (ha : PE X a ta) : PE X (.UnaryOp op a pos) (OT r ta) := by
 intro pins s σ H Q I h
 exact UnaryOp_ (bR (ha pins s σ H _ I h) fun v s1 ⟨x, H1, I1, r1, q1⟩ => ho pins s1 σ H1 x v Q I1 r1 q1)
theorem OX {f : Value -> Value -> Sem Value} {C : Int -> Int -> Prop} {g : Int -> Int -> Int}
 (rule : ∀ (i j : Int) (t u : Tok) (s : Shared) (Q : Value -> Shared -> Prop) (E : Value -> Shared -> Prop), C i j -> Q (.int (g i j) s.toks) { s with toks := s.toks + 1 } -> wpAny (model X.prog X.w) X.A (f (.int i t) (.int j u)) Q E s) :
 jk X f (rI C fun i j => .int (g i j)) := by
 intro pins s σ H x y v u Q I rx ry h
 obtain ⟨i, j, rfl, rfl, hc, q⟩ := h
 obtain ⟨t, rfl⟩ := rx
 obtain ⟨t', rfl⟩ := ry
 exact rule i j t t' s _ _ hc ⟨.int (g i j), H, I.tok _, ⟨_, rfl⟩, q⟩
theorem Jf {f : Value -> Value -> Sem Value} {g : Int -> Int -> Int}
 (rule : ∀ (i j : Int) (t u : Tok) (s : Shared) (Q : Value -> Shared -> Prop) (E : Value -> Shared -> Prop), Q (.int (g i j) s.toks) { s with toks := s.toks + 1 } -> wpAny (model X.prog X.w) X.A (f (.int i t) (.int j u)) Q E s) :
 jk X f (B4 fun i j => .int (g i j)) := by
 intro pins s σ H x y v u Q I rx ry h
 obtain ⟨i, j, rfl, rfl, q⟩ := h
 obtain ⟨t, rfl⟩ := rx
 obtain ⟨t', rfl⟩ := ry
 exact rule i j t t' s _ _ ⟨.int (g i j), H, I.tok _, ⟨_, rfl⟩, q⟩
theorem Ee {f : Value -> Value -> Sem Value} {g : Int -> Int -> Bool}
 (rule : ∀ (i j : Int) (t u : Tok) (s : Shared) (Q : Value -> Shared -> Prop) (E : Value -> Shared -> Prop), Q (.bool (g i j)) s -> wpAny (model X.prog X.w) X.A (f (.int i t) (.int j u)) Q E s) :
 jk X f (B4 fun i j => .bl (g i j)) := by
 intro pins s σ H x y v u Q I rx ry h
 obtain ⟨i, j, rfl, rfl, q⟩ := h
 obtain ⟨t, rfl⟩ := rx
 obtain ⟨t', rfl⟩ := ry
 exact rule i j t t' s _ _ ⟨.bl (g i j), H, I, rfl, q⟩
theorem Dw : jk X (binaryOp .Add) (B4 fun i j => .int (i + j)) := Jf fun _ _ _ _ _ _ _ q => add_int q
theorem D5 : jk X (binaryOp .Sub) (B4 fun i j => .int (i - j)) := Jf fun _ _ _ _ _ _ _ q => sub_int q
theorem Fw : jk X (binaryOp .Mod) (rI (fun _ j => 0 < j) fun i j => .int (i % j)) := OX fun i j _ _ _ _ _ hc q => by
 have h1 : (0 : Int) < j := hc
 exact mod_int' (by omega) (by rw [Int.fmod_eq_emod_of_nonneg i (by omega)]; exact q)
theorem QB {f : Value -> Sem Value} {g : Int -> Int}
 (rule : ∀ (i : Int) (t : Tok) (s : Shared) (Q : Value -> Shared -> Prop) (E : Value -> Shared -> Prop), Q (.int (g i) s.toks) { s with toks := s.toks + 1 } -> wpAny (model X.prog X.w) X.A (f (.int i t)) Q E s) :
 LR X f (rU fun i => .int (g i)) := by
 intro pins s σ H x v Q I rx h
 obtain ⟨i, rfl, q⟩ := h
 obtain ⟨t, rfl⟩ := rx
 exact rule i t s _ _ ⟨.int (g i), H, I.tok _, ⟨_, rfl⟩, q⟩
theorem sE : LR X (unaryOp .USub) (rU fun i => .int (-i)) := QB fun _ _ _ _ _ q => neg_int q
end
def zH : V -> V -> Bool
 | .aP, .aP => true | .aP, .int _ => true | .int _, .aP => true | .aP, .bl _ => true | .bl _, .aP => true | .aP, .str _ => true | .str _, .aP => true
 | .int _, .int _ => true | .bl _, .bl _ => true | .str _, .str _ => true | .uH _, .uH _ => true
 | .int _, .str _ => true | .str _, .int _ => true | .bl _, .str _ => true | .str _, .bl _ => true
 | _, _ => false
def QG : R2 := fun x y H Q => zH x y = true /\ Q (.bl (decide (x = y))) H
def Pu : R2 := fun x y H Q => zH x y = true /\ Q (.bl (!decide (x = y))) H
theorem ub {i j : Int} : decide (V.int i = V.int j) = (i == j) := by
 rw [Bool.eq_iff_iff]
 simp
theorem vZ {i j : Bool} : decide (V.bl i = V.bl j) = (i == j) := by
 rw [Bool.eq_iff_iff]
 simp
theorem tN {i j : Str} : decide (V.str i = V.str j) = (i == j) := by
 rw [Bool.eq_iff_iff]
 simp
theorem tM {i j : Array UInt8} : decide (V.uH i = V.uH j) = (i.toList == j.toList) := by
 rw [Bool.eq_iff_iff]
 cases i
 cases j
 simp
section
variable {X : Cx} {a b c : Expr} {ta tb tc : TE} {pos : Pos}
theorem aK {pins : List (Addr × Obj)} {σ : St} {H : Hp} {s : Shared} {Q : VK} {k k' : Bool} (I : Inv X pins σ H s) (q : Q (.bl k) H) (e : k = k') : EP X pins σ Q (.bool k') s := by
 subst e
 exact ⟨.bl k, H, I, rfl, q⟩
theorem IX : jk X (compareOp .Eq) QG := by
 intro pins s σ H x y v u Q I rx ry h
 obtain ⟨hs, q⟩ := h
 cases x with
 | aP =>
   cases rx
   cases y with
   | aP => cases ry; exact PySem.EqNone.eq_none_none (aK I q (by simp))
   | bl j => cases ry; exact PySem.EqNone.eq_none_bool (aK I q (by simp))
   | int j => obtain ⟨t', rfl⟩ := ry; exact PySem.EqNone.eq_none_int (aK I q (by simp))
   | str j => obtain ⟨t', rfl⟩ := ry; exact PySem.EqNone.eq_none_str (aK I q (by simp))
   | _ => exact absurd (show false = true from hs) Bool.false_ne_true
 | bl i =>
   cases rx
   cases y with
   | aP => cases ry; exact PySem.EqNone.eq_bool_none (aK I q (by simp))
   | bl j => cases ry; exact eq_bool (aK I q vZ)
   | str j => obtain ⟨t', rfl⟩ := ry; exact PySem.EqMixed.eq_bool_str (aK I q (by simp))
   | _ => exact absurd (show false = true from hs) Bool.false_ne_true
 | int i =>
   obtain ⟨t, rfl⟩ := rx
   cases y with
   | aP => cases ry; exact PySem.EqNone.eq_int_none (aK I q (by simp))
   | int j => obtain ⟨t', rfl⟩ := ry; exact eq_int (aK I q ub)
   | str j => obtain ⟨t', rfl⟩ := ry; exact PySem.EqMixed.eq_int_str (aK I q (by simp))
   | _ => exact absurd (show false = true from hs) Bool.false_ne_true
 | str i =>
   obtain ⟨t, rfl⟩ := rx
   cases y with
   | aP => cases ry; exact PySem.EqNone.eq_str_none (aK I q (by simp))
   | bl j => cases ry; exact PySem.EqMixed.eq_str_bool (aK I q (by simp))
   | int j => obtain ⟨t', rfl⟩ := ry; exact PySem.EqMixed.eq_str_int (aK I q (by simp))
   | str j => obtain ⟨t', rfl⟩ := ry; exact eq_str (aK I q tN)
   | _ => exact absurd (show false = true from hs) Bool.false_ne_true
 | uH i =>
   obtain ⟨t, rfl⟩ := rx
   cases y with
   | uH j => obtain ⟨t', rfl⟩ := ry; exact PySem.W.eq_bytes (aK I q tM)
   | _ => exact absurd (show false = true from hs) Bool.false_ne_true
 | _ => cases y <;> exact absurd (show false = true from hs) Bool.false_ne_true
theorem Gg : jk X (compareOp .NotEq) Pu := by
 intro pins s σ H x y v u Q I rx ry h
 obtain ⟨hs, q⟩ := h
 cases x with
 | aP =>
   cases rx
   cases y with
   | aP => cases ry; exact PySem.EqNone.ne_none_none (aK I q (by simp))
   | bl j => cases ry; exact PySem.EqNone.ne_none_bool (aK I q (by simp))
   | int j => obtain ⟨t', rfl⟩ := ry; exact PySem.EqNone.ne_none_int (aK I q (by simp))
   | str j => obtain ⟨t', rfl⟩ := ry; exact PySem.EqNone.ne_none_str (aK I q (by simp))
   | _ => exact absurd (show false = true from hs) Bool.false_ne_true
 | bl i =>
   cases rx
   cases y with
   | aP => cases ry; exact PySem.EqNone.ne_bool_none (aK I q (by simp))
   | bl j => cases ry; exact ne_bool (aK I q (congrArg not vZ))
   | str j => obtain ⟨t', rfl⟩ := ry; exact PySem.EqMixed.ne_bool_str (aK I q (by simp))
   | _ => exact absurd (show false = true from hs) Bool.false_ne_true
 | int i =>
   obtain ⟨t, rfl⟩ := rx
   cases y with
   | aP => cases ry; exact PySem.EqNone.ne_int_none (aK I q (by simp))
   | int j => obtain ⟨t', rfl⟩ := ry; exact ne_int (aK I q (congrArg not ub))
   | str j => obtain ⟨t', rfl⟩ := ry; exact PySem.EqMixed.ne_int_str (aK I q (by simp))
   | _ => exact absurd (show false = true from hs) Bool.false_ne_true
 | str i =>
   obtain ⟨t, rfl⟩ := rx
   cases y with
   | aP => cases ry; exact PySem.EqNone.ne_str_none (aK I q (by simp))
   | bl j => cases ry; exact PySem.EqMixed.ne_str_bool (aK I q (by simp))
   | int j => obtain ⟨t', rfl⟩ := ry; exact PySem.EqMixed.ne_str_int (aK I q (by simp))
   | str j => obtain ⟨t', rfl⟩ := ry; exact ne_str (aK I q (congrArg not tN))
   | _ => exact absurd (show false = true from hs) Bool.false_ne_true
 | uH i =>
   obtain ⟨t, rfl⟩ := rx
   cases y with
   | uH j => obtain ⟨t', rfl⟩ := ry; exact PySem.W.ne_bytes (aK I q (congrArg not tM))
   | _ => exact absurd (show false = true from hs) Bool.false_ne_true
 | _ => cases y <;> exact absurd (show false = true from hs) Bool.false_ne_true
theorem Hn : jk X (compareOp .Lt) (B4 fun i j => .bl (decide (i < j))) := Ee fun _ _ _ _ _ _ _ q => lt_int q
theorem yt : jk X (compareOp .Gt) (B4 fun i j => .bl (decide (j < i))) := Ee fun _ _ _ _ _ _ _ q => gt_int q
theorem Jk : jk X (compareOp .GtE) (B4 fun i j => .bl (decide (j <= i))) := Ee fun _ _ _ _ _ _ _ q => ge_int q
theorem oH : jk X (compareOp .IsNot) (fun x y H Q => y = .aP /\ Q (.bl (!decide (x = .aP))) H) := by
 intro pins s σ H x y v u Q I rx ry h
 obtain ⟨rfl, q⟩ := h
 cases ry
 refine isnot_none_gen (aK I q ?_)
 cases x <;> first
  | (cases rx; rfl)
  | (obtain ⟨t, rfl⟩ := rx; rfl)
theorem bb (b : Expr) {op : CmpOp} (h : op ≠ .In := by decide) (h2 : op ≠ .NotIn := by decide) : behindInMarks op b = false := by
 have e1 : (op == CmpOp.In) = false := by cases op <;> first | rfl | exact absurd rfl h
 have e2 : (op == CmpOp.NotIn) = false := by cases op <;> first | rfl | exact absurd rfl h2
 cases b <;> simp [behindInMarks, e1, e2]
theorem iN {op : CmpOp} {r : R2} (ho : jk X (compareOp op) r) (ha : PE X a ta) (hb : PE X b tb) (hm : behindInMarks op b = false) : PE X (.Compare a [op] [b] pos) (Iu r ta tb) := by
 intro pins s σ H Q I h
 exact wpAny_Compare1 (Dl ha hb I h fun v u s2 x y H2 I2 rx ry q => ho pins s2 σ H2 x y v u Q I2 rx ry q) hm
def BU (t : TE) : TT := fun σ H Q => t σ H fun x H' => ∃ k, x = .bl k /\ Q k H'
theorem aS {op : CmpOp} {r : R2} (ho : jk X (compareOp op) r) (ha : PE X a ta) (hb : PE X b tb) (hm : behindInMarks op b = false) : PT X (.Compare a [op] [b] pos) (BU (Iu r ta tb)) := by
 intro pins s σ H Q I h
 refine wpAny_isTrue_Compare1 (bR (ha pins s σ H _ I h) fun v s1 ⟨x, H1, I1, r1, q1⟩ => bR (hb pins s1 σ H1 _ I1 q1) fun u s2 ⟨y, H2, I2, r2, q2⟩ =>
  bR (ho pins s2 σ H2 x y v u _ I2 r1 r2 q2) fun c s3 ⟨z, H3, I3, r3, k, e, q3⟩ => ?_) hm
 subst e
 cases r3
 exact wpAny_truthy_bool ⟨H3, I3, q3⟩
def Ag (K : PySem.W.Frag) (x : V) (H : Hp) (k : Bool) : Prop :=
 match x with
 | .aP => k = false
 | .bl b => k = b
 | .int i => k = (i != 0)
 | .str y => y.length <= sizeLine /\ k = ((y.length : Int) != 0)
 | .uH y => y.size <= sizeLine /\ k = ((y.size : Int) != 0)
 | .ref p => (∃ xs, dY K H p xs /\ k = !xs.isEmpty) \/ (∃ xs, r6 K H p xs /\ k = !xs.isEmpty) \/ ∃ kvs, H p = some (.dK kvs) /\ k = !kvs.isEmpty
 | _ => False
theorem rH {κ : Type} {kvs : List (κ × V)} {vs : List (κ × Value)} (r : KV kvs vs) : (!vs.isEmpty) = !kvs.isEmpty := by
 cases r <;> rfl
theorem mq {xs : List V} {aY : List Value} (r : Vals xs aY) : (!aY.toArray.isEmpty) = !xs.isEmpty := by
 cases r <;> simp
theorem j6 : (sizeLine : Nat) < 2 ^ 63 := by rw [sizeLine_eq]; decide
theorem Di : K0 X (fun x H Q => ∃ k, Ag X.K x H k /\ Q k H) := by
 intro pins s σ H x v Q I rx h
 obtain ⟨k, e, q⟩ := h
 have hl := j6
 have hs : sizeLine = 16777216 := sizeLine_eq
 cases x with
 | aP =>
   cases rx
   have e' : k = false := e
   subst e'
   exact truthy_none ⟨H, I, q⟩
 | bl b =>
   cases rx
   have e' : k = b := e
   subst e'
   exact wpAny_truthy_bool ⟨H, I, q⟩
 | int i =>
   obtain ⟨t, rfl⟩ := rx
   have e' : k = (i != 0) := e
   subst e'
   exact PySem.P.truthy_int ⟨H, I, q⟩
 | str y =>
   obtain ⟨t, rfl⟩ := rx
   obtain ⟨hy, e'⟩ : y.length <= sizeLine /\ k = ((y.length : Int) != 0) := e
   subst e'
   exact PySem.P.truthy_str (by omega) ⟨H, I.tok _, q⟩
 | uH y =>
   obtain ⟨t, rfl⟩ := rx
   obtain ⟨hy, e'⟩ : y.size <= sizeLine /\ k = ((y.size : Int) != 0) := e
   subst e'
   exact PySem.W.truthy_bytes (by omega) ⟨H, I.tok _, q⟩
 | ref p =>
   cases rx
   have e' : (∃ xs, dY X.K H p xs /\ k = !xs.isEmpty) \/ (∃ xs, r6 X.K H p xs /\ k = !xs.isEmpty) \/ ∃ kvs, H p = some (.dK kvs) /\ k = !kvs.isEmpty := e
   rcases e' with ⟨xs, hx, e'⟩ | ⟨xs, hx, e'⟩ | ⟨kvs, hx, e'⟩
   . subst e'
     obtain ⟨aY, r, pl, hz⟩ := I.list hx
     have hlen := r.length
     exact wpAny_truthy_list pl.isList (by simp only [List.size_toArray]; omega) ⟨H, I.tok _, by rw [mq r]; exact q⟩
   . subst e'
     obtain ⟨aY, r, pl, hz⟩ := I.tuple hx
     have hlen := r.length
     exact truthy_tuple pl (by simp only [List.size_toArray]; omega) ⟨H, I.tok _, by rw [mq r]; exact q⟩
   . subst e'
     obtain ⟨hz, hS, vs, r, m⟩ : kvs.length <= sizeLine /\ (p == sysModules) = false /\ ∃ vs, KV kvs vs /\ s.heap.DictOf (aJ X.prog X.w) p vs := I.aF p _ hx
     have hlen : kvs.length = vs.length := Paired.length r
     exact wpAny_truthy_dict hS m (by omega) ⟨H, I.tok _, by rw [rH r]; exact q⟩
 | _ => exact (show False from e).elim
theorem iG (ha : PE X a ta) (he : ∀ whole, isTrue a X.env whole = (do let v <- whole; standAt a.pos; holding [v] (truthy v))) :
 PT X a (fun σ H Q => ta σ H fun x H' => ∃ k, Ag X.K x H' k /\ Q k H') := by
 intro pins s σ H Q I h
 exact isTrue_plain (bR (ha pins s σ H _ I h) fun v s1 ⟨x, H1, I1, r1, q1⟩ => Di pins s1 σ H1 x v Q I1 r1 q1) (he _)
theorem sN : jk X (binaryOp .Add) (fun x y H Q => ∃ i j, x = .str i /\ y = .str j /\ i.length + j.length <= sizeLine /\ Q (.str (i ++ j)) H) := by
 intro pins s σ H x y v u Q I rx ry h
 obtain ⟨i, j, rfl, rfl, hz, q⟩ := h
 obtain ⟨t, rfl⟩ := rx
 obtain ⟨t', rfl⟩ := ry
 exact add_str (fun t' tk => ⟨.str (i ++ j), H, I.tok _, ⟨_, rfl⟩, q⟩) hz
theorem vals1 {x : V} {us : List Value} (r : Vals [x] us) : ∃ u, us = [u] /\ RelV x u := by
 cases r with
 | cons r1 r2 => cases r2; exact ⟨_, rfl, r1⟩
theorem vals2 {x y : V} {us : List Value} (r : Vals [x, y] us) : ∃ u w', us = [u, w'] /\ RelV x u /\ RelV y w' := by
 cases r with
 | cons r1 r2 =>
   cases r2 with
   | cons r3 r4 => cases r4; exact ⟨_, _, rfl, r1, r3⟩
end
structure sy (h : Heap) (x dx C : Addr) (mA : Str -> Option Value) : Prop where
 obj : h.get? x = some (PySem.W.instObj C dx)
 ns : h.Ns1 dx mA
 ne : dx ≠ x
theorem nV {h : Heap} {dx : Addr} {mA : Str -> Option Value} (n : h.Ns1 dx mA) : ∃ od, h.get? dx = some od /\ ∀ name, PySem.W.lookIn name od = some (mA name) := by
 obtain ⟨o, es, ep, ho, hd, hk, _, hm⟩ := n
 refine ⟨o, ho, fun name => ?_⟩
 have e := hm name
 unfold nsFind findBy at e
 rw [<- Array.find?_toList] at e
 unfold PySem.W.lookIn
 rw [hd]
 dsimp only
 split
 . rename_i y q
   rw [q] at e
   exact congrArg some e
 . rename_i q
   rw [q] at e
   have a : es.toList.any (·.refKey) = false := by
    rw [List.any_eq_false]
    intro y hy
    obtain ⟨z, t, Kk⟩ := hk y (Array.mem_toList_iff.mp hy)
    simp [DictEntry.refKey, Kk]
   have a' : ¬ es.toList.any (·.refKey) = true := by rw [a]; exact Bool.false_ne_true
   rw [if_neg a']
   exact congrArg some e
theorem sy.look {h : Heap} {x dx C : Addr} {mA : Str -> Option Value} (I : sy h x dx C mA) : ∃ od, PySem.W.InstAt h x (PySem.W.instObj C dx) C (some od) /\ ∀ name, PySem.W.lookIn name od = some (mA name) :=
 let ⟨od, ho, hl⟩ := nV I.ns
 ⟨od, ⟨I.obj, rfl, rfl, ho⟩, hl⟩
section
variable {prog : Program} {w : World} {A : Around} {E : Value -> Shared -> Prop} {s : Shared} {K : PySem.W.Frag} {x dx C f : Addr} {mA : Str -> Option Value} {name : Str} {v : Value}
theorem get_map {expr : Bool} {Q : Value -> Shared -> Prop} (X : K.In s.heap) (I : sy s.heap x dx C mA) (hg : PySem.W.plainGet K C name = true) (hh : PySem.W.hasDictIn K C = true)
 (ha : PySem.W.findIn K (.ref C) name = some none) (hv : mA name = some v) (PD : PySem.W.handedIn v = true) (h : Q v { s with toks := s.toks + 1 }) :
 wpAny (model prog w) A (getAttr (.ref x) name expr) Q E s := by
 obtain ⟨od, J, hl⟩ := I.look
 exact PySem.W.get_value X J (PySem.W.plainGet_of hg).1 (PySem.W.findObj_own hh ha rfl (by rw [hl, hv])) PD h
theorem wH {pl : Sem Bool} {Q : Value × List Value -> Shared -> Prop} (X : K.In s.heap) (I : sy s.heap x dx C mA) (hg : PySem.W.plainGet K C name = true)
 (hf : PySem.W.findIn K (.ref C) name = some (some (.ref f))) (ht : PySem.W.isFn K (.ref f) = true) (hv : mA name = none) (h : Q (.ref f, [.ref x]) s) :
 wpAny (model prog w) A (getMethod (.ref x) name pl) Q E s := by
 obtain ⟨od, J, hl⟩ := I.look
 exact PySem.W.method_fn X J (PySem.W.plainGet_of hg).1 (PySem.W.plainGet_of hg).2 hf (beq_iff_eq.mp ht) (by show (PySem.W.lookIn name od).map (·.isSome) = some false; rw [hl, hv]; rfl) h
theorem Bq {ns : List Str} {Q : Unit -> Shared -> Prop} (X : K.In s.heap) (I : sy s.heap x dx C mA)
 (hs : PySem.W.findIn K (.ref C) "__setattr__" = some (some (.builtin "object.__setattr__"))) (hp : PySem.W.plainOver K C = true) (ht : PySem.W.takerIn K C name = some none) (hh : PySem.W.hasDictIn K C = true)
 (hw : PySem.Within mA ns) (hsz : ns.length <= sizeLine)
 (h : ∀ h', sy h' x dx C (fun y => if y = name then some v else mA y) -> Heap.SameBut dx s.heap h' -> Q () { s with heap := h', toks := s.toks + 2 }) :
 wpAny (model prog w) A (setAttr (.ref x) name v) Q E s := by
 obtain ⟨od, J, hl⟩ := I.look
 refine PySem.W.set_plain X J hs (PySem.W.osa_open (s := { s with toks := s.toks + 1 }) (r := none) X J hp ht fun b => ?_)
 obtain ⟨cd, hc, jY⟩ := PySem.W.any_some hh
 have hx : s.heap.get? x = some ⟨.ref C, some dx, .plain, #[]⟩ := I.obj
 refine wpAny_bind (wpAny_pure (wpAny_bind (wpAny_bind (wpAny_loadPart hx (wpAny_bind (PySem.W.Looks.here (s := { s with toks := s.toks + 1 }) (PySem.W.looks_clsIn X hc) ?_))))))
 rw [jY]
 refine wpAny_pure (a := some dx) (wpAny_bind (wpAny_pure (wpAny_bind ?_)))
 refine wpAny_nsSet1 (s := { s with toks := s.toks + 1 }) I.ns fun h' y7 Cg => ?_
 obtain ⟨oD, PV, Pa, K4, Mq, Lr⟩ := y7.count (PySem.Within.cons name v hw)
 refine wpAny_bind (wpAny_lookBehind K4 (by rw [Mq]; exact pastItsLine_dict (Nat.le_trans Lr (by rw [List.length_cons]; omega))) ?_)
 exact wpAny_pure (h _ ⟨(Cg.2 _ (Ne.symm I.ne)).trans I.obj, y7, I.ne⟩ Cg)
theorem xI {R : Result -> Shared -> Prop} {vs : List Value} {kw : List (Str × Value)} (X : K.In s.heap) (hm : PySem.W.makesIn K C = true)
 (hi : PySem.W.findIn K (.ref C) "__init__" = some (some (.ref f))) (hf : PySem.W.typeIn K (.ref f) = some (.type "function"))
 (h : codeAny (model prog w) (A.under (.builtin "type.__call__" ⟨.ref C :: vs, kw⟩)) (.call (.ref f) ⟨.ref (s.heap.objs.size + 1) :: vs, kw⟩) (PySem.W.InitBack (s.heap.objs.size + 1) R)
  { s with heap := (s.heap.push PySem.W.emptyDict).push (PySem.W.instObj C s.heap.objs.size) }) :
 codeAny (model prog w) A (.call (.ref C) ⟨vs, kw⟩) R s := by
 obtain ⟨hh, g, d, t, os⟩ := s
 exact PySem.W.make_core (PySem.W.makes_of X hm) (PySem.W.looks_findIn X hi) (fun self => PySem.W.bind_fn X self hf) (.inl rfl) h
end
def fZ (f : Str) (v : V) : List (Str × V) -> List (Str × V)
 | [] => [(f, v)]
 | (g, x) :: r => if g = f then (g, v) :: r else (g, x) :: fZ f v r
theorem kL (f g : Str) (v : V) : ∀ fs : List (Str × V), (fZ f v fs).lookup g = if g = f then some v else fs.lookup g
 | [] => by
   show List.lookup g [(f, v)] = _
   by_cases h : g = f
   . have hb : (g == f) = true := beq_iff_eq.mpr h
     simp only [List.lookup, hb, if_pos h]
   . have hb : (g == f) = false := beq_eq_false_iff_ne.mpr h
     simp only [List.lookup, hb, if_neg h]
 | (k, x) :: r => by
   have ih := kL f g v r
   rw [show fZ f v ((k, x) :: r) = (if k = f then (k, v) :: r else (k, x) :: fZ f v r) from rfl]
   by_cases hk : k = f
   . rw [if_pos hk]
     by_cases h : g = k
     . have hb : (g == k) = true := beq_iff_eq.mpr h
       simp only [List.lookup, hb, if_pos (h.trans hk)]
     . have hb : (g == k) = false := beq_eq_false_iff_ne.mpr h
       simp only [List.lookup, hb, if_neg (fun e : g = f => h (e.trans hk.symm))]
   . rw [if_neg hk]
     by_cases h : g = k
     . have hb : (g == k) = true := beq_iff_eq.mpr h
       simp only [List.lookup, hb, if_neg (fun e : g = f => hk (h.symm.trans e))]
     . have hb : (g == k) = false := beq_eq_false_iff_ne.mpr h
       simp only [List.lookup, hb]
       exact ih
theorem kc (f : Str) (v : V) : ∀ fs : List (Str × V), f ∈ (fZ f v fs).map (·.1) /\ ∀ g, g ∈ fs.map (·.1) -> g ∈ (fZ f v fs).map (·.1)
 | [] => ⟨by simp [fZ], fun g h => by simp at h⟩
 | (k, x) :: r => by
   obtain ⟨i1, i2⟩ := kc f v r
   rw [show fZ f v ((k, x) :: r) = (if k = f then (k, v) :: r else (k, x) :: fZ f v r) from rfl]
   by_cases hk : k = f
   . rw [if_pos hk]
     subst hk
     exact ⟨by simp, fun g h => by simpa using h⟩
   . rw [if_neg hk]
     refine ⟨?_, fun g h => ?_⟩
     . rw [List.map_cons]
       exact List.mem_cons_of_mem _ i1
     . rw [List.map_cons] at h ⊢
       rcases List.mem_cons.mp h with e | e
       . exact List.mem_cons.mpr (.inl e)
       . exact List.mem_cons_of_mem _ (i2 g e)
theorem kE (f : Str) (v : V) : ∀ fs : List (Str × V), (fZ f v fs).length <= fs.length + 1
 | [] => by simp [fZ]
 | (k, x) :: r => by
   have ih := kE f v r
   rw [show fZ f v ((k, x) :: r) = (if k = f then (k, v) :: r else (k, x) :: fZ f v r) from rfl]
   by_cases hk : k = f
   . rw [if_pos hk, List.length_cons, List.length_cons]; omega
   . rw [if_neg hk, List.length_cons, List.length_cons]; omega
theorem hZ.some_of {v : V} {o : Option Value} (r : hZ (some v) o) : ∃ u, o = some u /\ RelV v u := by
 cases o with
 | none => exact (show False from r).elim
 | some u => exact ⟨u, rfl, r⟩
theorem hZ.none_of {o : Option Value} (r : hZ none o) : o = none := by
 cases o with
 | none => rfl
 | some u => exact (show False from r).elim
theorem n8 {v : V} {u : Value} (r : RelV v u) : PySem.W.handedIn u = true := by
 cases v with
 | aP => cases (show u = Value.none from r); rfl
 | bl b => cases (show u = Value.bool b from r); rfl
 | int i => obtain ⟨t, e⟩ := (show ∃ t, u = Value.int i t from r); cases e; rfl
 | str x => obtain ⟨t, e⟩ := (show ∃ t, u = Value.str x t from r); cases e; rfl
 | uH b => obtain ⟨t, e⟩ := (show ∃ t, u = Value.bytes b t from r); cases e; rfl
 | D6 b => obtain ⟨t, e⟩ := (show ∃ t, u = Value.float b t from r); cases e; rfl
 | ref a => cases (show u = Value.ref a from r); rfl
 | ty n => cases (show u = Value.type n from r); rfl
section
variable {P : Program} {w : World} {H H' : Hp} {h h' : Heap} {a C dx : Addr} {fs JV : List (Str × V)}
theorem lh (aF : fW P w H h) (e : H a = some (.ins C dx fs)) : ∃ mA, sy h a dx C mA /\ (∀ f, hZ (fs.lookup f) (mA f)) /\ PySem.Within mA (fs.map (·.1)) /\ fs.length <= 1000 /\ H dx = some (.own a) := by
 obtain ⟨d, z, ne, ob, mA, n, r, q⟩ := (show aO P w H h a (.ins C dx fs) from aF a _ e)
 exact ⟨mA, ⟨ob, n, ne⟩, r, q, z, d⟩
end
structure mV (K : PySem.W.Frag) (C : Addr) : Prop where
 pg : PySem.W.plainGet K C Str.empty = true
 hd : PySem.W.hasDictIn K C = true
 po : PySem.W.plainOver K C = true
 sa : PySem.W.findIn K (.ref C) "__setattr__" = some (some (.builtin "object.__setattr__"))
theorem mV.get {K : PySem.W.Frag} {C : Addr} (c : mV K C) (f : Str) : PySem.W.plainGet K C f = true := c.pg
def dc (K : PySem.W.Frag) (C : Addr) (f : Str) : Prop := PySem.W.findIn K (.ref C) f = some none
theorem dc.Jg {K : PySem.W.Frag} {C : Addr} {f : Str} (n : dc K C f) : PySem.W.takerIn K C f = some none := by
 unfold PySem.W.takerIn
 rw [show PySem.W.findIn K (.ref C) f = some none from n]
 rfl
structure SD (K : PySem.W.Frag) (C : Addr) (f : Str) (v : V) (u : Value) : Prop where
 at_ : PySem.W.findIn K (.ref C) f = some (some u)
 rel : RelV v u
 get : PySem.W.specialIn K u "__get__" = some none
 cp : PySem.W.copiedNames.contains f = false
structure Meth (K : PySem.W.Frag) (C : Addr) (m : Str) (f : Addr) : Prop where
 at_ : PySem.W.findIn K (.ref C) m = some (some (.ref f))
 fn : PySem.W.isFn K (.ref f) = true
 kp : PySem.W.keepIn K (.ref f) = true
section
variable {X : Cx} {pins : List (Addr × Obj)} {σ : St} {H : Hp} {s : Shared} {a C dx : Addr} {fs : List (Str × V)} {f : Str} {v : V} {A : Around} {E : Value -> Shared -> Prop}
theorem rR {b : Bool} {Q : Value -> Shared -> Prop} (I : Inv X pins σ H s) (e : H a = some (.ins C dx fs)) (c : mV X.K C) (n : dc X.K C f) (l : fs.lookup f = some v)
 (h : ∀ u s', Inv X pins σ H s' -> RelV v u -> Q u s') : wpAny (model X.prog X.w) A (getAttr (.ref a) f b) Q E s := by
 obtain ⟨mA, O, r, _, _, _⟩ := lh I.aF e
 obtain ⟨u, hu, ru⟩ := hZ.some_of (v := v) (o := mA f) (by rw [<- l]; exact r f)
 exact get_map I.fL O (c.get f) c.hd n hu (n8 ru) (h u _ (I.tok _) ru)
theorem gu {m : Str} {g : Addr} {pl : Sem Bool} {Q : Value × List Value -> Shared -> Prop} (I : Inv X pins σ H s) (e : H a = some (.ins C dx fs)) (c : mV X.K C) (k : Meth X.K C m g) (l : fs.lookup m = none)
 (h : Q (.ref g, [.ref a]) s) : wpAny (model X.prog X.w) A (getMethod (.ref a) m pl) Q E s := by
 obtain ⟨mA, O, r, _, _, _⟩ := lh I.aF e
 have hn : mA m = none := hZ.none_of (by rw [<- l]; exact r m)
 exact wH I.fL O (c.get m) k.at_ k.fn hn h
theorem rV {y : V} {u : Value} {Q : Unit -> Shared -> Prop} (I : Inv X pins σ H s) (e : H a = some (.ins C dx fs)) (c : mV X.K C) (n : dc X.K C f) (hl : fs.length < 1000) (ry : RelV y u)
 (h : ∀ s', Inv X pins σ (upd H a (.ins C dx (fZ f y fs))) s' -> Q () s') : wpAny (model X.prog X.w) A (setAttr (.ref a) f u) Q E s := by
 obtain ⟨mA, O, r, wi, _, ho⟩ := lh I.aF e
 have hz : (fs.map (·.1)).length <= sizeLine := by rw [List.length_map, sizeLine_eq]; omega
 refine Bq I.fL O c.sa c.po n.Jg c.hd wi hz fun h' O' sb => h _ ?_
 have hd : ∃ o, h'.get? dx = some o := let ⟨o, _, _, e', _⟩ := O'.ns; ⟨o, e'⟩
 refine I.write (x := a) (e := dx) (by rw [e]; exact True.intro) (.inr ho) (fun b q hb z => (sb.2 b hb).trans z) hd ?_
 refine ⟨by rw [ah O.ne]; exact ho, ?_, O.ne, O'.obj, _, O'.ns, fun g => ?_, fun g hg => ?_⟩
 . have := kE f y fs; omega
 . show hZ ((fZ f y fs).lookup g) (if g = f then some u else mA g)
   rw [kL]
   by_cases q : g = f
   . rw [if_pos q, if_pos q]; exact ry
   . rw [if_neg q, if_neg q]; exact r g
 . by_cases q : g = f
   . rw [q]; exact (kc f y fs).1
   . refine (kc f y fs).2 g (wi g fun z => hg ?_)
     show (if g = f then some u else mA g) = none
     rw [if_neg q]; exact z
theorem Inv.made (I : Inv X pins σ H s) : Inv X pins σ (upd (upd H s.heap.objs.size (.own (s.heap.objs.size + 1))) (s.heap.objs.size + 1) (.ins C s.heap.objs.size []))
 { s with heap := (s.heap.push PySem.W.emptyDict).push (PySem.W.instObj C s.heap.objs.size) } := by
 have e1 : (s.heap.push PySem.W.emptyDict).get? s.heap.objs.size = some PySem.W.emptyDict := Heap.get?_push_size s.heap rfl
 have e2 : ((s.heap.push PySem.W.emptyDict).push (PySem.W.instObj C s.heap.objs.size)).get? (s.heap.objs.size + 1) = some (PySem.W.instObj C s.heap.objs.size) := by
  have := Heap.get?_push_size (s.heap.push PySem.W.emptyDict) (o := PySem.W.instObj C s.heap.objs.size) rfl
  rwa [Heap.size_push] at this
 have e3 : (s.heap.push PySem.W.emptyDict).Ns s.heap.objs.size (fun _ => none) := ⟨PySem.W.emptyDict, #[], _, e1, rfl, (fun e he => absurd he (by simp)), fun _ => rfl⟩
 have I1 := I.laid (a := s.heap.objs.size) (o := .own (s.heap.objs.size + 1)) (h' := s.heap.push PySem.W.emptyDict) (t' := s.toks) (fun b u q => Heap.get?_push_of_some _ q) (Nat.le_refl _) ⟨_, e1⟩
 refine I1.laid (a := s.heap.objs.size + 1) (o := .ins C s.heap.objs.size []) (t' := s.toks) (fun b u q => Heap.get?_push_of_some _ q) (Nat.le_of_eq (Heap.size_push _ _)) ?_
 have ne : s.heap.objs.size ≠ s.heap.objs.size + 1 := Nat.ne_of_lt (Nat.lt_succ_self _)
 refine ⟨by rw [ah ne, aj], Nat.zero_le _, ne, e2, fun _ => none, (Heap.Ns1.of_empty e3).at fun o q => Heap.get?_push_of_some _ q, fun _ => True.intro, fun y hy => absurd rfl hy⟩
theorem uw {prog : Program} {w : World} {env : Env} {e : Expr} {f : Str} {pos : Pos} {s : Shared} {Q : Value -> Shared -> Prop} (hb : attributeBase e f env (eval e env) = eval e env)
 (h : wpAny (model prog w) A (eval e env) (fun o s₁ => wpAny (model prog w) A (getAttr o f true) Q E s₁) E s) : wpAny (model prog w) A (eval (.Attribute e f pos) env) Q E s :=
 Attribute_any_ h (by rw [arm_eval_Attribute, hb])
end
def GL (K : PySem.W.Frag) (ta : TE) (f : Str) : TE := fun σ H Q => ta σ H fun x H1 => ∃ a C dx fs v, x = .ref a /\ H1 a = some (.ins C dx fs) /\ mV K C /\ dc K C f /\ fs.lookup f = some v /\ Q v H1
def IQ (K : PySem.W.Frag) (ta tv : TE) (f : Str) : TS := fun D σ H => tv σ H fun y H1 => ta σ H1 fun x H2 => ∃ a C dx fs, x = .ref a /\ H2 a = some (.ins C dx fs) /\ mV K C /\ dc K C f /\ fs.length < 1000 /\
 D.nx σ (upd H2 a (.ins C dx (fZ f y fs)))
section
variable {X : Cx} {o e value : Expr} {f : Str} {pos pos' wK : Pos} {ta tv : TE}
theorem dF (he : PE X e ta) (hb : attributeBase e f X.env (eval e X.env) = eval e X.env) : PE X (.Attribute e f pos) (GL X.K ta f) := by
 intro pins s σ H Q I h
 refine uw hb (bR (he pins s σ H _ I h) fun u s1 ⟨x, H1, I1, rx, a, C, dx, fs, v, ex, ea, c, n, l, q⟩ => ?_)
 subst ex
 obtain rfl : u = Value.ref a := rx
 exact rR I1 ea c n l fun u' s2 I2 ru => ⟨v, H1, I2, ru, q⟩
theorem yO (ha : PE X o ta) (hv : PE X value tv) (hs : swapsWith value (some (.Attribute o f pos')) pos.line X.env = pure false) : PS X (.Assign [.Attribute o f pos'] value pos) (IQ X.K ta tv f) := by
 intro pins s σ H D I h
 refine plainObj_wpAny_Assign_Attribute (bR (hv pins s σ H _ I h) fun u s1 ⟨y, H1, I1, ry, q⟩ => bR (ha pins s1 σ H1 _ I1 q) fun ov s2 ⟨x, H2, I2, rx, a, C, dx, fs, ex, ea, c, n, l, q2⟩ => ?_) hs
 subst ex
 obtain rfl : ov = Value.ref a := rx
 exact rV I2 ea c n l ry fun s3 I3 => ⟨σ, _, I3, q2⟩
end
section
variable {X : Cx} {pins : List (Addr × Obj)} {σ : St} {H : Hp} {s : Shared} {A : Around} {E : Value -> Shared -> Prop} {Q : Value -> Shared -> Prop} {c : Value} {b : Bool}
inductive jA (K : PySem.W.Frag) (H : Hp) : V -> Value -> Prop where
 | aP : jA K H .aP (.type "NoneType")
 | bl (x : Bool) : jA K H (.bl x) (.type "bool")
 | int (i : Int) : jA K H (.int i) (.type "int")
 | str (x : Str) : jA K H (.str x) (.type "str")
 | D6 (x : UInt64) : jA K H (.D6 x) (.type "float")
 | lst {a : Addr} {xs : List V} (e : H a = some (.lst xs)) : jA K H (.ref a) (.type "list")
 | dX {a : Addr} {o : Obj} {xs : List V} (e : H a = some (.dX o (.lst xs))) : jA K H (.ref a) (.type "list")
 | tup {a : Addr} {xs : List V} (e : H a = some (.tup xs)) : jA K H (.ref a) (.type "tuple")
 | dK {a : Addr} {kvs : List (Key × V)} (e : H a = some (.dK kvs)) : jA K H (.ref a) (.type "dict")
 | dT {a : Addr} {kvs : List (List Key × V)} (e : H a = some (.dT kvs)) : jA K H (.ref a) (.type "dict")
 | ins {a C dx : Addr} {fs : List (Str × V)} (e : H a = some (.ins C dx fs)) (cl : mV K C) (ha : PySem.W.findIn K (.ref C) "__class__" = some (some (.builtin "object.__class__")))
  (hn : PySem.W.specialIn K (.builtin "object.__class__") "__get__" = some (some (.builtin "getset_descriptor.__get__"))) (yx : PySem.W.takesIn K (.builtin "object.__class__") = some true)
  (hm : PySem.W.mroIn K C (.type "object") = some true) : jA K H (.ref a) (.ref C)
theorem uP {x : V} {u t : Value} (I : Inv X pins σ H s) (rx : RelV x u) (ty : jA X.K H x t) (e : PySem.W.kitOne X.K t c = some b) (h : ∀ tk, Q (.bool b) { s with toks := tk }) :
 wpAny (model X.prog X.w) A (call (.builtin "isinstance") [u, c]) Q E s := by
 cases ty with
 | aP => cases (show u = Value.none from rx); exact PySem.W.kia_one PySem.W.kitx_none I.fL True.intro e (fun z => nomatch z) h
 | bl y => cases (show u = Value.bool y from rx); exact PySem.W.kia_one PySem.W.kitx_bool I.fL True.intro e (fun z => nomatch z) h
 | int i => obtain ⟨t, q⟩ := (show ∃ t, u = Value.int i t from rx); cases q; exact PySem.W.kia_one PySem.W.kitx_int I.fL True.intro e (fun z => nomatch z) h
 | str y => obtain ⟨t, q⟩ := (show ∃ t, u = Value.str y t from rx); cases q; exact PySem.W.kia_one PySem.W.kitx_str I.fL True.intro e (fun z => nomatch z) h
 | D6 y => obtain ⟨t, q⟩ := (show ∃ t, u = Value.float y t from rx); cases q; exact PySem.W.kia_one PySem.W.kitx_float I.fL True.intro e (fun z => nomatch z) h
 | @lst a xs ea =>
   cases (show u = Value.ref a from rx)
   obtain ⟨_, _, n, _, h1⟩ := (show aO X.prog X.w H s.heap a (.lst xs) from I.aF a _ ea)
   exact PySem.W.kia_one PySem.W.kitx_list I.fL ⟨_, h1, rfl⟩ e (fun z => nomatch z) h
 | @dX a ob xs ea =>
   cases (show u = Value.ref a from rx)
   obtain ⟨_, _, _, n, _, h1⟩ := (show aO X.prog X.w H s.heap a (.dX ob (.lst xs)) from I.aF a _ ea)
   exact PySem.W.kia_one PySem.W.kitx_list I.fL ⟨_, h1, rfl⟩ e (fun z => nomatch z) h
 | @tup a xs ea =>
   cases (show u = Value.ref a from rx)
   obtain ⟨_, _, _, p⟩ := (show aO X.prog X.w H s.heap a (.tup xs) from I.aF a _ ea)
   obtain ⟨o, h1, h2, _⟩ := p
   exact PySem.W.kia_one PySem.W.kitx_tuple I.fL ⟨o, h1, h2⟩ e (fun z => nomatch z) h
 | @dK a kvs ea =>
   cases (show u = Value.ref a from rx)
   obtain ⟨_, _, vs, _, p⟩ := (show aO X.prog X.w H s.heap a (.dK kvs) from I.aF a _ ea)
   obtain ⟨o, es, ep, h1, h2, _⟩ := p
   exact PySem.W.kia_one PySem.W.kitx_dict I.fL ⟨o, h1, h2.1⟩ e (fun z => nomatch z) h
 | @dT a kvs ea =>
   cases (show u = Value.ref a from rx)
   obtain ⟨_, _, xs, _, o, es, ep, h1, h2, _⟩ := (show aO X.prog X.w H s.heap a (.dT kvs) from I.aF a _ ea)
   exact PySem.W.kia_one PySem.W.kitx_dict I.fL ⟨o, h1, h2.1⟩ e (fun z => nomatch z) h
 | @ins a C dx fs ea cl ha hn yx hm =>
   cases (show u = Value.ref a from rx)
   obtain ⟨mA, O, _⟩ := lh I.aF ea
   obtain ⟨od, J, _⟩ := O.look
   exact PySem.W.kia_one (PySem.W.kitx_own (cl.get _) cl.hd ha hn yx hm) I.fL J e (fun z => nomatch z) h
end
structure aU (k : Nat) (A : Around) : Prop where
 hd : A.handled = none
 dp : A.depth + 3 * k + 5 < recursionLimit
 un : A.units + 16 * k + 200 < cLine
theorem aU.mono {j k : Nat} {A : Around} (r : aU k A) (h : j <= k) : aU j A := ⟨r.hd, by have := r.dp; omega, by have := r.un; omega⟩
theorem aU.deeper {k : Nat} {A : Around} (r : aU (k + 1) A) (env : Env) : aU k (A.deeper env) :=
 ⟨r.hd, by have := r.dp; show A.depth + 1 + 3 * k + 5 < _; omega, by have := r.un; show A.units + 3 + 16 * k + 200 < _; omega⟩
theorem aU.in1 {k : Nat} {A : Around} (r : aU (k + 1) A) : aU k A.in1 :=
 ⟨r.hd, by have := r.dp; show A.depth + 3 * k + 5 < _; omega, by have := r.un; show A.units + 1 + 16 * k + 200 < _; omega⟩
theorem tf {A : Around} {C : Addr} {us : List Value} {kw : List (Str × Value)} : (A.under (.builtin "type.__call__" ⟨.ref C :: us, kw⟩)).depth = A.depth + 1 := by
 first | rfl | simp [Around.under, Code.weight, Code.isCreation, Code.isGuard, Code.isCaller, Code.frames, Code.isFrame, guardIds]
theorem rW {A : Around} {C : Addr} {us : List Value} {kw : List (Str × Value)} : (A.under (.builtin "type.__call__" ⟨.ref C :: us, kw⟩)).units = A.units + 1 := by
 first | rfl | simp [Around.under, Code.cUnits, Code.frames, Code.isFrame]
theorem aU.make {k : Nat} {A : Around} (r : aU (k + 1) A) (C : Addr) (us : List Value) (kw : List (Str × Value)) : aU k (A.under (.builtin "type.__call__" ⟨.ref C :: us, kw⟩)) :=
 ⟨r.hd, by have := r.dp; rw [tf]; omega, by have := r.un; rw [rW]; omega⟩
theorem aU.depth {k : Nat} {A : Around} (r : aU k A) : A.depth < recursionLimit := by have := r.dp; omega
theorem aU.units {k : Nat} {A : Around} (r : aU k A) : A.units + 64 < cLine := by have := r.un; omega
def rz : TA := fun _ H Q => Q [] H
def B8 (ta : TE) (tr : TA) : TA := fun σ H Q => ta σ H fun x H1 => tr σ H1 fun xs H2 => Q (x :: xs) H2
section
variable {X : Cx} {e : Expr} {es : List Expr} {te : TE} {t : TA} {pos : Pos}
theorem ao : PA X [] rz := fun _ _ _ _ H Q I h => Calls.spliced_nil ⟨[], H, I, .nil, h⟩
theorem ag (ha : PE X e te) (hr : PA X es t) (hs : starEach (e :: es) X.env = (false, eval e X.env) :: starEach es X.env := by rfl) : PA X (e :: es) (B8 te t) := by
 intro pos pins s σ H Q I h
 rw [hs]
 show wpAny _ _ (spliced ((false, eval e X.env) :: backTo pos (starEach es X.env))) _ _ s
 refine Calls.spliced_cons (bR (ha pins s σ H _ I h) fun u s1 ⟨x, H1, I1, r1, q1⟩ => ?_)
 exact bR (hr pos pins s1 σ H1 _ I1 q1) fun us s2 ⟨xs, H2, I2, r2, q2⟩ => ⟨x :: xs, H2, I2, .cons r1 r2, q2⟩
def Kq (t : TA) : TE := fun σ H Q => t σ H fun xs H1 => xs.length <= sizeLine /\ ∀ p, H1 p = none -> Q (.ref p) (upd H1 p (.tup xs))
def KD (t : TA) : TE := fun σ H Q => t σ H fun xs H1 => xs.length <= sizeLine /\ ∀ p, H1 p = none -> Q (.ref p) (upd H1 p (.lst xs))
theorem E4 {x1} (h : PA X es t) : PE X (.Tuple es x1 pos) (Kq t) := by
 intro pins s σ H Q I hq
 refine wpAny_Tuple_spliced (bR (h pos pins s σ H _ I hq) fun us s1 ⟨xs, H1, I1, r, z, q⟩ => ⟨by rw [<- r.length]; exact z, ?_⟩)
 have hf : H1 s1.heap.objs.size = none := I1.aF.fresh (Nat.le_refl _)
 refine ⟨.ref s1.heap.objs.size, upd H1 s1.heap.objs.size (.tup xs), I1.laid (t' := s1.toks) (fun b u e => Heap.get?_push_of_some _ e) (Nat.le_refl _) ?_, rfl, q _ hf⟩
 exact ⟨z, us, r, ⟨_, Heap.get?_push_size _ rfl, rfl, _, rfl⟩⟩
theorem D1 (h : PA X es t) : PE X (.List es pos) (KD t) := by
 intro pins s σ H Q I hq
 refine wpAny_List_spliced (bR (h pos pins s σ H _ I hq) fun us s1 ⟨xs, H1, I1, r, z, q⟩ => ⟨by rw [<- r.length]; exact z, ?_⟩)
 have hf : H1 s1.heap.objs.size = none := I1.aF.fresh (Nat.le_refl _)
 refine ⟨.ref s1.heap.objs.size, upd H1 s1.heap.objs.size (.lst xs), I1.laid (t' := s1.toks) (fun b u e => Heap.get?_push_of_some _ e) (Nat.le_refl _) ?_, rfl, q _ hf⟩
 exact ⟨z, us, 0, r, Heap.get?_push_size _ rfl⟩
end
abbrev Sp := List V -> Hp -> VK -> XK -> Prop
abbrev pB := List Env -> Hp -> Shared -> XK -> Value -> Shared -> Prop
structure k6 (P : Program) (w : World) (K : PySem.W.Frag) (mg : Str -> Option Value) (base : Heap) (A : Around) (outer : List Env) (s : Shared) (H : Hp) : Prop where
 frames : A.frames = some outer
 mod : Mod K mg base
 bs : ∀ b o, base.get? b = some o -> s.heap.get? b = some o /\ H b = none
 pA : base.objs.size <= s.heap.objs.size
 fX : s.heap.FunFrames base outer
 sf : ∀ b ∈ my outer, H b = none
 aF : fW P w H s.heap
 bare : AllBare s.gens
def CE (outer : List Env) (P : Program) (w : World) (H : Hp) (s : Shared) (Q : VK) (u : Value) (s' : Shared) : Prop :=
 ∃ v H', s'.os = s.os /\ AllBare s'.gens /\ Un (my outer) [] H H' s.heap s'.heap /\ fW P w H' s'.heap /\ RelV v u /\ Q v H'
def CR (CX : pB) (outer : List Env) (P : Program) (w : World) (H : Hp) (s : Shared) (Q : VK) (E : XK) (r : Result) (s' : Shared) : Prop :=
 match r with
 | .ok (.ret u) => CE outer P w H s Q u s'
 | .ok _ => False
 | .error e => CX outer H s E e s'
structure bH (P : Program) (w : World) (K : PySem.W.Frag) (mg : Str -> Option Value) (base : Heap) (CX : pB) (k : Nat) (f : Addr) (fd : FuncData) (ps : List Str) (sp : Sp) : Prop where
 len : ∀ vs H Q E, sp vs H Q E -> vs.length = ps.length
 run : ∀ (A : Around) (outer : List Env) (s : Shared) (H : Hp) (args : Args) (us : List Value) (vs : List V) (Q : VK) (E : XK), aU k A -> k6 P w K mg base A outer s H -> BindsTo s fd args (ps.zip us) -> Vals vs us -> sp vs H Q E ->
  codeAny (model P w) A (.call (.ref f) args) (CR CX outer P w H s Q E) s
theorem bH.mono {P : Program} {w : World} {K : PySem.W.Frag} {mg : Str -> Option Value} {base : Heap} {CX : pB} {j k : Nat} {f : Addr} {fd : FuncData} {ps : List Str} {sp : Sp} (F : bH P w K mg base CX j f fd ps sp) (h : j <= k) :
 bH P w K mg base CX k f fd ps sp := ⟨F.len, fun A outer s H args us vs Q E hr => F.run A outer s H args us vs Q E (hr.mono h)⟩
theorem k6.make {P : Program} {w : World} {K : PySem.W.Frag} {mg : Str -> Option Value} {base : Heap} {A : Around} {outer : List Env} {s : Shared} {H : Hp} (e : k6 P w K mg base A outer s H) (C : Addr) (us : List Value) (kw : List (Str × Value)) :
 k6 P w K mg base (A.under (.builtin "type.__call__" ⟨.ref C :: us, kw⟩)) outer s H := ⟨by first | exact e.frames | (simpa [Around.under, Code.envs, Code.isFrame, pushEnvs] using e.frames), e.mod, e.bs, e.pA, e.fX, e.sf, e.aF, e.bare⟩
theorem k6.in1 {P : Program} {w : World} {K : PySem.W.Frag} {mg : Str -> Option Value} {base : Heap} {A : Around} {outer : List Env} {s : Shared} {H : Hp} (e : k6 P w K mg base A outer s H) :
 k6 P w K mg base A.in1 outer s H := ⟨e.frames, e.mod, e.bs, e.pA, e.fX, e.sf, e.aF, e.bare⟩
section
variable {X : Cx} {pins : List (Addr × Obj)} {σ : St} {H : Hp} {s s' : Shared}
theorem Inv.sd (I : Inv X pins σ H s) : k6 X.prog X.w X.K X.mg X.base X.A X.stack s H :=
 ⟨I.ok.frames, I.ok.mod, I.bs, Nat.le_trans I.ok.pA I.sz, I.stack, I.lC, I.aF, I.bare⟩
theorem Inv.after {Q : VK} {u : Value} (I : Inv X pins σ H s) (h : CE X.stack X.prog X.w H s Q u s') : EP X pins σ Q u s' := by
 obtain ⟨v, H', os, bare, un, aF, r, q⟩ := h
 obtain ⟨hh, g, d, t, Kz⟩ := s'
 obtain rfl : Kz = s.os := os
 exact ⟨v, H', I.call (h' := hh) (g' := g) (d' := d) (t' := t) (ch := []) un aF bare (fun b z => absurd z (by simp)), r, q⟩
end
def uz (sp : Sp) (bA : List V) (E : XK) (t : TA) : TE := fun σ H Q => t σ H fun vs H1 => sp (vs ++ bA) H1 Q E
def nI (C : Addr) (m : Str) (sp : Sp) (bA : List V) (E : XK) (ta : TE) (t : TA) : TE := fun σ H Q => ta σ H fun x H1 => ∃ a dx fs, x = .ref a /\ H1 a = some (.ins C dx fs) /\ fs.lookup m = none /\
 t σ H1 fun vs H2 => sp (x :: (vs ++ bA)) H2 Q E
def xF (C : Addr) (sp : Sp) (bA : List V) (E : XK) (t : TA) : TE := fun σ H Q => t σ H fun vs H1 => ∀ x dx, H1 x = none -> H1 dx = none -> dx ≠ x ->
 sp (.ref x :: (vs ++ bA)) (upd (upd H1 dx (.own x)) x (.ins C dx [])) (fun v H2 => v = .aP /\ Q (.ref x) H2) E
def Binds (K : PySem.W.Frag) (fd : FuncData) (ps : List Str) (ds : List Value) : Prop :=
 ∀ (s : Shared) (us : List Value), K.In s.heap -> (us ++ ds).length = ps.length -> BindsTo s fd ⟨us, []⟩ (ps.zip (us ++ ds))
theorem Binds.all {K : PySem.W.Frag} {fd : FuncData} {ps : List Str} (h : ∀ us : List Value, us.length = ps.length -> bindArgs fd ⟨us, []⟩ = pure (ps.zip us)) : Binds K fd ps [] := fun s us _ hl => by
 rw [List.append_nil] at hl ⊢
 exact .of_eq (h us hl)
def Passes (CX : pB) (X : Cx) (E : XK) : Prop := ∀ (pins : List (Addr × Obj)) (σ : St) (H : Hp) (s : Shared) (e : Value) (s' : Shared), Inv X pins σ H s -> CX X.stack H s E e s' -> X.xe e s'
section
variable {X : Cx} {CX : pB} {k : Nat} {f C : Addr} {fd : FuncData} {ps : List Str} {sp : Sp} {bA : List V} {ds : List Value} {E : XK} {x m : Str} {p pos apos : Pos} {e o : Expr} {es : List Expr} {ta : TE} {t : TA}
theorem sM {pins : List (Addr × Obj)} {σ : St} {H : Hp} {s : Shared} {Q : VK} {us : List Value} {vs : List V} (F : bH X.prog X.w X.K X.mg X.base CX k f fd ps sp) (hr : aU k X.A) (hb : Binds X.K fd ps ds) (hd : Vals bA ds) (hx : Passes CX X E)
 (I : Inv X pins σ H s) (r : Vals vs us) (h : sp (vs ++ bA) H Q E) : wpAny (model X.prog X.w) X.A (call (.ref f) us) (EP X pins σ Q) X.xe s := by
 have r2 : Vals (vs ++ bA) (us ++ ds) := r.append hd
 have hl : (us ++ ds).length = ps.length := by rw [<- r2.length]; exact F.len _ _ _ _ h
 refine wpAny_call (codeAny_mono (F.run X.A X.stack s H ⟨us, []⟩ (us ++ ds) (vs ++ bA) Q E hr I.sd (hb s us I.fL hl) r2 h) fun r s' hq => ?_)
 cases r with
 | error e => exact hx pins σ H s e s' I hq
 | ok fl =>
   cases fl with
   | ret u => exact I.after hq
   | next => exact False.elim hq
   | brk => exact False.elim hq
   | cont => exact False.elim hq
theorem Bc (F : bH X.prog X.w X.K X.mg X.base CX k f fd ps sp) (hr : aU k X.A) (hg : Gl X x) (hm : X.mg x = some (.ref f)) (hk : PySem.W.keepIn X.K (.ref f) = true) (hb : Binds X.K fd ps ds) (hd : Vals bA ds) (hx : Passes CX X E)
 (ha : PA X (e :: es) t) (o4 : (x == ("__debug__" : Str)) = false := by decide) (he : starEach (e :: es) X.env = (false, eval e X.env) :: starEach es X.env := by rfl) (kl : (backTo pos (starEach es X.env)).any (·.1) = false := by rfl) :
 PE X (.Call (.Name x p) (e :: es) [] pos) (uz sp bA E t) := by
 intro pins s σ H Q I h
 refine wpAny_Call_Name_kw (iS I hg hm ?_ o4)
 refine PySem.W.callWith_K (h₀ := X.base) I.ok.mod.Fh hk (bR (ha pos pins s σ H _ I h) fun us s1 ⟨vs, H1, I1, r, q⟩ => ⟨I1.fL, ?_⟩) he kl
 exact sM F hr hb hd hx I1 r q
theorem zV {pl : Sem Bool} (he : PE X o ta) (c : mV X.K C) (hm : Meth X.K C m f) (F : bH X.prog X.w X.K X.mg X.base CX k f fd ps sp) (hr : aU k X.A) (hb : Binds X.K fd ps ds) (hd : Vals bA ds) (hx : Passes CX X E) (ha : PA X (e :: es) t)
 (kN : starEach (e :: es) X.env = (false, eval e X.env) :: starEach es X.env := by rfl) (kl : (backTo pos (starEach es X.env)).any (·.1) = false := by rfl)
 (ht : eval (.Call (.Attribute o m apos) (e :: es) [] pos) X.env = (do
  let ov <- eval o X.env
  standAt apos.atName
  let (f, first) <- holding [ov] (getMethod ov m pl)
  callWith pos f first (backTo pos (starEach (e :: es) X.env)) (backToKw pos (keywordEach [] X.env))) := by rfl) :
 PE X (.Call (.Attribute o m apos) (e :: es) [] pos) (nI C m sp bA E ta t) := by
 intro pins s σ H Q I h
 refine PySem.W.methodCall_KW (pl := pl) (bR (he pins s σ H _ I h) fun u s1 ⟨x, H1, I1, rx, a, dx, fs, ex, ea, l, q⟩ => ?_) ht
 subst ex
 obtain rfl : u = Value.ref a := rx
 refine gu I1 ea c hm l ?_
 refine PySem.W.callWith_K (first := [.ref a]) (h₀ := X.base) I.ok.mod.Fh hm.kp (bR (ha pos pins s1 σ H1 _ I1 q) fun us s2 ⟨vs, H2, I2, r, q2⟩ => ⟨I2.fL, ?_⟩) kN kl
 exact sM (us := .ref a :: us) (vs := .ref a :: vs) F hr hb hd hx I2 (.cons rfl r) q2
theorem xX {pl : Sem Bool} (he : PE X o ta) (c : mV X.K C) (hm : Meth X.K C m f) (F : bH X.prog X.w X.K X.mg X.base CX k f fd ps sp) (hr : aU k X.A) (hb : Binds X.K fd ps ds) (hd : Vals bA ds) (hx : Passes CX X E)
 (ht : eval (.Call (.Attribute o m apos) [] [] pos) X.env = (do
  let ov <- eval o X.env
  standAt apos.atName
  let (f, first) <- holding [ov] (getMethod ov m pl)
  callWith pos f first (backTo pos (starEach [] X.env)) (backToKw pos (keywordEach [] X.env))) := by rfl) :
 PE X (.Call (.Attribute o m apos) [] [] pos) (nI C m sp bA E ta rz) := by
 intro pins s σ H Q I h
 refine PySem.W.methodCall_KW (pl := pl) (bR (he pins s σ H _ I h) fun u s1 ⟨x, H1, I1, rx, a, dx, fs, ex, ea, l, q⟩ => ?_) ht
 subst ex
 obtain rfl : u = Value.ref a := rx
 refine gu I1 ea c hm l ?_
 exact PySem.W.callWith_K0 (first := [.ref a]) I1.fL hm.kp (sM (us := [.ref a]) (vs := [.ref a]) F hr hb hd hx I1 (.cons rfl .nil) q)
structure Mk (K : PySem.W.Frag) (C f : Addr) : Prop where
 makes : PySem.W.makesIn K C = true
 init : PySem.W.findIn K (.ref C) "__init__" = some (some (.ref f))
 fn : PySem.W.isFn K (.ref f) = true
 kp : PySem.W.keepIn K (.ref C) = true
theorem wm {pins : List (Addr × Obj)} {σ : St} {H : Hp} {s : Shared} {Q : VK} {us : List Value} {vs : List V} (M : Mk X.K C f) (F : bH X.prog X.w X.K X.mg X.base CX k f fd ps sp) (hr : aU (k + 1) X.A) (hb : Binds X.K fd ps ds) (hd : Vals bA ds)
 (hx : Passes CX X E) (I : Inv X pins σ H s) (r : Vals vs us)
 (h : ∀ x dx, H x = none -> H dx = none -> dx ≠ x -> sp (.ref x :: (vs ++ bA)) (upd (upd H dx (.own x)) x (.ins C dx [])) (fun v H2 => v = .aP /\ Q (.ref x) H2) E) :
 wpAny (model X.prog X.w) X.A (call (.ref C) us) (EP X pins σ Q) X.xe s := by
 have hq := h (s.heap.objs.size + 1) s.heap.objs.size (I.aF.fresh (Nat.le_succ _)) (I.aF.fresh (Nat.le_refl _)) (Nat.ne_of_lt (Nat.lt_succ_self _))
 have I2 := Inv.made (C := C) I
 have r2 : Vals (V.ref (s.heap.objs.size + 1) :: (vs ++ bA)) (Value.ref (s.heap.objs.size + 1) :: (us ++ ds)) := .cons rfl (r.append hd)
 have hl : (Value.ref (s.heap.objs.size + 1) :: us ++ ds).length = ps.length := by
  have e := r2.length
  rw [F.len _ _ _ _ hq] at e
  exact e.symm
 refine wpAny_call (xI (f := f) I.fL M.makes M.init (beq_iff_eq.mp M.fn) (codeAny_mono (F.run _ X.stack _ _ ⟨Value.ref (s.heap.objs.size + 1) :: us, []⟩ (Value.ref (s.heap.objs.size + 1) :: (us ++ ds)) _ _ E (hr.make C us [])
  (I2.sd.make C us []) (hb _ (Value.ref (s.heap.objs.size + 1) :: us) I2.fL hl) r2 hq) fun r s' uK => ?_))
 cases r with
 | error e => exact hx pins σ _ _ e s' I2 uK
 | ok fl =>
   cases fl with
   | ret u =>
     obtain ⟨v, H', I3, rv, ev, q3⟩ := I2.after uK
     subst ev
     exact ⟨rv, ⟨V.ref (s.heap.objs.size + 1), H', I3, rfl, q3⟩⟩
   | next => exact False.elim uK
   | brk => exact False.elim uK
   | cont => exact False.elim uK
theorem xR (M : Mk X.K C f) (F : bH X.prog X.w X.K X.mg X.base CX k f fd ps sp) (hr : aU (k + 1) X.A) (hg : Gl X x) (hm : X.mg x = some (.ref C)) (hb : Binds X.K fd ps ds) (hd : Vals bA ds) (hx : Passes CX X E)
 (o4 : (x == ("__debug__" : Str)) = false := by decide) : PE X (.Call (.Name x p) [] [] pos) (xF C sp bA E rz) := by
 intro pins s σ H Q I h
 refine wpAny_Call_Name_kw (iS I hg hm ?_ o4)
 exact PySem.W.callWith_K0 I.fL M.kp (wm (us := []) M F hr hb hd hx I .nil h)
end
section
variable {X : Cx} {CX : pB} {k : Nat} {f C : Addr} {fd : FuncData} {ps ks : List Str} {sp : Sp} {E : XK} {x m : Str} {p pos apos DJ : Pos} {e o : Expr} {es : List Expr} {SJ : List Keyword} {te ta : TE} {t tk : TA} {nm : Option Str}
structure Ku (K : PySem.W.Frag) (fd : FuncData) (ps ks : List Str) (g : List Value -> List Value -> List Value) (gV : List V -> List V -> List V) : Prop where
 to : ∀ (s : Shared) (us ws : List Value), K.In s.heap -> (g us ws).length = ps.length -> BindsTo s fd ⟨us, ks.zip ws⟩ (ps.zip (g us ws))
 rel : ∀ {vs : List V} {us : List Value} {zs : List V} {ws : List Value}, Vals vs us -> Vals zs ws -> Vals (gV vs zs) (g us ws)
variable {g : List Value -> List Value -> List Value} {gV : List V -> List V -> List V}
end
structure aG (N P : List Str) (sc : Scope) : Prop where
 kind : sc.kind = .function
 co : sc.isCoroutine = false
 gen : sc.isGenerator = false
 nd : N.Nodup
 pre : N.take P.length = P
 par : ∀ x ∈ P, sc.names.lookup x = some .local \/ sc.names.lookup x = some .cell
 C8 : ∀ y ∈ sc.names, y.2 ≠ .free
theorem n0 {kindOf : Str -> Option NameKind} {x : Str} : ∀ {binds : List (Str × Value)} {m : Str -> Option Value}, (∀ v, (x, v) ∉ binds) -> bindL kindOf binds m x = m x
 | [], _, _ => rfl
 | (n, v) :: r, m, h => by
   unfold bindL
   rw [n0 fun w hw => h w (List.mem_cons_of_mem _ hw)]
   split
   . have : x ≠ n := by rintro rfl; exact h v List.mem_cons_self
     simp [this]
   . rfl
theorem nF {kindOf : Str -> Option NameKind} {x : Str} : ∀ {binds : List (Str × Value)} {m : Str -> Option Value}, (∀ v, (x, v) ∉ binds) -> bindC kindOf binds m x = m x
 | [], _, _ => rfl
 | (n, v) :: r, m, h => by
   unfold bindC
   rw [nF fun w hw => h w (List.mem_cons_of_mem _ hw)]
   split
   . rfl
   . have : x ≠ n := by rintro rfl; exact h v List.mem_cons_self
     simp [this]
theorem nU {kindOf : Str -> Option NameKind} {x : Str} {v : Value} : ∀ {P : List Str} {vs : List Value} {i : Nat} {m : Str -> Option Value}, P.Nodup -> P[i]? = some x -> vs[i]? = some v -> kindOf x = some .local ->
 bindL kindOf (P.zip vs) m x = some v
 | [], _, _, _, _, h, _, _ => by simp at h
 | _ :: _, [], _, _, _, _, h, _ => by simp at h
 | p :: P, w :: vs, 0, m, nd, h1, h2, hk => by
   simp at h1 h2; subst h1; subst h2
   show bindL kindOf ((p, w) :: P.zip vs) m p = _
   unfold bindL
   rw [n0 fun v hv => (List.nodup_cons.mp nd).1 (List.of_mem_zip hv).1, if_pos hk]
   simp
 | p :: P, w :: vs, i + 1, m, nd, h1, h2, hk => by
   show bindL kindOf ((p, w) :: P.zip vs) m x = _
   unfold bindL
   exact nU (i := i) (List.nodup_cons.mp nd).2 (by simpa using h1) (by simpa using h2) hk
theorem nE {kindOf : Str -> Option NameKind} {x : Str} {v : Value} : ∀ {P : List Str} {vs : List Value} {i : Nat} {m : Str -> Option Value}, P.Nodup -> P[i]? = some x -> vs[i]? = some v -> kindOf x ≠ some .local ->
 bindC kindOf (P.zip vs) m x = some v
 | [], _, _, _, _, h, _, _ => by simp at h
 | _ :: _, [], _, _, _, _, h, _ => by simp at h
 | p :: P, w :: vs, 0, m, nd, h1, h2, hk => by
   simp at h1 h2; subst h1; subst h2
   show bindC kindOf ((p, w) :: P.zip vs) m p = _
   unfold bindC
   rw [nF fun v hv => (List.nodup_cons.mp nd).1 (List.of_mem_zip hv).1, if_neg hk]
   simp
 | p :: P, w :: vs, i + 1, m, nd, h1, h2, hk => by
   show bindC kindOf ((p, w) :: P.zip vs) m x = _
   unfold bindC
   exact nE (i := i) (List.nodup_cons.mp nd).2 (by simpa using h1) (by simpa using h2) hk
def start (N : List Str) (vs : List V) : St := vs.map some ++ List.replicate (N.length - vs.length) none
def iU (CX : pB) (P : Program) (w : World) (K : PySem.W.Frag) (mg : Str -> Option Value) (base : Heap) (N : List Str) (qual : Str) (scope : Scope) (f : Addr) (cd : Value) (A : Around) (outer : List Env) (s : Shared) (H : Hp) (E : XK) : Cx where
 prog := P
 w := w
 K := K
 mg := mg
 base := base
 A := A.deeper (envOfC qual scope s.heap.objs.size f cd)
 N := N
 cf := s
 qe := H
 env := envOfC qual scope s.heap.objs.size f cd
 outer := outer
 stack := envOfC qual scope s.heap.objs.size f cd :: outer
 ex := []
 calm := true
 fn := fun _ => true
 pn := []
 xe := fun e s' => wpAny (model P w) (A.deeper (envOfC qual scope s.heap.objs.size f cd)) (leaving (envOfC qual scope s.heap.objs.size f cd) e) (fun _ KZ => CX outer H s E e KZ) (fun e' KZ => CX outer H s E e' KZ) s'
theorem pY {sc : Scope} {n : Nat} {x : Str} (h : sc.names.lookup x = some .cell) : ∃ c, (cellsFrom n sc.names []).lookup x = some c := by
 have q := PySem.W.cellsFrom_some sc.names n [] (.inl h)
 exact Option.isSome_iff_exists.mp q
theorem nY {CX : pB} {P : Program} {w : World} {K : PySem.W.Frag} {mg : Str -> Option Value} {base : Heap} {N ps : List Str} {qual : Str} {scope : Scope} {f : Addr} {cd : Value} {A : Around} {outer : List Env} {s s1 : Shared} {H : Hp} {E : XK} {us : List Value} {vs : List V}
 (S : aG N ps scope) (hd : A.handled = none) (e0 : k6 P w K mg base A outer s H) (hl : vs.length = ps.length) (r : Vals vs us)
 (x : InCallC s s.heap.objs.size (bindL (envOfC qual scope s.heap.objs.size f cd).kindOf (ps.zip us) fun _ => none) (cellsFrom (s.heap.objs.size + 1) scope.names []) (bindC (envOfC qual scope s.heap.objs.size f cd).kindOf (ps.zip us) fun _ => none) s1) :
 Inv (iU CX P w K mg base N qual scope f cd A outer s H E) [] (start N vs) H s1 := by
 have kl : ps.length <= N.length := by have := congrArg List.length S.pre; rw [List.length_take] at this; omega
 obtain ⟨h1, tk, rfl, hk⟩ := x.done
 have Aa : ∀ b : Addr, b ∉ (iU CX P w K mg base N qual scope f cd A outer s H E).ex := fun b z => absurd (show b ∈ ([] : List Addr) from z) (by simp)
 refine ⟨⟨e0.mod, S.kind, rfl, rfl, Nat.le_refl _, fun y z c h1 h2 => ?_, fun y hy => ?_, fun y c _ h => ?_, fun _ => hd, Around.frames_deeper e0.frames, .inr ⟨rfl, rfl⟩, fun b z => absurd z (Aa b), e0.bs, e0.pA, fun b _ _ => Aa b, fun b z => absurd z (Aa b), e0.fX, e0.sf⟩,
  rfl, e0.bare, Un.kept hk, ⟨_, x.toInCall.ns, fun i y v h1 h2 h3 => ?_⟩, fun y c h => ⟨_, x.cell y c h⟩, e0.aF.fresh (Nat.le_refl _), fun y c h => ?_, fun p hp => absurd (show p ∈ ([] : List (Addr × Obj)) from hp) (by simp), e0.aF.kept hk, ?_⟩
 . exact name_of_addr x.apart (PySem.mem_of_lookup h1) (PySem.mem_of_lookup h2)
 . have hy : scope.names.lookup y = some .cell \/ scope.names.lookup y = some .free := hy
   rcases hy with hy | hy
   . exact pY hy
   . exact absurd rfl (S.C8 _ (PySem.mem_of_lookup hy))
 . exact Nat.le_of_lt (x.above y c (PySem.mem_of_lookup h))
 . have hi : i < vs.length := by
    unfold start at h2
    by_cases hi : i < vs.length
    . exact hi
    . rw [List.getElem?_append_right (by simpa using hi)] at h2
      rw [List.getElem?_replicate] at h2
      split at h2 <;> cases h2
   have ha : vs[i]? = some v := by
    unfold start at h2
    rw [List.getElem?_append_left (by simpa using hi), List.getElem?_map] at h2
    cases e : vs[i]? with
    | none => rw [e] at h2; cases h2
    | some a => rw [e] at h2; cases h2; rfl
   obtain ⟨u, hu, rv⟩ := r.get ha
   have hp : ps[i]? = some y := by
    rw [<- S.pre, List.getElem?_take_of_lt (by omega)]; exact h1
   have Nm : ps.Nodup := by rw [<- S.pre]; exact S.nd.sublist (List.take_sublist _ _)
   refine ⟨u, rv, ?_⟩
   rcases S.par y (List.mem_of_getElem? hp) with k | k
   . exact .inl ⟨k, nU Nm hp hu k⟩
   . obtain ⟨c, e⟩ := pY (n := s.heap.objs.size + 1) k
     refine .inr ⟨.inl k, c, e, ?_⟩
     have q := x.cell y c e
     rw [nE Nm hp hu (by show scope.names.lookup y ≠ _; rw [k]; decide)] at q
     exact q
 . exact e0.aF.fresh (Nat.le_of_lt (x.above y c (PySem.mem_of_lookup h)))
 . unfold start
   show _ = N.length
   rw [List.length_append, List.length_map, List.length_replicate]
   omega
theorem vU {CX : pB} {P : Program} {w : World} {K : PySem.W.Frag} {mg : Str -> Option Value} {base : Heap} {k : Nat} {f : Addr} {name qual : Str} {params : Arguments} {body : List Stmt} {scope : Scope} {dV kV doc pm cV ct oc : Value} {an od : Option Addr}
 {qW : Array (Option Value)} {N ps : List Str} {sp : Sp} (lk : K.lookup f = some ⟨oc, od, .func (PySem.W.fnOf name qual params body scope dV kV doc pm an cV ct), qW⟩) (kX : PySem.W.codeIn K cV qual = true) (S : aG N ps scope)
 (len : ∀ vs H Q E, sp vs H Q E -> vs.length = ps.length)
 (gS : ∀ (A : Around) (outer : List Env) (s : Shared) (H : Hp) (vs : List V) (Q : VK) (E : XK), aU k (A.deeper (envOfC qual scope s.heap.objs.size f cV)) -> sp vs H Q E ->
  ∃ t, nj (iU CX P w K mg base N qual scope f cV A outer s H E) body t /\ t { nx := fun _ H' => Q .aP H', rt := Q } (start N vs) H) :
 bH P w K mg base CX (k + 1) f (PySem.W.fnOf name qual params body scope dV kV doc pm an cV ct) ps sp := by
 refine ⟨len, fun A outer s H args us vs Q E hr e0 hb r qQ => ?_⟩
 have hl := len _ _ _ _ qQ
 have KX : K.In s.heap := e0.mod.Fh.keeps fun b o e => (e0.bs b o e).1
 have lim : s.heap.NoLimit := e0.mod.nolimit.keeps fun b o e => (e0.bs b o e).1
 have yr : ∀ y ∈ ps.zip us, scope.names.lookup y.1 = some .local \/ (scope.names.lookup y.1 = some .cell /\ ((cellsFrom (s.heap.objs.size + 1) scope.names []).lookup y.1).isSome = true) := fun ⟨n, v⟩ hy => by
  rcases S.par n (List.of_mem_zip hy).1 with q | q
  . exact .inl q
  . exact .inr ⟨q, PySem.W.cellsFrom_some _ _ _ (.inl q)⟩
 refine codeAny_call_function hr.depth (KX _ _ lk) rfl S.co S.gen rfl (PySem.W.codeRec_of KX kX) (hb _ _ _ _ ?_)
 refine wpAny_newFunctionEnv_cells S.kind yr fun env he s1 x => ?_
 subst he
 refine ⟨lim.keeps x.toInCall.keep, codeAny_func ?_⟩
 obtain ⟨t, ht, hq⟩ := gS A outer s H vs Q E (hr.deeper _) qQ
 have I : Inv (iU CX P w K mg base N qual scope f cV A outer s H E) [] (start N vs) H s1 := nY S hr.hd e0 hl r x
 refine wpAny_mono (ht [] s1 (start N vs) H _ I hq) (fun fl s' hs => ?_) fun e s' hs => hs
 have fin : ∀ {σ' : St} {H' : Hp} {v : V} {u : Value}, Inv (iU CX P w K mg base N qual scope f cV A outer s H E) [] σ' H' s' -> RelV v u -> Q v H' -> CE outer P w H s Q u s' :=
  fun {σ' H' v u} J rv q => ⟨v, H', J.os, J.bare, J.base, J.aF, rv, q⟩
 cases fl with
 | ret u =>
   obtain ⟨v, σ', H', J, rv, q⟩ := hs
   exact fin J rv q
 | next =>
   obtain ⟨σ', H', J, q⟩ := hs
   exact fin (v := V.aP) (u := Value.none) J rfl q
 | brk =>
   obtain ⟨_, _, _, q⟩ := hs
   exact False.elim q
 | cont =>
   obtain ⟨_, _, _, q⟩ := hs
   exact False.elim q
section
variable {X : Cx} {x : Str} {p pos : Pos} {e : Expr} {es : List Expr} {t : TA} {id T : String} {r : List V -> Hp -> VK -> Prop}
def Mx (r : List V -> Hp -> VK -> Prop) (t : TA) : TE := fun σ H Q => t σ H fun vs H1 => r vs H1 Q
theorem bM (hc : ie X (.builtin id) r) (hg : Gl X x) (hm : X.mg x = none) (hv : bootBuiltins x = some (.builtin id)) (ha : PA X (e :: es) t) (hn : x ≠ "__name__" := by decide) (o4 : (x == ("__debug__" : Str)) = false := by decide)
 (he : starEach (e :: es) X.env = (false, eval e X.env) :: starEach es X.env := by rfl) (kl : (backTo pos (starEach es X.env)).any (·.1) = false := by rfl) : PE X (.Call (.Name x p) (e :: es) [] pos) (Mx r t) := by
 intro pins s σ H Q I h
 refine wpAny_Call_Name_kw (lU I hg hm hv ?_ hn o4)
 exact PyProof.Rows.callWith_builtin1 (bR (ha pos pins s σ H _ I h) fun us s1 ⟨vs, H1, I1, r1, q1⟩ => hc pins s1 σ H1 vs us Q I1 r1 q1) he kl
theorem n5 (hc : ie X (.type T) r) (hg : Gl X x) (hm : X.mg x = none) (hv : bootBuiltins x = some (.type T)) (ha : PA X (e :: es) t) (hn : x ≠ "__name__" := by decide) (o4 : (x == ("__debug__" : Str)) = false := by decide)
 (he : starEach (e :: es) X.env = (false, eval e X.env) :: starEach es X.env := by rfl) (kl : (backTo pos (starEach es X.env)).any (·.1) = false := by rfl) : PE X (.Call (.Name x p) (e :: es) [] pos) (Mx r t) := by
 intro pins s σ H Q I h
 refine wpAny_Call_Name_kw (lU I hg hm hv ?_ hn o4)
 exact PyProof.Rows.callWith_type1 (bR (ha pos pins s σ H _ I h) fun us s1 ⟨vs, H1, I1, r1, q1⟩ => hc pins s1 σ H1 vs us Q I1 r1 q1) he kl
end
end L2
namespace HT
open PySem PyProof.Rows
section
open PySem.SeqAt
open PySem.AutoSeq1 (wpAny_loadPart')
open PySem.MeetsSeq PySem.MeetsSeq2 PySem.MeetsSeq3
end
section
variable {prog : Program} {w : World} {A : Around} {E : Value -> Shared -> Prop} {s : Shared}
def qZ (n d : Nat) : Option Int -> Nat
 | none => d
 | some v => if v < 0 then (v + (n : Int)).toNat else min v.toNat n
theorem tJ (n d k : Nat) : qZ n d (some (k : Int)) = min k n := by
 show (if (k : Int) < 0 then ((k : Int) + (n : Int)).toNat else min (k : Int).toNat n) = min k n
 rw [if_neg (by omega), Int.toNat_natCast]
end
end HT
namespace L2
open PySem PySem.Spec PyProof.Rows
abbrev TO := St -> Hp -> (Option Int -> Hp -> Prop) -> Prop
def PO (X : Cx) (e : Option Expr) (t : TO) : Prop :=
 ∀ (pins : List (Addr × Obj)) (s : Shared) (σ : St) (H : Hp) (Q : Option Int -> Hp -> Prop), Inv X pins σ H s -> t σ H Q ->
   wpAny (model X.prog X.w) X.A (evalPart e X.env) (fun u s' => ∃ o H', Inv X pins σ H' s' /\ IsPart u o /\ Q o H') X.xe s
def CB (t : TE) : TO := fun σ H Q => t σ H fun x H1 => ∃ i, x = .int i /\ Q (some i) H1
section
variable {X : Cx} {e : Expr} {te : TE} {lo hi : Option Expr} {tl th : TO} {pos p2 : Pos}
theorem tD (h : PE X e te) : PO X (some e) (CB te) := by
 intro pins s σ H Q I hw
 rw [evalPart_some]
 refine bR (h pins s σ H _ I hw) fun u s1 ⟨x, H1, I1, r1, q1⟩ => ?_
 obtain ⟨i, rfl, q⟩ := q1
 obtain ⟨t, rfl⟩ := r1
 exact ⟨some i, H1, I1, .int i t, q⟩
def OU (X : Cx) (r : V -> Option Int -> Option Int -> Hp -> VK -> Prop) : Prop :=
 ∀ (pins : List (Addr × Obj)) (s : Shared) (σ : St) (H : Hp) (x : V) (v vl vu : Value) (lo hi : Option Int) (sl : Addr) (Q : VK), Inv X pins σ H s -> RelV x v -> s.heap.IsSliceOf sl vl vu .none -> IsPart vl lo -> IsPart vu hi -> r x lo hi H Q ->
   ∃ T id, typeLookup (.type T) "__getitem__" = pure (some (.builtin id)) /\ s.TypeIs v T /\ wpAny (model X.prog X.w) X.A (getItem v (.ref sl)) (EP X pins σ Q) X.xe s
def N9 (r : V -> Option Int -> Option Int -> Hp -> VK -> Prop) (te : TE) (tl th : TO) : TE := fun σ H Q => te σ H fun x H1 => tl σ H1 fun l H2 => th σ H2 fun u H3 => r x l u H3 Q
theorem ye {r : V -> Option Int -> Option Int -> Hp -> VK -> Prop} (hr : OU X r) (he : PE X e te) (hl : PO X lo tl) (hu : PO X hi th) : PE X (.Subscript e (.Slice lo hi none p2) pos) (N9 r te tl th) := by
 intro pins s σ H Q I h
 refine Subscript_ (bR (he pins s σ H _ I h) fun v s1 ⟨x, H1, I1, r1, q1⟩ => ?_)
 refine wpAny_Slice (bR (hl pins s1 σ H1 _ I1 q1) fun vl s2 ⟨l, H2, I2, pl, q2⟩ => bR (hu pins s2 σ H2 _ I2 q2) fun vu s3 ⟨u, H3, I3, pu, q3⟩ => ?_)
 rw [evalPart_none]
 refine wpAny_pure ?_
 have I4 : Inv X pins σ H3 { s3 with heap := s3.heap.push { cls := .type "slice", data := .fields #[vl, vu, .none] } } := I3.kept (t' := s3.toks) fun b ob q => Heap.get?_push_of_some _ q
 obtain ⟨T, id, hT, ht, hg⟩ := hr pins { s3 with heap := s3.heap.push { cls := .type "slice", data := .fields #[vl, vu, .none] } } σ H3 x v vl vu l u s3.heap.objs.size Q I4 r1 (Heap.IsSliceOf.new ..) pl pu q3
 show wpAny (model X.prog X.w) X.A (subscriptTail e (.Slice lo hi none p2) v (.ref s3.heap.objs.size)) (EP X pins σ Q) X.xe { s3 with heap := s3.heap.push { cls := .type "slice", data := .fields #[vl, vu, .none] } }
 exact tail_any (ops := [.ref s3.heap.objs.size, v]) ht hT hg (by with_unfolding_all rfl)
def vE (xs : List V) (lo hi : Option Int) : List V := (xs.drop (HT.qZ xs.length 0 lo)).take (HT.qZ xs.length xs.length hi - HT.qZ xs.length 0 lo)
theorem pE (xs : List V) (lo hi : Option Int) : (vE xs lo hi).length <= xs.length := by
 unfold vE
 rw [List.length_take, List.length_drop]
 omega
end
def zE (n : Nat) (i : Int) : Option Nat := if 0 <= i then (if i < n then some i.toNat else none) else if -(n : Int) <= i then some (i + n).toNat else none
def m6 {α : Type} (xs : List α) (i : Int) : Option α := (zE xs.length i).bind fun j => xs[j]?
theorem Bt {n : Nat} {i : Int} {j : Nat} (h : zE n i = some j) : seqIndex? i n = some j /\ j < n /\ -(n : Int) <= i /\ i < n := by
 unfold zE at h
 by_cases h0 : 0 <= i
 . rw [if_pos h0] at h
   by_cases h1 : i < n
   . rw [if_pos h1] at h
     have e : i.toNat = j := Option.some.inj h
     exact ⟨by rw [seqIndex_of h0 h1, e], by omega, by omega, h1⟩
   . rw [if_neg h1] at h; cases h
 . rw [if_neg h0] at h
   by_cases h1 : -(n : Int) <= i
   . rw [if_pos h1] at h
     have e : (i + n).toNat = j := Option.some.inj h
     exact ⟨by rw [seqIndex_neg (by omega) h1, e], by omega, h1, by omega⟩
   . rw [if_neg h1] at h; cases h
theorem og {α : Type} {xs : List α} {i : Int} {v : α} (h : m6 xs i = some v) : ∃ j, seqIndex? i xs.length = some j /\ xs[j]? = some v /\ j < xs.length /\ -(xs.length : Int) <= i /\ i < xs.length := by
 unfold m6 at h
 cases e : zE xs.length i with
 | none => rw [e] at h; cases h
 | some j =>
   rw [e] at h
   obtain ⟨h1, h2, h3, h4⟩ := Bt e
   exact ⟨j, h1, h, h2, h3, h4⟩
theorem lb {α : Type} {xs : List α} {j : Nat} {v : α} (h : xs[j]? = some v) : m6 xs (j : Int) = some v := by
 have hj : j < xs.length := (List.getElem?_eq_some_iff.mp h).1
 have e : zE xs.length (j : Int) = some j := by
  unfold zE
  rw [if_pos (by omega), if_pos (by omega)]; simp
 unfold m6; rw [e]; exact h
theorem pD {α : Type} (xs : List α) (v : α) : m6 (xs ++ [v]) (-1) = some v := by
 have hl : (xs ++ [v]).length = xs.length + 1 := by simp
 have e : zE (xs ++ [v]).length (-1) = some xs.length := by
  unfold zE
  rw [hl, if_neg (by decide), if_pos (by omega)]
  congr 1
  omega
 unfold m6
 rw [e]
 show (xs ++ [v])[xs.length]? = some v
 simp
def A0 (b : Expr) : Prop := ∀ o i, subscripted b false o i = operate [o, i] (getItem o i)
def vO (X : Cx) (r : R2) : Prop :=
 ∀ (value slice : Expr) (pins : List (Addr × Obj)) (s : Shared) (σ : St) (H : Hp) (x y : V) (v u : Value) (Q : VK), Inv X pins σ H s -> RelV x v -> RelV y u -> r x y H Q ->
   subscripted slice false v u = operate [v, u] (getItem v u) -> wpAny (model X.prog X.w) X.A (subscriptTail value slice v u) (EP X pins σ Q) X.xe s
def M8 (X : Cx) (id : String) (r : V -> List V -> Hp -> VK -> Prop) : Prop :=
 ∀ (pins : List (Addr × Obj)) (s : Shared) (σ : St) (H : Hp) (x : V) (xs : List V) (v : Value) (us : List Value) (Q : VK), Inv X pins σ H s -> RelV x v -> Vals xs us -> r x xs H Q ->
   wpAny (model X.prog X.w) X.A (call (.builtin id) (v :: us)) (EP X pins σ Q) X.xe s
section
variable {X : Cx} {a b : Expr} {ta tb : TE} {pos : Pos}
theorem vO.or {r r' : R2} (h : vO X r) (h' : vO X r') : vO X (fun x y H Q => r x y H Q \/ r' x y H Q) := by
 intro value slice pins s σ H x y v u Q I rx ry q hs
 rcases q with q | q
 . exact h value slice pins s σ H x y v u Q I rx ry q hs
 . exact h' value slice pins s σ H x y v u Q I rx ry q hs
theorem dR {r : R2} (hr : vO X r) (ha : PE X a ta) (hb : PE X b tb) (hs : A0 b) : PE X (.Subscript a b pos) (Iu r ta tb) := by
 intro pins s σ H Q I h
 exact Subscript_ (Dl ha hb I h fun v u s2 x y H2 I2 rx ry q => hr a b pins s2 σ H2 x y v u Q I2 rx ry q (hs _ _))
def C7 (K : PySem.W.Frag) : R2 := fun x y H Q => ∃ p xs i v, x = .ref p /\ y = .int i /\ dY K H p xs /\ m6 xs i = some v /\ Q v H
def zJ (K : PySem.W.Frag) : R2 := fun x y H Q => ∃ p xs i v, x = .ref p /\ y = .int i /\ r6 K H p xs /\ m6 xs i = some v /\ Q v H
def CV : R2 := fun x y H Q => ∃ z i c, x = .str z /\ y = .int i /\ z.length <= sizeLine /\ m6 z.cps.toList i = some c /\ Q (.str ⟨#[c]⟩) H
theorem ua : vO X (C7 X.K) := by
 intro value slice pins s σ H x y v u Q I rx ry h hs
 obtain ⟨p, xs, i, z, rfl, rfl, hq, he, q⟩ := h
 cases rx
 obtain ⟨t, rfl⟩ := ry
 obtain ⟨aY, r, pl, hz⟩ := I.list hq
 obtain ⟨j, h1, h2, h3, h4, h5⟩ := og he
 obtain ⟨w, ew, xH⟩ := r.get h2
 have hl := r.length
 have hn := j6
 have fin : EP X pins σ Q w s := ⟨z, H, I, xH, q⟩
 by_cases h0 : 0 <= i
 . have hj : i.toNat = j := by
    rw [seqIndex_of h0 h5] at h1
    exact Option.some.inj h1
   exact item_listR pl.isList h0 (by omega) (by rw [hj]; simpa using ew) fin hs
 . have hj : (i + (aY.toArray.size : Int)).toNat = j := by
    rw [seqIndex_neg (by omega) h4] at h1
    rw [List.size_toArray, <- hl]
    exact Option.some.inj h1
   exact subscriptTail_builtinR (x := w) pl.isList.typeIs slot_list_getitem.lookup
    (wpAny_getItem_list_neg (Q := fun r s' => r = w /\ EP X pins σ Q r s') pl.isList (by omega) (by rw [List.size_toArray] <;> omega) (by omega) (by rw [hj]; simpa using ew) ⟨rfl, fin⟩) hs
theorem ow : vO X (zJ X.K) := by
 intro value slice pins s σ H x y v u Q I rx ry h hs
 obtain ⟨p, xs, i, z, rfl, rfl, hq, he, q⟩ := h
 cases rx
 obtain ⟨t, rfl⟩ := ry
 obtain ⟨aY, r, pl, hz⟩ := I.tuple hq
 obtain ⟨j, h1, h2, h3, h4, h5⟩ := og he
 obtain ⟨w, ew, xH⟩ := r.get h2
 have hl := r.length
 have hn := j6
 have fin : EP X pins σ Q w s := ⟨z, H, I, xH, q⟩
 exact subscriptTail_builtinR (x := w) pl.typeIs slot_tuple_getitem.lookup
  (getItem_tuple (j := j) (Q := fun r s' => r = w /\ EP X pins σ Q r s') pl (by omega) (by omega) (by rw [List.size_toArray, <- hl]; exact h1) (by simpa using ew) ⟨rfl, fin⟩) hs
theorem Ek : vO X CV := by
 intro value slice pins s σ H x y v u Q I rx ry h hs
 obtain ⟨z, i, c, rfl, rfl, hz, he, q⟩ := h
 obtain ⟨t, rfl⟩ := rx
 obtain ⟨t', rfl⟩ := ry
 obtain ⟨j, h1, h2, h3, h4, h5⟩ := og he
 have hl : z.cps.toList.length = z.length := by simp [Str.length]
 rw [hl] at h1 h4 h5
 have hn := j6
 exact tail_any (typeIs_str s z t) slot_str_getitem.lookup (getItem_str (c := c) (by
  have e1 : decide (i < -(2 ^ 63 : Int)) = false := decide_eq_false (by omega)
  have e2 : decide (i ≥ 2 ^ 63) = false := decide_eq_false (by omega)
  rw [e1, e2, Bool.or_false]) (by rw [h1]; simpa using h2) ⟨.str ⟨#[c]⟩, H, I.tok _, ⟨_, rfl⟩, q⟩) hs
def OL (K : PySem.W.Frag) : R2 := fun x y H Q => C7 K x y H Q \/ zJ K x y H Q \/ CV x y H Q
theorem Dj : vO X (OL X.K) := ua.or (ow.or Ek)
theorem o9 (lo hi : Option Int) (n : Nat) : (sliceBounds lo hi none n).1 = ((HT.qZ n 0 lo : Nat) : Int) /\ (sliceBounds lo hi none n).2.1 = ((HT.qZ n n hi : Nat) : Int) /\ (sliceBounds lo hi none n).2.2 = 1 := by
 refine ⟨?_, ?_, rfl⟩
 . cases lo with
   | none => simp [sliceBounds, HT.qZ]
   | some i =>
     simp only [sliceBounds, HT.qZ, Option.getD_none, show (1 : Int) > 0 by decide, if_true]
     by_cases h : i < 0
     . simp only [h, if_true] <;> omega
     . simp only [h, if_false] <;> omega
 . cases hi with
   | none => simp [sliceBounds, HT.qZ]
   | some i =>
     simp only [sliceBounds, HT.qZ, Option.getD_none, show (1 : Int) > 0 by decide, if_true]
     by_cases h : i < 0
     . simp only [h, if_true] <;> omega
     . simp only [h, if_false] <;> omega
theorem ni (aY : List Value) (lo hi : Option Int) : slicePick aY.toArray lo hi none = ((aY.drop (HT.qZ aY.length 0 lo)).take (HT.qZ aY.length aY.length hi - HT.qZ aY.length 0 lo)).toArray := by
 obtain ⟨h1, h2, h3⟩ := o9 lo hi aY.toArray.size
 unfold slicePick
 rw [h1, h2, h3]
 simp only [sliceRange_one, pick_run, List.size_toArray] <;> rfl
def F9 (K : PySem.W.Frag) : V -> Option Int -> Option Int -> Hp -> VK -> Prop := fun x lo hi H Q => ∃ a xs, x = .ref a /\ dY K H a xs /\ ∀ p, H p = none -> Q (.ref p) (upd H p (.lst (vE xs lo hi)))
theorem By : OU X (F9 X.K) := by
 intro pins s σ H x v vl vu lo hi sl Q I rx hs pl pu h
 obtain ⟨a, xs, rfl, hx, q⟩ := h
 cases rx
 obtain ⟨aY, r, ht, hz⟩ := I.list hx
 have hlen := r.length
 refine ⟨"list", _, slot_list_getitem.lookup, ht.isList.typeIs, ?_⟩
 refine wpAny_getItem_list_slice ht.isList hs pl pu .none (by simp) ?_ (by rw [List.size_toArray] <;> omega)
 rw [ni, <- hlen]
 refine ⟨.ref s.heap.objs.size, _, I.laid (t' := s.toks) (o := .lst (vE xs lo hi)) (fun b ob q => Heap.get?_push_of_some _ q) (Nat.le_refl _) ?_, rfl, q _ (I.aF.fresh (Nat.le_refl _))⟩
 exact ⟨Nat.le_trans (pE xs lo hi) hz, _, 0, (r.drop (HT.qZ xs.length 0 lo)).take (HT.qZ xs.length xs.length hi - HT.qZ xs.length 0 lo), Heap.get?_push_size _ rfl⟩
def jc : V -> Bool
 | .aP => true
 | .bl _ => true
 | .int _ => true
 | .str _ => true
 | _ => false
def Be : V -> V -> Bool
 | .aP, .aP => true
 | .bl a, .bl b => a == b
 | .bl a, .int b => (if a then 1 else 0) == b
 | .int a, .bl b => a == (if b then 1 else 0)
 | .int a, .int b => a == b
 | .str a, .str b => a == b
 | _, _ => false
theorem DL {A : Around} {s : Shared} {y x : V} {u v : Value} (ry : RelV y u) (rx : RelV x v) (fy : jc y = true) (fx : jc x = true) : SeqAt.EqAt A s u v (Be y x) := by
 cases y with
 | aP =>
   cases ry
   cases x with
   | aP => cases rx; exact SeqAt.EqAt.same _
   | bl b => cases rx; exact SeqAt.EqAt.none_bool b
   | int b => obtain ⟨t, rfl⟩ := rx; exact SeqAt.EqAt.none_int b t
   | str b => obtain ⟨t, rfl⟩ := rx; exact SeqAt.EqAt.none_str b t
   | _ => exact absurd (show false = true from fx) Bool.false_ne_true
 | bl a =>
   cases ry
   cases x with
   | aP => cases rx; exact SeqAt.EqAt.bool_none a
   | bl b => cases rx; exact SeqAt.EqAt.bool_bool a b
   | int b => obtain ⟨t, rfl⟩ := rx; exact SeqAt.EqAt.bool_int a b t
   | str b => obtain ⟨t, rfl⟩ := rx; exact SeqAt.EqAt.bool_str a b t
   | _ => exact absurd (show false = true from fx) Bool.false_ne_true
 | int a =>
   obtain ⟨t', rfl⟩ := ry
   cases x with
   | aP => cases rx; exact SeqAt.EqAt.int_none a t'
   | bl b => cases rx; exact SeqAt.EqAt.int_bool a t' b
   | int b => obtain ⟨t, rfl⟩ := rx; exact SeqAt.EqAt.int_int a t' b t
   | str b => obtain ⟨t, rfl⟩ := rx; exact SeqAt.EqAt.int_str a t' b t
   | _ => exact absurd (show false = true from fx) Bool.false_ne_true
 | str a =>
   obtain ⟨t', rfl⟩ := ry
   cases x with
   | aP => cases rx; exact SeqAt.EqAt.str_none a t'
   | bl b => cases rx; exact SeqAt.EqAt.str_bool a t' b
   | int b => obtain ⟨t, rfl⟩ := rx; exact SeqAt.EqAt.str_int a t' b t
   | str b => obtain ⟨t, rfl⟩ := rx; exact SeqAt.EqAt.str_str a t' b t
   | _ => exact absurd (show false = true from fx) Bool.false_ne_true
 | _ => exact absurd (show false = true from fy) Bool.false_ne_true
def Bx (x : V) (u : Value) : Bool := match u with
 | .none => Be .aP x
 | .bool b => Be (.bl b) x
 | .int i _ => Be (.int i) x
 | .str z _ => Be (.str z) x
 | _ => false
theorem wA {x y : V} {u : Value} (r : RelV y u) (f : jc y = true) : Bx x u = Be y x := by
 cases y with
 | aP => cases r; rfl
 | bl b => cases r; rfl
 | int i => obtain ⟨t, rfl⟩ := r; rfl
 | str z => obtain ⟨t, rfl⟩ := r; rfl
 | _ => exact absurd (show false = true from f) Bool.false_ne_true
theorem oK {x : V} : ∀ {xs : List V} {us : List Value}, Vals xs us -> xs.all jc = true -> us.any (Bx x) = xs.any fun y => Be y x
 | _, _, .nil, _ => rfl
 | y :: xs, u :: us, .cons r t, f => by
   rw [List.all_cons, Bool.and_eq_true] at f
   rw [List.any_cons, List.any_cons, wA r f.1, oK t f.2]
theorem lW {A : Around} {s : Shared} {x : V} {v : Value} (rx : RelV x v) (fx : jc x = true) : ∀ {xs : List V} {us : List Value}, Vals xs us -> xs.all jc = true -> ∀ u ∈ us, SeqAt.EqAt A s u v (Bx x u)
 | _, _, .nil, _ => fun u hu => by cases hu
 | y :: xs, u :: us, .cons r t, f => fun u' hu => by
   rw [List.all_cons, Bool.and_eq_true] at f
   rcases List.mem_cons.mp hu with rfl | hu
   . rw [wA r f.1]; exact DL r rx f.1 fx
   . exact lW rx fx t f.2 u' hu
def J9 (x : V) (xs : List V) : Bool := xs.any fun y => Be y x
def Ke (K : PySem.W.Frag) (neg : Bool) : R2 := fun x y H Q => ∃ p xs, y = .ref p /\ (dY K H p xs \/ r6 K H p xs) /\ jc x = true /\ xs.all jc = true /\ Q (.bl (if neg then !J9 x xs else J9 x xs)) H
theorem vI : jk X (compareOp .In) (Ke X.K false) := by
 intro pins s σ H x y v u Q I rx ry h
 obtain ⟨p, xs, rfl, hq, fx, fs, q⟩ := h
 cases ry
 rcases hq with hq | hq
 . obtain ⟨aY, r, pl, hz⟩ := I.list hq
   refine SeqAt.in_listAt (Bx x) pl.isList (fun w hw => lW rx fx r fs w (by simpa using hw)) ⟨.bl _, H, I, rfl, ?_⟩
   rw [show aY.toArray.any (Bx x) = aY.any (Bx x) by simp, oK r fs]
   exact q
 . obtain ⟨aY, r, pl, hz⟩ := I.tuple hq
   refine SeqAt.in_tupleAt (Bx x) pl (fun w hw => lW rx fx r fs w (by simpa using hw)) ⟨.bl _, H, I, rfl, ?_⟩
   rw [show aY.toArray.any (Bx x) = aY.any (Bx x) by simp, oK r fs]
   exact q
theorem gF : ie X (.builtin "len") (fun xs H Q => ∃ p ys, xs = [.ref p] /\ (dY X.K H p ys \/ r6 X.K H p ys) /\ Q (.int ys.length) H) := by
 intro pins s σ H xs us Q I r h
 obtain ⟨p, ys, rfl, hq, q⟩ := h
 obtain ⟨u, rfl, rx⟩ := vals1 r
 cases rx
 have hn := j6
 rcases hq with hq | hq
 . obtain ⟨aY, r', pl, hz⟩ := I.list hq
   have hlen := r'.length
   exact Calls.call_len_list pl.isList (by simp only [List.size_toArray] <;> omega) ⟨.int ys.length, H, I.tok _, ⟨s.toks + 1, by rw [List.size_toArray, hlen]⟩, q⟩
 . obtain ⟨aY, r', pl, hz⟩ := I.tuple hq
   have hlen := r'.length
   exact len_tuple pl (by simp only [List.size_toArray] <;> omega) ⟨.int ys.length, H, I.tok _, ⟨s.toks + 1, by rw [List.size_toArray, hlen]⟩, q⟩
theorem oq : ie X (.builtin "len") (fun xs H Q => ∃ z, xs = [.str z] /\ z.length <= sizeLine /\ Q (.int z.length) H) := by
 intro pins s σ H xs us Q I r h
 obtain ⟨z, rfl, hz, q⟩ := h
 obtain ⟨u, rfl, t, rfl⟩ := vals1 r
 have hn := j6
 exact len_str (by omega) ⟨.int z.length, H, I.tok _, ⟨_, rfl⟩, q⟩
def CF (K : PySem.W.Frag) (T : String) (x : V) (H : Hp) : Prop := match x with
 | .str _ => T = "str"
 | .int _ => T = "int"
 | .ref p => (T = "list" /\ ∃ xs, dY K H p xs) \/ (T = "tuple" /\ ∃ o, K.lookup p = some o /\ o.cls = .type "tuple" /\ o.dict = none) \/
  (T = "dict" /\ ((∃ kvs, H p = some (.dK kvs)) \/ ∃ kvs, H p = some (.dT kvs))) \/ (T = "set" /\ ∃ S n, H p = some (.set S n))
 | _ => False
theorem sS {pins : List (Addr × Obj)} {σ : St} {H : Hp} {s : Shared} {T : String} {x : V} {v : Value} (I : Inv X pins σ H s) (r : RelV x v) (ty : CF X.K T x H) :
 s.TypeIs v T /\ ∀ a, v = .ref a -> ∃ ob, s.heap.get? a = some ob /\ ob.dict = none := by
 cases x with
 | str z =>
   obtain ⟨t, rfl⟩ := r
   cases (show T = "str" from ty)
   exact ⟨typeIs_str s z t, fun _ e => nomatch e⟩
 | int i =>
   obtain ⟨t, rfl⟩ := r
   cases (show T = "int" from ty)
   exact ⟨typeIs_int s i t, fun _ e => nomatch e⟩
 | ref p =>
   cases r
   rcases ty with ⟨rfl, xs, hq⟩ | ⟨rfl, o, hk, hc, hd⟩ | ⟨rfl, hk⟩ | ⟨rfl, S, n, hk⟩
   . obtain ⟨aY, _, pl, _⟩ := I.list hq
     refine ⟨pl.isList.typeIs, fun a e => ?_⟩
     cases e
     obtain ⟨o, n, e, c, hd, _⟩ := pl
     exact ⟨o, e, hd⟩
   . refine ⟨⟨o, I.fL p o hk, hc⟩, fun a e => ?_⟩
     cases e
     exact ⟨o, I.fL _ o hk, hd⟩
   . have z : ∃ o, s.heap.get? p = some o /\ o.ExactDict := by
      rcases hk with ⟨kvs, hk⟩ | ⟨kvs, hk⟩
      . obtain ⟨_, _, _, _, o, _, _, e, ex, _⟩ := I.aF p _ hk
        exact ⟨o, e, ex⟩
      . obtain ⟨_, _, _, _, o, _, _, e, ex, _⟩ := I.aF p _ hk
        exact ⟨o, e, ex⟩
     obtain ⟨o, e, ex⟩ := z
     refine ⟨⟨o, e, ex.1⟩, fun a e2 => ?_⟩
     cases e2
     exact ⟨o, e, ex.2.1⟩
   . obtain ⟨o, _, _, _, e, ex, _⟩ := I.aF p _ hk
     refine ⟨⟨o, e, ex.1⟩, fun a e2 => ?_⟩
     cases e2
     exact ⟨o, e, ex.2.1⟩
 | _ => exact False.elim ty
def F7 (K : PySem.W.Frag) (T : String) (r : V -> List V -> Hp -> VK -> Prop) (to : TE) : TE := fun σ H Q => to σ H fun x H1 => CF K T x H1 /\ r x [] H1 Q
def N5 (K : PySem.W.Frag) (T : String) (r : V -> List V -> Hp -> VK -> Prop) (to : TE) (t : TA) : TE := fun σ H Q => to σ H fun x H1 => CF K T x H1 /\ t σ H1 fun xs H2 => r x xs H2 Q
variable {o e : Expr} {es : List Expr} {to : TE} {t : TA} {name : Str} {apos cM : Pos} {T id : String} {r : V -> List V -> Hp -> VK -> Prop}
theorem Fv (pa : PlainAttrs T) (slot : Slot T name id) (MO : typeOf (.builtin id) = pure (.type "method_descriptor")) (hm : M8 X id r) (ho : PE X o to)
 (mU : attributeBase o name X.env (eval o X.env) = eval o X.env := by rfl) (hline : (apos.endLine == cM.line) = true := by rfl) : PE X (.Call (.Attribute o name apos) [] [] cM) (F7 X.K T r to) := by
 intro pins s σ H Q I h
 refine wpAny_Call_method0_late mU hline (bR (ho pins s σ H _ I h) fun v s1 ⟨x, H1, I1, r1, ty, q1⟩ => ?_)
 obtain ⟨h1, h2⟩ := sS I1 r1 ty
 exact ⟨T, id, pa, slot, MO, h1, h2, Calls.callWith_builtin rfl (PySem.evalArgs_none (hm pins s1 σ H1 x [] v [] Q I1 r1 .nil q1))⟩
theorem qS (pa : PlainAttrs T) (slot : Slot T name id) (MO : typeOf (.builtin id) = pure (.type "method_descriptor")) (hm : M8 X id r) (ho : PE X o to) (ha : PA X (e :: es) t)
 (mU : attributeBase o name X.env (eval o X.env) = eval o X.env := by rfl)
 (LJ : ((backTo cM (starEach (e :: es) X.env)).all (fun x => !x.1) && (backToKw cM (keywordEach [] X.env)).all (fun x => x.1.isSome)
  && decide ((e :: es).length + ([] : List Keyword).length + (if ([] : List Keyword).isEmpty then 0 else 1) < 30)) = true := by rfl)
 (hline : (apos.endLine == cM.line) = true := by rfl) (hs : starEach (e :: es) X.env = (false, eval e X.env) :: starEach es X.env := by rfl) (oE : (backTo cM (starEach es X.env)).any (·.1) = false := by rfl) :
 PE X (.Call (.Attribute o name apos) (e :: es) [] cM) (N5 X.K T r to t) := by
 intro pins s σ H Q I h
 refine wpAny_Call_method_late mU LJ hline rfl (bR (ho pins s σ H _ I h) fun v s1 ⟨x, H1, I1, r1, ty, q1⟩ => ?_)
 obtain ⟨h1, h2⟩ := sS I1 r1 ty
 refine ⟨T, id, pa, slot, MO, h1, h2, ?_⟩
 have hA := ha cM pins s1 σ H1 _ I1 q1
 rw [hs] at hA ⊢
 refine Calls.callWith_builtin (by show (false || (backTo cM (starEach es X.env)).any (·.1)) = false; rw [oE] <;> rfl) (Calls.evalArgs_plain ?_)
 exact bR hA fun us s2 ⟨vs, H2, I2, r2, q2⟩ => hm pins s2 σ H2 x vs v us Q I2 r1 r2 q2
end
def K7 (X : Cx) (id : String) (r : V -> List V -> Hp -> VK -> Prop) : Prop :=
 ∀ (pins : List (Addr × Obj)) (s : Shared) (σ : St) (H : Hp) (x : V) (xs : List V) (v : Value) (us : List Value) (Q : VK), Inv X pins σ H s -> RelV x v -> Vals xs us -> r x xs H Q ->
   wpAny (model X.prog X.w) X.A (call (.builtin id) (v :: us)) (EP X pins σ Q) X.xe s
theorem Vals.one : ∀ {x : V} {us : List Value}, Vals [x] us -> ∃ u, us = [u] /\ RelV x u
 | _, _, .cons r .nil => ⟨_, rfl, r⟩
theorem Vals.zero : ∀ {us : List Value}, Vals [] us -> us = []
 | _, .nil => rfl
section
variable {X : Cx} {pins : List (Addr × Obj)} {σ : St} {H : Hp} {s : Shared} {l b : Addr} {xs ys zs : List V}
theorem Inv.G6 {aY its' : List Value} {n : Nat} {f : Array Value -> Array Value} {t' : Nat} (I : Inv X pins σ H s) (hH : H l = some (.lst xs))
 (e : s.heap.get? l = some { cls := .type "list", data := .seq aY.toArray n }) (hf : f aY.toArray = its'.toArray) (hv : Vals ys its') (hz : ys.length <= sizeLine) :
 Inv X pins σ (upd H l (.lst ys)) { s with heap := s.heap.update l (Obj.mapSeq f), toks := t' } := by
 have q := PySem.IsL.update e f
 rw [hf] at q
 refine I.write (x := l) (e := l) (by rw [hH]; exact trivial) (.inl rfl) (fun b' u hb hu => (Heap.get?_update_other s.heap (Obj.mapSeq f) (Ne.symm hb)).trans hu) ⟨_, q⟩ ?_
 exact ⟨hz, its', _, hv, q⟩
theorem Inv.MF {aY : List Value} {t' : Nat} (I : Inv X pins σ H s) (hv : Vals ys aY) (hz : ys.length <= sizeLine) :
 Inv X pins σ (upd H s.heap.objs.size (.lst ys)) { s with heap := s.heap.push { cls := .type "list", data := .seq aY.toArray }, toks := t' } :=
 I.laid (fun _ _ q => Heap.get?_push_of_some _ q) (Nat.le_refl _) ⟨hz, aY, 0, hv, Heap.get?_push_size _ rfl⟩
theorem Inv.fresh (I : Inv X pins σ H s) : H s.heap.objs.size = none := I.aF.fresh (Nat.le_refl _)
theorem Inv.zT (I : Inv X pins σ H s) (hH : H l = some (.lst xs)) : xs.length <= sizeLine /\ ∃ (aY : List Value) (n : Nat), Vals xs aY /\ xs.length = aY.length /\ s.heap.get? l = some { cls := .type "list", data := .seq aY.toArray n } := by
 obtain ⟨z, aY, n, r, e⟩ := I.aF l _ hH
 exact ⟨z, aY, n, r, r.length, e⟩
end
section
variable {X : Cx}
def tI : V -> List V -> Hp -> VK -> Prop := fun x vs H Q => ∃ l xs y, x = .ref l /\ vs = [y] /\ H l = some (.lst xs) /\ xs.length < sizeLine /\ Q .aP (upd H l (.lst (xs ++ [y])))
theorem nR : K7 X "list.append" tI := by
 intro pins s σ H x vs v us Q I rx rv h
 obtain ⟨l, xs, y, rfl, rfl, hH, hz, q⟩ := h
 cases rx
 obtain ⟨u, rfl, ru⟩ := rv.one
 obtain ⟨z, aY, n, r, hl, e⟩ := I.zT hH
 refine call_meets F.slot_list_append ⟨_, e, rfl⟩ F.entry_list_append (F.args_list_append_2 _ _) (PySem.list_append l aY.toArray n u (by rw [List.size_toArray]; omega)) ⟨e, ?_⟩
 refine ⟨.aP, _, I.G6 (its' := aY ++ [u]) hH e (by simp) (r.append (.cons ru .nil)) ?_, rfl, q⟩
 rw [List.length_append, List.length_singleton]
 omega
def wF : V -> List V -> Hp -> VK -> Prop := fun x vs H Q => ∃ l xs, x = .ref l /\ vs = [] /\ H l = some (.lst xs) /\ Q .aP (upd H l (.lst []))
theorem yA : K7 X "list.clear" wF := by
 intro pins s σ H x vs v us Q I rx rv h
 obtain ⟨l, xs, rfl, rfl, hH, q⟩ := h
 cases rx
 have P0 := rv.zero
 subst P0
 obtain ⟨z, aY, n, r, hl, e⟩ := I.zT hH
 refine call_meets F.slot_list_clear ⟨_, e, rfl⟩ F.entry_list_clear (F.args_list_clear_1 _) (AutoSeq1.list_clear_list_0 l aY.toArray n (by rw [List.size_toArray]; omega)) ⟨e, ?_⟩
 exact ⟨.aP, _, I.G6 (its' := []) (ys := []) hH e rfl .nil (Nat.zero_le _), rfl, q⟩
def G9 : R2 := fun x y H Q => ∃ l b xs zs, x = .ref l /\ y = .ref b /\ H l = some (.lst xs) /\ H b = some (.lst zs) /\ xs.length + zs.length <= sizeLine /\ ∀ p, H p = none -> Q (.ref p) (upd H p (.lst (xs ++ zs)))
theorem xV : jk X (binaryOp .Add) G9 := by
 intro pins s σ H x y v u Q I rx ry h
 obtain ⟨l, b, xs, zs, rfl, rfl, hH, hB, hz, q⟩ := h
 cases rx
 cases ry
 obtain ⟨z, aY, n, r, hl, e⟩ := I.zT hH
 obtain ⟨z2, Gz, n2, r2, JX, e2⟩ := I.zT hB
 refine PySem.P.add_list e e2 ?_ (by rw [List.size_toArray, List.size_toArray]; omega)
 have ea : aY.toArray ++ Gz.toArray = (aY ++ Gz).toArray := by simp
 rw [ea]
 exact ⟨.ref _, _, I.MF (t' := s.toks) (r.append r2) (by rw [List.length_append]; omega), rfl, q _ I.fresh⟩
end
section
variable {prog : Program} {w : World} {A : Around} {E : Value -> Shared -> Prop} {s : Shared}
set_option maxRecDepth 100000 in
end
section
variable {X : Cx}
end
section
variable {κ : Type} [DecidableEq κ]
def iW (kvs : List (κ × V)) (k : κ) : Option V := (kvs.find? fun kv => decide (kv.1 = k)).map (·.2)
def putK (kvs : List (κ × V)) (k : κ) (v : V) : List (κ × V) :=
 if (kvs.any fun kv => decide (kv.1 = k)) = true then kvs.map (fun kv => if kv.1 = k then (kv.1, v) else kv) else kvs ++ [(k, v)]
def g6 (kvs : List (κ × V)) (k : κ) : List (κ × V) := kvs.filter fun kv => decide (kv.1 ≠ k)
theorem ip {p : κ × V} {r : List (κ × V)} {k : κ} (e : p.1 = k) : iW (p :: r) k = some p.2 := by simp [iW, List.find?_cons, e]
theorem fU {p : κ × V} {r : List (κ × V)} {k : κ} (e : ¬ p.1 = k) : iW (p :: r) k = iW r k := by simp [iW, List.find?_cons, e]
theorem pU (k : κ) : ∀ kvs : List (κ × V), (kvs.any fun kv => decide (kv.1 = k)) = (iW kvs k).isSome
 | [] => rfl
 | p :: r => by
   rw [List.any_cons]
   by_cases e : p.1 = k
   . simp only [ip e, decide_eq_true e, Bool.true_or, Option.isSome_some]
   . rw [fU e, decide_eq_false e, Bool.false_or]; exact pU k r
theorem kC (kvs : List (κ × V)) (k : κ) (v : V) : (putK kvs k v).length <= kvs.length + 1 := by
 unfold putK
 split
 . rw [List.length_map]; omega
 . rw [List.length_append, List.length_cons, List.length_nil]; omega
theorem hZ.fO {o : Option V} {u : Option Value} (r : hZ o u) : o.isSome = u.isSome := by
 cases o with
 | none => cases u with
   | none => rfl
   | some _ => exact (show False from r).elim
 | some _ => cases u with
   | none => exact (show False from r).elim
   | some _ => rfl
theorem KV.val {kvs : List (κ × V)} {vs : List (κ × Value)} (r : KV kvs vs) (k : κ) : hZ (iW kvs k) (valueAt vs k) := by
 unfold KV at r
 induction r with
 | nil => exact True.intro
 | @cons p q ps qs h t ih =>
   obtain ⟨h1, h2⟩ := h
   by_cases e : p.1 = k
   . have e' : q.1 = k := h1.symm.trans e
     have b : valueAt (q :: qs) k = some q.2 := by simp [valueAt, List.find?_cons, e']
     rw [ip e, b]; exact h2
   . have e' : ¬ q.1 = k := fun z => e (h1.trans z)
     have b : valueAt (q :: qs) k = valueAt qs k := by simp [valueAt, List.find?_cons, e']
     rw [fU e, b]; exact ih
theorem KV.any {kvs : List (κ × V)} {vs : List (κ × Value)} (r : KV kvs vs) (k : κ) : (kvs.any fun kv => decide (kv.1 = k)) = vs.any fun kv => decide (kv.1 = k) := by
 unfold KV at r
 induction r with
 | nil => rfl
 | cons h t ih => rw [List.any_cons, List.any_cons, ih, h.1]
theorem KV.repl {kvs : List (κ × V)} {vs : List (κ × Value)} (r : KV kvs vs) (k : κ) {y : V} {u : Value} (ry : RelV y u) :
 KV (kvs.map fun kv => if kv.1 = k then (kv.1, y) else kv) (vs.map fun kv => if kv.1 = k then (kv.1, u) else kv) := by
 unfold KV at r ⊢
 induction r with
 | nil => exact .nil
 | @cons p q ps qs h t ih =>
   rw [List.map_cons, List.map_cons]
   refine .cons ?_ ih
   obtain ⟨h1, h2⟩ := h
   by_cases e : p.1 = k
   . rw [if_pos e, if_pos (h1.symm.trans e)]; exact ⟨h1, ry⟩
   . rw [if_neg e, if_neg (fun z => e (h1.trans z))]; exact ⟨h1, h2⟩
theorem KV.put {kvs : List (κ × V)} {vs : List (κ × Value)} (r : KV kvs vs) (k : κ) {y : V} {u : Value} (ry : RelV y u) : KV (putK kvs k y) (stored vs k u) := by
 unfold putK stored
 rw [r.any k]
 by_cases e : (vs.any fun kv => decide (kv.1 = k)) = true
 . rw [if_pos e, if_pos e]; exact r.repl k ry
 . rw [if_neg e, if_neg e]; exact Paired.snoc r ⟨rfl, ry⟩
theorem KV.drop {kvs : List (κ × V)} {vs : List (κ × Value)} (r : KV kvs vs) (k : κ) : KV (g6 kvs k) (without vs k) := by
 unfold KV at r ⊢
 unfold g6 without
 induction r with
 | nil => exact .nil
 | @cons p q ps qs h t ih =>
   obtain ⟨h1, h2⟩ := h
   rw [List.filter_cons, List.filter_cons]
   by_cases e : p.1 = k
   . have a : ¬ decide (p.1 ≠ k) = true := by simp [e]
     have b : ¬ decide (q.1 ≠ k) = true := by simp [h1.symm.trans e]
     rw [if_neg a, if_neg b]; exact ih
   . have e' : ¬ q.1 = k := fun z => e (h1.trans z)
     have a : decide (p.1 ≠ k) = true := by simp [e]
     have b : decide (q.1 ≠ k) = true := by simp [e']
     rw [if_pos a, if_pos b]; exact .cons ⟨h1, h2⟩ ih
theorem KV.length {kvs : List (κ × V)} {vs : List (κ × Value)} (r : KV kvs vs) : kvs.length = vs.length := Paired.length r
theorem yI (kvs : List (κ × V)) (k : κ) : (g6 kvs k).length <= kvs.length := List.length_filter_le _ _
end
theorem nC {P : Program} {w : World} {k : Key} {u : Value} (r : RelV (kV k) u) : (aJ P w).is k u = true := by
 cases k with
 | inl i => obtain ⟨t, e⟩ := (show ∃ t, u = Value.int i t from r); subst e; exact pJ P w i t
 | inr x => obtain ⟨t, e⟩ := (show ∃ t, u = Value.str x t from r); subst e; exact qP P w x t
theorem nQ {P : Program} {w : World} : ∀ {ks : List Key} {us : List Value}, Vals (ks.map kV) us -> ItemsAre (aJ P w) ks us
 | [], _, r => by rw [List.map_nil] at r; cases r; exact .nil
 | k :: ks, _, r => by
   rw [List.map_cons] at r
   cases r with
   | cons h t => exact .cons (nC h) (nQ t)
abbrev KT (H : Hp) : List (List Key × V) -> List (List Key × Addr × Value) -> Prop := Paired fun p q => p.1 = q.1 /\ H q.2.1 = some (.tup (p.1.map kV)) /\ RelV p.2 q.2.2
theorem KT.val {H : Hp} {kvs : List (List Key × V)} {xs : List (List Key × Addr × Value)} (r : KT H kvs xs) (k : List Key) : hZ (iW kvs k) ((atKey xs k).map (·.2)) := by
 induction r with
 | nil => exact True.intro
 | @cons p q ps qs h t ih =>
   obtain ⟨h1, _, h2⟩ := h
   by_cases e : p.1 = k
   . have e' : q.1 = k := h1.symm.trans e
     have b : atKey (q :: qs) k = some q.2 := by simp [atKey, List.find?_cons, e']
     rw [ip e, b]; exact h2
   . have e' : ¬ q.1 = k := fun z => e (h1.trans z)
     have b : atKey (q :: qs) k = atKey qs k := by simp [atKey, List.find?_cons, e']
     rw [fU e, b]; exact ih
theorem KT.repl {H : Hp} {kvs : List (List Key × V)} {xs : List (List Key × Addr × Value)} (r : KT H kvs xs) (k : List Key) {y : V} {u : Value} (ry : RelV y u) :
 KT H (kvs.map fun kv => if kv.1 = k then (kv.1, y) else kv) (xs.map (putAt k u)) := by
 induction r with
 | nil => exact .nil
 | @cons p q ps qs h t ih =>
   rw [List.map_cons, List.map_cons]
   refine .cons ?_ ih
   obtain ⟨h1, h2, h3⟩ := h
   unfold putAt
   by_cases e : p.1 = k
   . rw [if_pos e, if_pos (h1.symm.trans e)]; exact ⟨h1, h2, ry⟩
   . rw [if_neg e, if_neg (fun z => e (h1.trans z))]; exact ⟨h1, h2, h3⟩
theorem KT.put {H : Hp} {kvs : List (List Key × V)} {xs : List (List Key × Addr × Value)} (r : KT H kvs xs) (k : List Key) {b : Addr} {y : V} {u : Value} (hb : H b = some (.tup (k.map kV))) (ry : RelV y u) :
 KT H (putK kvs k y) (storedH xs k b u) := by
 have e : (kvs.any fun kv => decide (kv.1 = k)) = (atKey xs k).isSome := by
  rw [pU, (r.val k).fO, Option.isSome_map]
 unfold putK storedH
 rw [e]
 by_cases q : (atKey xs k).isSome = true
 . rw [if_pos q, if_pos q]; exact r.repl k ry
 . rw [if_neg q, if_neg q]; exact Paired.snoc r ⟨rfl, hb, ry⟩
theorem KT.keeps {H H' : Hp} {kvs : List (List Key × V)} {xs : List (List Key × Addr × Value)} (r : KT H kvs xs) (ht : ∀ b ys, H b = some (.tup ys) -> H' b = some (.tup ys)) : KT H' kvs xs :=
 Paired.EJ r fun _ _ z => ⟨z.1, ht _ _ z.2.1, z.2.2⟩
section
variable {P : Program} {w : World} {H : Hp} {h : Heap} {a : Addr}
theorem Cb {u : HO} (ok : fW P w H h) (e : Rd H a u) : aO P w H h a u := e.ok ok
theorem qu {kvs : List (Key × V)} (ok : fW P w H h) (e : Rd H a (.dK kvs)) : kvs.length <= sizeLine /\ (a == sysModules) = false /\ ∃ vs, KV kvs vs /\ h.DictOf (aJ P w) a vs :=
 show aO P w H h a (.dK kvs) from Cb ok e
theorem CD {kvs : List (Key × V)} (ok : fW P w H h) (e : H a = some (.dK kvs)) : kvs.length <= sizeLine /\ (a == sysModules) = false /\ ∃ vs, KV kvs vs /\ h.DictOf (aJ P w) a vs := qu ok (.inl e)
theorem mQ {ks : List Key} (ok : fW P w H h) (e : H a = some (.tup (ks.map kV))) : (tupleKind (aJ P w)).is h ks a := by
 obtain ⟨_, aY, r, o, h1, h2, n, h3⟩ := (show aO P w H h a (.tup (ks.map kV)) from ok a _ e)
 exact ⟨o, aY.toArray, n, h1, h2, h3, by simpa using nQ r⟩
theorem qj {kvs : List (List Key × V)} (ok : fW P w H h) (e : Rd H a (.dT kvs)) : kvs.length <= sizeLine /\ (a == sysModules) = false /\
 ∃ xs, KT H kvs xs /\ h.DictOfH (tupleKind (aJ P w)) a xs := by
 obtain ⟨z, y, xs, r, o, es, ep, h1, h2, h3, h4, h5⟩ := (show aO P w H h a (.dT kvs) from Cb ok e)
 refine ⟨z, y, xs, r, o, es, ep, h1, h2, h3, h4, fun x hx => ?_, h5⟩
 have all : ∀ {l : List (List Key × V)} {m : List (List Key × Addr × Value)}, KT H l m -> ∀ x ∈ m, (tupleKind (aJ P w)).is h x.1 x.2.1 := by
  intro l m q
  induction q with
  | nil => intro x hx; exact nomatch hx
  | @cons p q ps qs hq t ih =>
    intro x hx
    rcases List.mem_cons.mp hx with e | hx
    . subst e
      exact mQ ok (by rw [<- hq.1]; exact hq.2.1)
    . exact ih x hx
 exact all r x hx
theorem Ga {kvs : List (List Key × V)} (ok : fW P w H h) (e : H a = some (.dT kvs)) : kvs.length <= sizeLine /\ (a == sysModules) = false /\
 ∃ xs, KT H kvs xs /\ h.DictOfH (tupleKind (aJ P w)) a xs := qj ok (.inl e)
end
def k7 (H : Hp) (a : Addr) (y : V) (r : Option V) : Prop :=
 (∃ kvs k, Rd H a (.dK kvs) /\ y = kV k /\ r = iW kvs k) \/ ∃ kvs k b, Rd H a (.dT kvs) /\ y = .ref b /\ H b = some (.tup (k.map kV)) /\ r = iW kvs k
def oF (H : Hp) (a : Addr) (y v : V) (H' : Hp) : Prop :=
 (∃ kvs k, H a = some (.dK kvs) /\ y = kV k /\ kvs.length < sizeLine /\ H' = upd H a (.dK (putK kvs k v))) \/
 ∃ kvs k b, H a = some (.dT kvs) /\ y = .ref b /\ H b = some (.tup (k.map kV)) /\ kvs.length < sizeLine /\ H' = upd H a (.dT (putK kvs k v))
theorem oF.k {H : Hp} {a : Addr} {kvs : List (Key × V)} {k : Key} {v : V} (e : H a = some (.dK kvs)) (hl : kvs.length < sizeLine) : oF H a (kV k) v (upd H a (.dK (putK kvs k v))) := .inl ⟨kvs, k, e, rfl, hl, rfl⟩
section
variable {X : Cx} {pins : List (Addr × Obj)} {σ : St} {H : Hp} {s : Shared} {a : Addr} {y v : V} {u r : Value} {o : Option V} {A : Around} {E : Value -> Shared -> Prop}
theorem Inv.big (I : Inv X pins σ H s) : sysModules < s.heap.objs.size := by
 have h : mainGlobals < s.heap.objs.size := (I.mod.glob.keeps I.bk).lt
 exact Nat.lt_trans (by decide) h
theorem uR {Q : Value -> Shared -> Prop} (hu : A.units + 1 < cLine) (I : Inv X pins σ H s) (g : k7 H a y (some v)) (ry : RelV y u) (h : ∀ w' s', Inv X pins σ H s' -> RelV v w' -> Q w' s') :
 wpAny (model X.prog X.w) A (getItem (.ref a) u) Q E s := by
 rcases g with ⟨kvs, k, e, ey, l⟩ | ⟨kvs, k, b, e, ey, eb, l⟩
 . subst ey
   obtain ⟨z, hd, vs, rel, dd⟩ := qu I.aF e
   obtain ⟨w', hw, xH⟩ := hZ.some_of (v := v) (o := valueAt vs k) (by rw [l]; exact rel.val k)
   exact wpAny_getItem_of (nC ry) dd.mapOf hw (h w' _ (I.tok _) xH)
 . subst ey
   cases (show u = Value.ref b from ry)
   obtain ⟨z, hd, xs, rel, dd⟩ := qj I.aF e
   obtain ⟨w', hw, xH⟩ := hZ.some_of (v := v) (o := (atKey xs k).map (·.2)) (by rw [l]; exact rel.val k)
   obtain ⟨p, hp, IZ⟩ := Option.map_eq_some_iff.mp hw
   refine wpAny_getItem_heap (tupleKind_room_in1 hu) (mQ I.aF eb) dd hp ?_
   rw [IZ]
   exact h w' _ (I.tok _) xH
theorem MM {Q : Value -> Shared -> Prop} (hu : A.units + 1 < cLine) (I : Inv X pins σ H s) (g : k7 H a y o) (ry : RelV y u) (h : ∀ s', Inv X pins σ H s' -> Q (.bool o.isSome) s') :
 wpAny (model X.prog X.w) A (compareOp .In u (.ref a)) Q E s := by
 rcases g with ⟨kvs, k, e, ey, l⟩ | ⟨kvs, k, b, e, ey, eb, l⟩
 . subst ey
   obtain ⟨z, hd, vs, rel, dd⟩ := qu I.aF e
   refine wpAny_in_of (nC ry) hd dd.mapOf ?_
   rw [<- (rel.val k).fO, <- l]
   exact h _ (I.tok _)
 . subst ey
   cases (show u = Value.ref b from ry)
   obtain ⟨z, hd, xs, rel, dd⟩ := qj I.aF e
   refine wpAny_in_heap (tupleKind_room_in1 hu) (mQ I.aF eb) hd dd ?_
   have q := (rel.val k).fO
   rw [Option.isSome_map] at q
   rw [<- q, <- l]
   exact h _ (I.tok _)
theorem zx {Q : Value -> Shared -> Prop} (hu : A.units + 1 < cLine) (I : Inv X pins σ H s) (g : k7 H a y o) (ry : RelV y u) (h : ∀ s', Inv X pins σ H s' -> Q (.bool (!o.isSome)) s') :
 wpAny (model X.prog X.w) A (compareOp .NotIn u (.ref a)) Q E s := by
 rcases g with ⟨kvs, k, e, ey, l⟩ | ⟨kvs, k, b, e, ey, eb, l⟩
 . subst ey
   obtain ⟨z, hd, vs, rel, dd⟩ := qu I.aF e
   refine wpAny_notIn_of (nC ry) hd dd.mapOf ?_
   rw [<- (rel.val k).fO, <- l]
   exact h _ (I.tok _)
 . subst ey
   cases (show u = Value.ref b from ry)
   obtain ⟨z, hd, xs, rel, dd⟩ := qj I.aF e
   refine wpAny_notIn_heap (tupleKind_room_in1 hu) (mQ I.aF eb) hd dd ?_
   have q := (rel.val k).fO
   rw [Option.isSome_map] at q
   rw [<- q, <- l]
   exact h _ (I.tok _)
theorem oC {h' : Heap} {t' : Nat} {ob : HO} (I : Inv X pins σ H s) (mu : Hm (H a)) (hs : Heap.SameBut a s.heap h') (he : ∃ q, h'.get? a = some q) (new : aO X.prog X.w (upd H a ob) h' a ob) :
 Inv X pins σ (upd H a ob) { s with heap := h', toks := t' } :=
 I.write (x := a) (e := a) mu (.inl rfl) (fun b q hb z => (hs.2 b hb).trans z) he new
theorem yB {P : Program} {w : World} {H' : Hp} {h' : Heap} {kvs : List (Key × V)} {vs : List (Key × Value)} (z : kvs.length <= sizeLine) (hd : (a == sysModules) = false) (rel : KV kvs vs) (dd : h'.DictOf (aJ P w) a vs) :
 aO P w H' h' a (.dK kvs) := ⟨z, hd, vs, rel, dd⟩
theorem vJ {H' : Hp} {Q : Unit -> Shared -> Prop} (hu : A.units + 1 < cLine) (I : Inv X pins σ H s) (g : oF H a y v H') (ry : RelV y u) (rv : RelV v r) (h : ∀ s', Inv X pins σ H' s' -> Q () s') :
 wpAny (model X.prog X.w) A (setItem (.ref a) u r) Q E s := by
 rcases g with ⟨kvs, k, e, ey, l, eH⟩ | ⟨kvs, k, b, e, ey, eb, l, eH⟩
 . subst ey eH
   obtain ⟨z, hd, vs, rel, dd⟩ := CD I.aF e
   have hz : vs.length <= sizeLine := by rw [<- rel.length]; exact z
   have hl : (putK kvs k v).length <= sizeLine := by have := kC kvs k v; omega
   refine wpAny_setItem_pairs (hsz := hz) (nC ry) dd fun h' yY hs => h _ ?_
   have he : ∃ q, h'.get? a = some q := let ⟨q, _, _, hq, _⟩ := yY; ⟨q, hq⟩
   exact oC I (by rw [e]; exact True.intro) hs he (yB hl hd (rel.put k rv) yY)
 . subst ey eH
   cases (show u = Value.ref b from ry)
   obtain ⟨z, hd, xs, rel, dd⟩ := Ga I.aF e
   have hz : xs.length <= sizeLine := by rw [<- Paired.length rel]; exact z
   have hl : (putK kvs k v).length <= sizeLine := by have := kC kvs k v; omega
   refine wpAny_setItem_heap (hsz := hz) (tupleKind_room_in1 hu) (mQ I.aF eb) dd fun h' yY hs => h _ ?_
   obtain ⟨q, es, ep, hq, h2, h3, h4, _, h5⟩ := yY
   refine oC I (by rw [e]; exact True.intro) hs ⟨q, hq⟩ ⟨hl, hd, _, (rel.put k eb rv).keeps fun c ys ec => ?_, q, es, ep, hq, h2, h3, h4, h5⟩
   rw [ah (et ec e (fun z => nomatch z))]
   exact ec
end
section
variable {X : Cx} {pins : List (Addr × Obj)} {σ : St} {H : Hp} {s : Shared} {a : Addr} {kvs : List (Key × V)} {k : Key} {u : Value} {A : Around} {E : Value -> Shared -> Prop}
theorem GU {v : V} {more : List Value} {Q : Value -> Shared -> Prop} (I : Inv X pins σ H s) (e : H a = some (.dK kvs)) (ry : RelV (kV k) u) (l : iW kvs k = some v) (hm : more = [] \/ ∃ x, more = [x])
 (h : ∀ w' s', Inv X pins σ (upd H a (.dK (g6 kvs k))) s' -> RelV v w' -> Q w' s') : wpAny (model X.prog X.w) A (call (.builtin "dict.pop") (.ref a :: u :: more)) Q E s := by
 obtain ⟨z, hd, vs, rel, dd⟩ := CD I.aF e
 obtain ⟨w', hw, xH⟩ := hZ.some_of (v := v) (o := valueAt vs k) (by rw [<- l]; exact rel.val k)
 have hp : (keyPart u).isSome = true := by
  cases k with
  | inl i => obtain ⟨t, q⟩ := (show ∃ t, u = Value.int i t from ry); subst q; rfl
  | inr x => obtain ⟨t, q⟩ := (show ∃ t, u = Value.str x t from ry); subst q; rfl
 have ha : argsOk "dict.pop" ⟨.ref a :: u :: more, []⟩ := by
  rcases hm with q | ⟨x, q⟩
  . subst q; exact PySem.F.args_dict_pop_2 _ _
  . subst q; exact PySem.F.args_dict_pop_3 _ _ _
 refine call_meetsIn PySem.F.slot_dict_pop dd.typeIs PySem.F.entry_dict_pop ha (meets_dict_pop_there (aJ X.prog X.w) a (nC ry) more hm hp)
  ⟨vs, w', dd, by rw [<- rel.length]; exact z, hw, fun h' yY hs => h w' _ ?_ xH⟩
 have he : ∃ q, h'.get? a = some q := let ⟨q, _, _, hq, _⟩ := yY; ⟨q, hq⟩
 exact oC I (by rw [e]; exact True.intro) hs he (yB (Nat.le_trans (yI kvs k) z) hd (rel.drop k) yY)
end
def Ic (i : Expr) : Prop := ∀ ov iv, subscripted i false ov iv = operate [ov, iv] (getItem ov iv)
theorem Bk {prog : Program} {w : World} {A : Around} {E : Value -> Shared -> Prop} {s : Shared} {env : Env} {value slice : Expr} {pos : Pos} {T id : String} {Q : Value -> Shared -> Prop}
 (hl : typeLookup (.type T) "__getitem__" = pure (some (.builtin id))) (hs : Ic slice)
 (h : wpAny (model prog w) A (eval value env) (fun o s₁ => wpAny (model prog w) A (eval slice env) (fun i s₂ => s₂.TypeIs o T /\ wpAny (model prog w) A (getItem o i) Q E s₂) E s₁) E s) :
 wpAny (model prog w) A (eval (.Subscript value slice pos) env) Q E s := by
 refine Subscript_ (wpAny_mono h (fun o s₁ h₁ => wpAny_mono h₁ (fun i s₂ h₂ => ?_) fun _ _ x => x) fun _ _ x => x)
 obtain ⟨hT, h₂⟩ := h₂
 unfold subscriptTail
 refine wpAny_bind ?_
 rw [getitemInPython_of_ne hT.not_modules]
 refine wpAny_bind (wpAny_specialOf hT hl ?_)
 have fin : wpAny (model prog w) A (subscripted slice false o i) (fun r s₃ => wpAny (model prog w) A (letTemporaryGo value o r >>= fun _ => pure r) Q E s₃) E s₂ := by
  rw [hs o i]
  exact wpAny_operating (wpAny_mono h₂ (fun r s₃ h₃ => wpAny_bind (wpAny_letTemporaryGo (wpAny_pure h₃))) fun _ _ x => x)
 first
  | exact wpAny_pure (wpAny_bind fin)
  | exact wpAny_bind (wpAny_pure (wpAny_bind fin))
  | exact wpAny_bind fin
theorem qO {X : Cx} {pins : List (Addr × Obj)} {σ : St} {H : Hp} {s : Shared} {a : Addr} {y : V} {o : Option V} (I : Inv X pins σ H s) (g : k7 H a y o) : s.TypeIs (.ref a) "dict" := by
 rcases g with ⟨kvs, k, e, _, _⟩ | ⟨kvs, k, b, e, _, _, _⟩
 . obtain ⟨_, _, vs, _, dd⟩ := qu I.aF e
   exact dd.typeIs
 . obtain ⟨_, _, xs, _, dd⟩ := qj I.aF e
   exact dd.typeIs
def BV (td ty : TE) : TE := fun σ H Q => td σ H fun x H1 => ty σ H1 fun y H2 => ∃ a v, x = .ref a /\ k7 H2 a y (some v) /\ Q v H2
def Jh (ty td : TE) : TE := fun σ H Q => ty σ H fun y H1 => td σ H1 fun x H2 => ∃ a o, x = .ref a /\ k7 H2 a y o /\ Q (.bl o.isSome) H2
def uD (ty td : TE) : TE := fun σ H Q => ty σ H fun y H1 => td σ H1 fun x H2 => ∃ a o, x = .ref a /\ k7 H2 a y o /\ Q (.bl (!o.isSome)) H2
def CK (td ty tv : TE) : TS := fun D σ H => tv σ H fun v H1 => td σ H1 fun x H2 => ty σ H2 fun y H3 => ∃ a H4, x = .ref a /\ oF H3 a y v H4 /\ D.nx σ H4
section
variable {X : Cx} {o i e value : Expr} {pos pos' wK : Pos} {td ty tv : TE}
theorem zp (hu : X.A.units + 1 < cLine) (ho : PE X o td) (hi : PE X i ty) (hs : Ic i) : PE X (.Subscript o i pos) (BV td ty) := by
 intro pins s σ H Q I h
 refine Bk PySem.F.slot_dict_getitem.lookup hs (bR (ho pins s σ H _ I h) fun u s1 ⟨x, H1, I1, rx, q1⟩ => bR (hi pins s1 σ H1 _ I1 q1) fun iv s2 ⟨y, H2, I2, ry, a, v, ex, g, q2⟩ => ?_)
 subst ex
 obtain rfl : u = Value.ref a := rx
 exact ⟨qO I2 g, uR hu I2 g ry fun w' s3 I3 xH => ⟨v, H2, I3, xH, q2⟩⟩
theorem me (hu : X.A.units + 1 < cLine) (hi : PE X i ty) (ho : PE X o td) : PC X .In i o (Jh ty td) := by
 intro pins s σ H Q I h
 refine bR (hi pins s σ H _ I h) fun iv s1 ⟨y, H1, I1, ry, q1⟩ => bR (ho pins s1 σ H1 _ I1 q1) fun u s2 ⟨x, H2, I2, rx, a, ov, ex, g, q2⟩ => ?_
 subst ex
 obtain rfl : u = Value.ref a := rx
 exact MM hu I2 g ry fun s3 I3 => ⟨.bl ov.isSome, H2, I3, rfl, q2⟩
theorem u6 (hu : X.A.units + 1 < cLine) (hi : PE X i ty) (ho : PE X o td) : PC X .NotIn i o (uD ty td) := by
 intro pins s σ H Q I h
 refine bR (hi pins s σ H _ I h) fun iv s1 ⟨y, H1, I1, ry, q1⟩ => bR (ho pins s1 σ H1 _ I1 q1) fun u s2 ⟨x, H2, I2, rx, a, ov, ex, g, q2⟩ => ?_
 subst ex
 obtain rfl : u = Value.ref a := rx
 exact zx hu I2 g ry fun s3 I3 => ⟨.bl (!ov.isSome), H2, I3, rfl, q2⟩
theorem pd (hu : X.A.units + 1 < cLine) (ho : PE X o td) (hi : PE X i ty) (hv : PE X value tv) (hs : swapsWith value (some (.Subscript o i pos')) pos.line X.env = pure false) :
 PS X (.Assign [.Subscript o i pos'] value pos) (CK td ty tv) := by
 intro pins s σ H D I h
 refine wpAny_Assign_Subscript (bR (hv pins s σ H _ I h) fun r s1 ⟨v, H1, I1, rv, q1⟩ => bR (ho pins s1 σ H1 _ I1 q1) fun u s2 ⟨x, H2, I2, rx, q2⟩ => bR (hi pins s2 σ H2 _ I2 q2) fun iv s3 ⟨y, H3, I3, ry, a, H4, ex, g, q3⟩ => ?_) hs
 subst ex
 obtain rfl : u = Value.ref a := rx
 exact vJ hu I3 g ry rv fun s4 I4 => ⟨σ, H4, I4, q3⟩
end
theorem wJ {P : Program} {w : World} {H : Hp} (h : Heap) (hb : sysModules < h.objs.size) : aO P w H (h.push { cls := .type "dict", data := .dict #[] }) h.objs.size (.dK []) :=
 ⟨Nat.zero_le _, beq_eq_false_iff_ne.mpr (Ne.symm (Nat.ne_of_lt hb)), [], .nil, Heap.DictOf.new h⟩
def yi : TE := fun _ H Q => ∀ p, H p = none -> Q (.ref p) (upd H p (.dK []))
section
variable {X : Cx} {pos : Pos}
theorem mK : PE X (.Dict [] [] pos) yi := fun pins s σ H Q I h =>
 wpAny_Dict_empty ⟨.ref s.heap.objs.size, _, I.laid (a := s.heap.objs.size) (o := .dK []) (t' := s.toks) (fun _ _ q => Heap.get?_push_of_some _ q) (Nat.le_refl _) (wJ s.heap I.big), rfl, h _ (I.aF.fresh (Nat.le_refl _))⟩
end
structure M1 (X : Cx) (o : Expr) (m : Str) (apos : Pos) (e : Expr) (cM : Pos) : Prop where
 base : attributeBase o m X.env (eval o X.env) = eval o X.env
 few : ((backTo cM (starEach [e] X.env)).all (fun x => !x.1) && (backToKw cM (keywordEach [] X.env)).all (fun x => x.1.isSome)
  && decide (([e] : List Expr).length + ([] : List Keyword).length + (if ([] : List Keyword).isEmpty then 0 else 1) < 30)) = true
 line : (apos.endLine == cM.line) = true
 trees : backTo cM (starEach [e] X.env) = [(false, eval e X.env)]
structure M2 (X : Cx) (o : Expr) (m : Str) (apos : Pos) (e f : Expr) (cM : Pos) : Prop where
 base : attributeBase o m X.env (eval o X.env) = eval o X.env
 few : ((backTo cM (starEach [e, f] X.env)).all (fun x => !x.1) && (backToKw cM (keywordEach [] X.env)).all (fun x => x.1.isSome)
  && decide (([e, f] : List Expr).length + ([] : List Keyword).length + (if ([] : List Keyword).isEmpty then 0 else 1) < 30)) = true
 line : (apos.endLine == cM.line) = true
 trees : backTo cM (starEach [e, f] X.env) = [(false, eval e X.env), (false, eval f X.env)]
section
variable {X : Cx} {pins : List (Addr × Obj)} {σ : St} {H : Hp} {s : Shared} {a : Addr} {y d : V} {u r : Value} {o : Option V} {A : Around} {E : Value -> Shared -> Prop}
end
section
variable {X : Cx} {o e f : Expr} {apos cM : Pos} {td ty tx : TE}
end
section
variable {X : Cx} {pins : List (Addr × Obj)} {σ : St} {H : Hp} {s : Shared} {a : Addr} {kvs : List (Key × V)} {A : Around} {E : Value -> Shared -> Prop}
end
section
variable {X : Cx} {pins : List (Addr × Obj)} {σ : St} {H : Hp} {s : Shared} {a : Addr} {y : V} {u : Value} {A : Around} {E : Value -> Shared -> Prop}
end
end L2
namespace NF
open PySem PySem.W PySem.Calls PyProof.Rows
theorem k8 {P : Params} {h : Heap} : ∀ (ns : List Int) (vs : List Value), WellAll P h vs (ns.map WData.int) -> IntsAre vs ns := by
 intro ns
 induction ns with
 | nil =>
   intro vs w
   rw [List.map_nil] at w
   cases w
   exact .nil
 | cons n ns ih =>
   intro vs w
   rw [List.map_cons] at w
   cases w with
   | cons a b =>
     cases a
     exact .cons _ _ (ih _ b)
theorem vh {l : OpenLaw} {n : Nat} (hn : l.most = some n) {P : Params} {h : Heap} {args : List WData} {vals : List Value}
 (A7 : l.row.toRowW.claim.pre args = true) (FT : WellAll P h vals args) :
 ∃ a vs ns, vals = [Value.ref a] /\ args = [WData.list (ns.map WData.int)] /\ h.get? a = some { cls := .type "list", data := .seq vs.toArray } /\ IntsAre vs ns /\ ns.length <= n := by
 have Pm : WShape.hasAll [] args [.list .int] = true := (pre_splitW A7).1
 have hc : l.pre.holds [] { args := args } = true := (pre_splitW A7).2
 obtain ⟨d, r, rfl, h1, h2⟩ := hasAllW_cons Pm
 obtain rfl := hasAllW_nil h2
 obtain ⟨xs, rfl, h3⟩ := hasW_list h1
 obtain ⟨ns, rfl⟩ := items_int h3
 have hlen : ns.length <= n := by
  unfold OpenLaw.pre at hc
  have h4 : (WTm.not (.lt (.lit (.int (n : Int))) (.len (.arg 0)))).holds [] { args := [.list (ns.map .int)] } = true := by
   have h4 := (holds_andW hc).1
   rw [hn] at h4
   exact h4
  have h5 := condW_of h4 (w_not (w_lt w_lit (w_len_list (w_arg rfl))))
  rw [List.length_map] at h5
  refine Nat.le_of_not_lt fun q => ?_
  have q' : (n : Int) < ((ns.length : Nat) : Int) := by omega
  first
   | (rw [decide_eq_true q'] at h5; exact absurd h5 (by decide))
   | (simp at h5; omega)
 cases FT with
 | cons w1 w2 =>
   cases w2
   cases w1 with
   | list ho CP => exact ⟨_, _, ns, rfl, rfl, ho, k8 ns _ CP, hlen⟩
theorem uI (l : OpenLaw) (args : List WData) : l.row.toRowW.claim.post args (.bool true) args = true :=
 postW_of (r := l.row.toRowW) (X := (true == true))
  (show WShape.has [] (.bool true) .bool = true by first | rfl | decide | simp [WShape.has, WShape.arms, WShape.armsAll])
  (show (WTm.eq .res (.lit (.bool true))).value [] { args := args, res := some (.bool true), after := args } = some (.bool (true == true)) from w_eq_bool (w_res rfl) w_lit) rfl
theorem pO {l : OpenLaw} {n : Nat} {q : Program} {loose : List Str} {XP : (Str -> Option Value) -> Heap -> Prop} {YP : World -> Heap -> Prop} {d : DefRec}
 (hn : l.most = some n) (Jl : d.params.defaults = [])
 (call : ∀ (w : World) (cf s₁ : Shared) (mg mb : Str -> Option Value) (fa : Addr) (o : Obj) (pm cd doc : Value) (a : Addr) (vs : List Value) (ns : List Int),
  Ground q loose [] XP w cf mg mb s₁.heap -> YP w s₁.heap ->
  s₁.heap.get? fa = some o -> o.data = .func (docDef d.name d.params d.body d.scope pm cd doc) -> s₁.heap.CodeRec cd d.name -> mg d.name = some (.ref fa) ->
  s₁.heap.get? a = some { cls := .type "list", data := .seq vs.toArray } -> IntsAre vs ns -> ns.length <= n -> s₁.gens = #[] ->
  codeAny (model l.prog w) callerA (.call (.ref fa) ⟨[.ref a], []⟩) (fun r s' => r = .ok (.ret (.bool true)) /\ OldK s₁.heap s'.heap /\ s'.os = s₁.os /\ AllBare s'.gens) s₁) :
 WalkO q loose XP YP l.row.toRowW d [] (fun f vs => PySem.call f vs) := by
 intro w cf s₁ mg mb G Y fa o pm cd doc dV kV ho hd kX hD DQ hg args vals as A7 QF F4 FT RZ
 obtain rfl : dV = .none := Dflts.none hD Jl
 obtain rfl : kV = .none := Dflts.noKw hD
 obtain ⟨a, vs, ns, rfl, rfl, FD, hints, hlen⟩ := vh hn A7 FT
 refine enter_call (codeAny_mono (call w cf s₁ mg mb fa o pm cd doc a vs ns G Y ho (fd_plain hd) kX DQ FD hints hlen hg) fun r s' hq => ?_)
 obtain ⟨rfl, h2, h3, h4⟩ := hq
 exact ⟨.inl ⟨.bool true, .bool true, [], rfl, fun _ => rfl, .bool true, uI l _, fun _ => ⟨List.Pairwise.nil, fun _ hm => (nomatch hm)⟩⟩, h2, h3, h4⟩
section
variable {prog : Program} {w : World} {A : Around} {E : Value -> Shared -> Prop} {s : Shared} {K : Frag}
end
end NF
namespace L2
open PySem PySem.Spec PyProof.Rows
theorem nK : ∀ {vs : List Value} {ns : List Int}, IntsAre vs ns -> Vals (ns.map V.int) vs
 | _, _, .nil => .nil
 | _, _, .cons n t h => .cons ⟨t, rfl⟩ (nK h)
def inClass (s : Stmt) (j : Nat) : Stmt := match s with
 | .ClassDef _ _ _ body _ _ _ _ _ _ _ => body.getD j (.Pass ⟨0, 0, 0, 0⟩)
 | _ => .Pass ⟨0, 0, 0, 0⟩
def jQ (s : Stmt) : Arguments := match s with
 | .FunctionDef _ a _ _ _ _ _ _ _ _ => a
 | _ => { posonlyargs := [], args := [], vararg := none, kwonlyargs := [], kw_defaults := [], kwarg := none, defaults := [] }
def eC (s : Stmt) : List Stmt := match s with
 | .FunctionDef _ _ b _ _ _ _ _ _ _ => b
 | _ => []
def av (s : Stmt) : Scope := match s with
 | .FunctionDef _ _ _ _ _ _ sc _ _ _ => sc
 | _ => { kind := .function, names := [], isGenerator := false, isCoroutine := false }
abbrev jR : pB := fun _ _ _ _ _ _ => False
abbrev E0 : XK := fun _ _ _ => False
theorem uy {X : Cx} : Passes jR X E0 := fun _ _ _ _ _ _ _ h => h.elim
structure Si (K : PySem.W.Frag) (x qual : Str) (st : Stmt) (f : Addr) (fd : FuncData) : Prop where
 ex : ∃ (oc : Value) (od : Option Addr) (kV doc pm : Value) (an : Option Addr) (cV ct : Value) (qW : Array (Option Value)),
  fd = PySem.W.fnOf x qual (jQ st) (eC st) (av st) .none kV doc pm an cV ct /\ K.lookup f = some ⟨oc, od, .func fd, qW⟩ /\ PySem.W.codeIn K cV qual = true
 kp : PySem.W.keepIn K (.ref f) = true
section
variable {P : Program} {w : World} {K : PySem.W.Frag} {mg : Str -> Option Value} {base : Heap}
end
theorem i5 {A : Around} {k : Nat} (hr : aU k A) : A.units + 1 < cLine := Nat.lt_of_le_of_lt (Nat.add_le_add_left (by decide : 1 <= 64) _) hr.units
section
variable {X : Cx}
theorem pv (i : Nat) {x : Str} {pos : Pos} (hN : X.N[i]? = some x := by rfl) (hv : Ex X.env.scope x := by first | exact Or.inl rfl | exact Or.inr (Or.inl rfl) | exact Or.inr (Or.inr rfl)) (hd : (x == ("__debug__" : Str)) = false := by decide)
 (kX : (x == ("__classdict__" : Str)) = false := by decide) : PE X (.Name x pos) (Dc i) := Dk hN hv hd kX
end
theorem Lx {A B : Prop} (h : B) : if false = true then A else B := by
 rw [if_neg Bool.false_ne_true]
 exact h
theorem LX {A B : Prop} (h : A) : if true = true then A else B := by
 rw [if_pos rfl]
 exact h
def au (H H' : Hp) : Prop := ∀ b o, H b = some o -> H' b = some o
theorem au.refl (H : Hp) : au H H := fun _ _ h => h
theorem au.trans {H H1 H2 : Hp} (a : au H H1) (b : au H1 H2) : au H H2 := fun c o h => b c o (a c o h)
theorem au.seq {K : PySem.W.Frag} {H H' : Hp} {a : Addr} {xs : List V} (e : au H H') (h : dY K H a xs) : dY K H' a xs := by
 rcases h with (h | ⟨o, h⟩) | h
 . exact .inl (.inl (e _ _ h))
 . exact .inl (.inr ⟨o, e _ _ h⟩)
 . exact .inr h
section
variable {κ : Type} [DecidableEq κ]
end
section
variable {X : Cx}
def Ca (_ j : Int) : Prop := 0 < j /\ j.natAbs < 2 ^ 2000
theorem cS : jk X (binaryOp .FloorDiv) (rI Ca fun i j => .int (i / j)) := OX fun i j _ _ _ _ _ hc q => by
 have e : i.fdiv j = i / j := Int.fdiv_eq_ediv_of_nonneg _ (Int.le_of_lt hc.1)
 have hl : j.natAbs.log2 < 9000 := by
  have h0 : j.natAbs ≠ 0 := by have := hc.1; omega
  have h2 : j.natAbs.log2 < 2000 := (Nat.log2_lt h0).mpr hc.2
  omega
 refine floordiv_int (by have := hc.1; omega) ?_ (.inl (PyProof.noPylong_of_log2 hl))
 rw [e]; exact q
inductive Ey : V -> Value -> Prop where
 | ty (n : String) : Ey (.ty n) (.type n)
 | ref (C : Addr) : Ey (.ref C) (.ref C)
def CZ (K : PySem.W.Frag) : List V -> Hp -> VK -> Prop := fun xs H Q => ∃ x c cv t b, xs = [x, c] /\ Ey c cv /\ jA K H x t /\ PySem.W.kitOne K t cv = some b /\ Q (.bl b) H
theorem wU : ie X (.builtin "isinstance") (CZ X.K) := by
 intro pins s σ H xs us Q I r h
 obtain ⟨x, c, cv, t, b, rfl, hc, ty, e, q⟩ := h
 obtain ⟨u, w', rfl, r1, r2⟩ := vals2 r
 have ew : w' = cv := by cases hc <;> exact r2
 subst ew
 exact uP I r1 ty e fun tk => ⟨.bl b, H, I.tok tk, rfl, q⟩
structure OB (K : PySem.W.Frag) (C : Addr) (m : Str) (f : Addr) : Prop where
 ga : PySem.W.specialIn K (.ref C) "__getattribute__" = some (some (.builtin "type.__getattribute__"))
 rd : PySem.W.readsIn K C (.type "type") = true
 fd : PySem.W.findCls K (.ref C) (.type "type") m = some (.val (.ref f))
 kp : PySem.W.keepIn K (.ref f) = true
end
mutual
inductive iw (K : PySem.W.Frag) (H : Hp) : V -> PyData -> Prop where
 | aP : iw K H .aP .none
 | bl (b : Bool) : iw K H (.bl b) (.bool b)
 | int (i : Int) : iw K H (.int i) (.int i)
 | str (x : Str) : iw K H (.str x) (.str x)
 | tup {a : Addr} {xs : List V} {ds : List PyData} (h : r6 K H a xs) (r : dW K H xs ds) : iw K H (.ref a) (.tuple ds)
 | lst {a : Addr} {xs : List V} {ds : List PyData} (h : dY K H a xs) (r : dW K H xs ds) : iw K H (.ref a) (.list ds)
inductive dW (K : PySem.W.Frag) (H : Hp) : List V -> List PyData -> Prop where
 | nil : dW K H [] []
 | cons {x : V} {d : PyData} {xs : List V} {ds : List PyData} (h : iw K H x d) (r : dW K H xs ds) : dW K H (x :: xs) (d :: ds)
end
theorem r6.keeps {K : PySem.W.Frag} {H H' : Hp} {a : Addr} {xs : List V} (e : au H H') (h : r6 K H a xs) : r6 K H' a xs := by
 rcases h with (h | ⟨o, h⟩) | h
 . exact .inl (.inl (e _ _ h))
 . exact .inl (.inr ⟨o, e _ _ h⟩)
 . exact .inr h
mutual
theorem iw.keeps {K : PySem.W.Frag} {H H' : Hp} (e : au H H') : ∀ {v : V} {d : PyData}, iw K H v d -> iw K H' v d
 | _, _, .aP => .aP
 | _, _, .bl b => .bl b
 | _, _, .int i => .int i
 | _, _, .str x => .str x
 | _, _, .tup h r => .tup (r6.keeps e h) (dW.keeps e r)
 | _, _, .lst h r => .lst (au.seq e h) (dW.keeps e r)
theorem dW.keeps {K : PySem.W.Frag} {H H' : Hp} (e : au H H') : ∀ {vs : List V} {ds : List PyData}, dW K H vs ds -> dW K H' vs ds
 | _, _, .nil => .nil
 | _, _, .cons h r => .cons (iw.keeps e h) (dW.keeps e r)
end
section
variable {X : Cx} {pins : List (Addr × Obj)} {σ : St} {H : Hp} {s : Shared}
mutual
theorem iw.reads (I : Inv X pins σ H s) : ∀ {v : V} {d : PyData} {u : Value}, iw X.K H v d -> RelV v u -> ∃ as, Reads s.heap u d as
 | _, _, _, .aP, r => by cases r; exact ⟨_, .none⟩
 | _, _, _, .bl b, r => by cases r; exact ⟨_, .bool b⟩
 | _, _, _, .int i, r => by obtain ⟨t, rfl⟩ := r; exact ⟨_, .int i t⟩
 | _, _, _, .str x, r => by obtain ⟨t, rfl⟩ := r; exact ⟨_, .str x t⟩
 | _, _, _, .tup h q, r => by
   cases r
   obtain ⟨aY, rv, ⟨o, h1, h2, n, h3⟩, _⟩ := I.tuple h
   obtain ⟨as, ra⟩ := dW.reads I q rv
   exact ⟨_, .tuple h1 h2 h3 (by simpa using ra)⟩
 | _, _, _, .lst h q, r => by
   cases r
   obtain ⟨aY, rv, ⟨o, n, h1, h2, _, h3⟩, _⟩ := I.list h
   obtain ⟨as, ra⟩ := dW.reads I q rv
   exact ⟨_, .list h1 h2 h3 (by simpa using ra)⟩
theorem dW.reads (I : Inv X pins σ H s) : ∀ {vs : List V} {ds : List PyData} {us : List Value}, dW X.K H vs ds -> Vals vs us -> ∃ as, ReadsAll s.heap us ds as
 | _, _, _, .nil, r => by cases r; exact ⟨_, .nil⟩
 | _, _, _, .cons h q, r => by
   cases r with
   | cons r1 r2 =>
     obtain ⟨as, ra⟩ := iw.reads I h r1
     obtain ⟨bs, rb⟩ := dW.reads I q r2
     exact ⟨_, .cons ra rb⟩
end
end
section
variable {X : Cx}
def Hy (K : PySem.W.Frag) (f : Bool -> Bool) : R2 := fun x y H Q => ∃ d e, iw K H x d /\ iw K H y e /\ d.canLay0 = true /\ e.canLay0 = true /\ d.depth <= 8 /\ Q (.bl (f (PyData.eqv d e))) H
theorem ER (hu : X.A.units + 8 < cLine) : jk X (compareOp .Eq) (Hy X.K id) := by
 intro pins s σ H x y v u Q I rx ry h
 obtain ⟨d, e, hd, he, c1, c2, hn, q⟩ := h
 obtain ⟨as, ra⟩ := hd.reads I rx
 obtain ⟨bs, rb⟩ := he.reads I ry
 exact SeqAt.compareEq_reads ra rb c1 c2 (by have := Nat.min_le_left d.depth e.depth; omega) ⟨.bl _, H, I, rfl, q⟩
theorem Ew (hu : X.A.units + 8 < cLine) : jk X (compareOp .NotEq) (Hy X.K not) := by
 intro pins s σ H x y v u Q I rx ry h
 obtain ⟨d, e, hd, he, c1, c2, hn, q⟩ := h
 obtain ⟨as, ra⟩ := hd.reads I rx
 obtain ⟨bs, rb⟩ := he.reads I ry
 exact SeqAt.compareNe_reads ra rb c1 c2 (by have := Nat.min_le_left d.depth e.depth; omega) ⟨.bl _, H, I, rfl, q⟩
end
structure mO (P : Program) (w : World) (K : PySem.W.Frag) (mg : Str -> Option Value) (base : Heap) (k : Nat) (f : Addr) (ps : List Str) (bA : List V) (sp : Sp) : Prop where
 ex : ∃ (fd : FuncData) (ds : List Value), bH P w K mg base jR k f fd ps sp /\ Binds K fd ps ds /\ Vals bA ds
section
variable {X : Cx} {k : Nat} {f C : Addr} {ps : List Str} {sp : Sp} {bA : List V} {x m : Str} {p pos apos : Pos} {e o : Expr} {es : List Expr} {ta : TE} {t : TA}
theorem A6 (c : mO X.prog X.w X.K X.mg X.base k f ps bA sp) (hr : aU k X.A) (hg : Gl X x) (hm : X.mg x = some (.ref f)) (hk : PySem.W.keepIn X.K (.ref f) = true)
 (ha : PA X (e :: es) t) (o4 : (x == ("__debug__" : Str)) = false := by decide) (he : starEach (e :: es) X.env = (false, eval e X.env) :: starEach es X.env := by rfl) (kl : (backTo pos (starEach es X.env)).any (·.1) = false := by rfl) :
 PE X (.Call (.Name x p) (e :: es) [] pos) (uz sp bA E0 t) := by
 obtain ⟨fd, ds, F, hb, hd⟩ := c.ex
 exact Bc F hr hg hm hk hb hd uy ha o4 he kl
theorem BL {pl : Sem Bool} (he : PE X o ta) (c : mV X.K C) (hm : Meth X.K C m f) (F : mO X.prog X.w X.K X.mg X.base k f ps bA sp) (hr : aU k X.A) (ha : PA X (e :: es) t)
 (kN : starEach (e :: es) X.env = (false, eval e X.env) :: starEach es X.env := by rfl) (kl : (backTo pos (starEach es X.env)).any (·.1) = false := by rfl)
 (ht : eval (.Call (.Attribute o m apos) (e :: es) [] pos) X.env = (do
  let ov <- eval o X.env
  standAt apos.atName
  let (f, first) <- holding [ov] (getMethod ov m pl)
  callWith pos f first (backTo pos (starEach (e :: es) X.env)) (backToKw pos (keywordEach [] X.env))) := by rfl) :
 PE X (.Call (.Attribute o m apos) (e :: es) [] pos) (nI C m sp bA E0 ta t) := by
 obtain ⟨fd, ds, F, hb, hd⟩ := F.ex
 exact zV he c hm F hr hb hd uy ha kN kl ht
theorem xS {pl : Sem Bool} (he : PE X o ta) (c : mV X.K C) (hm : Meth X.K C m f) (F : mO X.prog X.w X.K X.mg X.base k f ps bA sp) (hr : aU k X.A)
 (ht : eval (.Call (.Attribute o m apos) [] [] pos) X.env = (do
  let ov <- eval o X.env
  standAt apos.atName
  let (f, first) <- holding [ov] (getMethod ov m pl)
  callWith pos f first (backTo pos (starEach [] X.env)) (backToKw pos (keywordEach [] X.env))) := by rfl) :
 PE X (.Call (.Attribute o m apos) [] [] pos) (nI C m sp bA E0 ta rz) := by
 obtain ⟨fd, ds, F, hb, hd⟩ := F.ex
 exact xX he c hm F hr hb hd uy ht
end
structure cG (K : PySem.W.Frag) (x qual : Str) (st : Stmt) (f : Addr) (dV : Value) (fd : FuncData) : Prop where
 ex : ∃ (oc : Value) (od : Option Addr) (kV doc pm : Value) (an : Option Addr) (cV ct : Value) (qW : Array (Option Value)),
  fd = PySem.W.fnOf x qual (jQ st) (eC st) (av st) dV kV doc pm an cV ct /\ K.lookup f = some ⟨oc, od, .func fd, qW⟩ /\ PySem.W.codeIn K cV qual = true
theorem tL {K : PySem.W.Frag} {x qual : Str} {st : Stmt} {f : Addr} {oc : Value} {od an : Option Addr} {qW : Array (Option Value)} {dV kV doc pm cV ct : Value} (l : K.lookup f = some ⟨oc, od, .func (PySem.W.fnOf x qual (jQ st) (eC st) (av st) dV kV doc pm an cV ct), qW⟩)
 (c : PySem.W.codeIn K cV qual = true) : cG K x qual st f dV (PySem.W.fnOf x qual (jQ st) (eC st) (av st) dV kV doc pm an cV ct) := ⟨⟨oc, od, kV, doc, pm, an, cV, ct, qW, rfl, l, c⟩⟩
section
variable {P : Program} {w : World} {K : PySem.W.Frag} {mg : Str -> Option Value} {base : Heap}
theorem cG.ok {x qual : Str} {st : Stmt} {f : Addr} {dV : Value} {fd : FuncData} {N ps : List Str} {k : Nat} {sp : Sp} (F : cG K x qual st f dV fd) (S : aG N ps (av st)) (len : ∀ vs H Q E, sp vs H Q E -> vs.length = ps.length)
 (gS : ∀ (cV : Value) (A : Around) (outer : List Env) (s : Shared) (H : Hp) (vs : List V) (Q : VK) (E : XK), aU k (A.deeper (envOfC qual (av st) s.heap.objs.size f cV)) -> sp vs H Q E ->
  ∃ t, nj (iU jR P w K mg base N qual (av st) f cV A outer s H E).y3 (eC st) t /\ t { nx := fun _ H' => Q .aP H', rt := Q } (start N vs) H) : bH P w K mg base jR (k + 1) f fd ps sp := by
 obtain ⟨oc, od, kV, doc, pm, an, cV, ct, qW, rfl, lk, kX⟩ := F.ex
 refine vU lk kX S len fun A outer s H vs Q E hr qQ => ?_
 obtain ⟨t, h, q⟩ := gS cV A outer s H vs Q E hr qQ
 exact ⟨t, h.y3, q⟩
theorem cG.binds {x qual : Str} {st : Stmt} {f : Addr} {dV : Value} {fd : FuncData} {ps : List Str} {ds : List Value} (F : cG K x qual st f dV fd)
 (h : ∀ (kV doc pm : Value) (an : Option Addr) (cV ct : Value), Binds K (PySem.W.fnOf x qual (jQ st) (eC st) (av st) dV kV doc pm an cV ct) ps ds) : Binds K fd ps ds := by
 obtain ⟨oc, od, kV, doc, pm, an, cV, ct, qW, rfl, lk, kX⟩ := F.ex
 exact h kV doc pm an cV ct
end
structure EX (K : PySem.W.Frag) (T : Addr) (items : Array Value) : Prop where
 ex : ∃ (o : Obj) (n : Nat), K.lookup T = some o /\ o.data = .seq items n
structure HH (K : PySem.W.Frag) (C : Addr) : Prop where
 ha : PySem.W.findIn K (.ref C) "__class__" = some (some (.builtin "object.__class__"))
 hn : PySem.W.specialIn K (.builtin "object.__class__") "__get__" = some (some (.builtin "getset_descriptor.__get__"))
 ht : PySem.W.takesIn K (.builtin "object.__class__") = some true
 hm : PySem.W.mroIn K C (.type "object") = some true
section
variable {σ : St} {H : Hp} {Q : VK} {D : Ends} {K : PySem.W.Frag}
theorem E1 (h : D.nx σ H) : CA D σ H := h
theorem Hz {te : TE} (h : te σ H D.rt) : IE te D σ H := h
theorem FA {te : TE} (h : te σ H fun _ H1 => D.nx σ H1) : Cu te D σ H := h
theorem IY {c : TT} {t u : TS} (h : c σ H fun b H1 => if b = true then t D σ H1 else u D σ H1) : Hj c t u D σ H := h
theorem Io {te : TE} {i : Nat} (h : te σ H fun x H1 => D.nx (σ.set i (some x)) H1) : Hs te (kM i) D σ H := h
theorem GN {i : Nat} {v : V} (e : σ[i]? = some (some v)) (h : Q v H) : Dc i σ H Q := ⟨v, e, h⟩
theorem P6 {v : V} (h : Q v H) : tC v σ H Q := h
theorem Ko {r : R2} {ta tb : TE} (h : ta σ H fun x H1 => tb σ H1 fun y H2 => r x y H2 Q) : Iu r ta tb σ H Q := h
theorem KU {r : V -> Hp -> VK -> Prop} {ta : TE} (h : ta σ H fun x H1 => r x H1 Q) : OT r ta σ H Q := h
theorem Ml {g : Int -> Int -> V} {i j : Int} (h : Q (g i j) H) : B4 g (.int i) (.int j) H Q := ⟨i, j, rfl, rfl, h⟩
theorem Q5 {C : Int -> Int -> Prop} {g : Int -> Int -> V} {i j : Int} (c : C i j) (h : Q (g i j) H) : rI C g (.int i) (.int j) H Q := ⟨i, j, rfl, rfl, c, h⟩
theorem QQ {g : Int -> V} {i : Int} (h : Q (g i) H) : rU g (.int i) H Q := ⟨i, rfl, h⟩
theorem Fp {t : TE} {Q : Bool -> Hp -> Prop} (h : t σ H fun x H' => ∃ k, x = .bl k /\ Q k H') : BU t σ H Q := h
theorem IU {t u : TT} {Q : Bool -> Hp -> Prop} (h : t σ H fun c H1 => if c = true then u σ H1 Q else Q false H1) : Ih t u σ H Q := h
theorem Mt {t u : TT} {Q : Bool -> Hp -> Prop} (h : t σ H fun c H1 => if c = true then Q true H1 else u σ H1 Q) : OS t u σ H Q := h
theorem Gh {t : TT} {Q : Bool -> Hp -> Prop} (h : t σ H fun c H1 => Q (!c) H1) : GR t σ H Q := h
theorem Ei {ta tb : TE} (h : ta σ H fun x H1 => ∃ c, x = .bl c /\ if c = true then tb σ H1 Q else Q (.bl false) H1) : CJ ta tb σ H Q := h
theorem FC {ta : TE} (h : ta σ H fun x H1 => ∃ c, x = .bl c /\ Q (.bl (!c)) H1) : Cr ta σ H Q := h
theorem Mw {b : Bool} {R : Bool -> Prop} (h : R b) : ∃ k, V.bl b = .bl k /\ R k := ⟨b, rfl, h⟩
theorem Ho {Q : List V -> Hp -> Prop} (h : Q [] H) : rz σ H Q := h
theorem DI {ta : TE} {tr : TA} {Q : List V -> Hp -> Prop} (h : ta σ H fun x H1 => tr σ H1 fun xs H2 => Q (x :: xs) H2) : B8 ta tr σ H Q := h
theorem Ld {r : List V -> Hp -> VK -> Prop} {t : TA} (h : t σ H fun vs H1 => r vs H1 Q) : Mx r t σ H Q := h
theorem Gb {ta : TE} {f : Str} (h : ta σ H fun x H1 => ∃ a C dx fs v, x = .ref a /\ H1 a = some (.ins C dx fs) /\ mV K C /\ dc K C f /\ fs.lookup f = some v /\ Q v H1) : GL K ta f σ H Q := h
theorem vq {A B : Prop} (h : B) : if false = true then A else B := by rw [if_neg Bool.false_ne_true]; exact h
end
section
variable {X : Cx} {e : Expr} {es : List Expr}
theorem PE.weak {t u : TE} (h1 : PE X e t) (h : ∀ σ H Q, u σ H Q -> t σ H Q) : PE X e u := fun pins s σ H Q I q => h1 pins s σ H Q I (h σ H Q q)
def mA (t : TA) : TA := fun σ H Q => ∃ Q' : List V -> Hp -> Prop, t σ H Q' /\ ∀ v H', Q' v H' -> Q v H'
theorem PA.m {t : TA} (h : PA X es t) : PA X es (mA t) := fun pos pins s σ H Q I ⟨Q', q, m⟩ => bR (h pos pins s σ H Q' I q) fun _ _ ⟨v, H', I', r, z⟩ => ⟨v, H', I', r, m v H' z⟩
end
def Ky : Key -> PyData
 | .inl i => .int i
 | .inr x => .str x
mutual
inductive Dv (H : Hp) : V -> PyData -> Prop where
 | aP : Dv H .aP .none
 | bl (b : Bool) : Dv H (.bl b) (.bool b)
 | int (i : Int) : Dv H (.int i) (.int i)
 | str (x : Str) : Dv H (.str x) (.str x)
 | tup {a : Addr} {xs : List V} {ds : List PyData} (h : H a = some (.tup xs)) (r : cB H xs ds) : Dv H (.ref a) (.tuple ds)
 | lst {a : Addr} {xs : List V} {ds : List PyData} (h : Rd H a (.lst xs)) (r : cB H xs ds) : Dv H (.ref a) (.list ds)
 | dct {a : Addr} {kvs : List (Key × V)} {ds : List (PyData × PyData)} (h : H a = some (.dK kvs)) (r : As H kvs ds) : Dv H (.ref a) (.dict ds)
inductive As (H : Hp) : List (Key × V) -> List (PyData × PyData) -> Prop where
 | nil : As H [] []
 | cons {k : Key} {x : V} {d : PyData} {xs : List (Key × V)} {ds : List (PyData × PyData)} (h : Dv H x d) (r : As H xs ds) : As H ((k, x) :: xs) ((Ky k, d) :: ds)
inductive cB (H : Hp) : List V -> List PyData -> Prop where
 | nil : cB H [] []
 | cons {x : V} {d : PyData} {xs : List V} {ds : List PyData} (h : Dv H x d) (r : cB H xs ds) : cB H (x :: xs) (d :: ds)
end
mutual
theorem Dv.has {K : PySem.W.Frag} {H : Hp} : ∀ {v : V} {d : PyData}, Dv H v d -> d.canLay0 = true -> iw K H v d
 | _, _, .aP, _ => .aP
 | _, _, .bl b, _ => .bl b
 | _, _, .int i, _ => .int i
 | _, _, .str x, _ => .str x
 | _, _, .tup h r, c => .tup (.of h) (cB.has r (by simpa [PyData.canLay0] using c))
 | _, _, .lst h r, c => .lst (.inl h) (cB.has r (by simpa [PyData.canLay0] using c))
 | _, _, .dct h r, c => by simp [PyData.canLay0] at c
theorem cB.has {K : PySem.W.Frag} {H : Hp} : ∀ {v : List V} {d : List PyData}, cB H v d -> PyData.canLayAll0 d = true -> dW K H v d
 | _, _, .nil, _ => .nil
 | _, _, .cons h r, c => by
   have c' := c
   simp only [PyData.canLayAll0, Bool.and_eq_true] at c'
   exact .cons (Dv.has h c'.1) (cB.has r c'.2)
end
theorem au.rd {H H' : Hp} {a : Addr} {u : HO} (e : au H H') (h : Rd H a u) : Rd H' a u := by
 rcases h with h | ⟨o, h⟩
 . exact .inl (e _ _ h)
 . exact .inr ⟨o, e _ _ h⟩
mutual
theorem Dv.keeps {H H' : Hp} (e : au H H') : ∀ {v : V} {d : PyData}, Dv H v d -> Dv H' v d
 | _, _, .aP => .aP
 | _, _, .bl b => .bl b
 | _, _, .int i => .int i
 | _, _, .str x => .str x
 | _, _, .tup h r => .tup (e _ _ h) (cB.keeps e r)
 | _, _, .lst h r => .lst (e.rd h) (cB.keeps e r)
 | _, _, .dct h r => .dct (e _ _ h) (As.keeps e r)
theorem As.keeps {H H' : Hp} (e : au H H') : ∀ {v : List (Key × V)} {d : List (PyData × PyData)}, As H v d -> As H' v d
 | _, _, .nil => .nil
 | _, _, .cons h r => .cons (Dv.keeps e h) (As.keeps e r)
theorem cB.keeps {H H' : Hp} (e : au H H') : ∀ {v : List V} {d : List PyData}, cB H v d -> cB H' v d
 | _, _, .nil => .nil
 | _, _, .cons h r => .cons (Dv.keeps e h) (cB.keeps e r)
end
theorem cB.length {H : Hp} : ∀ {xs : List V} {ds : List PyData}, cB H xs ds -> xs.length = ds.length
 | _, _, .nil => rfl
 | _, _, .cons _ r => by simp [cB.length r]
theorem cB.get {H : Hp} : ∀ {xs : List V} {ds : List PyData} {i : Nat} {d : PyData}, cB H xs ds -> ds[i]? = some d -> ∃ x, xs[i]? = some x /\ Dv H x d
 | _, _, _, _, .nil, e => by simp at e
 | _, _, 0, _, .cons h _, e => by simp at e; subst e; exact ⟨_, rfl, h⟩
 | _, _, i + 1, x, .cons _ r, e => by
   obtain ⟨d, h1, h2⟩ := cB.get (i := i) (d := x) r (by simpa using e)
   exact ⟨d, by simpa using h1, h2⟩
theorem cB.append {H : Hp} : ∀ {xs ys : List V} {ds es : List PyData}, cB H xs ds -> cB H ys es -> cB H (xs ++ ys) (ds ++ es)
 | _, _, _, _, .nil, s => s
 | _, _, _, _, .cons r t, s => .cons r (cB.append t s)
theorem cB.ints {H : Hp} : ∀ (ns : List Int), cB H (ns.map V.int) (ns.map PyData.int)
 | [] => .nil
 | n :: ns => .cons (.int n) (cB.ints ns)
theorem Dv.int_inv {H : Hp} {v : V} {i : Int} (h : Dv H v (.int i)) : v = .int i := by cases h; rfl
theorem Dv.str_inv {H : Hp} {v : V} {i : Str} (h : Dv H v (.str i)) : v = .str i := by cases h; rfl
def pF (H : Hp) (d : PyData) (Q : VK) : Prop := match d with
 | .none => Q .aP H
 | .bool b => Q (.bl b) H
 | .int i => Q (.int i) H
 | .str x => Q (.str x) H
 | d => ∀ v, Dv H v d -> Q v H
theorem pF.use {H : Hp} {d : PyData} {Q : VK} (g : pF H d Q) {v : V} (h : Dv H v d) : Q v H := by
 cases h with
 | aP => exact g
 | bl b => exact g
 | int i => exact g
 | str x => exact g
 | tup h r => exact g _ (.tup h r)
 | lst h r => exact g _ (.lst h r)
 | dct h r => exact g _ (.dct h r)
theorem uA {H : Hp} {xs : List V} {ds : List PyData} {i : Int} {d : PyData} (r : cB H xs ds) (h : m6 ds i = some d) : ∃ x, m6 xs i = some x /\ Dv H x d := by
 unfold m6 at h ⊢
 rw [r.length]
 cases e : zE ds.length i with
 | none => rw [e] at h; simp at h
 | some j =>
   rw [e] at h
   have h' : ds[j]? = some d := by simpa using h
   obtain ⟨x, h1, h2⟩ := r.get h'
   exact ⟨x, by simpa using h1, h2⟩
def nz (H : Hp) (v : V) (ds : List PyData) : Prop := Dv H v (.tuple ds) \/ Dv H v (.list ds)
def GD : R2 := fun x y H Q => ∃ ds i d, y = .int i /\ nz H x ds /\ m6 ds i = some d /\ pF H d Q
theorem zo {K : PySem.W.Frag} {x y : V} {H : Hp} {Q : VK} (h : GD x y H Q) : OL K x y H Q := by
 obtain ⟨ds, i, d, rfl, hs, hi, g⟩ := h
 rcases hs with hs | hs
 . cases hs with
   | tup h r =>
     obtain ⟨v, h1, h2⟩ := uA r hi
     exact .inr (.inl ⟨_, _, i, v, rfl, rfl, .of h, h1, g.use h2⟩)
 . cases hs with
   | lst h r =>
     obtain ⟨v, h1, h2⟩ := uA r hi
     exact .inl ⟨_, _, i, v, rfl, rfl, .inl h, h1, g.use h2⟩
section
variable {X : Cx}
def DM : R2 := fun x y H Q => GD x y H Q \/ CV x y H Q
theorem Lj : vO X DM := fun value slice pins s σ H x y v u Q I r1 r2 h => Dj value slice pins s σ H x y v u Q I r1 r2 (h.elim zo fun z => .inr (.inr z))
def x3 : List V -> Hp -> VK -> Prop := fun xs H Q => (∃ v ds, xs = [v] /\ nz H v ds /\ Q (.int (ds.length : Nat)) H) \/ ∃ z, xs = [.str z] /\ z.length <= sizeLine /\ Q (.int (z.length : Nat)) H
theorem vk : ie X (.builtin "len") x3 := fun pins s σ H xs us Q I r h => by
 rcases h with ⟨v, ds, rfl, hs, q⟩ | h
 . rcases hs with hs | hs
   . cases hs with
     | tup h t => exact gF pins s σ H _ us Q I r ⟨_, _, rfl, .inr (.of h), by rw [t.length]; exact q⟩
   . cases hs with
     | lst h t => exact gF pins s σ H _ us Q I r ⟨_, _, rfl, .inl (.inl h), by rw [t.length]; exact q⟩
 . exact oq pins s σ H _ us Q I r h
def Ka : PyData -> String
 | .none => "NoneType" | .bool _ => "bool" | .int _ => "int" | .str _ => "str" | .list _ => "list" | .tuple _ => "tuple" | .dict _ => "dict"
def xm (t n : String) : Option Bool := if ((Value.type t) == (Value.type n)) = true then some true else if PySem.W.kitMeta n = true then (PySem.fastBuiltinMro t).map (·.contains (.type n)) else none
theorem wV {K : PySem.W.Frag} {t n : String} {b : Bool} (h : xm t n = some b) : PySem.W.kitOne K (.type t) (.type n) = some b := h
def DA (t n : String) : Bool := t == n || (t == "bool" && n == "int")
theorem vy : (["NoneType", "bool", "int", "str", "list", "tuple", "dict"].all fun t => ["int", "bool", "str", "list", "tuple", "dict"].all fun n => xm t n == some (DA t n)) = true := by decide +kernel
theorem yy {t n : String} (ht : t ∈ ["NoneType", "bool", "int", "str", "list", "tuple", "dict"]) (hn : n ∈ ["int", "bool", "str", "list", "tuple", "dict"]) : xm t n = some (DA t n) := by
 have h := List.all_eq_true.mp (List.all_eq_true.mp vy t ht) n hn
 exact beq_iff_eq.mp h
theorem Bn (d : PyData) : Ka d ∈ ["NoneType", "bool", "int", "str", "list", "tuple", "dict"] := by
 cases d <;> simp [Ka]
theorem Dv.ty {K : PySem.W.Frag} {H : Hp} {v : V} {d : PyData} (h : Dv H v d) : jA K H v (.type (Ka d)) := by
 cases h with
 | aP => exact .aP
 | bl b => exact .bl b
 | int i => exact .int i
 | str x => exact .str x
 | tup h r => exact .tup h
 | lst h r =>
   rcases h with h | ⟨o, h⟩
   . exact .lst h
   . exact .dX h
 | dct h r => exact .dK h
theorem EI {K : PySem.W.Frag} {H : Hp} {v : V} {d : PyData} {n : String} {Q : VK} (h : Dv H v d) (hn : n ∈ ["int", "bool", "str", "list", "tuple", "dict"]) (q : Q (.bl (DA (Ka d) n)) H) : CZ K [v, .ty n] H Q :=
 ⟨v, .ty n, .type n, _, _, rfl, .ty n, h.ty, wV (yy (Bn d) hn), q⟩
def qR (K : PySem.W.Frag) (f : Bool -> Bool) : R2 := fun x y H Q => (zH x y = true /\ Q (.bl (f (decide (x = y)))) H) \/ ∃ d e, Dv H x d /\ Dv H y e /\ d.canLay0 = true /\ e.canLay0 = true /\ d.depth <= 8 /\ Q (.bl (f (PyData.eqv d e))) H
theorem gN (hu : X.A.units + 8 < cLine) : jk X (compareOp .Eq) (qR X.K id) := fun pins s σ H x y v u Q I rx ry h => by
 rcases h with h | ⟨d, e, h1, h2, h3, h4, h5, h6⟩
 . exact IX pins s σ H x y v u Q I rx ry h
 . exact ER hu pins s σ H x y v u Q I rx ry ⟨d, e, h1.has h3, h2.has h4, h3, h4, h5, h6⟩
theorem jr (hu : X.A.units + 8 < cLine) : jk X (compareOp .NotEq) (qR X.K not) := fun pins s σ H x y v u Q I rx ry h => by
 rcases h with h | ⟨d, e, h1, h2, h3, h4, h5, h6⟩
 . exact Gg pins s σ H x y v u Q I rx ry h
 . exact Ew hu pins s σ H x y v u Q I rx ry ⟨d, e, h1.has h3, h2.has h4, h3, h4, h5, h6⟩
variable {es : List Expr} {t : TA} {pos : Pos}
def yU (xs : List V) (H1 : Hp) (Q : VK) : Prop := xs.length <= sizeLine /\ ∃ ds, cB H1 xs ds /\ ∀ p H2, au H1 H2 -> H1 p = none -> H2 p = some (.tup xs) -> Dv H2 (.ref p) (.tuple ds) -> Q (.ref p) H2
def EC (xs : List V) (H1 : Hp) (Q : VK) : Prop := xs.length <= sizeLine /\ ∃ ds, cB H1 xs ds /\ ∀ p H2, au H1 H2 -> H1 p = none -> H2 p = some (.lst xs) -> cB H2 xs ds -> Dv H2 (.ref p) (.list ds) -> Q (.ref p) H2
def BR (t : TA) : TE := fun σ H Q => t σ H fun xs H1 => yU xs H1 Q
theorem tT {x1} (h : PA X es t) : PE X (.Tuple es x1 pos) (BR t) := PE.weak (E4 h.m) fun σ H Q q => ⟨_, q, fun xs H1 ⟨hl, ds, hd, k⟩ => ⟨hl, fun p hp => by
 have sm : au H1 (upd H1 p (.tup xs)) := fun b u e => by rw [ah (ay e hp)]; exact e
 exact k p _ sm hp aj (.tup aj (hd.keeps sm))⟩⟩
def B7 (t : TA) : TE := fun σ H Q => t σ H fun xs H1 => EC xs H1 Q
theorem gk (h : PA X es t) : PE X (.List es pos) (B7 t) := PE.weak (D1 h.m) fun σ H Q q => ⟨_, q, fun xs H1 ⟨hl, ds, hd, k⟩ => ⟨hl, fun p hp => by
 have sm : au H1 (upd H1 p (.lst xs)) := fun b u e => by rw [ah (ay e hp)]; exact e
 exact k p _ sm hp aj (hd.keeps sm) (.lst (.of aj) (hd.keeps sm))⟩⟩
variable {st : Stmt} {rest : List Stmt}
def E6 (t u : TS) : TS := fun D σ H => ∃ R : St -> Hp -> Prop, t { D with nx := R } σ H /\ ∀ σ' H', R σ' H' -> u D σ' H'
theorem ax {t u : TS} (h1 : PS X st t) (h2 : nj X rest u) : nj X (st :: rest) (E6 t u) := by
 intro pins s σ H D I ⟨R, h, k⟩
 refine wpAny_execs_cons (bR (h1 pins s σ H { D with nx := R } I h) fun f s1 q => ?_)
 cases f with
 | next =>
   obtain ⟨σ', H', I', q⟩ := q
   exact h2 pins s1 σ' H' D I' (k _ _ q)
 | ret v => exact q
 | brk => exact q
 | cont => exact q
end
section
variable {σ : St} {H : Hp} {Q : VK} {D : Ends} {K : PySem.W.Frag}
theorem C9 {t u : TS} (h : t { D with nx := u D } σ H) : E6 t u D σ H := ⟨u D, h, fun _ _ z => z⟩
theorem Ed {t : TA} (h : t σ H fun xs H1 => yU xs H1 Q) : BR t σ H Q := h
theorem D0 {xs : List V} {ds : List PyData} (hl : xs.length <= sizeLine) (hd : cB H xs ds) (k : ∀ v H2, au H H2 -> Dv H2 v (.tuple ds) -> Q v H2) : yU xs H Q := ⟨hl, ds, hd, fun p H2 s _ _ d => k (.ref p) H2 s d⟩
theorem EA {xs : List V} {ds : List PyData} (hl : xs.length <= sizeLine) (hd : cB H xs ds) (k : ∀ p H2, au H H2 -> H p = none -> H2 p = some (.tup xs) -> Q (.ref p) H2) : yU xs H Q := ⟨hl, ds, hd, fun p H2 s n e _ => k p H2 s n e⟩
theorem Fy {t : TA} (h : t σ H fun xs H1 => EC xs H1 Q) : B7 t σ H Q := h
theorem GQ {f : Bool -> Bool} {x y : V} (e : zH x y = true) (h : Q (.bl (f (decide (x = y)))) H) : qR K f x y H Q := .inl ⟨e, h⟩
theorem xi {f : Bool -> Bool} {x y : V} {d e : PyData} (h1 : Dv H x d) (h2 : Dv H y e) (h3 : d.canLay0 = true) (h4 : e.canLay0 = true) (h5 : d.depth <= 8) (h : Q (.bl (f (PyData.eqv d e))) H) : qR K f x y H Q := .inr ⟨d, e, h1, h2, h3, h4, h5, h⟩
theorem HL {x : V} {ds : List PyData} {i : Int} {d : PyData} (hs : nz H x ds) (hi : m6 ds i = some d) (g : pF H d Q) : DM x (.int i) H Q := .inl ⟨ds, i, d, rfl, hs, hi, g⟩
theorem Dp {v : V} {ds : List PyData} (hs : nz H v ds) (h : Q (.int (ds.length : Nat)) H) : x3 [v] H Q := .inl ⟨v, ds, rfl, hs, h⟩
theorem Bz (h : Q .aP H) : pF H .none Q := h
theorem lq {i : Str} (h : Q (.str i) H) : pF H (.str i) Q := h
theorem Iw {b : Bool} {A B : Prop} (h1 : b = true -> A) (h2 : b = false -> B) : if b = true then A else B := by
 cases b
 . exact Lx (h2 rfl)
 . exact LX (h1 rfl)
end
theorem aU.qX {k : Nat} {A : Around} (r : aU k A) : A.units + 8 < cLine := Nat.lt_of_le_of_lt (by omega) r.units
theorem au.at {H H' : Hp} {a : Addr} {o : HO} (s : au H H') (h : H a = some o) : H' a = some o := s a o h
theorem bV {H : Hp} {t : Addr} {o : HO} (h : H t = none) : au H (upd H t o) := fun b u e => by rw [ah (ay e h)]; exact e
section
variable {σ : St} {H : Hp} {Q : VK} {D : Ends} {K : PySem.W.Frag}
end
def isInt : PyData -> Bool | .int _ => true | .bool _ => true | _ => false
def isBool : PyData -> Bool | .bool _ => true | _ => false
def isStr : PyData -> Bool | .str _ => true | _ => false
def BW : PyData -> Bool | .list _ => true | _ => false
def isTup : PyData -> Bool | .tuple _ => true | _ => false
def IW : PyData -> Bool | .dict _ => true | _ => false
section
variable {K : PySem.W.Frag} {H : Hp} {v : V} {d : PyData} {Q : VK}
theorem vd (h : Dv H v d) (q : Q (.bl (BW d)) H) : CZ K [v, .ty "list"] H Q := EI h (by decide) (by cases d <;> exact q)
def u3 (H : Hp) (v : V) (C : Addr) (fs : List (Str × V)) : Prop := ∃ p dx, v = .ref p /\ H p = some (.ins C dx fs)
theorem u3.keeps {H H' : Hp} {C : Addr} {fs : List (Str × V)} (s : au H H') (h : u3 H v C fs) : u3 H' v C fs := by
 obtain ⟨p, dx, rfl, e⟩ := h; exact ⟨p, dx, rfl, s _ _ e⟩
theorem Ej {R : V -> Prop} {C : Addr} {fs : List (Str × V)} {f : Str} {x : V} (hp : u3 H v C fs) (c : mV K C) (n : dc K C f) (l : fs.lookup f = some x) (h : R x) :
 ∃ a C dx fs x, v = .ref a /\ H a = some (.ins C dx fs) /\ mV K C /\ dc K C f /\ fs.lookup f = some x /\ R x := by
 obtain ⟨p, dx, rfl, e⟩ := hp
 exact ⟨p, C, dx, fs, x, rfl, e, c, n, l, h⟩
theorem Ai {C : Addr} {m : Str} {fs : List (Str × V)} {R : Prop} (hp : u3 H v C fs) (hl : fs.lookup m = none) (h : R) : ∃ a dx fs, v = .ref a /\ H a = some (.ins C dx fs) /\ fs.lookup m = none /\ R := by
 obtain ⟨p, dx, rfl, e⟩ := hp
 exact ⟨p, dx, fs, rfl, e, hl, h⟩
end
def look (f : Str) : List (Str × V) -> Option V
 | [] => none
 | (g, v) :: r => if f = g then some v else look f r
theorem kI (f : Str) : ∀ fs : List (Str × V), fs.lookup f = look f fs
 | [] => rfl
 | (g, v) :: r => by
   show (match f == g with | true => some v | false => r.lookup f) = if f = g then some v else look f r
   by_cases h : f = g
   . subst h; rw [if_pos rfl, beq_self_eq_true]
   . rw [if_neg h, beq_eq_false_iff_ne.mpr h]; exact kI f r
section
variable {X : Cx}
def sF (K : PySem.W.Frag) : R2 := fun x y H Q => DM x y H Q \/ C7 K x y H Q
theorem jB : vO X (sF X.K) := fun value slice pins s σ H x y v u Q I r1 r2 h => h.elim (Lj value slice pins s σ H x y v u Q I r1 r2) (ua value slice pins s σ H x y v u Q I r1 r2)
def uv (K : PySem.W.Frag) : List V -> Hp -> VK -> Prop := fun xs H Q => x3 xs H Q \/ ∃ p ys, xs = [.ref p] /\ dY K H p ys /\ Q (.int ys.length) H
theorem c5 : ie X (.builtin "len") (uv X.K) := fun pins s σ H xs us Q I r h => by
 rcases h with h | ⟨p, ys, e, hl, q⟩
 . exact vk pins s σ H xs us Q I r h
 . exact gF pins s σ H xs us Q I r ⟨p, ys, e, .inl hl, q⟩
end
section
variable {σ : St} {H : Hp} {Q : VK} {D : Ends} {K : PySem.W.Frag}
theorem qC {x : V} {ds : List PyData} {i : Int} {d : PyData} (hs : nz H x ds) (hi : m6 ds i = some d) (g : pF H d Q) : sF K x (.int i) H Q := .inl (HL hs hi g)
theorem Ie {p : Addr} {xs : List V} {i : Int} {v : V} (hs : dY K H p xs) (hi : m6 xs i = some v) (g : Q v H) : sF K (.ref p) (.int i) H Q := .inr ⟨p, xs, i, v, rfl, rfl, hs, hi, g⟩
theorem xM {v : V} {ds : List PyData} (hs : nz H v ds) (h : Q (.int (ds.length : Nat)) H) : uv K [v] H Q := .inl (Dp hs h)
theorem Eh {p : Addr} {xs : List V} (hs : dY K H p xs) (h : Q (.int xs.length) H) : uv K [.ref p] H Q := .inr ⟨p, xs, rfl, hs, h⟩
theorem D7 {ta tv : TE} {f : Str} (h : tv σ H fun y H1 => ta σ H1 fun x H2 => ∃ a C dx fs, x = .ref a /\ H2 a = some (.ins C dx fs) /\ mV K C /\ dc K C f /\ fs.length < 1000 /\ D.nx σ (upd H2 a (.ins C dx (fZ f y fs)))) : IQ K ta tv f D σ H := h
theorem An {p C dx : Addr} {fs JV : List (Str × V)} {f : Str} {y : V} (hp : H p = some (.ins C dx fs)) (c : mV K C) (n : dc K C f) (hl : fs.length < 1000) (e : fZ f y fs = JV) (h : D.nx σ (upd H p (.ins C dx JV))) :
 ∃ a C dx fs, V.ref p = .ref a /\ H a = some (.ins C dx fs) /\ mV K C /\ dc K C f /\ fs.length < 1000 /\ D.nx σ (upd H a (.ins C dx (fZ f y fs))) := ⟨p, C, dx, fs, rfl, hp, c, n, hl, by rw [e]; exact h⟩
theorem ML {R : Prop} (h : R) : V.aP = V.aP /\ R := ⟨rfl, h⟩
end
theorem bg {i : Int} (h1 : -(10 ^ 200) < i) (h2 : i < 10 ^ 200) : i.natAbs < 2 ^ 2000 := by
 have : (10 : Nat) ^ 200 < 2 ^ 2000 := by decide +kernel
 have h3 : i.natAbs < 10 ^ 200 := by
  have e : ((10 : Nat) ^ 200 : Nat) = ((10 : Int) ^ 200).toNat := by decide +kernel
  rw [e]
  generalize (10 : Int) ^ 200 = m at h1 h2 ⊢
  omega
 exact Nat.lt_trans h3 this
theorem Jd {i j : Int} (h1 : 0 < j) (h2 : j < 10 ^ 200) : Ca i j := ⟨h1, bg (Int.lt_trans (by decide) h1) h2⟩
def cell (ns : List Int) (k : Nat) : Int := ns.getD k 0
def q4 (K : PySem.W.Frag) : Sp := fun vs H Q _ => ∃ l ns k, vs = [.ref l, .int k] /\ dY K H l (ns.map V.int) /\ 0 <= k /\ Q (.int (cell ns k.toNat)) H
theorem DR {K : PySem.W.Frag} {H : Hp} {Q : VK} {E : XK} {l : Addr} {ns : List Int} {k : Int} (h : dY K H l (ns.map V.int)) (hk : 0 <= k) (q : Q (.int (cell ns k.toNat)) H) : q4 K [.ref l, .int k] H Q E := ⟨l, ns, k, rfl, h, hk, q⟩
theorem Ar {ns : List Int} {k : Int} (h0 : 0 <= k) (h : k < (ns.map V.int).length) : m6 (ns.map V.int) k = some (.int (cell ns k.toNat)) := by
 obtain ⟨n, rfl⟩ := Int.eq_ofNat_of_zero_le h0
 refine lb ?_
 have hn : n < ns.length := by simpa using h
 simp [cell, hn, List.getD_eq_getElem?_getD]
theorem BH {ns : List Int} {k : Int} (h0 : 0 <= k) (h : ¬ k < (ns.map V.int).length) : cell ns k.toNat = 0 := by
 have : ns.length <= k.toNat := by simp at h; omega
 simp [cell, List.getD_eq_getElem?_getD, this]
def g4 (sp : Sp) (vs : List V) (H : Hp) (Q : VK) (E : XK) : Prop := ∃ ws, vs = ws /\ sp ws H Q E
theorem pZ (sp : Sp) (vs : List V) (H : Hp) (Q : VK) (E : XK) : g4 sp vs H Q E = sp vs H Q E := propext ⟨fun ⟨_, e, h⟩ => e ▸ h, fun h => ⟨vs, rfl, h⟩⟩
def ph (sp : Sp) (bA : List V) (E : XK) (t : TA) : TE := fun σ H Q => t σ H fun vs H1 => g4 sp (vs ++ bA) H1 Q E
theorem vm (sp : Sp) (bA : List V) (E : XK) (t : TA) : ph sp bA E t = uz sp bA E t := by
 funext σ H Q; unfold ph uz; congr 1; funext vs H1; exact pZ _ _ _ _ _
def j5 (C : Addr) (m : Str) (sp : Sp) (bA : List V) (E : XK) (ta : TE) (t : TA) : TE := fun σ H Q => ta σ H fun x H1 => ∃ a dx fs, x = .ref a /\ H1 a = some (.ins C dx fs) /\ fs.lookup m = none /\
 t σ H1 fun vs H2 => g4 sp (x :: (vs ++ bA)) H2 Q E
theorem kh (C : Addr) (m : Str) (sp : Sp) (bA : List V) (E : XK) (ta : TE) (t : TA) : j5 C m sp bA E ta t = nI C m sp bA E ta t := by
 funext σ H Q; unfold j5 nI; congr 1; funext x H1
 have : ∀ H2 : Hp, (fun vs H2 => g4 sp (x :: (vs ++ bA)) H2 Q E) = fun vs H2 => sp (x :: (vs ++ bA)) H2 Q E := fun _ => by funext vs H2; exact pZ _ _ _ _ _
 rw [this H1]
def qD (C : Addr) (sp : Sp) (vs : List V) (H1 : Hp) (Q : VK) (E : XK) : Prop := ∃ ws, vs = ws /\ ∀ x dx, H1 x = none -> H1 dx = none -> dx ≠ x ->
 sp (.ref x :: ws) (upd (upd H1 dx (.own x)) x (.ins C dx [])) (fun v H2 => v = .aP /\ Q (.ref x) H2) E
def oJ (C : Addr) (sp : Sp) (bA : List V) (E : XK) (t : TA) : TE := fun σ H Q => t σ H fun vs H1 => qD C sp (vs ++ bA) H1 Q E
theorem uJ (C : Addr) (sp : Sp) (bA : List V) (E : XK) (t : TA) : oJ C sp bA E t = xF C sp bA E t := by
 funext σ H Q; unfold oJ xF qD; congr 1; funext vs H1
 exact propext ⟨fun ⟨_, e, h⟩ => by subst e; exact h, fun h => ⟨_, rfl, h⟩⟩
section
variable {X : Cx} {k : Nat} {f C : Addr} {ps : List Str} {sp : Sp} {bA : List V} {x m : Str} {p pos apos : Pos} {e o : Expr} {es : List Expr} {ta : TE} {t : TA}
theorem gL (c : mO X.prog X.w X.K X.mg X.base k f ps bA sp) (hr : aU k X.A) (hg : Gl X x) (hm : X.mg x = some (.ref f)) (hk : PySem.W.keepIn X.K (.ref f) = true)
 (ha : PA X (e :: es) t) (o4 : (x == ("__debug__" : Str)) = false := by decide) (he : starEach (e :: es) X.env = (false, eval e X.env) :: starEach es X.env := by rfl) (kl : (backTo pos (starEach es X.env)).any (·.1) = false := by rfl) :
 PE X (.Call (.Name x p) (e :: es) [] pos) (ph sp bA E0 t) := by rw [vm]; exact A6 c hr hg hm hk ha o4 he kl
theorem aL {pl : Sem Bool} (he : PE X o ta) (c : mV X.K C) (hm : Meth X.K C m f) (F : mO X.prog X.w X.K X.mg X.base k f ps bA sp) (hr : aU k X.A) (ha : PA X (e :: es) t)
 (kN : starEach (e :: es) X.env = (false, eval e X.env) :: starEach es X.env := by rfl) (kl : (backTo pos (starEach es X.env)).any (·.1) = false := by rfl)
 (ht : eval (.Call (.Attribute o m apos) (e :: es) [] pos) X.env = (do
  let ov <- eval o X.env
  standAt apos.atName
  let (f, first) <- holding [ov] (getMethod ov m pl)
  callWith pos f first (backTo pos (starEach (e :: es) X.env)) (backToKw pos (keywordEach [] X.env))) := by rfl) :
 PE X (.Call (.Attribute o m apos) (e :: es) [] pos) (j5 C m sp bA E0 ta t) := by rw [kh]; exact BL he c hm F hr ha kN kl ht
theorem xo {pl : Sem Bool} (he : PE X o ta) (c : mV X.K C) (hm : Meth X.K C m f) (F : mO X.prog X.w X.K X.mg X.base k f ps bA sp) (hr : aU k X.A)
 (ht : eval (.Call (.Attribute o m apos) [] [] pos) X.env = (do
  let ov <- eval o X.env
  standAt apos.atName
  let (f, first) <- holding [ov] (getMethod ov m pl)
  callWith pos f first (backTo pos (starEach [] X.env)) (backToKw pos (keywordEach [] X.env))) := by rfl) :
 PE X (.Call (.Attribute o m apos) [] [] pos) (j5 C m sp bA E0 ta rz) := by rw [kh]; exact xS he c hm F hr ht
end
section
variable {σ : St} {H : Hp} {Q : VK} {D : Ends} {K : PySem.W.Frag}
theorem AZ {sp : Sp} {bA : List V} {E : XK} {t : TA} (h : t σ H fun vs H1 => g4 sp (vs ++ bA) H1 Q E) : ph sp bA E t σ H Q := h
theorem rG {sp : Sp} {vs ws : List V} {E : XK} (e : vs = ws) (h : sp ws H Q E) : g4 sp vs H Q E := ⟨ws, e, h⟩
theorem AA {C : Addr} {m : Str} {sp : Sp} {bA : List V} {E : XK} {ta : TE} {t : TA} (h : ta σ H fun x H1 => ∃ a dx fs, x = .ref a /\ H1 a = some (.ins C dx fs) /\ fs.lookup m = none /\ t σ H1 fun vs H2 => g4 sp (x :: (vs ++ bA)) H2 Q E) : j5 C m sp bA E ta t σ H Q := h
theorem Ay {C : Addr} {sp : Sp} {bA : List V} {E : XK} {t : TA} (h : t σ H fun vs H1 => qD C sp (vs ++ bA) H1 Q E) : oJ C sp bA E t σ H Q := h
theorem Df {b : Bool} {R : Bool -> Prop} (h : R b) : ∃ k, Ag K (.bl b) H k /\ R k := ⟨b, rfl, h⟩
end
theorem wX {n : Nat} (h : Nat.ble n 64 = true) : n <= sizeLine := Nat.le_trans (Nat.le_of_ble_eq_true h) (by decide)
section
variable {X : Cx} {st : Stmt} {rest : List Stmt}
def Ci (t u : TS) : TS := E6 t u
theorem fS {t u : TS} (h1 : PS X st t) (h2 : nj X rest u) : nj X (st :: rest) (Ci t u) := ax h1 h2
end
section
variable {σ : St} {H : Hp} {Q : VK} {D : Ends} {K : PySem.W.Frag}
theorem ke {t u : TS} (R : St -> Hp -> Prop) (h : t { D with nx := R } σ H) (k : ∀ σ' H', R σ' H' -> u D σ' H') : Ci t u D σ H := ⟨R, h, k⟩
def Dr (K : PySem.W.Frag) (x : V) (g : TG) (tb : TS) (D : Ends) (σ : St) (H1 : Hp) : Prop := ∃ a, x = .ref a /\ (∃ xs, dY K H1 a xs) /\ ∃ W : Nat -> Nat -> St -> Hp -> Prop, (∃ m, W 0 m σ H1) /\ ∀ i m σ H, W i m σ H ->
 ((zb K a).stop i H /\ D.nx σ H) \/ ((zb K a).go i H /\ ∃ N : St -> Hp -> Prop, (∀ σ' H', N σ' H' -> ∃ m', m' < m /\ W (i + 1) m' σ' H') /\ ∀ x H', (zb K a).F2 i H x H' -> g x σ H' fun σ2 H2 => tb { D with nx := N, ct := N, bk := D.nx } σ2 H2)
theorem GY {tl : TE} {g : TG} {tb : TS} (h : tl σ H fun x H1 => Dr K x g tb D σ H1) : Ak (yj K tl) g tb D σ H := h
theorem forL {a : Addr} {xs : List V} {g : TG} {tb : TS} (hl : dY K H a xs) (Pv : Nat -> St -> Hp -> Prop) (h0 : Pv 0 σ H) (hk : ∀ i σ H, i <= xs.length -> Pv i σ H -> dY K H a xs)
 (hs : ∀ i x σ H, xs[i]? = some x -> Pv i σ H -> g x σ H fun σ2 H2 => tb { D with nx := Pv (i + 1), ct := Pv (i + 1), bk := D.nx } σ2 H2) (hd : ∀ σ H, Pv xs.length σ H -> D.nx σ H) : Dr K (.ref a) g tb D σ H :=
 ⟨a, rfl, ⟨xs, hl⟩, wd Pv h0 hk hs hd⟩
end
section
variable {X : Cx}
def CN : R2 := fun x y H Q => ∃ i j, x = .int i /\ y = .int j /\ 0 < j /\ (0 <= i % j -> i % j < j -> Q (.int (i % j)) H)
theorem cF : jk X (binaryOp .Mod) CN := fun pins s σ H x y v u Q I rx ry ⟨i, j, e1, e2, hj, h⟩ => Fw pins s σ H x y v u Q I rx ry ⟨i, j, e1, e2, hj, h (Int.emod_nonneg _ (by omega)) (Int.emod_lt_of_pos _ hj)⟩
end
section
variable {σ : St} {H : Hp} {Q : VK} {D : Ends} {K : PySem.W.Frag}
theorem D3 {i j : Int} (hj : 0 < j) (h : 0 <= i % j -> i % j < j -> Q (.int (i % j)) H) : CN (.int i) (.int j) H Q := ⟨i, j, rfl, rfl, hj, h⟩
end
section
variable {σ : St} {H : Hp} {Q : VK} {D : Ends} {K : PySem.W.Frag}
def B6 (Pv : Nat -> St -> Hp -> Prop) (m : Nat) (tb : TS) (D : Ends) (σ : St) (H1 : Hp) : Prop := ∃ N : St -> Hp -> Prop, (∀ σ' H', N σ' H' -> ∃ m', m' < m /\ Pv m' σ' H') /\ tb { D with nx := N, ct := N, bk := D.nx } σ H1
theorem C6 {Pv : Nat -> St -> Hp -> Prop} {m : Nat} {tb : TS} (h : tb { D with nx := fun σ' H' => ∃ m', m' < m /\ Pv m' σ' H', ct := fun σ' H' => ∃ m', m' < m /\ Pv m' σ' H', bk := D.nx } σ H) : B6 Pv m tb D σ H := ⟨_, fun _ _ h => h, h⟩
theorem zQ {c : TT} {tb : TS} (Pv : Nat -> St -> Hp -> Prop) (h0 : ∃ m, Pv m σ H) (hs : ∀ m σ H, Pv m σ H -> c σ H fun b H1 => if b = true then B6 Pv m tb D σ H1 else D.nx σ H1) : xJ c tb D σ H := ⟨Pv, h0, hs⟩
end
end L2
namespace L2
theorem Ah {n : Nat} (h : Nat.blt n 1000 = true) : n < 1000 := by
 unfold Nat.blt at h
 exact Nat.le_of_ble_eq_true h
end L2
namespace L2
open PySem PySem.Spec PyProof.Rows
section
variable {X : Cx}
def Fm (f : Bool -> Bool) : R2 := fun x y H Q => ∃ b c, x = .bl b /\ y = .bl c /\ Q (.bl (f (b == c))) H
theorem xP : jk X (compareOp .Is) (Fm id) := by
 intro pins s σ H x y v u Q I rx ry h
 obtain ⟨b, c, rfl, rfl, q⟩ := h
 cases rx; cases ry
 exact is_bool (aK I q rfl)
theorem vn : jk X (compareOp .IsNot) (Fm not) := by
 intro pins s σ H x y v u Q I rx ry h
 obtain ⟨b, c, rfl, rfl, q⟩ := h
 cases rx; cases ry
 exact isnot_bool (aK I q rfl)
end
section
variable {σ : St} {H : Hp} {Q : VK} {D : Ends} {K : PySem.W.Frag}
theorem Dx {f : Bool -> Bool} {b c : Bool} (h : Q (.bl (f (b == c))) H) : Fm f (.bl b) (.bl c) H Q := ⟨b, c, rfl, rfl, h⟩
end
section
variable {X : Cx} {e : Expr}
end
section
variable {σ : St} {H : Hp} {Q : VK} {D : Ends} {K : PySem.W.Frag}
end
end L2
namespace L2
end L2
namespace L2
open PySem PySem.Spec PyProof.Rows PySem.W
structure RL (lt : Nat -> Nat -> Bool) : Prop where
 Gy : ∀ a, lt a a = false
 Hk : ∀ a b, lt a b = true -> lt b a = false
 y0 : ∀ a b c, lt a b = false -> lt b c = false -> lt a c = false
section
variable {lt : Nat -> Nat -> Bool} {n : Nat} {S : Shared -> Prop} {cmp : Nat -> Nat -> (Bool -> Shared -> Prop) -> Shared -> Prop}
def Up (lt : Nat -> Nat -> Bool) (p : Array Nat) (k : Nat) : Prop := ∀ i j, i < j -> j < k -> lt (p.getD j 0) (p.getD i 0) = false
def Down (lt : Nat -> Nat -> Bool) (p : Array Nat) (k : Nat) : Prop := ∀ i j, i < j -> j < k -> lt (p.getD i 0) (p.getD j 0) = false
def Alike (lt : Nat -> Nat -> Bool) (p : Array Nat) (a b : Nat) : Prop := ∀ i j, a <= i -> i < b -> a <= j -> j < b -> lt (p.getD i 0) (p.getD j 0) = false
structure Ix (n : Nat) (p : Array Nat) : Prop where
 sz : p.size = n
 pm : p.toList.Perm (List.range n)
theorem Ix.low {p : Array Nat} (h : Ix n p) {i : Nat} (hi : i < n) : p.getD i 0 < n := by
 have yZ : i < p.size := by rw [h.sz]; exact hi
 have e : p.getD i 0 = p[i] := by simp [Array.getD, yZ]
 rw [e]
 have : p[i] ∈ p.toList := by simp
 exact List.mem_range.mp (h.pm.mem_iff.mp this)
theorem Ix.perm {p q : Array Nat} (h : Ix n p) (hq : q.Perm p) : Ix n q := ⟨hq.size_eq.trans h.sz, (Array.perm_iff_toList_perm.mp hq).trans h.pm⟩
theorem dS {p : Array Nat} {i j : Nat} (hj : j <= p.size) (k : Nat) : (kas_rev p i j).getD k 0 = if i <= k /\ k < j then p.getD (i + j - 1 - k) 0 else p.getD k 0 := by
 unfold kas_rev
 rw [Array.getD_eq_getD_getElem?, getElem?_mirror_all hj k]
 by_cases h : i <= k /\ k < j
 . rw [if_pos h, if_pos h, Array.getD_eq_getD_getElem?]
 . rw [if_neg h, if_neg h, Array.getD_eq_getD_getElem?]
theorem mR {p : Array Nat} (h : Ix n p) (i j : Nat) : Ix n (kas_rev p i j) := h.perm (mirror_perm _ _ _ _)
theorem qy {p : Array Nat} {k d : Nat} (hk : k < p.size) (hd : d <= k) (i : Nat) : (bubble p k d).getD i 0 = if i = k - d then p.getD k 0 else if k - d < i /\ i <= k then p.getD (i - 1) 0 else p.getD i 0 := by
 rw [Array.getD_eq_getD_getElem?, getElem?_bubble hk d hd i]
 by_cases h : i = k - d
 . rw [if_pos h, if_pos h, Array.getD_eq_getD_getElem?]
 . rw [if_neg h, if_neg h]
   by_cases h2 : k - d < i /\ i <= k
   . rw [if_pos h2, if_pos h2, Array.getD_eq_getD_getElem?]
   . rw [if_neg h2, if_neg h2, Array.getD_eq_getD_getElem?]
def HB (n : Nat) (lt : Nat -> Nat -> Bool) (S : Shared -> Prop) (cmp : Nat -> Nat -> (Bool -> Shared -> Prop) -> Shared -> Prop) : Prop :=
 ∀ i j C s, i < n -> j < n -> S s -> (∀ s', S s' -> C (lt i j) s') -> cmp i j C s
variable (w : RL lt) (ha : HB n lt S cmp)
include w ha
theorem rl {p : Array Nat} (hp : Ix n p) {Q : Nat -> Shared -> Prop} : ∀ (f k : Nat), 1 <= k -> k + f <= n -> Up lt p k -> (∀ m s, S s -> k <= m -> m <= k + f -> Up lt p m -> (m = k + f \/ (m < k + f /\ lt (p.getD m 0) (p.getD (m - 1) 0) = true)) -> Q m s) -> ∀ s, S s -> (kas_asc p f k).kasWp cmp Q s
 | 0, k, _, _, hu, hq, s, hs => hq k s hs (Nat.le_refl _) (Nat.le_refl _) hu (.inl rfl)
 | f + 1, k, h1, hf, hu, hq, s, hs => by
   refine ha _ _ _ _ (hp.low (by omega)) (hp.low (by omega)) hs fun s' pC => ?_
   cases e : lt (p.getD k 0) (p.getD (k - 1) 0) with
   | true => exact hq k s' pC (Nat.le_refl _) (by omega) hu (.inr ⟨by omega, e⟩)
   | false =>
     refine rl hp f (k + 1) (by omega) (by omega) (fun i j kP hj => ?_) (fun m s hs a b c d => hq m s hs (by omega) (by omega) c (by rcases d with d | d; exact .inl (by omega); exact .inr ⟨by omega, d.2⟩)) s' pC
     by_cases CW : j < k
     . exact hu i j kP CW
     . have : j = k := by omega
       subst this
       by_cases hi : i = j - 1
       . rw [hi]; exact e
       . exact w.y0 _ _ _ e (hu i (j - 1) (by omega) (by omega))
theorem lj {Q : Array Nat × Nat × Nat -> Shared -> Prop} : ∀ (f : Nat) (p : Array Nat) (k q : Nat), Ix n p -> k + f <= n -> q + 1 <= k -> Down lt p k -> Alike lt p (k - (q + 1)) k ->
 (∀ p' k' q' s, S s -> Ix n p' -> k <= k' -> k' <= k + f -> q' + 1 <= k' -> Down lt p' k' -> Alike lt p' (k' - (q' + 1)) k' -> Q (p', k', q') s) -> ∀ s, S s -> (kas_desc f p k q).kasWp cmp Q s
 | 0, p, k, q, hp, _, h1, hd, hl, hq, s, hs => hq p k q s hs hp (Nat.le_refl _) (Nat.le_refl _) h1 hd hl
 | f + 1, p, k, q, hp, hf, h1, hd, hl, hq, s, hs => by
   refine ha _ _ _ _ (hp.low (by omega)) (hp.low (by omega)) hs fun s' pC => ?_
   cases e : lt (p.getD k 0) (p.getD (k - 1) 0) with
   | true =>
     have sg : ∀ i, i < k -> lt (p.getD i 0) (p.getD k 0) = false := fun i hi => by
      by_cases h : i = k - 1
      . rw [h]; exact w.Hk _ _ e
      . exact w.y0 _ _ _ (hd i (k - 1) (by omega) (by omega)) (w.Hk _ _ e)
     by_cases h0 : q > 0
     . simp only [if_true, if_pos h0]
       have hk : k <= p.size := by rw [hp.sz]; omega
       refine lj f _ (k + 1) 0 (mR hp _ _) (by omega) (by omega) (fun i j kP hj => ?_) (fun i j a b c d => ?_) (fun p' k' q' s hs a b c d e f => hq p' k' q' s hs a (by omega) (by omega) d e f) s' pC
       . rw [dS hk, dS hk]
         by_cases CW : j = k
         . subst CW
           rw [if_neg (show ¬ (j - (q + 1) <= j /\ j < j) by omega)]
           by_cases hi : j - (q + 1) <= i /\ i < j
           . rw [if_pos hi]; exact sg _ (by omega)
           . rw [if_neg hi]; exact sg _ kP
         . by_cases hi : k - (q + 1) <= i /\ i < k
           . rw [if_pos hi, if_pos (show k - (q + 1) <= j /\ j < k by omega)]
             exact hl _ _ (by omega) (by omega) (by omega) (by omega)
           . rw [if_neg hi]
             by_cases Cp : k - (q + 1) <= j /\ j < k
             . rw [if_pos Cp]; exact hd _ _ (by omega) (by omega)
             . rw [if_neg Cp]; exact hd _ _ kP (by omega)
       . have : i = k := by omega
         have : j = k := by omega
         subst_vars
         exact w.Gy _
     . simp only [if_true, if_neg h0]
       refine lj f _ (k + 1) 0 hp (by omega) (by omega) (fun i j kP hj => ?_) (fun i j a b c d => ?_) (fun p' k' q' s hs a b c d e f => hq p' k' q' s hs a (by omega) (by omega) d e f) s' pC
       . by_cases CW : j = k
         . subst CW; exact sg _ kP
         . exact hd _ _ kP (by omega)
       . have : i = k := by omega
         have : j = k := by omega
         subst_vars
         exact w.Gy _
   | false =>
     simp only [Bool.false_eq_true, if_false]
     refine ha _ _ _ _ (hp.low (by omega)) (hp.low (by omega)) pC fun s2 Cg => ?_
     cases e2 : lt (p.getD (k - 1) 0) (p.getD k 0) with
     | true => simp only [if_true]; exact hq p k q s2 Cg hp (Nat.le_refl _) (by omega) h1 hd hl
     | false =>
       simp only [Bool.false_eq_true, if_false]
       refine lj f _ (k + 1) (q + 1) hp (by omega) (by omega) (fun i j kP hj => ?_) (fun i j a b c d => ?_) (fun p' k' q' s hs a b c d e f => hq p' k' q' s hs a (by omega) (by omega) d e f) s2 Cg
       . by_cases CW : j = k
         . subst CW
           by_cases h : i = j - 1
           . rw [h]; exact e2
           . exact w.y0 _ _ _ (hd i (j - 1) (by omega) (by omega)) e2
         . exact hd _ _ kP (by omega)
       . by_cases hi : i = k
         . by_cases hj : j = k
           . rw [hi, hj]; exact w.Gy _
           . rw [hi]; exact w.y0 _ _ _ e (hl _ _ (by omega) (by omega) (by omega) (by omega))
         . by_cases hj : j = k
           . rw [hj]; exact w.y0 _ _ _ (hl _ _ (by omega) (by omega) (by omega) (by omega)) e2
           . exact hl _ _ (by omega) (by omega) (by omega) (by omega)
theorem pN {Q : Nat × Array Nat -> Shared -> Prop} {p : Array Nat} {k : Nat} (hp : Ix n p) (h1 : 1 <= k) (hk : k <= n) (hd : Down lt p k) (hq : ∀ m p' s, S s -> Ix n p' -> 1 <= m -> m <= n -> Up lt p' m -> Q (m, p') s) (s : Shared) (hs : S s) : (kas_tail3 k n p).kasWp cmp Q s := by
 unfold kas_tail3
 rw [KasT.kasWp_bind]
 have tX : k <= p.size := by rw [hp.sz]; exact hk
 refine rl w ha (mR hp 0 k) (n - k) k h1 (by omega) (fun i j kP hj => ?_) (fun m s hs a b c _ => hq m _ s hs (mR hp _ _) (by omega) (by omega) c) s hs
 rw [dS tX, dS tX, if_pos (by omega), if_pos (by omega)]
 exact hd _ _ (by omega) (by omega)
theorem kG {Q : Nat × Array Nat -> Shared -> Prop} {p : Array Nat} {k : Nat} (hp : Ix n p) (h1 : 1 <= k) (hk : k + 1 <= n) (hd : Down lt p (k + 1)) (hq : ∀ m p' s, S s -> Ix n p' -> 1 <= m -> m <= n -> Up lt p' m -> Q (m, p') s) (s : Shared) (hs : S s) : (kas_descPart k n p).kasWp cmp Q s := by
 unfold kas_descPart
 rw [KasT.kasWp_bind]
 refine lj w ha _ p (k + 1) 0 hp (by omega) (by omega) hd (fun i j a b c d => ?_) (fun p' k' q' s hs zc a b c jY hl => ?_) s hs
 . have : i = k := by omega
   have : j = k := by omega
   subst_vars
   exact w.Gy _
 . by_cases h0 : q' > 0
   . simp only [if_pos h0]
     have tX : k' <= p'.size := by rw [zc.sz]; omega
     refine pN w ha (mR zc _ _) (by omega) (by omega) (fun i j kP hj => ?_) hq s hs
     rw [dS tX, dS tX]
     by_cases hi : k' - (q' + 1) <= i /\ i < k'
     . rw [if_pos hi, if_pos (by omega)]; exact hl _ _ (by omega) (by omega) (by omega) (by omega)
     . rw [if_neg hi]
       by_cases Cp : k' - (q' + 1) <= j /\ j < k'
       . rw [if_pos Cp]; exact jY _ _ (by omega) (by omega)
       . rw [if_neg Cp]; exact jY _ _ kP (by omega)
   . simp only [if_neg h0]
     exact pN w ha zc (by omega) (by omega) jY hq s hs
theorem vW {Q : Nat × Array Nat -> Shared -> Prop} {p : Array Nat} (hn : 1 <= n) (hp : Ix n p) (hq : ∀ m p' s, S s -> Ix n p' -> 1 <= m -> m <= n -> Up lt p' m -> Q (m, p') s) (s : Shared) (hs : S s) : (kas_count n p).kasWp cmp Q s := by
 unfold kas_count
 rw [KasT.kasWp_bind]
 refine rl w ha hp (n - 1) 1 (Nat.le_refl _) (by omega) (fun i j _ _ => by omega) (fun m s hs a b hu hc => ?_) s hs
 by_cases hm : (m == n) = true
 . simp only [if_pos hm]; exact hq m p s hs hp a (by have := beq_iff_eq.mp hm; omega) hu
 . simp only [if_neg hm]
   have Se : m ≠ n := fun z => hm (beq_iff_eq.mpr z)
   have jZ : m < n := by omega
   have kK : lt (p.getD m 0) (p.getD (m - 1) 0) = true := by
    rcases hc with hc | hc
    . omega
    . exact hc.2
   by_cases h1 : m > 1
   . simp only [if_pos h1]
     refine ha _ _ _ _ (hp.low (by omega)) (hp.low (by omega)) hs fun s2 Cg => ?_
     cases e : lt (p.getD 0 0) (p.getD (m - 1) 0) with
     | true => simp only [if_true]; exact hq m p s2 Cg hp a (by omega) hu
     | false =>
       simp only [Bool.false_eq_true, if_false]
       have hk : m <= p.size := by rw [hp.sz]; omega
       have al : ∀ i j, i < m -> j < m -> lt (p.getD i 0) (p.getD j 0) = false := fun i j hi hj => by
        have h1 : lt (p.getD i 0) (p.getD 0 0) = false := by
         by_cases h : i = 0
         . rw [h]; exact w.Gy _
         . exact hu 0 i (by omega) hi
        have h2 : lt (p.getD i 0) (p.getD (m - 1) 0) = false := w.y0 _ _ _ h1 e
        by_cases h : j = m - 1
        . rw [h]; exact h2
        . exact w.y0 _ _ _ h2 (hu j (m - 1) (by omega) (by omega))
       refine kG w ha (mR hp _ _) a (by omega) (fun i j kP hj => ?_) hq s2 Cg
       rw [dS hk, dS hk, if_pos (by omega)]
       by_cases R9 : j < m
       . rw [if_pos (by omega)]; exact al _ _ (by omega) (by omega)
       . rw [if_neg (by omega)]
         have : j = m := by omega
         subst this
         exact w.y0 _ _ _ (al _ (j - 1) (by omega) (by omega)) (w.Hk _ _ kK)
   . simp only [if_neg h1]
     refine kG w ha hp a (by omega) (fun i j kP hj => ?_) hq s hs
     have h1 : m = 1 := by omega
     have hi : i = m - 1 := by omega
     have hj : j = m := by omega
     rw [hi, hj]
     exact w.Hk _ _ kK
theorem mw {p : Array Nat} {k : Nat} (hp : Ix n p) (hk : k < n) (hu : Up lt p k) {Q : Nat -> Shared -> Prop} : ∀ (f l r : Nat), l <= r -> r <= k -> r - l <= f -> (∀ i, i < l -> lt (p.getD k 0) (p.getD i 0) = false) -> (∀ i, r <= i -> i < k -> lt (p.getD k 0) (p.getD i 0) = true) ->
 (∀ l s, S s -> l <= k -> (∀ i, i < l -> lt (p.getD k 0) (p.getD i 0) = false) -> (∀ i, l <= i -> i < k -> lt (p.getD k 0) (p.getD i 0) = true) -> Q l s) -> ∀ s, S s -> (kas_place p k f l r).kasWp cmp Q s
 | 0, l, r, Qo, hr, hf, h1, h2, hq, s, hs => hq l s hs (by omega) h1 (fun i a b => h2 i (by omega) b)
 | f + 1, l, r, Qo, hr, hf, h1, h2, hq, s, hs => by
   unfold kas_place
   by_cases h : l ≥ r
   . rw [if_pos h]; exact hq l s hs (by omega) h1 (fun i a b => h2 i (by omega) b)
   . rw [if_neg h]
     refine ha _ _ _ _ (hp.low hk) (hp.low (by omega)) hs fun s' pC => ?_
     cases e : lt (p.getD k 0) (p.getD ((l + r) / 2) 0) with
     | true =>
       simp only [if_true]
       refine mw hp hk hu f l ((l + r) / 2) (by omega) (by omega) (by omega) h1 (fun i a b => ?_) hq s' pC
       by_cases hi : i = (l + r) / 2
       . rw [hi]; exact e
       . cases e3 : lt (p.getD k 0) (p.getD i 0) with
         | true => rfl
         | false => rw [w.y0 _ _ _ e3 (hu ((l + r) / 2) i (by omega) b)] at e; exact e
     | false =>
       simp only [Bool.false_eq_true, if_false]
       refine mw hp hk hu f ((l + r) / 2 + 1) r (by omega) (by omega) (by omega) (fun i a => ?_) h2 hq s' pC
       by_cases hi : i = (l + r) / 2
       . rw [hi]; exact e
       . exact w.y0 _ _ _ e (hu i ((l + r) / 2) (by omega) (by omega))
theorem yF {Q : Array Nat -> Shared -> Prop} : ∀ (f : Nat) (p : Array Nat) (k : Nat), Ix n p -> k + f = n -> Up lt p k -> (∀ p' s, S s -> Ix n p' -> Up lt p' n -> Q p' s) -> ∀ s, S s -> (kas_bin f p k).kasWp cmp Q s
 | 0, p, k, hp, hf, hu, hq, s, hs => by
   have : k = n := by omega
   subst this
   exact hq p s hs hp hu
 | f + 1, p, k, hp, hf, hu, hq, s, hs => by
   unfold kas_bin
   rw [KasT.kasWp_bind]
   refine mw w ha hp (by omega) hu k 0 k (by omega) (Nat.le_refl _) (by omega) (fun i h => by omega) (fun i a b => by omega) (fun l s hs hl h1 h2 => ?_) s hs
   have hk : k < p.size := by rw [hp.sz]; omega
   refine yF f _ (k + 1) (hp.perm (bubble_perm _ _ _)) (by omega) (fun i j kP hj => ?_) hq s hs
   rw [qy hk (by omega), qy hk (by omega)]
   have el : k - (k - l) = l := by omega
   rw [el]
   by_cases zO : j = l
   . rw [if_pos zO, if_neg (by omega), if_neg (by omega)]; exact h1 i (by omega)
   . rw [if_neg zO]
     by_cases FZ : i = l
     . rw [if_pos FZ, if_pos (by omega)]; exact w.Hk _ _ (h2 _ (by omega) (by omega))
     . rw [if_neg FZ]
       by_cases Fs : l < i /\ i <= k
       . rw [if_pos Fs, if_pos (by omega)]; exact hu _ _ (by omega) (by omega)
       . rw [if_neg Fs]
         by_cases Cp : l < j /\ j <= k
         . rw [if_pos Cp]; exact hu _ _ (by omega) (by omega)
         . rw [if_neg Cp]; exact hu _ _ kP (by omega)
theorem BO {Q : Array Nat -> Shared -> Prop} (hn : 1 <= n) (hq : ∀ p' s, S s -> Ix n p' -> Up lt p' n -> Q p' s) (s : Shared) (hs : S s) : (kas_sort n).kasWp cmp Q s := by
 unfold kas_sort
 rw [KasT.kasWp_bind]
 refine vW w ha hn ⟨by simp, by simp⟩ (fun m p' s hs hp h1 hm hu => ?_) s hs
 by_cases h : m < n
 . simp only [if_pos h]
   have : max m 1 = m := by omega
   rw [this]
   exact yF w ha _ p' m hp (by omega) hu hq s hs
 . simp only [if_neg h]
   have : m = n := by omega
   subst this
   exact hq p' s hs hp hu
end
section
variable {X : Cx} {pins : List (Addr × Obj)} {σ : St} {H H' : Hp} {s : Shared} {a : Addr}
theorem Inv.A4 {f : Obj -> Obj} (I : Inv X pins σ H s) (fa : dU X pins H a) : Inv X pins σ H { s with heap := s.heap.update a f } :=
 I.turned (t' := s.toks) (fun b o hb e => by rw [Heap.get?_update_ne _ _ _ _ hb]; exact e) fa.1 fa.2.1 fa.2.2.2.1 fa.2.2.2.2.1 fa.2.2.2.2.2
theorem Inv.tQ {o : Obj} (I : Inv X pins σ H s) : Inv X pins σ H { s with heap := s.heap.push o } := I.kept (t' := s.toks) fun b u e => Heap.get?_push_of_some _ e
theorem dU.keep (fa : dU X pins H a) (h : H' a = none) : dU X pins H' a := ⟨h, fa.2⟩
theorem Inv.GX {acc : List V} {aY : List Value} {n : Nat} (I : Inv X pins σ H s) (fa : dU X pins H a) (Ae : X.cf.heap.objs.size <= a) (hl : acc.length <= sizeLine) (r : Vals acc aY) (hd : s.heap.get? a = some { cls := .type "list", data := .seq aY.toArray n }) :
 Inv X pins σ (upd H a (.lst acc)) s := by
 have ne : ∀ b u, H b = some u -> b ≠ a := fun b u e => ay e fa.1
 have old : ∀ b o, X.cf.heap.get? b = some o -> b ≠ a := fun b o e => Nat.ne_of_lt (Nat.lt_of_lt_of_le (Heap.lt_size e) Ae)
 have U := I.base
 refine ⟨I.ok, I.os, I.bare, ⟨U.keep, U.slot, fun b o e n hx => ?_, U.there, fun b xs e => ?_, fun b o u e => ?_, fun b ps e => ?_⟩, I.loc, I.cell, ?_, fun x c e => ?_, fun p hp => ?_, fun b u e => ?_, I.len⟩
 . rw [ah (old b o e)]; exact U.free b o e n hx
 . rw [ah (ne b _ (U.gb b xs e))]; exact U.gb b xs e
 . rw [ah (ne b _ (U.fJ b o u e))]; exact U.fJ b o u e
 . obtain ⟨more, q⟩ := U.ib b ps e
   exact ⟨more, by rw [ah (ne b _ q)]; exact q⟩
 . rw [ah (Ne.symm fa.2.1)]; exact I.free
 . rw [ah (fa.2.2.2.2.1 x c e)]; exact I.cE x c e
 . obtain ⟨e1, e2, e3⟩ := I.pin p hp
   exact ⟨e1, by rw [ah (fa.2.2.2.2.2 p hp)]; exact e2, e3⟩
 . by_cases hb : b = a
   . subst hb
     rw [aj] at e
     cases e
     exact ⟨hl, aY, n, r, hd⟩
   . rw [ah hb] at e
     exact (I.aF b u e).iA (fun c v _ q => q) (fun c q => by rw [ah (ne c _ q)]; exact q) fun c xs q => by rw [ah (ne c _ q)]; exact q
end
def qm (a b : Str) : Bool := decide (a.cps.toList < b.cps.toList)
def d6 (a b : Int × Str) : Bool := decide (a.1 < b.1) || (decide (a.1 = b.1) && qm a.2 b.2)
theorem z0 (a : Str) : qm a a = false := decide_eq_false (List.lt_irrefl _)
theorem z3 {a b : Str} (h : qm a b = true) : qm b a = false := decide_eq_false (List.lt_asymm (of_decide_eq_true h))
theorem uf {a b c : Str} (h : qm a b = false) (h2 : qm b c = false) : qm a c = false := by
 unfold qm at *
 have wg : b.cps.toList <= a.cps.toList := List.not_lt.mp (of_decide_eq_false h)
 have GV : c.cps.toList <= b.cps.toList := List.not_lt.mp (of_decide_eq_false h2)
 exact decide_eq_false (List.not_lt.mpr (List.le_trans GV wg))
theorem um {a b : Str} (h : a.cps.toList = b.cps.toList) : a = b := by
 cases a; cases b
 simp only at h
 rw [Array.toList_inj.mp h]
theorem Am {a b : Str} (h : qm a b = false) (h2 : qm b a = false) : a = b := by
 unfold qm at *
 have wg : b.cps.toList <= a.cps.toList := List.not_lt.mp (of_decide_eq_false h)
 have GV : a.cps.toList <= b.cps.toList := List.not_lt.mp (of_decide_eq_false h2)
 exact um (List.le_antisymm GV wg)
theorem yP {a b : Int × Str} : d6 a b = true ↔ a.1 < b.1 \/ (a.1 = b.1 /\ qm a.2 b.2 = true) := by
 unfold d6; simp
theorem eN {a b : Int × Str} : d6 a b = false ↔ ¬ a.1 < b.1 /\ (a.1 = b.1 -> qm a.2 b.2 = false) := by
 unfold d6; simp
theorem pX (a : Int × Str) : d6 a a = false := eN.mpr ⟨by omega, fun _ => z0 _⟩
theorem yc {a b : Int × Str} (h : d6 a b = true) : d6 b a = false := by
 rcases yP.mp h with h | ⟨h, h2⟩
 . exact eN.mpr ⟨by omega, fun _ => by omega⟩
 . exact eN.mpr ⟨by omega, fun _ => z3 h2⟩
theorem vV {a b c : Int × Str} (h : d6 a b = false) (h2 : d6 b c = false) : d6 a c = false := by
 obtain ⟨h1, h3⟩ := eN.mp h
 obtain ⟨h4, h5⟩ := eN.mp h2
 refine eN.mpr ⟨by omega, fun e => ?_⟩
 exact uf (h3 (by omega)) (h5 (by omega))
section
variable {prog : Program} {w : World} {A : Around} {E : Value -> Shared -> Prop} {s : Shared}
theorem AY {x y : Addr} {i j : Int} {t u t2 u2 : Tok} {c d : Str} {Q : Bool -> Shared -> Prop} (hx : IsTup s.heap x #[.int i t, .str c t2]) (hy : IsTup s.heap y #[.int j u, .str d u2]) (h : Q (d6 (i, c) (j, d)) s) :
 wpAny (model prog w) A (keyLt' (tuples' true) (.ref x) (.ref y)) Q E s := by
 obtain ⟨ox, Rk, cx, nx, dx⟩ := hx
 obtain ⟨oy, RU, cy, ny, dy⟩ := hy
 refine kat_lt Rk dx RU dy ?_
 refine kat_cons (wpAny_eqBool_int ?_)
 by_cases e : i = j
 . rw [show (i == j) = true from beq_iff_eq.mpr e]
   refine kat_yes (kat_cons (wpAny_eqBool_str ?_))
   by_cases e2 : c = d
   . rw [decide_eq_true e2]
     refine kat_yes (kat_nil ?_)
     have : d6 (i, c) (j, d) = false := by rw [e, e2]; exact pX _
     rw [this] at h
     exact h
   . rw [decide_eq_false e2]
     refine kat_no (kat_one _ _ (lt_str ?_))
     have : d6 (i, c) (j, d) = qm c d := by unfold d6; simp [e]
     rw [this] at h
     exact h
 . rw [show (i == j) = false from beq_eq_false_iff_ne.mpr e]
   refine kat_no (oneLt_int ?_)
   have : d6 (i, c) (j, d) = decide (i < j) := by unfold d6; simp [e]
   rw [this] at h
   exact h
end
def sj (sp : Sp) (kf : V -> Int × Str) (H : Hp) (xs : List V) : Prop := ∀ v ∈ xs, ∀ H', au H H' -> sp [v] H' (fun y H2 => au H' H2 /\ Dv H2 y (.tuple [.int (kf v).1, .str (kf v).2])) E0
def oB {α : Type} (lt : α -> α -> Bool) (kf : V -> α) (ys xs : List V) : Prop := ys.Perm xs /\ ys.Pairwise fun x y => lt (kf y) (kf x) = false
section
variable {X : Cx} {pins : List (Addr × Obj)} {σ : St} {H : Hp} {s : Shared} {k : Nat} {f : Addr} {fd : FuncData} {ps : List Str} {sp : Sp} {kf : V -> Int × Str} {A : Around}
structure DX (X : Cx) (pins : List (Addr × Obj)) (σ : St) (H : Hp) (kf : V -> Int × Str) (a kS : Addr) (oa : Obj) (xs : List V) (s' : Shared) : Prop where
 mk ::
 ex : ∃ H' us e ys, Inv X pins σ H' s' /\ au H H' /\ H' a = none /\ H' kS = none /\ s'.heap.get? a = some oa /\ s'.heap.get? kS = some (seqObj "list" (List.toArray us) e) /\ Vals ys us /\ cB H' ys (xs.map fun v => .tuple [.int (kf v).1, .str (kf v).2])
theorem yu {xs : List V} {p : Array Nat} {α : Type} {lt : α -> α -> Bool} {kf : V -> α} (hp : Ix xs.length p) (hu : Up (fun i j => lt (kf (xs.getD i .aP)) (kf (xs.getD j .aP))) p xs.length) : oB lt kf (p.toList.map fun i => xs.getD i .aP) xs := by
 refine ⟨?_, ?_⟩
 . have h := hp.pm.map fun i => xs.getD i .aP
   have e : (List.range xs.length).map (fun i => xs.getD i .aP) = xs := by
    refine List.ext_getElem? fun i => ?_
    rw [List.getElem?_map]
    by_cases hi : i < xs.length
    . rw [List.getElem?_range hi]; simp [hi]
    . rw [List.getElem?_eq_none (by simpa using hi), List.getElem?_eq_none (by simpa using hi)]; rfl
   rw [e] at h
   exact h
 . rw [List.pairwise_map, List.pairwise_iff_getElem]
   intro i j hi hj kP
   have hsz : p.toList.length = xs.length := by simp [hp.sz]
   have := hu i j kP (by omega)
   have gi : p.getD i 0 = p.toList[i] := by simp [Array.getD, show i < p.size by rw [hp.sz]; omega]
   have gj : p.getD j 0 = p.toList[j] := by simp [Array.getD, show j < p.size by rw [hp.sz]; omega]
   rw [gi, gj] at this
   exact this
theorem kB : ∀ {xs : List V} {us : List Value} (i : Nat), Vals xs us -> RelV (xs.getD i .aP) (us.getD i Value.none)
 | _, _, _, .nil => rfl
 | _, _, 0, .cons r _ => r
 | _, _, i + 1, .cons _ t => by simpa using kB i t
theorem nZ {xs : List V} {us : List Value} (r : Vals xs us) : ∀ l : List Nat, Vals (l.map fun i => xs.getD i .aP) (l.map fun i => us.getD i Value.none)
 | [] => .nil
 | i :: l => .cons (kB i r) (nZ r l)
theorem p4 {H : Hp} {g : V -> PyData} : ∀ {ys : List V} {xs : List V} {i : Nat}, cB H ys (xs.map g) -> i < xs.length -> Dv H (ys.getD i .aP) (g (xs.getD i .aP))
 | _, [], _, _, h => by simp at h
 | _, _ :: _, 0, .cons h _, _ => h
 | _, _ :: _, i + 1, .cons _ t, hi => by simpa using p4 (i := i) t (by simpa using hi)
def tF (X : Cx) (pins : List (Addr × Obj)) (σ : St) (H : Hp) {α : Type} (lt : α -> α -> Bool) (kf : V -> α) (xs : List V) (Q : VK) : Prop :=
 ∀ a ys H', au H H' -> H a = none -> H' a = none -> oB lt kf ys xs -> Q (.ref a) (upd H' a (.lst ys))
theorem u9 {H' : Hp} {s' : Shared} {xs ys : List V} {us : List Value} {A : Around} (I : Inv X pins σ H' s') (rv : Vals ys us) (dv : cB H' ys (xs.map fun v => .tuple [.int (kf v).1, .str (kf v).2])) :
 HB xs.length (fun i j => d6 (kf (xs.getD i .aP)) (kf (xs.getD j .aP))) (fun z => z = s') (kas_ask X.prog X.w A (tuples' true) us) := by
 intro i j C z hi hj hz hC
 subst hz
 have one : ∀ i, i < xs.length -> ∃ x t t2, us.getD i Value.none = .ref x /\ IsTup z.heap x #[.int (kf (xs.getD i .aP)).1 t, .str (kf (xs.getD i .aP)).2 t2] := fun i hi => by
  have d := p4 dv hi
  have r := kB i rv
  generalize ys.getD i .aP = y at d r
  generalize us.getD i Value.none = u at r
  cases d with
  | tup h q =>
    have r' : u = .ref _ := r
    obtain ⟨aY, rr, tt, _⟩ := I.tuple (.of h)
    cases q with
    | cons h1 q =>
      cases q with
      | cons h2 q =>
        cases q
        cases h1; cases h2
        cases rr with
        | cons r1 rr =>
          cases rr with
          | cons r2 rr =>
            cases rr
            obtain ⟨t1, rfl⟩ := r1
            obtain ⟨t2, rfl⟩ := r2
            exact ⟨_, t1, t2, r', tt⟩
 obtain ⟨x, t, t2, e1, hx⟩ := one i hi
 obtain ⟨y, u, u2, e2, hy⟩ := one j hj
 show wpAny (model X.prog X.w) A (keyLt' (tuples' true) (us.getD i Value.none) (us.getD j Value.none)) C (fun _ _ => False) z
 rw [e1, e2]
 exact AY hx hy (hC _ rfl)
theorem mI {H' : Hp} {s' : Shared} : ∀ {xs ys : List V} {us : List Value}, Inv X pins σ H' s' -> Vals ys us -> cB H' ys (xs.map fun v => .tuple [.int (kf v).1, .str (kf v).2]) ->
 ∃ fs, KatTups s'.heap us fs /\ fs.length = us.length /\ ∀ v ∈ fs, Looks (model X.prog X.w) s'.heap (typeOf v) (.type "int")
 | [], _, _, I, rv, dv => by
   cases dv
   cases rv
   exact ⟨[], trivial, rfl, fun _ z => nomatch z⟩
 | x :: xs, _, _, I, rv, dv => by
   cases dv with
   | cons d dv =>
     cases rv with
     | cons r rv =>
       obtain ⟨fs, h1, h2, h3⟩ := mI I rv dv
       cases d with
       | tup h q =>
         obtain ⟨aY, rr, tt, _⟩ := I.tuple (.of h)
         cases q with
         | cons q1 q =>
           cases q with
           | cons q2 q =>
             cases q
             cases q1; cases q2
             cases rr with
             | cons r1 rr =>
               cases rr with
               | cons r2 rr =>
                 cases rr
                 obtain ⟨t1, rfl⟩ := r1
                 obtain ⟨t2, rfl⟩ := r2
                 cases r
                 obtain ⟨o, ho, hc, n, hd⟩ := tt
                 refine ⟨_ :: fs, KatTups.cons ho hc hd rfl h1, by simp [h2], fun v hv => ?_⟩
                 rcases List.mem_cons.mp hv with rfl | hv
                 . exact .now
                 . exact h3 v hv
end
section
variable {X : Cx} {pins : List (Addr × Obj)} {σ : St} {H : Hp} {s : Shared} {k : Nat} {f : Addr} {fd : FuncData} {ps : List Str} {sp : Sp} {kf : V -> Int × Str} {A : Around}
theorem nD {H' : Hp} {s' : Shared} {a kS : Addr} {e e1 : Nat} {us out : List Value} {ys : List V} {st : SortSt} {E : Value -> Shared -> Prop} {P : PySem.Fin -> Shared -> Prop} (I : Inv X pins σ H' s') (fa : dU X pins H' a) (fk : dU X pins H' kS) (y9 : a ≠ kS) (Ae : X.cf.heap.objs.size <= a)
 (oa : s'.heap.get? a = some (seqObj "list" #[] e1)) (ok : s'.heap.get? kS = some (seqObj "list" (List.toArray us) e)) (hz : us.length < 64) (MV : (arrOf st).map (·.2) = List.toArray out) (ho : out.length < 64) (hf : failedOf st = none) (rv : Vals ys out)
 (h : ∀ s2, Inv X pins σ (upd H' a (.lst ys)) s2 -> P (.done (.ret .none)) s2) : wpAny (model X.prog X.w) A (ksk_tail a false e1 (.ref kS) st) P E s' := by
 have Eo : (64 : Nat) <= sizeLine := by decide
 unfold ksk_tail
 dsimp only
 rw [MV]
 refine wpAny_bind (listUpdate_at ok rfl ?_ (by rw [List.size_toArray]; omega) (Nat.zero_le _))
 refine wpAny_bind (wpAny_letGo ?_)
 have MD : (s'.heap.update kS (Obj.mapSeq fun _ => (#[] : Array Value))).get? a = some (seqObj "list" #[] e1) := by rw [Heap.get?_update_ne _ _ _ _ y9]; exact oa
 have I1 : Inv X pins σ H' { s' with heap := s'.heap.update kS (Obj.mapSeq fun _ => (#[] : Array Value)) } := I.A4 fk
 refine wpAny_bind (seqEpoch_at MD rfl ?_)
 refine wpAny_bind (listUpdate_at MD rfl ?_ (Nat.zero_le _) (by show (List.toArray out).size <= _; rw [List.size_toArray]; omega))
 rw [hf]
 simp only [bne_self_eq_false, Bool.false_eq_true, if_false]
 refine wpAny_pure (h _ ?_)
 have I2 := I1.A4 (f := Obj.mapSeq fun _ => List.toArray out) fa
 exact I2.GX fa Ae (by rw [rv.length]; omega) rv (get?_update_seq MD fun _ => List.toArray out)
theorem wR {H' : Hp} {s' : Shared} {a kS : Addr} {e e1 : Nat} {us vs : List Value} {xs ys : List V} {Q : VK} {E : Value -> Shared -> Prop} {P : PySem.Fin -> Shared -> Prop} (sm : au H H') (M6 : H a = none) (I : Inv X pins σ H' s') (fa : dU X pins H' a) (fk : dU X pins H' kS) (y9 : a ≠ kS) (Ae : X.cf.heap.objs.size <= a)
 (oa : s'.heap.get? a = some (seqObj "list" #[] e1)) (ok : s'.heap.get? kS = some (seqObj "list" (List.toArray us) e)) (h64 : xs.length < 64) (rx : Vals xs vs) (ry : Vals ys us) (dv : cB H' ys (xs.map fun v => .tuple [.int (kf v).1, .str (kf v).2]))
 (fin : tF X pins σ H d6 kf xs Q) (h : ∀ s2, EP X pins σ Q (.ref a) s2 -> P (.done (.ret .none)) s2) : wpAny (model X.prog X.w) A (ksk_end a false vs.toArray e1 (.ref kS) (List.toArray us)) P E s' := by
 have lx := rx.length
 have ly := ry.length
 have ld := dv.length
 rw [List.length_map] at ld
 unfold ksk_end
 simp only [Bool.false_eq_true, if_false]
 by_cases h2 : vs.toArray.size < 2
 . rw [if_pos h2, if_pos h2]
   refine wpAny_bind (wpAny_pure ?_)
   rw [StateT.run_pure]
   refine wpAny_bind (wpAny_pure ?_)
   refine nD (out := vs) (ys := xs) I fa fk y9 Ae oa ok (by omega) ?_ (by omega) rfl rx (fun s2 I2 => h s2 ⟨.ref a, _, I2, rfl, fin a xs H' sm M6 fa.1 ⟨List.Perm.refl _, ?_⟩⟩)
   . show ((List.toArray us).zip vs.toArray).map (·.2) = List.toArray vs
     apply Array.toList_inj.mp
     have : us.length = vs.length := by omega
     simp [List.map_snd_zip, this]
   . rw [List.size_toArray] at h2
     match xs, lx with
     | [], _ => exact .nil
     | [_], _ => exact List.pairwise_singleton _ _
     | _ :: _ :: _, lx => simp at lx; omega
 . rw [if_neg h2, if_neg h2]
   rw [List.size_toArray] at h2
   obtain ⟨fs, k1, k2, k3⟩ := mI I ry dv
   refine wpAny_bind (kat_kind k1 (by omega) k3 (by decide) ?_)
   have J5 : us.length = vs.length := by omega
   refine wpAny_bind (wpAny_mono (kat_run (Q := fun vS s2 => s2 = s' /\ ∃ p : Array Nat, Ix xs.length p /\ arrOf vS = p.map (kas_item ((List.toArray us).zip (List.toArray vs))) /\ failedOf vS = none /\ Up (fun i j => d6 (kf (xs.getD i .aP)) (kf (xs.getD j .aP))) p xs.length)
    (G := fun p s2 => s2 = s' /\ Ix xs.length p /\ Up (fun i j => d6 (kf (xs.getD i .aP)) (kf (xs.getD j .aP))) p xs.length) J5 (by omega) (by omega) (fun p vS s2 a1 a2 a3 ⟨a4, a5, a6⟩ => ⟨a4, p, a5, a2, a3, a6⟩) ?_) ?_ fun _ _ z => z)
   . rw [show vs.length = xs.length by omega]
     refine BO (lt := fun i j => d6 (kf (xs.getD i .aP)) (kf (xs.getD j .aP))) (S := fun z => z = s') ⟨fun _ => pX _, fun _ _ => yc, fun _ _ _ => vV⟩ (u9 I ry dv) (by omega) (fun p s2 hs hp hu => ⟨hs, hp, hu⟩) s' rfl
   . rintro ⟨⟨⟩, vS⟩ s2 ⟨rfl, p, hp, Qv, hf, hu⟩
     dsimp only
     refine nD (out := p.toList.map fun i => vs.getD i Value.none) (ys := p.toList.map fun i => xs.getD i .aP) I fa fk y9 Ae oa ok (by omega) (kat_snds J5 Qv) (by simp [hp.sz]; omega) hf (nZ rx _) (fun s3 I3 => h s3 ⟨.ref a, _, I3, rfl, fin a _ H' sm M6 fa.1 (yu hp hu)⟩)
end
section
variable {X : Cx} {k : Nat} {f : Addr} {ps : List Str} {sp : Sp} {e : Expr} {t : TA} {x : Str} {p p2 pos DJ : Pos}
end
end L2
namespace L2
open PySem PySem.Spec PyProof.Rows
theorem rM {scope : Scope} {env : Env} (h : ∀ x ∈ scope.names, x.2 = .free -> ∃ c, env.cells.lookup x.1 = some c) :
 ∃ cl, closureFor scope env = pure cl /\ (∀ x c, cl.lookup x = some c -> env.cells.lookup x = some c) /\ ∀ x ∈ scope.names, x.2 = .free -> ∃ c, cl.lookup x.1 = some c := by
 have key : ∀ (l : List (Str × NameKind)) (acc : List (Str × Addr)), (∀ x ∈ l, x.2 = .free -> ∃ c, env.cells.lookup x.1 = some c) -> (∀ x c, acc.lookup x = some c -> env.cells.lookup x = some c) ->
  ∃ cl, (forIn l acc (fun (x : Str × NameKind) (r : List (Str × Addr)) => (match x with
    | (name, kind) => if (kind == NameKind.free) = true then (do let c <- cellOf env name; pure (ForInStep.yield ((name, c) :: r))) else pure (ForInStep.yield r) : Sem (ForInStep (List (Str × Addr))))) : Sem _) = pure cl /\
    (∀ x c, cl.lookup x = some c -> env.cells.lookup x = some c) /\ (∀ x ∈ l, x.2 = .free -> ∃ c, cl.lookup x.1 = some c) /\ ∀ x, (∃ c, acc.lookup x = some c) -> ∃ c, cl.lookup x = some c := by
  intro l
  induction l with
  | nil => intro acc _ ha; exact ⟨acc, rfl, ha, fun _ z => (nomatch z), fun _ z => z⟩
  | cons p r ih =>
    intro acc hl ha
    obtain ⟨n, k⟩ := p
    rw [List.forIn_cons]
    by_cases hk : k = .free
    . subst hk
      obtain ⟨c, hc⟩ := hl (n, .free) List.mem_cons_self rfl
      have nO : cellOf env n = pure c := by unfold cellOf; rw [hc]
      obtain ⟨cl, e, h1, h2, h3⟩ := ih ((n, c) :: acc) (fun x hx => hl x (List.mem_cons_of_mem _ hx)) (fun x d hd => by
       rw [List.lookup_cons] at hd
       by_cases hx : x = n
       . subst hx; rw [beq_self_eq_true] at hd; cases hd; exact hc
       . rw [beq_eq_false_iff_ne.mpr hx] at hd; exact ha x d hd)
      refine ⟨cl, ?_, h1, fun x hx hf => ?_, fun x ⟨d, hd⟩ => h3 x ?_⟩
      . simp only [beq_self_eq_true, if_true, nO]
        exact e
      . rcases List.mem_cons.mp hx with rfl | hx
        . exact h3 n ⟨c, by rw [List.lookup_cons, beq_self_eq_true]⟩
        . exact h2 x hx hf
      . rw [List.lookup_cons]
        by_cases hx : x = n
        . subst hx; rw [beq_self_eq_true]; exact ⟨c, rfl⟩
        . rw [beq_eq_false_iff_ne.mpr hx]; exact ⟨d, hd⟩
    . obtain ⟨cl, e, h1, h2, h3⟩ := ih acc (fun x hx => hl x (List.mem_cons_of_mem _ hx)) ha
      refine ⟨cl, ?_, h1, fun x hx hf => ?_, h3⟩
      . have : (k == NameKind.free) = false := by simpa using hk
        simp only [this, Bool.false_eq_true, if_false]
        exact e
      . rcases List.mem_cons.mp hx with rfl | hx
        . exact absurd hf hk
        . exact h2 x hx hf
 obtain ⟨cl, e, h1, h2, _⟩ := key scope.names [] h (fun _ _ z => by simp at z)
 refine ⟨cl, ?_, h1, h2⟩
 unfold closureFor
 show (forIn scope.names [] _ >>= fun cs => pure cs) = _
 refine Eq.trans (congrArg (· >>= _) e) rfl
theorem gH {env : Env} {scope : Scope} {x : Str} : (relabel scope env).names.lookup x = (scope.names.lookup x).map fun k => if (k == NameKind.free && env.scope.kind == .function && env.kindOf x == some .cell) = true then .cell else k := by
 unfold relabel
 show List.lookup x (List.map _ scope.names) = _
 generalize scope.names = l
 induction l with
 | nil => rfl
 | cons p r ih =>
   obtain ⟨n, k⟩ := p
   rw [List.map_cons]
   dsimp only
   by_cases hx : x = n
   . subst hx
     by_cases hc : (k == NameKind.free && env.scope.kind == .function && env.kindOf x == some .cell) = true
     . rw [if_pos hc, List.lookup_cons, List.lookup_cons, beq_self_eq_true]; simp only [Option.map_some, if_pos hc]
     . rw [if_neg hc, List.lookup_cons, List.lookup_cons, beq_self_eq_true]; simp only [Option.map_some, if_neg hc]
   . have hb : (x == n) = false := beq_eq_false_iff_ne.mpr hx
     by_cases hc : (k == NameKind.free && env.scope.kind == .function && env.kindOf n == some .cell) = true
     . rw [if_pos hc, List.lookup_cons, List.lookup_cons, hb]; exact ih
     . rw [if_neg hc, List.lookup_cons, List.lookup_cons, hb]; exact ih
theorem mem_lookup {α : Type} {x : Str} {k : α} : ∀ {l : List (Str × α)}, l.lookup x = some k -> (x, k) ∈ l
 | [], h => by simp at h
 | (n, j) :: r, h => by
   rw [List.lookup_cons] at h
   by_cases hx : x = n
   . subst hx; rw [beq_self_eq_true] at h; cases h; exact List.mem_cons_self
   . rw [beq_eq_false_iff_ne.mpr hx] at h; exact List.mem_cons_of_mem _ (mem_lookup h)
def gI (X : Cx) (N : List Str) (scope : Scope) (cl : List (Str × Addr)) (C : Addr) (s : Shared) (H : Hp) (fp : List Addr) : Cx :=
 { X with N := N, cf := s, qe := H, env := compEnvC scope cl C X.env, outer := X.stack, stack := X.stack, ex := fp, fn := fun _ => false, pn := [], xe := fun _ _ => False }
structure jC (X : Cx) (T M : List Str) (scope : Scope) : Prop where
 kind : scope.kind = .function
 cell : ∀ y ∈ scope.names, y.2 ≠ .cell
 names : ∀ y ∈ scope.names, y.2 = .local -> scope.names.lookup y.1 = some .local
 free : ∀ y ∈ scope.names, y.2 = .free -> X.env.scope.names.lookup y.1 = some .cell \/ X.env.scope.names.lookup y.1 = some .free
 len : M.length = X.N.length
 old : ∀ (i : Nat) x, M[i]? = some x -> X.N[i]? = some x /\ scope.names.lookup x = some .free \/ scope.names.lookup x = none
section
variable {X : Cx} {pins : List (Addr × Obj)} {σ : St} {H : Hp} {s : Shared} {T M : List Str} {scope : Scope} {cl : List (Str × Addr)} {fp : List Addr}
theorem Gn {C : Addr} (I : Inv X pins σ H s) (hN : jC X T M scope) (h1 : ∀ x c, cl.lookup x = some c -> X.env.cells.lookup x = some c) (h2 : ∀ x ∈ scope.names, x.2 = .free -> ∃ c, cl.lookup x.1 = some c)
 (hC : s.heap.objs.size <= C) (hf : ∀ b ∈ fp, dU X pins H b) (FV : ∀ b ∈ fp, b < s.heap.objs.size) : (gI X (T ++ M) scope cl C s H fp).Ok where
 mod := I.ok.mod
 kind := hN.kind
 glob := I.ok.glob
 blt := I.ok.blt
 above := hC
 inj := fun x y c e1 e2 => I.ok.inj x y c (h1 x c e1) (h1 y c e2)
 has := fun x hx => by
  have qT : (relabel scope X.env).names.lookup x = some .cell \/ (relabel scope X.env).names.lookup x = some .free := hx
  rw [gH] at qT
  cases e : scope.names.lookup x with
  | none => rw [e] at qT; simp at qT
  | some k =>
    have hm := mem_lookup e
    have hk : k = .free := by
     rw [e] at qT
     simp only [Option.map_some, Option.some.injEq] at qT
     by_cases hf : k = .free
     . exact hf
     . have : (k == NameKind.free) = false := by simpa using hf
       simp only [this, Bool.false_and, Bool.false_eq_true, if_false] at qT
       rcases qT with qT | qT
       . exact absurd qT (hN.cell _ hm)
       . exact qT
    exact h2 (x, k) hm hk
 za := fun _ _ z => by cases z
 hd := I.ok.hd
 frames := I.ok.frames
 Ba := .inl rfl
 Br := fun b hb => ⟨Nat.ne_of_lt (Nat.lt_of_lt_of_le (FV b hb) hC), fun x c e => (hf b hb).2.2.2.2.1 x c (h1 x c e)⟩
 bs := I.bs
 pA := Nat.le_trans I.ok.pA I.sz
 mY := fun b o e hb => by
  rcases (hf b hb).2.2.2.1 with z | z
  . exact I.ok.mY b o e z
  . exact absurd (Nat.lt_of_lt_of_le (Heap.lt_size e) (Nat.le_trans I.ok.pA z)) (Nat.lt_irrefl _)
 nq := fun b hb z => by
  rcases List.mem_cons.mp (I.oO b z) with e | e
  . exact (hf b hb).2.1 e
  . exact (hf b hb).2.2.1 e
 fX := I.stack
 sf := I.lC
theorem wc {C : Addr} {h₁ : Heap} {tk : Nat} (I : Inv X pins σ H s) (hN : jC X T M scope) (h1 : ∀ x c, cl.lookup x = some c -> X.env.cells.lookup x = some c) (h2 : ∀ x ∈ scope.names, x.2 = .free -> ∃ c, cl.lookup x.1 = some c)
 (hC : s.heap.objs.size <= C) (hf : ∀ b ∈ fp, dU X pins H b) (FV : ∀ b ∈ fp, b < s.heap.objs.size)
 {m : Str -> Option Value} (hn : h₁.Ns C m) (old : ∀ b o, s.heap.get? b = some o -> h₁.get? b = some o) :
 Inv (gI X (T ++ M) scope cl C s H fp) [] (List.replicate T.length none ++ σ) H { s with heap := h₁, toks := tk } where
 ok := Gn I hN h1 h2 hC hf FV
 os := rfl
 bare := I.bare
 base := Un.kept old
 loc := by
  refine ⟨m, hn, fun i x v e1 e2 e3 => ?_⟩
  have FK : (T ++ M)[i]? = some x := e1
  by_cases hi : i < T.length
  . rw [List.getElem?_append_left (by simpa using hi), List.getElem?_replicate, if_pos hi] at e2
    cases e2
  . have yZ : T.length <= i := Nat.le_of_not_lt hi
    rw [List.getElem?_append_right yZ] at FK
    rw [List.getElem?_append_right (by simpa using yZ), List.length_replicate] at e2
    have La : Ex (relabel scope X.env) x := e3
    rcases hN.old _ x FK with ⟨hx, kD⟩ | PF
    . obtain ⟨m0, Ae, Kd⟩ := I.loc
      have hk := hN.free _ (mem_lookup kD) rfl
      have tX : X.env.scope.names.lookup x = some .cell \/ X.env.scope.names.lookup x = some .free := hk
      obtain ⟨u, r, l⟩ := Kd _ x v hx e2 (.inr tX)
      refine ⟨u, r, .inr ?_⟩
      rcases l with ⟨z, _⟩ | ⟨_, c, hc, nO⟩
      . have z' : X.env.scope.names.lookup x = some .local := z
        rw [z'] at tX; rcases tX with q | q <;> cases q
      . obtain ⟨c', kK⟩ := h2 _ (mem_lookup kD) rfl
        have : c' = c := by have := h1 _ _ kK; rw [hc] at this; exact (Option.some.inj this).symm
        subst this
        refine ⟨?_, c', kK, ?_⟩
        . show (relabel scope X.env).names.lookup x = some .cell \/ (relabel scope X.env).names.lookup x = some .free
          rw [gH, kD]
          simp only [Option.map_some, Option.some.injEq]
          by_cases hc : (NameKind.free == NameKind.free && X.env.scope.kind == .function && X.env.kindOf x == some .cell) = true
          . left; rw [if_pos hc]
          . right; rw [if_neg hc]
        . obtain ⟨o, ho, hd⟩ := nO
          exact ⟨o, old _ _ ho, hd⟩
    . unfold Ex at La
      rw [gH, PF] at La
      simp at La
 cell := fun x c e => by
  obtain ⟨v, o, ho, hd⟩ := I.cell x c (h1 x c e)
  exact ⟨v, o, old _ _ ho, hd⟩
 free := I.aF.fresh hC
 cE := fun x c e => I.cE x c (h1 x c e)
 pin := fun p hp => nomatch hp
 aF := I.aF.kept old
 len := by
  show (List.replicate T.length none ++ σ).length = (T ++ M).length
  rw [List.length_append, List.length_append, List.length_replicate, hN.len, I.len]
theorem AF {C D : Addr} {s' : Shared} {σ' : St} {H' : Hp} {acc : List V} {aY : List Value} {n : Nat} (I : Inv X pins σ H s) (I' : Inv (gI X (T ++ M) scope cl C s H fp) [] σ' H' s')
 (hf : ∀ b ∈ fp, dU X pins H b) (hD : s.heap.objs.size <= D) (hn : H' D = none) (hl : acc.length <= sizeLine) (r : Vals acc aY) (hd : s'.heap.get? D = some { cls := .type "list", data := .seq aY.toArray n }) :
 Inv X pins σ (upd H' D (.lst acc)) s' := by
 have U : Un (my X.stack) fp H H' s.heap s'.heap := I'.base
 have KS : ∀ b o, s.heap.get? b = some o -> b ≠ D := fun b o e => Nat.ne_of_lt (Nat.lt_of_lt_of_le (Heap.lt_size e) hD)
 have neT : ∀ b u, H' b = some u -> b ≠ D := fun b u e => ay e hn
 refine I.wa (ch := fp) I'.os ⟨U.keep, U.slot, fun b o e1 e2 e3 => ?_, U.there, fun b xs e => ?_, fun b o u e => ?_, fun b ps e => ?_⟩ (fun b u e => ?_) I'.bare (fun b hb => ⟨(hf b hb).2.2.2.1, (hf b hb).2.1, (hf b hb).2.2.2.2.1, (hf b hb).2.2.2.2.2⟩)
 . rw [ah (KS b o e1)]; exact U.free b o e1 e2 e3
 . rw [ah (neT b _ (U.gb b xs e))]; exact U.gb b xs e
 . rw [ah (neT b _ (U.fJ b o u e))]; exact U.fJ b o u e
 . obtain ⟨more, q⟩ := U.ib b ps e
   exact ⟨more, by rw [ah (neT b _ q)]; exact q⟩
 . by_cases hb : b = D
   . subst hb
     rw [aj] at e
     cases e
     exact ⟨hl, aY, n, r, hd⟩
   . rw [ah hb] at e
     exact (I'.aF b u e).iA (fun c v _ q => q) (fun c q => by rw [ah (neT c _ q)]; exact q) fun c xs q => by rw [ah (neT c _ q)]; exact q
end
theorem ro {prog : Program} {w : World} {A : Around} {R : Result -> Shared -> Prop} {s : Shared} {elt target iter : Expr} {ifs : List Expr} {scope : Scope} {pos : Pos} {it acc : Value} {env : Env} (I : Nat -> Shared -> Prop)
 (turn : ∀ n s, I n s -> wpAny (model prog w) A (pyNext it) (fun r s₁ => match r with
  | none => R (.ok .next) s₁
  | some v => wpAny (model prog w) A (letOwnedTupleGo target it v) (fun _ CM => wpAny (model prog w) A (assign target env v) (fun _ s₂ =>
   wpAny (model prog w) A (forIn ifs true fun c r => if r = true then do let ok <- isTrue c env (eval c env); pure (ForInStep.yield ok) else pure (ForInStep.yield r)) (fun ok s₃ =>
    if ok = true then wpAny (model prog w) A (eval elt env) (fun x s₄ =>
     wpAny (model prog w) A (call (.builtin "list.append") [acc, x]) (fun _ s₅ => ∃ m, m < n /\ I m s₅) (fun _ _ => False) s₄) (fun _ _ => False) s₃
    else ∃ m, m < n /\ I m s₃) (fun _ _ => False) s₂) (fun _ _ => False) CM) (fun _ _ => False) s₁) (fun _ _ => False) s)
 (n : Nat) (h : I n s) :
 codeAny (model prog w) A (.compLoop (.ListComp elt [⟨target, iter, ifs, 0⟩] scope pos) 0 it acc env) R s := by
 refine codeAny_loop rfl I (fun n s hI => ?_) n h
 show wpAny _ A ((compTurn (.ListComp elt [⟨target, iter, ifs, 0⟩] scope pos) 0 it acc env).onRaise (fun x => do noteFrame x env; theTreesLotGoes x)) _ _ s
 refine wpAny_noted ?_
 rw [compTurn_list]
 refine wpAny_bind (wpAny_standAt (wpAny_bind (wpAny_mono (turn n s hI) (fun r s₁ h₁ => ?_) fun _ _ h' => h'.elim)))
 cases r with
 | none => exact wpAny_pure h₁
 | some v =>
   refine wpAny_bind (wpAny_mono h₁ (fun _ CM G8 => ?_) fun _ _ h' => h'.elim)
   refine wpAny_bind (wpAny_mono G8 (fun _ s₂ h₂ => wpAny_bind (wpAny_mono h₂ (fun ok s₃ h₃ => ?_) fun _ _ h' => h'.elim)) fun _ _ h' => h'.elim)
   cases ok with
   | false => exact wpAny_pure ⟨rfl, h₃⟩
   | true =>
     exact wpAny_bind (wpAny_bind (wpAny_mono h₃ (fun x s₄ h₄ => wpAny_bind (wpAny_mono h₄ (fun _ s₅ h₅ => wpAny_pure (wpAny_pure ⟨rfl, h₅⟩)) fun _ _ h' => h'.elim)) fun _ _ h' => h'.elim))
def JS (X : Cx) (ifs : List Expr) (t : TT) : Prop :=
 ∀ (pins : List (Addr × Obj)) (s : Shared) (σ : St) (H : Hp) (Q : Bool -> Hp -> Prop), Inv X pins σ H s -> t σ H Q ->
   wpAny (model X.prog X.w) X.A (forIn ifs true fun c r => if r = true then do let ok <- isTrue c X.env (eval c X.env); pure (ForInStep.yield ok) else pure (ForInStep.yield r)) (TP X pins σ Q) X.xe s
def K2 : TT := fun _ H Q => Q true H
theorem zq {X : Cx} : JS X [] K2 := fun _ _ _ H _ I h => wpAny_tests_nil ⟨H, I, h⟩
theorem oU {X : Cx} {c : Expr} {t : TT} (h : PT X c t) : JS X [c] t := fun pins s σ H Q I q => wpAny_tests_one (h pins s σ H Q I q)
def JZ (k : Nat) (g : TG) (tc : TT) (te : TE) (Fin : List V -> Hp -> Prop) (σ : St) (J : It) (H1 : Hp) : Prop :=
 ∃ W : Nat -> Nat -> List V -> Hp -> Prop, (∃ m, W 0 m [] H1) /\ ∀ i m acc H, W i m acc H ->
   (J.stop i H /\ Fin acc H) \/ (J.go i H /\ acc.length < sizeLine /\ ∀ x H', J.F2 i H x H' -> g x (List.replicate k none ++ σ) H' fun σ2 H2 => tc σ2 H2 fun b H3 =>
    if b = true then te σ2 H3 fun y H4 => ∃ m', m' < m /\ W (i + 1) m' (acc ++ [y]) H4 else ∃ m', m' < m /\ W (i + 1) m' acc H3)
section
variable {X : Cx} {pins : List (Addr × Obj)} {σ : St} {H : Hp} {s : Shared} {T M : List Str} {scope : Scope} {cl : List (Str × Addr)} {fp : List Addr} {g : TG} {tc : TT} {te : TE} {tg elt iter : Expr} {ifs : List Expr} {pos : Pos}
theorem Inv.forget {X : Cx} {pins : List (Addr × Obj)} {σ σ' : St} {H : Hp} {s : Shared} (I : Inv X pins σ' H s) (k : Nat) (hk : k + σ.length = σ'.length) (h : σ'.drop k = σ) : Inv X pins (List.replicate k none ++ σ) H s := by
 refine I.weak (by simp [hk]) (fun i v e => ?_)
 by_cases hi : i < k
 . rw [List.getElem?_append_left (by simpa using hi), List.getElem?_replicate, if_pos hi] at e; cases e
 . rw [List.getElem?_append_right (by simpa using hi), List.length_replicate, <- h, List.getElem?_drop] at e
   have : k + (i - k) = i := by omega
   rw [this] at e; exact e
theorem E2 {it : Addr} {tn : Nat -> Heap -> Prop} {J : It} {RR : Value -> Addr -> Result -> Shared -> Prop} {Fin : List V -> Hp -> Prop} {E : Value -> Shared -> Prop}
 (hN : jC X T M scope) (nS : X.calm = true) (h1 : ∀ x c, cl.lookup x = some c -> X.env.cells.lookup x = some c) (h2 : ∀ x ∈ scope.names, x.2 = .free -> ∃ c, cl.lookup x.1 = some c)
 (hg : ∀ cl C s H fp, PG (gI X (T ++ M) scope cl C s H fp) tg g) (Pj : ∀ v H Q, g v (List.replicate T.length none ++ σ) H Q -> g v (List.replicate T.length none ++ σ) H fun σ2 H2 => Q σ2 H2 /\ T.length + σ.length = σ2.length /\ σ2.drop T.length = σ)
 (hc : ∀ cl C s H fp, JS (gI X (T ++ M) scope cl C s H fp) ifs tc) (he : ∀ cl C s H fp, PE (gI X (T ++ M) scope cl C s H fp) elt te)
 (I : Inv X pins σ H s) (Tn : Turn X.prog X.w X.K tg J fp it tn) (st : tn 0 s.heap) (hf : ∀ b ∈ fp, dU X pins H b) (hW : JZ T.length g tc te Fin σ J H)
 (hR : ∀ D C s' H' acc m, s.heap.objs.size <= D -> s.heap.objs.size <= C -> C ≠ D -> s'.heap.Ns C m -> H' C = none -> H' D = none -> Inv X pins σ (upd H' D (.lst acc)) s' -> Fin acc H' -> RR (.ref D) C (.ok .next) s') :
 wpAny (model X.prog X.w) X.A (newList []) (fun acc s₃ => wpAny (model X.prog X.w) X.A (newFunctionEnv scope X.env.globals cl [] X.env.qual none .none (some X.env)) (fun HZ s₄ =>
  codeAny (model X.prog X.w) X.A (.compStart (.ListComp elt [⟨tg, iter, ifs, 0⟩] scope pos) 0 (.ref it) acc { HZ with scope := relabel scope X.env }) (RR acc HZ.locals) s₄) E s₃) E s := by
 refine wpAny_newObj_type (wpAny_newFunctionEnv hN.cell (by intro y hy; simp at hy) (fun h₁ rQ oZ => ?_) hN.kind)
 dsimp only at rQ oZ ⊢
 generalize LV : s.heap.push { cls := .type "list", dict := none, data := .seq ([] : List Value).toArray } = H2 at rQ oZ ⊢
 have hC : H2.objs.size = s.heap.objs.size + 1 := by rw [<- LV, Heap.size_push]
 have Jy : s.heap.objs.size ≠ H2.objs.size := by rw [hC]; exact Nat.ne_of_lt (Nat.lt_succ_self _)
 have Eb : s.heap.objs.size <= H2.objs.size := by rw [hC]; exact Nat.le_succ _
 have FV : ∀ b ∈ fp, b < s.heap.objs.size := fun b hb => by obtain ⟨o, ho, _⟩ := Tn.obj _ _ st b hb; exact Heap.lt_size ho
 have old : ∀ b o, s.heap.get? b = some o -> h₁.get? b = some o := fun b o e => oZ.extBut b o (Nat.ne_of_lt (Nat.lt_of_lt_of_le (Heap.lt_size e) Eb)) (Heap.get?_push_of_some _ (LV ▸ Heap.get?_push_of_some _ e))
 have cO : h₁.PlainList s.heap.objs.size #[] := ⟨_, oZ.extBut _ _ Jy (Heap.get?_push_of_some _ (LV ▸ Heap.get?_push_size _ rfl))⟩
 generalize Ef : s.heap.objs.size = D at *
 generalize N6 : H2.objs.size = C at *
 have I0 : Inv (gI X (T ++ M) scope cl C s H fp) [] (List.replicate T.length none ++ σ) H { s with heap := h₁, toks := s.toks + ([] : List (Str × Value)).length } :=
  wc I hN h1 h2 (by rw [Ef]; exact Eb) hf (by rw [Ef]; exact FV) rQ old
 have Ov : tn 0 h₁ := Tn.keep _ _ _ st fun b _ o e => old b o e
 obtain ⟨W, ⟨m0, w0⟩, turn⟩ := hW
 have NK : ∀ b ∈ fp, b ≠ D := fun b hb => Nat.ne_of_lt (FV b hb)
 have stat : ∀ {H' : Hp} {pl : List (Addr × Obj)}, (∀ b ∈ fp, H' b = none) -> (∀ p ∈ pl, p.1 = D) -> ∀ b ∈ fp, dU (gI X (T ++ M) scope cl C s H fp) pl H' b := fun {H' pl} hn hp b hb => by
  have ok := I0.ok
  refine ⟨hn b hb, (ok.Br b hb).1, ok.nq b hb, .inl hb, (ok.Br b hb).2, fun p hq => ?_⟩
  have uK : p ∈ pl := hq
  rw [hp p uK]; exact Ne.symm (NK b hb)
 have loop : codeAny (model X.prog X.w) X.A (.compLoop (.ListComp elt [⟨tg, iter, ifs, 0⟩] scope pos) 0 (.ref it) (.ref D) (compEnvC scope cl C X.env)) (RR (.ref D) C) { s with heap := h₁, toks := s.toks + ([] : List (Str × Value)).length } := by
  refine ro (fun n s' => ∃ i acc H' aY, Inv (gI X (T ++ M) scope cl C s H fp) [] (List.replicate T.length none ++ σ) H' s' /\ tn i s'.heap /\ (∀ b ∈ fp, H' b = none) /\ s'.heap.PlainList D aY /\ H' D = none /\ Vals acc aY.toList /\ acc.length <= sizeLine /\ W i n acc H') ?_ m0
   ⟨0, [], H, #[], I0, Ov, fun b hb => (hf b hb).1, cO, I.aF.fresh (by rw [Ef]; exact Nat.le_refl _), .nil, Nat.zero_le _, w0⟩
  rintro n s3 ⟨i, acc, H3, aY, I3, Iz, IG, ⟨nn, ho⟩, Ln, hv, hlen, w3⟩
  have KJ : ∀ {H'} {s'} {σ'} {o : Obj}, Inv (gI X (T ++ M) scope cl C s H fp) [] σ' H' s' -> s'.heap.get? D = some o -> (∀ v, o.data ≠ .cell v) -> H' D = none -> Inv (gI X (T ++ M) scope cl C s H fp) [(D, o)] σ' H' s' := fun {H' s' σ' o} I' e d hn => by
   refine I'.gv fun p hp => ?_
   have e' : p = (D, o) := by simpa using hp
   subst e'
   refine ⟨e, hn, Jy, fun z => ?_, d⟩
   have z' : D ∈ my X.stack := z
   obtain ⟨_, o', AH, _⟩ := I.stack.mem z'
   exact absurd (Heap.lt_size AH) (by rw [Ef]; exact Nat.lt_irrefl _)
  have OI := KJ I3 ho (fun v z => by cases z) Ln
  rcases turn i n acc H3 w3 with ⟨stop, fin⟩ | ⟨go, hl, step⟩
  . refine bR (Tn.done (gI X (T ++ M) scope cl C s H fp) rfl rfl rfl nS i _ s3 _ H3 _ OI (stat IG (by simp)) Iz stop) fun r s4 ⟨hr, I4⟩ => ?_
    subst hr
    have e4 := (I4.pin (D, _) (List.mem_append_right _ List.mem_cons_self)).1
    have Le : Inv (gI X (T ++ M) scope cl C s H fp) [] (List.replicate T.length none ++ σ) H3 s4 := I4.gv fun p hp => nomatch hp
    obtain ⟨m4, n4, _⟩ := Le.loc
    exact hR D C s4 H3 acc m4 (Nat.le_refl _) Eb (Ne.symm Jy) n4 Le.free Ln (AF I Le hf (by rw [Ef]; exact Nat.le_refl _) Ln hlen hv (by simpa using e4)) fin
  . refine bR (Tn.item (gI X (T ++ M) scope cl C s H fp) rfl rfl rfl nS i _ s3 _ H3 _ OI (stat IG (by simp)) Iz go) fun r s4 ⟨u, hr, h4⟩ => ?_
    subst hr
    refine bR h4 fun _ s5 ⟨x, H5, I5, r5, y5, DP, MC⟩ => ?_
    have Kp := I5.pinned (stat MC (by simp)) (Tn.obj _ _ DP)
    refine bR (hg _ _ _ _ _ _ s5 _ H5 x u _ Kp r5 (Pj _ _ _ (step x H5 y5))) fun _ s6 ⟨σ6, H6, I6, q6, QE, QP⟩ => ?_
    refine bR (hc _ _ _ _ _ _ s6 σ6 H6 _ I6 q6) fun b s7 ⟨H7, I7, q7⟩ => ?_
    have rest : ∀ {s8 : Shared} {H8 : Hp}, Inv (gI X (T ++ M) scope cl C s H fp) ([(D, _)] ++ mj fp s5.heap) σ6 H8 s8 -> tn (i + 1) s8.heap /\ (∀ b ∈ fp, H8 b = none) /\ s8.heap.PlainList D aY /\ H8 D = none /\ Inv (gI X (T ++ M) scope cl C s H fp) [] (List.replicate T.length none ++ σ) H8 s8 := fun {s8 H8} I8 => by
     refine ⟨Tn.keep _ _ _ DP fun b hb o e => (I8.pin (b, o) (List.mem_append_right _ (List.mem_append_right _ (gM hb e)))).1, fun b hb => ?_, ⟨nn, (I8.pin (D, _) (List.mem_append_right _ (List.mem_append_left _ List.mem_cons_self))).1⟩, (I8.pin (D, _) (List.mem_append_right _ (List.mem_append_left _ List.mem_cons_self))).2.1, (I8.forget T.length QE QP).gv fun p hp => nomatch hp⟩
     obtain ⟨o, e, d⟩ := Tn.obj _ _ DP b hb
     exact (I8.pin (b, o) (List.mem_append_right _ (List.mem_append_right _ (gM hb e)))).2.1
    cases b with
    | false =>
      obtain ⟨m', hm, w7⟩ := q7
      obtain ⟨a1, a2, a3, a4, a5⟩ := rest I7
      exact ⟨m', hm, i + 1, acc, H7, aY, a5, a1, a2, a3, a4, hv, hlen, w7⟩
    | true =>
      refine bR (he _ _ _ _ _ _ s7 σ6 H7 _ I7 q7) fun y s8 ⟨yv, H8, I8, r8, m', hm, w8⟩ => ?_
      obtain ⟨a1, a2, a3, a4, a5⟩ := rest I8
      have hsz : aY.size <= sizeLine := by have := hv.length; simp at this; omega
      refine wpAny_list_append_plain (hsz := hsz) a3 fun h9 Ls Nr => ?_
      refine ⟨m', hm, i + 1, acc ++ [yv], H8, aY.push y, ?_, ?_, a2, Ls, a4, ?_, by simp; omega, w8⟩
      . exact a5.turned (t' := s8.toks) (it := D) (fun b o hb e => (Nr.2 b hb).trans e) a4 Jy (.inr (by show s.heap.objs.size <= D; rw [Ef]; exact Nat.le_refl _)) (fun x c e z => by
         obtain ⟨v, o, ho, _⟩ := I.cell x c (h1 x c e)
         exact absurd (Heap.lt_size ho) (by rw [Ef, z]; exact Nat.lt_irrefl _)) (fun p hp => nomatch hp)
      . exact Tn.keep _ _ _ a1 fun b hb o e => (Nr.2 b (NK b hb)).trans e
      . simpa using Vals.append hv (.cons r8 .nil)
 exact codeAny_compStart_list loop (Tn.self _ _ _ _ _ Ov loop)
end
def EY (k : Nat) (g : TG) : Prop := ∀ v (τ σ : St) H Q, τ.length = k -> g v (τ ++ σ) H Q -> g v (τ ++ σ) H fun σ2 H2 => Q σ2 H2 /\ ∃ τ', τ'.length = k /\ σ2 = τ' ++ σ
def tZ (k : Nat) (g : wL) : Prop := ∀ vs (τ σ : St) H Q, τ.length = k -> g vs (τ ++ σ) H Q -> g vs (τ ++ σ) H fun σ2 H2 => Q σ2 H2 /\ ∃ τ', τ'.length = k /\ σ2 = τ' ++ σ
theorem kA {k i : Nat} (h : i < k) : EY k (kM i) := fun v τ σ H Q hl q => by
 have e : (τ ++ σ).set i (some v) = τ.set i (some v) ++ σ := List.set_append_left _ _ (by omega)
 exact ⟨q, τ.set i (some v), by simp [hl], e⟩
theorem vC {k : Nat} : tZ k Fe := fun vs τ σ H Q hl ⟨e, q⟩ => ⟨e, q, τ, hl, rfl⟩
theorem lX {k i : Nat} {u : wL} (h : i < k) (h2 : tZ k u) : tZ k (t9 (kM i) u) := fun vs τ σ H Q hl ⟨v, r, e, q⟩ => by
 have e1 : (τ ++ σ).set i (some v) = τ.set i (some v) ++ σ := List.set_append_left _ _ (by omega)
 refine ⟨v, r, e, ?_⟩
 show u r ((τ ++ σ).set i (some v)) H _
 rw [e1]
 have q' : u r ((τ ++ σ).set i (some v)) H Q := q
 rw [e1] at q'
 exact h2 r _ σ H Q (by simp [hl]) q'
theorem wk {K : PySem.W.Frag} {k n : Nat} {u : wL} (h : tZ k u) : EY k (zZ K n u) := fun v τ σ H Q hl ⟨a, xs, e, hq, hn, q⟩ => ⟨a, xs, e, hq, hn, h xs τ σ H Q hl q⟩
def xa (Q : VK) (acc : List V) (H : Hp) : Prop := ∀ p, H p = none -> Q (.ref p) (upd H p (.lst acc))
def Kb (k : Nat) (wi : TI) (g : TG) (tc : TT) (te : TE) : TE := fun σ H Q => wi σ H fun J H1 => JZ k g tc te (xa Q) σ J H1
section
variable {X : Cx} {T M : List Str} {scope : Scope} {g : TG} {tc : TT} {te : TE} {wi : TI} {tg elt iter : Expr} {ifs : List Expr} {pos : Pos}
theorem ug (hN : jC X T M scope) (nS : X.calm = true) (hi : PI X tg iter wi) (hg : ∀ cl C s H fp, PG (gI X (T ++ M) scope cl C s H fp) tg g) (RA : EY T.length g)
 (hc : ∀ cl C s H fp, JS (gI X (T ++ M) scope cl C s H fp) ifs tc) (he : ∀ cl C s H fp, PE (gI X (T ++ M) scope cl C s H fp) elt te)
 (hs : ∀ x, foldedSetIterable iter X.env x = pure x := by intro _; rfl) : PE X (.ListComp elt [⟨tg, iter, ifs, 0⟩] scope pos) (Kb T.length wi g tc te) := by
 intro pins s σ H Q I h
 obtain ⟨cl, fN, h1, h2⟩ := rM (scope := scope) (env := X.env) fun x hx hf => I.ok.has x.1 (hN.free x hx hf)
 rw [eval_ListComp]
 refine wpAny_comprehension_free (use := none) rfl hs fN hN.kind hN.names (bR (hi pins s σ H _ I h) fun xv s1 wg => bR wg fun KH s2 GV => ?_)
 obtain ⟨it, fp, tn, J, H2, e, I2, Tn, st, hf, hW⟩ := GV
 subst e
 refine E2 (RR := fun acc C => compPost (model X.prog X.w) X.A X.xe none (EP X pins σ Q) acc C) hN nS h1 h2 hg (fun v H Q q => ?_) hc he I2 Tn st hf hW ?_
 . have := RA v (List.replicate T.length none) σ H Q (by simp) q
   refine (by
    have e : (fun (σ2 : St) (H2 : Hp) => Q σ2 H2 /\ T.length + σ.length = σ2.length /\ σ2.drop T.length = σ) = fun σ2 H2 => Q σ2 H2 /\ ∃ τ' : St, τ'.length = T.length /\ σ2 = τ' ++ σ := by
     funext σ2 H2
     refine propext ⟨fun ⟨a, b, c⟩ => ⟨a, σ2.take T.length, by rw [List.length_take]; omega, by rw [<- c, List.take_append_drop]⟩, fun ⟨a, τ', b, c⟩ => ⟨a, by rw [c, List.length_append, b], by rw [c, <- b, List.drop_left]⟩⟩
    rw [e]; exact this)
 . intro D C s' H' acc m hD hC tq hn Qm QS Ib fin
   refine ⟨m, hn, fun h' pC => ⟨.ref D, _, ?_, rfl, fin D QS⟩⟩
   exact Ib.turned (t' := s'.toks) (it := C) (fun b o hb e => (pC.2 b hb).trans e) (by rw [ah tq]; exact Qm) (Nat.ne_of_gt (Nat.lt_of_lt_of_le I2.lt hC)) (.inr (Nat.le_trans I2.sz hC)) (fun x c e z => by
    obtain ⟨v, q⟩ := I2.cell x c e
    exact absurd (Nat.lt_of_lt_of_le q.lt (by rw [z]; exact hC)) (Nat.lt_irrefl _)) (fun p hp z => absurd (Nat.lt_of_lt_of_le (Heap.lt_size (I2.pin p hp).1) (by rw [z]; exact hC)) (Nat.lt_irrefl _))
end
end L2
namespace L2
open PySem PySem.Spec PyProof.Rows PySem.W
mutual
def oG : PyData -> Bool
 | .none => true
 | .bool _ => true
 | .int _ => true
 | .str _ => true
 | .tuple ds => bJ ds
 | .list _ => false
 | .dict _ => false
def bJ : List PyData -> Bool
 | [] => true
 | d :: ds => oG d && bJ ds
end
theorem jo : ∀ {ds : List PyData}, bJ ds = true ↔ ∀ d ∈ ds, oG d = true
 | [] => by simp [bJ]
 | d :: ds => by simp [bJ, jo (ds := ds)]
theorem fF {ds es : List PyData} (h1 : bJ ds = true) (h2 : bJ es = true) : bJ (ds ++ es) = true := by
 rw [jo] at *
 intro d hd
 rcases List.mem_append.mp hd with h | h
 . exact h1 d h
 . exact h2 d h
theorem b9 {α : Type} {f : α -> PyData} (h : ∀ x, oG (f x) = true) (xs : List α) : bJ (xs.map f) = true := by
 rw [jo]
 intro d hd
 obtain ⟨x, _, rfl⟩ := List.mem_map.mp hd
 exact h x
structure Mv (S : List Addr) (H H' : Hp) : Prop where
 kp : ∀ a o, a ∉ S -> H a = some o -> H' a = some o
 tp : ∀ a xs, H a = some (.tup xs) -> H' a = some (.tup xs)
 dm : ∀ a, H' a = none -> H a = none
theorem Mv.refl {S : List Addr} {H : Hp} : Mv S H H := ⟨fun _ _ _ h => h, fun _ _ h => h, fun _ h => h⟩
theorem au.mv {S : List Addr} {H H' : Hp} (s : au H H') : Mv S H H' := ⟨fun a o _ h => s a o h, fun a xs h => s a _ h, fun a h => by
 cases e : H a with
 | none => rfl
 | some o => rw [s a o e] at h; cases h⟩
theorem Mv.trans {S : List Addr} {H H1 H2 : Hp} (m : Mv S H H1) (m2 : Mv S H1 H2) : Mv S H H2 := ⟨fun a o n h => m2.kp a o n (m.kp a o n h), fun a xs h => m2.tp a xs (m.tp a xs h), fun a h => m.dm a (m2.dm a h)⟩
theorem Mv.step {S S1 : List Addr} {H H1 H2 : Hp} (m : Mv S H H1) (m2 : Mv S1 H1 H2) (hs : ∀ a ∈ S1, a ∈ S \/ H a = none) : Mv S H H2 := by
 refine ⟨fun a o n h => ?_, fun a xs h => m2.tp a xs (m.tp a xs h), fun a h => m.dm a (m2.dm a h)⟩
 refine m2.kp a o (fun z => ?_) (m.kp a o n h)
 rcases hs a z with q | q
 . exact n q
 . rw [q] at h; cases h
theorem Mv.i7 {S : List Addr} {H H1 H2 : Hp} (m : Mv S H H1) (s : au H1 H2) : Mv S H H2 := m.trans s.mv
theorem Mv.at {S : List Addr} {H H' : Hp} {a : Addr} {o : HO} (m : Mv S H H') (n : a ∉ S) (h : H a = some o) : H' a = some o := m.kp a o n h
theorem Mv.none {S : List Addr} {H H' : Hp} {a : Addr} (m : Mv S H H') (h : H' a = none) : H a = none := m.dm a h
theorem au.none {H H' : Hp} {a : Addr} (m : au H H') (h : H' a = none) : H a = none := (m.mv (S := [])).dm a h
theorem Mv.eP {H : Hp} {p : Addr} {o u : HO} (h : H p = some u) (nt : ∀ xs, u ≠ .tup xs) : Mv [p] H (upd H p o) := ⟨fun a v n e => by
 rw [ah (fun z => n (by simp [z]))]; exact e, fun a xs e => by
 rw [ah (fun z => by subst z; rw [h] at e; exact nt xs (Option.some.inj e))]; exact e, fun a e => by
 by_cases z : a = p
 . subst z; rw [aj] at e; cases e
 . rw [ah z] at e; exact e⟩
mutual
theorem Dv.px {H H' : Hp} (t : ∀ a xs, H a = some (.tup xs) -> H' a = some (.tup xs)) : ∀ {v : V} {d : PyData}, Dv H v d -> oG d = true -> Dv H' v d
 | _, _, .aP, _ => .aP
 | _, _, .bl b, _ => .bl b
 | _, _, .int i, _ => .int i
 | _, _, .str x, _ => .str x
 | _, _, .tup h r, c => .tup (t _ _ h) (cB.px t r (by simpa [oG] using c))
 | _, _, .lst h r, c => by simp [oG] at c
 | _, _, .dct h r, c => by simp [oG] at c
theorem cB.px {H H' : Hp} (t : ∀ a xs, H a = some (.tup xs) -> H' a = some (.tup xs)) : ∀ {v : List V} {d : List PyData}, cB H v d -> bJ d = true -> cB H' v d
 | _, _, .nil, _ => .nil
 | _, _, .cons h r, c => by
   have c' := c
   simp only [bJ, Bool.and_eq_true] at c'
   exact .cons (Dv.px t h c'.1) (cB.px t r c'.2)
end
theorem Mv.Dz {S : List Addr} {H H' : Hp} {v : List V} {d : List PyData} (m : Mv S H H') (i : bJ d = true) (h : cB H v d) : cB H' v d := h.px m.tp i
def cw (H : Hp) (p : Addr) (ds : List PyData) : Prop := ∃ xs, H p = some (.lst xs) /\ cB H xs ds /\ bJ ds = true
theorem cw.dv {H : Hp} {p : Addr} {ds : List PyData} (h : cw H p ds) : Dv H (.ref p) (.list ds) := let ⟨_, e, d, _⟩ := h; .lst (.of e) d
theorem cw.keeps {H H' : Hp} {p : Addr} {ds : List PyData} (s : au H H') (h : cw H p ds) : cw H' p ds := let ⟨xs, e, d, i⟩ := h; ⟨xs, s _ _ e, d.keeps s, i⟩
theorem cw.mv {S : List Addr} {H H' : Hp} {p : Addr} {ds : List PyData} (m : Mv S H H') (n : p ∉ S) (h : cw H p ds) : cw H' p ds := let ⟨xs, e, d, i⟩ := h; ⟨xs, m.at n e, m.Dz i d, i⟩
theorem cw.ne {H : Hp} {p q : Addr} {ds : List PyData} (h : cw H p ds) (hn : H q = none) : p ≠ q := let ⟨_, e, _, _⟩ := h; ay e hn
theorem lg {H : Hp} {p : Addr} {xs : List V} {ds : List PyData} (hn : H p = none) (d : cB H xs ds) (i : bJ ds = true) : cw (upd H p (.lst xs)) p ds := ⟨xs, aj, d.keeps (bV hn), i⟩
theorem w4 {p q : Addr} (h : p ≠ q) : p ∉ [q] := by simpa using h
theorem small {n m : Nat} (h : n <= m) (hm : m <= 4000 := by decide) : n <= sizeLine := Nat.le_trans h (Nat.le_trans hm (by decide))
theorem dq {n : Nat} (h : n <= 4000) : n < sizeLine := Nat.lt_of_le_of_lt h (by decide)
section
variable {σ : St} {H : Hp} {Q : VK} {D : Ends} {K : PySem.W.Frag} {p : Addr} {ds : List PyData}
theorem K3 {T : String} {r : V -> List V -> Hp -> VK -> Prop} {to : TE} {t : TA} (h : to σ H fun x H1 => CF K T x H1 /\ t σ H1 fun xs H2 => r x xs H2 Q) : N5 K T r to t σ H Q := h
theorem IT {T : String} {r : V -> List V -> Hp -> VK -> Prop} {to : TE} (h : to σ H fun x H1 => CF K T x H1 /\ r x [] H1 Q) : F7 K T r to σ H Q := h
theorem Im {R : Prop} (hp : cw H p ds) (h : R) : CF K "list" (.ref p) H /\ R := let ⟨xs, e, _, _⟩ := hp; ⟨.inl ⟨rfl, xs, dY.of e⟩, h⟩
theorem GF {y : V} {d : PyData} (hp : cw H p ds) (hl : ds.length <= 4000) (hy : Dv H y d) (hi : oG d = true) (h : ∀ H2, Mv [p] H H2 -> cw H2 p (ds ++ [d]) -> Q .aP H2) : tI (.ref p) [y] H Q := by
 obtain ⟨xs, e, dv, i⟩ := hp
 have m : Mv [p] H (upd H p (.lst (xs ++ [y]))) := .eP e (by intro _ z; cases z)
 refine ⟨p, xs, y, rfl, rfl, e, by rw [dv.length]; exact dq hl, h _ m ⟨_, aj, m.Dz (fF i (by simp [bJ, hi])) (dv.append (.cons hy .nil)), fF i (by simp [bJ, hi])⟩⟩
theorem Jo (hp : cw H p ds) (h : ∀ H2, Mv [p] H H2 -> cw H2 p [] -> Q .aP H2) : wF (.ref p) [] H Q := by
 obtain ⟨xs, e, dv, i⟩ := hp
 have m : Mv [p] H (upd H p (.lst [])) := .eP e (by intro _ z; cases z)
 exact ⟨p, xs, rfl, rfl, e, h _ m ⟨_, aj, .nil, rfl⟩⟩
theorem DK {xs : List V} (hl : xs.length <= sizeLine) (hd : cB H xs ds) (hi : bJ ds = true) (k : ∀ p H2, au H H2 -> H p = none -> cw H2 p ds -> Q (.ref p) H2) : EC xs H Q :=
 ⟨hl, ds, hd, fun p H2 s n e d _ => k p H2 s n ⟨xs, e, d, hi⟩⟩
end
mutual
theorem Dv.fn {H : Hp} : ∀ {v : V} {d e : PyData}, Dv H v d -> Dv H v e -> oG d = true -> d = e
 | _, _, _, .aP, h, _ => by cases h; rfl
 | _, _, _, .bl b, h, _ => by cases h; rfl
 | _, _, _, .int i, h, _ => by cases h; rfl
 | _, _, _, .str x, h, _ => by cases h; rfl
 | _, _, _, .tup h r, h2, c => by
   cases h2 with
   | tup h' r' =>
     have c' := (by simpa [oG] using c : bJ _ = true)
     rw [h] at h'
     cases h'
     rw [cB.fn r r' c']
   | lst h' r' =>
     rcases h' with h' | ⟨o, h'⟩ <;> rw [h] at h' <;> cases h'
   | dct h' r' => rw [h] at h'; cases h'
 | _, _, _, .lst h r, _, c => by simp [oG] at c
 | _, _, _, .dct h r, _, c => by simp [oG] at c
theorem cB.fn {H : Hp} : ∀ {v : List V} {d e : List PyData}, cB H v d -> cB H v e -> bJ d = true -> d = e
 | _, _, _, .nil, h, _ => by cases h; rfl
 | _, _, _, .cons h r, h2, c => by
   have c' := c
   simp only [bJ, Bool.and_eq_true] at c'
   cases h2 with
   | cons h' r' => rw [Dv.fn h h' c'.1, cB.fn r r' c'.2]
end
theorem Dv.lst_inv {H : Hp} {v : V} {ds : List PyData} (h : Dv H v (.list ds)) : ∃ a xs, v = .ref a /\ (∀ K : PySem.W.Frag, dY K H a xs) /\ cB H xs ds := by
 cases h with
 | lst h r => exact ⟨_, _, rfl, fun _ => .inl h, r⟩
section
variable {σ : St} {H : Hp} {Q : VK} {D : Ends} {K : PySem.W.Frag} {p : Addr} {v : V} {ds : List PyData}
def FR (te : TE) (N : Option V -> Hp -> Prop) (σ2 : St) (b : Bool) (H3 : Hp) : Prop := if b = true then te σ2 H3 (fun y H4 => N (some y) H4) else N none H3
theorem Iv {k : Nat} {tl : TE} {g : TG} {tc : TT} {te : TE} (h : tl σ H fun x H1 => ∃ a, x = .ref a /\ (∃ xs, dY K H1 a xs) /\ JZ k g tc te (xa Q) σ (zb K a) H1) : Kb k (yj K tl) g tc te σ H Q := h
theorem GH {k : Nat} {g : TG} {tc : TT} {te : TE} {α : Type} {cs : List α} {gd : α -> PyData} (pf : α -> Bool) (fd : α -> PyData) (hl : Dv H v (.list (cs.map gd))) (hlen : cs.length <= 4000) (hi : ∀ c, oG (fd c) = true)
 (turn : ∀ x c H' (N : Option V -> Hp -> Prop), c ∈ cs -> au H H' -> Dv H' x (gd c) -> (pf c = true -> ∀ y H4, au H' H4 -> Dv H4 y (fd c) -> N (some y) H4) -> (pf c = false -> ∀ H3, au H' H3 -> N none H3) ->
  g x (List.replicate k none ++ σ) H' fun σ2 H2 => tc σ2 H2 fun b H3 => FR te N σ2 b H3)
 (kk : ∀ q H', au H H' -> H q = none -> cw H' q ((cs.filter pf).map fd) -> Q (.ref q) H') : ∃ a, v = .ref a /\ (∃ xs, dY K H a xs) /\ JZ k g tc te (xa Q) σ (zb K a) H := by
 obtain ⟨p, xs, rfl, e, dv⟩ := hl.lst_inv
 have Kd : dY K H p xs := e K
 have Lz : xs.length = cs.length := by rw [dv.length, List.length_map]
 refine ⟨p, rfl, ⟨xs, Kd⟩, fun i m acc H' => i <= cs.length /\ m = cs.length - i /\ au H H' /\ cB H' acc (((cs.take i).filter pf).map fd), ⟨cs.length, Nat.zero_le _, rfl, au.refl _, by simpa using cB.nil⟩, ?_⟩
 rintro i m acc H' ⟨IL, hm, sm, cO⟩
 have wZ : dY K H' p xs := au.seq sm Kd
 have KN : acc.length <= cs.length := by
  rw [cO.length, List.length_map]
  exact Nat.le_trans (List.length_filter_le _ _) (by rw [List.length_take]; omega)
 by_cases hc : i = cs.length
 . left
   refine ⟨⟨xs, wZ, by omega⟩, fun q hq => ?_⟩
   rw [hc, List.take_length] at cO
   have jb : au H (upd H' q (.lst acc)) := sm.trans (bV hq)
   exact kk q _ jb (sm.none hq) ⟨acc, aj, cO.keeps (bV hq), b9 hi _⟩
 . right
   have jZ : i < cs.length := by omega
   have Mr : i < xs.length := by omega
   refine ⟨⟨xs, xs[i], wZ, List.getElem?_eq_getElem Mr⟩, dq (by omega), fun x H2 hy => ?_⟩
   obtain ⟨rfl, hy⟩ := hy
   have hx := hy xs wZ
   have CH : cs[i]? = some cs[i] := List.getElem?_eq_getElem jZ
   obtain ⟨x', qT, hd⟩ := dv.get (i := i) (d := gd cs[i]) (by rw [List.getElem?_map, CH]; rfl)
   rw [hx] at qT
   cases qT
   have yx : cs.take (i + 1) = cs.take i ++ [cs[i]] := by rw [List.take_add_one, CH]; rfl
   exact turn x cs[i] H2 (fun o H4 => match o with | some y => ∃ m', m' < m /\ i + 1 <= cs.length /\ m' = cs.length - (i + 1) /\ au H H4 /\ cB H4 (acc ++ [y]) (((cs.take (i + 1)).filter pf).map fd) | none => ∃ m', m' < m /\ i + 1 <= cs.length /\ m' = cs.length - (i + 1) /\ au H H4 /\ cB H4 acc (((cs.take (i + 1)).filter pf).map fd))
    (List.getElem_mem jZ) sm (hd.keeps sm)
    (fun hp y H4 s4 d4 => ⟨cs.length - (i + 1), by omega, jZ, rfl, sm.trans s4, by
     rw [yx, List.filter_append, List.map_append]
     simp only [List.filter_cons, hp, if_true, List.filter_nil, List.map_cons, List.map_nil]
     exact cB.append (cO.keeps s4) (.cons d4 .nil)⟩)
    (fun hp H3 s3 => ⟨cs.length - (i + 1), by omega, jZ, rfl, sm.trans s3, by
     rw [yx, List.filter_append, List.map_append]
     simp only [List.filter_cons, hp, Bool.false_eq_true, if_false, List.filter_nil, List.map_nil, List.append_nil]
     exact cO.keeps s3⟩)
end
def uF (scope sc : Scope) (N M : List Str) : Bool :=
 (scope.kind == .function) && scope.names.all (fun y => y.2 != .cell) && scope.names.all (fun y => y.2 != .local || scope.names.lookup y.1 == some .local) &&
  scope.names.all (fun y => y.2 != .free || (sc.names.lookup y.1 == some .cell || sc.names.lookup y.1 == some .free)) && (M.length == N.length) &&
  (M.zip N).all fun p => (p.1 == p.2 && scope.names.lookup p.1 == some .free) || scope.names.lookup p.1 == none
theorem JY {X : Cx} {T M : List Str} {scope : Scope} (sc : Scope) (N : List Str) (hs : X.env.scope = sc) (hN : X.N = N) (h : uF scope sc N M = true) : jC X T M scope := by
 unfold uF at h
 simp only [Bool.and_eq_true, List.all_eq_true, Bool.or_eq_true, bne_iff_ne, beq_iff_eq, ne_eq] at h
 obtain ⟨⟨⟨⟨⟨h1, h2⟩, h3⟩, h4⟩, h5⟩, h6⟩ := h
 refine ⟨h1, h2, fun y hy e => ?_, fun y hy e => ?_, by rw [hN]; exact h5, fun i x hx => ?_⟩
 . rcases h3 y hy with z | z
   . exact absurd e z
   . exact z
 . rw [hs]
   rcases h4 y hy with z | z
   . exact absurd e z
   . exact z
 . have hi : i < M.length := (List.getElem?_eq_some_iff.mp hx).1
   have NU : i < N.length := by omega
   have hz : (M.zip N)[i]? = some (x, N[i]) := by
    rw [List.getElem?_zip_eq_some]
    exact ⟨hx, List.getElem?_eq_getElem NU⟩
   rcases h6 _ (List.mem_of_getElem? hz) with ⟨a, b⟩ | a
   . left
     refine ⟨?_, b⟩
     rw [hN, List.getElem?_eq_getElem NU]
     have a' : x = N[i] := a
     rw [a']
   . exact .inr a
section
variable {σ : St} {H : Hp} {Q : VK} {D : Ends} {K : PySem.W.Frag} {p : Addr} {v : V} {ds : List PyData}
theorem Fn {z : Str} {i : Int} {c : Nat} (hl : z.length <= sizeLine) (hi : m6 z.cps.toList i = some c) (h : Q (.str ⟨#[c]⟩) H) : sF K (.str z) (.int i) H Q := .inl (.inr ⟨z, i, c, rfl, rfl, hl, hi, h⟩)
def yQ : R2 := fun x y H Q => ∃ i j, x = .str i /\ y = .str j /\ i.length + j.length <= sizeLine /\ Q (.str (i ++ j)) H
theorem lu {X : Cx} : jk X (binaryOp .Add) yQ := sN
theorem xn {i j : Str} (hl : i.length + j.length <= 4000) (h : Q (.str (i ++ j)) H) : yQ (.str i) (.str j) H Q := ⟨i, j, rfl, rfl, small hl, h⟩
theorem z9 (xs : List V) (i j : Nat) : vE xs (some (i : Int)) (some (j : Int)) = (xs.drop i).take (j - i) := by
 unfold vE
 rw [HT.tJ, HT.tJ]
 by_cases h : i <= xs.length
 . rw [Nat.min_eq_left h]
   by_cases h2 : j <= xs.length
   . rw [Nat.min_eq_left h2]
   . rw [Nat.min_eq_right (by omega)]
     rw [List.take_of_length_le (by rw [List.length_drop]; omega), List.take_of_length_le (by rw [List.length_drop]; omega)]
 . rw [List.drop_of_length_le (show xs.length <= min i xs.length by omega), List.drop_of_length_le (show xs.length <= i by omega), List.take_nil, List.take_nil]
theorem K8 {te : TE} {tl th : TO} {r : V -> Option Int -> Option Int -> Hp -> VK -> Prop} (h : te σ H fun x H1 => tl σ H1 fun l H2 => th σ H2 fun u H3 => r x l u H3 Q) : N9 r te tl th σ H Q := h
theorem E9 {t : TE} {R : Option Int -> Hp -> Prop} (h : t σ H fun x H1 => ∃ i, x = .int i /\ R (some i) H1) : CB t σ H R := h
theorem AX {i : Int} {R : Int -> Prop} (h : R i) : ∃ j, V.int i = .int j /\ R j := ⟨i, rfl, h⟩
theorem EV {ns : List Int} (i j : Nat) (hp : dY K H p (ns.map V.int)) (k : ∀ q H', au H H' -> H q = none -> cw H' q (((ns.drop i).take (j - i)).map PyData.int) -> Q (.ref q) H') : F9 K (.ref p) (some (i : Int)) (some (j : Int)) H Q := by
 refine ⟨p, _, rfl, hp, fun q hq => ?_⟩
 rw [z9, <- List.map_drop, <- List.map_take]
 exact k q _ (bV hq) hq ⟨_, aj, cB.ints _, b9 (fun _ => rfl) _⟩
theorem qJ {H : Hp} {x : Str} : ∀ {xs : List V} {ss : List Str}, cB H xs (ss.map PyData.str) -> xs.all jc = true /\ J9 (.str x) xs = ss.contains x
 | _, [], .nil => ⟨rfl, rfl⟩
 | _, s :: ss, .cons h r => by
   cases h
   obtain ⟨a, b⟩ := qJ (x := x) r
   refine ⟨by simpa [jc] using a, ?_⟩
   show (Be (.str s) (.str x) || J9 (.str x) _) = _
   rw [b]
   show ((s == x) || ss.contains x) = _
   rw [List.contains_cons, show (s == x) = (x == s) from by rw [Bool.eq_iff_iff, beq_iff_eq, beq_iff_eq]; exact eq_comm]
theorem HP {ss : List Str} {x : Str} (hp : Dv H v (.list (ss.map PyData.str))) (h : Q (.bl (ss.contains x)) H) : Ke K false (.str x) v H Q := by
 obtain ⟨p, xs, rfl, e, dv⟩ := hp.lst_inv
 obtain ⟨a, b⟩ := qJ (x := x) dv
 refine ⟨p, xs, rfl, .inl (e K), rfl, a, ?_⟩
 rw [b]; exact h
end
end L2
namespace L2
theorem xT {H H1 H2 : Hp} (a : ∀ x, H1 x = none -> H x = none) (b : ∀ x, H2 x = none -> H1 x = none) : ∀ x, H2 x = none -> H x = none := fun x h => a x (b x h)
theorem E5 {H H' : Hp} {p : PySem.Addr} (s : ∀ x, H' x = none -> H x = none) (h : H' p = none) : H p = none := s p h
theorem au.QO {H H' : Hp} (s : au H H') : ∀ x, H' x = Option.none -> H x = Option.none := (s.mv (S := [])).dm
end L2
namespace L2
open PySem
theorem wY {α β : Type} [Inhabited α] {f : α -> β} {xs : List α} {i : Int} (h0 : 0 <= i) (h1 : i < xs.length) : m6 (xs.map f) i = some (f (xs.getD i.toNat default)) := by
 obtain ⟨m, rfl⟩ := Int.eq_ofNat_of_zero_le h0
 have hm : m < xs.length := by omega
 refine lb ?_
 rw [List.getElem?_map, List.getElem?_eq_getElem hm]
 simp [hm]
theorem En {α : Type} {g : α -> PyData} {xs : List α} {K : PySem.W.Frag} {H : Hp} {Q : VK} {v : V} (hs : Dv H v (.list (xs.map g))) (h : Q (.int (xs.length : Nat)) H) : uv K [v] H Q := xM (.inr hs) (by rw [List.length_map]; exact h)
theorem Bu {i : Nat} {v : V} {σ : St} {H : Hp} {R : St -> Hp -> Prop} (h : R (σ.set i (some v)) H) : kM i v σ H R := h
theorem Mv.B9 {p : Addr} {H H1 H2 : Hp} (s : au H H1) (m : Mv [p] H1 H2) (n : H p = Option.none) : au H H2 := fun a o e => m.kp a o (w4 (ay e n)) (s a o e)
theorem Mv.sq {K : PySem.W.Frag} {S : List Addr} {H H' : Hp} {a : Addr} {xs : List V} (m : Mv S H H') (n : a ∉ S) (h : dY K H a xs) : dY K H' a xs := by
 rcases h with (h | ⟨o, h⟩) | h
 . exact .inl (.inl (m.at n h))
 . exact .inl (.inr ⟨o, m.at n h⟩)
 . exact .inr h
theorem tR {te : TE} {N : Option V -> Hp -> Prop} {σ2 : St} {b : Bool} {H3 : Hp} (h1 : b = true -> te σ2 H3 (fun y H4 => N (some y) H4)) (h2 : b = false -> N none H3) : FR te N σ2 b H3 := by
 unfold FR
 cases b with
 | true => rw [if_pos rfl]; exact h1 rfl
 | false => rw [if_neg (by simp)]; exact h2 rfl
end L2
namespace L2
open PySem PySem.Spec PyProof.Rows
section
variable {X : Cx} {K : PySem.W.Frag} {a b e : Expr} {es : List Expr} {ta : TE} {pos : Pos}
theorem yM (h : X.K = K) : jk X (compareOp .In) (Ke K false) := by rw [<- h]; exact vI
theorem De (h : X.K = K) (hu : X.A.units + 8 < cLine) : jk X (compareOp .Eq) (qR K id) := by rw [<- h]; exact gN hu
theorem Fg (h : X.K = K) (hu : X.A.units + 8 < cLine) : jk X (compareOp .NotEq) (qR K not) := by rw [<- h]; exact jr hu
theorem uM (h : X.K = K) (ha : PE X a ta) (he : ∀ whole, isTrue a X.env whole = (do let v <- whole; standAt a.pos; holding [v] (truthy v))) : PT X a (fun σ H Q => ta σ H fun x H' => ∃ k, Ag K x H' k /\ Q k H') := by rw [<- h]; exact iG ha he
theorem Ax {k : Nat} {t : wL} {n : Nat} (h : X.K = K) (hc : X.calm = true) (hs : He X es t) (hn : (assignEach es X.env).length = n := by rfl) (kN : (assignEach es X.env).findIdx? (·.1) = none := by rfl) : PG X (.Tuple es k pos) (zZ K n t) := by rw [<- h]; exact ri hc hs hn kN
end
end L2
namespace L2
open PySem PySem.Spec PyProof.Rows PySem.W
inductive gx (H : Hp) : List (Key × V) -> List (Str × PyData) -> Prop where
 | nil : gx H [] []
 | cons {k : Str} {v : V} {d : PyData} {kvs : List (Key × V)} {m : List (Str × PyData)} (h : Dv H v d) (i : oG d = true) (r : gx H kvs m) : gx H ((.inr k, v) :: kvs) ((k, d) :: m)
theorem gx.px {H H' : Hp} (t : ∀ a xs, H a = some (.tup xs) -> H' a = some (.tup xs)) : ∀ {kvs : List (Key × V)} {m : List (Str × PyData)}, gx H kvs m -> gx H' kvs m
 | _, _, .nil => .nil
 | _, _, .cons h i r => .cons (h.px t i) i (gx.px t r)
theorem gx.length {H : Hp} : ∀ {kvs : List (Key × V)} {m : List (Str × PyData)}, gx H kvs m -> kvs.length = m.length
 | _, _, .nil => rfl
 | _, _, .cons _ _ r => by simp [gx.length r]
def bK (m : List (Str × PyData)) (k : Str) : Option PyData := (m.find? fun kv => decide (kv.1 = k)).map (·.2)
def putD (m : List (Str × PyData)) (k : Str) (d : PyData) : List (Str × PyData) := if (m.any fun kv => decide (kv.1 = k)) = true then m.map (fun kv => if kv.1 = k then (kv.1, d) else kv) else m ++ [(k, d)]
def dB (m : List (Str × PyData)) (k : Str) : List (Str × PyData) := m.filter fun kv => decide (kv.1 ≠ k)
theorem uB {a b : Str} : ((Sum.inr a : Key) = Sum.inr b) = (a = b) := propext ⟨fun h => Sum.inr.inj h, fun h => by rw [h]⟩
theorem gx.val {H : Hp} {k : Str} : ∀ {kvs : List (Key × V)} {m : List (Str × PyData)}, gx H kvs m -> (∀ d, bK m k = some d -> ∃ v, iW kvs (.inr k) = some v /\ Dv H v d) /\ (bK m k = none -> iW kvs (.inr k) = none)
 | _, _, .nil => ⟨fun d h => by simp [bK] at h, fun _ => rfl⟩
 | _, _, .cons (k := j) h i r => by
   obtain ⟨h1, h2⟩ := gx.val (k := k) r
   by_cases e : j = k
   . subst e
     refine ⟨fun d hd => ⟨_, ip rfl, ?_⟩, fun hd => by simp [bK] at hd⟩
     simp [bK] at hd
     subst hd; exact h
   . have e' : (Sum.inr j : Key) ≠ .inr k := fun z => e (Sum.inr.inj z)
     have el : ∀ (d : PyData) (m : List (Str × PyData)), bK ((j, d) :: m) k = bK m k := fun d m => by simp [bK, List.find?_cons, e]
     refine ⟨fun d hd => ?_, fun hd => ?_⟩
     . rw [el] at hd
       obtain ⟨v, hv, jY⟩ := h1 d hd
       exact ⟨v, by rw [fU e']; exact hv, jY⟩
     . rw [el] at hd
       rw [fU e']; exact h2 hd
theorem gx.any {H : Hp} {k : Str} : ∀ {kvs : List (Key × V)} {m : List (Str × PyData)}, gx H kvs m -> (kvs.any fun kv => decide (kv.1 = .inr k)) = m.any fun kv => decide (kv.1 = k)
 | _, _, .nil => rfl
 | _, _, .cons h i r => by
   simp only [List.any_cons, gx.any r, uB]
theorem gx.append {H : Hp} : ∀ {kvs G1 : List (Key × V)} {m m' : List (Str × PyData)}, gx H kvs m -> gx H G1 m' -> gx H (kvs ++ G1) (m ++ m')
 | _, _, _, _, .nil, s => s
 | _, _, _, _, .cons h i r, s => .cons h i (gx.append r s)
theorem gx.repl {H : Hp} {k : Str} {v : V} {d : PyData} (hv : Dv H v d) (hi : oG d = true) : ∀ {kvs : List (Key × V)} {m : List (Str × PyData)}, gx H kvs m -> gx H (kvs.map fun kv => if kv.1 = .inr k then (kv.1, v) else kv) (m.map fun kv => if kv.1 = k then (kv.1, d) else kv)
 | _, _, .nil => .nil
 | _, _, .cons (k := j) h i r => by
   rw [List.map_cons, List.map_cons]
   by_cases e : j = k
   . subst e
     rw [if_pos rfl, if_pos rfl]
     exact .cons hv hi (gx.repl hv hi r)
   . rw [if_neg (fun z => e (Sum.inr.inj z)), if_neg e]
     exact .cons h i (gx.repl hv hi r)
theorem gx.put {H : Hp} {k : Str} {v : V} {d : PyData} {kvs : List (Key × V)} {m : List (Str × PyData)} (r : gx H kvs m) (hv : Dv H v d) (hi : oG d = true) : gx H (putK kvs (.inr k) v) (putD m k d) := by
 unfold putK putD
 rw [r.any]
 by_cases h : (m.any fun kv => decide (kv.1 = k)) = true
 . rw [if_pos h, if_pos h]; exact r.repl hv hi
 . rw [if_neg h, if_neg h]; exact r.append (.cons hv hi .nil)
theorem gx.drop {H : Hp} {k : Str} : ∀ {kvs : List (Key × V)} {m : List (Str × PyData)}, gx H kvs m -> gx H (g6 kvs (.inr k)) (dB m k)
 | _, _, .nil => .nil
 | _, _, .cons (k := j) h i r => by
   by_cases e : j = k
   . subst e
     have := gx.drop (k := j) r
     simpa [g6, dB] using this
   . have := gx.drop (k := k) r
     have e' : (Sum.inr j : Key) ≠ .inr k := fun z => e (Sum.inr.inj z)
     simp only [g6, dB, List.filter_cons] at this ⊢
     rw [if_pos (by simpa using e'), if_pos (by simpa using e)]
     exact .cons h i this
def ic (H : Hp) (p : Addr) (m : List (Str × PyData)) : Prop := ∃ kvs, H p = some (.dK kvs) /\ gx H kvs m
theorem ic.keeps {H H' : Hp} {p : Addr} {m : List (Str × PyData)} (s : au H H') (h : ic H p m) : ic H' p m := let ⟨kvs, e, d⟩ := h; ⟨kvs, s _ _ e, d.px fun a xs e => s _ _ e⟩
theorem ic.mv {S : List Addr} {H H' : Hp} {p : Addr} {m : List (Str × PyData)} (v : Mv S H H') (n : p ∉ S) (h : ic H p m) : ic H' p m := let ⟨kvs, e, d⟩ := h; ⟨kvs, v.at n e, d.px v.tp⟩
theorem ic.ne {H : Hp} {p q : Addr} {m : List (Str × PyData)} (h : ic H p m) (hn : H q = none) : p ≠ q := let ⟨_, e, _⟩ := h; ay e hn
theorem ic.rC {H : Hp} {p q : Addr} {m : List (Str × PyData)} {ds : List PyData} (h : ic H p m) (h2 : cw H q ds) : p ≠ q := let ⟨_, e, _⟩ := h; let ⟨_, e2, _, _⟩ := h2; et e e2 (by intro z; cases z)
section
variable {σ : St} {H : Hp} {Q : VK} {D : Ends} {K : PySem.W.Frag} {p : Addr} {m : List (Str × PyData)} {k : Str}
theorem Fx (h : ∀ p H2, au H H2 -> H p = none -> ic H2 p [] -> Q (.ref p) H2) : yi σ H Q := fun p hp => h p _ (bV hp) hp ⟨[], aj, .nil⟩
theorem BI {td ty tv : TE} (h : tv σ H fun v H1 => td σ H1 fun x H2 => ty σ H2 fun y H3 => ∃ a H4, x = .ref a /\ oF H3 a y v H4 /\ D.nx σ H4) : CK td ty tv D σ H := h
theorem Er {v : V} {d : PyData} {R : Hp -> Prop} (hp : ic H p m) (hl : m.length <= 4000) (hv : Dv H v d) (hi : oG d = true) (h : ∀ H2, Mv [p] H H2 -> ic H2 p (putD m k d) -> R H2) : ∃ a H4, V.ref p = .ref a /\ oF H a (.str k) v H4 /\ R H4 := by
 obtain ⟨kvs, e, dk⟩ := hp
 have mv : Mv [p] H (upd H p (.dK (putK kvs (.inr k) v))) := .eP e (by intro _ z; cases z)
 exact ⟨p, _, rfl, oF.k (k := .inr k) e (by rw [dk.length]; exact dq hl), h _ mv ⟨_, aj, (dk.put hv hi).px mv.tp⟩⟩
theorem Al {td ty : TE} (h : td σ H fun x H1 => ty σ H1 fun y H2 => ∃ a v, x = .ref a /\ k7 H2 a y (some v) /\ Q v H2) : BV td ty σ H Q := h
theorem Dt {td ty : TE} (h : ty σ H fun y H1 => td σ H1 fun x H2 => ∃ a o, x = .ref a /\ k7 H2 a y o /\ Q (.bl o.isSome) H2) : Jh ty td σ H Q := h
theorem zl {td ty : TE} (h : ty σ H fun y H1 => td σ H1 fun x H2 => ∃ a o, x = .ref a /\ k7 H2 a y o /\ Q (.bl (!o.isSome)) H2) : uD ty td σ H Q := h
end
end L2
namespace L2
theorem Mz {t : TE} {σ : St} {H : Hp} {Q : Bool -> Hp -> Prop} (h : t σ H fun x H' => ∃ k, x = .bl k /\ Q k H') : tB t σ H Q := h
end L2
namespace L2
open PySem
theorem w9 {Hb : Hp} {σ : St} {H : Hp} {D : Ends} {K : PySem.W.Frag} {v : V} {α : Type} {cs : List α} {gd : α -> PyData} {g : TG} {tb : TS} (hl : Dv Hb v (.list (cs.map gd))) (Pv : Nat -> St -> Hp -> Prop) (h0 : Pv 0 σ H) (hk : ∀ i σ H', i <= cs.length -> Pv i σ H' -> ∀ a xs, v = .ref a -> dY K Hb a xs -> dY K H' a xs)
 (hs : ∀ i c x σ H', cs[i]? = some c -> Pv i σ H' -> (oG (gd c) = true -> (∀ a xs, Hb a = some (.tup xs) -> H' a = some (.tup xs)) -> Dv H' x (gd c)) -> (au Hb H' -> Dv H' x (gd c)) -> g x σ H' fun σ2 H2 => tb { D with nx := Pv (i + 1), ct := Pv (i + 1), bk := D.nx } σ2 H2) (hd : ∀ σ H', Pv cs.length σ H' -> D.nx σ H') : Dr K v g tb D σ H := by
 obtain ⟨p, xs, rfl, e, dv⟩ := hl.lst_inv
 have Lz : xs.length = cs.length := by rw [dv.length, List.length_map]
 refine forL (hk 0 σ H (Nat.zero_le _) h0 p xs rfl (e K)) Pv h0 (fun i σ H' hi hp => hk i σ H' (by omega) hp p xs rfl (e K)) (fun i x σ H' hx hp => ?_) (fun σ H' hp => hd σ H' (by rw [<- Lz]; exact hp))
 have hi : i < cs.length := by have := (List.getElem?_eq_some_iff.mp hx).1; omega
 obtain ⟨x', qT, jY⟩ := dv.get (i := i) (d := gd cs[i]) (by rw [List.getElem?_map, List.getElem?_eq_getElem hi]; rfl)
 rw [hx] at qT
 cases qT
 exact hs i cs[i] x σ H' (List.getElem?_eq_getElem hi) hp (fun im t => jY.px t im) (fun s => jY.keeps s)
end L2
namespace L2
open PySem PySem.Spec PyProof.Rows PySem.W
section
variable {X : Cx} {tg : Expr}
def GA : List V -> Hp -> VK -> Prop := fun xs H Q => ∃ (v : V) (bs : List Bool), xs = [v] /\ Dv H v (.list (bs.map PyData.bool)) /\ Q (.bl (bs.any id)) H
theorem pG {H : Hp} : ∀ {xs : List V} {bs : List Bool} {us : List Value}, cB H xs (bs.map PyData.bool) -> Vals xs us -> us = bs.map Value.bool
 | _, [], _, .nil, .nil => rfl
 | _, b :: bs, _, .cons h r, .cons q t => by
   cases h
   cases q
   rw [pG r t]; rfl
theorem rj {H : Hp} {pins : List (Addr × Obj)} {σ : St} {s : Shared} {v : V} {u : Value} {bs : List Bool} {A : Around} {E : Value -> Shared -> Prop} {Q : (Nat -> Bool) -> Shared -> Prop} (hA : A.handled = none) (I : Inv X pins σ H s) (rv : RelV v u) (hd : Dv H v (.list (bs.map PyData.bool)))
 (fin : ∀ h' tk, Inv X pins σ H { s with heap := h', toks := tk } -> Q (fun i => bs.getD i false) { s with heap := h', toks := tk }) :
 wpAny (model X.prog X.w) A (pyIter u) (fun it s2 => ∃ J fp wr n P St tr, it = .ref J /\ Walks X.prog X.w A J fp wr n P St /\ St 0 s2.heap /\ TruthOf X.prog X.w A P tr /\ n = bs.length /\ (tr = fun i => bs.getD i false) /\
  ∀ h' tk, (∀ b o, b ∉ wr -> s2.heap.get? b = some o -> h'.get? b = some o) -> Q tr { s2 with heap := h', toks := tk }) E s := by
 obtain ⟨p, xs, rfl, e, dv⟩ := hd.lst_inv
 obtain ⟨aY, Js, pl, _⟩ := I.list (e X.K)
 have hits := pG dv Js
 have hu : u = .ref p := rv
 subst hu
 refine wpAny_pyIter_list pl.isList ?_
 have jZ : p < s.heap.objs.size := by obtain ⟨o, n, e1, _⟩ := pl; exact Heap.lt_size e1
 refine ⟨s.heap.objs.size, _, _, _, _, _, fun i => bs.getD i false, rfl, Walks.list hA _ p (Nat.ne_of_lt jZ) aY.toArray, ⟨⟨_, Heap.get?_push_size _ rfl, rfl, rfl⟩, pl.isList.at fun o e => Heap.get?_push_of_some _ e⟩, ?_, ?_, rfl, fun h' tk kk => ?_⟩
 . intro i w' s3 Q3 E3 hP q
   subst hits
   have hi : (bs.map Value.bool)[i]? = some w' := by simpa using hP
   rw [List.getElem?_map] at hi
   cases hb : bs[i]? with
   | none => rw [hb] at hi; cases hi
   | some b =>
     rw [hb] at hi
     have : w' = .bool b := (Option.some.inj hi).symm
     subst this
     refine wpAny_truthy_bool ?_
     have : bs.getD i false = b := by simp [hb]
     have q' : Q3 (bs.getD i false) s3 := q
     rw [this] at q'
     exact q'
 . subst hits; simp
 . have I1 := I.kept (t' := s.toks) (h' := s.heap.push { cls := Value.type "list_iterator", data := Data.fields #[Value.ref p, Value.int 0 0] }) fun b o e => Heap.get?_push_of_some _ e
   have fp := I.p8 (H' := H) (Nat.le_refl _) (I.aF.fresh (Nat.le_refl _))
   have I2 := I1.turned (t' := tk) (h' := h') (it := s.heap.objs.size) (fun b o hb e => kk b o (by simpa using hb) e) fp.1 fp.2.1 fp.2.2.2.1 fp.2.2.2.2.1 fp.2.2.2.2.2
   exact fin h' tk I2
theorem range_any (bs : List Bool) : (List.range bs.length).any (fun i => bs.getD i false) = bs.any id := by
 rw [Bool.eq_iff_iff]
 simp only [List.any_eq_true, List.mem_range, id]
 constructor
 . rintro ⟨i, hi, e⟩
   simp [hi] at e
   exact ⟨_, List.getElem_mem hi, e⟩
 . rintro ⟨b, hb, e⟩
   obtain ⟨i, hi, e2⟩ := List.getElem_of_mem hb
   exact ⟨i, hi, by simp [hi, e2, e]⟩
theorem vp (hc : X.calm = true) : ie X (.builtin "any") GA := by
 intro pins s σ H xs us Q I r h
 obtain ⟨v, bs, rfl, hd, q⟩ := h
 obtain ⟨u, rfl, ru⟩ := vals1 r
 refine call_any_walk (bR (rj (Q := fun g s' => EP X pins σ Q (.bool ((List.range bs.length).any g)) s') (show X.A.in1.handled = none from I.ok.hd hc) I ru hd (fun h' tk I' => ⟨.bl _, H, I', rfl, ?_⟩)) fun it s2 hq => ?_)
 . rw [range_any]; exact q
 . obtain ⟨J, fp, wr, n, P, St, tr, e1, W, st, tt, hn, SW, k⟩ := hq
   subst hn
   exact ⟨J, fp, wr, _, P, St, tr, e1, W, st, tt, k⟩
section
variable {σ : St} {H : Hp} {Q : VK} {D : Ends} {K : PySem.W.Frag}
theorem G4 {v : V} {bs : List Bool} (hd : Dv H v (.list (bs.map PyData.bool))) (h : Q (.bl (bs.any id)) H) : GA [v] H Q := ⟨v, bs, rfl, hd, h⟩
end
end
end L2
namespace L2
open PySem
section
variable {H : Hp} {Q : VK} {K : PySem.W.Frag}
end
end L2
namespace L2
open PySem PySem.Spec PyProof.Rows PySem.W
section
variable {X : Cx}
theorem t8 {H : Hp} : ∀ {xs : List V} {ss : List Str} {us : List Value}, cB H xs (ss.map PyData.str) -> Vals xs us -> StrsAre us ss
 | _, [], _, .nil, .nil => .nil
 | _, b :: bs, _, .cons h r, .cons q t => by
   cases h
   obtain ⟨tk, rfl⟩ := q
   exact .cons _ _ (t8 r t)
end
section
variable {σ : St} {H : Hp} {Q : VK} {D : Ends} {K : PySem.W.Frag} {p : Addr} {ds : List PyData}
theorem rT {q : Addr} {es : List PyData} (hp : cw H p ds) (hq : cw H q es) (hl : ds.length + es.length <= 4000) (k : ∀ r H', au H H' -> H r = none -> cw H' r (ds ++ es) -> Q (.ref r) H') : G9 (.ref p) (.ref q) H Q := by
 obtain ⟨xs, e, dv, im⟩ := hp
 obtain ⟨zs, e2, NS, O8⟩ := hq
 refine ⟨p, q, xs, zs, rfl, rfl, e, e2, by rw [dv.length, NS.length]; exact small hl, fun r hr => ?_⟩
 exact k r _ (bV hr) hr (lg hr (dv.append NS) (fF im O8))
end
end L2
namespace L2
open PySem PySem.Calls PyProof.Rows
section
variable {X : Cx} {e k : Expr} {te tk : TE} {pos p2 : Pos}
end
section
variable {X : Cx}
end
section
variable {K : PySem.W.Frag} {σ : St} {H : Hp} {Q : VK} {p : Addr} {ds : List PyData}
end
end L2
namespace L2
open PySem PySem.Spec PyProof.Rows PySem.W
section
variable {X : Cx}
def va (ss : List Str) : Prop := ss.Pairwise fun a b => qm b a = false
theorem jV : ∀ (r : List Str) (p : Str), risingS p r = true -> (∀ x ∈ r, qm x p = false) /\ va r
 | [], _, _ => ⟨fun x hx => (by cases hx), List.Pairwise.nil⟩
 | y :: r, p, h => by
   unfold risingS at h
   rw [Bool.and_eq_true] at h
   obtain ⟨h1, h2⟩ := h
   have wg : qm y p = false := by
    have : ltCps y.cps.toList p.cps.toList = false := by simpa using h1
    rw [ltCps_eq] at this
    exact this
   obtain ⟨a, b⟩ := jV r y h2
   refine ⟨fun x hx => ?_, List.pairwise_cons.mpr ⟨a, b⟩⟩
   rcases List.mem_cons.mp hx with rfl | hx
   . exact wg
   . exact uf (a x hx) wg
theorem jS {ss : List Str} (h : sortedS ss = true) : va ss := by
 cases ss with
 | nil => exact List.Pairwise.nil
 | cons x r => obtain ⟨a, b⟩ := jV r x h; exact List.pairwise_cons.mpr ⟨a, b⟩
theorem iL : ∀ {xs ys : List Str}, xs.Perm ys -> va xs -> va ys -> xs = ys
 | [], _, hp, _, _ => List.Perm.nil_eq hp
 | x :: xs, [], hp, _, _ => by have := hp.length_eq; simp at this
 | x :: xs, y :: ys, hp, h1, h2 => by
   have hx := List.pairwise_cons.mp h1
   have hy := List.pairwise_cons.mp h2
   have J5 : x = y := by
    have m1 : y ∈ x :: xs := hp.mem_iff.mpr List.mem_cons_self
    have m2 : x ∈ y :: ys := hp.mem_iff.mp List.mem_cons_self
    rcases List.mem_cons.mp m1 with e | Qr
    . exact e.symm
    rcases List.mem_cons.mp m2 with e | Qc
    . exact e
    exact Am (hy.1 x Qc) (hx.1 y Qr)
   subst J5
   rw [iL (List.Perm.cons_inv hp) hx.2 hy.2]
def yS : List V -> Hp -> VK -> Prop := fun xs H Q => ∃ (v : V) (ss : List Str), xs = [v] /\ Dv H v (.list (ss.map PyData.str)) /\ ss.length < 64 /\ ∀ (q : Addr) (H' : Hp) (kQ : List Str), au H H' -> H q = none -> kQ.Perm ss -> va kQ -> cw H' q (kQ.map PyData.str) -> Q (.ref q) H'
theorem kq : ∀ {us : List Value} {ss : List Str}, StrsAre us ss -> Vals (ss.map V.str) us
 | _, _, .nil => .nil
 | _, _, .cons _ t r => .cons ⟨t, rfl⟩ (kq r)
theorem fM {H : Hp} : ∀ (ss : List Str), cB H (ss.map V.str) (ss.map PyData.str)
 | [] => .nil
 | x :: r => .cons (.str x) (fM r)
theorem jh : ie X (.builtin "sorted") yS := by
 intro pins s σ H xs us Q I r h
 obtain ⟨v, ss, rfl, hd, hl, q⟩ := h
 obtain ⟨u, rfl, ru⟩ := vals1 r
 obtain ⟨p, ys, rfl, e, dv⟩ := hd.lst_inv
 obtain ⟨aY, Js, pl, _⟩ := I.list (e X.K)
 cases ru
 have hS := t8 dv Js
 refine sorted_strs pl.isList hS (by rw [<- Js.length, dv.length, List.length_map]; exact hl) fun out kQ h1 h2 h3 => ?_
 obtain ⟨ep, he⟩ := sortedAll_at s.heap aY out
 have hq : H (s.heap.objs.size + 1) = none := I.aF.fresh (Nat.le_succ _)
 refine ⟨.ref (s.heap.objs.size + 1), upd H (s.heap.objs.size + 1) (.lst (kQ.map V.str)), I.laid (t' := s.toks) (fun b ob q => sortedAll_old q) (Nat.le_succ _) ?_, rfl, q _ _ kQ (bV hq) hq h2 (jS h3) (lg hq (fM kQ) (b9 (fun _ => rfl) _))⟩
 exact ⟨by rw [List.length_map, h2.length_eq]; exact Nat.le_of_lt (dq (by omega)), out.toList, ep, kq h1, by simpa [seqObj] using he⟩
end
section
variable {prog : Program} {w : World} {A : Around} {E : Value -> Shared -> Prop} {s : Shared} {it l : Addr} {aY : Array Value}
end
section
variable {X : Cx} {e : Expr} {te : TE} {p p2 pos Lq : Pos}
end
section
variable {K : PySem.W.Frag} {σ : St} {H : Hp} {Q : VK} {p : Addr} {ds : List PyData} {v : V}
theorem zL {ss : List Str} (hp : Dv H v (.list (ss.map PyData.str))) (hl : ss.length < 64) (k : ∀ q H' kQ, au H H' -> H q = none -> kQ.Perm ss -> va kQ -> cw H' q (kQ.map PyData.str) -> Q (.ref q) H') : yS [v] H Q := ⟨v, ss, rfl, hp, hl, k⟩
end
section
variable {P : Program} {w : World} {H : Hp} {h : Heap} {d : Addr} {o : Obj} {kvs : List (Key × V)}
theorem fW.dX (ok : fW P w H h) (hd : H d = some (.dK kvs)) (ho : h.get? d = some o) : fW P w (upd H d (.dX o (.dK kvs))) h := by
 intro b u q
 by_cases hb : b = d
 . subst hb
   rw [aj] at q
   cases q
   exact ⟨ho, ok b _ hd⟩
 . rw [ah hb] at q
   refine (ok b u q).iA (fun c v _ r => r) (fun c r => ?_) fun c xs r => ?_
   . rw [ah (et r hd (by intro z; cases z))]; exact r
   . rw [ah (et r hd (by intro z; cases z))]; exact r
theorem fW.pk (ok : fW P w H h) (hd : H d = some (.dX o (.dK kvs))) : fW P w (upd H d (.dK kvs)) h := by
 intro b u q
 by_cases hb : b = d
 . subst hb
   rw [aj] at q
   cases q
   exact (ok b _ hd).2
 . rw [ah hb] at q
   refine (ok b u q).iA (fun c v _ r => r) (fun c r => ?_) fun c xs r => ?_
   . rw [ah (et r hd (by intro z; cases z))]; exact r
   . rw [ah (et r hd (by intro z; cases z))]; exact r
end
section
variable {X : Cx} {pins : List (Addr × Obj)} {σ : St} {H : Hp} {s : Shared} {d : Addr} {o : Obj} {kvs : List (Key × V)}
theorem Inv.freeze (I : Inv X pins σ H s) (hd : H d = some (.dK kvs)) (ho : s.heap.get? d = some o) : Inv X pins σ (upd H d (.dX o (.dK kvs))) s := by
 have u : Un X.fs [] H (upd H d (.dX o (.dK kvs))) s.heap s.heap := {
  keep := fun b u e n _ _ => e
  slot := fun b u e n _ _ => ⟨u.slots, e⟩
  free := fun b u e n _ => by rw [ah (Ne.symm (ay hd n))]; exact n
  there := fun b u e _ => ⟨u, e⟩
  gb := fun b xs e => by rw [ah (et e hd (by intro z; cases z))]; exact e
  fJ := fun b u v e => by rw [ah (et e hd (by intro z; cases z))]; exact e
  ib := fun b ps e => ⟨#[], by rw [ah (et e hd (by intro z; cases z)), e]; simp⟩ }
 exact I.un (h' := s.heap) (t' := s.toks) u (I.aF.dX hd ho)
theorem Inv.pk (I : Inv X pins σ H s) (hd : H d = some (.dX o (.dK kvs))) (h0 : ∀ u v, X.qe d ≠ some (.dX u v)) : Inv X pins σ (upd H d (.dK kvs)) s := by
 have nn : ∀ b, H b = none -> upd H d (.dK kvs) b = none := fun b n => by rw [ah (Ne.symm (ay hd n))]; exact n
 refine ⟨I.ok, I.os, I.bare, ⟨I.base.keep, I.base.slot, fun b u e n x => nn b (I.base.free b u e n x), I.base.there, fun b xs e => ?_, fun b u v e => ?_, fun b ps e => ?_⟩, I.loc, I.cell, nn _ I.free, fun x c e => nn c (I.cE x c e), fun p hp => ?_, I.aF.pk hd, I.len⟩
 . have z := I.base.gb b xs e
   rw [ah (et z hd (by intro q; cases q))]; exact z
 . have z := I.base.fJ b u v e
   have hb : b ≠ d := fun q => h0 u v (q ▸ e)
   rw [ah hb]; exact z
 . obtain ⟨m, z⟩ := I.base.ib b ps e
   exact ⟨m, by rw [ah (et z hd (by intro q; cases q))]; exact z⟩
 . obtain ⟨a1, a2, a3⟩ := I.pin p hp
   exact ⟨a1, nn _ a2, a3⟩
theorem Inv.Cv (I : Inv X pins σ H s) (hd : H d = some (.dK kvs)) : ∀ u v, X.qe d ≠ some (.dX u v) := fun u v z => by
 have := I.base.fJ d u v z
 rw [hd] at this
 cases this
def wy (t : TE) : TE := fun σ H Q => ∃ d kvs, H d = some (.dK kvs) /\ t σ H fun v H' => (∃ o, H' d = some (.dX o (.dK kvs))) /\ Q v (upd H' d (.dK kvs))
theorem tS {e : Expr} {t : TE} (h : PE X e t) : PE X e (wy t) := by
 intro pins s σ H Q I ⟨d, kvs, hd, ht⟩
 have h0 := I.Cv hd
 exact bR (h pins s σ H _ I ht) fun v s1 ⟨x, H1, I1, r, ⟨o, ho⟩, q⟩ => ⟨x, _, I1.pk ho h0, r, q⟩
def tK (d : Addr) (kvs : List (Key × V)) (R : Hp -> Prop) : Hp -> Prop := fun H' => (∃ o, H' d = some (.dX o (.dK kvs))) /\ R (upd H' d (.dK kvs))
def x4 (d : Addr) (kvs : List (Key × V)) (D : Ends) : Ends := { nx := fun z => tK d kvs (D.nx z), rt := fun z => tK d kvs (D.rt z), bk := fun z => tK d kvs (D.bk z), ct := fun z => tK d kvs (D.ct z) }
def xr (t : TS) : TS := fun D σ H => ∃ d kvs, H d = some (.dK kvs) /\ t (x4 d kvs D) σ H
theorem zi {st : Stmt} {t : TS} (h : PS X st t) : PS X st (xr t) := by
 intro pins s σ H D I ⟨d, kvs, hd, ht⟩
 have h0 := I.Cv hd
 refine bR (h pins s σ H _ I ht) fun f s1 q => ?_
 cases f with
 | next => obtain ⟨σ', H', I1, ⟨o, ho⟩, q⟩ := q; exact ⟨σ', _, I1.pk ho h0, q⟩
 | brk => obtain ⟨σ', H', I1, ⟨o, ho⟩, q⟩ := q; exact ⟨σ', _, I1.pk ho h0, q⟩
 | cont => obtain ⟨σ', H', I1, ⟨o, ho⟩, q⟩ := q; exact ⟨σ', _, I1.pk ho h0, q⟩
 | ret u => obtain ⟨v, σ', H', I1, r, ⟨o, ho⟩, q⟩ := q; exact ⟨v, σ', _, I1.pk ho h0, r, q⟩
end
def OH (d : Addr) (o : Obj) (kvs : List (Key × V)) : It := ⟨fun i H => i < kvs.length /\ H d = some (.dX o (.dK kvs)), fun i H v H' => H' = H /\ ∃ kv, kvs[i]? = some kv /\ v = kV kv.1, fun i H => i = kvs.length /\ H d = some (.dX o (.dK kvs))⟩
theorem ll {P : Program} {w : World} {H : Hp} {h : Heap} {d : Addr} {o : Obj} {kvs : List (Key × V)} {es : Array DictEntry} {ep : Nat} (ok : fW P w H h) (hd : H d = some (.dX o (.dK kvs))) (he : o.data = .dict es ep) : (d == sysModules) = false /\ ∃ vs, KV kvs vs /\ h.DictAt (aJ P w) d vs ep := by
 obtain ⟨ho, _, hs, vs, kv, o2, Sg, RW, a1, a2, a3, a4⟩ := ok d _ hd
 rw [ho] at a1
 cases a1
 rw [he] at a3
 cases a3
 exact ⟨hs, vs, kv, _, _, ho, a2, he, a4⟩
theorem ji {α β : Type} {F : α -> β -> Prop} : ∀ {xs : List α} {ys : List β}, Paired F xs ys -> ∀ {i : Nat} {x : α}, xs[i]? = some x -> ∃ y, ys[i]? = some y /\ F x y
 | _, _, .nil, i, x, h => by simp at h
 | _, _, .cons r t, 0, x, h => by
   have e := Option.some.inj h
   exact ⟨_, rfl, e ▸ r⟩
 | _, _, .cons r t, i + 1, x, h => by
   obtain ⟨y, e, q⟩ := ji t (i := i) (by simpa using h)
   exact ⟨y, by simpa using e, q⟩
theorem mP {k : Key} {v : Value} (h : md k v = true) : RelV (kV k) v := by
 rcases bz h with ⟨i, t, rfl, rfl⟩ | ⟨x, t, rfl, rfl⟩
 . exact ⟨t, rfl⟩
 . exact ⟨t, rfl⟩
theorem vx {P : Program} {w : World} {K : PySem.W.Frag} {tg : Expr} {it d : Addr} {o : Obj} {kvs : List (Key × V)} {es : Array DictEntry} {ep : Nat} (he : o.data = .dict es ep) (tq : d ≠ it) :
 Turn P w K tg (OH d o kvs) [it] it (fun i h => h.IsKeyIter it d i kvs.length ep) where
 mem := by simp
 obj := fun i h st b hb => by
  have e : b = it := by simpa using hb
  subst e
  obtain ⟨o, e, c, d⟩ := st
  exact ⟨o, e, fun v z => by rw [d] at z; cases z⟩
 keep := fun i h h' st k => let ⟨o, e, r⟩ := st; ⟨o, k it (by simp) o e, r⟩
 item := by
  intro X hP hw hK hc i pins s σ H E I hf st hg
  subst hP hw hK
  obtain ⟨f0, f1, f2, f3, f4, f5⟩ := hf it (by simp)
  obtain ⟨hi, hd⟩ := hg
  obtain ⟨_, vs, kv, da⟩ := ll I.aF hd he
  have hl : vs.length = kvs.length := kv.length.symm
  refine (Walks.dictKeys (knd := aJ X.prog X.w) (I.ok.hd hc) it d tq vs ep).item i s _ _ (by rw [hl]; exact hi) ⟨by rw [hl]; exact st, da⟩ fun v h' tk hv vS kk => ?_
  obtain ⟨k, x, hx, hk⟩ := hv
  have I1 : Inv X pins σ H { s with heap := h', toks := tk } := I.turned (fun b u hb e => kk b u (by simpa using hb) e) f0 f1 f3 f4 f5
  have Oy : h'.IsKeyIter it d (i + 1) kvs.length ep := by rw [<- hl]; exact vS.1
  obtain ⟨o1, e1, c1, d1⟩ := id Oy
  refine ⟨_, rfl, B2 (s := { s with heap := h', toks := tk }) e1 c1 d1 (by decide) ⟨kV k, H, I1, mP hk, ⟨rfl, ?_⟩, Oy, fun b hb => (hf b hb).1⟩⟩
  obtain ⟨q, hq⟩ : ∃ q, kvs[i]? = some q := ⟨_, List.getElem?_eq_getElem hi⟩
  obtain ⟨y, hy, BZ⟩ := ji kv hq
  rw [hx] at hy
  cases hy
  exact ⟨q, hq, by rw [BZ.1]⟩
 done := by
  intro X hP hw hK hc i pins s σ H E I hf st hg
  subst hP hw hK
  obtain ⟨f0, f1, f2, f3, f4, f5⟩ := hf it (by simp)
  obtain ⟨hi, hd⟩ := hg
  obtain ⟨_, vs, kv, da⟩ := ll I.aF hd he
  have hl : vs.length = kvs.length := kv.length.symm
  subst hi
  refine (Walks.dictKeys (knd := aJ X.prog X.w) (I.ok.hd hc) it d tq vs ep).done s _ _ ⟨by rw [hl]; exact st, da⟩ fun h' tk kk => ⟨rfl, I.turned (fun b u hb e => kk b u (by simpa using hb) e) f0 f1 f3 f4 f5⟩
 self := fun A i s Q E st q => wpAny_pyIter_keyiter st q
def Cz (tl : TE) : TI := fun σ H R => tl σ H fun v H1 => ∃ d kvs, v = .ref d /\ H1 d = some (.dK kvs) /\ ∀ o, R (OH d o kvs) (upd H1 d (.dX o (.dK kvs)))
theorem A5 {X : Cx} {tg l : Expr} {tl : TE} (hl : PE X l tl) : PI X tg l (Cz tl) := by
 intro pins s σ H R I h
 refine bR (hl pins s σ H _ I h) fun v s1 ⟨y, H1, I1, r1, q1⟩ => ?_
 obtain ⟨d, kvs, rfl, hd, q⟩ := q1
 cases r1
 obtain ⟨_, hs, vs, kv, o, es, ep, ho, a2, a3, a4⟩ := (show aO X.prog X.w H1 s1.heap d (.dK kvs) from I1.aF d _ hd)
 have da : s1.heap.DictAt (aJ X.prog X.w) d vs ep := ⟨o, es, ho, a2, a3, a4⟩
 refine wpAny_pyIter_dict hs da ?_
 have I2 := I1.freeze hd ho
 have jZ : d < s1.heap.objs.size := Heap.lt_size ho
 have hlen : vs.length = kvs.length := kv.length.symm
 refine ⟨s1.heap.objs.size, [s1.heap.objs.size], _, _, _, rfl, I2.kept (t' := s1.toks) fun b u e => Heap.get?_push_of_some _ e, vx a3 (Nat.ne_of_lt jZ), ⟨_, Heap.get?_push_size _ rfl, rfl, by rw [hlen]; rfl⟩, fun b hb => ?_, q o⟩
 have e : b = s1.heap.objs.size := by simpa using hb
 subst e
 exact I2.p8 (Nat.le_refl _) (I2.aF.fresh (Nat.le_refl _))
def ux (H : Hp) (p : Addr) (m : List (Str × PyData)) : Prop := ∃ kvs, Rd H p (.dK kvs) /\ gx H kvs m
theorem ic.rd {H : Hp} {p : Addr} {m : List (Str × PyData)} (h : ic H p m) : ux H p m := let ⟨kvs, e, d⟩ := h; ⟨kvs, .inl e, d⟩
theorem ux.keeps {H H' : Hp} {p : Addr} {m : List (Str × PyData)} (s : au H H') (h : ux H p m) : ux H' p m := by
 obtain ⟨kvs, r, d⟩ := h
 refine ⟨kvs, ?_, d.px fun a xs e => s _ _ e⟩
 rcases r with r | ⟨o, r⟩
 . exact .inl (s _ _ r)
 . exact .inr ⟨o, s _ _ r⟩
theorem ux.mv {S : List Addr} {H H' : Hp} {p : Addr} {m : List (Str × PyData)} (v : Mv S H H') (n : p ∉ S) (h : ux H p m) : ux H' p m := by
 obtain ⟨kvs, r, d⟩ := h
 refine ⟨kvs, ?_, d.px v.tp⟩
 rcases r with r | ⟨o, r⟩
 . exact .inl (v.at n r)
 . exact .inr ⟨o, v.at n r⟩
theorem gx.HV {H : Hp} : ∀ {kvs : List (Key × V)} {m : List (Str × PyData)}, gx H kvs m -> ∀ {i : Nat} {kv : Key × V}, kvs[i]? = some kv -> ∃ k d, m[i]? = some (k, d) /\ kv.1 = .inr k /\ Dv H kv.2 d
 | _, _, .nil, i, kv, h => by simp at h
 | _, _, .cons (k := k) (d := d) hv _ r, 0, kv, h => by
   have e := (Option.some.inj h).symm
   subst e
   exact ⟨k, d, rfl, rfl, hv⟩
 | _, _, .cons _ _ r, i + 1, kv, h => by
   obtain ⟨k, d, e, q⟩ := gx.HV r (i := i) (by simpa using h)
   exact ⟨k, d, by simpa using e, q⟩
section
variable {σ : St} {H : Hp} {Q : VK} {K : PySem.W.Frag} {p : Addr} {m : List (Str × PyData)} {k : Str}
theorem Bh {d : PyData} {R : V -> Prop} (hp : ux H p m) (hk : bK m k = some d) (h : pF H d fun v _ => R v) : ∃ a v, V.ref p = .ref a /\ k7 H a (.str k) (some v) /\ R v := by
 obtain ⟨kvs, e, dk⟩ := hp
 obtain ⟨v, hv, hd⟩ := (dk.val (k := k)).1 d hk
 exact ⟨p, v, rfl, .inl ⟨kvs, .inr k, e, rfl, hv.symm⟩, h.use hd⟩
theorem C5 {R : Option V -> Prop} (hp : ux H p m) (h : ∀ o : Option V, o.isSome = (bK m k).isSome -> R o) : ∃ a o, V.ref p = .ref a /\ k7 H a (.str k) o /\ R o := by
 obtain ⟨kvs, e, dk⟩ := hp
 refine ⟨p, iW kvs (.inr k), rfl, .inl ⟨kvs, .inr k, e, rfl, rfl⟩, h _ ?_⟩
 obtain ⟨h1, h2⟩ := dk.val (k := k)
 cases hl : bK m k with
 | none => rw [h2 hl]; rfl
 | some d => obtain ⟨v, hv, _⟩ := h1 d hl; rw [hv]; rfl
theorem HD {n : Nat} {tl : TE} {g : TG} {tc : TT} {te : TE} (hp : ic H p m) (Ig : ∀ R : V -> Hp -> Prop, R (.ref p) H -> tl σ H R) (pf : Str -> Bool) (fd : Str -> PyData) (hlen : m.length <= 4000) (hi : ∀ c, oG (fd c) = true)
 (turn : ∀ c Hf H' (N : Option V -> Hp -> Prop), c ∈ m.map (·.1) -> Mv [p] H Hf -> ux Hf p m -> au Hf H' -> (pf c = true -> ∀ y H4, au H' H4 -> Dv H4 y (fd c) -> N (some y) H4) -> (pf c = false -> ∀ H3, au H' H3 -> N none H3) ->
  g (.str c) (List.replicate n none ++ σ) H' fun σ2 H2 => tc σ2 H2 fun b H3 => FR te N σ2 b H3)
 (kk : ∀ q H', au H H' -> H q = none -> cw H' q (((m.map (·.1)).filter pf).map fd) -> Q (.ref q) H') : wy (Kb n (Cz tl) g tc te) σ H Q := by
 obtain ⟨kvs, e, dk⟩ := hp
 refine ⟨p, kvs, e, Ig _ ⟨p, kvs, rfl, e, fun o => ?_⟩⟩
 have mv : Mv [p] H (upd H p (.dX o (.dK kvs))) := .eP e (by intro _ z; cases z)
 have rd : ux (upd H p (.dX o (.dK kvs))) p m := ⟨kvs, .inr ⟨o, aj⟩, dk.px mv.tp⟩
 have hl : kvs.length = m.length := dk.length
 refine ⟨fun i j acc H' => i <= m.length /\ j = m.length - i /\ au (upd H p (.dX o (.dK kvs))) H' /\ cB H' acc ((((m.map (·.1)).take i).filter pf).map fd), ⟨m.length, Nat.zero_le _, rfl, au.refl _, by simpa using cB.nil⟩, ?_⟩
 rintro i j acc H' ⟨IL, rfl, sm, cO⟩
 have uq : H' p = some (.dX o (.dK kvs)) := sm _ _ aj
 have KN : acc.length <= m.length := by
  rw [cO.length, List.length_map]
  refine Nat.le_trans (List.length_filter_le _ _) ?_
  rw [List.length_take, List.length_map]
  omega
 by_cases hc : i = m.length
 . left
   refine ⟨⟨by omega, uq⟩, fun q hq => ?_⟩
   have Et : p ≠ q := ay uq hq
   have tk : (m.map (·.1)).take i = m.map (·.1) := List.take_of_length_le (by rw [List.length_map]; omega)
   rw [tk] at cO
   have ups : upd (upd H' q (.lst acc)) p (.dK kvs) q = some (.lst acc) := by rw [ah (Ne.symm Et), aj]
   refine ⟨⟨o, by rw [ah Et]; exact uq⟩, kk q _ (fun a u z => ?_) ?_ ⟨acc, ups, cO.px (fun a xs z => ?_) (b9 hi _), b9 hi _⟩⟩
   . by_cases ha : a = p
     . subst ha; rw [e] at z; cases z; exact aj
     . have z1 : H' a = some u := sm _ _ (by rw [ah ha]; exact z)
       rw [ah ha, ah (ay z1 hq)]; exact z1
   . cases hz : H q with
     | none => rfl
     | some u =>
       have : H' q = some u := sm _ _ (by rw [ah (Ne.symm Et)]; exact hz)
       rw [hq] at this; cases this
   . rw [ah (et z uq (by intro y; cases y)), ah (ay z hq)]; exact z
 . right
   have jZ : i < m.length := by omega
   refine ⟨⟨by omega, uq⟩, dq (by omega), fun x H2 hy => ?_⟩
   obtain ⟨rfl, kv, Hd, rfl⟩ := hy
   obtain ⟨c, d, hm, Pg, _⟩ := dk.HV Hd
   have CH : (m.map (·.1))[i]? = some c := by rw [List.getElem?_map, hm]; rfl
   have yx : (m.map (·.1)).take (i + 1) = (m.map (·.1)).take i ++ [c] := by rw [List.take_add_one, CH]; rfl
   rw [show kV kv.1 = .str c by rw [Pg]; rfl]
   refine turn c _ H2 (fun r H4 => match r with | some y => ∃ j', j' < m.length - i /\ i + 1 <= m.length /\ j' = m.length - (i + 1) /\ au (upd H p (.dX o (.dK kvs))) H4 /\ cB H4 (acc ++ [y]) ((((m.map (·.1)).take (i + 1)).filter pf).map fd) | none => ∃ j', j' < m.length - i /\ i + 1 <= m.length /\ j' = m.length - (i + 1) /\ au (upd H p (.dX o (.dK kvs))) H4 /\ cB H4 acc ((((m.map (·.1)).take (i + 1)).filter pf).map fd))
    (List.mem_of_getElem? CH) mv rd sm (fun hb y H4 s4 d4 => ⟨m.length - (i + 1), by omega, jZ, rfl, sm.trans s4, ?_⟩) (fun hb H3 s3 => ⟨m.length - (i + 1), by omega, jZ, rfl, sm.trans s3, ?_⟩)
   . rw [yx, List.filter_append, List.map_append]
     simp only [List.filter_cons, hb, if_true, List.filter_nil, List.map_cons, List.map_nil]
     exact cB.append (cO.keeps s4) (.cons d4 .nil)
   . rw [yx, List.filter_append, List.map_append]
     simp only [List.filter_cons, hb, Bool.false_eq_true, if_false, List.filter_nil, List.map_nil, List.append_nil]
     exact cO.keeps s3
end
section
variable {X : Cx}
def jK (i : Str) (n : Int) : Str := if n < 1 then Str.empty else if (n == 1 || i.length == 0) = true then i else ⟨(List.replicate n.toNat i.cps).foldl (· ++ ·) #[]⟩
def yg : R2 := fun x y H Q => ∃ i n, x = .str i /\ y = .int n /\ 0 <= n /\ n <= 10 /\ i.length <= 10 /\ (jK i n).length <= 4000 /\ Q (.str (jK i n)) H
theorem tG : jk X (binaryOp .Mult) yg := by
 intro pins s σ H x y v u Q I rx ry h
 obtain ⟨i, n, rfl, rfl, h0, h1, hl, hm, q⟩ := h
 obtain ⟨t, rfl⟩ := rx
 obtain ⟨t', rfl⟩ := ry
 have JX : ((i.length : Nat) : Int) <= 10 := by omega
 refine PySem.P.mul_str (by simp; omega) (fun a _ => ?_) (fun a _ => ?_) ?_
 . have c : n = 1 \/ n = 2 \/ n = 3 \/ n = 4 \/ n = 5 \/ n = 6 \/ n = 7 \/ n = 8 \/ n = 9 \/ n = 10 := by omega
   rcases c with rfl | rfl | rfl | rfl | rfl | rfl | rfl | rfl | rfl | rfl <;> omega
 . have : i.length * n.toNat <= 10 * 10 := Nat.mul_le_mul hl (by omega)
   exact decide_eq_false (Nat.not_lt.mpr (Nat.le_trans this (Nat.le_of_lt (dq (by decide)))))
 . unfold jK at hm q
   split
   . rename_i c
     rw [if_pos c] at hm q
     exact ⟨Nat.le_of_lt (dq hm), .str _, H, I.tok _, ⟨_, rfl⟩, q⟩
   . rename_i c
     rw [if_neg c] at hm q
     split
     . rename_i c2
       rw [if_pos c2] at hm q
       exact ⟨.str _, H, I, ⟨_, rfl⟩, q⟩
     . rename_i c2
       rw [if_neg c2] at hm q
       exact ⟨Nat.le_of_lt (dq hm), .str _, H, I.tok _, ⟨_, rfl⟩, q⟩
def wC : V -> List V -> Hp -> VK -> Prop := fun x vs H Q => ∃ a kvs k v, x = .ref a /\ vs = [kV k] /\ H a = some (.dK kvs) /\ iW kvs k = some v /\ Q v (upd H a (.dK (g6 kvs k)))
theorem oA : K7 X "dict.pop" wC := by
 intro pins s σ H x vs v us Q I rx rv h
 obtain ⟨a, kvs, k, y, rfl, rfl, hH, hv, q⟩ := h
 cases rx
 obtain ⟨u, rfl, ru⟩ := rv.one
 exact GU I hH ru hv (.inl rfl) fun w' s' I' r => ⟨y, _, I', r, q⟩
end
section
variable {σ : St} {H : Hp} {Q : VK} {K : PySem.W.Frag} {p : Addr} {m : List (Str × PyData)} {k : Str}
theorem CQ {i : Str} {n : Int} (h0 : 0 <= n) (h1 : n <= 10) (hl : i.length <= 10) (hm : (jK i n).length <= 4000) (h : Q (.str (jK i n)) H) : yg (.str i) (.int n) H Q := ⟨i, n, rfl, rfl, h0, h1, hl, hm, h⟩
theorem Gr {R : Prop} (hp : ic H p m) (h : R) : CF K "dict" (.ref p) H /\ R := let ⟨kvs, e, _⟩ := hp; ⟨.inr (.inr (.inl ⟨rfl, .inl ⟨kvs, e⟩⟩)), h⟩
theorem DV {d : PyData} (hp : ic H p m) (hk : bK m k = some d) (h : ∀ v H2, Mv [p] H H2 -> ic H2 p (dB m k) -> Q v H2) : wC (.ref p) [.str k] H Q := by
 obtain ⟨kvs, e, dk⟩ := hp
 obtain ⟨v, hv, hd⟩ := (dk.val (k := k)).1 d hk
 have mv : Mv [p] H (upd H p (.dK (g6 kvs (.inr k)))) := .eP e (by intro _ z; cases z)
 refine ⟨p, kvs, .inr k, v, rfl, rfl, e, hv, h v _ mv ⟨_, aj, dk.drop.px mv.tp⟩⟩
end
section
variable {σ : St} {H : Hp} {Q : VK} {K : PySem.W.Frag} {p : Addr}
end
section
variable {X : Cx}
end
theorem mG {h : Heap} {o u : Obj} {b : Addr} (e : (h.push o).get? b = some u) (n : b ≠ h.objs.size) : h.get? b = some u := by
 obtain ⟨e1, e2⟩ := Heap.get?_some_iff.mp e
 refine Heap.get?_some_iff.mpr ⟨?_, e2⟩
 cases h
 simpa [Heap.push, Array.getElem?_push, n] using e1
section
variable {prog : Program} {w : World} {K : Type} [DecidableEq K] {knd : KeyKind prog w K} {A : Around} {E : Value -> Shared -> Prop} {s : Shared} {d : Addr} {kvs : List (K × Value)} {ep : Nat}
theorem yp {R : Result -> Shared -> Prop} (hh : A.handled = none) (hd : (d == sysModules) = false) (y : Addr) (c0 : Nat) (hz : kvs.length <= sizeLine) (hm : s.heap.DictAt knd d kvs ep)
 (hy : s.heap.get? y = some { cls := .type "list", data := .seq #[] c0 }) (KQ : y ≠ d)
 (hR : ∀ s' acc c, s'.gens = s.gens -> s'.drawn = s.drawn -> s'.os = s.os -> (∀ b o, b ≠ y -> s.heap.get? b = some o -> s'.heap.get? b = some o) -> s'.heap.get? y = some { cls := .type "list", data := .seq acc c } -> ItemsOf (fun i v => ∃ k x, kvs[i]? = some (k, x) /\ knd.is k v = true) acc kvs.length -> R (.ok (.ret .none)) s') :
 wpAny (model prog w) A.in1 (Builtin.List.listExtendWith (.ref y) (.ref d) .none)
  (fun f s' => match f with | .done g => R (.ok g) s' | .again c => c.quiet = true /\ codeAny (model prog w) A c R s') (fun e s' => R (.error e) s') s := by
 have hT : s.TypeIs (.ref d) "dict" := hm.dictOf.typeIs
 have NT : y < s.heap.objs.size := Heap.lt_size hy
 have JO : d < s.heap.objs.size := hm.lt_size
 have W := (Walks.dictKeys (knd := knd) (A := A.in1) hh s.heap.objs.size d (Nat.ne_of_lt JO) kvs ep).toS
 have nf : y ∉ [s.heap.objs.size, d] := by simp [KQ, Nat.ne_of_lt NT]
 unfold Builtin.List.listExtendWith
 refine wpAny_bind (wpAny_typeOf hT ?_)
 have a1 : Builtin.List.listSameRef (.ref y) (.ref d) = false := by simp [Builtin.List.listSameRef, KQ]
 have a2 : (Value.type "dict" == Value.type "list") = false := by decide
 have a3 : (Value.type "dict" == Value.type "tuple") = false := by decide
 simp only [a1, a2, a3, Bool.or_self, Bool.false_eq_true, if_false]
 refine wpAny_bind (wpAny_pyIter_dict hd hm ?_)
 refine wpAny_bind (wpAny_holding ?_)
 have K5 : Shared.TypeIs { s with heap := s.heap.push { cls := .type "dict_keyiterator", data := .fields #[.ref d, .int 0 0, .int kvs.length 0, .int ep 0] } } (.ref d) "dict" := by
  obtain ⟨o, es, e, c, _⟩ := id hm
  exact ⟨o, Heap.get?_push_of_some _ e, c.1⟩
 unfold Builtin.List.listLengthHint
 refine wpAny_bind (wpAny_specialOf K5 F.slot_dict_len.lookup ?_)
 generalize Nv : ("dict.__len__" : String) = P9
 wp_delta
 rw [show splitId P9 = some ("dict", "__len__") from by subst Nv; decide +kernel]
 subst Nv
 refine wpAny_bind (wpAny_isInstance (T := "dict") (b := true) K5 (by rw [isSubtype_type]; kernel_rfl) ?_)
 refine wpAny_ite_split (fun wt => absurd wt (by decide)) (fun _ => ?_)
 refine wpAny_ite_split (fun _ => ?_) (fun wt => absurd (by decide +kernel) wt)
 refine wpAny_bind (wpAny_typeOf K5 (wpAny_pure ?_))
 show wpAny _ A.in1 (rule "list.extend.makes-room" >>= fun _ => Builtin.List.listTouch (.ref y) >>= fun _ =>
  again (.builtin "list.extend.loop" ⟨[.ref y, .ref s.heap.objs.size, .none], []⟩)) _ _ _
 refine wpAny_bind (wpAny_rule ?_)
 have NI := Heap.get?_push_of_some { cls := .type "dict_keyiterator", data := .fields #[.ref d, .int 0 0, .int kvs.length 0, .int ep 0] } hy
 refine wpAny_bind ?_
 show wpAny _ A.in1 (updateSeq y (·.push .none) >>= fun _ => updateSeq y (·.pop)) _ _ _
 refine wpAny_bind (wpAny_updateSeq NI rfl ?_)
 have BZ := Heap.get?_update_self (Obj.mapSeq (·.push Value.none)) NI rfl
 refine wpAny_updateSeq (hz := by seq_fits) BZ rfl ?_
 have Q6 := Heap.get?_update_self (Obj.mapSeq (·.pop)) BZ rfl
 have ot : ∀ b o, b ≠ y -> (s.heap.push { cls := .type "dict_keyiterator", data := .fields #[.ref d, .int 0 0, .int kvs.length 0, .int ep 0] }).get? b = some o -> (((s.heap.push { cls := .type "dict_keyiterator", data := .fields #[.ref d, .int 0 0, .int kvs.length 0, .int ep 0] }).update y (Obj.mapSeq (·.push Value.none))).update y (Obj.mapSeq (·.pop))).get? b = some o :=
  fun b o hb e => (Heap.get?_update_other _ _ (Ne.symm hb)).trans ((Heap.get?_update_other _ _ (Ne.symm hb)).trans e)
 have Qf : Heap.IsKeyIter (s.heap.push { cls := .type "dict_keyiterator", data := .fields #[.ref d, .int 0 0, .int kvs.length 0, .int ep 0] }) s.heap.objs.size d 0 kvs.length ep := ⟨_, Heap.get?_push_size _ rfl, rfl, rfl⟩
 refine wpAny_pure ⟨plainId_quiet F.plain_extend_loop _, codeAny_extend_loopS W hz _ nf _ kvs.length 0 _ _ _ rfl (Nat.zero_le _) ⟨Qf.at fun o e => ot _ o (Ne.symm (Nat.ne_of_lt NT)) e, (hm.push _).at' fun o e => ot _ o (Ne.symm KQ) e⟩ Q6 (ItemsOf.nil _) fun s' acc c JA hs cO => ?_⟩
 refine hR s' acc c JA.gens JA.drawn JA.os (fun b o hb e => JA.heap b o ?_ (ot b o hb (Heap.get?_push_of_some _ e))) hs cO
 simp [hb, Nat.ne_of_lt (Heap.lt_size e)]
theorem lM {Q : Value -> Shared -> Prop} (hh : A.handled = none) (hd : (d == sysModules) = false) (hz : kvs.length <= sizeLine) (hm : s.heap.DictAt knd d kvs ep)
 (hQ : ∀ s' acc c, s'.gens = s.gens -> s'.drawn = s.drawn -> s'.os = s.os -> (∀ b o, s.heap.get? b = some o -> s'.heap.get? b = some o) -> s'.heap.get? s.heap.objs.size = some { cls := .type "list", data := .seq acc c } -> ItemsOf (fun i v => ∃ k x, kvs[i]? = some (k, x) /\ knd.is k v = true) acc kvs.length -> Q (.ref s.heap.objs.size) s') :
 wpAny (model prog w) A (call (.type "list") [.ref d]) Q E s := by
 have JO : d < s.heap.objs.size := hm.lt_size
 refine callType_codes (Q₁ := fun u s1 => u = .ref s.heap.objs.size /\ s1 = { s with heap := s.heap.push { cls := .type "list", data := .seq #[] } }) F.called_list (F.typeCall_list_1 _) F.entry_list_init (code_list_new _ ⟨rfl, rfl⟩) fun u s1 hu => ?_
 obtain ⟨rfl, rfl⟩ := hu
 have h0 : (s.heap.push { cls := .type "list", data := .seq #[] }).get? s.heap.objs.size = some { cls := .type "list", data := .seq #[] } := Heap.get?_push_size _ rfl
 refine ⟨⟨_, h0, rfl⟩, F.args_list_init_2 _ _, ?_⟩
 show wpAny _ _ (Builtin.List.listItems (.ref s.heap.objs.size) >>= fun old => Builtin.List.listUpdate (.ref s.heap.objs.size) (fun _ => #[]) >>= fun _ => letGo old.toList.reverse >>= fun _ => Builtin.List.listExtendWith (.ref s.heap.objs.size) (.ref d) .none) _ _ _
 refine wpAny_bind ?_
 unfold Builtin.List.listItems
 refine wpAny_bind (wpAny_seqItems h0 rfl (wpAny_pure (wpAny_bind ?_)))
 refine wpAny_updateSeq h0 rfl (wpAny_bind (wpAny_letGo ?_))
 have h2 := Heap.get?_update_self (Obj.mapSeq (fun _ => (#[] : Array Value))) h0 rfl
 have ot : ∀ b o, b ≠ s.heap.objs.size -> s.heap.get? b = some o -> ((s.heap.push { cls := .type "list", data := .seq #[] }).update s.heap.objs.size (Obj.mapSeq (fun _ => (#[] : Array Value)))).get? b = some o := fun b o hb e => by
  rw [Heap.get?_update_other _ _ (Ne.symm hb)]
  exact Heap.get?_push_of_some _ e
 refine yp (A := A.in1) hh hd _ _ hz (hm.at' fun o e => ot d o (Nat.ne_of_lt JO) e) h2 (Ne.symm (Nat.ne_of_lt JO)) fun s' acc c e1 e2 e3 QR hs cO => ?_
 exact ⟨rfl, hQ s' acc c e1 e2 e3 (fun b o e => QR b o (Nat.ne_of_lt (Heap.lt_size e)) (ot b o (Nat.ne_of_lt (Heap.lt_size e)) e)) hs cO⟩
end
section
variable {X : Cx}
def wu : List V -> Hp -> VK -> Prop := fun xs H Q => ∃ p kvs, xs = [.ref p] /\ Rd H p (.dK kvs) /\ ∀ q, H q = none -> Q (.ref q) (upd H q (.lst (kvs.map fun kv => kV kv.1)))
theorem jf {P : Program} {w : World} {kvs : List (Key × V)} {vs : List (Key × Value)} {acc : Array Value} (kv : KV kvs vs) (h : ItemsOf (fun i v => ∃ k x, vs[i]? = some (k, x) /\ (aJ P w).is k v = true) acc vs.length) : Vals (kvs.map fun kv => kV kv.1) acc.toList := by
 obtain ⟨h0, h1⟩ := h
 have key : ∀ (kvs : List (Key × V)) (vs : List (Key × Value)), KV kvs vs -> ∀ l : List Value, l.length = vs.length -> (∀ (i : Nat) (v : Value), l[i]? = some v -> ∃ k x, vs[i]? = some (k, x) /\ (aJ P w).is k v = true) -> Vals (kvs.map fun kv => kV kv.1) l := by
  intro kvs vs r
  induction r with
  | nil =>
    intro l hl _
    cases l with
    | nil => exact .nil
    | cons => simp at hl
  | cons r t ih =>
    intro l hl hi
    cases l with
    | nil => simp at hl
    | cons v l =>
      refine .cons ?_ (ih l (by simpa using hl) fun i v e => ?_)
      . obtain ⟨k, x, e, hk⟩ := hi 0 v rfl
        have e' := Option.some.inj e
        dsimp only
        rw [r.1, e']
        exact mP hk
      . exact hi (i + 1) v (by simpa using e)
 exact key kvs vs kv acc.toList (by simpa using h0) fun i v e => h1 i v (by simpa using e)
theorem lN (hc : X.calm = true) : ie X (.type "list") wu := by
 intro pins s σ H xs us Q I rv h
 obtain ⟨p, kvs, rfl, hH, q⟩ := h
 obtain ⟨u, rfl, ru⟩ := rv.one
 cases ru
 have ob : aO X.prog X.w H s.heap p (.dK kvs) := by
  rcases hH with e | ⟨o, e⟩
  . exact I.aF p _ e
  . exact (I.aF p _ e).2
 obtain ⟨hz, hs, vs, kv, HA⟩ := ob
 obtain ⟨ep, da⟩ := HA.dictAt
 have hlen : vs.length = kvs.length := kv.length.symm
 refine lM (I.ok.hd hc) hs (by rw [hlen]; exact hz) da fun s' acc c eg ed eo hk pC cO => ?_
 obtain ⟨h', g', d', Pw, Kz⟩ := s'
 have eg : g' = s.gens := eg
 have ed : d' = s.drawn := ed
 have eo : Kz = s.os := eo
 subst eg; subst ed; subst eo
 refine ⟨.ref s.heap.objs.size, _, I.laid (t' := Pw) (o := .lst (kvs.map fun kv => kV kv.1)) (fun b ob e => hk b ob e) (Nat.le_refl _) ?_, rfl, q _ (I.aF.fresh (Nat.le_refl _))⟩
 exact ⟨by rw [List.length_map]; exact hz, acc.toList, c, jf kv cO, by simpa using pC⟩
end
section
variable {σ : St} {H : Hp} {Q : VK} {p : Addr} {m : List (Str × PyData)}
theorem kJ : ∀ ss : List Str, bJ (ss.map PyData.str) = true
 | [] => rfl
 | _ :: r => by rw [List.map_cons, bJ, kJ r]; rfl
end
theorem iT : entryFor table "dict_itemiterator.__iter__" = some Builtin.«dict_keyiterator.__iter__» :=
 entryFor_alias (id' := "dict_keyiterator.__iter__") (by kernel_rfl) rfl (by decide +kernel) (by kernel_rfl)
def Oh (d : Addr) (o : Obj) (kvs : List (Key × V)) : It := ⟨fun i H => i < kvs.length /\ H d = some (.dX o (.dK kvs)), fun i H v H' => ∃ t kv, kvs[i]? = some kv /\ v = .ref t /\ H t = none /\ H' = upd H t (.tup [kV kv.1, kv.2]), fun i H => i = kvs.length /\ H d = some (.dX o (.dK kvs))⟩
theorem rY {P : Program} {w : World} {K : PySem.W.Frag} {elts : List Expr} {x1} {pos : Pos} {it d : Addr} {o : Obj} {kvs : List (Key × V)} {es : Array DictEntry} {ep : Nat} (he : o.data = .dict es ep) (tq : d ≠ it) :
 Turn P w K (.Tuple elts x1 pos) (Oh d o kvs) [it] it (fun i h => ∃ ok ov, IsItemIter h it d i kvs.length ep ok ov) where
 mem := by simp
 obj := fun i h st b hb => by
  have e : b = it := by simpa using hb
  subst e
  obtain ⟨ok, ov, e⟩ := st
  exact ⟨_, e, fun v z => by cases z⟩
 keep := fun i h h' st k => let ⟨ok, ov, e⟩ := st; ⟨ok, ov, k it (by simp) _ e⟩
 item := by
  intro X hP hw hK hc i pins s σ H E I hf st hg
  subst hP hw hK
  obtain ⟨f0, f1, f2, f3, f4, f5⟩ := hf it (by simp)
  obtain ⟨hi, hd⟩ := hg
  obtain ⟨_, vs, kv, da⟩ := ll I.aF hd he
  have hl : vs.length = kvs.length := kv.length.symm
  obtain ⟨ok, ov, st⟩ := st
  obtain ⟨q, hq⟩ : ∃ q, kvs[i]? = some q := ⟨_, List.getElem?_eq_getElem hi⟩
  obtain ⟨⟨k, v⟩, hy, BZ⟩ := ji kv hq
  have FZ : it < s.heap.objs.size := Heap.lt_size st
  have hn : H s.heap.objs.size = none := I.aF.fresh (Nat.le_refl _)
  refine wpAny_pyNext_items_item (knd := aJ X.prog X.w) (by rw [hl]; exact st) da hy fun key h' hk hit ht hz kk => ?_
  rw [hl] at hit
  refine ⟨_, rfl, wpAny_letOwnedTupleGo_items (s := { s with heap := h' }) hit fun h2 Mj sb => ?_⟩
  have I1 : Inv X pins σ (upd H s.heap.objs.size (.tup [kV q.1, q.2])) { s with heap := s.heap.push { cls := .type "tuple", data := .seq #[key, v] } } :=
   I.laid (t' := s.toks) (fun b u e => Heap.get?_push_of_some _ e) (Nat.le_refl _) (show aO X.prog X.w _ _ _ (.tup [kV q.1, q.2]) from ⟨by rw [sizeLine_eq]; simp, [key, v], .cons (by rw [BZ.1]; exact mP hk) (.cons BZ.2 .nil), IsTup.new _ _⟩)
  have Fb : upd H s.heap.objs.size (.tup [kV q.1, q.2]) it = none := by rw [ah (Nat.ne_of_lt FZ)]; exact f0
  have I2 : Inv X pins σ (upd H s.heap.objs.size (.tup [kV q.1, q.2])) { s with heap := h2 } := by
   refine Inv.turned (s := { s with heap := s.heap.push { cls := .type "tuple", data := .seq #[key, v] } }) (h' := h2) (t' := s.toks) (it := it) I1 (fun b u hb e => ?_) Fb f1 f3 f4 f5
   by_cases Gs : b = s.heap.objs.size
   . subst Gs
     have e0 : (s.heap.push { cls := .type "tuple", data := .seq #[key, v] }).get? s.heap.objs.size = some { cls := .type "tuple", data := .seq #[key, v] } := Heap.get?_push_size _ rfl
     have e1 := e0.symm.trans e
     cases e1
     exact (sb.2 _ hb).trans ht
   . exact (sb.2 _ hb).trans (kk b u hb (mG e Gs))
  refine ⟨.ref s.heap.objs.size, _, I2, rfl, ⟨_, q, hq, rfl, hn, rfl⟩, ⟨_, _, Mj⟩, fun b hb => ?_⟩
  have e : b = it := by simpa using hb
  rw [e]
  exact Fb
 done := by
  intro X hP hw hK hc i pins s σ H E I hf st hg
  subst hP hw hK
  obtain ⟨f0, f1, f2, f3, f4, f5⟩ := hf it (by simp)
  obtain ⟨hi, hd⟩ := hg
  obtain ⟨_, vs, kv, da⟩ := ll I.aF hd he
  have hl : vs.length = kvs.length := kv.length.symm
  obtain ⟨ok, ov, st⟩ := st
  refine wpAny_pyNext_items_end (knd := aJ X.prog X.w) (I.ok.hd hc) (by rw [hl]; exact st) da (by rw [hi, <- hl]; simp) fun h' hx => ⟨rfl, I.turned (t' := s.toks) (fun b u hb e => hx b u hb e) f0 f1 f3 f4 f5⟩
 self := fun A i s Q E st q => by
  obtain ⟨ok, ov, st⟩ := st
  have hT : s.TypeIs (.ref it) "dict_itemiterator" := ⟨_, st, rfl⟩
  refine wpAny_pyIter_slot hT F.slot_dict_itemiterator_iter (wpAny_call_entry F.slot_dict_itemiterator_iter hT iT ?_ (F.args_dict_itemiterator_iter_1 _))
  show wpAny _ _ (ret (.ref it)) _ _ s
  exact wpAny_pure ⟨_, rfl, "dict_itemiterator", _, hT, F.slot_dict_itemiterator_next.lookup, q⟩
def sH (tl : TE) : TI := fun σ H R => tl σ H fun v H1 => ∃ d kvs, v = .ref d /\ H1 d = some (.dK kvs) /\ ∀ o, R (Oh d o kvs) (upd H1 d (.dX o (.dK kvs)))
theorem qg {X : Cx} {elts : List Expr} {x1} {wK : Pos} {l : Expr} {tl : TE} {apos cM : Pos} (hl : PE X l tl)
 (mU : attributeBase l "items" X.env (eval l X.env) = eval l X.env := by rfl) (hline : (apos.endLine == cM.line) = true := by rfl) : PI X (.Tuple elts x1 wK) (.Call (.Attribute l "items" apos) [] [] cM) (sH tl) := by
 intro pins s σ H R I h
 refine wpAny_Call_method0_late mU hline (bR (hl pins s σ H _ I h) fun v s1 ⟨y, H1, I1, r1, q1⟩ => ?_)
 obtain ⟨d, kvs, rfl, hd, q⟩ := q1
 obtain ⟨h1, h2⟩ := sS I1 (T := "dict") r1 (.inr (.inr (.inl ⟨rfl, .inl ⟨kvs, hd⟩⟩)))
 cases r1
 refine ⟨"dict", "dict.items", PySem.F.plainAttrs_dict, PySem.F.slot_dict_items, PySem.F.type_dict_items, h1, h2, Calls.callWith_builtin rfl (PySem.evalArgs_none ?_)⟩
 obtain ⟨_, hs, vs, kv, o, es, ep, ho, a2, a3, a4⟩ := (show aO X.prog X.w H1 s1.heap d (.dK kvs) from I1.aF d _ hd)
 have da : s1.heap.DictAt (aJ X.prog X.w) d vs ep := ⟨o, es, ho, a2, a3, a4⟩
 have jZ : d < s1.heap.objs.size := Heap.lt_size ho
 have hlen : vs.length = kvs.length := kv.length.symm
 refine call_meetsIn PySem.F.slot_dict_items da.dictOf.typeIs PySem.F.entry_dict_items (PySem.F.args_dict_items_1 _) (meets_dict_items (aJ X.prog X.w) d hs) ⟨⟨vs, da.dictOf⟩, ?_⟩
 refine wpAny_pyIter_items (v := s1.heap.objs.size) ⟨_, Heap.get?_push_size _ rfl, rfl, rfl⟩ (da.push _) ?_
 have I2 := I1.freeze hd ho
 have hsz : (s1.heap.push { cls := .type "dict_items", data := .fields #[.ref d] }).objs.size = s1.heap.objs.size + 1 := Heap.size_push ..
 refine ⟨_, [_], _, _, _, rfl, I2.kept (t' := s1.toks) fun b u e => Heap.get?_push_of_some _ (Heap.get?_push_of_some _ e), rY a3 (Nat.ne_of_lt (by rw [hsz]; exact Nat.lt_succ_of_lt jZ)), ⟨_, _, by rw [<- hlen]; exact Heap.get?_push_size _ rfl⟩, fun b hb => ?_, q o⟩
 have e : b = (s1.heap.push { cls := .type "dict_items", data := .fields #[.ref d] }).objs.size := by simpa using hb
 subst e
 exact I2.p8 (by rw [hsz]; exact Nat.le_succ _) (I2.aF.fresh (by rw [hsz]; exact Nat.le_succ _))
section
variable {σ : St} {H : Hp} {D : Ends} {p : Addr} {m : List (Str × PyData)} {g : TG} {tb : TS}
theorem au.pk {H H' : Hp} {p : Addr} {o : Obj} {kvs : List (Key × V)} (e : H p = some (.dK kvs)) (m : au (upd H p (.dX o (.dK kvs))) H') : au H (upd H' p (.dK kvs)) := fun b u hb => by
 by_cases z : b = p
 . subst z; rw [e] at hb; cases hb; exact aj
 . rw [ah z]; exact m _ _ (by rw [ah z]; exact hb)
end
section
variable {σ : St} {H : Hp} {K : PySem.W.Frag}
end
end L2
namespace L2
open PySem
def O5 (xs : Array Nat) : Prop := ∀ i j, (hi : i < xs.size) -> (hj : j < xs.size) -> i < j -> xs[i] < xs[j]
structure Good (t : SetTable) : Prop where
 up : O5 t.place
 nd : t.dummies = #[]
section
variable {prog : Program} {w : World} {A : Around} {E : Value -> Shared -> Prop} {s : Shared}
end
section
variable {prog : Program} {w : World} {A : Around} {E : Value -> Shared -> Prop} {s : Shared}
end
set_option maxRecDepth 100000
section
variable {prog : Program} {w : World} {A : Around} {E : Value -> Shared -> Prop} {s : Shared} {it a : Addr} {o : Obj} {es : Array (Int × Value)} {ep : Nat} {t : SetTable}
end
section
variable {prog : Program} {w : World} {A : Around} {E : Value -> Shared -> Prop} {s : Shared} {it a : Addr} {o : Obj} {es : Array (Int × Value)} {ep : Nat} {t : SetTable}
end
section
variable {prog : Program} {w : World} {A : Around} {E : Value -> Shared -> Prop} {s : Shared} {it a : Addr} {o : Obj} {es : Array (Int × Value)} {ep : Nat} {t : SetTable}
end
end L2
namespace L2
open PySem PySem.Spec PyProof.Rows
section
variable {prog : Program} {w : World} {A : Around} {R : Result -> Shared -> Prop} {it y : Addr} {fp wr : List Addr} {G : Array GenState -> Array GenState -> Prop} {n : Nat} {Pv : Nat -> Value -> Prop} {St : Nat -> Shared -> Prop}
end
section
variable {prog : Program} {w : World} {A : Around} {E : Value -> Shared -> Prop} {s : Shared}
set_option maxRecDepth 100000 in
set_option maxHeartbeats 3200000 in
end
section
variable {prog : Program} {w : World} {A : Around} {E : Value -> Shared -> Prop} {s : Shared} {a : Addr} {S : Int -> Bool} {n : Nat}
end
end L2
namespace L2
open PySem PySem.Spec PyProof.Rows PySem.W
section
variable {X : Cx} {e : Expr} {te : TE} {p p2 pos Lq : Pos}
end
section
variable {σ : St} {H : Hp} {Q : VK} {v : V}
end
section
variable {X : Cx}
end
section
variable {σ : St} {H : Hp} {Q : VK} {K : PySem.W.Frag} {p : Addr} {m : List (Str × PyData)}
end
def Tr (h : Heap) (a T : Addr) (c : Value) : Prop := ∃ oe vs oT ts, h.get? a = some oe /\ oe.cls = c /\ oe.dict = none /\ oe.data = .fields vs /\ vs[1]? = some (.ref T) /\ T ≠ a /\ h.get? T = some oT /\ oT.data = .fields ts /\ ts[3]? = some .none /\ vs[2]? = some .none
structure Lv (l : List Env) (S : List Addr) (h h' : Heap) : Prop where
 keep : ∀ b o, b ∉ my l -> b ∉ S -> h.get? b = some o -> h'.get? b = some o
 slot : ∀ b o, b ∈ my l -> h.get? b = some o -> ∃ sl, h'.get? b = some { o with slots := sl }
section
variable {M : Model} {A : Around} {E : Value -> Shared -> Prop} {s : Shared} {env : Env} {outer : List Env} {L a T : Addr} {c : Value} {base : Heap} {Q : Unit -> Shared -> Prop}
end
theorem aO.live {P : Program} {w : World} {H : Hp} {h : Heap} {a : Addr} {o : HO} (x : aO P w H h a o) : ∃ ob, h.get? a = some ob := by
 induction o with
 | lst xs => obtain ⟨_, _, _, _, e⟩ := x; exact ⟨_, e⟩
 | tup xs => obtain ⟨_, _, _, ob, e, _⟩ := x; exact ⟨_, e⟩
 | dK kvs => obtain ⟨_, _, _, _, o, _, _, e, _⟩ := x; exact ⟨_, e⟩
 | dT kvs => obtain ⟨_, _, _, _, o, _, _, e, _⟩ := x; exact ⟨_, e⟩
 | set S n => obtain ⟨o, _, _, _, e, _⟩ := x; exact ⟨_, e⟩
 | ins C dx fs => obtain ⟨_, _, _, e, _⟩ := x; exact ⟨_, e⟩
 | own y => exact x
 | xd fs => obtain ⟨_, ⟨_, _, _, e, _⟩, _⟩ := x; exact ⟨_, e⟩
 | JI lo hi => obtain ⟨_, _, _, e⟩ := x; exact ⟨_, e⟩
 | dX ob u _ => exact ⟨_, x.1⟩
 | ia ps => exact ⟨_, x⟩
 | met f y => exact ⟨_, x⟩
 | ext φ => exact x.2.1
theorem fW.dead {P : Program} {w : World} {H : Hp} {h : Heap} {a : Addr} (ok : fW P w H h) (n : h.get? a = none) : H a = none := by
 cases e : H a with
 | none => rfl
 | some u =>
   obtain ⟨o, z⟩ := (ok a u e).live
   rw [n] at z
   cases z
def P1 (P : Program) (w : World) : pB := fun outer H s E e s' => ∃ a T C H', e = .ref a /\ s'.os = s.os /\ AllBare s'.gens /\ Un (my outer) [] H H' s.heap s'.heap /\ fW P w H' s'.heap /\ Tr s'.heap a T (.ref C) /\ s.heap.get? a = none /\ s.heap.get? T = none /\ H' a = none /\ H' T = none /\ E (.ref C) none H'
section
variable {P : Program} {w : World} {K : PySem.W.Frag} {mg : Str -> Option Value} {base : Heap} {N : List Str} {qual : Str} {scope : Scope} {f : Addr} {cd : Value} {A : Around} {outer : List Env} {s0 : Shared} {H0 : Hp} {E : XK} {CX : pB} {pins : List (Addr × Obj)} {σ : St} {H : Hp} {s : Shared}
end
section
variable {K : PySem.W.Frag} {h : Heap} {C : Addr} {y8 : List Value} {newId : String}
def Ff (h : Heap) (C : Addr) (y8 : List Value) (newId : String) : Prop := ∃ (bm : List Value) (N : Addr) (nm q : Str) (bs : List Value) (hd : Bool) (sn : List Str) (sub : List Value) (ab : Bool) (col : Option Bool) (dd : Option Addr) (k0 k1 k2 k3 k5 : Option Value) (mN : Str -> Option Value),
 h.get? C = some (excClassObj nm q C N bs bm hd sn sub ab col dd k0 k1 k2 k3 k5 newId) /\ h.Ns N mN /\ mN "__init__" = none /\ OwnTail h y8 bm
theorem xO (X : K.In h) (q : excIn K C y8 newId = true) : Ff h C y8 newId := by
 unfold excIn at q
 split at q
 . rename_i dd cd sl ho
   split at q
   . rename_i C' bm k0 k1 k2 k3 n k5 hm hs
     simp only [Bool.and_eq_true, beq_iff_eq, Bool.not_eq_true'] at q
     obtain ⟨⟨⟨⟨⟨rfl, rfl⟩, Hi⟩, ht⟩, aF⟩, Fb⟩ := q
     obtain ⟨nm, bs, mro, ns, qn, hd, sn, sub, ab, col, del⟩ := cd
     dsimp only at hm Hi aF Fb
     subst hm Hi
     obtain ⟨l⟩ := sl
     dsimp only at hs
     subst hs
     exact ⟨bm, ns, nm, qn, bs, hd, sn, sub, ab, col, dd, k0, k1, k2, k3, k5, _, X _ _ ho, .of_isNs (isNs_of_in X aF), nsMap_none_of_in X aF Fb, tail_of_in X ht⟩
   . cases q
 . cases q
end
abbrev vT : List Value := [.type "ValueError", .type "Exception", .type "BaseException", .type "object"]
def DC (K : PySem.W.Frag) (C : Addr) : Prop := excIn K C vT "ValueError.__new__" = true
section
variable {X : Cx} {pins : List (Addr × Obj)} {σ : St} {H : Hp} {s : Shared}
theorem Inv.lv {S : List Addr} {h' : Heap} {t' : Nat} (I : Inv X pins σ H s) (lv : Lv X.stack S s.heap h') (hS : ∀ b ∈ S, H b = none /\ X.cf.heap.get? b = none /\ b ≠ X.env.locals /\ (∀ x c, X.env.cells.lookup x = some c -> c ≠ b) /\ ∀ p ∈ X.pn ++ pins, p.1 ≠ b) : Inv X pins σ H { s with heap := h', toks := t' } := by
 have old : ∀ b o, X.cf.heap.get? b = some o -> b ∉ S /\ b ≠ X.env.locals := fun b o e => ⟨fun z => (by rw [(hS b z).2.1] at e; cases e), Nat.ne_of_lt (Nat.lt_of_lt_of_le (Heap.lt_size e) I.ok.above)⟩
 have one : ∀ b o, b ∉ S -> s.heap.get? b = some o -> ∃ sl, h'.get? b = some { o with slots := sl } := fun b o n e => by
  by_cases m : b ∈ my X.stack
  . exact lv.slot b o m e
  . exact ⟨o.slots, lv.keep b o m n e⟩
 have nL : X.env.locals ∉ S := fun z => (hS _ z).2.2.1 rfl
 have cellK : ∀ x c, X.env.cells.lookup x = some c -> ∀ v, s.heap.IsCell c v -> h'.IsCell c v := fun x c e v ⟨o, ho, hd⟩ => by
  obtain ⟨sl, q⟩ := one c o (fun z => (hS c z).2.2.2.1 x c e rfl) ho
  exact ⟨_, q, hd⟩
 have ND : ∀ b, b ∉ X.fs -> b ≠ X.env.locals -> b ∉ my X.stack := fun b n1 n2 m => by
  rcases List.mem_cons.mp (I.oO b m) with z | z
  . exact n2 z
  . exact n1 z
 refine ⟨I.ok, I.os, I.bare, ⟨fun b o e n hb hx => ?_, fun b o e n hb hx => ?_, fun b o e n hx => I.base.free b o e n hx, fun b o e hx => ?_, I.base.gb, I.base.fJ, I.base.ib⟩, ?_, fun x c e => ?_, I.free, I.cE, fun p hp => ?_, fun b u e => ?_, I.len⟩
 . exact lv.keep b o (ND b hb (old b o e).2) (old b o e).1 (I.base.keep b o e n hb hx)
 . obtain ⟨sl, z⟩ := I.base.slot b o e n hb hx
   obtain ⟨IP, z2⟩ := one b _ (old b o e).1 z
   exact ⟨IP, z2⟩
 . obtain ⟨o2, z⟩ := I.base.there b o e hx
   obtain ⟨IP, z2⟩ := one b _ (old b o e).1 z
   exact ⟨_, z2⟩
 . obtain ⟨m, ⟨o, es, ep, ho, r⟩, hl⟩ := I.loc
   obtain ⟨sl, z⟩ := one _ o nL ho
   refine ⟨m, ⟨_, es, ep, z, r⟩, fun i x v e1 e2 e3 => ?_⟩
   obtain ⟨u, ru, l⟩ := hl i x v e1 e2 e3
   refine ⟨u, ru, ?_⟩
   rcases l with l | ⟨k, c, e, z⟩
   . exact .inl l
   . exact .inr ⟨k, c, e, cellK x c e _ z⟩
 . obtain ⟨v, z⟩ := I.cell x c e
   exact ⟨v, cellK x c e v z⟩
 . obtain ⟨e, n, ne, nf, d⟩ := I.pin p hp
   exact ⟨lv.keep p.1 p.2 (ND p.1 nf ne) (fun z => (hS p.1 z).2.2.2.2 p hp rfl) e, n, ne, nf, d⟩
 . refine (I.aF b u e).iA (fun c v hc q => ?_) (fun _ q => q) fun _ _ q => q
   have kK : H c ≠ none := by
    rcases hc with rfl | hc
    . rw [e]; intro z; cases z
    . rw [hc]; intro z; cases z
   exact lv.keep c v (fun m => kK (I.lC c m)) (fun m => kK (hS c m).1) q
theorem Inv.xG {a : Addr} {φ : Heap -> Prop} (I : Inv X pins σ H s) (ha : H a = none) (hs : X.cf.heap.get? a = none) (hL : a ≠ X.env.locals) (hc : ∀ x c, X.env.cells.lookup x = some c -> c ≠ a) (hp : ∀ p ∈ X.pn ++ pins, p.1 ≠ a)
 (new : φ s.heap /\ (∃ o, s.heap.get? a = some o) /\ ∀ h1 h2 : Heap, φ h1 -> (∀ o, h1.get? a = some o -> h2.get? a = some o) -> φ h2) : Inv X pins σ (upd H a (.ext φ)) s := by
 have kp : ∀ b u, H b = some u -> upd H a (.ext φ) b = some u := fun b u e => by rw [ah (fun z => by rw [z, ha] at e; cases e)]; exact e
 have fr : ∀ b, b ≠ a -> H b = none -> upd H a (.ext φ) b = none := fun b n e => by rw [ah n]; exact e
 refine ⟨I.ok, I.os, I.bare, ⟨I.base.keep, I.base.slot, fun b o e n hx => fr b (fun z => by rw [z, hs] at e; cases e) (I.base.free b o e n hx), I.base.there, fun b xs e => kp _ _ (I.base.gb b xs e), fun b o u e => kp _ _ (I.base.fJ b o u e), fun b ps e => ?_⟩, I.loc, I.cell, fr _ (Ne.symm hL) I.free, fun x c e => fr _ (hc x c e) (I.cE x c e), fun p zc => ?_, fun b u e => ?_, I.len⟩
 . obtain ⟨m, z⟩ := I.base.ib b ps e
   exact ⟨m, kp _ _ z⟩
 . obtain ⟨e1, e2, e3⟩ := I.pin p zc
   exact ⟨e1, fr _ (hp p zc) e2, e3⟩
 . by_cases z : b = a
   . subst z
     rw [aj] at e
     cases e
     exact new
   . rw [ah z] at e
     exact (I.aF b u e).iA (fun _ _ _ q => q) (fun c q => kp _ _ q) fun c xs q => kp _ _ q
abbrev Cx.A8 (X : Cx) (f : Value -> Shared -> Prop) (pn : List (Addr × Obj)) : Cx := { X with xe := f, pn := pn }
abbrev Cx.hand (X : Cx) (a : Addr) : Cx := { X with A := X.A.mark (some (.ref a)), calm := false, xe := fun _ _ => False }
theorem Inv.Gm {f : Value -> Shared -> Prop} (I : Inv X pins σ H s) : Inv (X.A8 f (X.pn ++ pins)) [] σ H s :=
 ⟨⟨I.ok.mod, I.ok.kind, I.ok.glob, I.ok.blt, I.ok.above, I.ok.inj, I.ok.has, I.ok.za, I.ok.hd, I.ok.frames, I.ok.Ba, I.ok.Br, I.ok.bs, I.ok.pA, I.ok.mY, I.ok.nq, I.ok.fX, I.ok.sf⟩, I.os, I.bare, I.base, I.loc, I.cell, I.free, I.cE, fun p hp => I.pin p (by simpa using hp), I.aF, I.len⟩
theorem Inv.nG {f : Value -> Shared -> Prop} {qG : List (Addr × Obj)} (I : Inv (X.A8 f (X.pn ++ pins)) qG σ H s) : Inv X pins σ H s :=
 ⟨⟨I.ok.mod, I.ok.kind, I.ok.glob, I.ok.blt, I.ok.above, I.ok.inj, I.ok.has, I.ok.za, I.ok.hd, I.ok.frames, I.ok.Ba, I.ok.Br, I.ok.bs, I.ok.pA, I.ok.mY, I.ok.nq, I.ok.fX, I.ok.sf⟩, I.os, I.bare, I.base, I.loc, I.cell, I.free, I.cE, fun p hp => I.pin p (List.mem_append_left _ hp), I.aF, I.len⟩
theorem Inv.tj {a : Addr} (I : Inv X pins σ H s) : Inv (X.hand a) pins σ H s :=
 ⟨⟨I.ok.mod, I.ok.kind, I.ok.glob, I.ok.blt, I.ok.above, I.ok.inj, I.ok.has, I.ok.za, (fun z => nomatch z), I.ok.frames, I.ok.Ba, I.ok.Br, I.ok.bs, I.ok.pA, I.ok.mY, I.ok.nq, I.ok.fX, I.ok.sf⟩, I.os, I.bare, I.base, I.loc, I.cell, I.free, I.cE, I.pin, I.aF, I.len⟩
theorem Inv.mS {a : Addr} (I : Inv (X.hand a) pins σ H s) (ok : X.Ok) : Inv X pins σ H s :=
 ⟨ok, I.os, I.bare, I.base, I.loc, I.cell, I.free, I.cE, I.pin, I.aF, I.len⟩
end
section
variable {M : Model} {A : Around} {E : Value -> Shared -> Prop}
end
structure Oc (K : PySem.W.Frag) (C : Addr) : Prop where
 ga : PySem.W.findIn K (.ref C) "__getattribute__" = some (some (.builtin "BaseException.__getattribute__"))
 gn : PySem.W.findIn K (.ref C) "__getattr__" = some none
 mb : PySem.W.mroIn K C (.type "BaseException") = some true
 hd : PySem.W.hasDictIn K C = true
 ty : HH K C
section
variable {X : Cx}
end
section
variable {P : Program} {w : World} {K : PySem.W.Frag} {mg : Str -> Option Value} {base : Heap}
structure QH (P : Program) (w : World) (K : PySem.W.Frag) (mg : Str -> Option Value) (base : Heap) (k : Nat) (f : Addr) (ps : List Str) (bA : List V) (sp : Sp) : Prop where
 ex : ∃ (fd : FuncData) (ds : List Value), bH P w K mg base (P1 P w) k f fd ps sp /\ Binds K fd ps ds /\ Vals bA ds
end
section
variable {X : Cx} {k : Nat} {f : Addr} {ps : List Str} {sp : Sp} {bA : List V} {E : XK} {x : Str} {p pos : Pos} {e : Expr} {es : List Expr} {t : TA}
end
section
variable {σ : St} {H : Hp} {Q : VK} {D : Ends} {K : PySem.W.Frag} {E : XK} {C : Addr} {ta : TA}
end
section
variable {X : Cx}
end
section
variable {σ : St} {H : Hp} {Q : VK} {D : Ends} {K : PySem.W.Frag}
end
section
variable {X : Cx} {k : Nat} {f C : Addr} {ps : List Str} {sp : Sp} {bA : List V} {E : XK} {x m : Str} {p pos apos : Pos} {e : Expr} {es : List Expr} {t : TA}
end
section
variable {prog : Program} {w : World} {A : Around} {E : Value -> Shared -> Prop} {s : Shared}
end
section
variable {σ : St} {H : Hp} {Q : VK} {D : Ends}
end
section
variable {X : Cx} {pins : List (Addr × Obj)} {σ : St} {H : Hp} {s : Shared} {h' : Heap}
theorem Inv.AJ {t' : Nat} {i1 i2 : Addr} (I : Inv X pins σ H s) (k : ∀ b o, b ≠ i1 -> b ≠ i2 -> s.heap.get? b = some o -> h'.get? b = some o) (f1 : dU X pins H i1) (f2 : dU X pins H i2) : Inv X pins σ H { s with heap := h', toks := t' } := by
 have DN : ∀ b u, H b = some u -> b ≠ i1 /\ b ≠ i2 := fun b u e => ⟨fun z => (by rw [z, f1.1] at e; cases e), fun z => (by rw [z, f2.1] at e; cases e)⟩
 have nc : ∀ {b : Addr}, b ∉ [i1, i2] -> b ≠ i1 /\ b ≠ i2 := fun {b} h => by simpa using h
 refine I.step (g' := s.gens) (d' := s.drawn) (ch := [i1, i2]) (fun b hb => ?_) (fun b o _ _ hc e _ => k b o (nc hc).1 (nc hc).2 e) (fun b o _ _ hc e _ => ⟨o.slots, k b o (nc hc).1 (nc hc).2 e⟩) (fun _ _ _ _ n => n)
  (fun b o hc e => ⟨o, k b o (nc hc).1 (nc hc).2 e⟩) (fun _ _ e => e) (fun _ _ _ e => e) (fun b ps e => ⟨#[], by rw [e]; simp⟩) (fun m hm => ?_) (fun b u e => ?_) I.bare
 . have e : b = i1 \/ b = i2 := by simpa using hb
   rcases e with rfl | rfl
   . exact ⟨f1.2.2.2.1, f1.2.1, f1.2.2.2.2.1, f1.2.2.2.2.2⟩
   . exact ⟨f2.2.2.2.1, f2.2.1, f2.2.2.2.2.1, f2.2.2.2.2.2⟩
 . obtain ⟨o, es, ep, ho, r⟩ := hm
   exact ⟨o, es, ep, k _ o (Ne.symm f1.2.1) (Ne.symm f2.2.1) ho, r⟩
 . refine (I.aF b u e).iA (fun c v hc q => k c v ?_ ?_ q) (fun _ q => q) fun _ _ q => q
   . rcases hc with z | z
     . rw [z]; exact (DN b u e).1
     . exact (DN c _ z).1
   . rcases hc with z | z
     . rw [z]; exact (DN b u e).2
     . exact (DN c _ z).2
end
theorem gQ : entryFor table "enumerate.__iter__" = some Builtin.«dict_keyiterator.__iter__» :=
 entryFor_alias (id' := "dict_keyiterator.__iter__") (by kernel_rfl) rfl (by decide +kernel) (by kernel_rfl)
def Hw (K : PySem.W.Frag) (a : Addr) : It := ⟨fun i H => ∃ xs x, dY K H a xs /\ xs[i]? = some x, fun i H v H' => ∃ t x, (∀ xs, dY K H a xs -> xs[i]? = some x) /\ v = .ref t /\ H t = none /\ H' = upd H t (.tup [.int i, x]), fun i H => ∃ xs, dY K H a xs /\ xs.length <= i⟩
theorem vz {P : Program} {w : World} {K : PySem.W.Frag} {elts : List Expr} {x1} {pos : Pos} {e it a : Addr} (tq : e ≠ it) :
 Turn P w K (.Tuple elts x1 pos) (Hw K a) [e, it] e (fun i h => (∃ old, IsEnum h e it (i : Nat) old) /\ h.IsListIter it a i) where
 mem := by simp
 obj := fun i h st b hb => by
  have e' : b = e \/ b = it := by simpa using hb
  obtain ⟨⟨old, q⟩, o, e1, c, d⟩ := st
  rcases e' with rfl | rfl
  . exact ⟨_, q, fun v z => by cases z⟩
  . exact ⟨o, e1, fun v z => by rw [d] at z; cases z⟩
 keep := fun i h h' st k => ⟨let ⟨old, q⟩ := st.1; ⟨old, k e (by simp) _ q⟩, st.2.at fun o q => k it (by simp) o q⟩
 item := by
  intro X hP hw hK hc i pins s σ H E I hf st hg
  subst hP hw hK
  have fe := hf e (by simp)
  have fi := hf it (by simp)
  obtain ⟨xs, x, hq, hx⟩ := hg
  obtain ⟨aY, rv, p, hz⟩ := I.list hq
  obtain ⟨u, hu, ru⟩ := rv.get hx
  obtain ⟨⟨old, he⟩, hit⟩ := st
  have QW : e < s.heap.objs.size := Heap.lt_size he
  have FZ : it < s.heap.objs.size := by obtain ⟨o, ho, _⟩ := id hit; exact Heap.lt_size ho
  have hn : H s.heap.objs.size = none := I.aF.fresh (Nat.le_refl _)
  refine wpAny_pyNext_enum_item he hit p.isList (x := u) (by simpa using hu) tq fun h' Cy LA ht R8 kk => ?_
  refine ⟨_, rfl, wpAny_letOwnedTupleGo_enum (s := { s with heap := h', toks := s.toks + 1 }) Cy fun h2 Pb sb => ?_⟩
  replace sb : Heap.SameBut e h' h2 := sb
  let tb : Obj := { cls := .type "tuple", data := .seq #[.int i s.toks, u] }
  have I1 : Inv X pins σ (upd H s.heap.objs.size (.tup [.int i, x])) { s with heap := s.heap.push tb } :=
   I.laid (t' := s.toks) (fun b u e => Heap.get?_push_of_some _ e) (Nat.le_refl _) (show aO X.prog X.w _ _ _ (.tup [.int i, x]) from ⟨by rw [sizeLine_eq]; simp, [.int i s.toks, u], .cons ⟨_, rfl⟩ (.cons ru .nil), IsTup.new _ _⟩)
  have Ia : upd H s.heap.objs.size (.tup [.int i, x]) e = none := by rw [ah (Nat.ne_of_lt QW)]; exact fe.1
  have Ge : upd H s.heap.objs.size (.tup [.int i, x]) it = none := by rw [ah (Nat.ne_of_lt FZ)]; exact fi.1
  have I2 : Inv X pins σ (upd H s.heap.objs.size (.tup [.int i, x])) { s with heap := h2, toks := s.toks + 1 } := by
   refine Inv.AJ (s := { s with heap := s.heap.push tb }) (h' := h2) (t' := s.toks + 1) (i1 := e) (i2 := it) I1 (fun b u' y1 mX q => ?_) ⟨Ia, fe.2⟩ ⟨Ge, fi.2⟩
   by_cases Gs : b = s.heap.objs.size
   . subst Gs
     have e0 : (s.heap.push tb).get? s.heap.objs.size = some tb := Heap.get?_push_size _ rfl
     have e1 := e0.symm.trans q
     cases e1
     exact (sb.2 _ y1).trans ht
   . exact (sb.2 _ y1).trans (kk b u' y1 mX (mG q Gs))
  refine ⟨.ref s.heap.objs.size, _, I2, rfl, ⟨_, x, fun ys hy => by rw [I.pL hy hq]; exact hx, rfl, hn, rfl⟩, ⟨⟨_, Pb⟩, LA.at fun o q => (sb.2 it (Ne.symm tq)).trans q⟩, fun b hb => ?_⟩
  have e' : b = e \/ b = it := by simpa using hb
  rcases e' with rfl | rfl
  . exact Ia
  . exact Ge
 done := by
  intro X hP hw hK hc i pins s σ H E I hf st hg
  subst hP hw hK
  obtain ⟨f0, f1, f2, f3, f4, f5⟩ := hf it (by simp)
  obtain ⟨xs, hq, hx⟩ := hg
  obtain ⟨aY, rv, p, hz⟩ := I.list hq
  have hl := rv.length
  obtain ⟨⟨old, he⟩, hit⟩ := st
  exact wpAny_pyNext_enum_end (I.ok.hd hc) he hit p.isList (by simp; omega) fun h' eb => ⟨rfl, I.turned (t' := s.toks) (fun b o hb e => eb b o hb e) f0 f1 f3 f4 f5⟩
 self := fun A i s Q E st q => by
  obtain ⟨⟨old, he⟩, hit⟩ := st
  have hT : s.TypeIs (.ref e) "enumerate" := ⟨_, he, rfl⟩
  refine wpAny_pyIter_slot hT F.slot_enumerate_iter (wpAny_call_entry F.slot_enumerate_iter hT gQ ?_ (F.args_enumerate_iter_1 _))
  show wpAny _ _ (ret (.ref e)) _ _ s
  exact wpAny_pure ⟨_, rfl, "enumerate", _, hT, F.slot_enumerate_next.lookup, q⟩
def Cq (K : PySem.W.Frag) (ta : TA) : TI := fun σ H R => ta σ H fun vs H1 => ∃ a, vs = [.ref a] /\ (∃ xs, dY K H1 a xs) /\ R (Hw K a) H1
theorem zm {X : Cx} {elts : List Expr} {x1} {wK : Pos} {a : Expr} {ta : TA} {p pos : Pos} (hg : Gl X "enumerate") (hm : X.mg "enumerate" = none) (ha : PA X [a] ta) (hs : starEach [a] X.env = [(false, eval a X.env)] := by rfl) :
 PI X (.Tuple elts x1 wK) (.Call (.Name "enumerate" p) [a] [] pos) (Cq X.K ta) := by
 intro pins s σ H R I h
 refine Call_ (lU I hg hm boot_enumerate (PyProof.Rows.callWith_type1 (bR (ha pos pins s σ H _ I h) fun us s1 ⟨vs, H1, I1, r1, q1⟩ => ?_) hs rfl))
 obtain ⟨l, e, ⟨xs, hq⟩, q⟩ := q1
 subst e
 cases r1 with
 | cons r rr =>
   cases rr
   cases r
   obtain ⟨aY, rv, p, hz⟩ := I1.list hq
   refine call_enumerate_list p.isList fun h' he hit hsz hk => ?_
   have hT : (⟨h', s1.gens, s1.drawn, s1.toks, s1.os⟩ : Shared).TypeIs (.ref (s1.heap.objs.size + 1)) "enumerate" := ⟨_, he, rfl⟩
   refine wpAny_pyIter_slot hT F.slot_enumerate_iter (wpAny_call_entry F.slot_enumerate_iter hT gQ ?_ (F.args_enumerate_iter_1 _))
   show wpAny _ _ (ret (.ref (s1.heap.objs.size + 1))) _ _ _
   refine wpAny_pure ⟨_, rfl, "enumerate", _, hT, F.slot_enumerate_next.lookup, ?_⟩
   refine ⟨s1.heap.objs.size + 1, [s1.heap.objs.size + 1, s1.heap.objs.size], _, _, H1, rfl, I1.kept (t' := s1.toks) hk, vz (a := l) (Nat.succ_ne_self _), ⟨⟨_, he⟩, hit⟩, fun b hb => ?_, q⟩
   have e : b = s1.heap.objs.size + 1 \/ b = s1.heap.objs.size := by simpa using hb
   rcases e with rfl | rfl
   . exact I1.p8 (Nat.le_succ _) (I1.aF.fresh (Nat.le_succ _))
   . exact I1.p8 (Nat.le_refl _) (I1.aF.fresh (Nat.le_refl _))
section
variable {X : Cx}
end
section
variable {σ : St} {H : Hp} {Q : VK}
end
section
variable {σ : St} {H : Hp} {Q : VK} {K : PySem.W.Frag} {v : V}
end
end L2
namespace L2
open PySem
section
variable {H : Hp} {Q : VK} {K : PySem.W.Frag}
end
end L2
namespace L2
open PySem PySem.Spec PyProof.Rows PySem.W
section
variable {X : Cx}
end
section
variable {σ : St} {H : Hp} {Q : VK}
end
section
variable {X : Cx} {pins : List (Addr × Obj)} {σ : St} {H : Hp} {s : Shared}
end
section
variable {σ : St} {H : Hp} {Q : VK}
end
section
variable {σ : St} {H : Hp} {Q : VK} {K : PySem.W.Frag} {p : Addr} {m : List (Str × PyData)} {k : Str}
end
def tH (h : Heap) (a T : Addr) (c : Value) (od : Option Addr) : Prop := ∃ oe vs oT ts, h.get? a = some oe /\ oe.cls = c /\ oe.dict = od /\ oe.data = .fields vs /\ vs[1]? = some (.ref T) /\ T ≠ a /\ h.get? T = some oT /\ oT.data = .fields ts /\ ts[3]? = some .none /\ vs[2]? = some .none
section
variable {M : Model} {A : Around} {E : Value -> Shared -> Prop} {s : Shared} {env : Env} {outer : List Env} {L a T : Addr} {c : Value} {od : Option Addr} {base : Heap} {Q : Unit -> Shared -> Prop}
theorem nJ {oe : Obj} {vs : Array Value} {head : Value} {Rh : Bool} (kD : A.frames = some (env :: outer)) (hl : s.heap.FunFrames base (env :: outer)) (hf : env.frame = some L) (he : s.heap.get? a = some oe) (Mm : oe.dict = od) (hd : oe.data = .fields vs) (hsz : 1 < vs.size) (Kv : vs[2]? = some .none)
 (h : ∀ h' T', tH h' a T' oe.cls od -> s.heap.get? T' = none -> Lv (env :: outer) [a] s.heap h' -> Q () { s with heap := h' }) :
 wpAny M A (do let x <- frameOf env; let pl <- entryPlaceOf L Rh; let b <- EntryCells.newEntry head x .none (rawInt L) .none pl; setField (.ref a) 1 b) (fun _ s' => wpAny M A (setFlight (.ref a) none) Q E s') E s := by
 have Cd : a ∉ my (env :: outer) := fun m => by
  obtain ⟨_, o, ho, hn⟩ := hl.mem m
  rw [he] at ho
  cases ho
  exact hn vs hd
 refine wpAny_bind (wpAny_frameOf_fun kD hl hf fun h1 s1 => ?_)
 refine wpAny_bind (wpAny_entryPlaceOf fun pl kl => ?_)
 unfold EntryCells.newEntry newFields
 refine wpAny_bind (wpAny_newObj_type ?_ (kl.sizeOk5 _ _ _ _ _))
 have e1 : h1.get? a = some oe := (s1.2.1 a Cd).trans he
 let tb : Obj := { cls := .type "traceback", dict := none, data := .fields ([head, .ref L, .none, rawInt L, .none] ++ (if pl.isEmpty then List.replicate 6 Value.none else pl)).toArray }
 have e2 : (h1.push tb).get? a = some oe := Heap.get?_push_of_some _ e1
 refine wpAny_setField e2 hd hsz ?_
 have Kl : h1.objs.size ≠ a := Ne.symm (Nat.ne_of_lt (Heap.lt_size e1))
 have d3 := Obj.data_mapFields hd (·.setIfInBounds 1 (Value.ref h1.objs.size))
 have e3 := Heap.get?_update_self (Obj.mapFields (·.setIfInBounds 1 (Value.ref h1.objs.size))) e2 (Obj.isFreed_of_fields d3)
 have t3 : ((h1.push tb).update a (Obj.mapFields (·.setIfInBounds 1 (Value.ref h1.objs.size)))).get? h1.objs.size = some tb := (Heap.get?_update_other _ _ (Ne.symm Kl)).trans (Heap.get?_push_size h1 rfl)
 unfold setFlight
 refine wpAny_bind (wpAny_field e3 d3 (x := .ref h1.objs.size) (by simp [hsz]) ?_)
 rw [if_pos (show (Value.ref h1.objs.size != Value.none) = true from by simp)]
 refine wpAny_setField t3 rfl (by simp only [List.size_toArray, List.length_append, List.length_cons, List.length_nil] <;> omega) (h _ h1.objs.size ?_ ?_ ?_)
 . refine ⟨_, _, _, _, (Heap.get?_update_other _ _ Kl).trans e3, Obj.cls_mapFields _ _, ?_, d3, by simp [hsz], Kl, Heap.get?_update_self _ t3 (Obj.isFreed_of_fields (Obj.data_mapFields rfl _)), Obj.data_mapFields rfl _, by first | (simp; done) | (rcases kl with rfl | ⟨_, _, _, _, _, _, _, rfl⟩ <;> simp), by rw [Array.getElem?_setIfInBounds_ne (by decide)]; exact Kv⟩
   obtain ⟨c0, d0, MT, O6⟩ := oe
   cases MT <;> first | exact Mm | (cases hd)
 . cases q : s.heap.get? h1.objs.size with
   | none => rfl
   | some o =>
     obtain ⟨sl, z⟩ := s1.2.2 _ o q
     exact absurd (Heap.lt_size z) (Nat.lt_irrefl _)
 . have kp : ∀ b o, b ≠ a -> h1.get? b = some o -> (((h1.push tb).update a (Obj.mapFields (·.setIfInBounds 1 (Value.ref h1.objs.size)))).update h1.objs.size (Obj.mapFields (·.setIfInBounds 3 ((none : Option Addr).elim Value.none fun f => rawInt f)))).get? b = some o := fun b o hb q => by
    rw [Heap.get?_update_other _ _ (Ne.symm (Nat.ne_of_lt (Heap.lt_size q))), Heap.get?_update_other _ _ (Ne.symm hb)]
    exact Heap.get?_push_of_some _ q
   refine ⟨fun b o n1 n2 q => kp b o (by simpa using n2) ((s1.2.1 b n1).trans q), fun b o m q => ?_⟩
   obtain ⟨sl, z⟩ := s1.2.2 b o q
   exact ⟨sl, kp b _ (fun z => Cd (z ▸ m)) z⟩
theorem p6 {oe : Obj} {vs : Array Value} (kD : A.frames = some (env :: outer)) (hl : s.heap.FunFrames base (env :: outer)) (hf : env.frame = some L) (he : s.heap.get? a = some oe) (Mm : oe.dict = od) (hd : oe.data = .fields vs) (h1 : vs[1]? = some .none) (Kv : vs[2]? = some .none)
 (h : ∀ h' T', tH h' a T' oe.cls od -> s.heap.get? T' = none -> Lv (env :: outer) [a] s.heap h' -> Q () { s with heap := h' }) : wpAny M A (noteFrame (.ref a) env) (fun _ s' => wpAny M A (setFlight (.ref a) none) Q E s') E s := by
 unfold noteFrame
 simp only [hf]
 refine wpAny_bind (wpAny_field he hd h1 ?_)
 rw [if_neg (by decide)]
 exact nJ kD hl hf he Mm hd (Array.getElem?_eq_some_iff.mp h1).1 Kv h
theorem mB (kD : A.frames = some (env :: outer)) (hl : s.heap.FunFrames base (env :: outer)) (hf : env.frame = some L) (ht : tH s.heap a T c od)
 (h : ∀ h' T', tH h' a T' c od -> (T' = T \/ s.heap.get? T' = none) -> Lv (env :: outer) [a, T] s.heap h' -> Q () { s with heap := h' }) : wpAny M A (noteFrame (.ref a) env) (fun _ s' => wpAny M A (setFlight (.ref a) none) Q E s') E s := by
 obtain ⟨oe, vs, oT, ts, e1, rfl, e3, e4, e5, e6, e7, e8, e9, LK⟩ := ht
 unfold noteFrame
 simp only [hf]
 refine wpAny_bind (wpAny_field e1 e4 e5 ?_)
 rw [if_pos (show (Value.ref T != Value.none) = true from by simp)]
 refine wpAny_bind (wpAny_field e7 e8 e9 ?_)
 rw [if_neg (show ¬ ((Value.none == rawInt L) = true) from by simp [rawInt])]
 refine wpAny_bind (wpAny_setField e7 e8 (Array.getElem?_eq_some_iff.mp e9).1 ?_)
 have Ja : ∀ b, b ≠ T -> (s.heap.update T (Obj.mapFields (·.setIfInBounds 3 Value.none))).get? b = s.heap.get? b := fun b hb => Heap.get?_update_other _ _ (Ne.symm hb)
 have nT : ∀ b o, s.heap.get? b = some o -> (∀ vs, o.data ≠ .fields vs) -> b ≠ T := fun b o hb hn z => by
  rw [z, e7] at hb
  cases hb
  exact hn ts e8
 refine nJ (s := { s with heap := s.heap.update T (Obj.mapFields (·.setIfInBounds 3 Value.none)) }) kD (hl.of_keeps fun b o hb hn => ⟨o, (Ja b (nT b o hb hn)).trans hb, rfl⟩) hf ((Ja a (Ne.symm e6)).trans e1) e3 e4 (Array.getElem?_eq_some_iff.mp e5).1 LK fun h' T' t1 t2 lv => h h' T' t1 ?_ ⟨fun b o n1 n2 q => ?_, fun b o m q => ?_⟩
 . by_cases z : T' = T
   . exact .inl z
   . exact .inr ((Ja T' z).symm.trans t2)
 . have : b ≠ a /\ b ≠ T := by simpa using n2
   exact lv.keep b o n1 (by simpa using this.1) ((Ja b this.2).trans q)
 . obtain ⟨_, o', q', hn⟩ := hl.mem m
   rw [q] at q'
   cases q'
   exact lv.slot b o m ((Ja b (nT b o q hn)).trans q)
theorem iY (ht : tH s.heap a T c od) (h : ∀ h', tH h' a T c od -> (∀ b o, b ≠ T -> s.heap.get? b = some o -> h'.get? b = some o) -> Q () { s with heap := h' }) : wpAny M A (setFlight (.ref a) none) Q E s := by
 obtain ⟨oe, vs, oT, ts, e1, rfl, e3, e4, e5, e6, e7, e8, e9, LK⟩ := ht
 have hz := (Array.getElem?_eq_some_iff.mp e9).1
 refine wpAny_setFlight_none e1 e4 e5 e7 e8 hz (h _ ⟨oe, vs, _, _, (Heap.get?_update_other _ _ e6).trans e1, rfl, e3, e4, e5, e6, Heap.get?_update_self _ e7 (Obj.isFreed_of_fields (Obj.data_mapFields e8 _)), Obj.data_mapFields e8 _, by simp [hz], LK⟩ fun b o hb q => (Heap.get?_update_other _ _ (Ne.symm hb)).trans q)
end
def qA (P : Program) (w : World) : pB := fun outer H s E e s' => ∃ a T C od H', e = .ref a /\ s'.os = s.os /\ AllBare s'.gens /\ Un (my outer) [] H H' s.heap s'.heap /\ fW P w H' s'.heap /\ tH s'.heap a T (.ref C) od /\ s.heap.get? a = none /\ s.heap.get? T = none /\ H' a = none /\ H' T = none /\ E (.ref C) od H'
section
variable {P : Program} {w : World} {K : PySem.W.Frag} {mg : Str -> Option Value} {base : Heap} {N : List Str} {qual : Str} {scope : Scope} {f : Addr} {cd : Value} {A : Around} {outer : List Env} {s0 : Shared} {H0 : Hp} {E : XK} {CX : pB} {pins : List (Addr × Obj)} {σ : St} {H : Hp} {s : Shared}
theorem qK {a T C : Addr} {od : Option Addr} {S : List Addr} {h' : Heap} (I : Inv (iU CX P w K mg base N qual scope f cd A outer s0 H0 E) pins σ H s) (lv : Lv (iU CX P w K mg base N qual scope f cd A outer s0 H0 E).stack S s.heap h') (hS : ∀ b ∈ S, H b = none /\ s0.heap.get? b = none)
 (tr : tH h' a T (.ref C) od) (ha : H a = none) (hT : H T = none) (na : s0.heap.get? a = none) (nT : s0.heap.get? T = none) (hE : E (.ref C) od H) : qA P w outer H0 s0 E (.ref a) { s with heap := h' } := by
 have eL : my (iU CX P w K mg base N qual scope f cd A outer s0 H0 E).stack = s0.heap.objs.size :: my outer := rfl
 have old : ∀ b o, s0.heap.get? b = some o -> b ∉ S /\ b ≠ s0.heap.objs.size := fun b o e => ⟨fun z => (by rw [(hS b z).2] at e; cases e), Nat.ne_of_lt (Heap.lt_size e)⟩
 refine ⟨a, T, C, od, H, rfl, I.os, I.bare, ⟨fun b o e n hb hx => ?_, fun b o e n hb hx => ?_, fun b o e n hx => I.base.free b o e n hx, fun b o e hx => ?_, I.base.gb, I.base.fJ, I.base.ib⟩, fun b u e => ?_, tr, na, nT, ha, hT, hE⟩
 . have z := I.base.keep b o e n hb hx
   exact lv.keep b o (by rw [eL]; simp [(old b o e).2, hb]) (old b o e).1 z
 . obtain ⟨sl, z⟩ := I.base.slot b o e n hb hx
   obtain ⟨IP, z2⟩ := lv.slot b _ (by rw [eL]; exact List.mem_cons_of_mem _ hb) z
   exact ⟨IP, z2⟩
 . obtain ⟨o2, z⟩ := I.base.there b o e hx
   by_cases m : b ∈ my (iU CX P w K mg base N qual scope f cd A outer s0 H0 E).stack
   . obtain ⟨IP, z2⟩ := lv.slot b _ m z
     exact ⟨_, z2⟩
   . exact ⟨_, lv.keep b o2 m (old b o e).1 z⟩
 . refine (I.aF b u e).iA (fun c v hc q => ?_) (fun _ q => q) fun _ _ q => q
   have kK : H c ≠ none := by
    rcases hc with rfl | hc
    . rw [e]; intro z; cases z
    . rw [hc]; intro z; cases z
   exact lv.keep c v (fun m => kK (I.lC c m)) (fun m => kK (hS c m).1) q
def lB (CX : pB) (X : Cx) (E : St -> XK) : Prop := ∀ (pins : List (Addr × Obj)) (σ : St) (H : Hp) (s : Shared) (e : Value) (s' : Shared), Inv X pins σ H s -> CX X.stack H s (E σ) e s' -> X.xe e s'
theorem nN : lB (qA P w) (iU (qA P w) P w K mg base N qual scope f cd A outer s0 H0 E) (fun _ => E) := by
 intro pins σ H s e s' I ⟨a, T, C, od, H', he, os, bare, un, aF, tr, na, nT, ha, hT, hE⟩
 subst he
 have I' := I.wa (ch := []) os un aF bare (fun b z => nomatch z)
 have dead : ∀ b, s.heap.get? b = none -> s0.heap.get? b = none := fun b z => by
  cases q : s0.heap.get? b with
  | none => rfl
  | some o =>
    obtain ⟨o2, z2⟩ := I.base.there b o q (by intro y; cases y)
    rw [z] at z2
    cases z2
 show wpAny _ _ (leaving _ (.ref a)) _ _ s'
 refine wpAny_bind (mB (base := base) I'.ok.frames I'.stack rfl tr fun h2 T2 JT EZ lv => ?_)
 have d' : s'.heap.get? T2 = none -> s0.heap.get? T2 = none := fun z => by
  cases q : s0.heap.get? T2 with
  | none => rfl
  | some o =>
    obtain ⟨o2, z2⟩ := I'.base.there T2 o q (by intro y; cases y)
    rw [z] at z2
    cases z2
 refine qK I' lv (fun b hb => ?_) JT ha ?_ (dead a na) ?_ hE
 . have : b = a \/ b = T := by simpa using hb
   rcases this with rfl | rfl
   . exact ⟨ha, dead _ na⟩
   . exact ⟨hT, dead _ nT⟩
 . rcases EZ with rfl | z
   . exact hT
   . exact I'.aF.dead z
 . rcases EZ with rfl | z
   . exact dead _ nT
   . exact d' z
def p0 (X : Cx) (E : St -> XK) : Prop := ∀ (pins : List (Addr × Obj)) (σ : St) (H : Hp) (s : Shared) (a C : Addr) (od : Option Addr) (oe : Obj) (vs : Array Value), Inv X pins σ H s -> s.heap.get? a = some oe -> oe.cls = .ref C -> oe.dict = od -> oe.data = .fields vs -> vs[1]? = some .none -> vs[2]? = some .none ->
 H a = none -> X.cf.heap.get? a = none -> E σ (.ref C) od H -> X.xe (.ref a) s
theorem r9 : p0 (iU (qA P w) P w K mg base N qual scope f cd A outer s0 H0 E) (fun _ => E) := by
 intro pins σ H s a C od oe vs I e1 e2 e3 e4 v1 v2 ha na hE
 show wpAny _ _ (leaving _ (.ref a)) _ _ s
 refine wpAny_bind (p6 (base := base) I.ok.frames I.stack rfl e1 e3 e4 v1 v2 fun h2 T2 JT EZ lv => ?_)
 rw [e2] at JT
 refine qK I lv (fun b hb => ?_) JT ha (I.aF.dead EZ) na ?_ hE
 . have : b = a := by simpa using hb
   subst this
   exact ⟨ha, na⟩
 . cases q : s0.heap.get? T2 with
   | none => rfl
   | some o =>
     obtain ⟨o2, z2⟩ := I.base.there T2 o q (by intro y; cases y)
     rw [EZ] at z2
     cases z2
end
structure mF (P : Program) (w : World) (K : PySem.W.Frag) (mg : Str -> Option Value) (base : Heap) (k : Nat) (f : Addr) (ps : List Str) (bA : List V) (sp : Sp) : Prop where
 ex : ∃ (fd : FuncData) (ds : List Value), bH P w K mg base (qA P w) k f fd ps sp /\ Binds K fd ps ds /\ Vals bA ds
theorem g4.out {sp : Sp} {vs : List V} {H : Hp} {Q : VK} {E : XK} (h : g4 sp vs H Q E) : sp vs H Q E := let ⟨_, e, h⟩ := h; e ▸ h
def xq (C : Addr) (m : Str) (sp : Sp) (bA : List V) (E : St -> XK) (ta : TE) (t : TA) : TE := fun σ H Q => ta σ H fun x H1 => ∃ a dx fs, x = .ref a /\ H1 a = some (.ins C dx fs) /\ fs.lookup m = none /\
 t σ H1 fun vs H2 => g4 sp (x :: (vs ++ bA)) H2 Q (E σ)
section
variable {X : Cx} {CX : pB} {k : Nat} {f C : Addr} {fd : FuncData} {ps : List Str} {sp : Sp} {bA : List V} {ds : List Value} {E : St -> XK} {x m : Str} {p pos apos : Pos} {e o : Expr} {es : List Expr} {ta : TE} {t : TA}
theorem Bm {pins : List (Addr × Obj)} {σ : St} {H : Hp} {s : Shared} {Q : VK} {us : List Value} {vs : List V} (F : bH X.prog X.w X.K X.mg X.base CX k f fd ps sp) (hr : aU k X.A) (hb : Binds X.K fd ps ds) (hd : Vals bA ds) (hx : lB CX X E)
 (I : Inv X pins σ H s) (r : Vals vs us) (h : sp (vs ++ bA) H Q (E σ)) : wpAny (model X.prog X.w) X.A (call (.ref f) us) (EP X pins σ Q) X.xe s := by
 have r2 : Vals (vs ++ bA) (us ++ ds) := r.append hd
 have hl : (us ++ ds).length = ps.length := by rw [<- r2.length]; exact F.len _ _ _ _ h
 refine wpAny_call (codeAny_mono (F.run X.A X.stack s H ⟨us, []⟩ (us ++ ds) (vs ++ bA) Q (E σ) hr I.sd (hb s us I.fL hl) r2 h) fun r s' hq => ?_)
 cases r with
 | error e => exact hx pins σ H s e s' I hq
 | ok fl =>
   cases fl with
   | ret u => exact I.after hq
   | next => exact False.elim hq
   | brk => exact False.elim hq
   | cont => exact False.elim hq
theorem fw {pl : Sem Bool} (he : PE X o ta) (c : mV X.K C) (hm : Meth X.K C m f) (F : mF X.prog X.w X.K X.mg X.base k f ps bA sp) (hr : aU k X.A) (hx : lB (qA X.prog X.w) X E) (ha : PA X (e :: es) t)
 (kN : starEach (e :: es) X.env = (false, eval e X.env) :: starEach es X.env := by rfl) (kl : (backTo pos (starEach es X.env)).any (·.1) = false := by rfl)
 (ht : eval (.Call (.Attribute o m apos) (e :: es) [] pos) X.env = (do
  let ov <- eval o X.env
  standAt apos.atName
  let (f, first) <- holding [ov] (getMethod ov m pl)
  callWith pos f first (backTo pos (starEach (e :: es) X.env)) (backToKw pos (keywordEach [] X.env))) := by rfl) :
 PE X (.Call (.Attribute o m apos) (e :: es) [] pos) (xq C m sp bA E ta t) := by
 obtain ⟨fd, ds, F, hb, hd⟩ := F.ex
 intro pins s σ H Q I h
 refine PySem.W.methodCall_KW (pl := pl) (bR (he pins s σ H _ I h) fun u s1 ⟨x, H1, I1, rx, a, dx, fs, ex, ea, l, q⟩ => ?_) ht
 subst ex
 obtain rfl : u = Value.ref a := rx
 refine gu I1 ea c hm l ?_
 refine PySem.W.callWith_K (first := [.ref a]) (h₀ := X.base) I.ok.mod.Fh hm.kp (bR (ha pos pins s1 σ H1 _ I1 q) fun us s2 ⟨vs, H2, I2, r, q2⟩ => ⟨I2.fL, ?_⟩) kN kl
 exact Bm (us := .ref a :: us) (vs := .ref a :: vs) F hr hb hd hx I2 (.cons rfl r) (g4.out q2)
end
section
variable {P : Program} {w : World} {K : PySem.W.Frag} {mg : Str -> Option Value} {base : Heap}
theorem cG.Ft {x qual : Str} {st : Stmt} {f : Addr} {dV : Value} {fd : FuncData} {N ps : List Str} {k : Nat} {sp : Sp} (F : cG K x qual st f dV fd) (S : aG N ps (av st)) (len : ∀ vs H Q E, sp vs H Q E -> vs.length = ps.length)
 (gS : ∀ (cV : Value) (A : Around) (outer : List Env) (s : Shared) (H : Hp) (vs : List V) (Q : VK) (E : XK), aU k (A.deeper (envOfC qual (av st) s.heap.objs.size f cV)) -> sp vs H Q E ->
  ∃ t, nj (iU (qA P w) P w K mg base N qual (av st) f cV A outer s H E) (eC st) t /\ t { nx := fun _ H' => Q .aP H', rt := Q } (start N vs) H) : bH P w K mg base (qA P w) (k + 1) f fd ps sp := by
 obtain ⟨oc, od, kV, doc, pm, an, cV, ct, qW, rfl, lk, kX⟩ := F.ex
 exact vU lk kX S len fun A outer s H vs Q E hr qQ => gS cV A outer s H vs Q E hr qQ
end
theorem Bl {prog : Program} {w : World} {A : Around} {E : Value -> Shared -> Prop} {s : Shared} {K : PySem.W.Frag} {x D : Addr} {ox od : Obj} {name : Str} {v : Value} {expr : Bool} {Q : Value -> Shared -> Prop} (t : Oc K D) (X : K.In s.heap) (I : InstAt s.heap x ox D (some od)) (ha : PySem.W.findIn K (.ref D) name = some none)
 (hl : PySem.W.lookIn name od = some (some v)) (hh : PySem.W.handedIn v = true) (h : Q v { s with toks := s.toks + 1 }) : wpAny (model prog w) A (getAttr (.ref x) name expr) Q E s := by
 have hf : findObj K D (some od) name = some (.value v) := PySem.W.findObj_own t.hd ha rfl hl
 obtain ⟨hp, g, d, tk, os⟩ := s
 have L0 := I.type (M := model prog w)
 have L1 := looks_findIn (M := model prog w) X t.ga
 have L2 := looks_findIn (M := model prog w) X t.gn
 have L3 := looks_find (M := model prog w) X I hf
 have L4 := looks_mroIn (M := model prog w) X t.mb
 have hk : builtinKind "BaseException.__getattribute__" = some .slot := by decide +kernel
 have hsplit : splitId "BaseException.__getattribute__" = some ("BaseException", "__getattribute__") := by decide +kernel
 unfold getAttr getAttrBy
 refine wpAny_bind (wpAny_mkText (wpAny_holding (wpAny_bind (L0.at (wpAny_bind (L1.at ?_))))))
 dsimp only
 rw [if_neg (show ¬ ((onTheHeap (Value.ref D) && Value.builtin "BaseException.__getattribute__" == Value.builtin "object.__getattribute__") = true) by rw [show (Value.builtin "BaseException.__getattribute__" == Value.builtin "object.__getattribute__") = false from by decide +kernel, Bool.and_false]; decide)]
 unfold getAttrByItsOwn
 refine wpAny_bind (show wpAny _ _ (typeLookup (.ref D) "__getattr__") _ _ _ from L2.at ?_)
 refine wpAny_bind (wpAny_attempt (wpAny_holding ?_))
 unfold callGetattribute
 rw [show (expr && onTheHeap (Value.builtin "BaseException.__getattribute__")) = false from by cases expr <;> rfl, if_neg (by decide)]
 unfold boundAndCalled
 rw [PySem.F.attr_ValueError.ga.bind]
 refine wpAny_bind (wpAny_pure ?_)
 refine wpAny_call (codeAny_call_builtin PySem.F.attr_ValueError.ga.plain PySem.F.entry_bexc_ga ?_)
 simp only [checkBuiltinCall, hk, hsplit]
 have ha := PySem.F.args_bexc_ga (.ref x) (.str name tk)
 dsimp only at L0 L1 L2 L3 L4 X I h
 refine wpAny_bind ?_
 unfold isInstance
 refine wpAny_bind (L0.at (L4.at ?_))
 rw [if_neg (by decide)]
 repeat (any_goals (first | assumption | with_reducible refine L0.at ?_ | with_reducible refine L3.at ?_ | wp_step))
 show wpAny _ _ (handedOut v) _ _ _
 rw [handedOut_of hh]; exact wpAny_pure h
def jP : List Value -> Bool
 | .ref _ :: r => jP r
 | l => l == vT
theorem wB {l : List Value} (e : jP l = true) (self : Value) : refuseLoop self "__setattr__" l = pure () := by
 induction l with
 | nil => cases e
 | cons v r ih =>
   cases v with
   | ref c => rw [refuseLoop_ref]; exact ih e
   | _ => have e' := beq_iff_eq.mp (show ((_ :: r) == vT) = true from e); rw [e']; exact PySem.F.store_ValueError.passes self
theorem wQ {l : List Value} (e : jP l = true) : l.contains (.type "object") = true /\ l.isEmpty = false := by
 refine ⟨?_, by cases l <;> first | rfl | cases e⟩
 induction l with
 | nil => cases e
 | cons v r ih =>
   cases v with
   | ref c => rw [List.contains_cons, ih e, Bool.or_true]
   | _ => have e' := beq_iff_eq.mp (show ((_ :: r) == vT) = true from e); rw [e']; decide
section
variable {prog : Program} {w : World} {A : Around} {E : Value -> Shared -> Prop} {s : Shared} {K : PySem.W.Frag} {x C : Addr} {ox : Obj} {name : Str} {v : Value} {cd : ClassData}
open Builtin.ObjectAttr in
theorem zj {od : Option Obj} {tk : Tok} {R : Result -> Shared -> Prop} (X : K.In s.heap) (I : InstAt s.heap x ox C od) (hc : clsIn K C = some cd) (ho : jP cd.mro = true) (ht : takerIn K C name = some none)
 (h : ∀ b, wpAny (model prog w) A.in1 (storeInOwnDict (.ref x) (.ref C) (.str name tk) name v b)
  (fun fin s' => match fin with | .done f => R (.ok f) s' | .again c' => c'.quiet = true /\ codeAny (model prog w) A c' R s') (fun e s' => R (.error e) s') s) :
 codeAny (model prog w) A (.call (.builtin "object.__setattr__") ⟨[.ref x, .str name tk, v], []⟩) R s := by
 have SF := PySem.F.store_object
 obtain ⟨Pt, ne⟩ := wQ ho
 have sub : Looks (model prog w) s.heap (isInstance (.ref x) (.type "object")) true := I.type.andThen (looks_mroIn X (by unfold mroIn; rw [hc, Option.bind_some, if_neg (by rw [ne]; decide), Pt]))
 refine codeAny_call_builtin SF.slot.plain SF.entry (@check_slot (model prog w) _ _ s "object.__setattr__" "object" "__setattr__" (.ref x) [.str name tk, v] [] _ SF.kind SF.split sub (SF.args (.ref x) (.str name tk) v) ?_)
 obtain ⟨attr, ha, hr⟩ := Option.bind_eq_some_iff.mp ht
 have hm : Looks (model prog w) s.heap (mroOf (.ref C)) cd.mro := (looks_clsIn X hc).andThen .now
 have L3 : Looks (model prog w) s.heap (storeTaker? attr) none := by
  cases attr with
  | none => cases hr; exact .now
  | some a =>
    obtain ⟨b, hb, he⟩ := Option.map_eq_some_iff.mp hr
    refine (looks_takesIn X hb).andThen ?_
    cases b
    . exact .now
    . cases he
 rw [osa_eq, refuse_eq]
 refine wpAny_bind (wpAny_bind (I.type.here (wpAny_bind (hm.here ?_))))
 rw [wB ho]
 refine wpAny_pure (wpAny_bind (I.type.here (wpAny_bind ((looks_findIn X ha).here (wpAny_bind (L3.here ?_))))))
 exact h _
open Builtin.ObjectAttr in
theorem zU {vs : Array Value} {Q : Unit -> Shared -> Prop} (X : K.In s.heap) (hx : s.heap.get? x = some ox) (fN : ox.cls = .ref C) (hd : ox.dict = none) (hf : ox.data = .fields vs)
 (hs : PySem.W.findIn K (.ref C) "__setattr__" = some (some (.builtin "object.__setattr__"))) (hc : clsIn K C = some cd) (ho : jP cd.mro = true) (hh : cd.hasDict = true) (ht : takerIn K C name = some none)
 (h : ∀ h' d t', s.heap.get? d = none -> d ≠ x -> h'.get? x = some { ox with dict := some d } -> h'.Ns1 d (fun y => if y = name then some v else none) -> (∀ b o, b ≠ x -> s.heap.get? b = some o -> h'.get? b = some o) -> Q () { s with heap := h', toks := t' }) :
 wpAny (model prog w) A (setAttr (.ref x) name v) Q E s := by
 have J : InstAt s.heap x ox C none := ⟨hx, fN, by unfold notCls; rw [hf], by rw [hd]; trivial⟩
 refine PySem.W.set_plain X J hs (zj (s := { s with toks := s.toks + 1 }) X J hc ho ht fun b => ?_)
 unfold storeInOwnDict
 refine wpAny_bind (wpAny_pure ?_)
 rw [if_neg (by intro q; cases beq_iff_eq.mp q)]
 refine wpAny_bind ?_
 refine wpAny_bind (wpAny_loadPart hx ?_)
 rw [fN]
 dsimp only
 refine wpAny_bind (PySem.W.Looks.here (s := { s with toks := s.toks + 1 }) (PySem.W.looks_clsIn X hc) ?_)
 rw [hh]
 simp only [Bool.not_true, Bool.false_eq_true, if_false]
 rw [hd]
 dsimp only
 rw [if_neg (by simp [typeHasDict]), hf]
 dsimp only
 have Nj : (s.heap.push { cls := .type "dict", data := .dict #[] }).get? x = some ox := Heap.get?_push_of_some _ hx
 have BP : x ≠ s.heap.objs.size := Nat.ne_of_lt (Heap.lt_size hx)
 refine wpAny_bind (wpAny_alloc' ?_)
 refine wpAny_bind (wpAny_update' Nj ?_)
 refine wpAny_pure ?_
 have Qa : ((s.heap.push { cls := .type "dict", data := .dict #[] }).update x fun o => { cls := o.cls, dict := some s.heap.objs.size, data := o.data, slots := o.slots }).get? s.heap.objs.size = some { cls := .type "dict", data := .dict #[] } :=
  (Heap.get?_update_ne _ _ _ _ BP.symm).trans (Heap.get?_push_at rfl rfl)
 have Du : ((s.heap.push { cls := .type "dict", data := .dict #[] }).update x fun o => { cls := o.cls, dict := some s.heap.objs.size, data := o.data, slots := o.slots }).Ns s.heap.objs.size (fun _ => none) :=
  ⟨_, #[], _, Qa, rfl, fun e he => absurd he (by simp), fun _ => rfl⟩
 show wpAny _ _ (storeInDict s.heap.objs.size (.str name _) name v) _ _ _
 unfold storeInDict newKeyGuard
 refine wpAny_bind (wpAny_pure (wpAny_bind (wpAny_nsSet1 (Heap.Ns1.of_empty Du) fun h' FP pC => ?_)))
 obtain ⟨oD, PV, Pa, K4, Mq, Lr⟩ := FP.count (Within.cons name v Within.nil)
 refine wpAny_bind (wpAny_lookBehind K4 (by rw [Mq]; exact pastItsLine_dict (Nat.le_trans Lr (by rw [List.length_cons, List.length_nil, sizeLine_eq]; omega))) ?_)
 refine wpAny_pure ?_
 refine h h' s.heap.objs.size _ (Heap.get?_none_of_le (Nat.le_refl _)) BP.symm ?_ FP fun b ob O7 hb => ?_
 . refine (pC.2 x BP).trans ?_
   rw [Heap.get?_update_self _ Nj]
   have kD := (Heap.get?_some_iff.mp hx).2
   obtain ⟨oc, od, RQ, qW⟩ := ox
   cases RQ <;> first | rfl | exact kD
 . exact (pC.2 b (Nat.ne_of_lt (Heap.lt_size hb))).trans ((Heap.get?_update_ne _ _ _ _ O7).trans (Heap.get?_push_of_some _ hb))
end
def kg (a C : Addr) (od : Option Addr) : Heap -> Prop := fun h => ∃ o vs v0, h.get? a = some o /\ o.cls = .ref C /\ o.dict = od /\ o.data = .fields vs /\ vs[0]? = some v0 /\ vs[1]? = some .none /\ vs[2]? = some .none
def oI (a C : Addr) (od : Option Addr) : Heap -> Prop := fun h => ∃ o vs, h.get? a = some o /\ o.cls = .ref C /\ o.dict = od /\ o.data = .fields vs /\ vs[2]? = some .none
theorem kg.ext {h : Heap} {a C : Addr} {od : Option Addr} (m : kg a C od h) : kg a C od h /\ (∃ o, h.get? a = some o) /\ ∀ h1 h2 : Heap, kg a C od h1 -> (∀ o, h1.get? a = some o -> h2.get? a = some o) -> kg a C od h2 :=
 ⟨m, let ⟨o, _, _, e, _⟩ := m; ⟨o, e⟩, fun _ _ ⟨o, vs, v0, e, r⟩ k => ⟨o, vs, v0, k o e, r⟩⟩
theorem oI.ext {h : Heap} {a C : Addr} {od : Option Addr} (m : oI a C od h) : oI a C od h /\ (∃ o, h.get? a = some o) /\ ∀ h1 h2 : Heap, oI a C od h1 -> (∀ o, h1.get? a = some o -> h2.get? a = some o) -> oI a C od h2 :=
 ⟨m, let ⟨o, _, e, _⟩ := m; ⟨o, e⟩, fun _ _ ⟨o, vs, e, r⟩ k => ⟨o, vs, k o e, r⟩⟩
structure rB (K : PySem.W.Frag) (C W fI : Addr) : Prop where
 cls : ∃ (nm q : Str) (N : Addr) (bs : List Value) (sn : List Str) (sub : List Value) (ab : Bool) (col : Option Bool) (dd : Option Addr) (k0 k1 k2 k3 k5 : Option Value), K.lookup C = some (excClassObj nm q C N bs (.ref W :: vT) true sn sub ab col dd k0 k1 k2 k3 k5 "ValueError.__new__")
 up : DC K W
 init : PySem.W.findIn K (.ref C) "__init__" = some (some (.ref fI))
 fn : PySem.W.isFn K (.ref fI) = true
 te : Oc K C
 sa : PySem.W.findIn K (.ref C) "__setattr__" = some (some (.builtin "object.__setattr__"))
 tk : PySem.W.takerIn K C "name" = some none
 nm : PySem.W.findIn K (.ref C) "name" = some none
def oP (K : PySem.W.Frag) (C : Addr) : Prop := ∀ h : Heap, K.In h -> ∃ (bm : List Value) (N : Addr) (nm q : Str) (bs : List Value) (hd : Bool) (sn : List Str) (sub : List Value) (ab : Bool) (col : Option Bool) (dd : Option Addr) (k0 k1 k2 k3 k5 : Option Value),
 h.get? C = some (excClassObj nm q C N bs bm hd sn sub ab col dd k0 k1 k2 k3 k5 "ValueError.__new__") /\ OwnTail h vT bm
theorem DC.o {K : PySem.W.Frag} {C : Addr} (h : DC K C) : oP K C := fun hp X => by
 obtain ⟨bm, N, nm, q, bs, hd, sn, sub, ab, col, dd, k0, k1, k2, k3, k5, mN, hC, _, _, T⟩ := xO X h
 exact ⟨bm, N, nm, q, bs, hd, sn, sub, ab, col, dd, k0, k1, k2, k3, k5, hC, T⟩
theorem rB.tail {K : PySem.W.Frag} {C W fI : Addr} (e : rB K C W fI) {h : Heap} (X : K.In h) : OwnTail h vT (.ref W :: vT) := by
 obtain ⟨bm, N, nm, q, bs, hd, sn, sub, ab, col, dd, k0, k1, k2, k3, k5, mN, hC, hN, Fb, T⟩ := xO X e.up
 exact .own hC hN Fb .base
theorem rB.o {K : PySem.W.Frag} {C W fI : Addr} (e : rB K C W fI) : oP K C := fun hp X => by
 obtain ⟨nm, q, N, bs, sn, sub, ab, col, dd, k0, k1, k2, k3, k5, hl⟩ := e.cls
 exact ⟨_, N, nm, q, bs, true, sn, sub, ab, col, dd, k0, k1, k2, k3, k5, X _ _ hl, e.tail X⟩
section
variable {prog : Program} {w : World} {A : Around} {E : Value -> Shared -> Prop} {h : Heap} {g : Array GenState} {d : Drawn} {t : Nat} {os : OsState}
variable {nm q : Str} {C N : Addr} {bs bm y8 : List Value} {hdct : Bool} {sn : List Str} {sub : List Value} {ab : Bool} {col : Option Bool} {dd : Option Addr} {k0 k1 k2 k3 k5 : Option Value} {B newId yn : String}
theorem kZ {K : PySem.W.Frag} (F : ExcBaseFacts B newId yn y8) (T : OwnTail h y8 bm) {rest : List Value} {fI : Addr} {Q : PySem.Fin -> Shared -> Prop} (X : K.In h)
 (hC : h.get? C = some (excClassObj nm q C N bs bm hdct sn sub ab col dd k0 k1 k2 k3 k5 newId)) (hi : PySem.W.findIn K (.ref C) "__init__" = some (some (.ref fI))) (hf : PySem.W.isFn K (.ref fI) = true)
 (hq : ∀ h' e, Heap.MadeExcOf h h' e (.ref C) rest ->
  wpAny (model prog w) A (call (.ref fI) (.ref e :: rest)) (fun r s' => r = .none /\ Q (.done (.ret (.ref e))) s') E ⟨h', g, d, t, os⟩) (hrest : rest.length <= sizeLine) :
 wpAny (model prog w) A (Builtin.«type.__call__» ⟨.ref C :: rest, []⟩) Q E ⟨h, g, d, t, os⟩ := by
 repeat (first | with_reducible refine wpAny_loadPart_at hC ?_ | with_reducible refine wpAny_madeBy_exc hC ?_ | wp_step)
 refine codeAny_call_builtin_code (Code.quiet_builtin _ F.quiet) (wpAny_check_new_subT F T hC ?_)
 refine codeAny_exc_new_subT F T hC ?_ hrest
 show wpAny _ _ _ _ _ _
 have kp : ∀ b o, h.get? b = some o -> ((h.push { cls := .type "tuple", data := .seq rest.toArray }).push { cls := .ref C, data := .fields #[.ref h.objs.size, .none, .none, .none, .bool false, .none] }).get? b = some o := fun b o e => Heap.get?_push_of_some _ (Heap.get?_push_of_some _ e)
 have Jm := kp _ _ hC
 have X₁ := X.keeps kp
 have Ji : ((h.push { cls := .type "tuple", data := .seq rest.toArray }).push
  { cls := .ref C, data := .fields #[.ref h.objs.size, .none, .none, .none, .bool false, .none] }).get? (h.objs.size + 1) = some
  { cls := .ref C, data := .fields #[.ref h.objs.size, .none, .none, .none, .bool false, .none] } := by heap_get
 have Qe : (Value.ref C :: bm).contains (.ref C) = true := by simp
 unfold isInstance
 repeat (first | with_reducible refine wpAny_loadPart_at Ji ?_ | (with_reducible refine wpAny_isSubtype_exc Jm ?_; rw [Qe]) | wp_step)
 show wpAny _ _ (typeLookup (.ref C) _) _ _ _
 refine (PySem.W.looks_findIn (M := model prog w) X₁ hi).at ?_
 refine wpAny_holding (wpAny_bind ?_)
 refine (PySem.W.bind_fn (M := model prog w) X₁ _ (beq_iff_eq.mp hf)).at ?_
 refine wpAny_bind (wpAny_mono (hq _ (h.objs.size + 1) ⟨kp, Heap.get?_none_of_le (Nat.le_succ _), h.objs.size, Ji, Heap.get?_none_of_le (Nat.le_refl _), ?_⟩) (fun r s' hr => ?_) fun _ _ x => x)
 . exact Heap.get?_push_of_some _ (Heap.get?_push_at rfl rfl)
 . obtain ⟨rfl, hQ⟩ := hr
   wp_walk
   exact hQ
theorem lO {K : PySem.W.Frag} (F : ExcBaseFacts B newId yn y8) (T : OwnTail h y8 bm) {rest : List Value} {fI : Addr} {Q : Value -> Shared -> Prop} (X : K.In h)
 (hC : h.get? C = some (excClassObj nm q C N bs bm hdct sn sub ab col dd k0 k1 k2 k3 k5 newId)) (hi : PySem.W.findIn K (.ref C) "__init__" = some (some (.ref fI))) (hf : PySem.W.isFn K (.ref fI) = true)
 (hq : ∀ h' e, Heap.MadeExcOf h h' e (.ref C) rest ->
  wpAny (model prog w) (A.under (.builtin "type.__call__" ⟨.ref C :: rest, []⟩)) (call (.ref fI) (.ref e :: rest)) (fun r s' => r = .none /\ Q (.ref e) s') E ⟨h', g, d, t, os⟩) (hrest : rest.length <= sizeLine) :
 wpAny (model prog w) A (call (.ref C) rest) Q E ⟨h, g, d, t, os⟩ := by
 have f1 := tc_lookup
 have f2 := tc_bind (.ref C)
 have hT : (⟨h, g, d, t, os⟩ : Shared).TypeIs (.ref C) "type" := ⟨_, hC, rfl⟩
 refine wpAny_call (codeAny_of_tree ?_)
 show wpAny _ _ (callAny (.ref C) _) _ _ _
 repeat (any_goals (first | assumption | with_reducible refine wpAny_loadPart_at hC ?_ | wp_step))
 refine ⟨rfl, ?_⟩
 refine codeAny_call_builtin_at (Code.quiet_builtin _ (by decide +kernel)) entry_typeCall (wpAny_check_type_call_sub hC (kZ (hrest := hrest) F T X hC hi hf fun h' e hm => ?_))
 exact hq h' e hm
end
theorem Fj {H : Hp} {a : Addr} {o : HO} (e : H a = some o) : upd H a o = H := by
 funext b
 unfold upd
 split
 . rename_i z; rw [z, e]
 . rfl
structure CI (K : PySem.W.Frag) (W : Addr) : Prop where
 ga : PySem.W.specialIn K (.ref W) "__getattribute__" = some (some (.builtin "type.__getattribute__"))
 rd : PySem.W.readsIn K W (.type "type") = true
 fd : PySem.W.findCls K (.ref W) (.type "type") "__init__" = some (.val (.builtin "ValueError.__init__"))
def lH (K : PySem.W.Frag) (vs : List V) (H : Hp) (Q : VK) : Prop := ∃ a C od ys, vs = .ref a :: ys /\ ys.length <= 100 /\ H a = some (.ext (kg a C od)) /\ oP K C /\ Q .aP H
def pS (K : PySem.W.Frag) (t : TA) : TE := fun σ H Q => t σ H fun vs H1 => lH K vs H1 Q
section
variable {X : Cx} {W : Addr} {x : Str} {p pos apos : Pos} {e : Expr} {es : List Expr} {t : TA} {pl : Sem Bool}
theorem jj (hg : Gl X x) (hm : X.mg x = some (.ref W)) (B : CI X.K W) (ha : PA X (e :: es) t)
 (o4 : (x == ("__debug__" : Str)) = false := by decide)
 (kN : starEach (e :: es) X.env = (false, eval e X.env) :: starEach es X.env := by rfl) (kl : (backTo pos (starEach es X.env)).any (·.1) = false := by rfl)
 (ht : eval (.Call (.Attribute (.Name x p) "__init__" apos) (e :: es) [] pos) X.env = (do
  let ov <- eval (.Name x p) X.env
  standAt apos.atName
  let (f, first) <- holding [ov] (getMethod ov "__init__" pl)
  callWith pos f first (backTo pos (starEach (e :: es) X.env)) (backToKw pos (keywordEach [] X.env))) := by rfl) :
 PE X (.Call (.Attribute (.Name x p) "__init__" apos) (e :: es) [] pos) (pS X.K t) := by
 intro pins s σ H Q I h
 refine PySem.W.methodCall_KW (pl := pl) (iS I hg hm ?_ o4) ht
 refine PySem.W.method_cls I.fL B.ga ?_
 refine PySem.W.cls_value I.fL B.rd B.fd rfl ?_
 have I' : Inv X pins σ H { s with toks := s.toks + 1 } := I.tok _
 show wpAny _ _ (callWith pos (.builtin "ValueError.__init__") [] (backTo pos (starEach (e :: es) X.env)) []) _ _ _
 refine PyProof.Rows.callWith_builtin1 (bR (ha pos pins _ σ H _ I' h) fun us s2 ⟨vs, H2, I2, r, q2⟩ => ?_) kN kl
 obtain ⟨a, C, od, ys, rfl, R3, hH, hO, q⟩ := q2
 cases r with
 | cons ra ru =>
 rename_i u us _
 obtain rfl : u = Value.ref a := ra
 obtain ⟨⟨o, Ra, v0, e1, e2, e3, e4, e5, e6, e7⟩, _⟩ := (show aO X.prog X.w H2 s2.heap a (.ext (kg a C od)) from I2.aF a _ hH)
 obtain ⟨bm, N, nm, q', bs, hd, sn, sub, ab, col, dd, k0, k1, k2, k3, k5, hC, T⟩ := hO _ I2.fL
 obtain ⟨hp, g, d, tk, os⟩ := s2
 have F := PySem.F.excBase_ValueError
 have JD : us.length <= sizeLine := by rw [<- ru.length, sizeLine_eq]; omega
 refine wpAny_call (codeAny_call_builtin F.init.plain F.initEntry (wpAny_check_init_subT F T hC e1 e2 ?_))
 show wpAny _ _ (newTuple us >>= fun t => Builtin.BaseException.bexcPut (.ref a) 0 t >>= fun _ => ret .none) _ _ _
 refine wpAny_bind (wpAny_newTuple ?_ JD)
 unfold Builtin.BaseException.bexcPut
 have kp : ∀ b u, hp.get? b = some u -> (hp.push (seqObj "tuple" us.toArray 0)).get? b = some u := fun b u z => Heap.get?_push_of_some _ z
 have I3 : Inv X pins σ H2 ⟨hp.push (seqObj "tuple" us.toArray 0), g, d, tk, os⟩ := I2.kept (t' := tk) kp
 have FK := kp _ _ e1
 have hz : 0 < Ra.size := (Array.getElem?_eq_some_iff.mp e5).1
 refine wpAny_bind (wpAny_bind (wpAny_field FK e4 e5 (wpAny_bind (wpAny_setField FK e4 hz ?_))))
 have d3 := Obj.data_mapFields e4 (·.setIfInBounds 0 (Value.ref hp.objs.size))
 have NQ := Heap.get?_update_self (Obj.mapFields (·.setIfInBounds 0 (Value.ref hp.objs.size))) FK (Obj.isFreed_of_fields d3)
 have I4 : Inv X pins σ H2 ⟨(hp.push (seqObj "tuple" us.toArray 0)).update a (Obj.mapFields (·.setIfInBounds 0 (Value.ref hp.objs.size))), g, d, tk, os⟩ := by
  have J := I3.write (x := a) (e := a) (o := .ext (kg a C od)) (t' := tk) (h' := (hp.push (seqObj "tuple" us.toArray 0)).update a (Obj.mapFields (·.setIfInBounds 0 (Value.ref hp.objs.size)))) (by rw [hH]; trivial) (.inl rfl) (fun b u hb z => (Heap.get?_update_other _ _ (Ne.symm hb)).trans z) ⟨_, NQ⟩
   (kg.ext ⟨_, _, .ref hp.objs.size, NQ, ?_, ?_, d3, by simp [hz], ?_, ?_⟩)
  . rw [Fj hH] at J; exact J
  . rw [Obj.cls_mapFields]; exact e2
  . obtain ⟨c0, d0, MT, O6⟩ := o
    cases MT <;> first | exact e3 | (cases e4)
  . rw [Array.getElem?_setIfInBounds_ne (by decide)]; exact e6
  . rw [Array.getElem?_setIfInBounds_ne (by decide)]; exact e7
 have fin : EP X pins σ Q Value.none ⟨(hp.push (seqObj "tuple" us.toArray 0)).update a (Obj.mapFields (·.setIfInBounds 0 (Value.ref hp.objs.size))), g, d, tk, os⟩ := ⟨.aP, H2, I4, rfl, q⟩
 cases v0
 case ref b => exact wpAny_letGo (wpAny_pure fin)
 all_goals exact wpAny_pure (wpAny_pure fin)
end
theorem Ez {K : PySem.W.Frag} {C : Addr} {c0 : Value} {dd : Option Addr} {cd : ClassData} {sl : Array (Option Value)} (h : K.lookup C = some ⟨c0, dd, .cls cd, sl⟩) : clsIn K C = some cd := by unfold clsIn; rw [h]
def B3 (K : PySem.W.Frag) (ta tv : TE) : TS := fun D σ H => tv σ H fun y H1 => ta σ H1 fun x H2 => ∃ a C W fI, x = .ref a /\ H2 a = some (.ext (kg a C none)) /\ rB K C W fI /\ ∀ d, H2 d = none -> d ≠ a -> D.nx σ (upd (upd H2 d (.xd [("name", y)])) a (.ext (kg a C (some d))))
theorem oM {X : Cx} {o value : Expr} {pos pos' : Pos} {ta tv : TE} (ha : PE X o ta) (hv : PE X value tv) (hs : swapsWith value (some (.Attribute o "name" pos')) pos.line X.env = pure false) : PS X (.Assign [.Attribute o "name" pos'] value pos) (B3 X.K ta tv) := by
 intro pins s σ H D I h
 refine plainObj_wpAny_Assign_Attribute (bR (hv pins s σ H _ I h) fun u s1 ⟨y, H1, I1, ry, q⟩ => bR (ha pins s1 σ H1 _ I1 q) fun ov s2 ⟨x, H2, I2, rx, a, C, W, fI, ex, ea, n, q2⟩ => ?_) hs
 subst ex
 obtain rfl : ov = Value.ref a := rx
 obtain ⟨⟨o, vs, v0, e1, e2, e3, e4, e5, e6, e7⟩, _⟩ := (show aO X.prog X.w H2 s2.heap a (.ext (kg a C none)) from I2.aF a _ ea)
 obtain ⟨nm, qn, N, bs, sn, sub, ab, col, dd, k0, k1, k2, k3, k5, hl⟩ := n.cls
 have hc := Ez hl
 refine zU I2.fL e1 e2 e3 e4 n.sa hc rfl rfl n.tk fun h' d t' hd Rf hx vR kp => ?_
 have M4 : H2 d = none := I2.aF.dead hd
 refine ⟨σ, _, ?_, q2 d M4 Rf⟩
 have rC : ∀ b, H2 b = none -> b ≠ a := fun b z y => by rw [y, ea] at z; cases z
 have Qy : ∀ b o, s2.heap.get? b = some o -> b ≠ d := fun b o z y => by rw [y, hd] at z; cases z
 have old : ∀ b u, H2 b = some u -> b ≠ a -> upd (upd H2 d (.xd [("name", y)])) a (.ext (kg a C (some d))) b = some u := fun b u z nb => by
  rw [ah nb, ah (fun y => by rw [y, M4] at z; cases z)]; exact z
 refine I2.step (g' := s2.gens) (d' := s2.drawn) (t' := t') (ch := []) (fun _ z => nomatch z) (fun b o _ _ _ z n => kp b o (rC b n) z) (fun b o _ _ _ z n => ⟨o.slots, kp b o (rC b n) z⟩) (fun b o _ z n => ?_) (fun b o _ z => ?_) (fun b xs z => old b _ z (fun y => by rw [y, ea] at z; cases z)) (fun b o u z => old b _ z (fun y => by rw [y, ea] at z; cases z)) (fun b ps z => ⟨#[], by rw [Array.append_empty]; exact old b _ z (fun y => by rw [y, ea] at z; cases z)⟩) (fun m hm => ?_) (fun b u z => ?_) I2.bare
 . rw [ah (rC b n), ah (Qy b o z)]; exact n
 . by_cases hb : b = a
   . exact ⟨_, hb ▸ hx⟩
   . exact ⟨o, kp b o hb z⟩
 . obtain ⟨o', es, ep, z, r⟩ := hm
   exact ⟨o', es, ep, kp _ _ (rC _ I2.free) z, r⟩
 . by_cases hb : b = a
   . subst hb
     rw [aj] at z
     cases z
     exact kg.ext ⟨_, vs, v0, hx, e2, rfl, e4, e5, e6, e7⟩
   . by_cases mX : b = d
     . subst mX
       rw [ah hb, aj] at z
       cases z
       refine ⟨_, vR, fun f => ?_⟩
       by_cases hf : f = Str.ofString "name"
       . subst hf; rw [if_pos rfl]; simp [List.lookup]; exact ry
       . rw [if_neg hf]
         have : (f == Str.ofString "name") = false := beq_eq_false_iff_ne.mpr hf
         simp [List.lookup, this]; trivial
     . rw [ah hb, ah mX] at z
       refine (I2.aF b u z).iA (fun c v kK q' => ?_) (fun c z' => old c _ z' (fun y => by rw [y, ea] at z'; cases z')) fun c xs z' => old c _ z' (fun y => by rw [y, ea] at z'; cases z')
       refine kp c v ?_ q'
       rcases kK with rfl | kK
       . exact hb
       . intro y; rw [y, ea] at kK; cases kK
def del (H : Hp) (a : Addr) : Hp := fun b => if b = a then none else H b
theorem tm {H : Hp} {a b : Addr} (h : b ≠ a) : del H a b = H b := if_neg h
theorem qx {H : Hp} {a : Addr} : del H a a = none := if_pos rfl
theorem Inv.zz {X : Cx} {pins : List (Addr × Obj)} {σ : St} {H : Hp} {s : Shared} {a : Addr} {φ : Heap -> Prop} (I : Inv X pins σ H s) (e : H a = some (.ext φ)) : Inv X pins σ (del H a) s := by
 have old : ∀ b u, H b = some u -> (∀ φ, u ≠ .ext φ) -> del H a b = some u := fun b u z nu => by
  rw [tm (fun y => by rw [y, e] at z; exact nu φ (Option.some.inj z).symm)]; exact z
 have fr : ∀ b, H b = none -> del H a b = none := fun b z => by unfold del; split <;> first | rfl | exact z
 refine ⟨I.ok, I.os, I.bare, ⟨I.base.keep, I.base.slot, fun b o z n hx => fr b (I.base.free b o z n hx), I.base.there, fun b xs z => old b _ (I.base.gb b xs z) (by intro _ y; cases y), fun b o u z => old b _ (I.base.fJ b o u z) (by intro _ y; cases y), fun b ps z => ?_⟩, I.loc, I.cell, fr _ I.free, fun x c z => fr _ (I.cE x c z), fun p hp => ?_, fun b u z => ?_, I.len⟩
 . obtain ⟨m, z'⟩ := I.base.ib b ps z
   exact ⟨m, old b _ z' (by intro _ y; cases y)⟩
 . obtain ⟨e1, e2, e3⟩ := I.pin p hp
   exact ⟨e1, fr _ e2, e3⟩
 . by_cases hb : b = a
   . rw [hb, qx] at z; cases z
   . rw [tm hb] at z
     exact (I.aF b u z).iA (fun _ _ _ q => q) (fun c q => old c _ q (by intro _ y; cases y)) fun c xs q => old c _ q (by intro _ y; cases y)
section
variable {prog : Program} {w : World} {A : Around} {E : Value -> Shared -> Prop} {s : Shared} {env : Env}
variable {nm q : Str} {C N : Addr} {bs bm y8 : List Value} {hdct : Bool} {sn : List Str} {sub : List Value} {ab : Bool} {col : Option Bool} {dd : Option Addr} {k0 k1 k2 k3 k5 : Option Value} {newId : String}
theorem rK {x : Sem Value} {Q : Flow -> Shared -> Prop} (mU : bm.contains (.type "BaseException") = true) (hh : A.handled = none)
 (h : wpAny (model prog w) A x (fun v s₁ => ∃ e oe vs, v = .ref e /\ s₁.heap.get? C = some (excClassObj nm q C N bs bm hdct sn sub ab col dd k0 k1 k2 k3 k5 newId) /\
  s₁.heap.get? e = some oe /\ oe.cls = .ref C /\ oe.data = .fields vs /\ vs[1]? = some .none /\ E (.ref e) s₁) E s) :
 wpAny (model prog w) A (raiseStmt env (some x) none) Q E s := by
 have Rr : (Value.ref C :: bm).contains (.type "BaseException") = true := by rw [List.contains_cons, mU, Bool.or_true]
 unfold raiseStmt
 refine wpAny_bind (wpAny_mono h (fun v s₁ h₁ => ?_) fun _ _ x => x)
 obtain ⟨e, oe, vs, rfl, hC, he, vL, HC, RC, hE⟩ := h₁
 obtain ⟨hp, g, d, tk, os⟩ := s₁
 repeat (first | (with_reducible refine wpAny_loadPart_at he ?_; first | rw [vL] | rw [HC]) | with_reducible refine wpAny_loadPart_at hC ?_ | (with_reducible refine wpAny_isSubtype_exc hC ?_; rw [Rr]) | wp_step)
 rw [HC]
 refine wpAny_pure ?_
 rw [RC]
 refine wpAny_pure ?_
 rw [if_neg (by decide)]
 exact wpAny_pure (wpAny_raiseNew_none hh hE)
end
def nA (n : Str) : Prop := n.length <= 1000 /\ ∀ c ∈ n.cps.toList, c < 1114112
def tW (C : Addr) (E : St -> XK) (ta : TA) : TS := fun _ σ H => ta σ H fun vs H1 => ∃ n, vs = [.str n] /\ nA n /\ ∀ d, H1 d = none -> E σ (.ref C) (some d) (upd H1 d (.xd [("name", .str n)]))
def dN (K : PySem.W.Frag) (C : Addr) : Sp := fun vs H Q _ => ∃ a n, vs = [.ref a, .str n] /\ nA n /\ H a = some (.ext (kg a C none)) /\ ∀ d, H d = none -> d ≠ a -> Q .aP (upd (upd H d (.xd [("name", .str n)])) a (.ext (kg a C (some d))))
theorem ko {X : Cx} {E : St -> XK} {C W fI : Addr} {k : Nat} {x : Str} {np cM pos : Pos} {e : Expr} {ta : TA} (hX : p0 X E) (hc : X.calm = true) (ha : PA X [e] ta) (hg : Gl X x) (hm : X.mg x = some (.ref C)) (hq : rB X.K C W fI) (hr : aU (k + 1) X.A)
 (F : mO X.prog X.w X.K X.mg X.base k fI ["self", "name"] [] (dN X.K C)) (hex : X.ex = [])
 (hs : starEach [e] X.env = (false, eval e X.env) :: starEach [] X.env := by rfl) (oE : (backTo cM (starEach [e] X.env)).any (·.1) = false := by rfl) (o4 : (x == ("__debug__" : Str)) = false := by decide) :
 PS X (.Raise (some (.Call (.Name x np) [e] [] cM)) none pos) (tW C E ta) := by
 intro pins s σ H D I h
 obtain ⟨nm, qn, N, bs, sn, sub, ab, col, dd, k0, k1, k2, k3, k5, hl⟩ := hq.cls
 have T := hq.tail I.fL
 rw [arm_exec_Raise]
 refine wpAny_bind (wpAny_standAt ?_)
 show wpAny _ _ (raiseStmt X.env (some (do let v <- eval (.Call (.Name x np) [e] [] cM) X.env; standAt pos; pure v)) none) _ _ s
 refine rK (C := C) (nm := nm) (q := qn) (N := N) (bs := bs) (bm := .ref W :: vT) (hdct := true) (sn := sn) (sub := sub) (ab := ab) (col := col) (dd := dd) (k0 := k0) (k1 := k1) (k2 := k2) (k3 := k3) (k5 := k5) (newId := "ValueError.__new__") (T.hasType (by decide)) (I.ok.hd hc) ?_
 refine wpAny_bind (wpAny_mono (Q := fun v s₁ => ∃ e oe vs, v = .ref e /\ s₁.heap.get? C = some (excClassObj nm qn C N bs (.ref W :: vT) true sn sub ab col dd k0 k1 k2 k3 k5 "ValueError.__new__") /\ s₁.heap.get? e = some oe /\ oe.cls = .ref C /\ oe.data = .fields vs /\ vs[1]? = some .none /\ X.xe (.ref e) s₁) ?_ (fun v s₁ z => wpAny_bind (wpAny_standAt (wpAny_pure z))) fun _ _ z => z)
 refine wpAny_Call_ofName (iS I hg hm ?_ o4)
 have hA := ha cM pins s σ H _ I h
 unfold callWith
 refine wpAny_bind (wpAny_holding ?_)
 rw [hs] at hA oE ⊢
 refine Calls.evalArgs_plain (bR hA fun us s1 ⟨vs, H1, I1, r1, n, hv, hn, q1⟩ => ?_)
 refine wpAny_bind (wpAny_standAt ?_)
 simp only [oE]
 have MZ := I1.fL _ _ hl
 have T1 := hq.tail I1.fL
 have JD : us.length <= sizeLine := by rw [<- r1.length, hv, sizeLine_eq]; simp
 obtain ⟨hp, g, d, tk, os⟩ := s1
 refine wpAny_bind (wpAny_keeperOf_exc MZ ?_)
 obtain ⟨fd, ds, F, hb, Rc⟩ := F.ex
 cases Rc
 refine wpAny_bind (lO PySem.F.excBase_ValueError T1 I1.fL MZ hq.init hq.fn (fun h' e hm => ?_) JD)
 obtain ⟨t0, e1, _, _⟩ := hm.there
 have I2 : Inv X pins σ H1 ⟨h', g, d, tk, os⟩ := I1.kept (t' := tk) fun b u z => hm.keeps b u z
 have dead : X.cf.heap.get? e = none := by
  cases q' : X.cf.heap.get? e with
  | none => rfl
  | some o =>
    obtain ⟨o2, z2⟩ := I1.base.there e o q' (by rw [hex]; intro y; cases y)
    rw [hm.new] at z2
    cases z2
 have LQ : H1 e = none := I1.aF.dead hm.new
 have I3 : Inv X pins σ (upd H1 e (.ext (kg e C none))) ⟨h', g, d, tk, os⟩ := I2.xG LQ dead (fun y => by
  obtain ⟨m, ⟨o, _, _, ho, _⟩, _⟩ := I1.loc
  rw [<- y, hm.new] at ho
  cases ho) (fun x c z y => by
  obtain ⟨v, o, ho, _⟩ := I1.cell x c z
  rw [y, hm.new] at ho
  cases ho) (fun p zc y => by
  have ho := (I1.pin p zc).1
  rw [y, hm.new] at ho
  cases ho) (kg.ext ⟨_, _, _, e1, rfl, rfl, rfl, rfl, rfl, rfl⟩)
 have r2 : Vals [.ref e, .str n] (.ref e :: us) := .cons rfl (hv ▸ r1)
 have qQ : dN X.K C [.ref e, .str n] (upd H1 e (.ext (kg e C none))) (fun v H2 => v = .aP /\ ∃ d, H1 d = none /\ d ≠ e /\ H2 = upd (upd (upd H1 e (.ext (kg e C none))) d (.xd [("name", .str n)])) e (.ext (kg e C (some d)))) E0 :=
  ⟨e, n, rfl, hn, aj, fun d' h1 h2 => ⟨rfl, d', by rw [ah h2] at h1; exact h1, h2, rfl⟩⟩
 have hlen : (Value.ref e :: us ++ []).length = ["self", "name"].length := by have := r2.length; simp at this ⊢; omega
 have Ot := hb ⟨h', g, d, tk, os⟩ (.ref e :: us) I2.fL hlen
 rw [List.append_nil] at Ot
 refine wpAny_call (codeAny_mono (F.run _ X.stack ⟨h', g, d, tk, os⟩ _ ⟨.ref e :: us, []⟩ (.ref e :: us) _ _ E0 (hr.make C us []) (I3.sd.make C us []) Ot r2 qQ) fun r s' uK => ?_)
 cases r with
 | error e => exact uK.elim
 | ok fl =>
   cases fl with
   | next => exact False.elim uK
   | brk => exact False.elim uK
   | cont => exact False.elim uK
   | ret u =>
     obtain ⟨v, H', I4, rv, ev, d', Cm, hd2, rfl⟩ := I3.after uK
     subst ev
     refine ⟨rv, wpAny_bind (wpAny_holding (wpAny_point (wpAny_pure ?_)))⟩
     obtain ⟨⟨oe, ws, v0, f1, f2, f3, f4, f5, f6, f7⟩, _⟩ := (show aO X.prog X.w _ s'.heap e (.ext (kg e C (some d'))) from I4.aF e _ aj)
     refine ⟨e, oe, ws, rfl, I4.fL _ _ hl, f1, f2, f4, f6, ?_⟩
     have eH : del (upd (upd (upd H1 e (.ext (kg e C none))) d' (.xd [("name", .str n)])) e (.ext (kg e C (some d')))) e = upd H1 d' (.xd [("name", .str n)]) := by
      funext b
      by_cases vQ : b = e
      . subst vQ; rw [qx, ah (Ne.symm hd2), LQ]
      . rw [tm vQ, ah vQ]
        unfold upd
        split <;> first | rfl | (rw [if_neg vQ])
     have I5 := I4.zz aj
     rw [eH] at I5
     exact hX pins σ _ s' e C (some d') oe ws I5 f1 f2 f3 f4 f6 f7 (by rw [ah (Ne.symm hd2)]; exact LQ) dead (q1 d' Cm)
theorem sU {M : Model} {A : Around} {E : Value -> Shared -> Prop} {h : Heap} {g : Array GenState} {d : Drawn} {t : Nat} {os : OsState} {a C D N N' : Addr} {oe : Obj} {nm q M5 q' : Str} {bs bm Nq Jz sub IB : List Value} {hdct IM ab NP : Bool} {sn Nn : List Str} {col Iy : Option Bool} {dd yY : Option Addr} {k0 k1 k2 k3 k5 l0 l1 l2 l3 l5 : Option Value} {newId DT : String} {Q : Bool -> Shared -> Prop} {b : Bool}
 (hC : h.get? C = some (excClassObj nm q C N bs bm hdct sn sub ab col dd k0 k1 k2 k3 k5 newId)) (hD : h.get? D = some (excClassObj M5 q' D N' Nq Jz IM Nn IB NP Iy yY l0 l1 l2 l3 l5 DT)) (he : h.get? a = some oe) (vL : oe.cls = .ref C) (hb : Jz.contains (.type "BaseException") = true)
 (hit : (Value.ref C :: bm).contains (.ref D) = b) (hq : Q b ⟨h, g, d, t, os⟩) : wpAny M A (excMatches (.ref a) (.ref D)) Q E ⟨h, g, d, t, os⟩ := by
 have c1 : (Value.ref D :: Jz).contains (.type "BaseException") = true := by rw [List.contains_cons, hb, Bool.or_true]
 have f := tc_notTuple
 unfold excMatches
 cases b
 . repeat (first | (with_reducible refine wpAny_loadPart_at he ?_; rw [vL]) | with_reducible refine wpAny_loadPart_at hD ?_ | (with_reducible refine wpAny_isSubtype_exc hD ?_; rw [c1]) | (with_reducible refine wpAny_isSubtype_exc hC ?_; rw [hit]) | wp_step)
   all_goals exact hq
 . repeat (first | (with_reducible refine wpAny_loadPart_at he ?_; rw [vL]) | with_reducible refine wpAny_loadPart_at hD ?_ | (with_reducible refine wpAny_isSubtype_exc hD ?_; rw [c1]) | (with_reducible refine wpAny_isSubtype_exc hC ?_; rw [hit]) | wp_step)
   all_goals exact hq
theorem AK {K : PySem.W.Frag} {h : Heap} {C D N : Addr} {nm q : Str} {bs bm sub : List Value} {hdct ab : Bool} {sn : List Str} {col : Option Bool} {dd : Option Addr} {k0 k1 k2 k3 k5 : Option Value} {newId : String} {b : Bool} (X : K.In h) (hC : h.get? C = some (excClassObj nm q C N bs bm hdct sn sub ab col dd k0 k1 k2 k3 k5 newId)) (hm : PySem.W.mroIn K C (.ref D) = some b) : (Value.ref C :: bm).contains (.ref D) = b := by
 unfold PySem.W.mroIn PySem.W.clsIn at hm
 split at hm
 . rename_i c' d' cd sl ho
   have z := X _ _ ho
   rw [hC] at z
   cases z
   simpa using hm
 . cases hm
theorem tH.keeps {h h' : Heap} {a T : Addr} {c : Value} {od : Option Addr} (t : tH h a T c od) (k : ∀ b o, h.get? b = some o -> h'.get? b = some o) : tH h' a T c od := by
 obtain ⟨oe, vs, oT, ts, e1, e2, e3, e4, e5, e6, e7, e8⟩ := t
 exact ⟨oe, vs, oT, ts, k _ _ e1, e2, e3, e4, e5, e6, k _ _ e7, e8⟩
def Nw (X : Cx) (cl : Expr) (hit : Addr -> Bool -> Prop) : Prop := ∀ (a C T : Addr) (od : Option Addr) (pins : List (Addr × Obj)) (σ : St) (H : Hp) (s : Shared) (Q : Bool -> Shared -> Prop) (E : Value -> Shared -> Prop) (b : Bool), Inv X pins σ H s -> tH s.heap a T (.ref C) od -> hit C b ->
 (∀ h', (∀ b o, s.heap.get? b = some o -> h'.get? b = some o) -> Q b { s with heap := h' }) ->
 wpAny (model X.prog X.w) (X.hand a).A (eval cl X.env) (fun c s1 => wpAny (model X.prog X.w) (X.hand a).A (excMatches (.ref a) c) Q E s1) E s
def G0 (K : PySem.W.Frag) (D C : Addr) (b : Bool) : Prop := oP K C /\ PySem.W.mroIn K C (.ref D) = some b
theorem uj {X : Cx} {x : Str} {np : Pos} {D : Addr} (hg : Gl X x) (hm : X.mg x = some (.ref D)) (hD : oP X.K D) (o4 : (x == ("__debug__" : Str)) = false := by decide) : Nw X (.Name x np) (G0 X.K D) := by
 intro a C T od pins σ H s Q E b I tr hit k
 refine iS (X := { X with xe := E }.hand a) (E := E) I.tj hg hm ?_ o4
 obtain ⟨bm, N, nm, q, bs, hd, sn, sub, ab, col, dd, k0, k1, k2, k3, k5, hC, _⟩ := hit.1 _ I.fL
 obtain ⟨Jz, N', M5, q', Nq, jY, Nn, IB, NP, Iy, yY, l0, l1, l2, l3, l5, Pp, T'⟩ := hD _ I.fL
 obtain ⟨oe, vs, oT, SE, e1, e2, e3, e4, e5⟩ := id tr
 exact sU hC Pp e1 e2 (T'.hasType (by decide)) (AK I.fL hC hit.2) (k _ fun _ _ z => z)
structure Ec where
 hit : Addr -> Bool -> Prop
 i : Option Nat
 ts : Addr -> TS
def wG (σ : St) (i : Option Nat) (v : Option V) : St := match i with
 | some i => σ.set i v
 | none => σ
def Dm (X : Cx) : Option Str -> Option Nat -> Prop
 | some n, some i => X.N[i]? = some n /\ X.env.scope.names.lookup n = some .local
 | none, none => True
 | _, _ => False
inductive jH (X : Cx) : List ExceptHandler -> List Ec -> Prop
 | nil : jH X [] []
 | cons {cl : Expr} {n : Option Str} {b0 : Stmt} {xk : List Stmt} {pos : Pos} {hs : List ExceptHandler} {hit : Addr -> Bool -> Prop} {i : Option Nat} {ts : Addr -> TS} {rs : List Ec} (hc : Nw X cl hit) (hb : ∀ a, nj (X.hand a) (b0 :: xk) (ts a)) (hn : Dm X n i) (r : jH X hs rs) :
  jH X (.ExceptHandler (some cl) n (b0 :: xk) pos :: hs) (⟨hit, i, ts⟩ :: rs)
def sD (D : Ends) (i : Option Nat) : Ends := { nx := fun σ H => D.nx (wG σ i none) H, rt := D.rt, bk := fun σ H => D.bk (wG σ i none) H, ct := fun σ H => D.ct (wG σ i none) H }
def zI (D : Ends) (σ : St) (C : Addr) (od : Option Addr) (H' : Hp) : List Ec -> Prop
 | [] => False
 | r :: rs => (r.hit C true /\ ∀ a, H' a = none -> r.ts a (sD D r.i) (wG σ r.i (some (.ref a))) (upd H' a (.ext (oI a C od)))) \/ (r.hit C false /\ zI D σ C od H' rs)
def Ct (tb : (St -> XK) -> TS) (rs : List Ec) (te : TS) : TS := fun D σ H =>
 tb (fun σ' c od H' => ∃ C, c = .ref C /\ zI D σ' C od H' rs) { D with nx := fun σ' H' => te D σ' H' } σ H
theorem Inv.gone {X : Cx} {pins : List (Addr × Obj)} {σ : St} {H : Hp} {s : Shared} {h' : Heap} {m : Str -> Option Value} {n : Str} {v : Option Value} {i : Nat} {t' : Nat} (I : Inv X pins σ H s) (hN : X.N.Nodup) (hi : X.N[i]? = some n)
 (loc : ∀ (j : Nat) (x : Str) (v : V), X.N[j]? = some x -> σ[j]? = some (some v) -> Ex X.env.scope x -> ∃ u, RelV v u /\ Look X.env s.heap m x u) (ns : h'.Ns X.env.locals (fun x => if x = n then v else m x)) (sb : Heap.SameBut X.env.locals s.heap h') : Inv X pins (σ.set i none) H { s with heap := h', toks := t' } := by
 have old : ∀ b o, X.cf.heap.get? b = some o -> b ≠ X.env.locals := fun b o e => Nat.ne_of_lt (Nat.lt_of_lt_of_le (Heap.lt_size e) I.ok.above)
 refine ⟨I.ok, I.os, I.bare, ⟨fun b o e n hb hx => (sb.2 b (old b o e)).trans (I.base.keep b o e n hb hx), fun b o e n hb hx => ?_, fun b o e n hx => I.base.free b o e n hx, fun b o e hx => ?_, I.base.gb, I.base.fJ, I.base.ib⟩, ⟨_, ns, fun j x w e1 e2 e3 => ?_⟩, fun x c e => ?_, I.free, I.cE, fun p hp => ?_, fun b u e => ?_, by rw [List.length_set]; exact I.len⟩
 . obtain ⟨sl, z⟩ := I.base.slot b o e n hb hx
   exact ⟨sl, (sb.2 b (old b o e)).trans z⟩
 . obtain ⟨o2, z⟩ := I.base.there b o e hx
   exact ⟨o2, (sb.2 b (old b o e)).trans z⟩
 . have OW : i ≠ j := fun y => by
    subst y
    rw [List.getElem?_set_self' ] at e2
    cases q : σ[i]? <;> rw [q] at e2 <;> cases e2
   rw [List.getElem?_set_ne OW] at e2
   obtain ⟨u, ru, l⟩ := loc j x w e1 e2 e3
   refine ⟨u, ru, ?_⟩
   have LL : x ≠ n := fun y => OW (lV hN hi (y ▸ e1))
   rcases l with ⟨k, l⟩ | ⟨k, c, e, o, ho, hd⟩
   . exact .inl ⟨k, by show (if x = n then v else m x) = _; rw [if_neg LL]; exact l⟩
   . exact .inr ⟨k, c, e, o, (sb.2 c (I.Aq x c e)).trans ho, hd⟩
 . obtain ⟨v, o, ho, hd⟩ := I.cell x c e
   exact ⟨v, o, (sb.2 c (I.Aq x c e)).trans ho, hd⟩
 . obtain ⟨e, n, ne, nf, d⟩ := I.pin p hp
   exact ⟨(sb.2 p.1 ne).trans e, n, ne, nf, d⟩
 . refine (I.aF b u e).iA (fun c v hc q => (sb.2 c fun z => ?_).trans q) (fun _ q => q) fun _ _ q => q
   have kK : H c ≠ none := by
    rcases hc with rfl | hc
    . rw [e]; intro z; cases z
    . rw [hc]; intro z; cases z
   exact kK (z ▸ I.free)
section
variable {X : Cx} {pins : List (Addr × Obj)} {σ : St} {H : Hp} {a C : Addr} {od : Option Addr} {Dn : Ends}
def JH (X : Cx) (pins : List (Addr × Obj)) (b : Addr) : Prop := X.cf.heap.get? b = none /\ b ≠ X.env.locals /\ (∀ x c, X.env.cells.lookup x = some c -> c ≠ b) /\ ∀ p ∈ X.pn ++ pins, p.1 ≠ b
theorem p5 (hN : X.N.Nodup) (ha : H a = none) (fa : JH X pins a) {hs : List ExceptHandler} {rs : List Ec} (ok : jH X hs rs) : ∀ (s : Shared) (T : Addr), Inv X pins σ H s -> tH s.heap a T (.ref C) od -> H T = none -> JH X pins T -> zI Dn σ C od H rs ->
 wpAny (model X.prog X.w) X.A (handleBy (.ref a) X.env hs) (SP X pins Dn) X.xe s := by
 induction ok with
 | nil => intro s T _ _ _ _ h; exact h.elim
 | @cons cl n b0 xk pos hs hit i ts rs hc hb hn r ih =>
   intro s T J tr hT fT h
   refine wpAny_handleBy_cons (codeAny_handlers_test ?_) (by intro q; cases q)
   rcases h with ⟨h1, Jw⟩ | ⟨h1, h2⟩
   . refine hc a C T od pins σ H s _ _ true J tr h1 fun h3 k3 => ?_
     have J3 : Inv X pins σ H { s with heap := h3 } := J.kept (t' := s.toks) fun b u e => k3 b u e
     have Jc := tr.keeps k3
     have lay : ∀ h4, tH h4 a T (.ref C) od -> (∀ b o, b ≠ T -> h3.get? b = some o -> h4.get? b = some o) -> Inv X pins σ (upd H a (.ext (oI a C od))) { s with heap := h4 } := fun h4 Gi k4 => by
      have J4 : Inv X pins σ H { s with heap := h4 } := J3.lv (S := [T]) (t' := s.toks) ⟨fun b o _ n2 z => k4 b o (by simpa using n2) z, fun b o m z => ⟨o.slots, k4 b o (fun y => ?_) z⟩⟩ fun b hb => by
       have : b = T := by simpa using hb
       subst this
       exact ⟨hT, fT⟩
      . obtain ⟨Rq, RB, RX, SK, f1, f2, f3, f4, _, _, _, _, _, f5⟩ := id Gi
        exact J4.xG ha fa.1 fa.2.1 fa.2.2.1 fa.2.2.2 (oI.ext ⟨Rq, RB, f1, f2, f3, f4, f5⟩)
      . subst y
        obtain ⟨_, _, _, _, _, _, _, _, _, _, f7, f8, _⟩ := id Jc
        obtain ⟨_, o', z', hn⟩ := J3.stack.mem m
        rw [f7] at z'
        cases z'
        exact hn _ f8
     cases n with
     | none =>
       cases i with
       | some _ => exact hn.elim
       | none =>
       refine codeAny_handlers_suite ?_
       refine iY (s := { s with heap := h3 }) Jc fun h4 Gi k4 => ?_
       refine wpAny_mono (hb a pins _ _ _ _ (lay h4 Gi k4).tj (Jw a ha)) (fun fl s7 q7 => ?_) (fun _ _ z => z.elim)
       cases fl with
       | next => obtain ⟨σ7, H7, J7, q8⟩ := q7; exact ⟨_, _, J7.mS J.ok, q8⟩
       | brk => obtain ⟨σ7, H7, J7, q8⟩ := q7; exact ⟨_, _, J7.mS J.ok, q8⟩
       | cont => obtain ⟨σ7, H7, J7, q8⟩ := q7; exact ⟨_, _, J7.mS J.ok, q8⟩
       | ret u => obtain ⟨v, σ7, H7, J7, r7, q8⟩ := q7; exact ⟨v, _, _, J7.mS J.ok, r7, q8⟩
     | some nn =>
       cases i with
       | none => exact hn.elim
       | some ii =>
       obtain ⟨hi, hk⟩ := hn
       refine codeAny_handlers_suite_as ?_
       refine iY (s := { s with heap := h3 }) Jc fun h4 Gi k4 => ?_
       refine mz (X := X.hand a) (v := .ref a) (i := ii) (lay h4 Gi k4).tj hN hi (.inl hk) rfl (fun s6 J6 => ?_) (.inr hk)
       refine wpAny_mono (hb a pins s6 _ _ _ J6 (Jw a ha)) (fun fl s7 q7 => ?_) (fun _ _ z => z.elim)
       have core : ∀ {σ7 : St} {H7 : Hp}, Inv (X.hand a) pins σ7 H7 s7 -> (∀ s8, Inv X pins (σ7.set ii none) H7 s8 -> SP X pins Dn fl s8) -> wpAny (model X.prog X.w) X.A (do bindName X.env nn .none; unbindBehindTheSuite X.env nn pos) (fun _ s8 => SP X pins Dn fl s8) X.xe s7 := fun {σ7 H7} J7 fin => by
        have J8 := J7.mS J.ok
        obtain ⟨m, vR, MQ⟩ := J8.loc
        exact wpAny_nameGoes_keeps hk vR (by rw [J.ok.kind]; rfl) fun h8 v8 ME sb => fin _ (J8.gone hN hi MQ ME sb)
       cases fl with
       | next => obtain ⟨σ7, H7, J7, q8⟩ := q7; exact core J7 fun s8 J8 => ⟨_, _, J8, q8⟩
       | brk => obtain ⟨σ7, H7, J7, q8⟩ := q7; exact core J7 fun s8 J8 => ⟨_, _, J8, q8⟩
       | cont => obtain ⟨σ7, H7, J7, q8⟩ := q7; exact core J7 fun s8 J8 => ⟨_, _, J8, q8⟩
       | ret u => obtain ⟨v, σ7, H7, J7, r7, q8⟩ := q7; exact core J7 fun s8 J8 => ⟨v, _, _, J8, r7, q8⟩
   . refine hc a C T od pins σ H s _ _ false J tr h1 fun h3 k3 => ?_
     exact ih _ T (J.kept (t' := s.toks) fun b u e => k3 b u e) (tr.keeps k3) hT fT h2
end
theorem uo {X : Cx} {body orelse : List Stmt} {h0 : ExceptHandler} {hs : List ExceptHandler} {rs : List Ec} {pos : Pos} {tb : (St -> XK) -> TS} {te : TS}
 (hb : ∀ (f : Value -> Shared -> Prop) (pn : List (Addr × Obj)) (E' : St -> XK), lB (qA X.prog X.w) (X.A8 f pn) E' -> nj (X.A8 f pn) body (tb E')) (ho : nj X orelse te) (hh : jH X (h0 :: hs) rs)
 (hN : X.N.Nodup) (kN : X.stack = X.env :: X.outer) (hf : X.env.frame = some X.env.locals) (hex : X.ex = []) :
 PS X (.Try body (h0 :: hs) orelse [] pos) (Ct tb rs te) := by
 intro pins s σ H Dn I h
 refine wpAny_Try_except ?_
 refine wpAny_mono (hb (fun e s1 => wpAny (model X.prog X.w) X.A (noteFrame e X.env) (fun _ s2 => wpAny (model X.prog X.w) X.A (setFlight e none) (fun _ s3 => wpAny (model X.prog X.w) X.A (handleBy e X.env (h0 :: hs)) (SP X pins Dn) X.xe s3) X.xe s2) X.xe s1) (X.pn ++ pins) _ ?_ [] s σ H _ I.Gm h) ?_ (fun e s1 z => z)
 . intro qG σ' H1 s1 e s2 I1 ⟨a, T, C, od, H', he, os, bare, un, aF, tr, na, nT, ha, hT, C', N6, Jw⟩
   subst he
   cases N6
   have I2 := I1.wa (ch := []) os un aF bare (fun b z => nomatch z)
   have J := I2.nG (pins := pins)
   have Ox := I1.nG (pins := pins)
   have rp : ∀ {s' : Shared} {GZ : St} {Og : Hp}, Inv X pins GZ Og s' -> ∀ b, s'.heap.get? b = none -> JH X pins b := fun {s' GZ Og} I b z => by
    refine ⟨?_, fun y => ?_, fun x c e y => ?_, fun p hp y => ?_⟩
    . cases q : X.cf.heap.get? b with
      | none => rfl
      | some o =>
        obtain ⟨o2, z2⟩ := I.base.there b o q (by rw [hex]; intro y; cases y)
        rw [z] at z2
        cases z2
    . obtain ⟨m, ⟨o, _, _, ho, _⟩, _⟩ := I.loc
      rw [<- y, z] at ho
      cases ho
    . obtain ⟨v, o, ho, _⟩ := I.cell x c e
      rw [y, z] at ho
      cases ho
    . have ho := (I.pin p hp).1
      rw [y, z] at ho
      cases ho
   have fa := rp Ox a na
   have fT := rp Ox T nT
   show wpAny _ _ (noteFrame (.ref a) X.env) _ _ s2
   refine mB (base := X.base) (by rw [<- kN]; exact J.ok.frames) (by rw [<- kN]; exact J.stack) hf tr fun h3 T3 Jc Ht lv => ?_
   have J3 : Inv X pins σ' H' { s2 with heap := h3 } := J.lv (S := [a, T]) (t' := s2.toks) (by rw [kN]; exact lv) fun b hb => by
    have : b = a \/ b = T := by simpa using hb
    rcases this with rfl | rfl
    . exact ⟨ha, fa⟩
    . exact ⟨hT, fT⟩
   have HM : H' T3 = none /\ JH X pins T3 := by
    rcases Ht with rfl | z
    . exact ⟨hT, fT⟩
    . exact ⟨J.aF.dead z, rp J _ z⟩
   exact p5 hN ha fa hh _ T3 J3 Jc HM.1 HM.2 Jw
 . intro f s1 q
   cases f with
   | next => obtain ⟨σ7, H7, J7, q8⟩ := q; exact ho pins s1 σ7 H7 Dn J7.nG q8
   | brk => obtain ⟨σ7, H7, J7, q8⟩ := q; exact ⟨σ7, H7, J7.nG, q8⟩
   | cont => obtain ⟨σ7, H7, J7, q8⟩ := q; exact ⟨σ7, H7, J7.nG, q8⟩
   | ret u => obtain ⟨v, σ7, H7, J7, r7, q8⟩ := q; exact ⟨v, σ7, H7, J7.nG, r7, q8⟩
def v9 (K : PySem.W.Frag) : V -> Hp -> VK -> Prop := fun x H Q => ∃ a C W fI d fs v, x = .ref a /\ H a = some (.ext (oI a C (some d))) /\ rB K C W fI /\ H d = some (.xd fs) /\ fs.lookup (Str.ofString "name") = some v /\ Q v H
def yq (K : PySem.W.Frag) (ta : TE) : TE := fun σ H Q => ta σ H fun x H1 => v9 K x H1 Q
theorem zF {X : Cx} {e : Expr} {ta : TE} {pos : Pos} (he : PE X e ta) (hb : attributeBase e "name" X.env (eval e X.env) = eval e X.env) : PE X (.Attribute e "name" pos) (yq X.K ta) := by
 intro pins s σ H Q I h
 refine uw hb (bR (he pins s σ H _ I h) fun u s1 ⟨x, H1, I1, rx, a, C, W, fI, d, fs, v, ex, ea, n, ed, l, q⟩ => ?_)
 subst ex
 obtain rfl : u = Value.ref a := rx
 obtain ⟨⟨o, vs, e1, e2, e3, e4, e5⟩, _⟩ := (show aO X.prog X.w H1 s1.heap a (.ext (oI a C (some d))) from I1.aF a _ ea)
 obtain ⟨mA, vR, hr⟩ := (show aO X.prog X.w H1 s1.heap d (.xd fs) from I1.aF d _ ed)
 obtain ⟨od, ho, hl⟩ := nV vR
 have J : InstAt s1.heap a o C (some od) := ⟨e1, e2, by unfold notCls; rw [e4], by rw [e3]; exact ho⟩
 obtain ⟨u, hu, ru⟩ := hZ.some_of (v := v) (o := mA (Str.ofString "name")) (by rw [<- l]; exact hr _)
 exact Bl n.te I1.fL J n.nm (by rw [hl, hu]) (n8 ru) ⟨v, H1, I1.tok _, ru, q⟩
theorem repr_len {x : Str} (h : nA x) : (reprText x).length <= 11000 := by
 unfold reprText
 show ((x.cps.foldl (fun out c => out ++ (Builtin.Str.reprChar (reprQuote x) c).toArray) #[reprQuote x]).push (reprQuote x)).size <= _
 rw [Array.size_push, <- Array.foldl_toList]
 have := PySem.StrLaws.foldl_repr_len (reprQuote x) x.cps.toList #[reprQuote x] (fun c hc => by have := h.2 c hc; omega)
 have e1 : (#[reprQuote x] : Array Nat).size = 1 := rfl
 have hl : x.cps.toList.length <= 1000 := by rw [Array.length_toList]; exact h.1
 omega
def Ao : V -> Hp -> VK -> Prop := fun v H Q => ∃ x, v = .str x /\ nA x /\ ∀ z, Q (.str z) H
def zr (te : TE) : TE := fun σ H Q => te σ H fun v H1 => Ao v H1 Q
section
variable {X : Cx} {e : Expr} {te : TE} {y y2 : Str} {k k2 : Nat} {p1 p2 p3 pos : Pos}
theorem oz {acc : Str} {Q : Value -> Shared -> Prop} {R : List (Sem Value)} {pins : List (Addr × Obj)} {s : Shared} {σ : St} {H : Hp} {QV : VK} (he : PE X e te) (I : Inv X pins σ H s) (cO : acc.length <= 1000) (h : te σ H fun v H1 => Ao v H1 QV)
 (k : ∀ r H1 s1, r.length <= 11000 -> Inv X pins σ H1 s1 -> (∀ z, QV (.str z) H1) -> Joins (model X.prog X.w) X.A X.xe R (acc ++ r) (fun out s₁ => out.length <= sizeLine /\ Q (.str out s₁.toks) { s₁ with toks := s₁.toks + 1 }) s1) :
 Joins (model X.prog X.w) X.A X.xe (eval (.FormattedValue e 114 none p1) X.env :: R) acc (fun out s₁ => out.length <= sizeLine /\ Q (.str out s₁.toks) { s₁ with toks := s₁.toks + 1 }) s := by
 show wpAny _ _ (eval (.FormattedValue e 114 none p1) X.env) _ _ s
 refine PySem.wpAny_FormattedValue_repr (bR (he pins s σ H _ I h) fun v s1 ⟨w, H1, I1, r1, x, ex, hx, q⟩ => ?_)
 subst ex
 obtain ⟨t, rfl⟩ := r1
 have hr := repr_len hx
 have Eo : sizeLine = 16777216 := sizeLine_eq
 refine PySem.wpAny_pyReprObj_gives (T := "str") (typeIs_str _ _ _) F.slot_str_repr F.entry_str_repr (F.args_str_repr_1 _) (gives_str_repr x t) ?_ rfl (by omega)
 refine formatField_str (fun t' tk => ⟨reprText x, t', rfl, ?_, ?_⟩) (by omega)
 . rw [strLen_append]; omega
 . exact k _ _ _ hr ((I1.tok _).tok _) q
theorem zG (he : PE X e te) (hy : y.length <= 1000) : PE X (.JoinedStr [.FormattedValue e 114 none p1, .Constant (.str y) k p2] pos) (zr te) := by
 intro pins s σ H Q I h
 have Eo : sizeLine = 16777216 := sizeLine_eq
 refine wpAny_JoinedStr (oz he I (by decide) h fun r H1 s1 hr I1 q => ?_)
 show wpAny _ _ (eval (.Constant (.str y) k p2) X.env) _ _ _
 have e0 : (Str.empty ++ r).length = r.length := by rw [strLen_append]; show 0 + _ = _; omega
 refine Calls.Constant_str ⟨y, _, rfl, ?_, ?_, ?_⟩
 . rw [strLen_append, e0]; omega
 . rw [strLen_append, e0]; omega
 . exact ⟨.str _, H1, (I1.tok _).tok _, ⟨_, rfl⟩, q _⟩
theorem BD (he : PE X e te) (hy : y.length <= 1000) : PE X (.JoinedStr [.Constant (.str y) k p2, .FormattedValue e 114 none p1] pos) (zr te) := by
 intro pins s σ H Q I h
 have Eo : sizeLine = 16777216 := sizeLine_eq
 have e0 : (Str.empty ++ y).length = y.length := by rw [strLen_append]; show 0 + _ = _; omega
 refine wpAny_JoinedStr ?_
 show wpAny _ _ (eval (.Constant (.str y) k p2) X.env) _ _ _
 refine Calls.Constant_str ⟨y, _, rfl, by rw [e0]; omega, ?_⟩
 refine oz he (I.tok _) (by rw [e0]; exact hy) h fun r H1 s1 hr I1 q => ?_
 refine ⟨?_, .str _, H1, I1.tok _, ⟨_, rfl⟩, q _⟩
 rw [strLen_append, e0]; omega
theorem zt (he : PE X e te) (hy : y.length <= 1000) (BZ : y2.length <= 1000) : PE X (.JoinedStr [.Constant (.str y) k p2, .FormattedValue e 114 none p1, .Constant (.str y2) k2 p3] pos) (zr te) := by
 intro pins s σ H Q I h
 have Eo : sizeLine = 16777216 := sizeLine_eq
 have e0 : (Str.empty ++ y).length = y.length := by rw [strLen_append]; show 0 + _ = _; omega
 refine wpAny_JoinedStr ?_
 show wpAny _ _ (eval (.Constant (.str y) k p2) X.env) _ _ _
 refine Calls.Constant_str ⟨y, _, rfl, by rw [e0]; omega, ?_⟩
 refine oz he (I.tok _) (by rw [e0]; exact hy) h fun r H1 s1 hr I1 q => ?_
 show wpAny _ _ (eval (.Constant (.str y2) k2 p3) X.env) _ _ _
 refine Calls.Constant_str ⟨y2, _, rfl, ?_, ?_, ?_⟩
 . rw [strLen_append, strLen_append, e0]; omega
 . rw [strLen_append, strLen_append, e0]; omega
 . exact ⟨.str _, H1, (I1.tok _).tok _, ⟨_, rfl⟩, q _⟩
end
section
variable {σ : St} {H : Hp} {Q : VK} {D : Ends} {K : PySem.W.Frag} {C : Addr} {E : St -> XK}
theorem Au {m : Str} {sp : Sp} {bA : List V} {ta : TE} {t : TA} (h : ta σ H fun x H1 => ∃ a dx fs, x = .ref a /\ H1 a = some (.ins C dx fs) /\ fs.lookup m = none /\ t σ H1 fun vs H2 => g4 sp (x :: (vs ++ bA)) H2 Q (E σ)) : xq C m sp bA E ta t σ H Q := h
theorem yT {ta : TA} (h : ta σ H fun vs H1 => ∃ n, vs = [.str n] /\ nA n /\ ∀ d, H1 d = none -> E σ (.ref C) (some d) (upd H1 d (.xd [("name", .str n)]))) : tW C E ta D σ H := h
theorem kn {n : Str} {H1 : Hp} {G : Value -> Option Addr -> Hp -> Prop} (hn : nA n) (h : ∀ d, H1 d = none -> G (.ref C) (some d) (upd H1 d (.xd [("name", .str n)]))) : ∃ m, [V.str n] = [.str m] /\ nA m /\ ∀ d, H1 d = none -> G (.ref C) (some d) (upd H1 d (.xd [("name", .str m)])) := ⟨n, rfl, hn, h⟩
theorem vj {t : TA} (h : t σ H fun vs H1 => lH K vs H1 Q) : pS K t σ H Q := h
theorem jg {a : Addr} {od : Option Addr} {y : V} (h1 : H a = some (.ext (kg a C od))) (h2 : oP K C) (h : Q .aP H) : lH K [.ref a, y] H Q := ⟨a, C, od, [y], rfl, by simp, h1, h2, h⟩
theorem AO {ta tv : TE} (h : tv σ H fun y H1 => ta σ H1 fun x H2 => ∃ a C W fI, x = .ref a /\ H2 a = some (.ext (kg a C none)) /\ rB K C W fI /\ ∀ d, H2 d = none -> d ≠ a -> D.nx σ (upd (upd H2 d (.xd [("name", y)])) a (.ext (kg a C (some d))))) : B3 K ta tv D σ H := h
theorem Jq {te : TE} (h : te σ H fun v H1 => Ao v H1 Q) : zr te σ H Q := h
theorem Eu {x : Str} (hx : nA x) (h : ∀ z, Q (.str z) H) : Ao (.str x) H Q := ⟨x, rfl, hx, h⟩
theorem CU {ta : TE} (h : ta σ H fun x H1 => v9 K x H1 Q) : yq K ta σ H Q := h
theorem tV {a d W fI : Addr} {fs : List (Str × V)} {v : V} (h1 : H a = some (.ext (oI a C (some d)))) (h2 : rB K C W fI) (h3 : H d = some (.xd fs)) (h4 : fs.lookup (Str.ofString "name") = some v) (h : Q v H) : v9 K (.ref a) H Q := ⟨a, C, W, fI, d, fs, v, rfl, h1, h2, h3, h4, h⟩
theorem Dd {tb : (St -> XK) -> TS} {rs : List Ec} {te : TS} (h : tb (fun σ' c od H' => ∃ C, c = .ref C /\ zI D σ' C od H' rs) { D with nx := fun σ' H' => te D σ' H' } σ H) : Ct tb rs te D σ H := h
end
theorem qB {X : Cx} {K : PySem.W.Frag} (h : X.K = K) {e : Expr} {ta : TE} {pos : Pos} (he : PE X e ta) (hb : attributeBase e "name" X.env (eval e X.env) = eval e X.env) : PE X (.Attribute e "name" pos) (yq K ta) := h ▸ zF he hb
section
variable {prog : Program} {w : World} {A : Around} {R : Result -> Shared -> Prop} {I S : Addr} {fp wr : List Addr} {n : Nat} {P : Nat -> Value -> Prop} {St : Nat -> Heap -> Prop} {bt : Nat -> Nat -> Bool}
end
section
variable {prog : Program} {w : World} {A : Around} {E : Value -> Shared -> Prop} {s : Shared}
end
section
variable {X : Cx}
end
section
variable {σ : St} {H : Hp} {Q : VK} {D : Ends} {K : PySem.W.Frag}
def Jb (K : PySem.W.Frag) (vs : List V) (g : TG) (tb : TS) (D : Ends) (σ : St) (H1 : Hp) : Prop := ∃ a, vs = [.ref a] /\ (∃ xs, dY K H1 a xs) /\ ∃ W : Nat -> Nat -> St -> Hp -> Prop, (∃ m, W 0 m σ H1) /\ ∀ i m σ H, W i m σ H ->
 ((Hw K a).stop i H /\ D.nx σ H) \/ ((Hw K a).go i H /\ ∃ N : St -> Hp -> Prop, (∀ σ' H', N σ' H' -> ∃ m', m' < m /\ W (i + 1) m' σ' H') /\ ∀ x H', (Hw K a).F2 i H x H' -> g x σ H' fun σ2 H2 => tb { D with nx := N, ct := N, bk := D.nx } σ2 H2)
theorem Dq {ta : TA} {g : TG} {tb : TS} (h : ta σ H fun vs H1 => Jb K vs g tb D σ H1) : Ak (Cq K ta) g tb D σ H := h
theorem Jj {Hb : Hp} {v : V} {cs : List Int} {g : TG} {tb : TS} (hl : Dv Hb v (.list (cs.map PyData.int))) (Pv : Nat -> St -> Hp -> Prop) (h0 : Pv 0 σ H) (hk : ∀ i σ H', i <= cs.length -> Pv i σ H' -> ∀ a xs, v = .ref a -> dY K Hb a xs -> dY K H' a xs)
 (hs : ∀ i c t σ H', cs[i]? = some c -> Pv i σ H' -> H' t = none -> g (.ref t) σ (upd H' t (.tup [.int (i : Int), .int c])) fun σ2 H2 => tb { D with nx := Pv (i + 1), ct := Pv (i + 1), bk := D.nx } σ2 H2) (hd : ∀ σ H', Pv cs.length σ H' -> D.nx σ H') : Jb K [v] g tb D σ H := by
 obtain ⟨p, xs, rfl, e, dv⟩ := hl.lst_inv
 have Lz : xs.length = cs.length := by rw [dv.length, List.length_map]
 have at' : ∀ i σ H', i <= cs.length -> Pv i σ H' -> dY K H' p xs := fun i σ H' hi hp => hk i σ H' hi hp p xs rfl (e K)
 refine ⟨p, rfl, ⟨xs, at' 0 σ H (Nat.zero_le _) h0⟩, fun i m σ H => i <= cs.length /\ m = cs.length - i /\ Pv i σ H, ⟨_, Nat.zero_le _, rfl, h0⟩, ?_⟩
 rintro i m σ H' ⟨hi, hm, hp⟩
 have wZ := at' i σ H' hi hp
 by_cases hc : i = cs.length
 . subst hc
   exact .inl ⟨⟨xs, wZ, by omega⟩, hd σ H' hp⟩
 . have Mr : i < xs.length := by omega
   refine .inr ⟨⟨xs, xs[i], wZ, List.getElem?_eq_getElem Mr⟩, Pv (i + 1), fun σ' H2 IZ => ⟨cs.length - (i + 1), by omega, by omega, rfl, IZ⟩, fun x H2 hy => ?_⟩
   obtain ⟨t, x', hy, rfl, ht, rfl⟩ := hy
   have hx := hy xs wZ
   have CH : cs[i]? = some cs[i] := List.getElem?_eq_getElem (by omega)
   obtain ⟨x2, Ny, hd⟩ := dv.get (i := i) (d := .int cs[i]) (by rw [List.getElem?_map, CH]; rfl)
   rw [hx] at Ny
   cases Ny
   obtain rfl := hd.int_inv
   exact hs i cs[i] t σ H' CH hp ht
end
theorem PS.y3 {X : Cx} {st : Stmt} {t : TS} (h : PS X.y3 st t) : PS X st t := fun pins s σ H D I hw =>
 wpAny_mono (h pins s σ H D (I.lE _) hw) (fun _ _ q => q.gG) fun _ _ z => False.elim z
section
variable {σ : St} {H : Hp} {Q : VK} {K : PySem.W.Frag}
end
section
variable {X : Cx}
end
section
open PySem.SeqAt
open PySem.AutoSeq1 (wpAny_loadPart')
open PySem.MeetsSeq PySem.MeetsSeq2 PySem.MeetsSeq3
end
section
variable {X : Cx}
end
section
variable {σ : St} {H : Hp} {Q : VK} {D : Ends} {K : PySem.W.Frag}
end
section
variable {X : Cx}
end
section
variable {σ : St} {H : Hp} {Q : VK}
end
def iB (sp : Sp) : Sp := fun vs H Q _ => sp vs H Q fun _ _ _ => False
section
variable {P : Program} {w : World} {K : PySem.W.Frag} {mg : Str -> Option Value} {base : Heap} {k : Nat} {f : Addr} {fd : FuncData} {ps : List Str} {bA : List V} {sp : Sp}
theorem bH.calm (F : bH P w K mg base (qA P w) k f fd ps sp) : bH P w K mg base jR k f fd ps (iB sp) :=
 ⟨fun vs H Q _ h => F.len vs H Q _ h, fun A outer s H args us vs Q E hr he hb hv hs => codeAny_mono (F.run A outer s H args us vs Q _ hr he hb hv hs) fun r s' h => by
  cases r with
  | ok g => cases g <;> exact h
  | error e =>
    obtain ⟨_, _, _, _, _, _, _, _, _, _, _, _, _, _, _, z⟩ := h
    exact z⟩
theorem mF.calm (c : mF P w K mg base k f ps bA sp) : mO P w K mg base k f ps bA (iB sp) :=
 let ⟨fd, ds, F, b, v⟩ := c.ex
 ⟨fd, ds, F.calm, b, v⟩
end
section
variable {X : Cx}
end
section
variable {σ : St} {H : Hp} {Q : VK}
end
def BM (mg : Str -> Option Value) (h : Heap) : Prop := ∃ bm ob, mg "__builtins__" = some (.ref bm) /\ bm ≠ builtinsNs /\ h.get? bm = some ob /\ ob.cls = .type "module" /\ ob.dict = some builtinsNs /\ ob.data = .plain
def lF (c : Addr) (q : Str) : HO := .ext fun h => h.CodeRec (.ref c) q
def TabAt (H : Hp) (P : Addr) (pos : Pos) (q : Str) : Prop := H P = some (.ia #[]) \/ ∃ c, c ≠ P /\ H P = some (.ia #[rawInt pos.line, rawInt pos.col, .ref c]) /\ H c = some (lF c q)
theorem TabAt.keeps {H H' : Hp} {P : Addr} {pos : Pos} {q : Str} (sm : au H H') (h : TabAt H P pos q) : TabAt H' P pos q := by
 rcases h with h | ⟨c, h0, h1, h2⟩
 . exact .inl (sm _ _ h)
 . exact .inr ⟨c, h0, sm _ _ h1, sm _ _ h2⟩
theorem TabAt.mv {H H' : Hp} {S : List Addr} {P : Addr} {pos : Pos} {q : Str} (mv : Mv S H H') (hS : ∀ b ∈ S, b ≠ P /\ ∀ φ, H b ≠ some (.ext φ)) (h : TabAt H P pos q) : TabAt H' P pos q := by
 rcases h with h | ⟨c, h0, h1, h2⟩
 . exact .inl (mv.at (fun z => (hS _ z).1 rfl) h)
 . exact .inr ⟨c, h0, mv.at (fun z => (hS _ z).1 rfl) h1, mv.at (fun z => (hS _ z).2 _ h2) h2⟩
theorem yw {P : Program} {w : World} {H : Hp} {h : Heap} {c : Addr} {q : Str} (e : h.CodeRec (.ref c) q) : aO P w H h c (lF c q) := by
 refine ⟨e, ?_, fun h1 h2 x k => ?_⟩
 . obtain ⟨c', o, vs, t, e1, e2, _⟩ := e
   cases e1
   exact ⟨o, e2⟩
 . obtain ⟨c', o, vs, t, e1, e2, r⟩ := x
   cases e1
   exact ⟨c, o, vs, t, rfl, k _ e2, r⟩
theorem qH {env : Env} {x : Str} {c : Addr} (hc : env.cells.lookup x = some c) : ∀ (names : List (Str × NameKind)) (acc : List (Str × Addr)), (names.filter fun y => y.2 == .free).map (·.1) = [x] ->
 (forIn names acc fun (y : Str × NameKind) (cs : List (Str × Addr)) => (if (y.2 == NameKind.free) = true then (do let a <- cellOf env y.1; pure (ForInStep.yield ((y.1, a) :: cs))) else pure (ForInStep.yield cs) : Sem _)) = pure ((x, c) :: acc)
 | [], _, h => by cases h
 | (n, k) :: r, acc, h => by
   rw [List.forIn_cons]
   by_cases hk : (k == NameKind.free) = true
   . simp only [hk, if_true]
     rw [List.filter_cons, if_pos hk, List.map_cons] at h
     obtain ⟨e1, e2⟩ := List.cons.inj h
     have e1 : n = x := e1
     subst e1
     have HS : cellOf env n = pure c := by unfold cellOf; rw [hc]
     rw [HS]
     simp only [pure_bind]
     have e3 : r.filter (fun y => y.2 == .free) = [] := List.map_eq_nil_iff.mp e2
     clear h
     induction r generalizing acc with
     | nil => rfl
     | cons y r ih =>
       rw [List.forIn_cons]
       have hy : (y.2 == NameKind.free) = false := by
        cases z : (y.2 == NameKind.free) with
        | false => rfl
        | true => rw [List.filter_cons, if_pos z] at e3; cases e3
       have e4 : r.filter (fun y => y.2 == .free) = [] := by rw [List.filter_cons, if_neg (by rw [hy]; decide)] at e3; exact e3
       simp only [hy, Bool.false_eq_true, if_false, pure_bind]
       exact ih acc (by rw [e4]; rfl) e4
   . have tX : (k == NameKind.free) = false := by simpa using hk
     rw [List.filter_cons, if_neg (by rw [tX]; decide)] at h
     simp only [tX, Bool.false_eq_true, if_false, pure_bind]
     exact qH hc r acc h
theorem pW {scope : Scope} {env : Env} {x : Str} {c : Addr} (h : (scope.names.filter fun y => y.2 == .free).map (·.1) = [x]) (hc : env.cells.lookup x = some c) : closureFor scope env = pure [(x, c)] := by
 unfold closureFor
 have := qH hc scope.names [] h
 simp only [bind_pure_comp] at this ⊢
 rw [this, pure_bind]
section
variable {X : Cx} {pins : List (Addr × Obj)} {σ : St} {H : Hp} {s : Shared} {c P : Addr} {params : Arguments} {body : Expr} {scope : Scope} {pos : Pos} {bU : List (Str × Addr)} {E : Value -> Shared -> Prop}
theorem Inv.grow {h' : Heap} {c' P : Addr} {ps more : Array Value} {q : Str} {tk : Nat} (I : Inv X pins σ H s) (hT : H P = some (.ia ps)) (hx : Heap.ExtBut P s.heap h') (FG : s.heap.objs.size <= c') (Fq : h'.CodeRec (.ref c') q) (hP : h'.get? P = some (tabObj (ps ++ more))) :
 Inv X pins σ (upd (upd H P (.ia (ps ++ more))) c' (lF c' q)) { s with heap := h', toks := tk } := by
 have Fo : H c' = none := I.aF.fresh FG
 have JW : P ≠ c' := ay hT Fo
 have nP : ∀ b, H b = none -> b ≠ P := fun b n z => by rw [z, hT] at n; cases n
 have kp : ∀ b u, b ≠ P -> H b = some u -> upd (upd H P (.ia (ps ++ more))) c' (lF c' q) b = some u := fun b u hb e => by rw [ah (ay e Fo), ah hb]; exact e
 have Rp : upd (upd H P (.ia (ps ++ more))) c' (lF c' q) P = some (.ia (ps ++ more)) := by rw [ah JW, aj]
 refine I.step (g' := s.gens) (d' := s.drawn) (ch := []) (fun _ z => nomatch z) (fun b o _ _ _ e n => hx b o (nP b n) e) (fun b o _ _ _ e n => ⟨o.slots, hx b o (nP b n) e⟩) (fun b o _ e n => ?_) (fun b o _ e => ?_) (fun b xs e => kp b _ (fun z => by rw [z, hT] at e; cases e) e)
  (fun b o u e => kp b _ (fun z => by rw [z, hT] at e; cases e) e) (fun b SV e => ?_) (fun m hm => ?_) (fun b u e => ?_) I.bare
 . rw [ah (Nat.ne_of_lt (Nat.lt_of_lt_of_le (Heap.lt_size e) FG)), ah (nP b n)]; exact n
 . by_cases hb : b = P
   . exact ⟨_, hb ▸ hP⟩
   . exact ⟨o, hx b o hb e⟩
 . by_cases hb : b = P
   . subst hb
     rw [hT] at e; cases e
     exact ⟨more, Rp⟩
   . exact ⟨#[], by rw [kp b _ hb e]; simp⟩
 . obtain ⟨o, es, ep, ho, r⟩ := hm
   exact ⟨o, es, ep, hx _ o (nP _ I.free) ho, r⟩
 . by_cases hb : b = c'
   . subst hb
     rw [aj] at e; cases e
     exact yw Fq
   . rw [ah hb] at e
     by_cases mX : b = P
     . subst mX
       rw [aj] at e; cases e
       exact hP
     . rw [ah mX] at e
       refine (I.aF b u e).iA (fun d v hd z => hx d v (fun y => ?_) z) (fun d z => kp d _ (fun y => by rw [y, hT] at z; cases z) z) fun d xs z => kp d _ (fun y => by rw [y, hT] at z; cases z) z
       rcases hd with rfl | hd
       . exact mX y
       . rw [y, hT] at hd; cases hd
theorem yD {Q : Value -> Shared -> Prop} (I : Inv X pins σ H s) (kX : X.env.code = .ref c) (C : CodeHd X.base c P) (hB : BM X.mg X.base) (hT : TabAt H P pos (X.env.qual ++ "<lambda>")) (Lb : defaultsOf params X.env = ([], [])) (fN : closureFor scope X.env = pure bU)
 (h : ∀ g c' pm pR H' s', Inv X (pins ++ [(g, kla_obj "<lambda>" (X.env.qual ++ "<lambda>") params body scope bU pm c' pR)]) σ H' s' -> H' c' = some (lF c' (X.env.qual ++ "<lambda>")) -> Mv [P] H H' -> TabAt H' P pos (X.env.qual ++ "<lambda>") -> Q (.ref g) s') :
 wpAny (model X.prog X.w) X.A (eval (.Lambda params body scope pos) X.env) Q E s := by
 obtain ⟨bm, ob, b1, b2, b3, b4, b5, b6⟩ := hB
 have OQ : s.heap.Ns mainGlobals X.mg := I.mod.glob.keeps I.bk
 have Cs := C.keeps I.bk
 have HQ : ∀ {h' : Heap} {H' : Hp} {o : Obj} {tk : Nat}, Inv X pins σ H' { s with heap := h'.push o, toks := tk } -> s.heap.objs.size <= h'.objs.size -> H' h'.objs.size = none -> (∀ v, o.data ≠ .cell v) -> o.isFreed = false -> Inv X (pins ++ [(h'.objs.size, o)]) σ H' { s with heap := h'.push o, toks := tk } := fun {h' H' o tk} J hsz hn hv kD => J.gv fun p hp => by
  rcases List.mem_append.mp hp with hp | hp
  . exact J.pin p (List.mem_append_right _ hp)
  . rw [List.mem_singleton.mp hp]
    exact ⟨Heap.get?_push_size _ kD, hn, Nat.ne_of_gt (Nat.lt_of_lt_of_le I.lt hsz), I.HW hsz, hv⟩
 have Np : ∀ ps, H P = some (.ia ps) -> bm ≠ P := fun ps e z => by
  have := (I.bs bm ob b3).2
  rw [z, e] at this; cases this
 have O1 : bm ≠ mainGlobals := fun z => by
  obtain ⟨o, es, ep, e, hd, _⟩ := I.mod.glob
  rw [z, e] at b3; cases b3; rw [hd] at b6; cases b6
 have Rm : ∀ ps, H P = some (.ia ps) -> mainGlobals ≠ P := fun ps e z => by
  obtain ⟨o, es, ep, e1, hd, _⟩ := I.mod.glob
  have := (I.bs _ o e1).2
  rw [z, e] at this; cases this
 refine kla_eval Lb ?_
 rcases hT with hT | ⟨c', Pn, hT, kK⟩
 . have Kt : s.heap.get? P = some (tabObj #[]) := I.aF P _ hT
   refine kla_makeFunction (mg := X.mg) fN I.ok.glob OQ kX Cs Kt trivial rfl (Rm _ hT) ⟨bm, ob, b1, b2, O1, Np _ hT, (I.bs _ _ b3).1, b4, b5, b6⟩ fun c' pR h' tk hx FG jZ Fq Qq => ?_
   have J := I.grow (tk := tk) hT hx FG Fq Qq
   have Fo : H c' = none := I.aF.fresh FG
   have JW : P ≠ c' := ay hT Fo
   have J2 := J.tQ (o := kla_obj "<lambda>" (X.env.qual ++ "<lambda>") params body scope bU ((X.mg "__name__").getD .none) c' pR)
   have hsz : s.heap.objs.size <= h'.objs.size := Nat.le_trans FG (Nat.le_of_lt jZ)
   refine h h'.objs.size c' _ pR _ _ (HQ J2 hsz (J.aF.fresh (Nat.le_refl _)) (fun v z => by cases z) rfl) aj ⟨fun b o hb e => ?_, fun b xs e => ?_, fun b e => ?_⟩ (.inr ⟨c', Ne.symm JW, by rw [ah JW, aj]; rfl, aj⟩)
   . rw [ah (ay e Fo), ah (by simpa using hb)]; exact e
   . rw [ah (ay e Fo), ah (fun z => by rw [z, hT] at e; cases e)]; exact e
   . by_cases hb : b = c'
     . rw [hb]; exact Fo
     . rw [ah hb] at e
       by_cases mX : b = P
       . rw [mX, aj] at e; cases e
       . rw [ah mX] at e; exact e
 . have Kt : s.heap.get? P = some (tabObj #[rawInt pos.line, rawInt pos.col, .ref c']) := I.aF P _ hT
   refine kla_makeFunctionHit (mg := X.mg) fN I.ok.glob OQ kX Cs Kt ?_ (cv := .ref c') ?_ ⟨bm, ob, b1, b2, O1, Np _ hT, (I.bs _ _ b3).1, b4, b5, b6⟩ fun pR h' tk hk hsz => ?_
   . simp [TriplesOk, rawInt]
   . exact codeAmong_snoc [] trivial rfl
   have J2 : Inv X pins σ H { s with heap := h'.push (kla_obj "<lambda>" (X.env.qual ++ "<lambda>") params body scope bU ((X.mg "__name__").getD .none) c' pR), toks := tk } := I.kept fun b u e => Heap.get?_push_of_some _ (hk b u e)
   exact h h'.objs.size c' _ pR _ _ (HQ J2 hsz (I.aF.fresh hsz) (fun v z => by cases z) rfl) kK Mv.refl (.inr ⟨c', Pn, hT, kK⟩)
end
def mh (qual : Str) (scope : Scope) (L g : Addr) (cd : Value) (bU : List (Str × Addr)) : Env := newEnv scope L mainGlobals bU (qual ++ ".<locals>.") (some g) cd none builtinsNs
def qv (X : Cx) (A : Around) (N : List Str) (qual : Str) (scope : Scope) (g : Addr) (cd : Value) (bU : List (Str × Addr)) (s : Shared) (H : Hp) : Cx where
 prog := X.prog
 w := X.w
 K := X.K
 mg := X.mg
 base := X.base
 A := A.deeper (mh qual scope s.heap.objs.size g cd bU)
 N := N
 cf := s
 qe := H
 env := mh qual scope s.heap.objs.size g cd bU
 outer := X.stack
 stack := mh qual scope s.heap.objs.size g cd bU :: X.stack
 ex := []
 fn := fun _ => false
 calm := true
 pn := []
 xe := fun _ _ => False
structure jW (N : List Str) (p : Str) (scope : Scope) : Prop where
 kind : scope.kind = .function
 co : scope.isCoroutine = false
 gen : scope.isGenerator = false
 nd : N.Nodup
 pre : N[0]? = some p
 par : scope.names.lookup p = some .local
 xc : ∀ y ∈ scope.names, y.2 ≠ .cell
def wI (X : Cx) (σ : St) (N : List Str) (scope : Scope) (v : V) (σ' : St) : Prop := σ'.length = N.length /\ σ'[0]? = some (some v) /\ ∀ (i : Nat) (x : Str) (w : V), 0 < i -> N[i]? = some x -> σ'[i]? = some (some w) -> scope.names.lookup x = some .free /\ ∃ j : Nat, X.N[j]? = some x /\ σ[j]? = some (some w) /\ (X.env.kindOf x = some .cell \/ X.env.kindOf x = some .free)
section
variable {X : Cx} {pins : List (Addr × Obj)} {σ σ' : St} {H : Hp} {s : Shared} {A : Around} {N : List Str} {p name qual : Str} {params : Arguments} {body : Expr} {scope : Scope} {bU : List (Str × Addr)} {g c' : Addr} {pm pR : Value} {v : V} {u : Value} {k : Nat} {Q : VK} {te : TE}
theorem uV {h1 : Heap} {tk : Nat} {cd : Value} (I : Inv X pins σ H s) (hA : A.frames = some X.stack) (hh : A.handled = none) (S : jW N p scope) (fN : ∀ x c, bU.lookup x = some c -> X.env.cells.lookup x = some c) (kD : ∀ x, scope.names.lookup x = some .free -> ∃ c, bU.lookup x = some c)
 (kN : wI X σ N scope v σ') (rv : RelV v u) (vR : h1.Ns s.heap.objs.size fun x => [(p, u)].reverse.lookup x) (hk : ∀ b o, s.heap.get? b = some o -> h1.get? b = some o) : Inv (qv X A N qual scope g cd bU s H) [] σ' H { s with heap := h1, toks := tk } := by
 obtain ⟨hlen, h0, MB⟩ := kN
 have e0 := I.sd
 have Aa : ∀ b : Addr, b ∉ (qv X A N qual scope g cd bU s H).ex := fun b z => absurd (show b ∈ ([] : List Addr) from z) (by simp)
 refine ⟨⟨e0.mod, S.kind, rfl, rfl, Nat.le_refl _, fun y z c h1 h2 => I.ok.inj y z c (fN _ _ h1) (fN _ _ h2), fun y hy => ?_, fun y c h => (nomatch (show false = true from h)), fun _ => hh, Around.frames_deeper hA, .inr ⟨rfl, rfl⟩, fun b z => absurd z (Aa b), e0.bs, e0.pA, fun b _ _ => Aa b, fun b z => absurd z (Aa b), e0.fX, e0.sf⟩,
  rfl, I.bare, Un.kept hk, ⟨_, vR, fun i y w wg h2 h3 => ?_⟩, fun y c h => ?_, e0.aF.fresh (Nat.le_refl _), fun y c h => I.cE y c (fN y c h), fun p hp => absurd (show p ∈ ([] : List (Addr × Obj)) from hp) (by simp), e0.aF.kept hk, hlen⟩
 . have hy : scope.names.lookup y = some .cell \/ scope.names.lookup y = some .free := hy
   rcases hy with hy | hy
   . exact absurd rfl (S.xc _ (PySem.mem_of_lookup hy))
   . exact kD y hy
 . by_cases hi : i = 0
   . subst hi
     have e1 : N[0]? = some y := wg
     rw [S.pre] at e1; cases e1
     rw [h0] at h2; cases h2
     exact ⟨u, rv, .inl ⟨S.par, by simp⟩⟩
   . obtain ⟨hf, j, hj, PR, Nu⟩ := MB i y w (by omega) wg h2
     obtain ⟨c, hc⟩ := kD y hf
     have LI : Ex X.env.scope y := by
      rcases Nu with z | z
      . exact .inr (.inl z)
      . exact .inr (.inr z)
     obtain ⟨m, _, hl⟩ := I.loc
     obtain ⟨u', ru, l⟩ := hl j y w hj PR LI
     rcases l with ⟨z, _⟩ | ⟨_, c2, e2, e3⟩
     . rcases Nu with y' | y' <;> (rw [z] at y'; cases y')
     . have e4 := fN y c hc
       rw [e2] at e4; cases e4
       refine ⟨u', ru, .inr ⟨.inr hf, _, hc, ?_⟩⟩
       obtain ⟨o, ho, hd⟩ := e3
       exact ⟨o, hk _ _ ho, hd⟩
 . obtain ⟨w, o, ho, hd⟩ := I.cell y c (fN y c h)
   exact ⟨w, o, hk _ _ ho, hd⟩
theorem Bd (I : Inv X pins σ H s) (hA : A.frames = some X.stack) (hr : aU (k + 1) A) (S : jW N p scope) (fN : ∀ x c, bU.lookup x = some c -> X.env.cells.lookup x = some c) (kD : ∀ x, scope.names.lookup x = some .free -> ∃ c, bU.lookup x = some c)
 (hp : (g, kla_obj name qual params body scope bU pm c' pR) ∈ pins) (kX : s.heap.CodeRec (.ref c') qual) (xW : bindArgs (kla_fn name qual params body scope bU pm (.ref c') pR) ⟨[u], []⟩ = pure [(p, u)]) (kN : wI X σ N scope v σ') (rv : RelV v u)
 (ht : PE (qv X A N qual scope g (.ref c') bU s H) body te) (hq : te σ' H Q) : codeAny (model X.prog X.w) A (.call (.ref g) ⟨[u], []⟩) (CR jR X.stack X.prog X.w H s Q E0) s := by
 have hg := (I.pin _ (List.mem_append_right _ hp)).1
 refine kla_callFunE hr.depth hg rfl S.co S.gen rfl kX ?_
 rw [xW]
 refine wpAny_pure (wpAny_newFunctionEnv S.xc (fun y hy => ?_) (fun h1 vR O4 => ?_) S.kind)
 . rw [List.mem_singleton.mp hy]; exact S.par
 have hk : ∀ b o, s.heap.get? b = some o -> h1.get? b = some o := fun b o e => O4.extBut b o (Nat.ne_of_lt (Heap.lt_size e)) (Heap.get?_push_of_some _ e)
 refine ⟨I.nolimit.keeps hk, kla_codeExpr ?_⟩
 have J := uV (qual := qual) (g := g) (cd := .ref c') (tk := s.toks + 1) I hA hr.hd S fN kD kN rv vR hk
 refine wpAny_mono (ht [] _ σ' H Q J hq) (fun w s' h => ?_) fun _ _ h => h.elim
 obtain ⟨v', H', J', r', q'⟩ := h
 exact ⟨v', H', J'.os, J'.bare, J'.base, J'.aF, r', q'⟩
end
section
variable {X : Cx} {pins : List (Addr × Obj)} {σ : St} {H : Hp} {s : Shared} {f a : Addr} {sp : Sp} {kf : V -> Int × Str} {A : Around}
def o5 (X : Cx) (pins : List (Addr × Obj)) (σ : St) (H : Hp) (f : Addr) (sp : Sp) : Prop := ∀ (pl : List (Addr × Obj)) (s' : Shared) (H' : Hp) (v : V) (u : Value) (Q : VK), Inv X pl σ H' s' -> (∀ p ∈ pins, p ∈ pl) -> au H H' -> RelV v u -> sp [v] H' Q E0 ->
 wpAny (model X.prog X.w) X.A.in1.in1 (call (.ref f) [u]) (EP X pl σ Q) (fun _ _ => False) s'
theorem lD {kS : Addr} {oa : Obj} {body : Value -> PUnit -> Sem (ForInStep PUnit)} {E : Value -> Shared -> Prop} (KC : o5 X pins σ H f sp) (N3 : ∀ v, oa.data ≠ .cell v)
 (gS : ∀ x (s' : Shared) (R : Shared -> Prop), wpAny (model X.prog X.w) X.A.in1.in1 (call (.ref f) [x]) (fun k s2 => ∃ us e, s2.heap.get? kS = some (seqObj "list" (List.toArray us) e) /\ us.length < 64 /\ R { s2 with heap := s2.heap.update kS (Obj.mapSeq (·.push k)) }) (fun _ _ => False) s' ->
  wpAny (model X.prog X.w) X.A.in1.in1 (body x ⟨⟩) (fun r s2 => r = .yield ⟨⟩ /\ R s2) E s')
 (fa : dU X pins H a) (fk : dU X pins H kS) (y9 : a ≠ kS) : ∀ (rx : List V) (r : List Value) (xs : List V) (s' : Shared), Vals rx r -> sj sp kf H rx -> xs.length + rx.length < 64 -> DX X pins σ H kf a kS oa xs s' ->
  wpAny (model X.prog X.w) X.A.in1.in1 (forIn r PUnit.unit body) (fun _ s2 => DX X pins σ H kf a kS oa (xs ++ rx) s2) E s'
 | [], _, xs, s', hv, _, _, hK => by
   cases hv
   rw [List.forIn_nil, List.append_nil]
   exact wpAny_pure hK
 | v :: rx, _, xs, s', .cons (b := u) (l₂ := r) hu hv, OJ, hlen, ⟨H', us, e, ys, I, sm, ha, hk, Py, Rv, rv, dv⟩ => by
   rw [List.forIn_cons]
   have Sw := fa.keep (H' := H') ha
   have Sq := fk.keep (H' := H') hk
   have I' : Inv X (pins ++ [(a, oa), (kS, seqObj "list" (List.toArray us) e)]) σ H' s' := by
    refine I.gv fun p hp => ?_
    rcases List.mem_append.mp hp with hp | hp
    . exact I.pin p (List.mem_append_right _ hp)
    . rcases List.mem_cons.mp hp with rfl | hp
      . exact ⟨Py, ha, fa.2.1, fa.2.2.1, N3⟩
      . have : p = (kS, seqObj "list" (List.toArray us) e) := by simpa using hp
        subst this
        exact ⟨Rv, hk, fk.2.1, fk.2.2.1, fun v z => by cases z⟩
   have JD : us.length = xs.length := by rw [<- rv.length, dv.length, List.length_map]
   refine wpAny_bind (wpAny_mono (gS u s' (fun s2 => DX X pins σ H kf a kS oa (xs ++ [v]) s2) (wpAny_mono (KC _ s' H' v u _ I' (fun p hp => List.mem_append_left _ hp) sm hu (OJ v List.mem_cons_self H' sm)) (fun kv s2 hq => ?_) fun _ _ z => z)) (fun q s2 hq => ?_) fun _ _ z => z)
   . obtain ⟨y, H2, I2, ry, jb, dy⟩ := hq
     have p1 := I2.pin (a, oa) (List.mem_append_right _ (List.mem_append_right _ List.mem_cons_self))
     have p2 := I2.pin (kS, seqObj "list" (List.toArray us) e) (List.mem_append_right _ (List.mem_append_right _ (List.mem_cons_of_mem _ List.mem_cons_self)))
     have I3 : Inv X pins σ H2 s2 := I2.iC
     refine ⟨us, e, p2.1, by simp at hlen; omega, ?_⟩
     obtain ⟨c, hc⟩ : ∃ c, (s2.heap.update kS (Obj.mapSeq (·.push kv))).get? kS = some (seqObj "list" (List.toArray (us ++ [kv])) c) := by
      have ea : (List.toArray us).push kv = List.toArray (us ++ [kv]) := by simp
      rw [<- ea]
      exact ⟨_, get?_update_seq p2.1 (·.push kv)⟩
     refine ⟨H2, us ++ [kv], c, ys ++ [y], I3.A4 (fk.keep p2.2.1), sm.trans jb, p1.2.1, p2.2.1, ?_, hc, rv.append (.cons ry .nil), ?_⟩
     . show (s2.heap.update kS _).get? a = some oa
       rw [Heap.get?_update_ne _ _ _ _ y9]; exact p1.1
     . rw [List.map_append]
       exact (dv.keeps jb).append (.cons dy .nil)
   . obtain ⟨rfl, hq⟩ := hq
     have := lD KC N3 gS fa fk y9 rx r (xs ++ [v]) s2 hv (fun z hz => OJ z (List.mem_cons_of_mem _ hz)) (by simp at hlen ⊢; omega) hq
     rw [List.append_assoc] at this
     exact this
theorem qb {l : Addr} {xs : List V} {Q : VK} {E : Value -> Shared -> Prop} (I : Inv X pins σ H s) (h64 : xs.length < 64) (Mu : ∀ (R : List Value -> Shared -> Prop) (E' : Value -> Shared -> Prop), (∀ vs s2, Vals xs vs -> Inv X pins σ H s2 -> R vs s2) -> wpAny (model X.prog X.w) X.A.in1 (collect (.ref l)) R E' s) (KC : o5 X pins σ H f sp)
 (hk : sj sp kf H xs) (fin : tF X pins σ H d6 kf xs Q) : wpAny (model X.prog X.w) X.A (call (.builtin "sorted") [.ref l] [(Str.ofString "key", .ref f)]) (EP X pins σ Q) E s := by
 have Eo : (64 : Nat) <= sizeLine := by decide
 refine call_function_entry_kw kind_sorted plain_sorted entry_sorted (ksk_s1 _ _) ?_
 unfold Builtin.«sorted»
 refine wpAny_bind (m := checkCount "sorted" 1 1 _) (wpAny_pure ?_)
 refine wpAny_bind (Mu _ _ fun vs s2 rv I2 => ?_)
 have lx := rv.length
 refine wpAny_bind (wpAny_newList ?_ (by omega))
 obtain ⟨h2, g2, d2, t2, o2⟩ := s2
 have zf : (h2.push (seqObj "list" vs.toArray 0)).get? h2.objs.size = some (seqObj "list" vs.toArray 0) := Heap.get?_push_size _ rfl
 have I3 : Inv X pins σ H (⟨h2.push (seqObj "list" vs.toArray 0), g2, d2, t2, o2⟩ : Shared) := I2.tQ
 have fa : dU X pins H h2.objs.size := I2.p8 (Nat.le_refl _) (I2.aF.fresh (Nat.le_refl _))
 have Ae : X.cf.heap.objs.size <= h2.objs.size := I2.sz
 show wpAny _ _ _ _ _ (⟨h2.push (seqObj "list" vs.toArray 0), g2, d2, t2, o2⟩ : Shared)
 generalize h2.objs.size = a at *
 refine wpAny_bind (wpAny_holding (wpAny_call_entry_kw slot_list_sort ⟨_, zf, rfl⟩ entry_list_sort ?body (ksk_l1 _ _)))
 case body =>
  show wpAny (model X.prog X.w) X.A.in1.in1 (Builtin.«list.sort» ⟨[.ref a], [(Str.ofString "key", .ref f)]⟩) _ _ _
  rw [ksk_t1]
  generalize h2.push (seqObj "list" vs.toArray 0) = h3 at *
  unfold ksk_tree
  refine wpAny_bind (listItems_at zf rfl ?_)
  refine wpAny_bind (listUpdate_at zf rfl ?_ (by rw [List.size_toArray]; omega) (Nat.zero_le _))
  have I4 : Inv X pins σ H (⟨h3.update a (Obj.mapSeq fun _ => (#[] : Array Value)), g2, d2, t2, o2⟩ : Shared) := I3.A4 fa
  obtain ⟨e1, oa⟩ : ∃ e1, (h3.update a (Obj.mapSeq fun _ => (#[] : Array Value))).get? a = some (seqObj "list" #[] e1) := ⟨_, get?_update_seq zf fun _ => #[]⟩
  generalize h3.update a (Obj.mapSeq fun _ => (#[] : Array Value)) = h4 at *
  refine wpAny_bind (seqEpoch_at oa rfl ?_)
  refine wpAny_bind (wpAny_newTuple ?_ (by show vs.length <= _; omega))
  have I5 : Inv X pins σ H (⟨h4.push (seqObj "tuple" vs.toArray 0), g2, d2, t2, o2⟩ : Shared) := I4.tQ
  have N0 : (h4.push (seqObj "tuple" vs.toArray 0)).get? a = some (seqObj "list" #[] e1) := Heap.get?_push_of_some _ oa
  show wpAny _ _ _ _ _ (⟨h4.push (seqObj "tuple" vs.toArray 0), g2, d2, t2, o2⟩ : Shared)
  generalize h4.push (seqObj "tuple" vs.toArray 0) = h5 at *
  refine wpAny_bind (wpAny_newList ?_ (Nat.zero_le _))
  have I6 : Inv X pins σ H (⟨h5.push (seqObj "list" #[] 0), g2, d2, t2, o2⟩ : Shared) := I5.tQ
  have fk : dU X pins H h5.objs.size := I5.p8 (Nat.le_refl _) (I5.aF.fresh (Nat.le_refl _))
  have Qg : (h5.push (seqObj "list" #[] 0)).get? a = some (seqObj "list" #[] e1) := Heap.get?_push_of_some _ N0
  have Q9 : (h5.push (seqObj "list" #[] 0)).get? h5.objs.size = some (seqObj "list" #[] 0) := Heap.get?_push_size _ rfl
  have y9 : a ≠ h5.objs.size := Nat.ne_of_lt (Heap.lt_size N0)
  show wpAny _ _ _ _ _ (⟨h5.push (seqObj "list" #[] 0), g2, d2, t2, o2⟩ : Shared)
  show wpAny _ _ (holding [_, .ref h5.objs.size] (ksk_rest a (.ref f) false vs.toArray e1 (.ref h5.objs.size))) _ _ _
  generalize h5.objs.size = kS at *
  generalize h5.push (seqObj "list" #[] 0) = h6 at *
  refine wpAny_holding ?_
  unfold ksk_rest
  refine wpAny_bind (wpAny_rule ?_)
  first
   | rw [List.forIn_toArray]
   | (rw [<- Array.forIn_toList]; simp only [List.toList_toArray])
  refine wpAny_bind (wpAny_mono (lD (kf := kf) KC (oa := seqObj "list" #[] e1) (fun v z => by cases z) (fun x s' R hx => ?_) fa fk y9 xs vs [] (⟨h6, g2, d2, t2, o2⟩ : Shared) rv hk (by simpa using h64) ⟨H, [], 0, [], I6, au.refl _, fa.1, fk.1, Qg, Q9, .nil, .nil⟩) (fun _ s7 hK => ?_) fun _ _ z => z)
  . refine wpAny_bind (wpAny_attempt (wpAny_mono hx (fun kv s2 hq => ?_) fun _ _ z => z.elim))
    obtain ⟨us, e, ok, jZ, hR⟩ := hq
    dsimp only
    refine wpAny_bind (listUpdate_at ok rfl ?_ (by rw [List.size_toArray]; omega) (by rw [Array.size_push, List.size_toArray]; omega))
    exact wpAny_pure ⟨rfl, hR⟩
  . obtain ⟨H', us, e, ys, I7, sm, Qw, RV, O9, Om, ry, dv⟩ := hK
    try dsimp only
    refine wpAny_bind (listItems_at Om rfl ?_)
    refine wR sm fa.1 I7 (fa.keep Qw) (fk.keep RV) y9 Ae O9 Om h64 rv ry (by simpa using dv) fin (fun s8 h8 => ⟨_, rfl, wpAny_pure ⟨_, rfl, h8⟩⟩)
end
def ui (te : TE) (js : List Nat) (σ : St) : Sp := fun vs H Q _ => ∃ v, vs = [v] /\ te (some v :: js.map fun j => σ.getD j none) H Q
structure p7 (X : Cx) (P : Addr) (params : Arguments) (scope : Scope) (p : Str) (xs : List Str) (js : List Nat) : Prop where
 sc : jW (p :: xs) p scope
 cd : ∃ c, X.env.code = .ref c /\ CodeHd X.base c P
 bm : BM X.mg X.base
 df : defaultsOf params X.env = ([], [])
 bd : ∀ (name qual : Str) (body : Expr) (bU : List (Str × Addr)) (pm cv pR u : Value), bindArgs (kla_fn name qual params body scope bU pm cv pR) ⟨[u], []⟩ = pure [(p, u)]
 cl : X.Ok -> ∃ bU, closureFor scope X.env = pure bU /\ (∀ x c, bU.lookup x = some c -> X.env.cells.lookup x = some c) /\ ∀ x, scope.names.lookup x = some .free -> ∃ c, bU.lookup x = some c
 st : ∀ (i : Nat) (x : Str), xs[i]? = some x -> scope.names.lookup x = some .free /\ ∃ j : Nat, js[i]? = some j /\ X.N[j]? = some x /\ (X.env.kindOf x = some .cell \/ X.env.kindOf x = some .free)
 ln : js.length = xs.length
section
variable {X : Cx} {pins : List (Addr × Obj)} {σ : St} {H : Hp} {s : Shared} {P : Addr} {params : Arguments} {body : Expr} {scope : Scope} {p : Str} {xs : List Str} {js : List Nat} {te : TE} {k : Nat} {pos : Pos}
theorem p7.Ik (L : p7 X P params scope p xs js) (v : V) : wI X σ (p :: xs) scope v (some v :: js.map fun j => σ.getD j none) := by
 refine ⟨by simp [L.ln], rfl, fun i x w hi hx hw => ?_⟩
 obtain ⟨i, rfl⟩ : ∃ i', i = i' + 1 := ⟨i - 1, by omega⟩
 obtain ⟨h1, j, h2, h3, h4⟩ := L.st i x (by simpa using hx)
 refine ⟨h1, j, h3, ?_, h4⟩
 have hw : (js.map fun j => σ.getD j none)[i]? = some (some w) := by simpa using hw
 rw [List.getElem?_map, h2] at hw
 have hw : σ.getD j none = some w := by simpa using hw
 rw [List.getD_eq_getElem?_getD] at hw
 cases e : σ[j]? with
 | none => rw [e] at hw; cases hw
 | some o => rw [e] at hw; rw [show o = some w from hw]
theorem Bv {pl : List (Addr × Obj)} {H1 : Hp} {g c' : Addr} {pm pR : Value} {bU : List (Str × Addr)} (L : p7 X P params scope p xs js) (hr : aU (k + 3) X.A) (fN : ∀ x c, bU.lookup x = some c -> X.env.cells.lookup x = some c) (kD : ∀ x, scope.names.lookup x = some .free -> ∃ c, bU.lookup x = some c)
 (hp : (g, kla_obj "<lambda>" (X.env.qual ++ "<lambda>") params body scope bU pm c' pR) ∈ pl) (hc : H1 c' = some (lF c' (X.env.qual ++ "<lambda>")))
 (hb : ∀ (A : Around) (g : Addr) (cd : Value) (bU : List (Str × Addr)) (s : Shared) (H : Hp), aU k (A.deeper (mh (X.env.qual ++ "<lambda>") scope s.heap.objs.size g cd bU)) -> PE (qv X A (p :: xs) (X.env.qual ++ "<lambda>") scope g cd bU s H) body te) : o5 X pl σ H1 g (ui te js σ) := by
 intro Sr s' H' v u Q I' MB sm rv hs
 obtain ⟨_, e, hq⟩ := hs
 obtain rfl := (List.cons.inj e).1
 have O3 : aU (k + 1) X.A.in1.in1 := aU.in1 (aU.in1 hr)
 have QM : s'.heap.CodeRec (.ref c') (X.env.qual ++ "<lambda>") := (I'.aF c' _ (sm _ _ hc)).1
 have Mb : X.A.in1.in1.frames = some X.stack := I'.sd.in1.in1.frames
 refine wpAny_call (codeAny_mono (Bd (k := k) I' Mb O3 L.sc fN kD (MB _ hp) QM (L.bd _ _ _ _ _ _ _ u) (L.Ik v) rv (hb _ _ _ _ _ _ (O3.deeper _)) hq) fun r s2 hq => ?_)
 cases r with
 | error e => exact hq.elim
 | ok fl =>
   cases fl with
   | ret u => exact I'.after hq
   | next => exact False.elim hq
   | brk => exact False.elim hq
   | cont => exact False.elim hq
def pj (sp : Sp) (vs : List V) (H : Hp) (Q : VK) : Prop := ∃ p kvs kf, vs = [.ref p] /\ Rd H p (.dK kvs) /\ kvs.length < 64 /\ sj sp kf H (kvs.map fun kv => kV kv.1) /\ ∀ l ys H', au H H' -> H l = none -> H' l = none -> oB d6 kf ys (kvs.map fun kv => kV kv.1) -> Q (.ref l) (upd H' l (.lst ys))
def tY (P : Addr) (pos : Pos) (q : Str) (te : TE) (js : List Nat) (t : TA) : TE := fun σ H Q => t σ H fun vs H1 => TabAt H1 P pos q /\ ∀ H2, Mv [P] H1 H2 -> TabAt H2 P pos q -> pj (ui te js σ) vs H2 Q
variable {e : Expr} {t : TA} {pn p2 cM DJ : Pos}
theorem uY (nS : X.calm = true) (L : p7 X P params scope p xs js) (hr : aU (k + 3) X.A) (hg : Gl X "sorted") (hm : X.mg "sorted" = none) (ha : PA X [e] t)
 (hb : ∀ (A : Around) (g : Addr) (cd : Value) (bU : List (Str × Addr)) (s : Shared) (H : Hp), aU k (A.deeper (mh (X.env.qual ++ "<lambda>") scope s.heap.objs.size g cd bU)) -> PE (qv X A (p :: xs) (X.env.qual ++ "<lambda>") scope g cd bU s H) body te)
 (kN : backTo cM (starEach [e] X.env) = (false, eval e X.env) :: backTo cM (starEach [] X.env) := by rfl) (kl : (backTo cM (starEach [e] X.env)).any (·.1) = false := by rfl) :
 PE X (.Call (.Name "sorted" pn) [e] [⟨some "key", .Lambda params body scope pos, DJ⟩] cM) (tY P pos (X.env.qual ++ "<lambda>") te js t) := by
 intro pins s σ H Q I h
 obtain ⟨c, kX, hC⟩ := L.cd
 obtain ⟨bU, MJ, fN, kD⟩ := L.cl I.ok
 refine wpAny_Call_Name_kw (lU I hg hm boot_sorted ?_)
 refine callWith_kw (bR (ha cM pins s σ H _ I h) fun us s1 ⟨vs, H1, I1, r1, hT, q1⟩ => ?_) kN kl
 refine wpAny_evalAll_cons (wpAny_bind (yD I1 kX hC L.bm hT L.df MJ fun g c' pm pR H2 s2 I2 hc mv EZ => wpAny_bind (wpAny_standAt (wpAny_pure (wpAny_evalAll_nil ?_)))))
 obtain ⟨d, kvs, kf, e1, hd, h64, hk, fin⟩ := q1 H2 mv EZ
 subst e1
 obtain ⟨u, rfl, ru⟩ := vals1 r1
 have e1 : u = .ref d := ru
 subst e1
 have ob : aO X.prog X.w H2 s2.heap d (.dK kvs) := by
  rcases hd with e | ⟨o, e⟩
  . exact I2.aF d _ e
  . exact (I2.aF d _ e).2
 obtain ⟨hz, hs, vs, kv, HA⟩ := ob
 obtain ⟨ep, da⟩ := HA.dictAt
 have hlen : vs.length = kvs.length := kv.length.symm
 refine wpAny_mono (qb (E := X.xe) (xs := kvs.map fun kv => kV kv.1) I2 (by rw [List.length_map]; exact h64) (fun R E' hR => ?_) (Bv (P := P) (k := k) L hr fN kD (List.mem_append_right _ (List.mem_singleton.mpr rfl)) hc hb) hk (fun a ys H' => fin a ys H')) (fun w s3 hq => ?_) fun _ _ z => z
 . refine kdu_collect (kdl_dict (knd := aJ X.prog X.w) (kvs := vs) (ep := ep) hs) ?_ da (by rw [hlen]; exact hz) fun h' tk acc tX cO => hR acc.toList _ (jf kv cO) (I2.kept tX)
   exact I2.ok.hd nS
 . obtain ⟨v, H3, I3, r3, q3⟩ := hq
   exact ⟨v, H3, I3.iC, r3, q3⟩
end
theorem vM {P : Program} {w : World} {K : PySem.W.Frag} {mg mb : Str -> Option Value} {CX : pB} {k : Nat} {fa a : Addr} {fd : FuncData} {x : Str} {sp : Sp} {s₁ : Shared} {vs : List Value} {ns : List Int} {ts : List Addr}
 (KX : K.In s₁.heap) (vR : s₁.heap.Ns mainGlobals mg) (hb : s₁.heap.Ns builtinsNs mb) (PB : ∀ x : Str, x ≠ "__name__" -> mb x = bootBuiltins x) (K6 : s₁.heap.NoLimit) (J0 : BM mg s₁.heap) (rZ : ∀ b ∈ ts, s₁.heap.get? b = some (tabObj #[]) /\ K.lookup b = none /\ ∃ c, CodeHd s₁.heap c b) (hg : s₁.gens = #[])
 (ha : s₁.heap.get? a = some { cls := .type "list", data := .seq vs.toArray }) (hi : IntsAre vs ns) (hl : ns.length <= sizeLine) (hr : aU k callerA)
 (F : ∀ base : Heap, K.In base -> base.Ns mainGlobals mg -> BM mg base -> bH P w K mg base CX k fa fd [x] sp) (xW : ∀ (s : Shared) (u : Value), BindsTo s fd ⟨[u], []⟩ [(x, u)])
 (qQ : ∀ H : Hp, dY K H a (ns.map V.int) -> (∀ b ∈ ts, H b = some (.ia #[])) -> sp [.ref a] H (fun v _ => v = .bl true) fun _ _ _ => False)
 (Lk : ∀ H e s', CX [] H s₁ (fun _ _ _ => False) e s' -> False) :
 codeAny (model P w) callerA (.call (.ref fa) ⟨[.ref a], []⟩) (fun r s' => r = .ok (.ret (.bool true)) /\ OldK s₁.heap s'.heap /\ s'.os = s₁.os /\ AllBare s'.gens) s₁ := by
 have rv := nK hi
 have KW := hi.length
 have core : ∀ H : Hp, dY K H a (ns.map V.int) -> fW P w H s₁.heap -> (∀ b, H b = none \/ (b = a /\ ∃ o xs, H b = some (.dX o (.lst xs))) \/ (b ∈ ts /\ H b = some (.ia #[]))) -> (∀ b ∈ ts, H b = some (.ia #[])) -> (H a ≠ none -> K.lookup a = none) ->
  codeAny (model P w) callerA (.call (.ref fa) ⟨[.ref a], []⟩) (fun r s' => r = .ok (.ret (.bool true)) /\ OldK s₁.heap s'.heap /\ s'.os = s₁.os /\ AllBare s'.gens) s₁ := by
  intro H hS aF hA QN hK
  have oN : ∀ {b : Addr} {o : Obj}, s₁.heap.get? b = some o -> H b = none -> (nh s₁.heap H).get? b = some o := fun e n => yL e n
  have Aa : ∀ {b : Addr} {o : Obj} {es : Array DictEntry} {ep : Nat}, s₁.heap.get? b = some o -> o.data = .dict es ep -> H b = none := fun {b o es ep} e d => by
   cases q : H b with
   | none => rfl
   | some u =>
     rcases hA b with z | ⟨e', _⟩ | ⟨hb, _⟩
     . rw [q] at z; cases z
     . subst e'
       rw [ha] at e; cases e
       have d' : Data.seq vs.toArray _ = Data.dict es ep := d
       cases d'
     . rw [(rZ b hb).1] at e; cases e
       have d' : Data.fields #[] = Data.dict es ep := d
       cases d'
  have J1 : ∀ {b : Addr} {m : Str -> Option Value}, s₁.heap.Ns b m -> (nh s₁.heap H).Ns b m := fun {b m} ⟨o, es, ep, e, d, r⟩ => ⟨o, es, ep, oN e (Aa e d), d, r⟩
  have Ou : K.In (nh s₁.heap H) := fun b o e => oN (KX b o e) (by
   cases q : H b with
   | none => rfl
   | some u =>
     rcases hA b with z | ⟨e', _⟩ | ⟨hb, _⟩
     . rw [q] at z; cases z
     . subst e'
       rw [hK (by rw [q]; simp)] at e; cases e
     . rw [(rZ b hb).2.1] at e; cases e)
  have Pq : BM mg (nh s₁.heap H) := by
   obtain ⟨bm, ob, b1, b2, b3, b4, b5, b6⟩ := J0
   refine ⟨bm, ob, b1, b2, oN b3 ?_, b4, b5, b6⟩
   rcases hA bm with z | ⟨e', _⟩ | ⟨hb, _⟩
   . exact z
   . rw [e', ha] at b3; cases b3; exact absurd (Value.type.inj b4) (by decide)
   . rw [(rZ bm hb).1] at b3; cases b3; cases b4
  have hM : Mod K mg (nh s₁.heap H) := ⟨Ou, J1 vR, ⟨mb, J1 hb, PB⟩, let ⟨mc, h1, h2⟩ := K6; ⟨mc, J1 h1, h2⟩⟩
  have e0 : k6 P w K mg (nh s₁.heap H) callerA [] s₁ H := ⟨rfl, hM, fun b o e => BF e, Nat.le_of_eq (vA _ _), trivial, fun b hb => absurd (show b ∈ ([] : List Addr) from hb) (by simp), aF, .of_eq hg⟩
  refine codeAny_mono ((F _ Ou (J1 vR) Pq).run callerA [] s₁ H ⟨[.ref a], []⟩ [.ref a] [.ref a] _ _ hr e0 (xW s₁ (.ref a)) (.cons rfl .nil) (qQ H hS QN)) fun r s' h => ?_
  cases r with
  | error e => exact (Lk H e s' h).elim
  | ok fl =>
    cases fl with
    | next => exact False.elim h
    | brk => exact False.elim h
    | cont => exact False.elim h
    | ret u =>
      obtain ⟨v, H', os, bare, un, G7, r', q⟩ := h
      have q' : v = .bl true := q
      subst q'
      obtain rfl : u = Value.bool true := r'
      have key : ∀ b o, s₁.heap.get? b = some o -> s'.heap.get? b = some o \/ (b ∈ ts /\ o = tabObj #[] /\ ∃ more, s'.heap.get? b = some (tabObj (#[] ++ more))) := fun b o e => by
       rcases hA b with q | ⟨_, ob, xs, z⟩ | ⟨hb, z⟩
       . exact .inl (un.keep b o e q (by intro z; exact absurd (show b ∈ ([] : List Addr) from z) (by simp)) (by simp))
       . have z2 := un.fJ b ob _ z
         obtain ⟨e1, _⟩ := aF b _ z
         obtain ⟨e2, _⟩ := G7 b _ z2
         rw [e] at e1; cases e1
         exact .inl e2
       . obtain ⟨more, z2⟩ := un.ib b _ z
         have e1 := (rZ b hb).1
         rw [e] at e1; cases e1
         exact .inr ⟨hb, rfl, more, G7 b _ z2⟩
      refine ⟨rfl, ⟨fun b o e => ?_, fun b o e => ?_⟩, os, bare⟩
      . rcases key b o e with z | ⟨hb, rfl, more, z⟩
        . exact .inl z
        . obtain ⟨h1, _, c, hC⟩ := rZ b hb
          exact .inr (.inl ⟨(hC.tab h1).isCodeTable, rfl, #[], more, rfl, z⟩)
      . rcases key b o e with z | ⟨_, _, more, z⟩
        . exact ⟨_, z⟩
        . exact ⟨_, z⟩
 have nat : ∀ b ∈ ts, b ≠ a := fun b hb z => by
  have := (rZ b hb).1
  rw [z, ha] at this; cases this
 have Nz : ∀ (H : Hp) (b : Addr), b ∈ ts -> aO P w H s₁.heap b (.ia #[]) := fun H b hb => (rZ b hb).1
 cases hk : K.lookup a with
 | some o =>
   have e := KX a o hk
   rw [ha] at e
   cases e
   refine core (fun b => if b ∈ ts then some (.ia #[]) else none) (.inr ⟨_, vs.toArray, _, hk, rfl, rfl, rfl, by rw [List.size_toArray, KW]; exact hl, by simpa using rv⟩) (fun b u z => ?_) (fun b => ?_) (fun b hb => if_pos hb) (fun z => absurd (if_neg fun y => nat a y rfl) z)
   . by_cases hb : b ∈ ts
     . have z' := (if_pos hb).symm.trans z
       cases z'
       exact Nz _ b hb
     . have z' := (if_neg hb).symm.trans z
       cases z'
   . by_cases hb : b ∈ ts
     . exact .inr (.inr ⟨hb, if_pos hb⟩)
     . exact .inl (if_neg hb)
 | none =>
   have e1 : ∀ b, b ≠ a -> b ∈ ts -> (fun b => if b = a then some (HO.dX { cls := .type "list", data := .seq vs.toArray } (.lst (ns.map V.int))) else if b ∈ ts then some (.ia #[]) else none) b = some (.ia #[]) := fun b h1 h2 => by simp [h1, h2]
   have e2 : ∀ b, b ≠ a -> b ∉ ts -> (fun b => if b = a then some (HO.dX { cls := .type "list", data := .seq vs.toArray } (.lst (ns.map V.int))) else if b ∈ ts then some (.ia #[]) else none) b = none := fun b h1 h2 => by simp [h1, h2]
   refine core (fun b => if b = a then some (.dX { cls := .type "list", data := .seq vs.toArray } (.lst (ns.map V.int))) else if b ∈ ts then some (.ia #[]) else none) (.inl (.inr ⟨{ cls := .type "list", data := .seq vs.toArray }, if_pos rfl⟩)) (fun b u z => ?_) (fun b => ?_) (fun b hb => e1 b (nat b hb) hb) fun _ => hk
   . by_cases hb : b = a
     . have z' := (if_pos hb).symm.trans z
       cases z'
       subst hb
       exact ⟨ha, by rw [List.length_map]; exact hl, vs, _, rv, ha⟩
     . by_cases mX : b ∈ ts
       . have z' := (e1 b hb mX).symm.trans z
         cases z'
         exact Nz _ b mX
       . have z' := (e2 b hb mX).symm.trans z
         cases z'
   . by_cases hb : b = a
     . exact .inr (.inl ⟨hb, _, _, if_pos hb⟩)
     . by_cases mX : b ∈ ts
       . exact .inr (.inr ⟨mX, e1 b hb mX⟩)
       . exact .inl (e2 b hb mX)
theorem yV {l : PySem.W.OpenLaw} {n k : Nat} {q : Program} {loose : List Str} {XP : (Str -> Option Value) -> Heap -> Prop} {YP : World -> Heap -> Prop} {d : DefRec} {K : Params -> PySem.W.Frag} {CX : pB} {sp : List Addr -> PySem.W.Frag -> Sp} {x : Str} {ts : List Addr}
 (hn : l.most = some n) (y7 : n <= sizeLine) (Jl : d.params.defaults = []) (hr : aU k callerA)
 (hY : ∀ (w : World) (h : Heap), YP w h -> (K w.params).In h /\ ∀ b ∈ ts, h.get? b = some (tabObj #[]))
 (F : ∀ (w : World) (mg : Str -> Option Value) (fa : Addr) (h : Heap), (K w.params).In h -> h.Ns mainGlobals mg -> mg d.name = some (.ref fa) ->
  ∃ fd : FuncData, (∀ (s : Shared) (u : Value), BindsTo s fd ⟨[u], []⟩ [(x, u)]) /\ (∀ b ∈ ts, (K w.params).lookup b = none /\ ∃ c, CodeHd h c b) /\
    ∀ base : Heap, (K w.params).In base -> base.Ns mainGlobals mg -> BM mg base -> bH l.prog w (K w.params) mg base CX k fa fd [x] (sp ts (K w.params)))
 (qQ : ∀ (K : PySem.W.Frag) (H : Hp) (a : Addr) (ns : List Int), ns.length <= n -> dY K H a (ns.map V.int) -> (∀ b ∈ ts, H b = some (.ia #[])) -> sp ts K [.ref a] H (fun v _ => v = .bl true) fun _ _ _ => False)
 (Lk : ∀ (H : Hp) (s : Shared) (e : Value) (s' : Shared), CX [] H s (fun _ _ _ => False) e s' -> False) :
 PySem.W.WalkO q loose XP YP l.row.toRowW d [] (fun f vs => PySem.call f vs) := by
 refine NF.pO hn Jl fun w cf s₁ mg mb fa o pm cd doc a vs ns G Y ho hd kX DQ FD hints hlen hg => ?_
 obtain ⟨KX, hT⟩ := hY w _ Y
 obtain ⟨fd, hb, hK, hF⟩ := F w mg fa _ KX G.T.g DQ
 exact vM KX G.T.g G.T.b G.T.builtins G.T.nolimit G.T.bmain (fun b hb => ⟨hT b hb, hK b hb⟩) hg FD hints (Nat.le_trans hlen y7) hr hF hb (fun H hS hT => qQ (K w.params) H a ns hlen hS hT) fun H e s' => Lk H s₁ e s'
structure EW (K : PySem.W.Frag) (f c P : Addr) : Prop where
 fn : ∃ (oc : Value) (od : Option Addr) (fd : FuncData) (sl : Array (Option Value)), K.lookup f = some ⟨oc, od, .func fd, sl⟩ /\ fd.code = .ref c
 cd : codeHdIn K c P = true
 no : K.lookup P = none
theorem A3 {K : PySem.W.Frag} {f c P : Addr} {oc : Value} {od MY : Option Addr} {fd : FuncData} {sl JG : Array (Option Value)} {vs : Array Value} (l : K.lookup f = some ⟨oc, od, .func fd, sl⟩) (e : fd.code = .ref c) (lc : K.lookup c = some ⟨.type "code", MY, .fields vs, JG⟩) (ev : vs.getD 11 .none = .ref P)
 (cd : codeHdIn K c P = true) (no : K.lookup P = none) : EW K f c P := ⟨⟨oc, od, fd, sl, l, e⟩, cd, no⟩
structure HU (K : PySem.W.Frag) (fd : FuncData) (c P : Addr) : Prop where
 e : fd.code = .ref c
 cd : codeHdIn K c P = true
 no : K.lookup P = none
theorem Bp {K : PySem.W.Frag} {x qual : Str} {st : Stmt} {f c P : Addr} {dV : Value} {fd : FuncData} (F : cG K x qual st f dV fd) (L : EW K f c P) : HU K fd c P := by
 obtain ⟨oc, od, kV, doc, pm, an, cV, ct, qW, rfl, lk, _⟩ := F.ex
 obtain ⟨Sz, MY, SY, JG, l, e⟩ := L.fn
 rw [lk] at l
 cases l
 exact ⟨e, L.cd, L.no⟩
structure Bs (K : PySem.W.Frag) (mg : Str -> Option Value) (base : Heap) : Prop where
 k : K.In base
 b : BM mg base
section
variable {P : Program} {w : World} {K : PySem.W.Frag} {mg : Str -> Option Value} {base : Heap}
theorem cG.RF {x qual : Str} {st : Stmt} {f : Addr} {dV : Value} {fd : FuncData} {N ps : List Str} {k : Nat} {sp : Sp} (F : cG K x qual st f dV fd) (S : aG N ps (av st)) (len : ∀ vs H Q E, sp vs H Q E -> vs.length = ps.length)
 (gS : ∀ (A : Around) (outer : List Env) (s : Shared) (H : Hp) (vs : List V) (Q : VK) (E : XK), aU k (A.deeper (envOfC qual (av st) s.heap.objs.size f fd.code)) -> sp vs H Q E ->
  ∃ t, nj (iU jR P w K mg base N qual (av st) f fd.code A outer s H E).y3 (eC st) t /\ t { nx := fun _ H' => Q .aP H', rt := Q } (start N vs) H) : bH P w K mg base jR (k + 1) f fd ps sp := by
 obtain ⟨oc, od, kV, doc, pm, an, cV, ct, qW, rfl, lk, kX⟩ := F.ex
 refine vU lk kX S len fun A outer s H vs Q E hr qQ => ?_
 obtain ⟨t, h, q⟩ := gS A outer s H vs Q E hr qQ
 exact ⟨t, h.y3, q⟩
end
section
variable {X : Cx} {P : Addr} {params : Arguments} {scope : Scope} {p x : Str} {j : Nat}
theorem Aj (hf : (scope.names.filter fun y => y.2 == .free).map (·.1) = [x]) (hx : X.env.kindOf x = some .cell \/ X.env.kindOf x = some .free) : X.Ok -> ∃ bU, closureFor scope X.env = pure bU /\ (∀ x c, bU.lookup x = some c -> X.env.cells.lookup x = some c) /\ ∀ x, scope.names.lookup x = some .free -> ∃ c, bU.lookup x = some c := fun ok => by
 obtain ⟨c, hc⟩ := ok.has x hx
 refine ⟨[(x, c)], pW hf hc, fun y d h => ?_, fun y h => ?_⟩
 . rw [List.lookup_cons] at h
   by_cases e : y = x
   . subst e
     simp at h
     rw [<- h]; exact hc
   . have : (y == x) = false := by simpa using e
     rw [this] at h; cases h
 . have h1 := List.mem_map_of_mem (f := (·.1)) (List.mem_filter (p := fun y : Str × NameKind => y.2 == .free) |>.mpr ⟨PySem.mem_of_lookup h, (rfl : (NameKind.free == NameKind.free) = true)⟩)
   rw [hf] at h1
   have : y = x := by simpa using h1
   subst this
   exact ⟨c, by simp⟩
theorem Ep (sc : jW [p, x] p scope) (cd : ∃ c, X.env.code = .ref c /\ CodeHd X.base c P) (bm : BM X.mg X.base) (df : defaultsOf params X.env = ([], [])) (bd : ∀ (name qual : Str) (body : Expr) (bU : List (Str × Addr)) (pm cv pR u : Value), bindArgs (kla_fn name qual params body scope bU pm cv pR) ⟨[u], []⟩ = pure [(p, u)])
 (hf : (scope.names.filter fun y => y.2 == .free).map (·.1) = [x]) (hl : scope.names.lookup x = some .free) (hN : X.N[j]? = some x) (hk : X.env.kindOf x = some .cell) : p7 X P params scope p [x] [j] :=
 ⟨sc, cd, bm, df, bd, Aj hf (.inl hk), fun i y h => by
  cases i with
  | zero =>
    have : x = y := by simpa using h
    subst this
    exact ⟨hl, j, rfl, hN, .inl hk⟩
  | succ i => simp at h, rfl⟩
end
section
variable {σ : St} {H : Hp} {Q : VK} {K : PySem.W.Frag} {p : Addr} {m : List (Str × PyData)}
theorem uX {P : Addr} {pos : Pos} {q : Str} {te : TE} {js : List Nat} {t : TA} (h : t σ H fun vs H1 => TabAt H1 P pos q /\ ∀ H2, Mv [P] H1 H2 -> TabAt H2 P pos q -> pj (ui te js σ) vs H2 Q) : tY P pos q te js t σ H Q := h
theorem xY {sp : Sp} (key : Str -> Int × Str) (hp : ic H p m) (h64 : m.length < 64)
 (hk : ∀ x ∈ m.map (·.1), ∀ H', au H H' -> sp [.str x] H' (fun y H2 => au H' H2 /\ Dv H2 y (.tuple [.int (key x).1, .str (key x).2])) E0)
 (k : ∀ q H' (ss : List Str), au H H' -> H q = none -> ss.Perm (m.map (·.1)) -> ss.Pairwise (fun c d => d6 (key d) (key c) = false) -> cw H' q (ss.map PyData.str) -> Q (.ref q) H') : pj sp [.ref p] H Q := by
 obtain ⟨kvs, e, dk⟩ := hp
 have yR : kvs.map (fun kv => kV kv.1) = (m.map (·.1)).map V.str := by
  clear hk k h64 e
  induction dk with
  | nil => rfl
  | cons h1 h2 r ih => rw [List.map_cons, ih]; rfl
 refine ⟨p, kvs, fun v => match v with | .str x => key x | _ => (0, ⟨#[]⟩), rfl, .inl e, ?_, fun v hv H' sm => ?_, fun l ys H' sm hn FP ord => ?_⟩
 . have := congrArg List.length yR
   simp only [List.length_map] at this
   omega
 . rw [yR] at hv
   obtain ⟨x, hx, rfl⟩ := List.mem_map.mp hv
   exact hk x hx H' sm
 . rw [yR] at ord
   obtain ⟨pm, pw⟩ := ord
   obtain ⟨ss, IV, pc⟩ : ∃ ss : List Str, ys = ss.map V.str /\ ss.Perm (m.map (·.1)) := by
    have CP : ∀ v ∈ ys, ∃ x, v = .str x := fun v hv => by
     obtain ⟨x, _, rfl⟩ := List.mem_map.mp (pm.mem_iff.mp hv)
     exact ⟨x, rfl⟩
    have h1 : (ys.map fun v => match v with | .str x => x | _ => (⟨#[]⟩ : Str)).Perm (((m.map (·.1)).map V.str).map fun v => match v with | .str x => x | _ => (⟨#[]⟩ : Str)) := pm.map _
    refine ⟨ys.map fun v => match v with | .str x => x | _ => (⟨#[]⟩ : Str), ?_, ?_⟩
    . rw [List.map_map]
      conv => lhs; rw [<- List.map_id ys]
      refine List.map_congr_left fun v hv => ?_
      obtain ⟨x, rfl⟩ := CP v hv
      rfl
    . rw [List.map_map] at h1
      have e : (m.map (·.1)).map ((fun v => match v with | V.str x => x | _ => (⟨#[]⟩ : Str)) ∘ V.str) = m.map (·.1) := by
       conv => rhs; rw [<- List.map_id (m.map (·.1))]
       exact List.map_congr_left fun x _ => rfl
      rw [e] at h1
      exact h1
   subst IV
   have jb : au H (upd H' l (.lst (ss.map V.str))) := sm.trans (bV FP)
   refine k l _ ss jb hn pc ?_ ⟨_, aj, ?_, kJ _⟩
   . rw [List.pairwise_map] at pw
     exact pw
   . exact fM ss
end
section
variable {σ : St} {H : Hp} {D : Ends} {p : Addr} {m : List (Str × PyData)} {g : TG} {tb : TS}
end
section
variable {σ : St} {H : Hp} {Q : VK} {K : PySem.W.Frag} {p : Addr} {m : List (Str × PyData)} {k : Str}
end
def hV (m : List (Str × V)) : List (Key × V) := m.map fun x => (.inr x.1, x.2)
theorem t5 {k : Str} : ∀ {m : List (Str × V)}, ((hV m).any fun kv => decide (kv.1 = .inr k)) = m.any fun kv => decide (kv.1 = k)
 | [] => rfl
 | x :: r => by
   have := t5 (k := k) (m := r)
   unfold hV at *
   simp only [List.map_cons, List.any_cons, this, uB]
theorem zP {m : List (Str × V)} {k : Str} {v : V} (h : k ∉ m.map (·.1)) : putK (hV m) (.inr k) v = hV (m ++ [(k, v)]) := by
 unfold putK
 rw [t5, if_neg]
 . unfold hV; rw [List.map_append]; rfl
 . simp only [List.any_eq_true, not_exists, not_and]
   intro x hx e
   exact h (List.mem_map.mpr ⟨x, hx, of_decide_eq_true e⟩)
theorem t7 {k : Str} : ∀ {m : List (Str × V)}, k ∈ m.map (·.1) -> ∃ v, (k, v) ∈ m /\ iW (hV m) (.inr k) = some v
 | [], h => by simp at h
 | (j, v) :: r, h => by
   by_cases e : j = k
   . subst e
     exact ⟨v, List.mem_cons_self, ip rfl⟩
   . have h2 : k ∈ r.map (·.1) := by
      rcases List.mem_cons.mp h with z | z
      . exact absurd z.symm e
      . exact z
     obtain ⟨u, hu, hv⟩ := t7 h2
     exact ⟨u, List.mem_cons_of_mem _ hu, by unfold hV at *; rw [List.map_cons, fU (fun z => e (Sum.inr.inj z))]; exact hv⟩
section
variable {σ : St} {H H' : Hp} {Q : VK} {K : PySem.W.Frag} {p l : Addr} {ns : List Str} {f : Str -> List PyData} {k : Str}
end
section
variable {H H' : Hp} {P : Addr} {pos : Pos} {q : Str}
theorem TabAt.ia (h : TabAt H P pos q) : ∃ ps, H P = some (.ia ps) := by
 rcases h with h | ⟨c, _, h, _⟩
 . exact ⟨_, h⟩
 . exact ⟨_, h⟩
theorem TabAt.ne {b : Addr} {u : HO} (h : TabAt H P pos q) (e : H b = some u) (nt : ∀ ps, u ≠ .ia ps) : b ≠ P := fun z => by
 obtain ⟨ps, hp⟩ := h.ia
 rw [z, hp] at e
 cases e
 exact nt _ rfl
theorem TabAt.Ds {b : Addr} {u : HO} (h : TabAt H P pos q) (e : H b = some u) (nt : ∀ ps, u ≠ .ia ps) (nx : ∀ φ, u ≠ .ext φ) (mv : Mv [b] H H') : TabAt H' P pos q :=
 h.mv mv fun c hc => by
  rw [List.mem_singleton.mp hc]
  exact ⟨h.ne e nt, fun φ z => by rw [e] at z; cases z; exact nx _ rfl⟩
theorem TabAt.LC {d : Addr} {m : List (Str × PyData)} (h : TabAt H P pos q) (hd : ic H d m) (mv : Mv [d] H H') : TabAt H' P pos q := let ⟨_, e, _⟩ := hd; h.Ds e (by intro _ z; cases z) (by intro _ z; cases z) mv
theorem TabAt.Gp {d : Addr} {ds : List PyData} (h : TabAt H P pos q) (hd : cw H d ds) (mv : Mv [d] H H') : TabAt H' P pos q := let ⟨_, e, _⟩ := hd; h.Ds e (by intro _ z; cases z) (by intro _ z; cases z) mv
theorem TabAt.KS {d : Addr} {m : List (Str × PyData)} (h : TabAt H P pos q) (hd : ic H d m) : d ≠ P := let ⟨_, e, _⟩ := hd; h.ne e (by intro _ z; cases z)
theorem TabAt.rC {d : Addr} {ds : List PyData} (h : TabAt H P pos q) (hd : cw H d ds) : d ≠ P := let ⟨_, e, _⟩ := hd; h.ne e (by intro _ z; cases z)
theorem TabAt.HN {C : Addr} {v : V} {fs : List (Str × V)} (h : TabAt H P pos q) (hi : u3 H v C fs) (mv : Mv [P] H H') : u3 H' v C fs := by
 obtain ⟨p, dx, rfl, e⟩ := hi
 exact ⟨p, dx, rfl, mv.at (by simpa using h.ne e (by intro _ z; cases z)) e⟩
theorem TabAt.Oa {d : Addr} {m : List (Str × PyData)} (h : TabAt H P pos q) (hd : ic H d m) (mv : Mv [P] H H') : ic H' d m := hd.mv mv (by simpa using h.KS hd)
theorem BE {te : TE} {js : List Nat} {σ : St} {v : V} {Q : VK} {E : XK} (h : te (some v :: js.map fun j => σ.getD j none) H Q) : ui te js σ [v] H Q E := ⟨v, rfl, h⟩
end
section
variable {prog : Program} {w : World} {A : Around} {E : Value -> Shared -> Prop} {s : Shared}
theorem qk {T : String} {r d : Addr} {n : Nat} {Pk : Nat -> Value -> Prop} {OK : Heap -> Prop} {ss : List Str} {Q : Value -> Shared -> Prop} (src : KdlSrc prog w T r d n Pk OK) (hh : A.handled = none) (ok : OK s.heap) (h64 : n < 64) (hP : ∀ acc : Array Value, ItemsOf Pk acc n -> StrsAre acc.toList ss)
 (h : ∀ (h1 h' : Heap) (tk e : Nat) (us : List Value) (kQ : List Str), (∀ b u, s.heap.get? b = some u -> h1.get? b = some u) -> (∀ b u, h1.get? b = some u -> h'.get? b = some u) -> h'.get? h1.objs.size = some { cls := .type "list", data := .seq us.toArray e } -> StrsAre us kQ -> kQ.Perm ss -> sortedS kQ = true -> Q (.ref h1.objs.size) { s with heap := h', toks := tk }) :
 wpAny (model prog w) A (call (.builtin "sorted") [.ref r]) Q E s := by
 refine Calls.call_function_entry kind_sorted plain_sorted entry_sorted (args_sorted1 _) ?_
 unfold Builtin.«sorted»
 refine wpAny_bind (m := checkCount "sorted" 1 1 _) (wpAny_pure ?_)
 refine wpAny_bind (kdu_collect (A := A.in1) src hh ok (by rw [sizeLine_eq]; omega) fun h1 tk acc kp cO => ?_)
 have hS := hP acc cO
 have hn : acc.toList.length < 64 := by
  have e : acc.size = n := cO.1
  rw [Array.length_toList, e]; exact h64
 refine wpAny_bind (wpAny_newList ?_ (hsz := by rw [sizeLine_eq]; omega))
 generalize acc.toList = vs at *
 have zf : (h1.push (seqObj "list" vs.toArray 0)).get? h1.objs.size = some (seqObj "list" vs.toArray 0) := Heap.get?_push_size _ rfl
 refine wpAny_bind (wpAny_holding (wpAny_call_entry slot_list_sort ⟨_, zf, rfl⟩ entry_list_sort (list_sort_treeK strKind_oneLt zf hS.keysOf (fun v₁ v₂ rest e => keyKind_strs (by rw [<- e]; exact hS)) hn fun vS a1 a2 => ⟨_, rfl, ?_⟩) (args_list_sort _)))
 obtain ⟨kQ, b1, b2, b3⟩ := sorted_out_str hS a1 a2
 obtain ⟨e, he⟩ := sortedHeap_at (out := (arrOf vS).map (·.2)) zf
 refine wpAny_pure ⟨_, rfl, h h1 _ tk e ((arrOf vS).map (·.2)).toList kQ kp (fun b u q => ?_) (by rw [Array.toArray_toList]; exact he) b1 b2 b3⟩
 have jZ : b < h1.objs.size := Heap.lt_size q
 rw [sortedHeap_old (Nat.ne_of_lt jZ) (by rw [size_push']; exact Nat.lt_succ_of_lt jZ)]
 exact Heap.get?_push_of_some _ q
end
section
variable {X : Cx}
def CY : V -> Hp -> VK -> Prop := fun x H Q => ∃ (p : Addr) (kvs : List (Key × V)) (ks : List Str), x = .ref p /\ H p = some (.dK kvs) /\ kvs.map (fun kv => kV kv.1) = ks.map V.str /\ ks.length < 64 /\ ∀ q H' ss, au H H' -> H q = none -> ss.Perm ks -> va ss -> cw H' q (ss.map PyData.str) -> Q (.ref q) H'
theorem nW : ∀ {ks : List Str} {us : List Value}, Vals (ks.map V.str) us -> StrsAre us ks
 | [], _, .nil => .nil
 | _ :: _, _, .cons q t => by
   obtain ⟨tk, rfl⟩ := q
   exact .cons _ _ (nW t)
theorem vf {pins : List (Addr × Obj)} {σ : St} {H : Hp} {s : Shared} {Q : VK} {h1 h' : Heap} {tk e : Nat} {us : List Value} {kQ : List Str} (I : Inv X pins σ H s) (k1 : ∀ b u, s.heap.get? b = some u -> h1.get? b = some u) (k2 : ∀ b u, h1.get? b = some u -> h'.get? b = some u) (he : h'.get? h1.objs.size = some { cls := .type "list", data := .seq us.toArray e }) (hS : StrsAre us kQ) (hl : kQ.length < 64)
 (q : ∀ q H', au H H' -> H q = none -> cw H' q (kQ.map PyData.str) -> Q (.ref q) H') : ∃ v H1, Inv X pins σ H1 { s with heap := h', toks := tk } /\ RelV v (.ref h1.objs.size) /\ Q v H1 := by
 have I1 := I.kept (t' := tk) (h' := h1) k1
 have hq : H h1.objs.size = none := I1.aF.fresh (Nat.le_refl _)
 refine ⟨.ref h1.objs.size, upd H h1.objs.size (.lst (kQ.map V.str)), I1.laid (t' := tk) k2 (Nat.le_refl _) ?_, rfl, q _ _ (bV hq) hq (lg hq (fM kQ) (b9 (fun _ => rfl) _))⟩
 exact ⟨by rw [List.length_map]; exact Nat.le_of_lt (dq (by omega)), us, e, kq hS, he⟩
def uh : List V -> Hp -> VK -> Prop := fun xs H Q => ∃ v, xs = [v] /\ CY v H Q
theorem rA (hc : X.calm = true) : ie X (.builtin "sorted") uh := by
 intro pins s σ H xs us Q I r h
 obtain ⟨v, rfl, d, kvs, ks, rfl, hd, Kc, hl, q⟩ := h
 obtain ⟨u, rfl, ru⟩ := vals1 r
 cases ru
 obtain ⟨hz, hs, vs, kv, HA⟩ := (show aO X.prog X.w H s.heap d (.dK kvs) from I.aF d _ hd)
 obtain ⟨ep, da⟩ := HA.dictAt
 have hlen : vs.length = kvs.length := kv.length.symm
 have Ki : kvs.length = ks.length := by have := congrArg List.length Kc; rwa [List.length_map, List.length_map] at this
 refine qk (kdl_dict (knd := aJ X.prog X.w) (kvs := vs) (ep := ep) hs) (I.ok.hd hc) da (by omega) (fun acc cO => nW (Kc ▸ jf kv cO)) fun h1 h' tk e us kQ k1 k2 he hS hp pC => ?_
 exact vf I k1 k2 he hS (by rw [hp.length_eq]; exact hl) fun a H' sm hn wZ => q a H' kQ sm hn hp (jS pC) wZ
end
section
variable {σ : St} {H : Hp} {Q : VK}
end
abbrev wo (A : Around) : Around := { A with handled := none }
abbrev wi (A : Around) (h : Option Value) : Around := { A with handled := h }
abbrev Cx.yd (X : Cx) (h : Option Value) : Cx := { X with A := wi X.A h, calm := false, xe := fun _ _ => False }
theorem Inv.Af {X : Cx} {pins : List (Addr × Obj)} {σ : St} {H : Hp} {s : Shared} {h : Option Value} (I : Inv X pins σ H s) : Inv (X.yd h) pins σ H s :=
 ⟨⟨I.ok.mod, I.ok.kind, I.ok.glob, I.ok.blt, I.ok.above, I.ok.inj, I.ok.has, I.ok.za, (fun z => nomatch z), I.ok.frames, I.ok.Ba, I.ok.Br, I.ok.bs, I.ok.pA, I.ok.mY, I.ok.nq, I.ok.fX, I.ok.sf⟩, I.os, I.bare, I.base, I.loc, I.cell, I.free, I.cE, I.pin, I.aF, I.len⟩
structure tP (P : Program) (w : World) (K : PySem.W.Frag) (mg : Str -> Option Value) (base : Heap) (k : Nat) (f : Addr) (fd : FuncData) (ps : List Str) (sp : Sp) : Prop where
 len : ∀ vs H Q E, sp vs H Q E -> vs.length = ps.length
 run : ∀ (A : Around) (outer : List Env) (s : Shared) (H : Hp) (args : Args) (us : List Value) (vs : List V) (Q : VK) (E : XK), aU k (wo A) -> k6 P w K mg base A outer s H -> BindsTo s fd args (ps.zip us) -> Vals vs us -> sp vs H Q E ->
  codeAny (model P w) A (.call (.ref f) args) (CR jR outer P w H s Q E) s
section
variable {P : Program} {w : World} {K : PySem.W.Frag} {mg : Str -> Option Value} {base : Heap}
theorem cG.Px {x qual : Str} {st : Stmt} {f : Addr} {dV : Value} {fd : FuncData} {N ps : List Str} {k : Nat} {sp : Sp} (F : cG K x qual st f dV fd) (S : aG N ps (av st)) (len : ∀ vs H Q E, sp vs H Q E -> vs.length = ps.length)
 (gS : ∀ (cV : Value) (A : Around) (hh : Option Value) (outer : List Env) (s : Shared) (H : Hp) (vs : List V) (Q : VK) (E : XK), aU k (A.deeper (envOfC qual (av st) s.heap.objs.size f cV)) -> sp vs H Q E ->
  ∃ t, nj ((iU jR P w K mg base N qual (av st) f cV A outer s H E).yd hh) (eC st) t /\ t { nx := fun _ H' => Q .aP H', rt := Q } (start N vs) H) : tP P w K mg base (k + 1) f fd ps sp := by
 obtain ⟨oc, od, kV, doc, pm, an, cV, ct, qW, rfl, lk, kX⟩ := F.ex
 refine ⟨len, fun A outer s H args us vs Q E hr e0 hb r qQ => ?_⟩
 have hl := len _ _ _ _ qQ
 have KX : K.In s.heap := e0.mod.Fh.keeps fun b o e => (e0.bs b o e).1
 have lim : s.heap.NoLimit := e0.mod.nolimit.keeps fun b o e => (e0.bs b o e).1
 have yr : ∀ y ∈ ps.zip us, (av st).names.lookup y.1 = some .local \/ ((av st).names.lookup y.1 = some .cell /\ ((cellsFrom (s.heap.objs.size + 1) (av st).names []).lookup y.1).isSome = true) := fun ⟨n, v⟩ hy => by
  rcases S.par n (List.of_mem_zip hy).1 with q | q
  . exact .inl q
  . exact .inr ⟨q, PySem.W.cellsFrom_some _ _ _ (.inl q)⟩
 refine codeAny_call_function (A := A) (show A.depth < recursionLimit from hr.depth) (KX _ _ lk) rfl S.co S.gen rfl (PySem.W.codeRec_of KX kX) (hb _ _ _ _ ?_)
 refine wpAny_newFunctionEnv_cells S.kind yr fun env he s1 x => ?_
 subst he
 refine ⟨lim.keeps x.toInCall.keep, codeAny_func ?_⟩
 obtain ⟨t, ht, hq⟩ := gS cV (wo A) A.handled outer s H vs Q E (hr.deeper _) qQ
 have Pz : k6 P w K mg base (wo A) outer s H := ⟨e0.frames, e0.mod, e0.bs, e0.pA, e0.fX, e0.sf, e0.aF, e0.bare⟩
 have I := (nY (CX := jR) (E := E) S (A := wo A) rfl Pz hl r x).Af (h := A.handled)
 refine wpAny_mono (ht [] s1 (start N vs) H _ I hq) (fun fl s' hs => ?_) fun e s' hs => hs.elim
 have fin : ∀ {σ' : St} {H' : Hp} {v : V} {u : Value}, Inv ((iU jR P w K mg base N qual (av st) f cV (wo A) outer s H E).yd A.handled) [] σ' H' s' -> RelV v u -> Q v H' -> CE outer P w H s Q u s' :=
  fun {σ' H' v u} J rv q => ⟨v, H', J.os, J.bare, J.base, J.aF, rv, q⟩
 cases fl with
 | ret u =>
   obtain ⟨v, σ', H', J, rv, q⟩ := hs
   exact fin J rv q
 | next =>
   obtain ⟨σ', H', J, q⟩ := hs
   exact fin (v := V.aP) (u := Value.none) J rfl q
 | brk =>
   obtain ⟨_, _, _, q⟩ := hs
   exact False.elim q
 | cont =>
   obtain ⟨_, _, _, q⟩ := hs
   exact False.elim q
end
structure Ir (P : Program) (w : World) (K : PySem.W.Frag) (mg : Str -> Option Value) (base : Heap) (k : Nat) (f : Addr) (ps : List Str) (bA : List V) (sp : Sp) : Prop where
 ex : ∃ (fd : FuncData) (ds : List Value), tP P w K mg base k f fd ps sp /\ Binds K fd ps ds /\ Vals bA ds
section
variable {X : Cx} {k : Nat} {f C : Addr} {fd : FuncData} {ps : List Str} {sp : Sp} {bA : List V} {ds : List Value} {m : Str} {pos apos : Pos} {e o : Expr} {es : List Expr} {ta : TE} {t : TA}
theorem BG {pins : List (Addr × Obj)} {σ : St} {H : Hp} {s : Shared} {Q : VK} {us : List Value} {vs : List V} (F : tP X.prog X.w X.K X.mg X.base k f fd ps sp) (hr : aU k (wo X.A)) (hb : Binds X.K fd ps ds) (hd : Vals bA ds)
 (I : Inv X pins σ H s) (r : Vals vs us) (h : sp (vs ++ bA) H Q E0) : wpAny (model X.prog X.w) X.A (call (.ref f) us) (EP X pins σ Q) X.xe s := by
 have r2 : Vals (vs ++ bA) (us ++ ds) := r.append hd
 have hl : (us ++ ds).length = ps.length := by rw [<- r2.length]; exact F.len _ _ _ _ h
 refine wpAny_call (codeAny_mono (F.run X.A X.stack s H ⟨us, []⟩ (us ++ ds) (vs ++ bA) Q E0 hr I.sd (hb s us I.fL hl) r2 h) fun r s' hq => ?_)
 cases r with
 | error e => exact False.elim hq
 | ok fl =>
   cases fl with
   | ret u => exact I.after hq
   | next => exact False.elim hq
   | brk => exact False.elim hq
   | cont => exact False.elim hq
theorem BQ {pl : Sem Bool} (he : PE X o ta) (c : mV X.K C) (hm : Meth X.K C m f) (F : Ir X.prog X.w X.K X.mg X.base k f ps bA sp) (hr : aU k (wo X.A)) (ha : PA X (e :: es) t)
 (kN : starEach (e :: es) X.env = (false, eval e X.env) :: starEach es X.env := by rfl) (kl : (backTo pos (starEach es X.env)).any (·.1) = false := by rfl)
 (ht : eval (.Call (.Attribute o m apos) (e :: es) [] pos) X.env = (do
  let ov <- eval o X.env
  standAt apos.atName
  let (f, first) <- holding [ov] (getMethod ov m pl)
  callWith pos f first (backTo pos (starEach (e :: es) X.env)) (backToKw pos (keywordEach [] X.env))) := by rfl) :
 PE X (.Call (.Attribute o m apos) (e :: es) [] pos) (j5 C m sp bA E0 ta t) := by
 rw [kh]
 obtain ⟨fd, ds, F, hb, hd⟩ := F.ex
 intro pins s σ H Q I h
 refine PySem.W.methodCall_KW (pl := pl) (bR (he pins s σ H _ I h) fun u s1 ⟨x, H1, I1, rx, a, dx, fs, ex, ea, l, q⟩ => ?_) ht
 subst ex
 obtain rfl : u = Value.ref a := rx
 refine gu I1 ea c hm l ?_
 refine PySem.W.callWith_K (first := [.ref a]) (h₀ := X.base) I.ok.mod.Fh hm.kp (bR (ha pos pins s1 σ H1 _ I1 q) fun us s2 ⟨vs, H2, I2, r, q2⟩ => ⟨I2.fL, ?_⟩) kN kl
 exact BG (us := .ref a :: us) (vs := .ref a :: vs) F hr hb hd I2 (.cons rfl r) q2
theorem aU.Qj {k : Nat} {A : Around} {h : Option Value} (r : aU k A) : aU k (wo (A.mark h)) := ⟨rfl, r.dp, r.un⟩
end
theorem F6 {X : Cx} {K : PySem.W.Frag} (h : X.K = K) : vO X (zJ K) := by subst h; exact ow
def je (H : Hp) (p : Addr) (ns : List Str) (f : Str -> List Str) (b : Str -> Bool) : Prop := ∃ m, H p = some (.dK (hV m)) /\ m.map (·.1) = ns /\ ∀ x ∈ m, ∃ t l, x.2 = .ref t /\ H t = some (.tup [.ref l, .bl (b x.1)]) /\ cw H l ((f x.1).map PyData.str)
theorem uk (m : List (Str × V)) : (hV m).length = m.length := List.length_map ..
theorem x5 {k : Str} (m : List (Str × V)) : g6 (hV m) (.inr k) = hV (m.filter fun x => decide (x.1 ≠ k)) := by
 unfold g6 hV
 rw [List.filter_map]
 congr 1
 refine List.filter_congr fun x _ => ?_
 simp
theorem tU {m : List (Str × V)} {i : Nat} {kv : Key × V} (h : (hV m)[i]? = some kv) : ∃ x, m[i]? = some x /\ kv = (.inr x.1, x.2) := by
 unfold hV at h
 rw [List.getElem?_map] at h
 cases e : m[i]? with
 | none => rw [e] at h; cases h
 | some x => rw [e] at h; cases h; exact ⟨x, rfl, rfl⟩
section
variable {σ : St} {H H' : Hp} {Q : VK} {D : Ends} {K : PySem.W.Frag} {p l t : Addr} {ns : List Str} {f : Str -> List Str} {b : Str -> Bool} {k : Str}
theorem je.keeps (s : au H H') (h : je H p ns f b) : je H' p ns f b := by
 obtain ⟨m, e, hn, hl⟩ := h
 exact ⟨m, s _ _ e, hn, fun x hx => let ⟨t, l, e1, e2, e3⟩ := hl x hx; ⟨t, l, e1, s _ _ e2, e3.keeps s⟩⟩
theorem je.mv {S : List Addr} (v : Mv S H H') (n : p ∉ S) (nl : ∀ c ∈ S, ∀ ds, ¬ cw H c ds) (h : je H p ns f b) : je H' p ns f b := by
 obtain ⟨m, e, hn, hl⟩ := h
 exact ⟨m, v.at n e, hn, fun x hx => let ⟨t, l, e1, e2, e3⟩ := hl x hx; ⟨t, l, e1, v.tp _ _ e2, e3.mv v fun z => nl l z _ e3⟩⟩
theorem je.ne {q : Addr} (h : je H p ns f b) (hn : H q = none) : p ≠ q := let ⟨_, e, _⟩ := h; ay e hn
theorem je.rC {q : Addr} {ds : List PyData} (h : je H p ns f b) (h2 : cw H q ds) : p ≠ q := let ⟨_, e, _⟩ := h; let ⟨_, e2, _, _⟩ := h2; et e e2 (by intro z; cases z)
theorem zW (h : ic H p []) : je H p [] f b := by
 obtain ⟨kvs, e, d⟩ := h
 cases d
 exact ⟨[], e, rfl, fun x hx => by simp at hx⟩
theorem zu {R : Hp -> Prop} (hp : je H p ns f b) (hl : ns.length <= 4000) (hk : k ∉ ns) (ht : H t = some (.tup [.ref l, .bl (b k)])) (hv : cw H l ((f k).map PyData.str)) (h : ∀ H2, Mv [p] H H2 -> je H2 p (ns ++ [k]) f b -> R H2) : ∃ a H4, V.ref p = .ref a /\ oF H a (.str k) (.ref t) H4 /\ R H4 := by
 obtain ⟨m, e, rfl, ha⟩ := hp
 have mv : Mv [p] H (upd H p (.dK (putK (hV m) (.inr k) (.ref t)))) := .eP e (by intro _ z; cases z)
 have nl : ∀ {c : Addr} {ds : List PyData}, cw H c ds -> c ∉ [p] := fun {c ds} hb z => by
  obtain ⟨xs, e2, _⟩ := hb
  rw [List.mem_singleton.mp z, e] at e2; cases e2
 refine ⟨p, _, rfl, oF.k (k := .inr k) e (by unfold hV; rw [List.length_map]; rw [List.length_map] at hl; exact dq hl), h _ mv ⟨m ++ [(k, .ref t)], by rw [aj, zP hk], by rw [List.map_append]; rfl, fun x hx => ?_⟩⟩
 rcases List.mem_append.mp hx with hx | hx
 . obtain ⟨t', l', e1, e2, e3⟩ := ha x hx
   exact ⟨t', l', e1, mv.tp _ _ e2, e3.mv mv (nl e3)⟩
 . rw [List.mem_singleton.mp hx]
   exact ⟨t, l, rfl, mv.tp _ _ ht, hv.mv mv (nl hv)⟩
theorem IJ {R : Prop} (hp : je H p ns f b) (h : R) : CF K "dict" (.ref p) H /\ R := let ⟨_, e, _⟩ := hp; ⟨.inr (.inr (.inl ⟨rfl, .inl ⟨_, e⟩⟩)), h⟩
theorem Bw (hp : je H p ns f b) (hk : k ∈ ns) (h : ∀ v H2, Mv [p] H H2 -> je H2 p (ns.filter fun x => decide (x ≠ k)) f b -> Q v H2) : wC (.ref p) [.str k] H Q := by
 obtain ⟨m, e, rfl, ha⟩ := hp
 obtain ⟨v, hv, e2⟩ := t7 hk
 have mv : Mv [p] H (upd H p (.dK (g6 (hV m) (.inr k)))) := .eP e (by intro _ z; cases z)
 refine ⟨p, hV m, .inr k, v, rfl, rfl, e, e2, h v _ mv ⟨m.filter fun x => decide (x.1 ≠ k), by rw [aj, x5], by rw [List.filter_map]; rfl, fun x hx => ?_⟩⟩
 obtain ⟨t', l', e1, e3, e4⟩ := ha x (List.mem_filter.mp hx).1
 refine ⟨t', l', e1, mv.tp _ _ e3, e4.mv mv fun z => ?_⟩
 obtain ⟨xs, e5, _⟩ := e4
 rw [List.mem_singleton.mp z, e] at e5; cases e5
theorem qI (m : List (Str × V)) : (hV m).map (fun kv => kV kv.1) = (m.map (·.1)).map V.str := by unfold hV; rw [List.map_map, List.map_map]; rfl
theorem tO (hp : je H p ns f b) (k : ∀ q H', au H H' -> H q = none -> cw H' q (ns.map PyData.str) -> Q (.ref q) H') : wu [.ref p] H Q := by
 obtain ⟨m, e, rfl, _⟩ := hp
 refine ⟨p, hV m, rfl, .inl e, fun q hq => k q _ (bV hq) hq ?_⟩
 rw [qI]
 exact lg hq (fM _) (b9 (fun _ => rfl) _)
theorem we (hp : je H p ns f b) (hl : ns.length < 64) (h : ∀ q H' ss, au H H' -> H q = none -> ss.Perm ns -> va ss -> cw H' q (ss.map PyData.str) -> Q (.ref q) H') : uh [.ref p] H Q := by
 obtain ⟨m, e, rfl, _⟩ := hp
 exact ⟨_, rfl, p, hV m, _, rfl, e, qI m, hl, h⟩
theorem Hg {n : Nat} {tl : TE} {g : TG} {tc : TT} {te : TE} (hp : je H p ns f b) (Ig : ∀ R : V -> Hp -> Prop, R (.ref p) H -> tl σ H R) (pf : Str -> Bool) (hlen : ns.length <= 4000)
 (turn : ∀ t k u l Hf H' (N : Option V -> Hp -> Prop), k ∈ ns -> Mv [p] H Hf -> au Hf H' -> H' t = some (.tup [.str k, .ref u]) -> H' u = some (.tup [.ref l, .bl (b k)]) -> cw H' l ((f k).map PyData.str) -> (pf k = true -> ∀ H4, au H' H4 -> N (some (.str k)) H4) -> (pf k = false -> ∀ H3, au H' H3 -> N none H3) ->
  g (.ref t) (List.replicate n none ++ σ) H' fun σ2 H2 => tc σ2 H2 fun b H3 => FR te N σ2 b H3)
 (kk : ∀ q H', au H H' -> H q = none -> cw H' q ((ns.filter pf).map PyData.str) -> Q (.ref q) H') : wy (Kb n (sH tl) g tc te) σ H Q := by
 obtain ⟨m, e, rfl, ha⟩ := hp
 refine ⟨p, hV m, e, Ig _ ⟨p, hV m, rfl, e, fun o => ?_⟩⟩
 have mv : Mv [p] H (upd H p (.dX o (.dK (hV m)))) := .eP e (by intro _ z; cases z)
 have hl := uk m
 rw [List.length_map] at hlen
 refine ⟨fun i j acc H' => i <= m.length /\ j = m.length - i /\ au (upd H p (.dX o (.dK (hV m)))) H' /\ acc = (((m.take i).map (·.1)).filter pf).map V.str, ⟨m.length, Nat.zero_le _, rfl, au.refl _, rfl⟩, ?_⟩
 rintro i j acc H' ⟨IL, rfl, sm, cO⟩
 have uq : H' p = some (.dX o (.dK (hV m))) := sm _ _ aj
 have KN : acc.length <= m.length := by
  rw [cO, List.length_map]
  refine Nat.le_trans (List.length_filter_le _ _) ?_
  rw [List.length_map, List.length_take]
  omega
 by_cases hc : i = m.length
 . left
   refine ⟨⟨by omega, uq⟩, fun q hq => ?_⟩
   have Et : p ≠ q := ay uq hq
   have tk : m.take i = m := List.take_of_length_le (by omega)
   rw [tk] at cO
   have ups : upd (upd H' q (.lst acc)) p (.dK (hV m)) q = some (.lst acc) := by rw [ah (Ne.symm Et), aj]
   refine ⟨⟨o, by rw [ah Et]; exact uq⟩, kk q _ (fun a u z => ?_) ?_ ⟨acc, ups, by rw [cO]; exact fM _, b9 (fun _ => rfl) _⟩⟩
   . by_cases ha : a = p
     . subst ha; rw [e] at z; cases z; exact aj
     . have z1 : H' a = some u := sm _ _ (by rw [ah ha]; exact z)
       rw [ah ha, ah (ay z1 hq)]; exact z1
   . cases hz : H q with
     | none => rfl
     | some u =>
       have : H' q = some u := sm _ _ (by rw [ah (Ne.symm Et)]; exact hz)
       rw [hq] at this; cases this
 . right
   have jZ : i < m.length := by omega
   refine ⟨⟨by omega, uq⟩, dq (by omega), fun x H2 hy => ?_⟩
   obtain ⟨t, kv, Hd, rfl, ht, rfl⟩ := hy
   obtain ⟨c, hm, rfl⟩ := tU Hd
   have yx : (m.take (i + 1)).map (·.1) = (m.take i).map (·.1) ++ [c.1] := by rw [List.take_add_one, hm, List.map_append]; rfl
   obtain ⟨u, l, e1, e2, e3⟩ := ha c (List.mem_of_getElem? hm)
   have KG : au H' (upd H' t (.tup [kV (.inr c.1), c.2])) := bV ht
   have jb := sm.trans KG
   have Mh : l ∉ [p] := fun z => by
    obtain ⟨xs, e5, _⟩ := e3
    rw [List.mem_singleton.mp z, e] at e5; cases e5
   refine turn t c.1 u l _ _ (fun r H4 => match r with | some y => ∃ j', j' < m.length - i /\ i + 1 <= m.length /\ j' = m.length - (i + 1) /\ au (upd H p (.dX o (.dK (hV m)))) H4 /\ acc ++ [y] = (((m.take (i + 1)).map (·.1)).filter pf).map V.str | none => ∃ j', j' < m.length - i /\ i + 1 <= m.length /\ j' = m.length - (i + 1) /\ au (upd H p (.dX o (.dK (hV m)))) H4 /\ acc = (((m.take (i + 1)).map (·.1)).filter pf).map V.str)
    (List.mem_map_of_mem (List.mem_of_getElem? hm)) mv jb (by rw [aj, e1]; rfl) (jb _ _ (mv.tp _ _ e2)) ((e3.mv mv Mh).keeps jb) (fun hb H4 s4 => ⟨m.length - (i + 1), by omega, jZ, rfl, jb.trans s4, ?_⟩) (fun hb H3 s3 => ⟨m.length - (i + 1), by omega, jZ, rfl, jb.trans s3, ?_⟩)
   . rw [yx, List.filter_append, List.map_append, cO]
     simp only [List.filter_cons, hb, if_true, List.filter_nil, List.map_cons, List.map_nil]
   . rw [yx, List.filter_append, List.map_append, cO]
     simp only [List.filter_cons, hb, Bool.false_eq_true, if_false, List.filter_nil, List.map_nil, List.append_nil]
theorem DF {tl : TE} {g : TG} {tb : TS} (hp : je H p ns f b) (Ig : ∀ R : V -> Hp -> Prop, R (.ref p) H -> tl σ H R) (Pv : Nat -> St -> Prop) (h0 : Pv 0 σ)
 (hs : ∀ i k t u l σ' Hf H' kvs, ns[i]? = some k -> Pv i σ' -> Mv [p] H Hf -> au Hf H' -> H' t = some (.tup [.str k, .ref u]) -> H' u = some (.tup [.ref l, .bl (b k)]) -> cw H' l ((f k).map PyData.str) ->
  g (.ref t) σ' H' fun σ2 H2 => tb { x4 p kvs D with nx := fun z h => Pv (i + 1) z /\ au Hf h, ct := fun z h => Pv (i + 1) z /\ au Hf h, bk := (x4 p kvs D).nx } σ2 H2)
 (hd : ∀ σ' H', Pv ns.length σ' -> au H H' -> D.nx σ' H') : xr (Ak (sH tl) g tb) D σ H := by
 obtain ⟨m, e, rfl, ha⟩ := hp
 refine ⟨p, hV m, e, Ig _ ⟨p, hV m, rfl, e, fun o => ?_⟩⟩
 have mv : Mv [p] H (upd H p (.dX o (.dK (hV m)))) := .eP e (by intro _ z; cases z)
 have hl := uk m
 rw [List.length_map] at hd
 refine ⟨fun i j σ' H' => i <= m.length /\ j = m.length - i /\ Pv i σ' /\ au (upd H p (.dX o (.dK (hV m)))) H', ⟨m.length, Nat.zero_le _, rfl, h0, au.refl _⟩, ?_⟩
 rintro i j σ' H' ⟨hi, rfl, hP, sm⟩
 have uq : H' p = some (.dX o (.dK (hV m))) := sm _ _ aj
 by_cases hc : i = m.length
 . left
   subst hc
   exact ⟨⟨hl.symm, uq⟩, ⟨o, uq⟩, hd σ' _ hP (au.pk e sm)⟩
 . right
   have jZ : i < m.length := by omega
   refine ⟨⟨by omega, uq⟩, fun z h => Pv (i + 1) z /\ au (upd H p (.dX o (.dK (hV m)))) h, fun σ2 H2 h2 => ⟨m.length - (i + 1), by omega, jZ, rfl, h2⟩, ?_⟩
   rintro x H2 ⟨t, kv, Hd, rfl, ht, rfl⟩
   obtain ⟨c, hm, rfl⟩ := tU Hd
   obtain ⟨u, l, e1, e2, e3⟩ := ha c (List.mem_of_getElem? hm)
   have KG : au H' (upd H' t (.tup [kV (.inr c.1), c.2])) := bV ht
   have jb := sm.trans KG
   have Mh : l ∉ [p] := fun z => by
    obtain ⟨xs, e5, _⟩ := e3
    rw [List.mem_singleton.mp z, e] at e5; cases e5
   exact hs i c.1 t u l σ' _ _ (hV m) (by rw [List.getElem?_map, hm]; rfl) hP mv jb (by rw [aj, e1]; rfl) (jb _ _ (mv.tp _ _ e2)) ((e3.mv mv Mh).keeps jb)
end
end L2
set_option maxHeartbeats 4000000
namespace My
open PySem L2
local macro_rules | `(tactic| walk_at "same") => `(tactic| first
 | exact au.refl _
 | assumption
 | (refine' au.trans ?m ?s; (case s => assumption); (case m => walk_at "same")))
local macro_rules | `(tactic| walk_at "at") => `(tactic| first
 | assumption
 | exact aj
 | (refine' au.at ?s ?m; (case s => assumption); (case m => walk_at "at")))
local macro_rules | `(tactic| walk_at "dat") => `(tactic| first
 | exact Dv.int _
 | exact Dv.aP
 | exact Dv.bl _
 | exact Dv.str _
 | assumption
 | (refine' Dv.keeps ?s ?m; (case s => assumption); (case m => walk_at "dat")))
local macro_rules | `(tactic| walk_at "ins") => `(tactic| first
 | assumption
 | (refine' u3.keeps ?s ?m; (case s => assumption); (case m => walk_at "ins")))
local macro_rules | `(tactic| walk_at "dats") => `(tactic| first
 | exact cB.nil
 | (refine' cB.cons ?m ?s; (case m => walk_at "dat"); (case s => walk_at "dats"))
 | assumption
 | (refine' cB.keeps ?s ?m; (case s => assumption); (case m => walk_at "dats")))
local macro_rules | `(tactic| walk_at "sql") => `(tactic| first
 | assumption
 | (refine' au.seq ?s ?m; (case s => assumption); (case m => walk_at "sql")))
local macro_rules | `(tactic| walk_at "isq") => `(tactic| first
 | (refine' Or.inl ?m; case m => walk_at "dat")
 | (refine' Or.inr ?m; case m => walk_at "dat"))
set_option hygiene false in
local macro_rules | `(tactic| walk_at "side") => `(tactic| first
 | omega
 | assumption
 | exact (by decide)
 | exact Jd (by omega) (by omega)
 | exact ⟨by decide, by decide, by decide⟩)
set_option hygiene false in
local macro_rules | `(tactic| walk_at "use") => `(tactic| fail)
set_option hygiene false in
local macro_rules | `(tactic| walk_at "lk") => `(tactic| fail)
set_option hygiene false in
local macro_rules | `(tactic| walk_at "put") => `(tactic| fail)
set_option hygiene false in
local macro_rules | `(tactic| walk_at "fin") => `(tactic| fail)
set_option hygiene false in
local macro_rules | `(tactic| walk_at "wds") => `(tactic| first
 | with_reducible refine rG (ws := [_]) rfl ?_
 | with_reducible refine rG (ws := [_, _]) rfl ?_
 | with_reducible refine rG (ws := [_, _, _]) rfl ?_
 | with_reducible refine rG (ws := [_, _, _, _]) rfl ?_
 | with_reducible refine rG (ws := [_, _, _, _, _]) rfl ?_
 | with_reducible refine rG (ws := [_, _, _, _, _, _]) rfl ?_
 | with_reducible refine rG (ws := []) rfl ?_)
set_option hygiene false in
local macro_rules | `(tactic| walk_at "mks") => `(tactic| first
 | fail)
local macro_rules | `(tactic| walk_at "br") => `(tactic| ((with_reducible refine Iw (fun hb => ?_) (fun hb => ?_)) <;> (try simp only [id, decide_eq_true_eq, decide_eq_false_iff_not, Bool.not_eq_true', Bool.not_eq_false', Bool.not_true, Bool.not_false, V.int.injEq, Bool.true_eq_false, Bool.false_eq_true, reduceCtorEq, decide_true, decide_false, not_true, not_false_iff, PyData.eqv, PyData.eqvAll, Bool.and_eq_true, Bool.and_eq_false_iff, Bool.or_eq_true, Bool.or_eq_false_iff, beq_iff_eq, beq_eq_false_iff_ne, ne_eq, bne_iff_ne, Bool.and_true, Bool.and_false, Bool.and_self, beq_self_eq_true, isInt, isBool, isStr, BW, isTup, IW, List.length_cons, List.length_nil] at hb) <;> (try (exfalso; omega)) <;> (try (exfalso; (refine' Md hb ?d); (case d => walk_at "dat")))))
local macro_rules | `(tactic| walk_at "rd1") => `(tactic| first
 | with_reducible refine C9 ?_
 | with_reducible refine Io ?_
 | with_reducible refine Hz ?_
 | with_reducible refine FA ?_
 | with_reducible refine IY ?_
 | ((with_reducible refine' GN ?e ?_); case e => exact rfl)
 | with_reducible refine P6 ?_
 | with_reducible refine Ko ?_
 | with_reducible refine KU ?_
 | with_reducible refine Ml ?_
 | ((with_reducible refine' Q5 ?e ?_); case e => walk_at "side")
 | with_reducible refine QQ ?_
 | with_reducible refine DI ?_
 | with_reducible refine Ho ?_
 | with_reducible refine AZ ?_
 | with_reducible refine Ld ?_
 | with_reducible refine Fp ?_
 | with_reducible refine IU ?_
 | with_reducible refine Mt ?_
 | with_reducible refine Gh ?_
 | with_reducible refine Ei ?_
 | with_reducible refine FC ?_
 | with_reducible refine Mw ?_
 | with_reducible refine Df ?_
 | with_reducible refine vq ?_
 | walk_at "br"
 | with_reducible refine E1 ?_
 | ((with_reducible refine' GQ ?e ?_); case e => exact rfl)
 | ((with_reducible refine' xi ?e1 ?e2 ?e3 ?e4 ?e5 ?_); (case e1 => walk_at "dat"); (case e2 => walk_at "dat"); (case e3 => first | rfl | assumption); (case e4 => first | rfl | assumption); (case e5 => first | exact Nat.le_of_ble_eq_true rfl | assumption))
 | ((with_reducible refine' qC ?e1 ?e2 ?_); (case e1 => walk_at "isq"); (case e2 => exact rfl))
 | ((with_reducible refine' xM ?e ?_); case e => walk_at "isq")
 | ((with_reducible refine' Eh ?e ?_); case e => walk_at "sql")
 | with_reducible refine Dx ?_
 | ((with_reducible refine' D3 ?e (fun _ _ => ?_)); case e => walk_at "side")
 | with_reducible refine ML ?_
 | with_reducible refine D7 ?_
 | ((with_reducible refine' An ?e1 ?e2 ?e3 ?e4 ?e5 ?_); (case e1 => walk_at "at"); (case e2 => assumption); (case e3 => assumption); (case e4 => exact Ah rfl); (case e5 => walk_at "put"))
 | ((with_reducible refine' Ej ?e1 ?e2 ?e3 ?e4 ?_); (case e1 => walk_at "ins"); (case e2 => assumption); (case e3 => assumption); (case e4 => walk_at "lk"))
 | ((with_reducible refine' Ai ?e1 ?e2 ?_); (case e1 => walk_at "ins"); (case e2 => walk_at "lk"))
 | ((with_reducible refine' vd ?e ?_); case e => walk_at "dat")
 | with_reducible refine Bz ?_
 | with_reducible refine lq ?_
 | with_reducible refine Ed ?_
 | ((with_reducible refine' D0 ?e1 ?e2 (fun _ _ _ _ => ?_)); (case e1 => exact wX rfl); (case e2 => walk_at "dats"))
 | with_reducible refine Fy ?_
 | with_reducible refine C6 ?_
 | with_reducible refine GY ?_
 | with_reducible refine Gb ?_
 | with_reducible refine AA ?_
 | with_reducible refine Ay ?_
 | walk_at "wds"
 | walk_at "mks"
 | walk_at "use"
 | walk_at "fin")
local macro_rules | `(tactic| walk_at "lat") => `(tactic| first
 | assumption
 | (refine' cw.keeps ?s ?m; (case s => assumption); (case m => walk_at "lat"))
 | (refine' cw.mv ?s ?n ?m; (case s => assumption); (case n => walk_at "nin"); (case m => walk_at "lat"))
 | fail)
local macro_rules | `(tactic| walk_at "nin") => `(tactic| first
 | (refine' w4 ?n1; (case n1 => walk_at "ne"))
 | fail)
local macro_rules | `(tactic| walk_at "ne") => `(tactic| first
 | assumption
 | (refine Ne.symm ?_; assumption)
 | (refine' cw.ne ?h ?n; (case n => assumption); (case h => walk_at "lat"))
 | (refine' Ne.symm (cw.ne ?h ?n); (case n => assumption); (case h => walk_at "lat"))
 | fail)
local macro_rules | `(tactic| walk_at "dla") => `(tactic| first
 | assumption
 | (refine' ic.keeps ?s ?m; (case s => assumption); (case m => walk_at "dla"))
 | (refine' ic.mv ?s ?n ?m; (case s => assumption); (case n => walk_at "nin"); (case m => walk_at "dla"))
 | fail)
local macro_rules | `(tactic| walk_at "ne") => `(tactic| first
 | (refine' ic.ne ?h ?n; (case n => assumption); (case h => walk_at "dla"))
 | (refine' Ne.symm (ic.ne ?h ?n); (case n => assumption); (case h => walk_at "dla"))
 | fail)
local macro_rules | `(tactic| walk_at "imm") => `(tactic| first
 | rfl
 | assumption
 | exact b9 (fun _ => rfl) _
 | (refine' cw.px ?h; (case h => assumption))
 | fail)
local macro_rules | `(tactic| walk_at "dm") => `(tactic| first
 | exact fun _ h => h
 | (refine' xT ?a ?b; (case b => first | (refine' au.QO ?c; (case c => assumption)) | (refine' Mv.dm ?c; (case c => assumption)) | fail); (case a => walk_at "dm"))
 | fail)
local macro_rules | `(tactic| walk_at "none") => `(tactic| first
 | assumption
 | (refine' E5 ?s ?m; (case m => assumption); (case s => walk_at "dm"))
 | fail)
local macro_rules | `(tactic| walk_at "same") => `(tactic| first
 | (refine' Mv.B9 ?s ?m ?n; (case m => assumption); (case s => walk_at "same"); (case n => walk_at "none"))
 | fail)
local macro_rules | `(tactic| walk_at "mv") => `(tactic| first
 | exact Mv.refl
 | assumption
 | (refine' Mv.i7 ?m ?s; (case s => assumption); (case m => walk_at "mv"))
 | (refine' Mv.step ?m ?s ?h; (case s => assumption); (case m => walk_at "mv"); (case h => walk_at "ours"))
 | fail)
set_option hygiene false in
local macro_rules | `(tactic| walk_at "ours") => `(tactic| first
 | fail)
local macro_rules | `(tactic| walk_at "dat") => `(tactic| first
 | (refine' cw.dv ?m; (case m => walk_at "lat"))
 | fail)
local macro_rules | `(tactic| walk_at "dats") => `(tactic| first
 | (refine' Mv.Dz ?s ?i ?m; (case s => assumption); (case i => walk_at "imm"); (case m => walk_at "dats"))
 | fail)
set_option hygiene false in
local macro_rules | `(tactic| walk_at "len") => `(tactic| first
 | (simp only [List.length_map, List.length_append, List.length_cons, List.length_nil]; omega)
 | omega
 | fail)
local macro_rules | `(tactic| walk_at "rd1") => `(tactic| first
 | ((with_reducible refine' G4 ?e ?_); case e => walk_at "dat")
 | with_reducible refine Mz ?_
 | with_reducible refine Fx (fun _ _ _ _ _ => ?_)
 | with_reducible refine BI ?_
 | with_reducible refine Al ?_
 | with_reducible refine Dt ?_
 | with_reducible refine zl ?_
 | ((with_reducible refine' Er ?e1 ?e2 ?e3 ?e4 (fun _ _ _ => ?_)); (case e1 => walk_at "dla"); (case e3 => walk_at "dat"); (case e2 => walk_at "len"); (case e4 => walk_at "imm"))
 | with_reducible refine Bu ?_
 | with_reducible refine K3 ?_
 | with_reducible refine IT ?_
 | ((with_reducible refine' Im ?e ?_); case e => walk_at "lat")
 | ((with_reducible refine' GF ?e1 ?e2 ?e3 ?e4 (fun _ _ _ => ?_)); (case e1 => walk_at "lat"); (case e3 => walk_at "dat"); (case e2 => walk_at "len"); (case e4 => walk_at "imm"))
 | ((with_reducible refine' Jo ?e1 (fun _ _ _ => ?_)); (case e1 => walk_at "lat"))
 | ((with_reducible refine' DK ?e1 ?e2 ?e3 (fun _ _ _ _ _ => ?_)); (case e1 => exact wX rfl); (case e2 => walk_at "dats"); (case e3 => exact rfl))
 | with_reducible refine K8 ?_
 | with_reducible refine E9 ?_
 | with_reducible refine AX ?_
 | with_reducible refine Iv ?_
 | ((with_reducible refine' HP ?e ?_); case e => walk_at "dat")
 | ((with_reducible refine' xn ?e ?_); case e => walk_at "len")
 | ((with_reducible refine' En ?e ?_); case e => walk_at "dat")
 | ((with_reducible refine' qC ?e1 ?e2 ?_); (case e1 => walk_at "isq"); (case e2 => first | exact FX | (refine' wY ?a ?b; (case a => omega); (case b => walk_at "len")) | fail))
 | fail)
local macro_rules | `(tactic| walk_at "rd1") => `(tactic| first
 | ((with_reducible refine' rT ?e1 ?e2 ?e3 (fun _ _ _ _ _ => ?_)); (case e1 => walk_at "lat"); (case e2 => walk_at "lat"); (case e3 => walk_at "len"))
 | fail)
local macro_rules | `(tactic| walk_at "rd1") => `(tactic| first
 | ((with_reducible refine' zL ?e1 ?e2 (fun _ _ _ _ _ _ _ _ => ?_)); (case e1 => walk_at "dat"); (case e2 => walk_at "len"))
 | fail)
set_option hygiene false in
local macro_rules | `(tactic| walk_at "rd1") => `(tactic| first
 | fail)
set_option hygiene false in
local macro_rules | `(tactic| walk_at "rd1") => `(tactic| first
 | fail)
set_option hygiene false in
local macro_rules | `(tactic| walk_at "rd1") => `(tactic| first
 | fail)
set_option hygiene false in
local macro_rules | `(tactic| walk_at "rd1") => `(tactic| first
 | fail)
local macro_rules | `(tactic| walk_at "rd1") => `(tactic| first
 | with_reducible refine Au ?_
 | with_reducible refine yT ?_
 | with_reducible refine vj ?_
 | with_reducible refine AO ?_
 | with_reducible refine CU ?_
 | with_reducible refine Dd ?_
 | with_reducible refine Jq ?_
 | ((with_reducible refine' Eu ?e (fun _ => ?_)); case e => assumption)
 | fail)
set_option hygiene false in
local macro_rules | `(tactic| walk_at "rd1") => `(tactic| first
 | with_reducible refine Dq ?_
 | fail)
set_option hygiene false in
local macro_rules | `(tactic| walk_at "rd1") => `(tactic| first
 | fail)
set_option hygiene false in
local macro_rules | `(tactic| walk_at "rd1") => `(tactic| first
 | fail)
set_option hygiene false in
local macro_rules | `(tactic| walk_at "rd1") => `(tactic| first
 | fail)
def top (i : Nat) : Stmt := PySem.Challenge.pw_wakefew_k25_what_ends.main.body.getD i (.Pass ⟨0, 0, 0, 0⟩)
set_option hygiene false in
local macro_rules | `(tactic| walk_at "scp") => `(tactic| exact ⟨rfl, rfl, rfl, by decide +kernel, rfl, by decide +kernel, by decide +kernel⟩)
abbrev dI : Stmt := inClass (top 3) 0
theorem jw : aG ["self", "name"] ["self", "name"] (av dI) := by walk_at "scp"
abbrev cY : Stmt := inClass (top 4) 0
theorem iV : aG ["self", "name"] ["self", "name"] (av cY) := by walk_at "scp"
abbrev c4 : Stmt := inClass (top 5) 0
theorem iX : aG ["self", "name"] ["self", "name"] (av c4) := by walk_at "scp"
abbrev dg : Stmt := inClass (top 8) 0
theorem jl : aG ["self"] ["self"] (av dg) := by walk_at "scp"
abbrev gs : Stmt := inClass (top 8) 1
theorem ng : aG ["self", "name", "above"] ["self", "name", "above"] (av gs) := by walk_at "scp"
abbrev eK : Stmt := inClass (top 8) 2
theorem iZ : aG ["self", "name"] ["self", "name"] (av eK) := by walk_at "scp"
abbrev eR : Stmt := inClass (top 8) 3
theorem g7 : aG ["self", "name", "ahead"] ["self", "name"] (av eR) := by walk_at "scp"
abbrev gK : Stmt := inClass (top 8) 5
theorem fH : aG ["self", "name", "gone", "other"] ["self", "name"] (av gK) := by walk_at "scp"
abbrev dz : Stmt := inClass (top 8) 6
theorem kO : aG ["self", "name"] ["self", "name"] (av dz) := by walk_at "scp"
abbrev ef : Stmt := inClass (top 8) 7
theorem ku : aG ["self", "name"] ["self", "name"] (av ef) := by walk_at "scp"
abbrev eY : Stmt := inClass (top 8) 8
theorem eh : aG ["self", "name", "names"] ["self", "name"] (av eY) := by walk_at "scp"
abbrev cW : Stmt := inClass (top 8) 9
theorem km : aG ["self", "name"] ["self", "name"] (av cW) := by walk_at "scp"
abbrev ek : Stmt := inClass (top 8) 10
theorem kd : aG ["self"] ["self"] (av ek) := by walk_at "scp"
abbrev cA : Stmt := inClass (top 8) 11
theorem gD : aG ["self", "name"] ["self", "name"] (av cA) := by walk_at "scp"
abbrev de : Stmt := inClass (top 8) 12
theorem jv : aG ["self", "name"] ["self", "name"] (av de) := by walk_at "scp"
abbrev bG : Stmt := inClass (top 8) 13
theorem gf : aG ["self", "name"] ["self", "name"] (av bG) := by walk_at "scp"
abbrev d7 : Stmt := inClass (top 8) 14
theorem kz : aG ["self", "name"] ["self", "name"] (av d7) := by walk_at "scp"
abbrev eS : Stmt := top 10
theorem la : aG ["_law_script", "_law_k"] ["_law_script", "_law_k"] (av eS) := by walk_at "scp"
abbrev iq : Stmt := top 11
theorem jx : aG ["_law_k", "_law_style", "_law_some"] ["_law_k", "_law_style"] (av iq) := by walk_at "scp"
abbrev iD : Stmt := top 12
theorem gp : aG ["_law_told", "_law_name_here", "e"] ["_law_told", "_law_name_here"] (av iD) := by walk_at "scp"
abbrev eD : Stmt := top 13
theorem bT : aG ["_law_told", "_law_standing", "_law_name_here", "_law_due", "_law_inner", "_law_found", "_law_one", "_law_held"] ["_law_told", "_law_standing", "_law_name_here"] (av eD) := by walk_at "scp"
abbrev xK : Stmt := top 14
theorem bS : aG ["_law_script", "_law_style", "_law_told", "_law_names", "_law_k", "_law_cell", "_law_above", "_law_standing", "_law_name_here", "_law_first", "_law_left", "_law_chain"] ["_law_script"] (av xK) := by walk_at "scp"
abbrev j3 : Pos := ⟨77, 41, 77, 81⟩
abbrev kr : Str := ("Groups.all_of" ++ ".<locals>.") ++ "<lambda>"
theorem fz : ¬ (("above_of" : Str) = "marks") := by decide +kernel
theorem fB : ¬ (("marks" : Str) = "above_of") := by decide +kernel
theorem dP : ¬ (("__init__" : Str) = "above_of") := by decide +kernel
theorem fq : ¬ (("__init__" : Str) = "marks") := by decide +kernel
theorem gT : ¬ (("add" : Str) = "above_of") := by decide +kernel
theorem jy : ¬ (("add" : Str) = "marks") := by decide +kernel
theorem gR : ¬ (("has" : Str) = "above_of") := by decide +kernel
theorem jD : ¬ (("has" : Str) = "marks") := by decide +kernel
theorem fA : ¬ (("sleep" : Str) = "above_of") := by decide +kernel
theorem iy : ¬ (("sleep" : Str) = "marks") := by decide +kernel
theorem fP : ¬ (("wake" : Str) = "above_of") := by decide +kernel
theorem ja : ¬ (("wake" : Str) = "marks") := by decide +kernel
theorem gU : ¬ (("end" : Str) = "above_of") := by decide +kernel
theorem jM : ¬ (("end" : Str) = "marks") := by decide +kernel
theorem fm : ¬ (("awake" : Str) = "above_of") := by decide +kernel
theorem iu : ¬ (("awake" : Str) = "marks") := by decide +kernel
theorem fh : ¬ (("marked" : Str) = "above_of") := by decide +kernel
theorem gX : ¬ (("marked" : Str) = "marks") := by decide +kernel
theorem ft : ¬ (("chain" : Str) = "above_of") := by decide +kernel
theorem iJ : ¬ (("chain" : Str) = "marks") := by decide +kernel
theorem fc : ¬ (("within" : Str) = "above_of") := by decide +kernel
theorem g9 : ¬ (("within" : Str) = "marks") := by decide +kernel
theorem eZ : ¬ (("all_of" : Str) = "above_of") := by decide +kernel
theorem g0 : ¬ (("all_of" : Str) = "marks") := by decide +kernel
theorem cT : ¬ (("check_stands" : Str) = "above_of") := by decide +kernel
theorem dC : ¬ (("check_stands" : Str) = "marks") := by decide +kernel
theorem dQ : ¬ (("depth_of" : Str) = "above_of") := by decide +kernel
theorem fu : ¬ (("depth_of" : Str) = "marks") := by decide +kernel
theorem cP : ¬ (("awake_within" : Str) = "above_of") := by decide +kernel
theorem dE : ¬ (("awake_within" : Str) = "marks") := by decide +kernel
theorem eT : ¬ (("unmark" : Str) = "above_of") := by decide +kernel
theorem hJ : ¬ (("unmark" : Str) = "marks") := by decide +kernel
set_option hygiene false in
local macro_rules | `(tactic| walk_at "lk") => `(tactic| first
 | assumption
 | (rw [kI]; ((conv => lhs; simp only [look, reduceIte, fz, fB, dP, fq, gT, jy, gR, jD, fA, iy, fP, ja, gU, jM, fm, iu, fh, gX, ft, iJ, fc, g9, eZ, g0, cT, dC, dQ, fu, cP, dE, eT, hJ]) <;> exact rfl)))
set_option hygiene false in
local macro_rules | `(tactic| walk_at "put") => `(tactic| ((conv => lhs; simp only [fZ, reduceIte, fz, fB, dP, fq, gT, jy, gR, jD, fA, iy, fP, ja, gU, jM, fm, iu, fh, gX, ft, iJ, fc, g9, eZ, g0, cT, dC, dQ, fu, cP, dE, eT, hJ]) <;> exact rfl))
structure wx (K : PySem.W.Frag) (x q : Str) (s : Stmt) (d : Value) (f : Addr) : Prop where
 a : PySem.W.nsIn K mainGlobals x = some (some (.ref f))
 l : ∃ fd, cG K x q s f d fd
 k : PySem.W.keepIn K (.ref f) = true
structure ig (K : PySem.W.Frag) (C : Addr) (x q : Str) (s : Stmt) (d : Value) (f : Addr) : Prop where
 a : PySem.W.findIn K (.ref C) x = some (some (.ref f))
 l : ∃ fd, cG K x q s f d fd
 k : PySem.W.keepIn K (.ref f) = true
 i : PySem.W.isFn K (.ref f) = true
structure Ly (K : PySem.W.Frag) (C : Addr) : Prop where
 pg : PySem.W.plainGet K C Str.empty = true
 hd : PySem.W.hasDictIn K C = true
 po : PySem.W.plainOver K C = true
 sa : PySem.W.findIn K (.ref C) "__setattr__" = some (some (.builtin "object.__setattr__"))
 t1 : PySem.W.findIn K (.ref C) "__class__" = some (some (.builtin "object.__class__"))
 t2 : PySem.W.mroIn K C (.type "object") = some true
 t3 : PySem.W.typeIn K (.ref C) = some (.type "type")
structure JN (K : PySem.W.Frag) (C W : Addr) : Prop where
 ex : ∃ (nm q : Str) (N : Addr) (bs : List Value) (sn : List Str) (sub : List Value) (ab : Bool) (col : Option Bool) (dd : Option Addr) (k0 k1 k2 k3 k5 : Option Value), K.lookup C = some (excClassObj nm q C N bs (.ref W :: vT) true sn sub ab col dd k0 k1 k2 k3 k5 "ValueError.__new__")
theorem Fc {K : PySem.W.Frag} {C W : Addr} {nm q : Str} {N : Addr} {bs : List Value} {sn : List Str} {sub : List Value} {ab : Bool} {col : Option Bool} {dd : Option Addr} {k0 k1 k2 k3 k5 : Option Value} (l : K.lookup C = some (excClassObj nm q C N bs (.ref W :: vT) true sn sub ab col dd k0 k1 k2 k3 k5 "ValueError.__new__")) : JN K C W := ⟨⟨_, _, _, _, _, _, _, _, _, _, _, _, _, _, l⟩⟩
theorem BA {K : PySem.W.Frag} {t : Addr} {xs : Array Value} {n : Nat} {d : Option Addr} {z : Array (Option Value)} {c : Value} (l : K.lookup t = some ⟨c, d, .seq xs n, z⟩) : EX K t xs := ⟨⟨_, _, l, rfl⟩⟩
set_option genSizeOf false in
set_option genInjectivity false in
structure Ad where
 a9 : Addr
 fv : FuncData
 aN : Addr
 eu : FuncData
 aM : Addr
 ez : FuncData
 aQ : Addr
 eU : FuncData
 bO : Addr
 i6 : FuncData
 cu : Addr
 bf : Addr
 fE : FuncData
 bF : Addr
 g5 : FuncData
 b7 : Addr
 i9 : FuncData
 bD : Addr
 gZ : FuncData
 bw : Addr
 fY : FuncData
 bB : Addr
 gP : FuncData
 bx : Addr
 fQ : FuncData
 aV : Addr
 dJ : FuncData
 bX : Addr
 ai : Addr
 aD : Addr
 c7 : FuncData
 aR : Addr
 fb : FuncData
 aE : Addr
 dA : FuncData
 bu : Addr
 fV : FuncData
 bj : Addr
 gY : FuncData
 bZ : Addr
 jI : FuncData
 bY : Addr
 jO : FuncData
 bN : Addr
 i3 : FuncData
 nB : Addr
 oo : FuncData
 af : Addr
 ak : Addr
 aC : Addr
 aX : Addr
 aH : Addr
 tabs : List Addr
 dn : Tok
structure Txt (K : PySem.W.Frag) (mg : Str -> Option Value) (a : Ad) : Prop where
 dH : cG K "__init__" "Twice.__init__" dI a.a9 (.none) a.fv
 cZ : cG K "__init__" "NoGroup.__init__" cY a.aN (.none) a.eu
 c3 : cG K "__init__" "TooDeep.__init__" c4 a.aM (.none) a.ez
 du : cG K "__init__" "Groups.__init__" dg a.aQ (.none) a.eU
 eF : cG K "add" "Groups.add" gs a.bO (.ref a.cu) a.i6
 gB : EX K a.cu #[.none]
 dh : cG K "has" "Groups.has" eK a.bf (.none) a.fE
 eX : cG K "sleep" "Groups.sleep" eR a.bF (.none) a.g5
 gq : cG K "end" "Groups.end" gK a.b7 (.none) a.i9
 eQ : cG K "awake" "Groups.awake" dz a.bD (.none) a.gZ
 en : cG K "marked" "Groups.marked" ef a.bw (.none) a.fY
 fg : cG K "chain" "Groups.chain" eY a.bB (.none) a.gP
 d8 : cG K "within" "Groups.within" cW a.bx (.none) a.fQ
 ei : cG K "all_of" "Groups.all_of" ek a.aV (.none) a.dJ
 bW : HU K a.dJ a.bX a.ai
 cK : a.ai ∈ a.tabs
 cC : cG K "check_stands" "Groups.check_stands" cA a.aD (.none) a.c7
 dt : cG K "depth_of" "Groups.depth_of" de a.aR (.none) a.fb
 cz : cG K "awake_within" "Groups.awake_within" bG a.aE (.none) a.dA
 dZ : cG K "unmark" "Groups.unmark" d7 a.bu (.none) a.fV
 eV : cG K "_law_cell_at" "_law_cell_at" eS a.bj (.none) a.gY
 ej : PySem.W.keepIn K (.ref a.bj) = true
 d9 : mg "_law_cell_at" = some (.ref a.bj)
 il : cG K "_law_name" "_law_name" iq a.bZ (.none) a.jI
 f9 : PySem.W.keepIn K (.ref a.bZ) = true
 gw : mg "_law_name" = some (.ref a.bZ)
 iI : cG K "_law_gone" "_law_gone" iD a.bY (.none) a.jO
 jE : PySem.W.keepIn K (.ref a.bY) = true
 jG : mg "_law_gone" = some (.ref a.bY)
 gm : cG K "_law_ended" "_law_ended" eD a.bN (.none) a.i3
 fG : PySem.W.keepIn K (.ref a.bN) = true
 fK : mg "_law_ended" = some (.ref a.bN)
 vY : cG K "law" "law" xK a.nB (.none) a.oo
 yG : mg "law" = some (.ref a.nB)
 n9 : mg "Groups" = some (.ref a.af)
 aq : mV K a.af
 az : dc K a.af "above_of"
 aA : dc K a.af "marks"
 qL : Mk K a.af a.aQ
 eI : Meth K a.af "add" a.bO
 gJ : Meth K a.af "has" a.bf
 iz : Meth K a.af "sleep" a.bF
 gO : Meth K a.af "end" a.b7
 ix : Meth K a.af "awake" a.bD
 cn : Meth K a.af "marked" a.bw
 aI : Meth K a.af "chain" a.bB
 cg : Meth K a.af "within" a.bx
 g8 : Meth K a.af "all_of" a.aV
 a0 : Meth K a.af "check_stands" a.aD
 dj : Meth K a.af "depth_of" a.aR
 dD : Meth K a.af "awake_within" a.aE
 hU : Meth K a.af "unmark" a.bu
 gg : mg "NoGroup" = some (.ref a.ak)
 mM : mg "TooDeep" = some (.ref a.aC)
 pH : mg "Twice" = some (.ref a.aX)
 eA : mg "WakeError" = some (.ref a.aH)
 eO : rB K a.ak a.aH a.aN
 fj : PySem.W.mroIn K a.ak (.ref a.ak) = some true
 iQ : rB K a.aC a.aH a.aM
 lz : rB K a.aX a.aH a.a9
 eE : CI K a.aH
 zh : ∀ b ∈ a.tabs, b = a.ai
 jd : mg "MOST_DEPTH" = some (.int 8 a.dn)
 oR : mg "any" = none
 eJ : mg "enumerate" = none
 dM : mg "isinstance" = none
 eW : mg "len" = none
 iM : mg "list" = none
 c6 : mg "sorted" = none
theorem C0 {K : PySem.W.Frag} {h : Heap} {mg : Str -> Option Value} {a9 aN aM aQ bO cu bf bF b7 bD bw bB bx aV bX ai aD aR aE bu bj bZ bY bN nB af ak aC aX aH : Addr} {dn : Tok} {tabs : List Addr}  (X : K.In h) (G : h.Ns mainGlobals mg)
 (vB : PySem.W.nsIn K mainGlobals "Groups" = some (some (.ref af)))
 (rh : PySem.W.nsIn K mainGlobals "NoGroup" = some (some (.ref ak)))
 (sr : PySem.W.nsIn K mainGlobals "TooDeep" = some (some (.ref aC)))
 (yJ : PySem.W.nsIn K mainGlobals "Twice" = some (some (.ref aX)))
 (o3 : PySem.W.nsIn K mainGlobals "WakeError" = some (some (.ref aH)))
 (Lf : PySem.W.specialIn K (.builtin "object.__class__") "__get__" = some (some (.builtin "getset_descriptor.__get__")))
 (IC : PySem.W.takesIn K (.builtin "object.__class__") = some true)
 (cL : ig K aX "__init__" "Twice.__init__" dI (.none) a9)
 (cb : ig K ak "__init__" "NoGroup.__init__" cY (.none) aN)
 (b8 : ig K aC "__init__" "TooDeep.__init__" c4 (.none) aM)
 (cD : ig K af "__init__" "Groups.__init__" dg (.none) aQ)
 (dw : ig K af "add" "Groups.add" gs (.ref cu) bO)
 (o6 : EX K cu #[.none])
 (di : ig K af "has" "Groups.has" eK (.none) bf)
 (cH : ig K af "sleep" "Groups.sleep" eR (.none) bF)
 (dr : ig K af "end" "Groups.end" gK (.none) b7)
 (cJ : ig K af "awake" "Groups.awake" dz (.none) bD)
 (cm : ig K af "marked" "Groups.marked" ef (.none) bw)
 (cI : ig K af "chain" "Groups.chain" eY (.none) bB)
 (cj : ig K af "within" "Groups.within" cW (.none) bx)
 (bL : ig K af "all_of" "Groups.all_of" ek (.none) aV)
 (ky : EW K aV bX ai)
 (cK : ai ∈ tabs)
 (a8 : ig K af "check_stands" "Groups.check_stands" cA (.none) aD)
 (bQ : ig K af "depth_of" "Groups.depth_of" de (.none) aR)
 (a7 : ig K af "awake_within" "Groups.awake_within" bG (.none) aE)
 (cq : ig K af "unmark" "Groups.unmark" d7 (.none) bu)
 (c9 : wx K "_law_cell_at" "_law_cell_at" eS (.none) bj)
 (fD : wx K "_law_name" "_law_name" iq (.none) bZ)
 (fC : wx K "_law_gone" "_law_gone" iD (.none) bY)
 (eB : wx K "_law_ended" "_law_ended" eD (.none) bN)
 (xh : wx K "law" "law" xK (.none) nB)
 (aq : Ly K af)
 (az : PySem.W.findIn K (.ref af) "above_of" = some none)
 (aA : PySem.W.findIn K (.ref af) "marks" = some none)
 (vH : PySem.W.makesIn K af = true)
 (uQ : PySem.W.keepIn K (.ref af) = true)
 (sv : JN K ak aH)
 (sP : PySem.W.mroIn K ak (.type "object") = some true)
 (q0 : JN K aC aH)
 (rO : PySem.W.mroIn K aC (.type "object") = some true)
 (yb : JN K aX aH)
 (v7 : PySem.W.mroIn K aX (.type "object") = some true)
 (iK : PySem.W.excIn K aH [.type "ValueError", .type "Exception", .type "BaseException", .type "object"] "ValueError.__new__" = true)
 (sL : PySem.W.findIn K (.ref ak) "__getattribute__" = some (some (.builtin "BaseException.__getattribute__")))
 (sY : PySem.W.findIn K (.ref ak) "__getattr__" = some none)
 (sI : PySem.W.mroIn K ak (.type "BaseException") = some true)
 (sZ : PySem.W.hasDictIn K ak = true)
 (rg : PySem.W.findIn K (.ref ak) "__class__" = some (some (.builtin "object.__class__")))
 (sh : PySem.W.findIn K (.ref ak) "__setattr__" = some (some (.builtin "object.__setattr__")))
 (sA : PySem.W.takerIn K ak "name" = some none)
 (sO : PySem.W.findIn K (.ref ak) "name" = some none)
 (jt : PySem.W.mroIn K ak (.ref ak) = some true)
 (sC : PySem.W.findIn K (.ref aC) "__getattribute__" = some (some (.builtin "BaseException.__getattribute__")))
 (rD : PySem.W.findIn K (.ref aC) "__getattr__" = some none)
 (rF : PySem.W.mroIn K aC (.type "BaseException") = some true)
 (sJ : PySem.W.hasDictIn K aC = true)
 (rN : PySem.W.findIn K (.ref aC) "__class__" = some (some (.builtin "object.__class__")))
 (rn : PySem.W.findIn K (.ref aC) "__setattr__" = some (some (.builtin "object.__setattr__")))
 (rk : PySem.W.takerIn K aC "name" = some none)
 (rP : PySem.W.findIn K (.ref aC) "name" = some none)
 (xE : PySem.W.findIn K (.ref aX) "__getattribute__" = some (some (.builtin "BaseException.__getattribute__")))
 (wz : PySem.W.findIn K (.ref aX) "__getattr__" = some none)
 (v5 : PySem.W.mroIn K aX (.type "BaseException") = some true)
 (xU : PySem.W.hasDictIn K aX = true)
 (yK : PySem.W.findIn K (.ref aX) "__class__" = some (some (.builtin "object.__class__")))
 (yN : PySem.W.findIn K (.ref aX) "__setattr__" = some (some (.builtin "object.__setattr__")))
 (yf : PySem.W.takerIn K aX "name" = some none)
 (vX : PySem.W.findIn K (.ref aX) "name" = some none)
 (m5 : PySem.W.specialIn K (.ref aH) "__getattribute__" = some (some (.builtin "type.__getattribute__")))
 (nk : PySem.W.readsIn K aH (.type "type") = true)
 (m7 : PySem.W.findCls K (.ref aH) (.type "type") "__init__" = some (.val (.builtin "ValueError.__init__")))
 (zh : ∀ b ∈ tabs, b = ai)
 (mZ : PySem.W.nsIn K mainGlobals "MOST_DEPTH" = some (some (.int 8 dn)))
 (oR : PySem.W.nsIn K mainGlobals "any" = some none)
 (eJ : PySem.W.nsIn K mainGlobals "enumerate" = some none)
 (dM : PySem.W.nsIn K mainGlobals "isinstance" = some none)
 (eW : PySem.W.nsIn K mainGlobals "len" = some none)
 (iM : PySem.W.nsIn K mainGlobals "list" = some none)
 (c6 : PySem.W.nsIn K mainGlobals "sorted" = some none)
 : ∃ a : Ad, a.tabs = tabs /\ Txt K mg a :=
 ⟨⟨a9, cL.l.choose, aN, cb.l.choose, aM, b8.l.choose, aQ, cD.l.choose, bO, dw.l.choose, cu, bf, di.l.choose, bF, cH.l.choose, b7, dr.l.choose, bD, cJ.l.choose, bw, cm.l.choose, bB, cI.l.choose, bx, cj.l.choose, aV, bL.l.choose, bX, ai, aD, a8.l.choose, aR, bQ.l.choose, aE, a7.l.choose, bu, cq.l.choose, bj, c9.l.choose, bZ, fD.l.choose, bY, fC.l.choose, bN, eB.l.choose, nB, xh.l.choose, af, ak, aC, aX, aH, tabs, dn⟩, rfl, {
   dH := cL.l.choose_spec,
   cZ := cb.l.choose_spec,
   c3 := b8.l.choose_spec,
   du := cD.l.choose_spec,
   eF := dw.l.choose_spec,
   gB := o6,
   dh := di.l.choose_spec,
   eX := cH.l.choose_spec,
   gq := dr.l.choose_spec,
   eQ := cJ.l.choose_spec,
   en := cm.l.choose_spec,
   fg := cI.l.choose_spec,
   d8 := cj.l.choose_spec,
   ei := bL.l.choose_spec,
   bW := Bp bL.l.choose_spec ky,
   cK := cK,
   cC := a8.l.choose_spec,
   dt := bQ.l.choose_spec,
   cz := a7.l.choose_spec,
   dZ := cq.l.choose_spec,
   eV := c9.l.choose_spec,
   ej := c9.k,
   d9 := PySem.W.mg_of X G c9.a,
   il := fD.l.choose_spec,
   f9 := fD.k,
   gw := PySem.W.mg_of X G fD.a,
   iI := fC.l.choose_spec,
   jE := fC.k,
   jG := PySem.W.mg_of X G fC.a,
   gm := eB.l.choose_spec,
   fG := eB.k,
   fK := PySem.W.mg_of X G eB.a,
   vY := xh.l.choose_spec,
   yG := PySem.W.mg_of X G xh.a,
   n9 := PySem.W.mg_of X G vB,
   aq := ⟨aq.pg, aq.hd, aq.po, aq.sa⟩,
   az := az,
   aA := aA,
   qL := ⟨vH, cD.a, cD.i, uQ⟩,
   eI := ⟨dw.a, dw.i, dw.k⟩,
   gJ := ⟨di.a, di.i, di.k⟩,
   iz := ⟨cH.a, cH.i, cH.k⟩,
   gO := ⟨dr.a, dr.i, dr.k⟩,
   ix := ⟨cJ.a, cJ.i, cJ.k⟩,
   cn := ⟨cm.a, cm.i, cm.k⟩,
   aI := ⟨cI.a, cI.i, cI.k⟩,
   cg := ⟨cj.a, cj.i, cj.k⟩,
   g8 := ⟨bL.a, bL.i, bL.k⟩,
   a0 := ⟨a8.a, a8.i, a8.k⟩,
   dj := ⟨bQ.a, bQ.i, bQ.k⟩,
   dD := ⟨a7.a, a7.i, a7.k⟩,
   hU := ⟨cq.a, cq.i, cq.k⟩,
   gg := PySem.W.mg_of X G rh,
   mM := PySem.W.mg_of X G sr,
   pH := PySem.W.mg_of X G yJ,
   eA := PySem.W.mg_of X G o3,
   eO := ⟨sv.ex, iK, cb.a, cb.i, ⟨sL, sY, sI, sZ, ⟨rg, Lf, IC, sP⟩⟩, sh, sA, sO⟩,
   fj := jt,
   iQ := ⟨q0.ex, iK, b8.a, b8.i, ⟨sC, rD, rF, sJ, ⟨rN, Lf, IC, rO⟩⟩, rn, rk, rP⟩,
   lz := ⟨yb.ex, iK, cL.a, cL.i, ⟨xE, wz, v5, xU, ⟨yK, Lf, IC, v7⟩⟩, yN, yf, vX⟩,
   eE := ⟨m5, nk, m7⟩,
   zh := zh,
   jd := PySem.W.mg_of X G mZ,
   oR := PySem.W.mg_none_of X G oR,
   eJ := PySem.W.mg_none_of X G eJ,
   dM := PySem.W.mg_none_of X G dM,
   eW := PySem.W.mg_none_of X G eW,
   iM := PySem.W.mg_none_of X G iM,
   c6 := PySem.W.mg_none_of X G c6
 }⟩
theorem Txt.iO {K : PySem.W.Frag} {mg : Str -> Option Value} {a : Ad} (T : Txt K mg a) : oP K a.ak := rB.o T.eO
theorem Txt.vo {K : PySem.W.Frag} {mg : Str -> Option Value} {a : Ad} (T : Txt K mg a) : oP K a.aC := rB.o T.iQ
theorem Txt.A9 {K : PySem.W.Frag} {mg : Str -> Option Value} {a : Ad} (T : Txt K mg a) : oP K a.aX := rB.o T.lz
theorem Txt.er {K : PySem.W.Frag} {mg : Str -> Option Value} {a : Ad} (T : Txt K mg a) : G0 K a.ak a.ak true := ⟨T.iO, T.fj⟩
section
variable {P : Program} {w : World} {K : PySem.W.Frag} {mg : Str -> Option Value} {base : Heap} {a : Ad}
theorem m8 (T : Txt K mg a) : bH P w K mg base jR 1 a.a9 a.fv ["self", "name"] (dN K a.aX) := by
 have hO := T.A9
 refine T.dH.ok jw (fun vs H Q E h => ?_) (fun cV A outer s H vs Q E hr h => ?_)
 . obtain ⟨_, _, rfl, _⟩ := h; rfl
 . obtain ⟨p, n, rfl, hn, hp, q⟩ := h
   refine ⟨_, (ax (bo (jj rfl T.eA T.eE (ag (pv 0) (ag (zG (pv 1) (by decide +kernel)) ao))))
    (aw (oM (pv 0) (pv 1) rfl))), ?_⟩
   repeat' (walk_at "rd1")
   refine jg hp hO ?_
   repeat' (walk_at "rd1")
   exact ⟨p, _, _, _, rfl, hp, T.lz, fun d h1 h2 => q d h1 h2⟩
theorem lQ (T : Txt K mg a) : mO P w K mg base 1 a.a9 ["self", "name"] [] (dN K a.aX) :=
 ⟨⟨_, _, m8 T, T.dH.binds fun _ _ _ _ _ _ => .all fun us hl => match us, hl with | [_, _], _ => rfl, .nil⟩⟩
theorem kY (T : Txt K mg a) : bH P w K mg base jR 1 a.aN a.eu ["self", "name"] (dN K a.ak) := by
 have hO := T.iO
 refine T.cZ.ok iV (fun vs H Q E h => ?_) (fun cV A outer s H vs Q E hr h => ?_)
 . obtain ⟨_, _, rfl, _⟩ := h; rfl
 . obtain ⟨p, n, rfl, hn, hp, q⟩ := h
   refine ⟨_, (ax (bo (jj rfl T.eA T.eE (ag (pv 0) (ag (BD (pv 1) (by decide +kernel)) ao))))
    (aw (oM (pv 0) (pv 1) rfl))), ?_⟩
   repeat' (walk_at "rd1")
   refine jg hp hO ?_
   repeat' (walk_at "rd1")
   exact ⟨p, _, _, _, rfl, hp, T.eO, fun d h1 h2 => q d h1 h2⟩
theorem ka (T : Txt K mg a) : mO P w K mg base 1 a.aN ["self", "name"] [] (dN K a.ak) :=
 ⟨⟨_, _, kY T, T.cZ.binds fun _ _ _ _ _ _ => .all fun us hl => match us, hl with | [_, _], _ => rfl, .nil⟩⟩
theorem k9 (T : Txt K mg a) : bH P w K mg base jR 1 a.aM a.ez ["self", "name"] (dN K a.aC) := by
 have hO := T.vo
 refine T.c3.ok iX (fun vs H Q E h => ?_) (fun cV A outer s H vs Q E hr h => ?_)
 . obtain ⟨_, _, rfl, _⟩ := h; rfl
 . obtain ⟨p, n, rfl, hn, hp, q⟩ := h
   refine ⟨_, (ax (bo (jj rfl T.eA T.eE (ag (pv 0) (ag (zt (pv 1) (by decide +kernel) (by decide +kernel)) ao))))
    (aw (oM (pv 0) (pv 1) rfl))), ?_⟩
   repeat' (walk_at "rd1")
   refine jg hp hO ?_
   repeat' (walk_at "rd1")
   exact ⟨p, _, _, _, rfl, hp, T.iQ, fun d h1 h2 => q d h1 h2⟩
theorem j8 (T : Txt K mg a) : mO P w K mg base 1 a.aM ["self", "name"] [] (dN K a.aC) :=
 ⟨⟨_, _, k9 T, T.c3.binds fun _ _ _ _ _ _ => .all fun us hl => match us, hl with | [_, _], _ => rfl, .nil⟩⟩
def Xn (H : Hp) (d : Addr) (x : Str) : Hp := upd H d (.xd [("name", .str x)])
inductive Chain (m : List (Str × PyData)) : Str -> List Str -> Prop
 | top {n : Str} : bK m n = some .none -> Chain m n [n]
 | up {n b : Str} {c : List Str} : bK m n = some (.str b) -> Chain m b c -> Chain m n (n :: c)
theorem Chain.has {m : List (Str × PyData)} {n : Str} {c : List Str} (h : Chain m n c) : (bK m n).isSome = true := by
 cases h with
 | top e => rw [e]; rfl
 | up e _ => rw [e]; rfl
theorem Chain.all {m : List (Str × PyData)} {n : Str} {c : List Str} (h : Chain m n c) : ∀ o ∈ c, (bK m o).isSome = true := by
 induction h with
 | top e =>
   intro o ho
   rw [List.mem_singleton.mp ho, e]; rfl
 | up e _ ih =>
   intro o ho
   rcases List.mem_cons.mp ho with rfl | ho
   . rw [e]; rfl
   . exact ih o ho
theorem Chain.inj {m : List (Str × PyData)} {n : Str} {c d : List Str} (h : Chain m n c) (k : Chain m n d) : c = d := by
 induction h generalizing d with
 | top e =>
   cases k with
   | top _ => rfl
   | up e2 _ => rw [e] at e2; cases e2
 | up e _ ih =>
   cases k with
   | top e2 => rw [e] at e2; cases e2
   | up e2 k2 =>
     rw [e] at e2
     cases e2
     rw [ih k2]
structure p9 (C : Addr) (H : Hp) (v : V) (d1 d2 : Addr) (m ms : List (Str × PyData)) : Prop where
 ins : u3 H v C [("above_of", .ref d1), ("marks", .ref d2)]
 ab : ux H d1 m
 iH : ux H d2 ms
theorem p9.keeps {C : Addr} {H H' : Hp} {v : V} {d1 d2 : Addr} {m ms : List (Str × PyData)} (s : au H H') (h : p9 C H v d1 d2 m ms) : p9 C H' v d1 d2 m ms := ⟨h.ins.keeps s, h.ab.keeps s, h.iH.keeps s⟩
local macro_rules | `(tactic| walk_at "grd") => `(tactic| first
 | assumption
 | (refine' p9.keeps ?s ?m; (case s => assumption); (case m => walk_at "grd"))
 | fail)
local macro_rules | `(tactic| walk_at "drd") => `(tactic| first
 | assumption
 | (refine' ux.keeps ?s ?m; (case s => assumption); (case m => walk_at "drd"))
 | (refine' ic.rd ?m; (case m => walk_at "dla"))
 | fail)
local macro_rules | `(tactic| walk_at "rd1") => `(tactic| first
 | ((with_reducible refine' C5 ?e1 (fun _ _ => ?_)); (case e1 => walk_at "drd"))
 | ((with_reducible refine' Bh ?e1 ?e2 ?_); (case e1 => walk_at "drd"); (case e2 => assumption))
 | fail)
def nX (C cN : Addr) : Sp := fun vs H Q E => ∃ v d1 d2 m ms n, vs = [v, .str n] /\ p9 C H v d1 d2 m ms /\ (bK m n = none -> nA n /\ ∀ d', H d' = none -> E (.ref cN) (some d') (Xn H d' n)) /\ ((bK m n).isSome = true -> Q .aP H)
theorem vG (T : Txt K mg a) : bH P w K mg base (qA P w) 3 a.aD a.c7 ["self", "name"] (nX a.af a.ak) := by
 have n1 := T.az; have n2 := T.aA; have cl := T.aq
 have mW := ka (P := P) (w := w) (base := base) T
 refine T.cC.Ft gD (fun vs H Q E h => ?_) (fun cV A outer s H vs Q E hr h => ?_)
 . obtain ⟨_, _, _, _, _, _, rfl, _⟩ := h; rfl
 . obtain ⟨v, d1, d2, m, ms, n, rfl, hg, qN, q⟩ := h
   have hi := hg.ins; have ha := hg.ab
   refine ⟨_, (aw (cR (rq (u6 (i5 hr) (pv 1) (dF (pv 0) rfl)) rfl)
    (aw (ko r9 rfl (ag (pv 1) ao) rfl T.gg T.eO (hr.mono (by decide)) mW rfl))
    aZ)), ?_⟩
   repeat' (walk_at "rd1")
   . rename_i o e hb
     cases hk : bK m n with
     | none => exact kn (qN hk).1 (fun d' jY => (qN hk).2 d' jY)
     | some u => rw [e, hk] at hb; cases hb
   . rename_i o e hb
     refine q ?_
     cases hk : bK m n with
     | none => rw [e, hk] at hb; cases hb
     | some u => rfl
theorem gA (T : Txt K mg a) : mF P w K mg base 3 a.aD ["self", "name"] [] (nX a.af a.ak) :=
 ⟨⟨_, _, vG T, T.cC.binds fun _ _ _ _ _ _ => .all fun us hl => match us, hl with | [_, _], _ => rfl, .nil⟩⟩
def mJ (C cN : Addr) : Sp := fun vs H Q E => ∃ v d1 d2 m ms n, vs = [v, .str n] /\ p9 C H v d1 d2 m ms /\ (bK m n = none -> nA n /\ ∀ d', H d' = none -> E (.ref cN) (some d') (Xn H d' n)) /\ ((bK m n).isSome = true -> ∃ c, Chain m n c /\ c.length <= 60 /\ ∀ q H', au H H' -> H q = none -> cw H' q (c.map PyData.str) -> Q (.ref q) H')
theorem xx (T : Txt K mg a) : bH P w K mg base (qA P w) 5 a.bB a.gP ["self", "name"] (mJ a.af a.ak) := by
 have n1 := T.az; have n2 := T.aA; have cl := T.aq
 have bC := T.a0
 have bE := gA (P := P) (w := w) (base := base) T
 refine T.fg.Ft eh (fun vs H Q E h => ?_) (fun cV A outer s H vs Q E hr h => ?_)
 . obtain ⟨_, _, _, _, _, _, rfl, _⟩ := h; rfl
 . obtain ⟨v, d1, d2, m, ms, n, rfl, hg, qN, qY⟩ := h
   have hi := hg.ins; have ha := hg.ab
   refine ⟨_, (ax (bo (fw (pv 0) cl bC bE (hr.mono (by decide)) nN (ag (pv 1) ao)))
    (ax (bq (i := 2) eh.nd rfl (Or.inl rfl) (gk ao))
    (ax (PS.y3 (yW PassesOwn.never (aS oH (pv 1) j7 (bb _))
     (ax (bo (qS PySem.F.plainAttrs_list PySem.F.slot_list_append PySem.F.type_list_append nR (pv 2) (ag (pv 1) ao)))
     (aw (bq (i := 1) eh.nd rfl (Or.inl rfl) (zp (i5 hr) (dF (pv 0) rfl) (pv 1) (fun _ _ => rfl)))))))
    (aw (bh (pv 2)))))), ?_⟩
   repeat' (walk_at "rd1")
   refine ⟨v, d1, d2, m, ms, n, rfl, hg, qN, fun hs => ?_⟩
   obtain ⟨c, hc, fN, q⟩ := qY hs
   repeat' (walk_at "rd1")
   rename_i p H1 m9 uE uC
   refine zQ (fun r σ' H' => ∃ (acc rest : List Str) (x : V), σ' = [some v, some x, some (.ref p)] /\ au H H' /\ cw H' p (acc.map PyData.str) /\ acc ++ rest = c /\ r = rest.length /\ ((x = .aP /\ rest = []) \/ ∃ n, x = .str n /\ Chain m n rest)) ⟨_, [], c, _, rfl, m9, uC, rfl, rfl, .inr ⟨n, rfl, hc⟩⟩ ?_
   rintro r σ' H' ⟨acc, rest, x, rfl, ED, zc, CL, rfl, hx⟩
   have yZ := hi.keeps ED
   have M9 := ha.keeps ED
   have KN : acc.length <= 60 := by rw [<- CL, List.length_append] at fN; omega
   rcases hx with ⟨rfl, rfl⟩ | ⟨n', rfl, kK⟩
   . repeat' (walk_at "rd1")
     rw [List.append_nil] at CL
     subst CL
     exact q _ _ ED uE zc
   . cases kK with
     | top e =>
       repeat' (walk_at "rd1")
       rename_i hb H3 Fu B1
       have sm3 : au H H3 := by walk_at "same"
       have OG := hi.keeps sm3
       have PN := ha.keeps sm3
       repeat' (walk_at "rd1")
       exact ⟨0, Nat.zero_lt_one, acc ++ [n'], [], .aP, rfl, sm3, by rw [List.map_append]; exact B1, by rw [List.append_nil]; exact CL, rfl, .inl ⟨rfl, rfl⟩⟩
     | @up _ b c2 e P4 =>
       repeat' (walk_at "rd1")
       rename_i hb H3 Fu B1
       have sm3 : au H H3 := by walk_at "same"
       have OG := hi.keeps sm3
       have PN := ha.keeps sm3
       repeat' (walk_at "rd1")
       exact ⟨c2.length, Nat.lt_succ_self _, acc ++ [n'], c2, .str b, rfl, sm3, by rw [List.map_append]; exact B1, by rw [List.append_assoc]; exact CL, rfl, .inr ⟨b, rfl, P4⟩⟩
theorem eM (T : Txt K mg a) : mF P w K mg base 5 a.bB ["self", "name"] [] (mJ a.af a.ak) :=
 ⟨⟨_, _, xx T, T.fg.binds fun _ _ _ _ _ _ => .all fun us hl => match us, hl with | [_, _], _ => rfl, .nil⟩⟩
theorem qp {C cN : Addr} {H : Hp} {Q : VK} {E : XK} {v : V} {d1 d2 : Addr} {m ms : List (Str × PyData)} {n : Str} {c : List Str} (h : p9 C H v d1 d2 m ms) (hc : Chain m n c) (hl : c.length <= 60) (q : ∀ q H', au H H' -> H q = none -> cw H' q (c.map PyData.str) -> Q (.ref q) H') : iB (mJ C cN) [v, .str n] H Q E :=
 ⟨v, d1, d2, m, ms, n, rfl, h, fun hk => (by have := hc.has; rw [hk] at this; cases this), fun _ => ⟨c, hc, hl, q⟩⟩
def kW (ms : List (Str × PyData)) (n : Str) : Bool := (bK ms n).isSome
def j9 (C cN : Addr) : Sp := fun vs H Q E => ∃ v d1 d2 m ms n, vs = [v, .str n] /\ p9 C H v d1 d2 m ms /\ (bK m n = none -> nA n /\ ∀ d', H d' = none -> E (.ref cN) (some d') (Xn H d' n)) /\ ((bK m n).isSome = true -> Q (.bl (kW ms n)) H)
theorem uS (T : Txt K mg a) : bH P w K mg base (qA P w) 5 a.bw a.fY ["self", "name"] (j9 a.af a.ak) := by
 have n1 := T.az; have n2 := T.aA; have cl := T.aq
 have bC := T.a0
 have bE := gA (P := P) (w := w) (base := base) T
 refine T.en.Ft ku (fun vs H Q E h => ?_) (fun cV A outer s H vs Q E hr h => ?_)
 . obtain ⟨_, _, _, _, _, _, rfl, _⟩ := h; rfl
 . obtain ⟨v, d1, d2, m, ms, n, rfl, hg, qN, q⟩ := h
   have hi := hg.ins; have ha := hg.iH
   refine ⟨_, (ax (bo (fw (pv 0) cl bC bE (hr.mono (by decide)) nN (ag (pv 1) ao)))
    (aw (bh (rX (me (i5 hr) (pv 1) (dF (pv 0) rfl)) rfl)))), ?_⟩
   repeat' (walk_at "rd1")
   refine ⟨v, d1, d2, m, ms, n, rfl, hg, qN, fun hs => ?_⟩
   repeat' (walk_at "rd1")
   rename_i o e
   have e' : o.isSome = kW ms n := e
   rw [e']
   exact q hs
theorem jn (T : Txt K mg a) : mF P w K mg base 5 a.bw ["self", "name"] [] (j9 a.af a.ak) :=
 ⟨⟨_, _, uS T, T.en.binds fun _ _ _ _ _ _ => .all fun us hl => match us, hl with | [_, _], _ => rfl, .nil⟩⟩
theorem vD {C cN : Addr} {H : Hp} {Q : VK} {E : XK} {v : V} {d1 d2 : Addr} {m ms : List (Str × PyData)} {n : Str} (h : p9 C H v d1 d2 m ms) (hn : (bK m n).isSome = true) (q : Q (.bl (kW ms n)) H) : iB (j9 C cN) [v, .str n] H Q E :=
 ⟨v, d1, d2, m, ms, n, rfl, h, fun hk => (by rw [hk] at hn; cases hn), fun _ => q⟩
def mC (C : Addr) : Sp := fun vs H Q _ => ∃ v d1 d2 m ms n c, vs = [v, .str n] /\ p9 C H v d1 d2 m ms /\ Chain m n c /\ c.length <= 60 /\ ∀ H', au H H' -> Q (.int (c.length : Nat)) H'
theorem Ac {C : Addr} {H : Hp} {Q : VK} {E : XK} {v : V} {d1 d2 : Addr} {m ms : List (Str × PyData)} {n : Str} {c : List Str} (h : p9 C H v d1 d2 m ms) (hc : Chain m n c) (hl : c.length <= 60) (q : ∀ H', au H H' -> Q (.int (c.length : Nat)) H') : mC C [v, .str n] H Q E := ⟨v, d1, d2, m, ms, n, c, rfl, h, hc, hl, q⟩
local macro_rules | `(tactic| walk_at "use") => `(tactic| first
 | ((with_reducible refine' qp ?e1 ?e2 ?e3 (fun _ _ _ _ _ => ?_)); (case e1 => walk_at "grd"); (case e2 => assumption); (case e3 => assumption))
 | ((with_reducible refine' vD ?e1 ?e2 ?_); (case e1 => walk_at "grd"); (case e2 => assumption))
 | ((with_reducible refine' Ac ?e1 ?e2 ?e3 (fun _ _ => ?_)); (case e1 => walk_at "grd"); (case e2 => assumption); (case e3 => assumption))
 | fail)
theorem yl (T : Txt K mg a) : bH P w K mg base jR 6 a.aR a.fb ["self", "name"] (mC a.af) := by
 have cl := T.aq
 have jT := T.aI
 have oj := (eM (P := P) (w := w) (base := base) T).calm
 refine T.dt.ok jv (fun vs H Q E h => ?_) (fun cV A outer s H vs Q E hr h => ?_)
 . obtain ⟨_, _, _, _, _, _, _, rfl, _⟩ := h; rfl
 . obtain ⟨v, d1, d2, m, ms, n, c, rfl, hg, hc, fN, q⟩ := h
   have hi := hg.ins
   refine ⟨_, (aw (bh (bM c5 rfl T.eW PySem.boot_len (ag (aL (pv 0) cl jT oj (hr.mono (by decide)) (ag (pv 1) ao)) ao)))), ?_⟩
   repeat' (walk_at "rd1")
   exact q _ (by walk_at "same")
theorem nM (T : Txt K mg a) : mO P w K mg base 6 a.aR ["self", "name"] [] (mC a.af) :=
 ⟨⟨_, _, yl T, T.dt.binds fun _ _ _ _ _ _ => .all fun us hl => match us, hl with | [_, _], _ => rfl, .nil⟩⟩
def pK : Nat -> List (Str × PyData) -> Str -> List Str
 | 0, _, n => [n]
 | f + 1, m, n => match bK m n with
   | some (.str b) => n :: pK f m b
   | _ => [n]
theorem Chain.fn {m : List (Str × PyData)} {n : Str} {c : List Str} (h : Chain m n c) : ∀ {f : Nat}, c.length <= f -> pK f m n = c := by
 induction h with
 | top e =>
   intro f hf
   cases f with
   | zero => rfl
   | succ f => simp [pK, e]
 | up e _ ih =>
   intro f hf
   cases f with
   | zero => simp at hf
   | succ f => simp only [pK, e]; rw [ih (by simpa using hf)]
def FN (m ms : List (Str × PyData)) (n : Str) : Bool := (pK 60 m n).any (kW ms)
def lJ (C cN : Addr) : Sp := fun vs H Q E => ∃ v d1 d2 m ms n, vs = [v, .str n] /\ p9 C H v d1 d2 m ms /\ (bK m n = none -> nA n /\ ∀ d', H d' = none -> E (.ref cN) (some d') (Xn H d' n)) /\ ((bK m n).isSome = true -> ∃ c, Chain m n c /\ c.length <= 60 /\ ∀ H', au H H' -> Q (.bl (!FN m ms n)) H')
theorem xN (T : Txt K mg a) : bH P w K mg base (qA P w) 7 a.bD a.gZ ["self", "name"] (lJ a.af a.ak) := by
 have cl := T.aq
 have jT := T.aI; have xg := T.cn
 have oj := eM (P := P) (w := w) (base := base) T
 have su := (jn (P := P) (w := w) (base := base) T).calm
 refine T.eQ.Ft kO (fun vs H Q E h => ?_) (fun cV A outer s H vs Q E hr h => ?_)
 . obtain ⟨_, _, _, _, _, _, rfl, _⟩ := h; rfl
 . obtain ⟨v, d1, d2, m, ms, n, rfl, hg, qN, qY⟩ := h
   have hi := hg.ins
   refine ⟨_, (aw (bh (El (bM (vp rfl) rfl T.oR PyProof.Rows.boot_any (ag (ug (T := ["other"]) (M := ["self", "name"]) (JY (av dz) ["self", "name"] rfl rfl (by decide +kernel)) rfl (jz (fw (pv 0) cl jT oj (hr.mono (by decide)) nN (ag (pv 1) ao))) (fun _ _ _ _ _ => (cU (i := 0) (show List.Nodup (["other", "self", "name"] : List Str) by decide +kernel) rfl (Or.inl rfl))) (kA (by decide)) (fun _ _ _ _ _ => zq) (fun _ _ _ _ _ => (aL (pv 1) cl xg su (hr.mono (by decide)) (ag (pv 0) ao)))) ao))))), ?_⟩
   repeat' (walk_at "rd1")
   refine ⟨v, d1, d2, m, ms, n, rfl, hg, qN, fun hs => ?_⟩
   obtain ⟨c, hc, fN, q⟩ := qY hs
   refine ⟨c, hc, fN, fun p1 H1 m9 uE uC => ?_⟩
   refine GH (cs := c) (gd := PyData.str) (fun _ => true) (fun o => .bool (kW ms o)) uC.dv (by omega) (fun _ => rfl) (fun x o H' N ho ED jY yes no => ?_) (fun pq H5 w5 Ha FI => ?_)
   . obtain rfl := jY.str_inv
     have kN := hc.all o ho
     have AB := (hg.keeps m9).keeps ED
     have yZ := AB.ins
     repeat' (walk_at "rd1")
     show FR _ N _ true _
     refine tR (fun _ => ?_) (fun hb => by cases hb)
     repeat' (walk_at "rd1")
     exact yes rfl _ _ (au.refl _) (.bl _)
   . have e : c.filter (fun _ => true) = c := List.filter_eq_self.mpr (by simp)
     rw [e] at FI
     have Kn : cw H5 pq ((c.map (kW ms)).map PyData.bool) := by rw [List.map_map]; exact FI
     repeat' (walk_at "rd1")
     have e2 : (c.map (kW ms)).any id = FN m ms n := by unfold FN; rw [hc.fn fN, List.any_map]; rfl
     rw [e2]
     exact q _ (by walk_at "same")
theorem uO (T : Txt K mg a) : mF P w K mg base 7 a.bD ["self", "name"] [] (lJ a.af a.ak) :=
 ⟨⟨_, _, xN T, T.eQ.binds fun _ _ _ _ _ _ => .all fun us hl => match us, hl with | [_, _], _ => rfl, .nil⟩⟩
theorem x6 {C cN : Addr} {H : Hp} {Q : VK} {E : XK} {v : V} {d1 d2 : Addr} {m ms : List (Str × PyData)} {n : Str} {c : List Str} (h : p9 C H v d1 d2 m ms) (hc : Chain m n c) (hl : c.length <= 60) (q : ∀ H', au H H' -> Q (.bl (!FN m ms n)) H') : iB (lJ C cN) [v, .str n] H Q E :=
 ⟨v, d1, d2, m, ms, n, rfl, h, fun hk => (by have := hc.has; rw [hk] at this; cases this), fun _ => ⟨c, hc, hl, q⟩⟩
structure dO (C : Addr) (H : Hp) (v : V) (d1 d2 : Addr) (m ms : List (Str × PyData)) : Prop where
 ins : u3 H v C [("above_of", .ref d1), ("marks", .ref d2)]
 ab : ic H d1 m
 iH : ic H d2 ms
 ne : d1 ≠ d2
theorem dO.rd {C : Addr} {H : Hp} {v : V} {d1 d2 : Addr} {m ms : List (Str × PyData)} (h : dO C H v d1 d2 m ms) : p9 C H v d1 d2 m ms := ⟨h.ins, h.ab.rd, h.iH.rd⟩
theorem dO.keeps {C : Addr} {H H' : Hp} {v : V} {d1 d2 : Addr} {m ms : List (Str × PyData)} (s : au H H') (h : dO C H v d1 d2 m ms) : dO C H' v d1 d2 m ms := ⟨h.ins.keeps s, h.ab.keeps s, h.iH.keeps s, h.ne⟩
theorem iP {C : Addr} {H H' : Hp} {v : V} {fs : List (Str × V)} {d : Addr} {m : List (Str × PyData)} (h : u3 H v C fs) (hd : ic H d m) (mv : Mv [d] H H') : u3 H' v C fs := by
 obtain ⟨p, dx, rfl, e⟩ := h
 obtain ⟨kvs, e2, _⟩ := hd
 exact ⟨p, dx, rfl, mv.at (by simpa using et e e2 (by intro z; cases z)) e⟩
structure kU (m : List (Str × PyData)) : Prop where
 ch : ∀ n, (bK m n).isSome = true -> ∃ c, Chain m n c /\ c.length <= 60
 nd : (m.map (·.1)).Nodup
 len : m.length <= 60
theorem cQ {m : List (Str × PyData)} {n : Str} (h : n ∈ m.map (·.1)) : (bK m n).isSome = true := by
 unfold bK
 rw [Option.isSome_map, List.find?_isSome]
 obtain ⟨x, hx, e⟩ := List.mem_map.mp h
 exact ⟨x, hx, by simpa using e⟩
local macro_rules | `(tactic| walk_at "gat") => `(tactic| first
 | assumption
 | (refine' dO.keeps ?s ?m; (case s => assumption); (case m => walk_at "gat"))
 | fail)
theorem pI {m : List (Str × PyData)} {k : Str} {d : PyData} (h : bK m k = none) : putD m k d = m ++ [(k, d)] := by
 unfold putD
 rw [if_neg]
 unfold bK at h
 rw [Option.map_eq_none_iff, List.find?_eq_none] at h
 simp only [List.any_eq_true, not_exists, not_and]
 exact h
def qo (m : List (Str × PyData)) (x : V) (d : PyData) : Prop := (x = .aP /\ d = .none) \/ ∃ b c, x = .str b /\ d = .str b /\ Chain m b c /\ c.length <= 7
inductive vt (C1 C2 C3 : Addr) (m : List (Str × PyData)) (n : Str) : V -> Option (Addr × Str) -> Prop
 | twice {x : V} : (bK m n).isSome = true -> vt C1 C2 C3 m n x (some (C1, n))
 | group {b : Str} : bK m n = none -> bK m b = none -> nA b -> vt C1 C2 C3 m n (.str b) (some (C2, b))
 | deep {b : Str} {c : List Str} : bK m n = none -> Chain m b c -> c.length = 8 -> vt C1 C2 C3 m n (.str b) (some (C3, n))
 | ok {x : V} {d : PyData} : bK m n = none -> qo m x d -> vt C1 C2 C3 m n x none
def oW (C C1 C2 C3 : Addr) : Sp := fun vs H Q E => ∃ v d1 d2 m ms n x r, vs = [v, .str n, x] /\ dO C H v d1 d2 m ms /\ m.length <= 100 /\ nA n /\ vt C1 C2 C3 m n x r /\ (∀ c y, r = some (c, y) -> ∀ H2, au H H2 -> ∀ d', H2 d' = none -> E (.ref c) (some d') (Xn H2 d' y)) /\ (r = none -> ∀ d, qo m x d -> ∀ H', Mv [d1] H H' -> dO C H' v d1 d2 (m ++ [(n, d)]) ms -> Q .aP H')
theorem yo (T : Txt K mg a) : bH P w K mg base (qA P w) 8 a.bO a.i6 ["self", "name", "above"] (oW a.af a.aX a.ak a.aC) := by
 have n1 := T.az; have n2 := T.aA; have cl := T.aq
 have bC := T.a0; have ju := T.dj
 have bE := gA (P := P) (w := w) (base := base) T
 have jm := nM (P := P) (w := w) (base := base) T
 have oh := lQ (P := P) (w := w) (base := base) T
 have lR := j8 (P := P) (w := w) (base := base) T
 refine T.eF.Ft ng (fun vs H Q E h => ?_) (fun cV A outer s H vs Q E hr h => ?_)
 . obtain ⟨_, _, _, _, _, _, _, _, rfl, _⟩ := h; rfl
 . obtain ⟨v, d1, d2, m, ms, n, x, r, rfl, hg, hl, FJ, Kh, qE, q⟩ := h
   have hi := hg.ins; have Cm := hg.ab; have F4 := hg.rd
   refine ⟨_, (ax (cR (rq (me (i5 hr) (pv 1) (dF (pv 0) rfl)) rfl)
    (aw (ko r9 rfl (ag (pv 1) ao) rfl T.pH T.lz (hr.mono (by decide)) oh rfl))
    aZ)
    (ax (cR (aS oH (pv 2) j7 (bb _))
     (ax (bo (fw (pv 0) cl bC bE (hr.mono (by decide)) nN (ag (pv 2) ao)))
     (aw (cR (aS Jk (aL (pv 0) cl ju jm (hr.mono (by decide)) (ag (pv 2) ao)) (zK (v := .int 8) rfl T.jd ⟨_, rfl⟩) (bb _))
      (aw (ko r9 rfl (ag (pv 1) ao) rfl T.mM T.iQ (hr.mono (by decide)) lR rfl))
      aZ)))
     aZ)
    (aw (pd (i5 hr) (dF (pv 0) rfl) (pv 1) (pv 2) rfl)))), ?_⟩
   have BK : ∀ {o : Option V}, o.isSome = (bK m n).isSome -> bK m n = none -> ¬ o.isSome = true := fun e hn hb => by rw [e, hn] at hb; cases hb
   cases Kh with
   | twice hs =>
     repeat' (walk_at "rd1")
     . exact kn FJ (fun d' jY => qE _ _ rfl H (au.refl _) d' jY)
     . rename_i o e y1 mX; rw [e, hs] at y1; cases y1
     . rename_i o e y1 mX; rw [e, hs] at y1; cases y1
   | @group b hn hb J0 =>
     repeat' (walk_at "rd1")
     . rename_i o e hb; exact absurd hb (BK e hn)
     . exact ⟨v, d1, d2, m, ms, b, rfl, F4, fun _ => ⟨J0, fun d' jY => qE _ _ rfl H (au.refl _) d' jY⟩, fun hs => by rw [hb] at hs; cases hs⟩
   | @deep b c hn hc fN =>
     have ve : c.length <= 60 := by omega
     repeat' (walk_at "rd1")
     . rename_i o e hb; exact absurd hb (BK e hn)
     . refine ⟨v, d1, d2, m, ms, b, rfl, F4, fun hk => (by have := hc.has; rw [hk] at this; cases this), fun _ => ?_⟩
       repeat' (walk_at "rd1")
       exact kn FJ (fun d' jY => qE _ _ rfl _ (by assumption) d' jY)
   | ok hn ha =>
     rcases id ha with ⟨rfl, rfl⟩ | ⟨b, c, rfl, rfl, hc, fN⟩
     . repeat' (walk_at "rd1")
       . rename_i o e hb; exact absurd hb (BK e hn)
       . rename_i o e y1 mX H2 kF hd
         rw [pI hn] at hd
         exact q rfl _ ha _ kF ⟨iP hi Cm kF, hd, hg.iH.mv kF (by simpa using Ne.symm hg.ne), hg.ne⟩
     . have ve : c.length <= 60 := by omega
       repeat' (walk_at "rd1")
       . rename_i o e hb; exact absurd hb (BK e hn)
       . refine ⟨v, d1, d2, m, ms, b, rfl, F4, fun hk => (by have := hc.has; rw [hk] at this; cases this), fun _ => ?_⟩
         repeat' (walk_at "rd1")
         rename_i H4 NV SN H2 kF hd
         have AU := hg.keeps NV
         rw [pI hn] at hd
         exact q rfl _ ha _ (NV.mv.trans kF) ⟨iP AU.ins AU.ab kF, hd, AU.iH.mv kF (by simpa using Ne.symm hg.ne), hg.ne⟩
theorem zA (T : Txt K mg a) : mF P w K mg base 8 a.bO ["self", "name", "above"] [] (oW a.af a.aX a.ak a.aC) :=
 ⟨⟨_, _, yo T, T.eF.binds fun _ _ _ _ _ _ s us kx hl => by
   obtain ⟨o, n, h1, h2⟩ := T.gB.ex
   have hl : us.length = 3 := by simp at hl; omega
   match us, hl with
   | [_, _, _], _ => exact PySem.W.binds_K kx rfl h1 h2 rfl rfl, .nil⟩⟩
theorem yz (T : Txt K mg a) : mF P w K mg base 8 a.bO ["self", "name", "above"] [.aP] (oW a.af a.aX a.ak a.aC) :=
 ⟨⟨_, _, yo T, T.eF.binds fun _ _ _ _ _ _ s us kx hl => by
   obtain ⟨o, n, h1, h2⟩ := T.gB.ex
   have hl : us.length = 2 := by simp at hl; omega
   match us, hl with
   | [_, _], _ => exact PySem.W.binds_K kx rfl h1 h2 rfl rfl, .cons rfl .nil⟩⟩
theorem sW {C C1 C2 C3 : Addr} {H : Hp} {Q : VK} {E : XK} {v x : V} {d1 d2 : Addr} {m ms : List (Str × PyData)} {n : Str} {d : PyData} (h : dO C H v d1 d2 m ms) (hl : m.length <= 100) (FJ : nA n) (hn : bK m n = none) (ha : qo m x d) (q : ∀ H', Mv [d1] H H' -> dO C H' v d1 d2 (m ++ [(n, d)]) ms -> Q .aP H') : iB (oW C C1 C2 C3) [v, .str n, x] H Q E := by
 refine ⟨v, d1, d2, m, ms, n, x, none, rfl, h, hl, FJ, vt.ok hn ha, ?_, ?_⟩
 . intro c y e; cases e
 . intro _ d' M9 H' mv hg
   have : d' = d := by
    rcases ha with ⟨rfl, rfl⟩ | ⟨b, c, rfl, rfl, _⟩ <;> rcases M9 with ⟨e1, e2⟩ | ⟨b', c', e1, e2, _⟩
    . exact e2
    . cases e1
    . cases e1
    . cases e1; exact e2
   subst this
   exact q H' mv hg
def lT (C : Addr) : Sp := fun vs H Q _ => ∃ v d1 d2 m ms n, vs = [v, .str n] /\ p9 C H v d1 d2 m ms /\ Q (.bl (bK m n).isSome) H
theorem Ck {C : Addr} {H : Hp} {Q : VK} {E : XK} {v : V} {d1 d2 : Addr} {m ms : List (Str × PyData)} {n : Str} (h : p9 C H v d1 d2 m ms) (q : Q (.bl (bK m n).isSome) H) : lT C [v, .str n] H Q E := ⟨v, d1, d2, m, ms, n, rfl, h, q⟩
theorem D2 (T : Txt K mg a) : bH P w K mg base jR 1 a.bf a.fE ["self", "name"] (lT a.af) := by
 have n1 := T.az; have n2 := T.aA; have cl := T.aq
 refine T.dh.ok iZ (fun vs H Q E h => ?_) (fun cV A outer s H vs Q E hr h => ?_)
 . obtain ⟨_, _, _, _, _, _, rfl, _⟩ := h; rfl
 . obtain ⟨v, d1, d2, m, ms, n, rfl, hg, q⟩ := h
   have hi := hg.ins; have ha := hg.ab
   refine ⟨_, (aw (bh (rX (me (i5 hr) (pv 1) (dF (pv 0) rfl)) rfl))), ?_⟩
   repeat' (walk_at "rd1")
   rename_i o e
   rw [e]
   exact q
theorem Ap (T : Txt K mg a) : mO P w K mg base 1 a.bf ["self", "name"] [] (lT a.af) :=
 ⟨⟨_, _, D2 T, T.dh.binds fun _ _ _ _ _ _ => .all fun us hl => match us, hl with | [_, _], _ => rfl, .nil⟩⟩
def bI (m : List (Str × PyData)) (n : Str) : List Str := (m.map (·.1)).filter fun k => (pK 60 m k).contains n
def ki (C cN : Addr) : Sp := fun vs H Q E => ∃ v d1 d2 m ms n, vs = [v, .str n] /\ dO C H v d1 d2 m ms /\ (bK m n = none -> nA n /\ ∀ d', H d' = none -> E (.ref cN) (some d') (Xn H d' n)) /\ ((bK m n).isSome = true -> kU m /\ ∀ q H' ss, au H H' -> H q = none -> ss.Perm (bI m n) -> va ss -> cw H' q (ss.map PyData.str) -> Q (.ref q) H')
theorem vF {C cN : Addr} {H : Hp} {Q : VK} {E : XK} {v : V} {d1 d2 : Addr} {m ms : List (Str × PyData)} {n : Str} (h : dO C H v d1 d2 m ms) (hm : kU m) (hn : (bK m n).isSome = true) (q : ∀ q H' ss, au H H' -> H q = none -> ss.Perm (bI m n) -> va ss -> cw H' q (ss.map PyData.str) -> Q (.ref q) H') : iB (ki C cN) [v, .str n] H Q E := ⟨v, d1, d2, m, ms, n, rfl, h, fun hk => (by rw [hk] at hn; cases hn), fun _ => ⟨hm, q⟩⟩
theorem vg (T : Txt K mg a) : bH P w K mg base (qA P w) 7 a.bx a.fQ ["self", "name"] (ki a.af a.ak) := by
 have n1 := T.az; have n2 := T.aA; have cl := T.aq
 have jT := T.aI; have bC := T.a0
 have u5 := (eM (P := P) (w := w) (base := base) T).calm
 have bE := gA (P := P) (w := w) (base := base) T
 refine T.d8.Ft km (fun vs H Q E h => ?_) (fun cV A outer s H vs Q E hr h => ?_)
 . obtain ⟨_, _, _, _, _, _, rfl, _⟩ := h; rfl
 . obtain ⟨v, d1, d2, m, ms, n, rfl, hg, qN, qY⟩ := h
   have hi := hg.ins; have F4 := hg.rd
   refine ⟨_, (ax (bo (fw (pv 0) cl bC bE (hr.mono (by decide)) nN (ag (pv 1) ao)))
    (aw (bh (bM jh rfl T.c6 PyProof.Rows.boot_sorted (ag (tS (ug (T := ["other"]) (M := ["self", "name"]) (JY (av cW) ["self", "name"] rfl rfl (by decide +kernel)) rfl (A5 (dF (pv 0) rfl)) (fun _ _ _ _ _ => (cU (i := 0) (show List.Nodup (["other", "self", "name"] : List Str) by decide +kernel) rfl (Or.inl rfl))) (kA (by decide)) (fun _ _ _ _ _ => (oU (aS (yM (K := K) rfl) (pv 2) (aL (pv 1) cl jT u5 (hr.mono (by decide)) (ag (pv 0) ao)) rfl))) (fun _ _ _ _ _ => (pv 0)))) ao))))), ?_⟩
   repeat' (walk_at "rd1")
   refine ⟨v, d1, d2, m, ms, n, rfl, F4, qN, fun hs => ?_⟩
   obtain ⟨hm, q⟩ := qY hs
   have Ki := hm.len
   repeat' (walk_at "rd1")
   refine HD hg.ab (fun R hR => ?_) (fun k => (pK 60 m k).contains n) PyData.str (by omega) (fun _ => rfl) (fun o Hf H' N ho mv rd sm yes no => ?_) (fun pq H5 w5 Ha FI => ?_)
   . repeat' (walk_at "rd1")
     exact hR
   . obtain ⟨c, hc, fN⟩ := hm.ch o (cQ ho)
     have yZ : u3 H' v a.af [("above_of", .ref d1), ("marks", .ref d2)] := (iP hi hg.ab mv).keeps sm
     have AB : p9 a.af H' v d1 d2 m ms := ⟨yZ, rd.keeps sm, (hg.iH.rd.mv mv (by simpa using Ne.symm hg.ne)).keeps sm⟩
     have HS : pK 60 m o = c := hc.fn fN
     rw [HS] at yes no
     repeat' (walk_at "rd1")
     rename_i q6 H6 DG OD R4
     refine tR (fun hb => ?_) (fun hb => no hb _ (by walk_at "same"))
     repeat' (walk_at "rd1")
     exact yes hb _ _ (by walk_at "same") (.str _)
   . have Kn : cw H5 pq ((bI m n).map PyData.str) := FI
     have FT : (bI m n).length < 64 := by
      have h1 := List.length_filter_le (fun k => (pK 60 m k).contains n) (m.map (·.1))
      rw [List.length_map] at h1
      unfold bI
      omega
     repeat' (walk_at "rd1")
     rename_i q7 H7 ss y4 JU nr Ce Nb
     exact q _ _ ss (by walk_at "same") (by walk_at "none") nr Ce Nb
theorem gC (T : Txt K mg a) : mF P w K mg base 7 a.bx ["self", "name"] [] (ki a.af a.ak) :=
 ⟨⟨_, _, vg T, T.d8.binds fun _ _ _ _ _ _ => .all fun us hl => match us, hl with | [_, _], _ => rfl, .nil⟩⟩
local macro_rules | `(tactic| walk_at "use") => `(tactic| first
 | ((with_reducible refine' vF ?e1 ?e2 ?e3 (fun _ _ _ _ _ _ _ _ => ?_)); (case e1 => walk_at "gat"); (case e2 => assumption); (case e3 => assumption))
 | ((with_reducible refine' x6 ?e1 ?e2 ?e3 (fun _ _ => ?_)); (case e1 => walk_at "grd"); (case e2 => assumption); (case e3 => assumption))
 | fail)
def Bi (m ms : List (Str × PyData)) (n : Str) (ss : List Str) : Prop := va ss /\ ss.Perm ((bI m n).filter fun k => !FN m ms k)
def o7 (C : Addr) : Sp := fun vs H Q _ => ∃ v d1 d2 m ms n, vs = [v, .str n] /\ dO C H v d1 d2 m ms /\ kU m /\ (bK m n).isSome = true /\ ∀ q H' ss, au H H' -> H q = none -> Bi m ms n ss -> cw H' q (ss.map PyData.str) -> Q (.ref q) H'
theorem DZ {C : Addr} {H : Hp} {Q : VK} {E : XK} {v : V} {d1 d2 : Addr} {m ms : List (Str × PyData)} {n : Str} (h : dO C H v d1 d2 m ms) (hm : kU m) (hn : (bK m n).isSome = true) (q : ∀ q H' ss, au H H' -> H q = none -> Bi m ms n ss -> cw H' q (ss.map PyData.str) -> Q (.ref q) H') : o7 C [v, .str n] H Q E := ⟨v, d1, d2, m, ms, n, rfl, h, hm, hn, q⟩
local macro_rules | `(tactic| walk_at "use") => `(tactic| first
 | ((with_reducible refine' DZ ?e1 ?e2 ?e3 (fun _ _ _ _ _ _ _ => ?_)); (case e1 => walk_at "gat"); (case e2 => assumption); (case e3 => assumption))
 | fail)
theorem A2 (T : Txt K mg a) : bH P w K mg base jR 9 a.aE a.dA ["self", "name"] (o7 a.af) := by
 have cl := T.aq
 have mE := T.cg; have Bj := T.ix
 have mL := (gC (P := P) (w := w) (base := base) T).calm
 have Bf := (uO (P := P) (w := w) (base := base) T).calm
 refine T.cz.ok gf (fun vs H Q E h => ?_) (fun cV A outer s H vs Q E hr h => ?_)
 . obtain ⟨_, _, _, _, _, _, rfl, _⟩ := h; rfl
 . obtain ⟨v, d1, d2, m, ms, n, rfl, hg, hm, hn, q⟩ := h
   have hi := hg.ins
   refine ⟨_, (aw (bh (ug (T := ["other"]) (M := ["self", "name"]) (JY (av bG) ["self", "name"] rfl rfl (by decide +kernel)) rfl (jz (aL (pv 0) cl mE mL (hr.mono (by decide)) (ag (pv 1) ao))) (fun _ _ _ _ _ => (cU (i := 0) (show List.Nodup (["other", "self", "name"] : List Str) by decide +kernel) rfl (Or.inl rfl))) (kA (by decide)) (fun _ _ _ _ _ => (oU (uM (K := K) rfl (aL (pv 1) cl Bj Bf (hr.mono (by decide)) (ag (pv 0) ao)) (fun _ => rfl)))) (fun _ _ _ _ _ => (pv 0))))), ?_⟩
   repeat' (walk_at "rd1")
   rename_i p1 H1 ss m9 uE nr Ce uC
   have Eo : ss.length <= 60 := by
    rw [nr.length_eq]
    have h1 := List.length_filter_le (fun k => (pK 60 m k).contains n) (m.map (·.1))
    rw [List.length_map] at h1
    have := hm.len
    unfold bI
    omega
   refine GH (cs := ss) (gd := PyData.str) (fun o => !FN m ms o) PyData.str uC.dv (by omega) (fun _ => rfl) (fun x o H' N ho ED jY yes no => ?_) (fun pq H5 w5 Ha FI => ?_)
   . obtain rfl := jY.str_inv
     have PY : o ∈ m.map (·.1) := (List.mem_filter.mp (nr.mem_iff.mp ho)).1
     obtain ⟨c, hc, fN⟩ := hm.ch o (cQ PY)
     have AB := ((hg.keeps m9).keeps ED).rd
     have yZ := AB.ins
     repeat' (walk_at "rd1")
     rename_i H6 DG
     refine tR (fun hb => ?_) (fun hb => no hb _ (by walk_at "same"))
     repeat' (walk_at "rd1")
     exact yes hb _ _ (by walk_at "same") (.str _)
   . repeat' (walk_at "rd1")
     exact q _ _ _ (by walk_at "same") (by walk_at "none") ⟨Ce.filter _, nr.filter _⟩ FI
theorem wO (T : Txt K mg a) : mO P w K mg base 9 a.aE ["self", "name"] [] (o7 a.af) :=
 ⟨⟨_, _, A2 T, T.cz.binds fun _ _ _ _ _ _ => .all fun us hl => match us, hl with | [_, _], _ => rfl, .nil⟩⟩
def lY (C : Addr) : Sp := fun vs H Q _ => ∃ v d1 d2 m ms n, vs = [v, .str n] /\ dO C H v d1 d2 m ms /\ kU m /\ ms.length <= 60 /\ (bK m n).isSome = true /\ ∀ q H' ss, Mv [d2] H H' -> H q = none -> Bi m ms n ss -> cw H' q (ss.map PyData.str) -> dO C H' v d1 d2 m (putD ms n (.bool true)) -> Q (.ref q) H'
theorem Av {C : Addr} {H : Hp} {Q : VK} {E : XK} {v : V} {d1 d2 : Addr} {m ms : List (Str × PyData)} {n : Str} (h : dO C H v d1 d2 m ms) (hm : kU m) (hl : ms.length <= 60) (hn : (bK m n).isSome = true) (q : ∀ q H' ss, Mv [d2] H H' -> H q = none -> Bi m ms n ss -> cw H' q (ss.map PyData.str) -> dO C H' v d1 d2 m (putD ms n (.bool true)) -> Q (.ref q) H') : lY C [v, .str n] H Q E := ⟨v, d1, d2, m, ms, n, rfl, h, hm, hl, hn, q⟩
theorem xt (T : Txt K mg a) : bH P w K mg base jR 10 a.bF a.g5 ["self", "name"] (lY a.af) := by
 have n1 := T.az; have n2 := T.aA; have cl := T.aq
 have lS := T.dD
 have lG := wO (P := P) (w := w) (base := base) T
 refine T.eX.ok g7 (fun vs H Q E h => ?_) (fun cV A outer s H vs Q E hr h => ?_)
 . obtain ⟨_, _, _, _, _, _, rfl, _⟩ := h; rfl
 . obtain ⟨v, d1, d2, m, ms, n, rfl, hg, hm, hl, hn, q⟩ := h
   have hi := hg.ins
   refine ⟨_, (ax (bq (i := 2) g7.nd rfl (Or.inl rfl) (aL (pv 0) cl lS lG (hr.mono (by decide)) (ag (pv 1) ao)))
    (ax (pd (i5 hr) (dF (pv 0) rfl) (pv 1) gW rfl)
    (aw (bh (pv 2))))), ?_⟩
   repeat' (walk_at "rd1")
   rename_i p1 H1 ss m9 uE NN uC
   have zC := hg.keeps m9
   have hd2 := zC.iH
   have IL := zC.ins
   repeat' (walk_at "rd1")
   rename_i H2 kF hd
   have tq : p1 ≠ d2 := Ne.symm (hg.iH.ne uE)
   exact q _ _ ss (m9.mv.trans kF) uE NN (uC.mv kF (by simpa using tq)) ⟨iP IL hd2 kF, zC.ab.mv kF (by simpa using hg.ne), hd, hg.ne⟩
theorem vN (T : Txt K mg a) : mO P w K mg base 10 a.bF ["self", "name"] [] (lY a.af) :=
 ⟨⟨_, _, xt T, T.eX.binds fun _ _ _ _ _ _ => .all fun us hl => match us, hl with | [_, _], _ => rfl, .nil⟩⟩
theorem rE {m : List (Str × PyData)} {n : Str} (h : bK m n = none) : dB m n = m := by
 unfold dB
 rw [List.filter_eq_self]
 intro x hx
 unfold bK at h
 rw [Option.map_eq_none_iff, List.find?_eq_none] at h
 have := h x hx
 simpa using this
def j2 (C : Addr) : Sp := fun vs H Q _ => ∃ v d1 d2 m ms n, vs = [v, .str n] /\ dO C H v d1 d2 m ms /\ ∀ H', Mv [d2] H H' -> dO C H' v d1 d2 m (dB ms n) -> Q .aP H'
theorem wN {C : Addr} {H : Hp} {Q : VK} {E : XK} {v : V} {d1 d2 : Addr} {m ms : List (Str × PyData)} {n : Str} (h : dO C H v d1 d2 m ms) (q : ∀ H', Mv [d2] H H' -> dO C H' v d1 d2 m (dB ms n) -> Q .aP H') : j2 C [v, .str n] H Q E := ⟨v, d1, d2, m, ms, n, rfl, h, q⟩
local macro_rules | `(tactic| walk_at "rd1") => `(tactic| first
 | ((with_reducible refine' Gr ?e1 ?_); (case e1 => walk_at "dla"))
 | ((with_reducible refine' DV ?e1 ?e2 (fun _ _ _ _ => ?_)); (case e1 => walk_at "dla"); (case e2 => assumption))
 | fail)
theorem u0 (T : Txt K mg a) : bH P w K mg base jR 1 a.bu a.fV ["self", "name"] (j2 a.af) := by
 have n1 := T.az; have n2 := T.aA; have cl := T.aq
 refine T.dZ.ok kz (fun vs H Q E h => ?_) (fun cV A outer s H vs Q E hr h => ?_)
 . obtain ⟨_, _, _, _, _, _, rfl, _⟩ := h; rfl
 . obtain ⟨v, d1, d2, m, ms, n, rfl, hg, q⟩ := h
   have hi := hg.ins; have hd2 := hg.iH
   refine ⟨_, (aw (cR (rq (me (i5 hr) (pv 1) (dF (pv 0) rfl)) rfl)
    (aw (bo (qS PySem.F.plainAttrs_dict PySem.F.slot_dict_pop PySem.F.type_dict_pop oA (dF (pv 0) rfl) (ag (pv 1) ao))))
    aZ)), ?_⟩
   cases hk : bK ms n with
   | none =>
     repeat' (walk_at "rd1")
     . rename_i o e hb
       rw [e, hk] at hb
       cases hb
     . have z := rE hk
       exact q _ Mv.refl (by rw [z]; exact hg)
   | some d =>
     repeat' (walk_at "rd1")
     . rename_i o e hb v2 H2 kF hd
       exact q _ kF ⟨iP hi hd2 kF, hg.ab.mv kF (by simpa using hg.ne), hd, hg.ne⟩
     . rename_i o e hb
       rw [e, hk] at hb
       cases hb
theorem sQ (T : Txt K mg a) : mO P w K mg base 1 a.bu ["self", "name"] [] (j2 a.af) :=
 ⟨⟨_, _, u0 T, T.dZ.binds fun _ _ _ _ _ _ => .all fun us hl => match us, hl with | [_, _], _ => rfl, .nil⟩⟩
local macro_rules | `(tactic| walk_at "use") => `(tactic| first
 | ((with_reducible refine' wN ?e1 (fun _ _ _ => ?_)); (case e1 => walk_at "gat"))
 | fail)
def aW (m : List (Str × PyData)) (ss : List Str) : List (Str × PyData) := ss.foldl dB m
theorem lL {m : List (Str × PyData)} {ss : List Str} {x : Str} : aW m (ss ++ [x]) = dB (aW m ss) x := by unfold aW; rw [List.foldl_append]; rfl
theorem wD {m : List (Str × PyData)} {x n : Str} : bK (dB m x) n = if n = x then none else bK m n := by
 unfold bK dB
 rw [List.find?_filter]
 split
 . rename_i h
   subst h
   rw [List.find?_eq_none.mpr]
   . rfl
   . intro y _
     simp
 . rename_i h
   congr 2
   funext y
   by_cases e : y.1 = n
   . simp [e, h]
   . simp [e]
theorem dG {ss : List Str} {n : Str} : ∀ {m : List (Str × PyData)}, bK (aW m ss) n = if n ∈ ss then none else bK m n := by
 induction ss with
 | nil => intro m; simp [aW]
 | cons x r ih =>
   intro m
   show bK (aW (dB m x) r) n = _
   rw [ih, wD]
   by_cases h : n ∈ r
   . simp [h]
   . by_cases e : n = x
     . simp [e]
     . simp [h, e]
def sR (C cN : Addr) : Sp := fun vs H Q E => ∃ v d1 d2 m ms n, vs = [v, .str n] /\ dO C H v d1 d2 m ms /\ (bK m n = none -> nA n /\ ∀ d', H d' = none -> E (.ref cN) (some d') (Xn H d' n)) /\ ((bK m n).isSome = true -> kU m /\ ∀ q H' ss, Mv [d1, d2] H H' -> H q = none -> ss.Perm (bI m n) -> va ss -> cw H' q (ss.map PyData.str) -> dO C H' v d1 d2 (aW m ss) (aW ms ss) -> Q (.ref q) H')
theorem EK {C cN : Addr} {H : Hp} {Q : VK} {E : XK} {v : V} {d1 d2 : Addr} {m ms : List (Str × PyData)} {n : Str} (h : dO C H v d1 d2 m ms) (hm : kU m) (hn : (bK m n).isSome = true) (q : ∀ q H' ss, Mv [d1, d2] H H' -> H q = none -> ss.Perm (bI m n) -> va ss -> cw H' q (ss.map PyData.str) -> dO C H' v d1 d2 (aW m ss) (aW ms ss) -> Q (.ref q) H') : iB (sR C cN) [v, .str n] H Q E := ⟨v, d1, d2, m, ms, n, rfl, h, fun hk => (by rw [hk] at hn; cases hn), fun _ => ⟨hm, q⟩⟩
theorem DY (T : Txt K mg a) : bH P w K mg base (qA P w) 9 a.b7 a.i9 ["self", "name"] (sR a.af a.ak) := by
 have n1 := T.az; have n2 := T.aA; have cl := T.aq
 have mE := T.cg; have w6 := T.hU
 have mL := gC (P := P) (w := w) (base := base) T
 have xl := sQ (P := P) (w := w) (base := base) T
 refine T.gq.Ft fH (fun vs H Q E h => ?_) (fun cV A outer s H vs Q E hr h => ?_)
 . obtain ⟨_, _, _, _, _, _, rfl, _⟩ := h; rfl
 . obtain ⟨v, d1, d2, m, ms, n, rfl, hg, qN, qY⟩ := h
   have hi := hg.ins
   refine ⟨_, (ax (bq (i := 2) fH.nd rfl (Or.inl rfl) (fw (pv 0) cl mE mL (hr.mono (by decide)) nN (ag (pv 1) ao)))
    (ax (PS.y3 (lI PassesOwn.never rfl (jz (pv 2)) (cU (i := 3) fH.nd rfl (Or.inl rfl))
     (ax (bo (aL (pv 0) cl w6 xl (hr.mono (by decide)) (ag (pv 3) ao)))
     (aw (bo (qS PySem.F.plainAttrs_dict PySem.F.slot_dict_pop PySem.F.type_dict_pop oA (dF (pv 0) rfl) (ag (pv 3) ao)))))))
    (aw (bh (pv 2))))), ?_⟩
   repeat' (walk_at "rd1")
   refine ⟨v, d1, d2, m, ms, n, rfl, hg, qN, fun hs => ?_⟩
   obtain ⟨hm, q⟩ := qY hs
   refine ⟨hm, fun p1 H1 ss m9 uE nr Ce uC => ?_⟩
   repeat' (walk_at "rd1")
   have ne1 : p1 ≠ d1 := Ne.symm (hg.ab.ne uE)
   have ne2 : p1 ≠ d2 := Ne.symm (hg.iH.ne uE)
   have Du : ss.Nodup := nr.nodup_iff.mpr (hm.nd.filter _)
   have zC := hg.keeps m9
   refine w9 (Hb := H1) (cs := ss) (gd := PyData.str) uC.dv (fun j σ' H' => ∃ z, σ' = [some v, some (.str n), some (.ref p1), z] /\ Mv [d1, d2] H1 H' /\ dO a.af H' v d1 d2 (aW m (ss.take j)) (aW ms (ss.take j))) ⟨_, rfl, Mv.refl, zC⟩ (fun i σ' H' _ ⟨_, _, mv, _⟩ a' xs e hx => by cases e; exact mv.sq (by simp [ne1, ne2]) hx) ?_ ?_
   . rintro j x v' σ' H' hj ⟨z, rfl, mv, AB⟩ hI hS
     obtain rfl := (hI rfl (fun b xs e => mv.tp b xs e)).str_inv
     have BP : x ∈ ss := List.mem_of_getElem? hj
     have JM : x ∈ m.map (·.1) := (List.mem_filter.mp (nr.mem_iff.mp BP)).1
     have Gk : x ∉ ss.take j := fun hh => by
      have zO := (List.getElem?_eq_some_iff.mp hj).1
      obtain ⟨i, hi, e⟩ := List.getElem_of_mem hh
      rw [List.getElem_take] at e
      have kP : i < j := by rw [List.length_take] at hi; omega
      have := (List.pairwise_iff_getElem.mp (List.nodup_iff_pairwise_ne.mp Du)) i j (by omega) zO kP
      exact this (e.trans (List.getElem?_eq_some_iff.mp hj).2.symm)
     have Ql : (bK (aW m (ss.take j)) x).isSome = true := by rw [dG, if_neg Gk]; exact cQ JM
     obtain ⟨d, hd⟩ := Option.isSome_iff_exists.mp Ql
     have yZ := AB.ins
     repeat' (walk_at "rd1")
     rename_i H2 kF uG
     have Cm := uG.ab
     have Fs := uG.ins
     repeat' (walk_at "rd1")
     rename_i v3 H3 Fu Ro
     refine ⟨_, rfl, (mv.step kF (by simp)).step Fu (by simp), ?_⟩
     rw [List.take_add_one, hj]
     show dO _ H3 v d1 d2 (aW m (ss.take j ++ [x])) (aW ms (ss.take j ++ [x]))
     rw [lL, lL]
     exact ⟨iP Fs Cm Fu, Ro, uG.iH.mv Fu (by simpa using Ne.symm hg.ne), hg.ne⟩
   . rintro σ' H' ⟨z, rfl, mv, AB⟩
     rw [List.take_of_length_le (Nat.le_refl _)] at AB
     repeat' (walk_at "rd1")
     exact q _ _ ss ((m9.mv (S := [d1, d2])).trans mv) uE nr Ce (uC.mv mv (by simp [ne1, ne2])) AB
theorem ur (T : Txt K mg a) : mF P w K mg base 9 a.b7 ["self", "name"] [] (sR a.af a.ak) :=
 ⟨⟨_, _, DY T, T.gq.binds fun _ _ _ _ _ _ => .all fun us hl => match us, hl with | [_, _], _ => rfl, .nil⟩⟩
def xZ (m : List (Str × PyData)) (k : Str) : Int := ((pK 60 m k).length : Nat)
def Hc (m : List (Str × PyData)) (ss : List Str) : Prop := ss.Perm (m.map (·.1)) /\ ss.Pairwise fun c d => d6 (xZ m d, d) (xZ m c, c) = false
abbrev iF (H : Hp) (P : Addr) : Prop := TabAt H P j3 kr
theorem dO.NM {C P : Addr} {H H' : Hp} {v : V} {d1 d2 : Addr} {m ms : List (Str × PyData)} {pos : Pos} {q : Str} (h : dO C H v d1 d2 m ms) (t : TabAt H P pos q) (mv : Mv [P] H H') : dO C H' v d1 d2 m ms := ⟨t.HN h.ins mv, t.Oa h.ab mv, t.Oa h.iH mv, h.ne⟩
def sT (C P : Addr) : Sp := fun vs H Q _ => ∃ v d1 d2 m ms, vs = [v] /\ dO C H v d1 d2 m ms /\ kU m /\ iF H P /\ ∀ q H' ss, Mv [P] H H' -> iF H' P -> H q = none -> Hc m ss -> cw H' q (ss.map PyData.str) -> Q (.ref q) H'
theorem Ij {C P : Addr} {H : Hp} {Q : VK} {E : XK} {v : V} {d1 d2 : Addr} {m ms : List (Str × PyData)} (h : dO C H v d1 d2 m ms) (hm : kU m) (ht : iF H P) (q : ∀ q H' ss, Mv [P] H H' -> iF H' P -> H q = none -> Hc m ss -> cw H' q (ss.map PyData.str) -> Q (.ref q) H') : sT C P [v] H Q E := ⟨v, d1, d2, m, ms, rfl, h, hm, ht, q⟩
theorem E8 (T : Txt K mg a) (hB : Bs K mg base) : bH P w K mg base jR 11 a.aV a.dJ ["self"] (sT a.af a.ai) := by
 have n1 := T.az; have n2 := T.aA; have cl := T.aq
 have ju := T.dj
 have jm := nM (P := P) (w := w) (base := base) T
 refine T.ei.RF kd (fun vs H Q E h => ?_) (fun A outer s H vs Q E hr h => ?_)
 . obtain ⟨_, _, _, _, _, rfl, _⟩ := h; rfl
 . obtain ⟨v, d1, d2, m, ms, rfl, hg, hm, ht, q⟩ := h
   have hi := hg.ins
   have Ki := hm.len
   refine ⟨_, (aw (bh (uY (k := 7) rfl (Ep (j := 0) ⟨rfl, rfl, rfl, by decide +kernel, rfl, rfl, by decide +kernel⟩ ⟨a.bX, T.bW.e, PySem.W.codeHd_of_K hB.k T.bW.cd⟩ hB.b rfl (fun _ _ _ _ _ _ _ _ => rfl) rfl rfl rfl rfl) (hr.mono (by decide)) rfl T.c6 (ag (dF (pv 0) rfl) ao) (fun _ _ _ _ _ _ hr => (tT (ag (aL (pv 1) cl ju jm (hr.mono (by decide)) (ag (pv 0) ao)) (ag (pv 0) ao))))))), ?_⟩
   repeat' (walk_at "rd1")
   refine uX ?_
   repeat' (walk_at "rd1")
   refine ⟨ht, fun H2 kF PU => ?_⟩
   have uG := hg.NM ht kF
   refine xY (fun x => (xZ m x, x)) uG.ab (by omega) (fun x hx H' sm => ?_) (fun q5 H5 ss w5 Ha nr Ju Ri => ?_)
   . obtain ⟨c, hc, fN⟩ := hm.ch x (cQ hx)
     have pQ := (uG.keeps sm).rd
     have OG := pQ.ins
     have e : xZ m x = (c.length : Nat) := by unfold xZ; rw [hc.fn fN]
     refine BE ?_
     repeat' (walk_at "rd1")
     exact ⟨by walk_at "same", by rw [e]; assumption⟩
   . exact q _ _ ss (kF.i7 w5) (PU.keeps w5) (kF.none Ha) ⟨nr, Ju⟩ Ri
theorem Bg (T : Txt K mg a) (hB : Bs K mg base) : mO P w K mg base 11 a.aV ["self"] [] (sT a.af a.ai) :=
 ⟨⟨_, _, E8 T hB, T.ei.binds fun _ _ _ _ _ _ => .all fun us hl => match us, hl with | [_], _ => rfl, .nil⟩⟩
theorem yC {X : Cx} {k : Nat} {f C : Addr} {ps : List Str} {sp : Sp} {bA : List V} {x : Str} {p pos : Pos} (M : Mk X.K C f) (F : mO X.prog X.w X.K X.mg X.base k f ps bA sp) (hr : aU (k + 1) X.A) (hg : Gl X x) (hm : X.mg x = some (.ref C))
 (o4 : (x == ("__debug__" : Str)) = false := by decide) : PE X (.Call (.Name x p) [] [] pos) (oJ C sp bA E0 rz) := by
 rw [uJ]
 obtain ⟨fd, ds, F, hb, hd⟩ := F.ex
 exact xR M F hr hg hm hb hd uy o4
def jU (C : Addr) : Sp := fun vs H Q _ => ∃ p dx, vs = [.ref p] /\ H p = some (.ins C dx []) /\ ∀ H' d1 d2, Mv [p] H H' -> H d1 = none -> H d2 = none -> dO C H' (.ref p) d1 d2 [] [] -> Q .aP H'
theorem xA (T : Txt K mg a) : bH P w K mg base jR 1 a.aQ a.eU ["self"] (jU a.af) := by
 have n1 := T.az; have n2 := T.aA; have cl := T.aq
 refine T.du.ok jl (fun vs H Q E h => ?_) (fun cV A outer s H vs Q E hr h => ?_)
 . obtain ⟨_, _, rfl, _⟩ := h; rfl
 . obtain ⟨p, dx, rfl, hp, q⟩ := h
   refine ⟨_, (ax (yO (pv 0) mK rfl)
    (aw (yO (pv 0) mK rfl))), ?_⟩
   repeat' (walk_at "rd1")
   rename_i d1 H1 m9 uE Cm d2 H2 jb y7 hd2
   have e1 := m9 _ _ hp
   have Ds : Mv [p] H1 (upd H1 p (.ins a.af dx [("above_of", .ref d1)])) := .eP e1 (by intro _ z; cases z)
   have e2 := jb p _ aj
   have kF : Mv [p] H2 (upd H2 p (.ins a.af dx [("above_of", .ref d1), ("marks", .ref d2)])) := .eP e2 (by intro _ z; cases z)
   have Fu := ((m9.mv (S := [p])).trans Ds).trans ((jb.mv (S := [p])).trans kF)
   have uC : d1 ≠ p := Ne.symm (ay hp uE)
   have Kj : ic H2 d1 [] := (Cm.mv Ds (by simpa using uC)).keeps jb
   have HK : H d2 = none := ((m9.mv (S := [p])).trans Ds).none y7
   have IZ : d2 ≠ p := Ne.symm (ay hp HK)
   exact q _ d1 d2 Fu uE HK ⟨⟨p, dx, rfl, aj⟩, Kj.mv kF (by simpa using uC), hd2.mv kF (by simpa using IZ), (Cm.mv Ds (by simpa using uC)).ne y7⟩
theorem uT (T : Txt K mg a) : mO P w K mg base 1 a.aQ ["self"] [] (jU a.af) :=
 ⟨⟨_, _, xA T, T.du.binds fun _ _ _ _ _ _ => .all fun us hl => match us, hl with | [_], _ => rfl, .nil⟩⟩
theorem zX {C : Addr} {H : Hp} {Q : VK} {E : XK} (k : ∀ v H2 d1 d2, au H H2 -> H d1 = none -> H d2 = none -> dO C H2 v d1 d2 [] [] -> Q v H2) : qD C (jU C) [] H Q E := by
 refine ⟨[], rfl, fun x dx hx hd ne => ⟨x, dx, rfl, aj, fun H' d1 d2 mv h1 h2 hg => ⟨rfl, ?_⟩⟩⟩
 have z : ∀ {d : Addr}, upd (upd H dx (.own x)) x (.ins C dx []) d = none -> H d = none := by
  intro d h
  unfold upd at h
  split at h
  . cases h
  . split at h
    . cases h
    . exact h
 refine k _ _ d1 d2 (fun b u e => ?_) (z h1) (z h2) hg
 have hb : b ≠ x := ay e hx
 refine mv.kp b u (by simpa using hb) ?_
 rw [ah hb, ah (ay e hd)]
 exact e
def oi (s : Str) : Prop := s.length <= 100 /\ ∀ c ∈ s.cps.toList, c < 0x110000
theorem Bb {s : Str} (h : oi s) : PyData.canLay0 (.str s) = true := by
 show s.cps.all (· < 0x110000) = true
 rw [Array.all_eq_true']
 intro c hc
 exact decide_eq_true (h.2 c (by simpa using hc))
theorem mn : ∀ {ss : List Str}, (∀ x ∈ ss, oi x) -> PyData.canLayAll0 (ss.map PyData.str) = true
 | [], _ => rfl
 | x :: r, h => by
   simp only [List.map_cons, PyData.canLayAll0, Bb (h x List.mem_cons_self), Bool.true_and]
   exact mn fun y hy => h y (List.mem_cons_of_mem _ hy)
theorem kj : ∀ ws : List Str, PyData.depthAll (ws.map PyData.str) <= 1
 | [] => by simp [PyData.depthAll]
 | _ :: r => by have := kj r; simp only [List.map_cons, PyData.depthAll, PyData.depth]; omega
theorem j4 {K : PySem.W.Frag} {H : Hp} {Q : VK} {f : Bool -> Bool} {x y : V} {ss : List Str} (h1 : Dv H x (.list (ss.map PyData.str))) (h2 : Dv H y (.list (ss.map PyData.str))) (hs : ∀ x ∈ ss, oi x) (h : Q (.bl (f true)) H) : qR K f x y H Q := by
 have hl : PyData.canLay0 (.list (ss.map PyData.str)) = true := by rw [PyData.canLay0]; exact mn hs
 refine xi h1 h2 hl hl ?_ (by rw [PySem.SeqAt.eqv_refl _ hl]; exact h)
 have := kj ss
 rw [PyData.depth]; omega
theorem pP {K : PySem.W.Frag} {H : Hp} {Q : VK} {f : Bool -> Bool} {x y : V} {ss : List Str} (h1 : Dv H x (.list (ss.map PyData.str))) (h2 : Dv H y (.list [])) (hs : ∀ x ∈ ss, oi x) (h : Q (.bl (f ss.isEmpty)) H) : qR K f x y H Q := by
 have e : PyData.eqv (.list (ss.map PyData.str)) (.list []) = ss.isEmpty := by cases ss <;> rfl
 refine xi h1 h2 (by rw [PyData.canLay0]; exact mn hs) rfl ?_ (by rw [e]; exact h)
 have := kj ss
 rw [PyData.depth]; omega
theorem um {x y : Str} (h : x.cps = y.cps) : x = y := by cases x; cases y; simp at h; rw [h]
theorem gy (x y : Str) : (x ++ y).cps = x.cps ++ y.cps := rfl
theorem E7 {K : PySem.W.Frag} {H : Hp} {Q : VK} {i : Int} (h0 : 0 <= i) (h1 : i < 26) (h : Q (.str ⟨#[97 + i.toNat]⟩) H) : sF K (.str "abcdefghijklmnopqrstuvwxyz") (.int i) H Q := by
 obtain ⟨m, rfl⟩ := Int.eq_ofNat_of_zero_le h0
 have hm : m < 26 := by omega
 have e : (Str.cps "abcdefghijklmnopqrstuvwxyz").toList[m]? = some (97 + m) := by
  have z : ∀ m < 26, (Str.cps "abcdefghijklmnopqrstuvwxyz").toList[m]? = some (97 + m) := by decide
  exact z m hm
 exact Fn (by decide) (lb e) h
theorem pM {z : Str} (hz : z.cps.size = 1) {n : Int} (h0 : 0 <= n) (h1 : n <= 6) : (jK z n).length = n.toNat /\ ∀ c ∈ (jK z n).cps.toList, c ∈ z.cps.toList := by
 obtain ⟨⟨l⟩⟩ := z
 match l, hz with
 | [c], _ =>
   have : n = 0 \/ n = 1 \/ n = 2 \/ n = 3 \/ n = 4 \/ n = 5 \/ n = 6 := by omega
   rcases this with rfl | rfl | rfl | rfl | rfl | rfl | rfl <;> exact ⟨rfl, by simp [jK, Str.empty, Str.length]⟩
theorem EH {z : Str} {H : Hp} {Q : VK} {n : Int} (hz : z.cps.size = 1) (h0 : 0 <= n) (h1 : n <= 6) (h : (jK z n).length <= 20 -> Q (.str (jK z n)) H) : yg (.str z) (.int n) H Q :=
 have e := (pM hz h0 h1).1
 CQ h0 (by omega) (by show z.cps.size <= 10; omega) (by omega) (h (by omega))
theorem EF {i j : Str} {H : Hp} {Q : VK} (h1 : i.length <= 100) (h2 : j.length <= 100) (h : Q (.str (i ++ j)) H) : yQ (.str i) (.str j) H Q := xn (by omega) h
theorem len_one {c : Nat} : (⟨#[c]⟩ : Str).length <= 20 := by show 1 <= 20; omega
theorem len_app {i j : Str} {n m : Nat} (h1 : i.length <= n) (h2 : j.length <= m) : (i ++ j).length <= n + m := by
 have : (i ++ j).length = i.length + j.length := by show (i ++ j).cps.size = _; rw [gy, Array.size_append]; rfl
 omega
theorem DW {i : Str} (h : i.length <= 20) : i.length <= 100 := by omega
set_option hygiene false in
local macro_rules | `(tactic| walk_at "sl1") => `(tactic| first
 | exact len_one
 | assumption
 | fail)
set_option hygiene false in
local macro_rules | `(tactic| walk_at "sl") => `(tactic| first
 | (refine DW ?_; walk_at "sl1")
 | (refine Nat.le_trans (len_app (n := 20) (m := 20) ?_ ?_) (by decide) <;> walk_at "sl1")
 | fail)
local macro_rules | `(tactic| walk_at "rd1") => `(tactic| first
 | ((with_reducible refine' E7 ?e1 ?e2 ?_); (case e1 => omega); (case e2 => omega))
 | ((with_reducible refine' EH ?e1 ?e2 ?e3 (fun _ => ?_)); (case e1 => exact rfl); (case e2 => omega); (case e3 => omega))
 | ((with_reducible refine' EF ?e1 ?e2 ?_); (case e1 => walk_at "sl"); (case e2 => walk_at "sl"))
 | fail)
def sG (ts : List Addr) (K : PySem.W.Frag) : Sp := fun vs H Q _ => ∃ (l : Addr) (ns : List Int), vs = [.ref l] /\ dY K H l (ns.map V.int) /\ ns.length <= 63 /\ (∀ b ∈ ts, H b = some (.ia #[])) /\ ∀ H', Q (.bl true) H'
theorem uN (T : Txt K mg a) (s : Shared) (u : Value) : BindsTo s a.oo ⟨[u], []⟩ [("_law_script", u)] := by
 obtain ⟨oc, od, kV, doc, pm, an, cV, ct, qW, e, lk, kX⟩ := T.vY.ex
 rw [e]
 exact .of_eq rfl
theorem mH (T : Txt K mg a) : bH P w K mg base jR 1 a.bj a.gY ["_law_script", "_law_k"] (q4 K) := by
 refine T.eV.ok la (fun vs H Q E h => ?_) (fun cV A outer s H vs Q E hr h => ?_)
 . obtain ⟨_, _, _, rfl, _⟩ := h; rfl
 . obtain ⟨l, ns, i, rfl, hl, h0, k⟩ := h
   refine ⟨_, (ax (cR (aS Hn (pv 1) (bM c5 rfl T.eW PySem.boot_len (ag (pv 0) ao)) (bb _))
    (aw (bh (dR jB (pv 0) (pv 1) (fun _ _ => rfl))))
    aZ)
    (aw (bh aB))), ?_⟩
   repeat' (walk_at "rd1")
   . exact Ie hl (Ar h0 (by assumption)) k
   . rw [BH h0 (by assumption)] at k; exact k
theorem kT (T : Txt K mg a) : mO P w K mg base 1 a.bj ["_law_script", "_law_k"] [] (q4 K) :=
 ⟨⟨_, _, mH T, T.eV.binds fun _ _ _ _ _ _ => .all fun us hl => match us, hl with | [_, _], _ => rfl, .nil⟩⟩
local macro_rules | `(tactic| walk_at "use") => `(tactic| first
 | ((with_reducible refine' DR ?e1 ?e2 ?_); (case e1 => walk_at "sql"); (case e2 => omega))
 | fail)
theorem AW {K : PySem.W.Frag} {H : Hp} {Q : VK} {v : V} {ss : List Str} {i : Int} (hp : Dv H v (.list (ss.map PyData.str))) (h0 : i = -1 /\ ss ≠ [] \/ 0 <= i /\ i < ss.length) (h : ∀ n ∈ ss, Q (.str n) H) : sF K v (.int i) H Q := by
 rcases h0 with ⟨rfl, h0⟩ | ⟨h0, h1⟩
 . rw [<- List.dropLast_concat_getLast h0] at hp
   refine qC (.inr hp) (d := .str (ss.getLast h0)) (by rw [List.map_append]; exact pD _ _) (lq (h _ (List.getLast_mem h0)))
 . obtain ⟨m, rfl⟩ := Int.eq_ofNat_of_zero_le h0
   have hi : m < ss.length := by omega
   have e : m6 (ss.map PyData.str) (m : Int) = some (.str ss[m]) := lb (by rw [List.getElem?_map, List.getElem?_eq_getElem hi]; rfl)
   exact qC (.inr hp) e (lq (h _ (List.getElem_mem hi)))
theorem getD_mem {ss : List Str} {i : Nat} (h : i < ss.length) : ss.getD i default ∈ ss := by
 rw [List.getD_eq_getElem?_getD, List.getElem?_eq_getElem h]
 exact List.getElem_mem h
theorem jL {ms : List (Str × PyData)} {k : Str} : kW ms k = ms.any fun kv => decide (kv.1 = k) := by
 unfold kW bK
 rw [Option.isSome_map]
 induction ms with
 | nil => rfl
 | cons x r ih =>
   rw [List.find?_cons, List.any_cons]
   by_cases e : x.1 = k
   . simp [e]
   . simp only [e, decide_false, Bool.false_or]; exact ih
theorem zR {ms : List (Str × PyData)} {n k : Str} {d : PyData} : kW (putD ms n d) k = (kW ms k || decide (k = n)) := by
 rw [jL, jL]
 unfold putD
 by_cases h : (ms.any fun kv => decide (kv.1 = n)) = true
 . rw [if_pos h, List.any_map]
   by_cases e : k = n
   . subst e
     rw [h]
     simp only [Bool.true_or]
     rw [List.any_eq_true] at h ⊢
     obtain ⟨x, hx, e⟩ := h
     have e' : x.1 = k := by simpa using e
     exact ⟨x, hx, by simp [e']⟩
   . simp only [e, decide_false, Bool.or_false]
     congr 1
     funext x
     simp only [Function.comp]
     split <;> rfl
 . rw [if_neg h, List.any_append]
   congr 1
   simp [eq_comm]
theorem yh {ms : List (Str × PyData)} {n k : Str} : kW (dB ms n) k = (kW ms k && !decide (k = n)) := by
 rw [jL, jL]
 unfold dB
 induction ms with
 | nil => rfl
 | cons x r ih =>
   rw [List.filter_cons, List.any_cons]
   by_cases h : x.1 = n
   . by_cases e : k = n
     . subst e; simp [h] at ih ⊢
     . have : ¬ n = k := fun z => e z.symm
       simp only [h, ne_eq, not_true, decide_false, Bool.false_eq_true, if_false, ih, this, Bool.false_or]
   . by_cases e : x.1 = k
     . have : ¬ k = n := fun z => h (e.trans z)
       simp [h, e, this]
     . simp only [h, e, ne_eq, not_false_eq_true, decide_true, if_true, List.any_cons, ih, decide_false, Bool.false_or]
theorem dO.Gp {C : Addr} {H H' : Hp} {v : V} {d1 d2 q : Addr} {m ms : List (Str × PyData)} {ds : List PyData} (h : dO C H v d1 d2 m ms) (hq : cw H q ds) (mv : Mv [q] H H') : dO C H' v d1 d2 m ms := by
 refine ⟨?_, h.ab.mv mv (by simpa using h.ab.rC hq), h.iH.mv mv (by simpa using h.iH.rC hq), h.ne⟩
 obtain ⟨p, dx, rfl, e⟩ := h.ins
 obtain ⟨xs, e2, _⟩ := hq
 exact ⟨p, dx, rfl, mv.at (by simpa using et e e2 (by intro z; cases z)) e⟩
theorem t6 {m : List (Str × PyData)} {n k : Str} {d e : PyData} (h : bK m n = some e) : bK (m ++ [(k, d)]) n = some e := by
 unfold bK at h ⊢
 rw [List.find?_append]
 cases hf : m.find? (fun kv => decide (kv.1 = n)) with
 | none => rw [hf] at h; cases h
 | some x => rw [hf] at h; exact h
theorem eG {m : List (Str × PyData)} {k : Str} {d : PyData} (h : bK m k = none) : bK (m ++ [(k, d)]) k = some d := by
 unfold bK at h ⊢
 rw [List.find?_append]
 rw [Option.map_eq_none_iff] at h
 rw [h]
 simp
theorem Chain.app {m : List (Str × PyData)} {n k : Str} {d : PyData} {c : List Str} (h : Chain m n c) : Chain (m ++ [(k, d)]) n c := by
 induction h with
 | top e => exact .top (t6 e)
 | up e _ ih => exact .up (t6 e) ih
theorem jF {m : List (Str × PyData)} {n : Str} (h : n ∉ m.map (·.1)) : bK m n = none := by
 unfold bK
 rw [Option.map_eq_none_iff, List.find?_eq_none]
 intro x hx
 have : x.1 ≠ n := fun e => h (List.mem_map.mpr ⟨x, hx, e⟩)
 simpa using this
structure vi (nm : Int -> Str) (m : List (Str × PyData)) : Prop where
 nm : ∀ (i : Nat) x, m[i]? = some x -> x.1 = nm i
 ch : ∀ n ∈ m.map (·.1), ∃ c, Chain m n c /\ c.length <= 8
 top : ∀ x, m[0]? = some x -> x.2 = .none
 len : m.length <= 40
structure zk (nm : Int -> Str) : Prop where
 inj : ∀ {k j : Int}, 0 <= k -> k < 41 -> 0 <= j -> j < 41 -> nm k = nm j -> k = j
 ok : ∀ {k : Int}, 0 <= k -> k < 41 -> oi (nm k)
theorem vi.nil {nm : Int -> Str} : vi nm [] := ⟨fun i x h => by simp at h, fun n h => by simp at h, fun x h => by simp at h, Nat.zero_le _⟩
theorem vi.nd {nm : Int -> Str} {m : List (Str × PyData)} (h : vi nm m) (hn : zk nm) : (m.map (·.1)).Nodup := by
 rw [List.nodup_iff_pairwise_ne, List.pairwise_iff_getElem]
 intro i j hi hj kP e
 rw [List.length_map] at hi hj
 rw [List.getElem_map, List.getElem_map, h.nm i _ (List.getElem?_eq_getElem hi), h.nm j _ (List.getElem?_eq_getElem hj)] at e
 have := h.len
 have := hn.inj (by omega) (by omega) (by omega) (by omega) e
 omega
theorem vi.Il {nm : Int -> Str} {m : List (Str × PyData)} (h : vi nm m) (hn : zk nm) : kU m := by
 refine ⟨fun n hs => ?_, h.nd hn, by have := h.len; omega⟩
 have : n ∈ m.map (·.1) := by
  rcases Classical.em (n ∈ m.map (·.1)) with z | z
  . exact z
  . rw [jF z] at hs; cases hs
 obtain ⟨c, hc, hl⟩ := h.ch n this
 exact ⟨c, hc, by omega⟩
theorem vi.fresh {nm : Int -> Str} {m : List (Str × PyData)} (h : vi nm m) (hn : zk nm) : bK m (nm m.length) = none := by
 refine jF fun hx => ?_
 obtain ⟨y, hy, e⟩ := List.mem_map.mp hx
 obtain ⟨i, hi, e2⟩ := List.getElem_of_mem hy
 have := h.nm i y (by rw [List.getElem?_eq_getElem hi, e2])
 rw [this] at e
 have hl := h.len
 have := hn.inj (by omega) (by omega) (by omega) (by omega) e
 omega
theorem vi.snoc {nm : Int -> Str} {m : List (Str × PyData)} {x : V} {d : PyData} (h : vi nm m) (hn : zk nm) (hl : m.length < 40) (ha : qo m x d) : vi nm (m ++ [(nm m.length, d)]) := by
 have hf := h.fresh hn
 refine ⟨fun i y hy => ?_, fun n hn => ?_, fun y hy => ?_, by rw [List.length_append]; simp; omega⟩
 . by_cases hi : i < m.length
   . rw [List.getElem?_append_left hi] at hy
     exact h.nm i y hy
   . rw [List.getElem?_append_right (by omega)] at hy
     have Fs : i - m.length = 0 := by
      have := (List.getElem?_eq_some_iff.mp hy).1
      simp at this
      omega
     rw [Fs] at hy
     simp at hy
     subst hy
     show nm m.length = nm i
     congr 1
     omega
 . rw [List.map_append, List.mem_append] at hn
   rcases hn with hn | hn
   . obtain ⟨c, hc, hl⟩ := h.ch n hn
     exact ⟨c, hc.app, hl⟩
   . have : n = nm m.length := by simpa using hn
     subst this
     rcases ha with ⟨_, rfl⟩ | ⟨b, c, _, rfl, hc, fN⟩
     . exact ⟨_, .top (eG hf), by simp⟩
     . exact ⟨_, .up (eG hf) hc.app, by simp; omega⟩
 . cases m with
   | nil =>
     rcases ha with ⟨_, rfl⟩ | ⟨b, c, _, rfl, hc, fN⟩
     . simp at hy; rw [<- hy]
     . have := hc.has
       simp [bK] at this
   | cons z r => exact h.top y (by simpa using hy)
theorem vi.first {nm : Int -> Str} {z : Str × PyData} {r : List (Str × PyData)} (h : vi nm (z :: r)) : Chain (z :: r) z.1 [z.1] := by
 refine .top ?_
 have := h.top z (by simp)
 unfold bK
 simp [this]
theorem xD {C : Addr} {H : Hp} {Q : VK} {E : XK} {us : List V} (e : us = []) (k : ∀ v H2 d1 d2, au H H2 -> H d1 = none -> H d2 = none -> dO C H2 v d1 d2 [] [] -> Q v H2) : qD C (jU C) us H Q E := by subst e; exact zX k
set_option hygiene false in
local macro_rules | `(tactic| walk_at "rd1") => `(tactic| first
 | with_reducible refine xD rfl (fun _ _ _ _ _ _ _ _ => ?_)
 | fail)
local macro_rules | `(tactic| walk_at "mvS") => `(tactic| first
 | assumption
 | (refine' Mv.i7 ?m ?s; (case s => assumption); (case m => walk_at "mvS"))
 | (refine' Mv.step ?m ?s ?k; (case s => assumption); (case m => walk_at "mvS"); (case k => (intro b hb; rw [List.mem_singleton.mp hb]; exact Or.inl (by simp))))
 | fail)
theorem x8 {K : PySem.W.Frag} {H : Hp} {Q : VK} {p : Addr} {ds : List PyData} {x : Str} (hp : cw H p (ds ++ [.str x])) (h : Q (.str x) H) : sF K (.ref p) (.int (-1)) H Q := qC (.inr hp.dv) (pD _ _) (lq h)
local macro_rules | `(tactic| walk_at "gat") => `(tactic| first
 | (refine' dO.Gp ?m ?l ?s; (case s => assumption); (case m => walk_at "gat"); (case l => walk_at "lat"))
 | fail)
local macro_rules | `(tactic| walk_at "ins") => `(tactic| first
 | (refine' dO.ins (d1 := _) (d2 := _) (m := _) (ms := _) ?m; (case m => walk_at "gat"))
 | fail)
set_option hygiene false in
local macro_rules | `(tactic| walk_at "abok") => `(tactic| first
 | exact Or.inl ⟨rfl, rfl⟩
 | exact Or.inr ⟨_, _, rfl, rfl, by assumption, by first | omega | simp⟩
 | fail)
local macro_rules | `(tactic| walk_at "rd1") => `(tactic| first
 | ((with_reducible refine' x8 ?e1 ?_); (case e1 => walk_at "lat"))
 | fail)
def jX (k s : Int) : Str := if s % 2 = 0 then (⟨#[97 + k.toNat]⟩ ++ jK "e" (s / 2 % 7)) ++ ⟨#[97 + (s / 14 % 26).toNat]⟩ else (⟨#[97 + (s / 14 % 26).toNat]⟩ ++ jK "e" (s / 2 % 7)) ++ ⟨#[97 + (25 - k).toNat]⟩
theorem AI {k j s : Int} (k0 : 0 <= k) (k1 : k < 21) (j0 : 0 <= j) (j1 : j < 21) (h : jX k s = jX j s) : k = j := by
 unfold jX at h
 have h2 := congrArg (fun x : Str => x.cps.toList) h
 split at h2
 . simp only [gy, Array.toList_append, List.append_assoc, List.cons_append, List.nil_append, List.cons.injEq] at h2
   obtain ⟨h3, _⟩ := h2
   omega
 . simp only [gy, Array.toList_append, List.append_assoc] at h2
   have := List.append_cancel_left (List.append_cancel_left h2)
   simp at this
   omega
theorem ym {k s : Int} (k0 : 0 <= k) (k1 : k < 21) : oi (jX k s) := by
 have h1 := Int.emod_nonneg (s / 2) (show (7 : Int) ≠ 0 by decide)
 have h2 := Int.emod_lt_of_pos (s / 2) (show (0 : Int) < 7 by decide)
 have h3 := Int.emod_nonneg (s / 14) (show (26 : Int) ≠ 0 by decide)
 have h4 := Int.emod_lt_of_pos (s / 14) (show (0 : Int) < 26 by decide)
 obtain ⟨hl, hm⟩ := pM (z := "e") rfl h1 (by omega)
 have JX : (jK "e" (s / 2 % 7)).cps.size = (s / 2 % 7).toNat := hl
 have N2 : ∀ c ∈ (jK "e" (s / 2 % 7)).cps.toList, c < 0x110000 := fun c hc => by
  have := hm c hc
  have e : (Str.cps "e").toList = [101] := rfl
  rw [e] at this
  simp at this
  omega
 unfold jX
 split
 . refine ⟨?_, fun c hc => ?_⟩
   . show (_ : Str).cps.size <= _
     simp only [gy, Array.size_append, JX]
     simp
     omega
   . simp only [gy, Array.toList_append, List.mem_append] at hc
     rcases hc with (hc | hc) | hc
     . simp at hc; omega
     . exact N2 c hc
     . simp at hc; omega
 . refine ⟨?_, fun c hc => ?_⟩
   . show (_ : Str).cps.size <= _
     simp only [gy, Array.size_append, JX]
     simp
     omega
   . simp only [gy, Array.toList_append, List.mem_append] at hc
     rcases hc with (hc | hc) | hc
     . simp at hc; omega
     . exact N2 c hc
     . simp at hc; omega
theorem oi.nm {x : Str} (h : oi x) : nA x := ⟨by have := h.1; omega, h.2⟩
def mD : Sp := fun vs H Q _ => ∃ k s, vs = [.int k, .int s] /\ 0 <= k /\ k < 21 /\ Q (.str (jX k s)) H
theorem AG {H : Hp} {Q : VK} {E : XK} {k s : Int} (h0 : 0 <= k) (h1 : k < 21) (q : Q (.str (jX k s)) H) : mD [.int k, .int s] H Q E := ⟨k, s, rfl, h0, h1, q⟩
theorem xf (T : Txt K mg a) : bH P w K mg base jR 1 a.bZ a.jI ["_law_k", "_law_style"] mD := by
 refine T.il.ok jx (fun vs H Q E h => ?_) (fun cV A outer s H vs Q E hr h => ?_)
 . obtain ⟨_, _, rfl, _⟩ := h; rfl
 . obtain ⟨k, s, rfl, h0, h1, q⟩ := h
   refine ⟨_, (ax (bq (i := 2) jx.nd rfl (Or.inl rfl) rm)
    (ax (cR (aS (gN hr.qX) (bp cF (pv 1) aB) aB (bb _))
     (aw (bh (bp lu (bp lu (dR jB (pv 2) (pv 0) (fun _ _ => rfl)) (bp tG rm (bp cF (bp cS (pv 1) aB) aB))) (dR jB (pv 2) (bp cF (bp cS (pv 1) aB) aB) (fun _ _ => rfl)))))
     aZ)
    (aw (bh (bp lu (bp lu (dR jB (pv 2) (bp cF (bp cS (pv 1) aB) aB) (fun _ _ => rfl)) (bp tG rm (bp cF (bp cS (pv 1) aB) aB))) (dR jB (pv 2) (bp D5 aB (pv 0)) (fun _ _ => rfl))))))), ?_⟩
   repeat' (walk_at "rd1")
   . unfold jX at q
     rw [if_pos (by assumption)] at q
     exact q
   . unfold jX at q
     rw [if_neg (by assumption)] at q
     exact q
theorem vb (T : Txt K mg a) : mO P w K mg base 1 a.bZ ["_law_k", "_law_style"] [] mD :=
 ⟨⟨_, _, xf T, T.il.binds fun _ _ _ _ _ _ => .all fun us hl => match us, hl with | [_, _], _ => rfl, .nil⟩⟩
theorem zv (T : Txt K mg a) : tP P w K mg base 1 a.bf a.fE ["self", "name"] (lT a.af) := by
 have n1 := T.az; have n2 := T.aA; have cl := T.aq
 refine T.dh.Px iZ (fun vs H Q E h => ?_) (fun cV A hh outer s H vs Q E hr h => ?_)
 . obtain ⟨_, _, _, _, _, _, rfl, _⟩ := h; rfl
 . obtain ⟨v, d1, d2, m, ms, n, rfl, hg, q⟩ := h
   have hi := hg.ins; have ha := hg.ab
   have hu : (A.deeper (PyProof.Rows.envOfC "Groups.has" (av eK) s.heap.objs.size a.bf cV)).units + 1 < cLine := i5 hr
   refine ⟨_, (aw (bh (rX (me (show _ from hu) (pv 1) (dF (pv 0) rfl)) rfl))), ?_⟩
   repeat' (walk_at "rd1")
   rename_i o e
   rw [e]
   exact q
theorem x9 (T : Txt K mg a) : Ir P w K mg base 1 a.bf ["self", "name"] [] (lT a.af) :=
 ⟨⟨_, _, zv T, T.dh.binds fun _ _ _ _ _ _ => .all fun us hl => match us, hl with | [_, _], _ => rfl, .nil⟩⟩
theorem ud {H : Hp} {d e : Addr} {x : Str} {o : HO} (hd : H d = none) (he : Xn H d x e = none) : au H (upd (Xn H d x) e o) := fun b u hb => by
 have h1 : b ≠ d := ay hb hd
 have h2 : b ≠ e := fun z => by
  subst z
  unfold Xn at he
  rw [ah h1, hb] at he
  cases he
 rw [ah h2]
 unfold Xn
 rw [ah h1]
 exact hb
theorem Em {D : Ends} {i : Option Nat} {σ : St} {H : Hp} (h : D.nx (wG σ i none) H) : (sD D i).nx σ H := h
theorem xB {D : Ends} {i : Option Nat} {v : V} {H : Hp} (h : D.rt v H) : (sD D i).rt v H := h
def oS (C : Addr) : Sp := fun vs H Q _ => ∃ v d1 d2 m ms n, vs = [v, .str n] /\ dO C H v d1 d2 m ms /\ bK m n = none /\ nA n /\ ∀ H', au H H' -> Q (.bl true) H'
theorem EB {C : Addr} {H : Hp} {Q : VK} {E : XK} {v : V} {d1 d2 : Addr} {m ms : List (Str × PyData)} {n : Str} (h : dO C H v d1 d2 m ms) (hk : bK m n = none) (hn : nA n) (q : ∀ H', au H H' -> Q (.bl true) H') : oS C [v, .str n] H Q E := ⟨v, d1, d2, m, ms, n, rfl, h, hk, hn, q⟩
theorem AV (T : Txt K mg a) : bH P w K mg base jR 11 a.bY a.jO ["_law_told", "_law_name_here"] (oS a.af) := by
 have cl := T.aq
 have gE := ur (P := P) (w := w) (base := base) T
 have aT := eM (P := P) (w := w) (base := base) T
 have mx := x9 (P := P) (w := w) (base := base) T
 refine T.iI.ok gp (fun vs H Q E h => ?_) (fun cV A outer s H vs Q E hr h => ?_)
 . obtain ⟨_, _, _, _, _, _, rfl, _⟩ := h; rfl
 . obtain ⟨v, d1, d2, m, ms, n, rfl, hg, hk, hn, q⟩ := h
   have hi := hg.ins
   refine ⟨_, (ax (uo (fun _ _ _ hP => (aw (bo (fw (pv 0) T.aq T.gO gE (hr.mono (by decide)) hP (ag (pv 1) ao)))))
    (aw (bh gW))
    (jH.cons (i := some 2) (uj rfl T.gg T.iO) (fun ae => (aw (cR (aS (Fg (K := K) rfl hr.qX) (qB (K := K) rfl (pv 2) rfl) (pv 1) (bb _))
     (aw (bh gW))
     aZ))) ⟨rfl, rfl⟩
    jH.nil) gp.nd rfl rfl rfl)
    (ax (uo (fun _ _ _ hP => (aw (bo (fw (pv 0) T.aq T.aI aT (hr.mono (by decide)) hP (ag (pv 1) ao)))))
     aZ
     (jH.cons (i := some 2) (uj rfl T.gg T.iO) (fun ae => (aw (bh (rJ (iN (De (K := K) rfl hr.qX) (qB (K := K) rfl (pv 2) rfl) (pv 1) (bb _)) (xu (iN xP (BQ (pv 0) T.aq T.gJ mx (aU.Qj (hr.mono (by decide))) (ag (pv 1) ao)) gW (bb _))))))) ⟨rfl, rfl⟩
     jH.nil) gp.nd rfl rfl rfl)
    (aw (bh gW)))), ?_⟩
   repeat' (walk_at "rd1")
   refine ⟨v, d1, d2, m, ms, n, rfl, hg, fun _ => ⟨hn, fun d' jY => ?_⟩, fun hs => by rw [hk] at hs; cases hs⟩
   refine ⟨_, rfl, .inl ⟨T.er, fun ae Cd => ?_⟩⟩
   have sm := ud (o := .ext (oI ae a.ak (some d'))) jY Cd
   have tq : d' ≠ ae := fun z => by subst z; unfold Xn at Cd; rw [aj] at Cd; cases Cd
   have ha : upd (Xn H d' n) ae (.ext (oI ae a.ak (some d'))) ae = some _ := aj
   have Oo : upd (Xn H d' n) ae (.ext (oI ae a.ak (some d'))) d' = some (.xd [("name", .str n)]) := by rw [ah tq]; exact aj
   generalize upd (Xn H d' n) ae (.ext (oI ae a.ak (some d'))) = HE at *
   repeat' (walk_at "rd1")
   refine tV ha T.eO Oo rfl ?_
   repeat' (walk_at "rd1")
   refine Em ?_
   have zC := hg.keeps sm
   have IL := zC.ins
   clear ha Oo Cd jY
   repeat' (walk_at "rd1")
   refine ⟨v, d1, d2, m, ms, n, rfl, zC.rd, fun _ => ⟨hn, fun Bo MA => ?_⟩, fun hs => by rw [hk] at hs; cases hs⟩
   refine ⟨_, rfl, .inl ⟨T.er, fun Aw BJ => ?_⟩⟩
   have jb := ud (o := .ext (oI Aw a.ak (some Bo))) MA BJ
   have KI : Bo ≠ Aw := fun z => by subst z; unfold Xn at BJ; rw [aj] at BJ; cases BJ
   have Qz : upd (Xn HE Bo n) Aw (.ext (oI Aw a.ak (some Bo))) Aw = some _ := aj
   have KY : upd (Xn HE Bo n) Aw (.ext (oI Aw a.ak (some Bo))) Bo = some (.xd [("name", .str n)]) := by rw [ah KI]; exact aj
   generalize upd (Xn HE Bo n) Aw (.ext (oI Aw a.ak (some Bo))) = HF at *
   have uG := (zC.keeps jb).rd
   have Fs := uG.ins
   repeat' (walk_at "rd1")
   refine tV Qz T.eO KY rfl ?_
   repeat' (walk_at "rd1")
   refine Ck uG ?_
   rw [hk]
   repeat' (walk_at "rd1")
   first
    | exact xB (q _ (sm.trans jb))
    | (refine xB ?_; show Q (.bl (decide _)) _; rw [decide_eq_true rfl]; exact q _ (sm.trans jb))
theorem wj (T : Txt K mg a) : mO P w K mg base 11 a.bY ["_law_told", "_law_name_here"] [] (oS a.af) :=
 ⟨⟨_, _, AV T, T.iI.binds fun _ _ _ _ _ _ => .all fun us hl => match us, hl with | [_, _], _ => rfl, .nil⟩⟩
theorem iR {m : List (Str × PyData)} {n : Str} (h : (bK m n).isSome = true) : n ∈ m.map (·.1) := by
 rcases Classical.em (n ∈ m.map (·.1)) with z | z
 . exact z
 . rw [jF z] at h; cases h
theorem qF {ms : List (Str × PyData)} {k : Str} : kW ms k = true ↔ k ∈ ms.map (·.1) := ⟨fun h => iR h, fun h => cQ h⟩
theorem n6 : ∀ {xs ys : List Str}, xs.Nodup -> (∀ x ∈ xs, x ∈ ys) -> xs.length <= ys.length
 | [], _, _, _ => Nat.zero_le _
 | x :: xs, ys, h, hs => by
   have hx := hs x List.mem_cons_self
   have h1 := List.nodup_cons.mp h
   have := n6 (xs := xs) (ys := ys.erase x) h1.2 fun y hy => (List.mem_erase_of_ne (show y ≠ x from fun e => h1.1 (by rw [<- e]; exact hy))).mpr (hs y (List.mem_cons_of_mem _ hy))
   rw [List.length_erase_of_mem hx] at this
   have := List.length_pos_of_mem hx
   simp only [List.length_cons]
   omega
structure GI (m ms : List (Str × PyData)) : Prop where
 ch : ∀ n ∈ m.map (·.1), ∃ c, Chain m n c /\ c.length <= 8
 nd : (m.map (·.1)).Nodup
 len : m.length <= 40
 ok : ∀ n ∈ m.map (·.1), oi n
 iH : ∀ k, kW ms k = true -> k ∈ m.map (·.1)
 nm : (ms.map (·.1)).Nodup
theorem GI.nil : GI [] [] := ⟨fun n h => by simp at h, .nil, Nat.zero_le _, fun n h => by simp at h, fun k h => by simp [kW, bK] at h, .nil⟩
section
variable {m ms m2 y6 : List (Str × PyData)} {n k : Str} {ss : List Str}
theorem GI.Il (h : GI m ms) : kU m := ⟨fun n hs => let ⟨c, hc, hl⟩ := h.ch n (iR hs); ⟨c, hc, by omega⟩, h.nd, by have := h.len; omega⟩
theorem GI.MP (h : GI m ms) : ms.length <= 40 := by
 have := n6 h.nm fun x hx => h.iH x (qF.mpr hx)
 rw [List.length_map, List.length_map] at this
 have := h.len
 omega
theorem GI.add {x : V} {d : PyData} (h : GI m ms) (hl : m.length < 40) (hn : bK m n = none) (hs : oi n) (ha : qo m x d) : GI (m ++ [(n, d)]) ms := by
 have hk : (m ++ [(n, d)]).map (·.1) = m.map (·.1) ++ [n] := by rw [List.map_append]; rfl
 refine ⟨fun y hy => ?_, ?_, by rw [List.length_append]; simp; omega, fun y hy => ?_, fun y hy => ?_, h.nm⟩
 . rw [hk, List.mem_append] at hy
   rcases hy with hy | hy
   . obtain ⟨c, hc, hl⟩ := h.ch y hy
     exact ⟨c, hc.app, hl⟩
   . rw [List.mem_singleton.mp hy]
     rcases ha with ⟨_, rfl⟩ | ⟨b, c, _, rfl, hc, fN⟩
     . exact ⟨_, .top (eG hn), by simp⟩
     . exact ⟨_, .up (eG hn) hc.app, by simp; omega⟩
 . rw [hk, List.nodup_append]
   refine ⟨h.nd, by simp, fun a ha b hb e => ?_⟩
   rw [List.mem_singleton.mp hb] at e
   have := cQ (e ▸ ha)
   rw [hn] at this; cases this
 . rw [hk, List.mem_append] at hy
   rcases hy with hy | hy
   . exact h.ok y hy
   . rw [List.mem_singleton.mp hy]; exact hs
 . rw [hk]; exact List.mem_append_left _ (h.iH y hy)
theorem GI.put (h : GI m ms) (hn : n ∈ m.map (·.1)) : GI m (putD ms n (.bool true)) := by
 refine ⟨h.ch, h.nd, h.len, h.ok, fun k hk => ?_, ?_⟩
 . rw [zR, Bool.or_eq_true] at hk
   rcases hk with hk | hk
   . exact h.iH k hk
   . rw [of_decide_eq_true hk]; exact hn
 . unfold putD
   split
   . have e : (ms.map fun kv => if kv.1 = n then (kv.1, PyData.bool true) else kv).map (·.1) = ms.map (·.1) := by
      rw [List.map_map]
      refine List.map_congr_left fun x _ => ?_
      show (if x.1 = n then (x.1, PyData.bool true) else x).1 = x.1
      split <;> rfl
     rw [e]; exact h.nm
   . rename_i hh
     rw [List.map_append, List.nodup_append]
     refine ⟨h.nm, by simp, fun a ha b hb e => hh ?_⟩
     have Qu : b = n := by simpa using hb
     rw [<- jL]
     exact qF.mpr (by rw [<- Qu, <- e]; exact ha)
theorem GI.drop (h : GI m ms) : GI m (dB ms n) := by
 refine ⟨h.ch, h.nd, h.len, h.ok, fun k hk => ?_, ?_⟩
 . rw [yh, Bool.and_eq_true] at hk
   exact h.iH k hk.1
 . exact (List.filter_sublist.map _).nodup h.nm
theorem bP : ∀ {ss : List Str} {m : List (Str × PyData)}, aW m ss = m.filter fun kv => decide (kv.1 ∉ ss)
 | [], m => (List.filter_eq_self.mpr fun x _ => by simp).symm
 | x :: r, m => by
   show aW (dB m x) r = _
   rw [bP]
   unfold dB
   rw [List.filter_filter]
   congr 1
   funext y
   by_cases e : y.1 = x
   . simp [e]
   . simp [e]
theorem nH : kW (aW ms ss) k = (kW ms k && decide (k ∉ ss)) := by
 unfold kW
 rw [dG]
 by_cases h : k ∈ ss
 . simp [h]
 . simp [h]
theorem Chain.sub {c : List Str} (h : Chain m n c) : ∀ {o : Str}, o ∈ c -> ∃ c', Chain m o c' /\ (∀ x ∈ c', x ∈ c) /\ c'.length <= c.length := by
 induction h with
 | top e =>
   intro o ho
   rw [List.mem_singleton.mp ho]
   exact ⟨_, .top e, fun x hx => hx, Nat.le_refl _⟩
 | @up n b c e hc ih =>
   intro o ho
   rcases List.mem_cons.mp ho with rfl | ho
   . exact ⟨_, .up e hc, fun x hx => hx, Nat.le_refl _⟩
   . obtain ⟨c', h1, h2, h3⟩ := ih ho
     exact ⟨c', h1, fun x hx => List.mem_cons_of_mem _ (h2 x hx), by simp; omega⟩
theorem Chain.aW {c : List Str} (h : Chain m n c) (hs : ∀ o ∈ c, o ∉ ss) : Chain (aW m ss) n c := by
 induction h with
 | top e => exact .top (by rw [dG, if_neg (hs _ List.mem_cons_self)]; exact e)
 | up e _ ih => exact .up (by rw [dG, if_neg (hs _ List.mem_cons_self)]; exact e) (ih fun o ho => hs o (List.mem_cons_of_mem _ ho))
theorem jq : k ∈ bI m n ↔ k ∈ m.map (·.1) /\ n ∈ pK 60 m k := by unfold bI; rw [List.mem_filter, List.contains_iff_mem]
theorem GI.Fi (h : GI m ms) (hp : ss.Perm (bI m n)) : GI (aW m ss) (aW ms ss) := by
 have hk : ∀ {z : List (Str × PyData)} {y : Str}, y ∈ (aW z ss).map (·.1) -> y ∈ z.map (·.1) /\ y ∉ ss := fun {z y} hy => by
  rw [bP, List.mem_map] at hy
  obtain ⟨x, hx, rfl⟩ := hy
  rw [List.mem_filter] at hx
  exact ⟨List.mem_map.mpr ⟨x, hx.1, rfl⟩, of_decide_eq_true hx.2⟩
 have Rb : ∀ {y : Str}, y ∈ m.map (·.1) -> y ∉ ss -> y ∈ (aW m ss).map (·.1) := fun {y} h1 h2 => by
  obtain ⟨x, hx, rfl⟩ := List.mem_map.mp h1
  rw [bP]
  exact List.mem_map.mpr ⟨x, List.mem_filter.mpr ⟨hx, decide_eq_true h2⟩, rfl⟩
 refine ⟨fun y hy => ?_, ?_, ?_, fun y hy => h.ok y (hk hy).1, fun y hy => ?_, ?_⟩
 . obtain ⟨h1, h2⟩ := hk hy
   obtain ⟨c, hc, hl⟩ := h.ch y h1
   have Kf : n ∉ c := fun hh => h2 (hp.mem_iff.mpr (jq.mpr ⟨h1, by rw [hc.fn (by omega)]; exact hh⟩))
   refine ⟨c, hc.aW fun o ho hh => ?_, hl⟩
   obtain ⟨c', h3, h4, h5⟩ := hc.sub ho
   have h6 := (jq.mp (hp.mem_iff.mp hh)).2
   rw [h3.fn (by omega)] at h6
   exact Kf (h4 _ h6)
 . rw [bP]; exact (List.filter_sublist.map _).nodup h.nd
 . rw [bP]; exact Nat.le_trans (List.length_filter_le _ _) h.len
 . rw [nH, Bool.and_eq_true] at hy
   exact Rb (h.iH y hy.1) (of_decide_eq_true hy.2)
 . rw [bP]; exact (List.filter_sublist.map _).nodup h.nm
end
structure Std (m ms : List (Str × PyData)) (ns : List Str) (f : Str -> List Str) (b : Str -> Bool) : Prop where
 k : ns = m.map (·.1)
 c : ∀ x ∈ ns, Chain m x (f x)
 mr : ∀ x ∈ ns, b x = kW ms x
section
variable {m ms : List (Str × PyData)} {n : Str} {ss ns : List Str} {f : Str -> List Str} {b : Str -> Bool}
theorem Std.len (h : Std m ms ns f b) (g : GI m ms) : ∀ x ∈ ns, (f x).length <= 8 := fun x hx => by
 obtain ⟨c, hc, hl⟩ := g.ch x (h.k ▸ hx)
 rw [(h.c x hx).inj hc]; exact hl
theorem Std.wn (h : Std m ms ns f b) (g : GI m ms) : ns.filter (fun k => (f k).contains n) = bI m n := by
 unfold bI
 rw [<- h.k]
 refine List.filter_congr fun x hx => ?_
 rw [(h.c x hx).fn (by have := h.len g x hx; omega)]
theorem Std.out (h : Std m ms ns f b) (g : GI m ms) (hp : ss.Perm (bI m n)) : Std (aW m ss) (aW ms ss) (ns.filter fun x => decide (x ∉ ss)) f b := by
 refine ⟨?_, fun x hx => ?_, fun x hx => ?_⟩
 . rw [bP, h.k, List.filter_map]; rfl
 . obtain ⟨h1, h2⟩ := List.mem_filter.mp hx
   have h2 := of_decide_eq_true h2
   have hc := h.c x h1
   have hl := h.len g x h1
   have Kf : n ∉ f x := fun hh => h2 (hp.mem_iff.mpr (jq.mpr ⟨h.k ▸ h1, by rw [hc.fn (by omega)]; exact hh⟩))
   refine hc.aW fun o ho hh => ?_
   obtain ⟨c', h3, h4, h5⟩ := hc.sub ho
   have h6 := (jq.mp (hp.mem_iff.mp hh)).2
   rw [h3.fn (by omega)] at h6
   exact Kf (h4 _ h6)
 . obtain ⟨h1, h2⟩ := List.mem_filter.mp hx
   rw [nH, h.mr x h1, h2, Bool.and_true]
theorem si (ns t : List Str) (x : Str) : (ns.filter fun y => decide (y ∉ t)).filter (fun y => decide (y ≠ x)) = ns.filter fun y => decide (y ∉ t ++ [x]) := by
 rw [List.filter_filter]
 refine List.filter_congr fun y _ => ?_
 by_cases h1 : y ∈ t <;> by_cases h2 : y = x <;> simp [h1, h2]
end
theorem oV {H H' : Hp} {P : Addr} {S : List Addr} (t : iF H P) (mv : Mv S H H') (hS : ∀ c ∈ S, H c = none \/ ∃ u, H c = some u /\ (∀ ps, u ≠ .ia ps) /\ ∀ φ, u ≠ .ext φ) : iF H' P := by
 refine t.mv mv fun c hc => ?_
 rcases hS c hc with e | ⟨u, e, h1, h2⟩
 . refine ⟨fun z => ?_, fun φ z => ?_⟩
   . obtain ⟨ps, hp⟩ := t.ia
     rw [z, hp] at e; cases e
   . rw [e] at z; cases z
 . exact ⟨t.ne e h1, fun φ z => by rw [e] at z; cases z; exact h2 φ rfl⟩
theorem oQ {H : Hp} {d : Addr} {m : List (Str × PyData)} (h : ic H d m) : ∃ u, H d = some u /\ (∀ ps, u ≠ .ia ps) /\ ∀ φ, u ≠ .ext φ := by
 obtain ⟨kvs, e, _⟩ := h
 exact ⟨_, e, (by intro _ z; cases z), (by intro _ z; cases z)⟩
theorem ya {H : Hp} {d : Addr} {ns : List Str} {f : Str -> List Str} {b : Str -> Bool} (h : je H d ns f b) : ∃ u, H d = some u /\ (∀ ps, u ≠ .ia ps) /\ ∀ φ, u ≠ .ext φ := by
 obtain ⟨m, e, _⟩ := h
 exact ⟨_, e, (by intro _ z; cases z), (by intro _ z; cases z)⟩
theorem lA {H : Hp} {d : Addr} {m : List (Str × PyData)} {ds : List PyData} (h : ic H d m) : ¬ cw H d ds := fun h2 => h.rC h2 rfl
theorem dO.F3 {C : Addr} {H H' : Hp} {v : V} {d1 d2 p : Addr} {m ms : List (Str × PyData)} {ns : List Str} {f : Str -> List Str} {b : Str -> Bool} (h : dO C H v d1 d2 m ms) (hp : je H p ns f b) (n1 : p ≠ d1) (n2 : p ≠ d2) (mv : Mv [p] H H') : dO C H' v d1 d2 m ms := by
 refine ⟨?_, h.ab.mv mv (by simpa using Ne.symm n1), h.iH.mv mv (by simpa using Ne.symm n2), h.ne⟩
 obtain ⟨x, dx, rfl, e⟩ := h.ins
 obtain ⟨mm, e2, _⟩ := hp
 exact ⟨x, dx, rfl, mv.at (by simpa using et e e2 (by intro z; cases z)) e⟩
theorem rS {K : PySem.W.Frag} {σ : St} {H : Hp} {t : Addr} {v1 v2 : V} {i j : Nat} {R : St -> Hp -> Prop} (ha : H t = some (.tup [v1, v2])) (h : R ((σ.set i (some v1)).set j (some v2)) H) : zZ K 2 (t9 (kM i) (t9 (kM j) Fe)) (.ref t) σ H R :=
 ⟨_, _, rfl, .of ha, rfl, _, _, rfl, _, _, rfl, rfl, h⟩
theorem DU {K : PySem.W.Frag} {H : Hp} {Q : VK} {p : Addr} {xs : List V} {i : Int} {v : V} (h : H p = some (.tup xs)) (hi : m6 xs i = some v) (g : Q v H) : zJ K (.ref p) (.int i) H Q := ⟨p, xs, i, v, rfl, rfl, r6.of h, hi, g⟩
local macro_rules | `(tactic| walk_at "tpa") => `(tactic| first
 | assumption
 | (refine' au.at ?s ?m; (case s => assumption); (case m => walk_at "tpa"))
 | fail)
local macro_rules | `(tactic| walk_at "rd1") => `(tactic| first
 | ((with_reducible refine' DU ?e1 ?e2 ?_); (case e1 => walk_at "tpa"); (case e2 => exact rfl))
 | fail)
def ml (C P : Addr) : Sp := fun vs H Q _ => ∃ v p d1 d2 m ms n ns f b, vs = [v, .ref p, .str n] /\ dO C H v d1 d2 m ms /\ GI m ms /\ je H p ns f b /\ Std m ms ns f b /\ n ∈ ns /\ iF H P /\ p ≠ d1 /\ p ≠ d2 /\ ∀ H' ss, Mv [d1, d2, p, P] H H' -> ss.Perm (bI m n) -> dO C H' v d1 d2 (aW m ss) (aW ms ss) -> je H' p (ns.filter fun x => decide (x ∉ ss)) f b -> iF H' P -> Q (.bl true) H'
theorem t4 {C P : Addr} {H : Hp} {Q : VK} {E : XK} {v : V} {p d1 d2 : Addr} {m ms : List (Str × PyData)} {n : Str} {ns : List Str} {f : Str -> List Str} {b : Str -> Bool} (h1 : dO C H v d1 d2 m ms) (h2 : GI m ms) (h3 : je H p ns f b) (h4 : Std m ms ns f b) (h5 : n ∈ ns) (h6 : iF H P) (h7 : p ≠ d1) (h8 : p ≠ d2) (q : ∀ H' ss, Mv [d1, d2, p, P] H H' -> ss.Perm (bI m n) -> dO C H' v d1 d2 (aW m ss) (aW ms ss) -> je H' p (ns.filter fun x => decide (x ∉ ss)) f b -> iF H' P -> Q (.bl true) H') : ml C P [v, .ref p, .str n] H Q E := ⟨v, p, d1, d2, m, ms, n, ns, f, b, rfl, h1, h2, h3, h4, h5, h6, h7, h8, q⟩
theorem yk (T : Txt K mg a) (hB : Bs K mg base) : bH P w K mg base jR 13 a.bN a.i3 ["_law_told", "_law_standing", "_law_name_here"] (ml a.af a.ai) := by
 have cl := T.aq
 have d5 := (gC (P := P) (w := w) (base := base) T).calm
 have gE := (ur (P := P) (w := w) (base := base) T).calm
 have oY := Ap (P := P) (w := w) (base := base) T
 have aT := (eM (P := P) (w := w) (base := base) T).calm
 have cX := (jn (P := P) (w := w) (base := base) T).calm
 have kR := Bg (P := P) (w := w) (base := base) T hB
 have pV := wj (P := P) (w := w) (base := base) T
 refine T.gm.ok bT (fun vs H Q E h => ?_) (fun cV A outer s H vs Q E hr h => ?_)
 . obtain ⟨_, _, _, _, _, _, _, _, _, _, rfl, _⟩ := h; rfl
 . obtain ⟨v, p, d1, d2, m, ms, n, ns, f, b, rfl, hg, hG, hp, hS, hn, hT, zy, CG, q⟩ := h
   have hi := hg.ins
   have FO : ns.length <= 40 := by rw [hS.k, List.length_map]; exact hG.len
   refine ⟨_, (ax (bq (i := 3) bT.nd rfl (Or.inl rfl) (bM jh rfl T.c6 PyProof.Rows.boot_sorted (ag (tS (ug (T := ["_law_one", "_law_held"]) (M := ["_law_told", "_law_standing", "_law_name_here", "_law_due", "_law_inner", "_law_found", "06", "07"]) (JY (av eD) ["_law_told", "_law_standing", "_law_name_here", "_law_due", "_law_inner", "_law_found", "_law_one", "_law_held"] rfl rfl (by decide +kernel)) rfl (qg (pv 1)) (fun _ _ _ _ _ => (Ax (K := K) (n := 2) rfl rfl (fR (cU (i := 0) (show List.Nodup (["_law_one", "_law_held", "_law_told", "_law_standing", "_law_name_here", "_law_due", "_law_inner", "_law_found", "06", "07"] : List Str) by decide +kernel) rfl (Or.inl rfl)) (fR (cU (i := 1) (show List.Nodup (["_law_one", "_law_held", "_law_told", "_law_standing", "_law_name_here", "_law_due", "_law_inner", "_law_found", "06", "07"] : List Str) by decide +kernel) rfl (Or.inl rfl)) oX)))) (wk (lX (by decide) (lX (by decide) vC))) (fun _ _ _ _ _ => (oU (aS (yM (K := K) rfl) (pv 4) (dR (F6 (K := K) rfl) (pv 1) aB (fun _ _ => rfl)) rfl))) (fun _ _ _ _ _ => (pv 0)))) ao)))
    (ax (bq (i := 4) bT.nd rfl (Or.inl rfl) (aL (pv 0) T.aq T.cg d5 (hr.mono (by decide)) (ag (pv 2) ao)))
    (ax (bq (i := 5) bT.nd rfl (Or.inl rfl) (aL (pv 0) T.aq T.gO gE (hr.mono (by decide)) (ag (pv 2) ao)))
    (ax (cR (PW.pt (tE (pe (iG (bM wU rfl T.dM PyProof.Rows.boot_isinstance (ag (pv 5) (ag (zB (v := .ty "list") rfl T.iM PyProof.Rows.boot_list rfl) ao))) (fun _ => rfl))) (tE (aS (jr hr.qX) (pv 5) (pv 3) (bb _)) (yX (aS (jr hr.qX) (pv 4) (pv 3) (bb _))))))
     (aw (bh gW))
     aZ)
    (ax (bo (Fv PySem.F.plainAttrs_list PySem.F.slot_list_clear PySem.F.type_list_clear yA (pv 5)))
    (ax (lI PassesOwn.never rfl (jz (pv 3)) (cU (i := 6) bT.nd rfl (Or.inl rfl))
     (ax (bo (qS PySem.F.plainAttrs_dict PySem.F.slot_dict_pop PySem.F.type_dict_pop oA (pv 1) (ag (pv 6) ao)))
     (aw (cR (pe (iG (gL pV (hr.mono (by decide)) rfl T.jG T.jE (ag (pv 0) (ag (pv 6) ao))) (fun _ => rfl)))
      (aw (bh gW))
      aZ))))
    (ax (zi (lI PassesOwn.never rfl (qg (pv 1)) (ri (n := 2) rfl (fR (cU (i := 6) bT.nd rfl (Or.inl rfl)) (fR (cU (i := 7) bT.nd rfl (Or.inl rfl)) oX)))
     (aw (cR (PW.pt (tE (aS vn (aL (pv 0) T.aq T.gJ oY (hr.mono (by decide)) (ag (pv 6) ao)) gW (bb _)) (tE (aS (jr hr.qX) (aL (pv 0) T.aq T.aI aT (hr.mono (by decide)) (ag (pv 6) ao)) (dR ow (pv 7) aB (fun _ _ => rfl)) (bb _)) (yX (aS (jr hr.qX) (aL (pv 0) T.aq T.cn cX (hr.mono (by decide)) (ag (pv 6) ao)) (dR ow (pv 7) aB (fun _ _ => rfl)) (bb _))))))
      (aw (bh gW))
      aZ))))
    (aw (bh (iN (gN hr.qX) (bM jh rfl T.c6 PyProof.Rows.boot_sorted (ag (xo (pv 0) T.aq T.g8 kR (hr.mono (by decide))) ao)) (bM (rA rfl) rfl T.c6 PyProof.Rows.boot_sorted (ag (pv 1) ao)) (bb _))))))))))), ?_⟩
   have FT : (bI m n).length <= 40 := by rw [<- hS.wn hG]; exact Nat.le_trans (List.length_filter_le _ _) FO
   have RD : (bI m n).length < 64 := by omega
   have FJ : (bK m n).isSome = true := cQ (hS.k ▸ hn)
   have Qi := hG.Il
   repeat' (walk_at "rd1")
   refine Hg hp (fun R hR => ?_) (fun k => (f k).contains n) (by omega) (fun t k u l Hf H' N hk mv sm e1 e2 e3 yes no => ?_) (fun q1 H1 m9 uE Nf => ?_)
   . repeat' (walk_at "rd1")
     exact hR
   . refine rS e1 ?_
     repeat' (walk_at "rd1")
     refine tR (fun hb => ?_) (fun hb => no hb _ (au.refl _))
     repeat' (walk_at "rd1")
     exact yes hb _ (au.refl _)
   rw [hS.wn hG] at Nf
   repeat' (walk_at "rd1")
   rename_i qd H2 ss jb y7 nr Ce MG qi H3 P5 sm3 FW Jn Hu OA
   obtain rfl : ss = P5 := iL (nr.trans Jn.symm) Ce Hu
   have lP := (m9.trans jb).trans sm3
   have pQ := hg.keeps lP
   have B1 := hp.keeps lP
   have Ht := hT.keeps lP
   have GC := MG.keeps sm3
   have IV : ∀ x ∈ ss, oi x := fun x hx => hG.ok x (jq.mp (nr.mem_iff.mp hx)).1
   have Rn : ss.length <= 40 := by rw [nr.length_eq]; exact FT
   clear Nf Jn Hu
   repeat' (walk_at "rd1")
   refine EK pQ Qi FJ (fun qf H4 Rt zM Hl Gj HI Jt AU => ?_)
   obtain rfl : ss = Rt := iL (nr.trans Gj.symm) Ce HI
   have Oq : qd ≠ d1 := Ne.symm ((hg.keeps m9).ab.ne y7)
   have Oe : qd ≠ d2 := Ne.symm ((hg.keeps m9).iH.ne y7)
   have RP : qi ≠ d1 := Ne.symm ((hg.keeps (m9.trans jb)).ab.ne FW)
   have Rx : qi ≠ d2 := Ne.symm ((hg.keeps (m9.trans jb)).iH.ne FW)
   have D9 : cw H4 qd (ss.map PyData.str) := GC.mv zM (by simp [Oq, Oe])
   have I9 : cw H4 qi (ss.map PyData.str) := OA.mv zM (by simp [RP, Rx])
   have QZ : je H4 p ns f b := B1.mv zM (by simp [zy, CG]) (fun c hc ds h => by
    have : c = d1 \/ c = d2 := by simpa using hc
    rcases this with rfl | rfl
    . exact lA pQ.ab h
    . exact lA pQ.iH h)
   have Q7 : iF H4 a.ai := oV Ht zM (fun c hc => by
    have : c = d1 \/ c = d2 := by simpa using hc
    rcases this with rfl | rfl
    . exact .inr (oQ pQ.ab)
    . exact .inr (oQ pQ.iH))
   have Jl := Jt.dv
   clear GC OA Gj HI
   repeat' (walk_at "rd1")
   refine j4 Jt.dv D9.dv IV ?_
   repeat' (walk_at "rd1")
   refine j4 I9.dv D9.dv IV ?_
   clear Jl
   have Sx : qd ≠ qf := (MG.keeps sm3).ne Hl
   have R0 : p ≠ qf := B1.ne Hl
   have SQ : d1 ≠ qf := pQ.ab.ne Hl
   have R7 : d2 ≠ qf := pQ.iH.ne Hl
   repeat' (walk_at "rd1")
   rename_i H5 OC Ms
   have Ab : Mv [d1, d2] H3 H5 := zM.step OC (fun c hc => .inr (by rw [List.mem_singleton.mp hc]; exact Hl))
   have OM := AU.Gp Jt OC
   have Hh : cw H5 qd (ss.map PyData.str) := (MG.keeps sm3).mv Ab (by simp [Oq, Oe])
   have GP : je H5 p ns f b := B1.mv Ab (by simp [zy, CG]) (fun c hc ds h => by
    have : c = d1 \/ c = d2 := by simpa using hc
    rcases this with rfl | rfl
    . exact lA pQ.ab h
    . exact lA pQ.iH h)
   have Rw : iF H5 a.ai := oV Ht Ab (fun c hc => by
    have : c = d1 \/ c = d2 := by simpa using hc
    rcases this with rfl | rfl
    . exact .inr (oQ pQ.ab)
    . exact .inr (oQ pQ.iH))
   have Q0 : qd ≠ p := Ne.symm (GP.rC Hh)
   have Du : ss.Nodup := nr.nodup_iff.mpr (hG.nd.filter _)
   have RG : ∀ x ∈ ss, x ∈ ns := fun x hx => hS.k ▸ (jq.mp (nr.mem_iff.mp hx)).1
   clear Jt D9 I9 QZ Q7 Ms AU B1 Ht
   refine w9 (Hb := H5) (cs := ss) (gd := PyData.str) Hh.dv (fun j σ' H' => ∃ z6, σ' = [some v, some (.ref p), some (.str n), some (.ref qd), some (.ref qi), some (.ref qf), z6, none] /\ Mv [p] H5 H' /\ je H' p (ns.filter fun x => decide (x ∉ ss.take j)) f b) ⟨_, rfl, Mv.refl, by rw [List.take_zero, show ns.filter (fun x => decide (x ∉ ([] : List Str))) = ns from List.filter_eq_self.mpr (by simp)]; exact GP⟩ (fun i σ' H' _ ⟨_, _, mv, _⟩ a' xs e hx => by cases e; exact mv.sq (by simp [Q0]) hx) ?_ ?_
   . rintro j x v' σ' H6 hj ⟨z6, rfl, Dh, Cw⟩ hI RH
     obtain rfl := (hI rfl (fun b xs e => Dh.tp b xs e)).str_inv
     have BP : x ∈ ss := List.mem_of_getElem? hj
     have Gk : x ∉ ss.take j := fun hh => by
      have zO := (List.getElem?_eq_some_iff.mp hj).1
      obtain ⟨i, hi, e⟩ := List.getElem_of_mem hh
      rw [List.getElem_take] at e
      have kP : i < j := by rw [List.length_take] at hi; omega
      have := (List.pairwise_iff_getElem.mp (List.nodup_iff_pairwise_ne.mp Du)) i j (by omega) zO kP
      exact this (e.trans (List.getElem?_eq_some_iff.mp hj).2.symm)
     have LL : x ∈ ns.filter fun x => decide (x ∉ ss.take j) := List.mem_filter.mpr ⟨RG x BP, decide_eq_true Gk⟩
     have JK := OM.F3 GP zy CG Dh
     repeat' (walk_at "rd1")
     refine IJ Cw ?_
     repeat' (walk_at "rd1")
     refine Bw Cw LL (fun vv H7 JR Gf => ?_)
     rw [si] at Gf
     have zN := JK.F3 Cw zy CG JR
     have NW := zN.ins
     repeat' (walk_at "rd1")
     refine EB zN (by rw [dG, if_pos BP]) (IV x BP).nm (fun H8 F1 => ?_)
     repeat' (walk_at "rd1")
     refine ⟨_, rfl, (Dh.trans JR).i7 F1, ?_⟩
     rw [List.take_add_one, hj]
     exact Gf.keeps F1
   . rintro σ' H6 ⟨z6, rfl, Dh, Cw⟩
     rw [List.take_length] at Cw
     have JK := OM.F3 GP zy CG Dh
     have PL : iF H6 a.ai := oV Rw Dh (fun c hc => by rw [List.mem_singleton.mp hc]; exact .inr (ya GP))
     have EL := hS.out hG nr
     have FQ := hG.Fi nr
     generalize K1 : ns.filter (fun x => decide (x ∉ ss)) = Kx at *
     have KR := FQ.Il
     have OD : Kx.length <= 40 := by rw [EL.k, List.length_map]; exact FQ.len
     repeat' (walk_at "rd1")
     refine DF Cw (fun R hR => ?_) (fun _ σ' => ∃ z6 z7, σ' = [some v, some (.ref p), some (.str n), some (.ref qd), some (.ref qi), some (.ref qf), z6, z7]) ⟨_, _, rfl⟩ (fun i k t u l σ' Hf H7 kvs hk hP JR y4 e1 e2 e3 => ?_) (fun σ' H7 hP y4 => ?_)
     . repeat' (walk_at "rd1")
       exact hR
     . obtain ⟨z6, z7, rfl⟩ := hP
       have DH : k ∈ Kx := List.mem_of_getElem? hk
       have zN := ((JK.F3 Cw zy CG JR).keeps y4)
       have NW := zN.ins
       have Jr := zN.rd
       have Kc : (bK (aW m ss) k).isSome = true := cQ (EL.k ▸ DH)
       have JE := EL.c k DH
       have fN : (f k).length <= 60 := by have := EL.len FQ k DH; omega
       have QU := EL.mr k DH
       have Pl : ∀ x ∈ f k, oi x := fun x hx => FQ.ok x (iR (JE.all x hx))
       refine rS e1 ?_
       repeat' (walk_at "rd1")
       refine Ck Jr ?_
       rw [Kc]
       repeat' (walk_at "rd1")
       rename_i qc H8 F1 ME zD
       refine j4 zD.dv (e3.keeps F1).dv Pl ?_
       have LD := Jr.keeps F1
       have Ss := LD.ins
       repeat' (walk_at "rd1")
       all_goals first
        | exact ⟨⟨_, _, rfl⟩, y4.trans F1⟩
        | (exfalso; rename_i hb; rw [QU] at hb; exact hb rfl)
        | (exfalso; rename_i hb; exact hb rfl)
        | trace_state
     . obtain ⟨z6, z7, rfl⟩ := hP
       have zN := JK.keeps y4
       have NW := zN.ins
       have JQ := PL.keeps y4
       have Gf := Cw.keeps y4
       have Pr : Mv [d1, d2, p, a.ai] H H7 := by
        have m0 : Mv [d1, d2, p, a.ai] H H5 := (lP.mv (S := [d1, d2, p, a.ai])).step Ab (fun c hc => .inl (by
         have : c = d1 \/ c = d2 := by simpa using hc
         rcases this with rfl | rfl <;> simp))
        exact (m0.step Dh (fun c hc => .inl (by rw [List.mem_singleton.mp hc]; simp))).i7 y4
       repeat' (walk_at "rd1")
       refine Ij zN KR JQ (fun qa H8 sa Dg PK ME M0 R1 => ?_)
       have Eo : sa.length < 64 := by rw [M0.1.length_eq, List.length_map]; have := FQ.len; omega
       have Qk : p ≠ a.ai := by
        obtain ⟨mm, e, _⟩ := Gf
        exact JQ.ne e (by intro _ z; cases z)
       have OY : je H8 p Kx f b := Gf.mv Dg (by simpa using Qk) (fun c hc ds h => by rw [List.mem_singleton.mp hc] at h; exact JQ.rC h rfl)
       have QI := zN.NM JQ Dg
       repeat' (walk_at "rd1")
       rename_i qs H9 s9 Cj F8 Rl Rz Ls
       refine we (OY.keeps Cj) (by omega) (fun qt FU Qn qM Qx pT Kr G3 => ?_)
       have MH : s9 = Qn := by
        refine iL (Rl.trans (M0.1.trans ?_)) Rz Kr
        rw [<- EL.k]; exact pT.symm
       subst MH
       repeat' (walk_at "rd1")
       refine j4 (Ls.keeps qM).dv G3.dv (fun x hx => FQ.ok x (by rw [<- EL.k]; exact pT.mem_iff.mp hx)) ?_
       repeat' (walk_at "rd1")
       refine q _ ss ((Pr.step Dg (fun c hc => .inl (by rw [List.mem_singleton.mp hc]; simp))).i7 (Cj.trans qM)) nr (QI.keeps (Cj.trans qM)) ?_ (PK.keeps (Cj.trans qM))
       rw [K1]
       exact OY.keeps (Cj.trans qM)
theorem uU (T : Txt K mg a) (hB : Bs K mg base) : mO P w K mg base 13 a.bN ["_law_told", "_law_standing", "_law_name_here"] [] (ml a.af a.ai) :=
 ⟨⟨_, _, yk T hB, T.gm.binds fun _ _ _ _ _ _ => .all fun us hl => match us, hl with | [_, _, _], _ => rfl, .nil⟩⟩
theorem GI.fst {m ms : List (Str × PyData)} {n : Str} {ss : List Str} (h : GI m ms) (hn : n ∈ m.map (·.1)) (hp : ss.Perm (bI m n)) : n ∈ ss := by
 obtain ⟨c, hc, hl⟩ := h.ch n hn
 refine hp.mem_iff.mpr (jq.mpr ⟨hn, ?_⟩)
 rw [hc.fn (by omega)]
 cases hc <;> exact List.mem_cons_self
def ik (n : Nat) (st : Int) : List Str := (List.range n).map fun i : Nat => jX (i : Int) st
theorem qU {n : Nat} {st : Int} : ik (n + 1) st = ik n st ++ [jX (n : Int) st] := by unfold ik; rw [List.range_succ, List.map_append]; rfl
theorem lr {n : Nat} {st : Int} : (ik n st).length = n := by unfold ik; simp
theorem AQ {n : Nat} {st : Int} (h : n < 21) : jX (n : Int) st ∉ ik n st := fun hh => by
 obtain ⟨i, hi, e⟩ := List.mem_map.mp hh
 have hi := List.mem_range.mp hi
 have := AI (by omega) (by omega) (by omega) (by omega) e
 omega
theorem DB {m ms : List (Str × PyData)} {fn : Str} {d : PyData} {c : List Str} (h : GI m ms) (hf : bK m fn = none) (hc : Chain (m ++ [(fn, d)]) fn c) (hl : c.length <= 60) : bI (m ++ [(fn, d)]) fn = [fn] := by
 unfold bI
 rw [List.map_append, List.filter_append]
 have e1 : (m.map (·.1)).filter (fun k => (pK 60 (m ++ [(fn, d)]) k).contains fn) = [] := by
  refine List.filter_eq_nil_iff.mpr fun k hk hh => ?_
  obtain ⟨ck, JE, hl⟩ := h.ch k hk
  rw [(Chain.app (k := fn) (d := d) JE).fn (by omega), List.contains_iff_mem] at hh
  have := JE.all fn hh
  rw [hf] at this; cases this
 have e2 : fn ∈ c := by cases hc <;> exact List.mem_cons_self
 rw [e1, List.nil_append, List.map_cons, List.map_nil, List.filter_cons, hc.fn hl, if_pos (List.contains_iff_mem.mpr e2), List.filter_nil]
structure Laid (C P : Addr) (H : Hp) (v : V) (d1 d2 pn : Addr) (m ms : List (Str × PyData)) (n : Nat) (st : Int) : Prop where
 g : dO C H v d1 d2 m ms
 i : GI m ms
 k : m.map (·.1) = ik n st
 l : cw H pn ((ik n st).map PyData.str)
 t : iF H P
 c : Chain m (jX 0 st) [jX 0 st]
 n1 : pn ≠ d1
 n2 : pn ≠ d2
theorem Laid.keeps {C P : Addr} {H H' : Hp} {v : V} {d1 d2 pn : Addr} {m ms : List (Str × PyData)} {n : Nat} {st : Int} (s : au H H') (h : Laid C P H v d1 d2 pn m ms n st) : Laid C P H' v d1 d2 pn m ms n st := ⟨h.g.keeps s, h.i, h.k, h.l.keeps s, h.t.keeps s, h.c, h.n1, h.n2⟩
local macro_rules | `(tactic| walk_at "use") => `(tactic| first
 | ((with_reducible refine' AG ?e1 ?e2 ?_); (case e1 => omega); (case e2 => omega))
 | fail)
theorem Fd {H : Hp} {Q : VK} {q : Addr} {x : Bool} {ds : List PyData} (h : cw H q ds) (k : ∀ t H2, au H H2 -> H t = none -> H2 t = some (.tup [.ref q, .bl x]) -> Q (.ref t) H2) : yU [.ref q, .bl x] H Q :=
 EA (ds := [.list ds, .bool x]) (wX rfl) (.cons h.dv (.cons (.bl _) .nil)) k
local macro_rules | `(tactic| walk_at "rd1") => `(tactic| first
 | ((with_reducible refine' Fd ?e (fun _ _ _ _ _ => ?_)); case e => walk_at "lat")
 | fail)
theorem Fz (T : Txt K mg a) (hB : Bs K mg base) : bH P w K mg base jR 16 a.nB a.oo ["_law_script"] (sG a.tabs K) := by
 have cl := T.aq
 have iE := kT (P := P) (w := w) (base := base) T
 have kH := vb (P := P) (w := w) (base := base) T
 have jJ := uU (P := P) (w := w) (base := base) T hB
 have r0 := uT (P := P) (w := w) (base := base) T
 have jN := (zA (P := P) (w := w) (base := base) T).calm
 have lZ := (yz (P := P) (w := w) (base := base) T).calm
 have lK := vN (P := P) (w := w) (base := base) T
 have aT := (eM (P := P) (w := w) (base := base) T).calm
 have cX := (jn (P := P) (w := w) (base := base) T).calm
 have d5 := (gC (P := P) (w := w) (base := base) T).calm
 refine T.vY.ok bS (fun vs H Q E h => ?_) (fun cV A outer s H vs Q E hr h => ?_)
 . obtain ⟨_, _, rfl, _⟩ := h; rfl
 . obtain ⟨l, ns, rfl, hl, hn, hT, q⟩ := h
   have t1 : iF H a.ai := .inl (hT _ T.cK)
   refine ⟨_, (ax (bq (i := 1) bS.nd rfl (Or.inl rfl) (gL iE (hr.mono (by decide)) rfl T.d9 T.ej (ag (pv 0) (ag aB ao))))
    (ax (bq (i := 2) bS.nd rfl (Or.inl rfl) (yC T.qL r0 (hr.mono (by decide)) rfl T.n9))
    (ax (bq (i := 3) bS.nd rfl (Or.inl rfl) (gk (ag (gL kH (hr.mono (by decide)) rfl T.gw T.f9 (ag aB (ag (pv 1) ao))) ao)))
    (ax (bo (aL (pv 2) T.aq T.eI lZ (hr.mono (by decide)) (ag (dR jB (pv 3) aB (fun _ _ => rfl)) ao)))
    (ax (lI PassesOwn.never rfl (zm rfl T.eJ (ag (bp xV (gk (ag aB ao)) (ye By (pv 0) (tD aB) (tD aB))) ao)) (ri (n := 2) rfl (fR (cU (i := 4) bS.nd rfl (Or.inl rfl)) (fR (cU (i := 5) bS.nd rfl (Or.inl rfl)) oX)))
     (ax (bq (i := 6) bS.nd rfl (Or.inl rfl) (dR jB (pv 3) (bp cF (bp cS (pv 5) aB) (bM c5 rfl T.eW PySem.boot_len (ag (pv 3) ao))) (fun _ _ => rfl)))
     (fS (cR (aS yt (bp cF (pv 5) aB) aB (bb _))
      (aw (bq (i := 6) bS.nd rfl (Or.inl rfl) (dR jB (pv 3) (wW sE aB) (fun _ _ => rfl))))
      aZ)
     (fS (cR (aS yt (bM c5 rfl T.eW PySem.boot_len (ag (aL (pv 2) T.aq T.aI aT (hr.mono (by decide)) (ag (pv 6) ao)) ao)) aB (bb _))
      (aw (bq (i := 6) bS.nd rfl (Or.inl rfl) (dR jB (pv 3) aB (fun _ _ => rfl))))
      aZ)
     (fS (cR (aS (gN hr.qX) (bp cF (pv 5) aB) aB (bb _))
      (aw (bq (i := 6) bS.nd rfl (Or.inl rfl) j7))
      aZ)
     (ax (bo (qS PySem.F.plainAttrs_list PySem.F.slot_list_append PySem.F.type_list_append nR (pv 3) (ag (gL kH (hr.mono (by decide)) rfl T.gw T.f9 (ag (bp Dw (pv 4) aB) (ag (pv 1) ao))) ao)))
     (ax (bo (aL (pv 2) T.aq T.eI jN (hr.mono (by decide)) (ag (dR jB (pv 3) (wW sE aB) (fun _ _ => rfl)) (ag (pv 6) ao))))
     (aw (cR (aS (gN hr.qX) (bp cF (bp cS (pv 5) aB) aB) aB (bb _))
      (aw (bo (aL (pv 2) T.aq T.iz lK (hr.mono (by decide)) (ag (dR jB (pv 3) (wW sE aB) (fun _ _ => rfl)) ao))))
      aZ)))))))))
    (ax (bq (i := 7) bS.nd rfl (Or.inl rfl) mK)
    (ax (lI PassesOwn.never rfl (jz (pv 3)) (cU (i := 8) bS.nd rfl (Or.inl rfl))
     (aw (pd (i5 hr) (pv 7) (pv 8) (tT (ag (aL (pv 2) T.aq T.aI aT (hr.mono (by decide)) (ag (pv 8) ao)) (ag (aL (pv 2) T.aq T.cn cX (hr.mono (by decide)) (ag (pv 8) ao)) ao))) rfl)))
    (ax (bq (i := 5) bS.nd rfl (Or.inl rfl) (gL iE (hr.mono (by decide)) rfl T.d9 T.ej (ag (pv 0) (ag aB ao))))
    (ax (bq (i := 9) bS.nd rfl (Or.inl rfl) (dR jB (pv 3) (bp cF (pv 5) (bM c5 rfl T.eW PySem.boot_len (ag (pv 3) ao))) (fun _ _ => rfl)))
    (ax (cR (pe (iG (gL jJ (hr.mono (by decide)) rfl T.fK T.fG (ag (pv 2) (ag (pv 7) (ag (pv 9) ao)))) (fun _ => rfl)))
     (aw (bh gW))
     aZ)
    (ax (bq (i := 10) bS.nd rfl (Or.inl rfl) (n5 (lN rfl) rfl T.iM PyProof.Rows.boot_list (ag (pv 7) ao)))
    (fS (cR (PW.pt (xQ (aS (gN hr.qX) (bp cF (bp cS (pv 5) aB) aB) aB (bb _)) (uc (aS (jr hr.qX) (pv 10) (gk ao) (bb _)))))
     (ax (cR (pe (iG (gL jJ (hr.mono (by decide)) rfl T.fK T.fG (ag (pv 2) (ag (pv 7) (ag (dR jB (pv 10) (bp cF (bp cS (pv 5) aB) (bM c5 rfl T.eW PySem.boot_len (ag (pv 10) ao))) (fun _ _ => rfl)) ao)))) (fun _ => rfl)))
      (aw (bh gW))
      aZ)
     (aw (bq (i := 10) bS.nd rfl (Or.inl rfl) (n5 (lN rfl) rfl T.iM PyProof.Rows.boot_list (ag (pv 7) ao)))))
     aZ)
    (ax (bq (i := 6) bS.nd rfl (Or.inl rfl) j7)
    (fS (cR (PW.pt (xQ (aS (jr hr.qX) (pv 10) (gk ao) (bb _)) (uc (aS (gN hr.qX) (bp cF (bp cS (pv 5) aB) aB) aB (bb _)))))
     (ax (bq (i := 6) bS.nd rfl (Or.inl rfl) (dR jB (pv 10) (bp cF (bp cS (pv 5) aB) (bM c5 rfl T.eW PySem.boot_len (ag (pv 10) ao))) (fun _ _ => rfl)))
     (aw (cR (aS yt (bM c5 rfl T.eW PySem.boot_len (ag (aL (pv 2) T.aq T.aI aT (hr.mono (by decide)) (ag (pv 6) ao)) ao)) aB (bb _))
      (aw (bq (i := 6) bS.nd rfl (Or.inl rfl) j7))
      aZ)))
     aZ)
    (ax (bo (aL (pv 2) T.aq T.eI jN (hr.mono (by decide)) (ag (pv 9) (ag (pv 6) ao))))
    (ax (bq (i := 11) bS.nd rfl (Or.inl rfl) (gk (ag (pv 9) ao)))
    (fS (cR (aS oH (pv 6) j7 (bb _))
     (aw (bq (i := 11) bS.nd rfl (Or.inl rfl) (bp xV (pv 11) (aL (pv 2) T.aq T.aI aT (hr.mono (by decide)) (ag (pv 6) ao)))))
     aZ)
    (aw (bh (rJ (iN xP (aL (pv 2) T.aq T.cn cX (hr.mono (by decide)) (ag (pv 9) ao)) gW (bb _)) (rJ (iN (gN hr.qX) (aL (pv 2) T.aq T.cg d5 (hr.mono (by decide)) (ag (pv 9) ao)) (gk (ag (pv 9) ao)) (bb _)) (xu (iN (gN hr.qX) (aL (pv 2) T.aq T.aI aT (hr.mono (by decide)) (ag (pv 9) ao)) (pv 11) (bb _)))))))))))))))))))))))), ?_⟩
   repeat' (walk_at "rd1")
   rename_i v H2 d1 d2 jb Hr KO uG pn H3 sm3 FW Ng
   generalize cell ns (Int.toNat 0) = st at *
   have pQ := uG.keeps sm3
   have Gd : oi (jX 0 st) := ym (by omega) (by omega)
   refine sW pQ (by simp) Gd.nm rfl (.inl ⟨rfl, rfl⟩) (fun H4 zM AU => ?_)
   have zy : pn ≠ d1 := Ne.symm (uG.ab.ne FW)
   have CG : pn ≠ d2 := Ne.symm (uG.iH.ne FW)
   have LU : qo [] .aP .none := .inl ⟨rfl, rfl⟩
   have L4 : Laid a.af a.ai H4 v d1 d2 pn ([] ++ [(jX 0 st, .none)]) [] 1 st := ⟨AU, GI.nil.add (by simp) rfl Gd LU, rfl, Ng.mv zM (by simp [zy]), ((t1.keeps jb).keeps sm3).LC pQ.ab zM, .top (eG rfl), zy, CG⟩
   have GB : au H H4 := Mv.B9 (jb.trans sm3) zM Hr
   have Oi : dY K H4 l (ns.map V.int) := au.seq GB hl
   generalize ([] ++ [(jX 0 st, PyData.none)] : List (Str × PyData)) = m4 at *
   clear AU pQ uG Ng
   repeat' (walk_at "rd1")
   rename_i q5 H5 w5 Ha Nh
   refine EV 2 21 (au.seq w5 Oi) (fun q6 H6 DG OD O0 => ?_)
   repeat' (walk_at "rd1")
   refine rT (Nh.keeps DG) O0 (by simp; omega) (fun q7 H7 y4 JU Oj => ?_)
   have LO : cw H7 q7 ((3 :: (ns.drop 2).take (21 - 2)).map PyData.int) := Oj
   have fN : (3 :: (ns.drop 2).take (21 - 2)).length <= 20 := by simp; omega
   generalize (3 :: (ns.drop 2).take (21 - 2)) = cs at *
   have CT := (w5.trans DG).trans y4
   have L7 := L4.keeps CT
   have Nb := au.seq CT Oi
   have m1 : q7 ≠ d1 := Ne.symm ((L4.g.keeps (w5.trans DG)).ab.ne JU)
   have m2 : q7 ≠ d2 := Ne.symm ((L4.g.keeps (w5.trans DG)).iH.ne JU)
   have m3 : q7 ≠ pn := Ne.symm ((L4.l.keeps (w5.trans DG)).ne JU)
   clear Nh O0 Oj L4
   repeat' (walk_at "rd1")
   refine Jj (Hb := H7) (cs := cs) LO.dv (fun j σ' H' => ∃ z4 z5 z6 m ms, σ' = [some (.ref l), some (.int st), some v, some (.ref pn), z4, z5, z6, none, none, none, none, none] /\ Mv [d1, d2, pn] H7 H' /\ Laid a.af a.ai H' v d1 d2 pn m ms (j + 1) st) ⟨_, _, _, m4, [], rfl, Mv.refl, L7⟩ (fun i σ' H' _ ⟨_, _, _, _, _, _, mv, _⟩ a' xs e hx => by cases e; exact mv.sq (by simp [m1, m2, m3]) hx) ?_ ?_
   . rintro j c t σ' H8 hc ⟨z4, z5, z6, m, ms, rfl, Dg, L8⟩ ht
     have zO : j < 20 := by have := (List.getElem?_eq_some_iff.mp hc).1; omega
     refine rS aj ?_
     have M7 : au H8 (upd H8 t (.tup [.int (j : Int), .int c])) := bV ht
     generalize upd H8 t (.tup [.int (j : Int), .int c]) = H9 at *
     have L9 := L8.keeps M7
     have PQ := Dg.i7 M7
     have Mg := L9.l
     have Nk := L9.g
     have S2 := Nk.ins
     have FO : (ik (j + 1) st).length = j + 1 := lr
     have tq : ik (j + 1) st ≠ [] := fun z => by rw [z] at FO; cases FO
     repeat' (walk_at "rd1")
     rename_i SR Sv
     have P7 := getD_mem (ss := ik (j + 1) st) (i := (c / 18 % ((ik (j + 1) st).length : Nat)).toNat) (by omega)
     generalize (ik (j + 1) st).getD (c / 18 % ((ik (j + 1) st).length : Nat)).toNat default = x0 at *
     refine ke (fun σ' H' => H9 = H' /\ ∃ x, x ∈ ik (j + 1) st /\ σ' = [some (.ref l), some (.int st), some v, some (.ref pn), some (.int (j : Int)), some (.int c), some (.str x), none, none, none, none, none]) ?_ ?_
     . repeat' (walk_at "rd1")
       . refine AW Mg.dv (.inl ⟨rfl, tq⟩) (fun x hx => ?_)
         repeat' (walk_at "rd1")
         exact ⟨rfl, x, hx, rfl⟩
       . exact ⟨rfl, x0, P7, rfl⟩
     rintro σ1 H' ⟨rfl, x, hx, rfl⟩
     obtain ⟨cx, vP, GJ⟩ := L9.i.ch x (by rw [L9.k]; exact hx)
     have ve : cx.length <= 60 := by omega
     have Q8 := Nk.rd
     refine ke (fun σ' H' => au H9 H' /\ ∃ x cx, Chain m x cx /\ cx.length <= 7 /\ σ' = [some (.ref l), some (.int st), some v, some (.ref pn), some (.int (j : Int)), some (.int c), some (.str x), none, none, none, none, none]) ?_ ?_
     . have P8 : (ik (j + 1) st).getD (Int.toNat 0) default = jX 0 st := by unfold ik; simp
       repeat' (walk_at "rd1")
       . rename_i qq Hq Mp QC Rg hb
         exact ⟨Mp, jX 0 st, [jX 0 st], L9.c, by simp, by rw [<- P8]; rfl⟩
       . rename_i qq Hq Mp QC Rg hb
         exact ⟨Mp, x, cx, vP, by omega, rfl⟩
     rintro σ1 FU ⟨qM, x, cx, vP, L5, rfl⟩
     refine ke (fun σ' H' => FU = H' /\ ∃ y d, qo m y d /\ σ' = [some (.ref l), some (.int st), some v, some (.ref pn), some (.int (j : Int)), some (.int c), some y, none, none, none, none, none]) ?_ ?_
     . repeat' (walk_at "rd1")
       . exact ⟨rfl, .aP, .none, .inl ⟨rfl, rfl⟩, rfl⟩
       . exact ⟨rfl, .str x, .str x, .inr ⟨x, cx, rfl, rfl, vP, L5⟩, rfl⟩
     rintro σ1 H' ⟨rfl, y, d, wt, rfl⟩
     have sV := L9.keeps qM
     have tu := sV.l
     have Li : ((ik (j + 1) st).map PyData.str).length <= 40 := by rw [List.length_map, FO]; omega
     repeat' (walk_at "rd1")
     rename_i NA zY CO
     have ec : ((j : Int) + 1) = ((j + 1 : Nat) : Int) := by omega
     rw [ec] at CO ⊢
     have kD : bK m (jX ((j + 1 : Nat) : Int) st) = none := jF (by rw [sV.k]; exact AQ (by omega))
     have Gx : oi (jX ((j + 1 : Nat) : Int) st) := ym (by omega) (by omega)
     have wM := sV.g.Gp tu zY
     have Ki : m.length = j + 1 := by have := congrArg List.length sV.k; rwa [List.length_map, lr] at this
     refine sW wM (by omega) Gx.nm kD wt (fun BX Es om => ?_)
     have Gw : cw BX pn ((ik (j + 1) st).map PyData.str ++ [.str (jX ((j + 1 : Nat) : Int) st)]) := CO.mv Es (by simp [sV.n1])
     have IA : (m ++ [(jX ((j + 1 : Nat) : Int) st, d)]).map (·.1) = ik (j + 1 + 1) st := by rw [List.map_append, sV.k, qU (n := j + 1)]; rfl
     have GK : cw BX pn ((ik (j + 1 + 1) st).map PyData.str) := by rw [qU (n := j + 1), List.map_append]; exact Gw
     have DE := sV.i.add (by omega) kD Gx wt
     have yH : iF BX a.ai := (sV.t.Gp tu zY).LC wM.ab Es
     have Od : Mv [d1, d2, pn] H7 BX := ((PQ.i7 qM).step zY (by simp)).step Es (by simp)
     have NZ : Laid a.af a.ai BX v d1 d2 pn (m ++ [(jX ((j + 1 : Nat) : Int) st, d)]) ms (j + 1 + 1) st := ⟨om, DE, IA, GK, yH, sV.c.app, sV.n1, sV.n2⟩
     have LW := om.ins
     have Gq := DE.Il
     have FY : (bK (m ++ [(jX ((j + 1 : Nat) : Int) st, d)]) (jX ((j + 1 : Nat) : Int) st)).isSome = true := by rw [eG kD]; rfl
     repeat' (walk_at "rd1")
     . refine Av om Gq (by have := sV.i.MP; omega) FY (fun Sn JC RT wq Lw NN Qh o8 => ?_)
       repeat' (walk_at "rd1")
       exact ⟨_, _, _, _, putD ms (jX ((j + 1 : Nat) : Int) st) (.bool true), rfl, Od.step wq (by simp), ⟨o8, DE.put (iR FY), IA, GK.mv wq (by simp [sV.n2]), yH.LC om.iH wq, NZ.c, sV.n1, sV.n2⟩⟩
     . exact ⟨_, _, _, _, ms, rfl, Od, NZ⟩
   . rintro σ' H8 ⟨z4, z5, z6, m, ms, rfl, Dg, L8⟩
     repeat' (walk_at "rd1")
     rename_i ps H9 Cj F8 OZ
     have hN : cs.length + 1 <= 21 := by omega
     generalize cs.length + 1 = N at *
     have L9 := L8.keeps Cj
     have N1 : pn ≠ ps := L8.l.ne F8
     have JL : ps ≠ d1 := Ne.symm (L8.g.ab.ne F8)
     have JB : ps ≠ d2 := Ne.symm (L8.g.iH.ne F8)
     have yE : je H9 ps [] (pK 60 m) (kW ms) := zW OZ
     have Du : (ik N st).Nodup := by rw [<- L9.k]; exact L9.i.nd
     refine w9 (Hb := H9) (cs := ik N st) (gd := PyData.str) L9.l.dv (fun j σ' H' => ∃ z8, σ' = [some (.ref l), some (.int st), some v, some (.ref pn), z4, z5, z6, some (.ref ps), z8, none, none, none] /\ Mv [ps] H9 H' /\ je H' ps ((ik N st).take j) (pK 60 m) (kW ms)) ⟨_, rfl, Mv.refl, by rw [List.take_zero]; exact yE⟩ (fun i σ' H' _ ⟨_, _, mv, _⟩ a' xs e hx => by cases e; exact mv.sq (by simp [N1]) hx) ?_ ?_
     . rintro j x v' σ' FU hj ⟨z8, rfl, qV, pT⟩ hI RH
       obtain rfl := (hI rfl (fun b xs e => qV.tp b xs e)).str_inv
       have JM : x ∈ m.map (·.1) := by rw [L9.k]; exact List.mem_of_getElem? hj
       obtain ⟨cx, vP, GJ⟩ := L9.i.ch x JM
       have ve : cx.length <= 60 := by omega
       have xj := L9.g.F3 yE JL JB qV
       have Qd := xj.ins
       have OO := xj.rd
       have Sj := cQ JM
       repeat' (walk_at "rd1")
       rename_i qc NA IK Rj zD tt BX sX LZ IC
       have HS : pK 60 m x = cx := vP.fn ve
       have Gk : x ∉ (ik N st).take j := fun hh => by
        have zO := (List.getElem?_eq_some_iff.mp hj).1
        obtain ⟨i, hi, e⟩ := List.getElem_of_mem hh
        rw [List.getElem_take] at e
        have kP : i < j := by rw [List.length_take] at hi; omega
        have := (List.pairwise_iff_getElem.mp (List.nodup_iff_pairwise_ne.mp Du)) i j (by omega) zO kP
        exact this (e.trans (List.getElem?_eq_some_iff.mp hj).2.symm)
       refine zu ((pT.keeps IK).keeps sX) (by rw [List.length_take, lr]; omega) Gk IC (by rw [HS]; exact zD.keeps sX) (fun JC wq Eg => ?_)
       refine ⟨_, rfl, ((qV.i7 IK).i7 sX).trans wq, ?_⟩
       rw [List.take_add_one, hj]
       exact Eg
     . rintro σ' FU ⟨z8, rfl, qV, pT⟩
       rw [List.take_of_length_le (Nat.le_refl _)] at pT
       have xj := L9.g.F3 yE JL JB qV
       have tu := L9.l.mv qV (by simp [N1])
       have Gu : iF FU a.ai := oV L9.t qV (fun c hc => by rw [List.mem_singleton.mp hc]; exact .inr (ya yE))
       have HR : au H H8 := fun c u e => Dg.kp c u (fun z => by
        have : c = d1 \/ c = d2 \/ c = pn := by simpa using z
        rcases this with rfl | rfl | rfl
        . rw [Hr] at e; cases e
        . rw [KO] at e; cases e
        . rw [jb.none FW] at e; cases e) ((GB.trans CT) c u e)
       have Ii : au H FU := fun c u e => qV.kp c u (fun z => by
        rw [List.mem_singleton.mp z, HR.none F8] at e; cases e) ((HR.trans Cj) c u e)
       have G3 := au.seq Ii hl
       have hG := L9.i
       have hS : Std m ms (ik N st) (pK 60 m) (kW ms) := ⟨L9.k.symm, fun x hx => by
        obtain ⟨cx, vP, fN⟩ := hG.ch x (by rw [L9.k]; exact hx)
        rw [vP.fn (by omega)]; exact vP, fun _ _ => rfl⟩
       have NY : 0 < N := by
        rcases Nat.eq_zero_or_pos N with rfl | h
        . have := L9.k; have h2 := iR (L9.c.has); rw [this] at h2; simp [ik] at h2
        . exact h
       have FO : (ik N st).length = N := lr
       clear OZ yE
       repeat' (walk_at "rd1")
       rename_i R5 SG
       have NR := getD_mem (ss := ik N st) (i := (cell ns (Int.toNat 1) % ((ik N st).length : Nat)).toNat) (by omega)
       generalize (ik N st).getD (cell ns (Int.toNat 1) % ((ik N st).length : Nat)).toNat default = fn at *
       generalize cell ns (Int.toNat 1) = cc at *
       refine t4 xj hG pT hS NR Gu JL JB (fun NA FH zY FE wM C4 Je => ?_)
       have Oz : fn ∈ m.map (·.1) := by rw [L9.k]; exact NR
       have EG : oi fn := hG.ok fn Oz
       have IH : bK (aW m FH) fn = none := by rw [dG, if_pos (hG.fst Oz FE)]
       have FL := hG.Fi FE
       have F0 := hS.out hG FE
       generalize aW m FH = m1 at *
       generalize aW ms FH = Ow at *
       have DH : ((ik N st).filter (fun x => decide (x ∉ FH))).length <= 21 := by have := List.length_filter_le (fun x => decide (x ∉ FH)) (ik N st); omega
       generalize (ik N st).filter (fun x => decide (x ∉ FH)) = k1 at *
       have Iq : m1.length <= 21 := by rw [F0.k, List.length_map] at DH; exact DH
       have QT : k1.length <= 40 := by rw [F0.k, List.length_map]; exact FL.len
       have MS : ∀ x ∈ k1, oi x := fun x hx => FL.ok x (F0.k ▸ hx)
       repeat' (walk_at "rd1")
       refine tO C4 (fun ql BX sX LZ JF => ?_)
       have om := wM.keeps sX
       have Ip := C4.keeps sX
       have yH := Je.keeps sX
       have LW := om.ins
       repeat' (walk_at "rd1")
       refine ke (fun σ' H' => ∃ (m2 y6 : List (Str × PyData)) (ql : Addr), dO a.af H' v d1 d2 m2 y6 /\ GI m2 y6 /\ m2.length <= 21 /\ cw H' ql ((m2.map (·.1)).map PyData.str) /\ bK m2 fn = none /\ σ' = [some (.ref l), some (.int st), some v, some (.ref pn), z4, some (.int cc), z6, some (.ref ps), z8, some (.str fn), some (.ref ql), none]) ?_ ?_
       . have same : ∀ Hx, au BX Hx -> ∃ (m2 y6 : List (Str × PyData)) (N7 : Addr), dO a.af Hx v d1 d2 m2 y6 /\ GI m2 y6 /\ m2.length <= 21 /\ cw Hx N7 ((m2.map (·.1)).map PyData.str) /\ bK m2 fn = none /\ [some (.ref l), some (.int st), some v, some (.ref pn), z4, some (.int cc), z6, some (.ref ps), z8, some (.str fn), some (.ref ql), none] = [some (.ref l), some (.int st), some v, some (.ref pn), z4, some (.int cc), z6, some (.ref ps), z8, some (.str fn), some (.ref N7), none] := fun Hx sx => ⟨m1, Ow, ql, om.keeps sx, FL, Iq, by rw [<- F0.k]; exact JF.keeps sx, IH, rfl⟩
         repeat' (walk_at "rd1")
         . rename_i Sf S0 SX pz JC lP Lw Mf
           refine pP (JF.keeps lP).dv Mf.dv MS ?_
           have o8 := om.keeps lP
           have Eg := Ip.keeps lP
           have KA := yH.keeps lP
           have Lp := o8.ins
           have Ni := JF.keeps lP
           by_cases hk : k1 = []
           . have D8 : k1.isEmpty = true := by rw [hk]; rfl
             rw [D8]
             repeat' (walk_at "rd1")
             exact same _ lP
           . have D8 : k1.isEmpty = false := by cases k1 with | nil => exact absurd rfl hk | cons _ _ => rfl
             have Ry : 0 < k1.length := List.length_pos_iff.mpr hk
             rw [D8]
             repeat' (walk_at "rd1")
             rename_i QA QJ
             have FY := getD_mem (ss := k1) (i := (cc / 42 % (k1.length : Nat)).toNat) (by omega)
             generalize k1.getD (cc / 42 % (k1.length : Nat)).toNat default = sn at *
             refine t4 o8 FL Eg F0 FY KA JL JB (fun NC Nc PX G2 ti Lh RE => ?_)
             repeat' (walk_at "rd1")
             refine tO Lh (fun QX Ma A1 Km Kg => ?_)
             repeat' (walk_at "rd1")
             refine ⟨aW m1 Nc, aW Ow Nc, QX, ti.keeps A1, FL.Fi G2, ?_, ?_, by rw [dG]; split; rfl; exact IH, rfl⟩
             . rw [bP]; exact Nat.le_trans (List.length_filter_le _ _) Iq
             . rw [<- (F0.out FL G2).k]; exact Kg
         . exact same _ (au.refl _)
       rintro σ1 JC ⟨m2, y6, N8, o8, EE, RJ, Jp, sk, rfl⟩
       have RK : (m2.map (·.1)).length <= 40 := by rw [List.length_map]; exact EE.len
       have MN : ∀ x ∈ m2.map (·.1), oi x := EE.ok
       have Lp := o8.ins
       have Ob := o8.rd
       clear Ip yH om JF C4 wM Je pT xj tu Gu
       repeat' (walk_at "rd1")
       refine ke (fun σ' H' => au JC H' /\ ∃ y d cy, qo m2 y d /\ ((y = .aP /\ cy = []) \/ ∃ b, y = .str b /\ Chain m2 b cy /\ cy.length <= 7) /\ σ' = [some (.ref l), some (.int st), some v, some (.ref pn), z4, some (.int cc), some y, some (.ref ps), z8, some (.str fn), some (.ref N8), none]) ?_ ?_
       . repeat' (walk_at "rd1")
         rename_i pz NC ou RO Mf
         refine pP (Jp.keeps ou).dv Mf.dv MN ?_
         have ti := o8.keeps ou
         have K9 := ti.ins
         have GO := ti.rd
         have Nt := Jp.keeps ou
         generalize Qp : m2.map (·.1) = k2 at *
         by_cases hk : k2 = []
         . have D8 : k2.isEmpty = true := by rw [hk]; rfl
           rw [D8]
           repeat' (walk_at "rd1")
           exact ⟨ou, .aP, .none, [], .inl ⟨rfl, rfl⟩, .inl ⟨rfl, rfl⟩, rfl⟩
         . have D8 : k2.isEmpty = false := by cases k2 with | nil => exact absurd rfl hk | cons _ _ => rfl
           have Ry : 0 < k2.length := List.length_pos_iff.mpr hk
           rw [D8]
           repeat' (walk_at "rd1")
           . rename_i QA QJ SM SA SU
             have FY := getD_mem (ss := k2) (i := (cc / 3528 % (k2.length : Nat)).toNat) (by omega)
             generalize k2.getD (cc / 3528 % (k2.length : Nat)).toNat default = sn at *
             obtain ⟨cx, vP, GJ⟩ := EE.ch sn (by rw [Qp]; exact FY)
             have ve : cx.length <= 60 := by omega
             refine qp GO vP ve (fun qc Ma A1 Km zD => ?_)
             repeat' (walk_at "rd1")
             . exact ⟨ou.trans A1, .aP, .none, [], .inl ⟨rfl, rfl⟩, .inl ⟨rfl, rfl⟩, rfl⟩
             . rename_i hb
               exact ⟨ou.trans A1, .str sn, .str sn, cx, .inr ⟨sn, cx, rfl, rfl, vP, by omega⟩, .inr ⟨sn, rfl, vP, by omega⟩, rfl⟩
           . exact ⟨ou, .aP, .none, [], .inl ⟨rfl, rfl⟩, .inl ⟨rfl, rfl⟩, rfl⟩
       rintro σ1 NC ⟨ou, y, d, cy, wt, KL, rfl⟩
       have ti := o8.keeps ou
       have K9 := ti.ins
       repeat' (walk_at "rd1")
       refine sW ti (by have := EE.len; omega) EG.nm sk wt (fun Ma PH Fl => ?_)
       have Nx : Chain (m2 ++ [(fn, d)]) fn (fn :: cy) := by
        rcases KL with ⟨rfl, rfl⟩ | ⟨b, rfl, hc, fN⟩
        . rcases wt with ⟨_, rfl⟩ | ⟨b', c', e, _⟩
          . exact .top (eG sk)
          . cases e
        . rcases wt with ⟨e, _⟩ | ⟨b', c', e, rfl, _⟩
          . cases e
          . cases e; exact .up (eG sk) hc.app
       have MK : (fn :: cy).length <= 60 := by
        rcases KL with ⟨_, rfl⟩ | ⟨b, _, _, fN⟩
        . simp
        . simp only [List.length_cons]; omega
       have Ol : GI (m2 ++ [(fn, d)]) y6 := EE.add (by omega) sk EG wt
       have PJ := Fl.ins
       have Hv := Fl.rd
       repeat' (walk_at "rd1")
       rename_i qh Sl zS Qs NB
       have GW := Hv.keeps zS
       have RM := GW.ins
       refine ke (fun σ' H' => ∃ qh, au Ma H' /\ cw H' qh ((fn :: cy).map PyData.str) /\ σ' = [some (.ref l), some (.int st), some v, some (.ref pn), z4, some (.int cc), some y, some (.ref ps), z8, some (.str fn), some (.ref N8), some (.ref qh)]) ?_ ?_
       . rcases KL with ⟨rfl, rfl⟩ | ⟨b, rfl, hc, fN⟩
         . repeat' (walk_at "rd1")
           all_goals first
            | exact ⟨qh, zS, NB, rfl⟩
            | (exfalso; rename_i hb; cases hb; done)
            | trace_state
         . have SH : Chain (m2 ++ [(fn, d)]) b cy := hc.app
           have N4 : cy.length <= 60 := by omega
           repeat' (walk_at "rd1")
           all_goals first
            | (rename_i qc O2 rL HG zD q9 OV se G5 LN; exact ⟨q9, (zS.trans rL).trans se, LN, rfl⟩)
            | (rename_i qc O2 rL HG zD; refine rT (NB.keeps rL) zD (by simp; omega) (fun q9 OV se G5 LN => ?_); repeat' (walk_at "rd1"); exact ⟨q9, (zS.trans rL).trans se, LN, rfl⟩)
            | trace_state
       rintro σ1 R6 ⟨Sy, MR, Kw, rfl⟩
       have II := Fl.keeps MR
       have HX := II.rd
       have Ph := II.ins
       have NX := Ol.Il
       have Sh : (bK (m2 ++ [(fn, d)]) fn).isSome = true := by rw [eG sk]; rfl
       have QD : kW y6 fn = false := by
        cases h : kW y6 fn with
        | false => rfl
        | true => have := cQ (EE.iH fn h); rw [sk] at this; cases this
       repeat' (walk_at "rd1")
       . rename_i J0 qw O2 sw rL HG Ju Sd Qt qz OV se G5 QL
         have QK : sw = [fn] := by
          rw [DB EE sk Nx MK] at Ju
          exact List.perm_singleton.mp Ju
         subst QK
         have Qb : ∀ x ∈ [fn], oi x := fun x hx => by rw [List.mem_singleton.mp hx]; exact EG
         refine j4 (Qt.keeps se).dv QL.dv Qb ?_
         have F5 := (HX.keeps rL).keeps se
         have P2 := F5.ins
         have Ru : ∀ x ∈ fn :: cy, oi x := fun x hx => Ol.ok x (iR (Nx.all x hx))
         repeat' (walk_at "rd1")
         rename_i qc RY Ks PZ zD
         refine j4 zD.dv (((Kw.keeps rL).keeps se).keeps Ks).dv Ru ?_
         repeat' (walk_at "rd1")
         exact q _
       . rename_i hb
         exact absurd QD hb
end
end My
open PySem PySem.W PyProof.Rows
local macro_rules | `(tactic| walk_at "k_dg") => `(tactic| (refine' ⟨?a, ⟨_, L2.tL ?l ?c⟩, ?k⟩; (case a => k_is); (case l => k_is); (case c => k_is); (case k => k_is)))
local macro_rules | `(tactic| walk_at "k_dm") => `(tactic| (refine' ⟨?a, ⟨_, L2.tL ?l ?c⟩, ?k, ?i⟩; (case a => k_is); (case l => k_is); (case c => k_is); (case k => k_is); (case i => k_is)))
local macro_rules | `(tactic| walk_at "k_dt") => `(tactic| (refine' My.BA ?l; (case l => k_is)))
local macro_rules | `(tactic| walk_at "k_ck") => `(tactic| (refine' ⟨?a, ?b, ?c, ?d, ?e, ?f, ?g⟩; (case a => k_is); (case b => k_is); (case c => k_is); (case d => k_is); (case e => k_is); (case f => k_is); (case g => k_is)))
local macro_rules | `(tactic| walk_at "k_xl") => `(tactic| (refine' My.Fc ?l; (case l => k_is)))
local macro_rules | `(tactic| walk_at "k_lm") => `(tactic| (refine' L2.A3 ?l ?e ?lc ?ev ?cd ?no; (case l => k_is); (case e => exact rfl); (case lc => k_is); (case ev => exact rfl); (case cd => kernel_rfl); (case no => kernel_rfl)))
theorem My.Lc {K : Frag} {mg : Str -> Option Value} {h : Heap} {fa : Addr} {ts : List Addr} {w : World} (X : K.In h) (DQ : mg "law" = some (.ref fa)) (T : ∃ a : My.Ad, a.tabs = ts /\ My.Txt K mg a) :
 ∃ fd : FuncData, (∀ (s : Shared) (u : Value), BindsTo s fd ⟨[u], []⟩ [("_law_script", u)]) /\ (∀ b ∈ ts, K.lookup b = none /\ ∃ c, CodeHd h c b) /\
   ∀ base : Heap, K.In base -> base.Ns mainGlobals mg -> L2.BM mg base -> L2.bH PySem.Challenge.rw_wakefew_k25_what_ends.prog w K mg base L2.jR 16 fa fd ["_law_script"] (My.sG ts K) := by
 obtain ⟨a, rfl, T⟩ := T
 have e0 := DQ.symm.trans T.yG
 cases e0
 refine ⟨a.oo, fun s u => My.uN T s u, fun b hb => ?_, fun base kb nb bm => (My.Fz T ⟨kb, bm⟩).mono (by decide)⟩
 rcases T.zh b hb with rfl
 exact ⟨T.bW.no, _, codeHd_of_K X T.bW.cd⟩
theorem PySem.W.Fast.tw11065378216285908944 : True := trivial
theorem PySem.W.Fast.tw2707573867545023030 : True := trivial
theorem PySem.W.Fast.tw8580400575777747398 : True := trivial
theorem PySem.W.Fast.tw11923329447045424734 : True := trivial
theorem PySem.W.Fast.tw6634270122929297749 : True := trivial
theorem PySem.W.Fast.tw8961082963046310427 : True := trivial
theorem PySem.W.Fast.tw16482706267117011140 : True := trivial
theorem PySem.W.Fast.tw12001820798170385658 : True := trivial
set_option maxRecDepth 100000 in
set_option maxHeartbeats 0 in
theorem PySem.Challenge.cw_wakefew_k25_what_ends_holds : PySem.Challenge.rw_wakefew_k25_what_ends.Holds := by
 w_on; o_law; k_head; (case hw => w_witness2)
 k_fill
 refine L2.yV (l := PySem.Challenge.rw_wakefew_k25_what_ends) (n := 63) (k := 16) (x := "_law_script") (CX := L2.jR) (sp := My.sG) rfl (by decide) rfl ⟨rfl, by decide, by decide⟩ (fun w h Y => ⟨PySem.W.km_in_of Y, PySem.W.km_tabs_of Y⟩) ?F ?S ?C
 case F =>
  intro w mg fa h KX G DQ
  refine My.Lc KX DQ ?_
  try dsimp only
  refine' My.C0 KX G ?h0 ?h1 ?h2 ?h3 ?h4 ?h5 ?h6 ?h7 ?h8 ?h9 ?h10 ?h11 ?h12 ?h13 ?h14 ?h15 ?h16 ?h17 ?h18 ?h19 ?h20 ?h21 ?h22 ?h23 ?h24 ?h25 ?h26 ?h27 ?h28 ?h29 ?h30 ?h31 ?h32 ?h33 ?h34 ?h35 ?h36 ?h37 ?h38 ?h40 ?h41 ?h43 ?h44 ?h46 ?h49 ?h50 ?h51 ?h52 ?h53 ?h55 ?h56 ?h57 ?h58 ?h64 ?h65 ?h66 ?h67 ?h68 ?h70 ?h71 ?h72 ?h79 ?h80 ?h81 ?h82 ?h83 ?h85 ?h86 ?h87 ?h94 ?h95 ?h96 ?h97 ?h98 ?h99 ?h100 ?h101 ?h102 ?h103 ?h104
  (case h0 => k_is)
  (case h1 => k_is)
  (case h2 => k_is)
  (case h3 => k_is)
  (case h4 => k_is)
  (case h5 => k_is)
  (case h6 => k_is)
  (case h7 => walk_at "k_dm")
  (case h8 => walk_at "k_dm")
  (case h9 => walk_at "k_dm")
  (case h10 => walk_at "k_dm")
  (case h11 => walk_at "k_dm")
  (case h12 => walk_at "k_dt")
  (case h13 => walk_at "k_dm")
  (case h14 => walk_at "k_dm")
  (case h15 => walk_at "k_dm")
  (case h16 => walk_at "k_dm")
  (case h17 => walk_at "k_dm")
  (case h18 => walk_at "k_dm")
  (case h19 => walk_at "k_dm")
  (case h20 => walk_at "k_dm")
  (case h21 => walk_at "k_lm")
  (case h22 => decide)
  (case h23 => walk_at "k_dm")
  (case h24 => walk_at "k_dm")
  (case h25 => walk_at "k_dm")
  (case h26 => walk_at "k_dm")
  (case h27 => walk_at "k_dg")
  (case h28 => walk_at "k_dg")
  (case h29 => walk_at "k_dg")
  (case h30 => walk_at "k_dg")
  (case h31 => walk_at "k_dg")
  (case h32 => walk_at "k_ck")
  (case h33 => k_is)
  (case h34 => k_is)
  (case h35 => k_is)
  (case h36 => k_is)
  (case h37 => walk_at "k_xl")
  (case h38 => k_is)
  (case h40 => walk_at "k_xl")
  (case h41 => k_is)
  (case h43 => walk_at "k_xl")
  (case h44 => k_is)
  (case h46 => k_exc)
  (case h49 => k_is)
  (case h50 => k_is)
  (case h51 => k_is)
  (case h52 => k_is)
  (case h53 => k_is)
  (case h55 => k_is)
  (case h56 => k_is)
  (case h57 => k_is)
  (case h58 => k_is)
  (case h64 => k_is)
  (case h65 => k_is)
  (case h66 => k_is)
  (case h67 => k_is)
  (case h68 => k_is)
  (case h70 => k_is)
  (case h71 => k_is)
  (case h72 => k_is)
  (case h79 => k_is)
  (case h80 => k_is)
  (case h81 => k_is)
  (case h82 => k_is)
  (case h83 => k_is)
  (case h85 => k_is)
  (case h86 => k_is)
  (case h87 => k_is)
  (case h94 => k_is)
  (case h95 => k_is)
  (case h96 => k_is)
  (case h97 => decide)
  (case h98 => k_is)
  (case h99 => k_is)
  (case h100 => k_is)
  (case h101 => k_is)
  (case h102 => k_is)
  (case h103 => k_is)
  (case h104 => k_is)
 case S => exact fun K H l ns hl hS hT => ⟨l, ns, rfl, hS, hl, hT, fun _ => rfl⟩
 case C => exact fun H s e s' h => h
