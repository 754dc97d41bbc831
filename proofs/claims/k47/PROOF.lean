import PyProof.Rows.All
import Wide.All
import OpenK.AllK
import Wide.FinOn
import Lean
import PyProof.EqAt
import PyProof.EqKinds
import PyProof.TupleCall
import PyProof.StrLawsRepr
import PySem.Challenge.RW_wakefew_k47_whole_thin_shown
set_option compiler.extract_closed false
set_option Elab.async false
set_option linter.all false
set_option maxRecDepth 100000
namespace L2
open PySem PySem.Spec PyProof.Rows
abbrev Key := Sum Int Str
def kM : Key -> Value -> Bool
 | .inl k, v => Value.isInt k v
 | .inr x, v => Value.isStrOf x v
def IJ (w : World) : Key -> Int
 | .inl k => hashInt k
 | .inr x => hashStr w x
theorem bu : ∀ {k : Key} {v : Value}, kM k v = true -> (∃ i t, k = Sum.inl i /\ v = Value.int i t) \/ (∃ x t, k = Sum.inr x /\ v = Value.str x t)
 | .inl i, v, h => by
   obtain ⟨t, e⟩ := Value.isInt_shape (k := i) (v := v) h
   exact .inl ⟨i, t, rfl, e⟩
 | .inr x, v, h => by
   obtain ⟨t, e⟩ := Value.isStrOf_shape (x := x) (v := v) h
   exact .inr ⟨x, t, rfl, e⟩
theorem sZ (i : Int) (t : Tok) : kM (.inl i) (.int i t) = true := by simp [kM, Value.isInt]
theorem tO (x : Str) (t : Tok) : kM (.inr x) (.str x t) = true := by simp [kM, Value.isStrOf]
theorem CU (a b : Int) : decide ((Sum.inl a : Key) = Sum.inl b) = (a == b) := by
 by_cases e : a = b
 . subst e; simp
 . have h : ¬ (Sum.inl a : Key) = Sum.inl b := fun q => e (Sum.inl.inj q)
   rw [decide_eq_false h]
   exact (beq_eq_false_iff_ne.mpr e).symm
theorem A4 (a b : Str) : decide ((Sum.inr a : Key) = Sum.inr b) = decide (a = b) := by
 by_cases e : a = b
 . subst e; simp
 . have h : ¬ (Sum.inr a : Key) = Sum.inr b := fun q => e (Sum.inr.inj q)
   rw [decide_eq_false h, decide_eq_false e]
theorem Cw (a : Int) (b : Str) : decide ((Sum.inl a : Key) = Sum.inr b) = false := decide_eq_false (fun q => nomatch q)
theorem B8 (a : Str) (b : Int) : decide ((Sum.inr a : Key) = Sum.inl b) = false := decide_eq_false (fun q => nomatch q)
def aY (prog : Program) (w : World) : PySem.KeyKind prog w Key where
 is := kM
 hash := IJ w
 inj := fun v a b ha hb => by
  rcases bu ha with ⟨i, t, rfl, rfl⟩ | ⟨x, t, rfl, rfl⟩
  . rcases bu hb with ⟨j, u, rfl, e⟩ | ⟨y, u, rfl, e⟩
    . injection e with e1 _; rw [e1]
    . exact nomatch e
  . rcases bu hb with ⟨j, u, rfl, e⟩ | ⟨y, u, rfl, e⟩
    . exact nomatch e
    . injection e with e1 _; rw [e1]
 byValue := fun k v h => by
  rcases bu h with ⟨i, t, rfl, rfl⟩ | ⟨x, t, rfl, rfl⟩ <;> rfl
 pyHash := fun hv h => by
  rcases bu hv with ⟨i, t, rfl, rfl⟩ | ⟨x, t, rfl, rfl⟩
  . exact wpAny_pyHash_int h
  . exact wpAny_pyHash_str h
 eqBool := fun hu hv h => by
  rcases bu hu with ⟨i, t, rfl, rfl⟩ | ⟨x, t, rfl, rfl⟩
  . rcases bu hv with ⟨j, u, rfl, rfl⟩ | ⟨y, u, rfl, rfl⟩
    . rw [CU] at h; exact wpAny_eqBool_int h
    . rw [Cw] at h; exact SeqAt.EqAt.int_str i t y u _ _ _ _ h
  . rcases bu hv with ⟨j, u, rfl, rfl⟩ | ⟨y, u, rfl, rfl⟩
    . rw [B8] at h; exact SeqAt.EqAt.str_int x t j u _ _ _ _ h
    . rw [A4] at h; exact wpAny_eqBool_str h
 «strs» := fun k x t v h => by
  rcases bu h with ⟨i, u, rfl, e⟩ | ⟨y, u, rfl, e⟩
  . exact nomatch e
  . injection e with e1 _
    subst e1
    cases v <;> rfl
theorem o8 (prog : Program) (w : World) (i : Int) (t : Tok) : (aY prog w).is (.inl i) (.int i t) = true := sZ i t
theorem oK (prog : Program) (w : World) (x : Str) (t : Tok) : (aY prog w).is (.inr x) (.str x t) = true := tO x t
inductive V where
 | bz | bl (b : Bool) | int (i : Int) | str (x : Str) | uw (b : Array UInt8) | Eb (b : UInt64) | ref (a : Addr) | ty (n : String)
 deriving DecidableEq
def RelV : V -> Value -> Prop
 | .bz, u => u = Value.none
 | .bl b, u => u = Value.bool b
 | .int i, u => ∃ t, u = Value.int i t
 | .str x, u => ∃ t, u = Value.str x t
 | .uw b, u => ∃ t, u = Value.bytes b t
 | .Eb b, u => ∃ t, u = Value.float b t
 | .ref a, u => u = Value.ref a
 | .ty n, u => u = Value.type n
abbrev Vals : List V -> List Value -> Prop := Paired RelV
theorem Vals.length {xs : List V} {us : List Value} (r : Vals xs us) : xs.length = us.length := Paired.length r
theorem Vals.get : ∀ {xs : List V} {us : List Value} {i : Nat} {x : V}, Vals xs us -> xs[i]? = some x -> ∃ u, us[i]? = some u /\ RelV x u
 | _, _, _, _, .nil, e => by simp at e
 | _, _, 0, _, .cons r _, e => by simp at e; subst e; exact ⟨_, rfl, r⟩
 | _, _, i + 1, x, .cons _ t, e => by
   obtain ⟨u, h1, h2⟩ := Vals.get (i := i) (x := x) t (by simpa using e)
   exact ⟨u, by simpa using h1, h2⟩
theorem Vals.set {x : V} {u : Value} (r : RelV x u) : ∀ {xs : List V} {us : List Value} (i : Nat), Vals xs us -> Vals (xs.set i x) (us.set i u)
 | _, _, _, .nil => .nil
 | _, _, 0, .cons _ t => .cons r t
 | _, _, i + 1, .cons q t => .cons q (Vals.set r i t)
theorem Vals.append : ∀ {xs ys : List V} {us ws : List Value}, Vals xs us -> Vals ys ws -> Vals (xs ++ ys) (us ++ ws)
 | _, _, _, _, .nil, s => s
 | _, _, _, _, .cons r t, s => .cons r (Vals.append t s)
theorem Vals.take : ∀ {xs : List V} {us : List Value} (n : Nat), Vals xs us -> Vals (xs.take n) (us.take n)
 | _, _, 0, _ => .nil
 | _, _, _ + 1, .nil => .nil
 | _, _, n + 1, .cons r t => .cons r (Vals.take n t)
theorem Vals.drop : ∀ {xs : List V} {us : List Value} (n : Nat), Vals xs us -> Vals (xs.drop n) (us.drop n)
 | _, _, 0, r => r
 | _, _, _ + 1, .nil => .nil
 | _, _, n + 1, .cons _ t => Vals.drop n t
def j4 : Option V -> Option Value -> Prop
 | some v, some u => RelV v u
 | none, none => True
 | _, _ => False
def KV {κ : Type} : List (κ × V) -> List (κ × Value) -> Prop := Paired fun (p : κ × V) (q : κ × Value) => p.1 = q.1 /\ RelV p.2 q.2
def kV : Key -> V
 | .inl i => .int i
 | .inr x => .str x
inductive HO where
 | lst (xs : List V)
 | tup (xs : List V)
 | dK (kvs : List (Key × V)) | dT (kvs : List (List Key × V))
 | set (S : Int -> Bool) (n : Nat)
 | ins (C dx : Addr) (fs : List (Str × V))
 | own (x : Addr)
 | xd (fs : List (Str × V))
 | met (f x : Addr)
 | Jx (lo hi : Int)
 | rg (o : Obj) (u : HO)
 | DV (ps : Array Value)
 | ext (φ : Heap -> Prop)
abbrev Hp := Addr -> Option HO
def upd (H : Hp) (a : Addr) (o : HO) : Hp := fun b => if b = a then some o else H b
theorem aA {H : Hp} {a : Addr} {o : HO} : upd H a o a = some o := by unfold upd; rw [if_pos rfl]
theorem aw {H : Hp} {a b : Addr} {o : HO} (h : b ≠ a) : upd H a o b = H b := by unfold upd; rw [if_neg h]
theorem Fo {H : Hp} {a b : Addr} {o u : HO} (h : H a = some o) (h' : H b = some u) (d : o ≠ u) : a ≠ b := by
 intro e; subst e; rw [h] at h'; exact d (Option.some.inj h')
theorem aH {H : Hp} {a b : Addr} {o : HO} (h : H a = some o) (h' : H b = none) : a ≠ b := by
 intro e; subst e; rw [h] at h'; cases h'
section
variable (P : Program) (w : World)
def bp (H : Hp) (h : Heap) (a : Addr) : HO -> Prop
 | .lst xs => xs.length <= sizeLine /\ ∃ (aD : List Value) (n : Nat), Vals xs aD /\ h.get? a = some { cls := .type "list", data := .seq aD.toArray n }
 | .tup xs => xs.length <= sizeLine /\ ∃ aD : List Value, Vals xs aD /\ IsTup h a aD.toArray
 | .dK kvs => kvs.length <= sizeLine /\ (a == sysModules) = false /\ ∃ vs, KV kvs vs /\ h.DictOf (aY P w) a vs
 | .dT kvs => kvs.length <= sizeLine /\ (a == sysModules) = false /\ ∃ xs : List (List Key × Addr × Value),
  Paired (fun (p : List Key × V) (q : List Key × Addr × Value) => p.1 = q.1 /\ H q.2.1 = some (.tup (p.1.map kV)) /\ RelV p.2 q.2.2) kvs xs /\
  ∃ o es ep, h.get? a = some o /\ o.ExactDict /\ o.data = .dict es ep /\ es.toList = xs.map (entryOfKey (tupleKind (aY P w))) /\ (xs.map (·.1)).Nodup
 | .set S n => h.SetOf (intKind P w) a S n
 | .ins C dx fs => H dx = some (.own a) /\ fs.length <= 1000 /\ dx ≠ a /\ h.get? a = some (PySem.W.instObj C dx) /\
  ∃ mA, h.Ns1 dx mA /\ (∀ f, j4 (fs.lookup f) (mA f)) /\ PySem.Within mA (fs.map (·.1))
 | .own _ => ∃ o, h.get? a = some o
 | .xd fs => ∃ mA, h.Ns1 a mA /\ ∀ f, j4 (fs.lookup f) (mA f)
 | .Jx lo hi => ∃ t u v, h.get? a = some { cls := .type "range", data := .fields #[.int lo t, .int hi u, .int 1 v] }
 | .rg o u => h.get? a = some o /\ bp H h a u
 | .DV ps => h.get? a = some { cls := .none, data := .fields ps }
 | .met f x => h.get? a = some (PySem.W.methodObj (.ref f) (.ref x))
 | .ext φ => φ h /\ (∃ o, h.get? a = some o) /\ ∀ h1 h2 : Heap, φ h1 -> (∀ o, h1.get? a = some o -> h2.get? a = some o) -> φ h2
def g8 (H : Hp) (h : Heap) : Prop := ∀ a o, H a = some o -> bp P w H h a o
end
section
variable {P : Program} {w : World} {H H' : Hp} {h h' : Heap} {a : Addr} {o : HO}
theorem bp.lt (x : bp P w H h a o) : a < h.objs.size := by
 cases o with
 | lst xs => obtain ⟨_, _, _, _, e⟩ := x; exact Heap.lt_size e
 | tup xs => obtain ⟨_, _, _, p⟩ := x; exact p.lt
 | dK kvs => obtain ⟨_, _, _, _, o, _, _, e, _⟩ := x; exact Heap.lt_size e
 | dT kvs => obtain ⟨_, _, _, _, o, _, _, e, _⟩ := x; exact Heap.lt_size e
 | set S n => obtain ⟨o, _, _, _, e, _⟩ := x; exact Heap.lt_size e
 | ins C dx fs => obtain ⟨_, _, _, e, _⟩ := x; exact Heap.lt_size e
 | own y => obtain ⟨_, e⟩ := x; exact Heap.lt_size e
 | xd fs => obtain ⟨_, ⟨_, _, _, e, _⟩, _⟩ := x; exact Heap.lt_size e
 | Jx lo hi => obtain ⟨_, _, _, e⟩ := x; exact Heap.lt_size e
 | rg ob u => obtain ⟨e, _⟩ := x; exact Heap.lt_size e
 | DV ps => exact Heap.lt_size (show h.get? a = some _ from x)
 | met f y => exact Heap.lt_size (show h.get? a = some _ from x)
 | ext φ => obtain ⟨_, ⟨_, e⟩, _⟩ := x; exact Heap.lt_size e
theorem Paired.A6 {α β : Type} {F G : α -> β -> Prop} : ∀ {l₁ : List α} {l₂ : List β}, Paired F l₁ l₂ -> (∀ a b, F a b -> G a b) -> Paired G l₁ l₂
 | _, _, .nil, _ => .nil
 | _, _, .cons r t, f => .cons (f _ _ r) (Paired.A6 t f)
theorem bp.nq (x : bp P w H h a o) (k : ∀ b u, (b = a \/ H b = some (.own a)) -> h.get? b = some u -> h'.get? b = some u)
 (ho : ∀ b, H b = some (.own a) -> H' b = some (.own a)) (ht : ∀ b xs, H b = some (.tup xs) -> H' b = some (.tup xs)) : bp P w H' h' a o := by
 induction o with
 | lst xs => obtain ⟨z, aD, n, r, e⟩ := x; exact ⟨z, aD, n, r, k _ _ (.inl rfl) e⟩
 | tup xs => obtain ⟨z, aD, r, ob, e, c⟩ := x; exact ⟨z, aD, r, ob, k _ _ (.inl rfl) e, c⟩
 | dK kvs => obtain ⟨z, y, vs, r, ob, es, ep, e, c⟩ := x; exact ⟨z, y, vs, r, ob, es, ep, k _ _ (.inl rfl) e, c⟩
 | dT kvs =>
   obtain ⟨z, y, xs, r, ob, es, ep, e, c⟩ := x
   exact ⟨z, y, xs, Paired.A6 r fun p q z => ⟨z.1, ht _ _ z.2.1, z.2.2⟩, ob, es, ep, k _ _ (.inl rfl) e, c⟩
 | set S n => obtain ⟨ob, es, ep, t, e, c⟩ := x; exact ⟨ob, es, ep, t, k _ _ (.inl rfl) e, c⟩
 | ins C dx fs =>
   obtain ⟨d, z, ne, e, mA, ⟨od, es, ep, e2, c⟩, r⟩ := x
   exact ⟨ho _ d, z, ne, k _ _ (.inl rfl) e, mA, ⟨od, es, ep, k _ _ (.inr d) e2, c⟩, r⟩
 | own y => obtain ⟨ob, e⟩ := x; exact ⟨ob, k _ _ (.inl rfl) e⟩
 | xd fs => obtain ⟨mA, ⟨od, es, ep, e, c⟩, r⟩ := x; exact ⟨mA, ⟨od, es, ep, k _ _ (.inl rfl) e, c⟩, r⟩
 | Jx lo hi => obtain ⟨t, u, v, e⟩ := x; exact ⟨t, u, v, k _ _ (.inl rfl) e⟩
 | rg ob u ih => obtain ⟨e, q⟩ := x; exact ⟨k _ _ (.inl rfl) e, ih q⟩
 | DV ps =>
   have e : h.get? a = some { cls := .none, data := .fields ps } := x
   show h'.get? a = some { cls := .none, data := .fields ps }
   exact k a _ (.inl rfl) e
 | met f y =>
   have e : h.get? a = some (PySem.W.methodObj (.ref f) (.ref y)) := x
   show h'.get? a = some (PySem.W.methodObj (.ref f) (.ref y))
   exact k a _ (.inl rfl) e
 | ext φ => obtain ⟨p, ⟨o, e⟩, st⟩ := x; exact ⟨st _ _ p fun o q => k _ _ (.inl rfl) q, ⟨o, k _ _ (.inl rfl) e⟩, st⟩
theorem g8.lt (x : g8 P w H h) (e : H a = some o) : a < h.objs.size := (x a o e).lt
theorem g8.fresh (x : g8 P w H h) (e : h.objs.size <= a) : H a = none := by
 cases q : H a with
 | none => rfl
 | some u => exact absurd (Nat.lt_of_lt_of_le (x.lt q) e) (Nat.lt_irrefl _)
theorem g8.kept (x : g8 P w H h) (k : ∀ b u, h.get? b = some u -> h'.get? b = some u) : g8 P w H h' := fun a o e =>
 (x a o e).nq (fun b u _ q => k b u q) (fun _ q => q) fun _ _ q => q
theorem g8.laid (x : g8 P w H h) (k : ∀ b u, h.get? b = some u -> h'.get? b = some u) (hp : h.objs.size <= a) (new : bp P w (upd H a o) h' a o) : g8 P w (upd H a o) h' := fun b u e => by
 have hn := x.fresh hp
 by_cases hb : b = a
 . subst hb; rw [aA] at e; cases e; exact new
 . rw [aw hb] at e
   exact (x b u e).nq (fun c v _ q => k c v q) (fun c q => by rw [aw (aH q hn)]; exact q) fun c xs q => by rw [aw (aH q hn)]; exact q
end
def Rd (H : Hp) (a : Addr) (u : HO) : Prop := H a = some u \/ ∃ o, H a = some (.rg o u)
theorem Rd.of {H : Hp} {a : Addr} {u : HO} (h : H a = some u) : Rd H a u := .inl h
theorem Rd.ok {P : Program} {w : World} {H : Hp} {h : Heap} {a : Addr} {u : HO} (r : Rd H a u) (x : g8 P w H h) : bp P w H h a u := by
 rcases r with r | ⟨o, r⟩
 . exact x a u r
 . obtain ⟨_, q⟩ := x a _ r
   exact q
def E4 : Option HO -> Prop
 | some (.lst _) => True
 | some (.dK _) => True
 | some (.dT _) => True
 | some (.set _ _) => True
 | some (.ins _ _ _) => True
 | some (.ext _) => True
 | _ => False
section
variable {P : Program} {w : World} {H : Hp} {h h' : Heap} {x e : Addr} {o' : HO}
theorem g8.write (ok : g8 P w H h) (mu : E4 (H x)) (he : e = x \/ H e = some (.own x)) (k : ∀ b u, b ≠ e -> h.get? b = some u -> h'.get? b = some u) (zS : ∃ u, h'.get? e = some u)
 (new : bp P w (upd H x o') h' x o') : g8 P w (upd H x o') h' := fun b u q => by
 have Ez : ∀ c y, H c = some (.own y) -> c ≠ x := fun c y r z => by subst z; rw [r] at mu; exact mu
 have Iy : ∀ c xs, H c = some (.tup xs) -> c ≠ x := fun c xs r z => by subst z; rw [r] at mu; exact mu
 by_cases hb : b = x
 . subst hb; rw [aA] at q; cases q; exact new
 . rw [aw hb] at q
   by_cases Dx : b = e
   . have q' : H b = some (.own x) := by
      rcases he with z | z
      . exact absurd (Dx.trans z) hb
      . rw [Dx]; exact z
     rw [q] at q'; cases q'
     obtain ⟨v, hv⟩ := zS
     exact ⟨v, by rw [Dx]; exact hv⟩
   . refine (ok b u q).nq (fun c v hc r => k c v ?_ r) (fun c r => by rw [aw (Ez c b r)]; exact r) fun c xs r => by rw [aw (Iy c xs r)]; exact r
     rcases hc with rfl | hc
     . exact Dx
     . rintro rfl
       rcases he with z | z
       . exact Ez c b hc z
       . rw [hc] at z; cases z; exact hb rfl
end
structure Un (fs ex : List Addr) (H H' : Hp) (h h' : Heap) : Prop where
 keep : ∀ b o, h.get? b = some o -> H b = none -> b ∉ fs -> b ∉ ex -> h'.get? b = some o
 slot : ∀ b o, h.get? b = some o -> H b = none -> b ∈ fs -> b ∉ ex -> ∃ sl, h'.get? b = some { o with slots := sl }
 free : ∀ b o, h.get? b = some o -> H b = none -> b ∉ ex -> H' b = none
 there : ∀ b o, h.get? b = some o -> b ∉ ex -> ∃ o', h'.get? b = some o'
 j3 : ∀ b xs, H b = some (.tup xs) -> H' b = some (.tup xs)
 ji : ∀ b o u, H b = some (.rg o u) -> H' b = some (.rg o u)
 lQ : ∀ b ps, H b = some (.DV ps) -> ∃ more, H' b = some (.DV (ps ++ more))
section
variable {fs NC ex Qf : List Addr} {H H1 H2 : Hp} {h h1 h2 h' : Heap} {a x e : Addr} {o : HO}
theorem Un.any (u : Un fs ex H H1 h h1) {b : Addr} {ob : Obj} (q : h.get? b = some ob) (n : H b = none) (hx : b ∉ ex) : ∃ sl, h1.get? b = some { ob with slots := sl } := by
 by_cases hb : b ∈ fs
 . exact u.slot b ob q n hb hx
 . exact ⟨ob.slots, u.keep b ob q n hb hx⟩
theorem Un.kept (k : ∀ b u, h.get? b = some u -> h'.get? b = some u) : Un fs ex H H h h' :=
 ⟨fun b ob q _ _ _ => k b ob q, fun b ob q _ _ _ => ⟨ob.slots, k b ob q⟩, fun _ _ _ n _ => n, fun b ob q _ => ⟨ob, k b ob q⟩, fun _ _ q => q, fun _ _ _ q => q, fun _ ps q => ⟨#[], by rw [q]; simp⟩⟩
theorem Un.refl : Un fs ex H H h h := Un.kept fun _ _ q => q
theorem Un.laid (k : ∀ b u, h.get? b = some u -> h'.get? b = some u) (hp : h.objs.size <= a) (hn : H a = none) : Un fs ex H (upd H a o) h h' where
 keep := fun b u q _ _ _ => k b u q
 slot := fun b u q _ _ _ => ⟨u.slots, k b u q⟩
 free := fun b u q n _ => by rw [aw (Nat.ne_of_lt (Nat.lt_of_lt_of_le (Heap.lt_size q) hp))]; exact n
 there := fun b u q _ => ⟨u, k b u q⟩
 j3 := fun b xs q => by rw [aw (aH q hn)]; exact q
 ji := fun b u xs q => by rw [aw (aH q hn)]; exact q
 lQ := fun b ps q => ⟨#[], by rw [aw (aH q hn), q]; simp⟩
theorem Un.write (mu : E4 (H x)) (he : e = x \/ H e = some (.own x)) (k : ∀ b u, b ≠ e -> h.get? b = some u -> h'.get? b = some u) (zS : ∃ u, h'.get? e = some u) : Un fs ex H (upd H x o) h h' := by
 have hx : ∀ b, H b = none -> b ≠ x := fun b n z => by subst z; rw [n] at mu; exact mu
 have hb : ∀ b, H b = none -> b ≠ e := fun b n z => by
  subst z
  rcases he with r | r
  . exact hx b n r
  . rw [n] at r; cases r
 have hm : ∀ b u, H b = some u -> ¬ E4 (some u) -> b ≠ x := fun b u q nm z => by subst z; rw [q] at mu; exact nm mu
 refine ⟨fun b u q n _ _ => k b u (hb b n) q, fun b u q n _ _ => ⟨u.slots, k b u (hb b n) q⟩, fun b u q n _ => by rw [aw (hx b n)]; exact n, fun b u q _ => ?_,
  fun b xs q => by rw [aw (hm b _ q fun z => z)]; exact q, fun b u xs q => by rw [aw (hm b _ q fun z => z)]; exact q, fun b ps q => ⟨#[], by rw [aw (hm b _ q fun z => z), q]; simp⟩⟩
 by_cases Dx : b = e
 . subst Dx; exact zS
 . exact ⟨u, k b u Dx q⟩
end
def Ho (h : Heap) (H : Hp) : List Addr := (List.range h.objs.size).filter fun a => (H a).isSome
def mX (h : Heap) (H : Hp) : Heap := PySem.W.hideAll h (Ho h H)
theorem tM (h : Heap) (H : Hp) : (mX h H).objs.size = h.objs.size := PySem.W.hideAll_size _ _
theorem wY {h : Heap} {H : Hp} {b : Addr} {o : Obj} (e : h.get? b = some o) (n : H b = none) : (mX h H).get? b = some o :=
 PySem.W.hideAll_get _ e fun hm => by
  have q : (H b).isSome = true := (List.mem_filter.mp hm).2
  rw [n] at q; simp at q
theorem zQ {h : Heap} {H : Hp} {b : Addr} {o : Obj} (e : (mX h H).get? b = some o) : h.get? b = some o /\ H b = none := by
 have e' : h.get? b = some o := PySem.W.of_hideAll (Ho h H) e
 refine ⟨e', ?_⟩
 cases q : H b with
 | none => rfl
 | some x =>
   have hm : b ∈ Ho h H := List.mem_filter.mpr ⟨List.mem_range.mpr (Heap.lt_size e'), by simp [q]⟩
   have z : (mX h H).get? b = none := PySem.W.hideAll_none (Ho h H) hm
   rw [z] at e; cases e
def xV (g h : Heap) (L : Addr) : List (Addr × Obj) := (List.range h.objs.size).filterMap fun a => if a = L \/ (g.get? a).isSome = true then none else (h.get? a).map fun o => (a, o)
def rest (g h : Heap) (L d : Addr) : List (Addr × Obj) := (xV g h L).filter fun p => decide (p.1 ≠ d)
structure Mod (K : PySem.W.Frag) (mg : Str -> Option Value) (base : Heap) : Prop where
 Ik : K.In base
 glob : base.Ns mainGlobals mg
 blt : ∃ mb, base.Ns builtinsNs mb /\ ∀ x : Str, x ≠ "__name__" -> mb x = bootBuiltins x
 nolimit : base.NoLimit
structure Cx where
 prog : Program
 w : World
 K : PySem.W.Frag
 mg : Str -> Option Value
 base : Heap
 A : Around
 N : List Str
 cN : Shared
 uX : Hp
 env : Env
 outer : List Env
 stack : List Env
 ex : List Addr
 fn : Str -> Bool
 calm : Bool
 pn : List (Addr × Obj)
 xe : Value -> Shared -> Prop
def o9 (l : List Env) : List Addr := l.filterMap (·.frame)
abbrev Cx.fs (X : Cx) : List Addr := o9 X.outer
def Gk (sc : Scope) (x : Str) : Prop := sc.names.lookup x = some .local \/ sc.names.lookup x = some .cell \/ sc.names.lookup x = some .free
def Loc (sc : Scope) (x : Str) : Prop := sc.names.lookup x = some .local \/ sc.names.lookup x = some .cell
def Look (env : Env) (h : Heap) (m : Str -> Option Value) (x : Str) (u : Value) : Prop :=
 (env.kindOf x = some .local /\ m x = some u) \/ ((env.kindOf x = some .cell \/ env.kindOf x = some .free) /\ ∃ c, env.cells.lookup x = some c /\ h.IsCell c (some u))
structure Cx.Ok (X : Cx) : Prop where
 mod : Mod X.K X.mg X.base
 kind : X.env.scope.kind = .function
 glob : X.env.globals = mainGlobals
 blt : X.env.builtins = builtinsNs
 above : X.cN.heap.objs.size <= X.env.locals
 inj : ∀ x y c, X.env.cells.lookup x = some c -> X.env.cells.lookup y = some c -> x = y
 has : ∀ x, (X.env.kindOf x = some .cell \/ X.env.kindOf x = some .free) -> ∃ c, X.env.cells.lookup x = some c
 Ec : ∀ x c, X.fn x = true -> X.env.cells.lookup x = some c -> X.cN.heap.objs.size <= c
 hd : X.calm = true -> X.A.handled = none
 frames : X.A.frames = some X.stack
 Gd : X.stack = X.outer \/ (X.stack = X.env :: X.outer /\ X.env.frame = some X.env.locals)
 E6 : ∀ b ∈ X.ex, b ≠ X.env.locals /\ ∀ x c, X.env.cells.lookup x = some c -> c ≠ b
 bs : ∀ b o, X.base.get? b = some o -> X.cN.heap.get? b = some o /\ X.uX b = none
 xN : X.base.objs.size <= X.cN.heap.objs.size
 t4 : ∀ b o, X.base.get? b = some o -> b ∉ X.ex
 tK : ∀ b ∈ X.ex, b ∉ X.fs
 jm : X.cN.heap.FunFrames X.base X.outer
 Au : ∀ b ∈ X.fs, X.uX b = none
structure Inv (X : Cx) (pins : List (Addr × Obj)) (σ : List (Option V)) (H : Hp) (s : Shared) : Prop where
 ok : X.Ok
 os : s.os = X.cN.os
 bare : AllBare s.gens
 base : Un X.fs X.ex X.uX H X.cN.heap s.heap
 loc : ∃ m, s.heap.Ns X.env.locals m /\ ∀ (i : Nat) (x : Str) (v : V), X.N[i]? = some x -> σ[i]? = some (some v) -> Gk X.env.scope x -> ∃ u, RelV v u /\ Look X.env s.heap m x u
 cell : ∀ x c, X.env.cells.lookup x = some c -> ∃ v, s.heap.IsCell c v
 free : H X.env.locals = none
 eI : ∀ x c, X.env.cells.lookup x = some c -> H c = none
 pin : ∀ p ∈ X.pn ++ pins, s.heap.get? p.1 = some p.2 /\ H p.1 = none /\ p.1 ≠ X.env.locals /\ p.1 ∉ X.fs /\ ∀ v, p.2.data ≠ .cell v
 aK : g8 X.prog X.w H s.heap
 len : σ.length = X.N.length
section
variable {X : Cx} {pins : List (Addr × Obj)} {σ : List (Option V)} {H H' : Hp} {s : Shared} {h' : Heap}
theorem Cx.Ok.Jr (ok : X.Ok) {b : Addr} {o : Obj} (e : X.base.get? b = some o) : b ∉ X.fs := fun hb => by
 have := (ok.jm.mem hb).1
 rw [e] at this; cases this
theorem Inv.bs (I : Inv X pins σ H s) : ∀ b o, X.base.get? b = some o -> s.heap.get? b = some o /\ H b = none := fun b o e =>
 ⟨I.base.keep b o (I.ok.bs b o e).1 (I.ok.bs b o e).2 (I.ok.Jr e) (I.ok.t4 b o e), I.base.free b o (I.ok.bs b o e).1 (I.ok.bs b o e).2 (I.ok.t4 b o e)⟩
theorem Inv.bk (I : Inv X pins σ H s) : ∀ b o, X.base.get? b = some o -> s.heap.get? b = some o := fun b o e => (I.bs b o e).1
theorem Inv.mod (I : Inv X pins σ H s) : Mod X.K X.mg X.base := I.ok.mod
theorem Inv.oC (I : Inv X pins σ H s) : X.K.In s.heap := I.ok.mod.Ik.keeps I.bk
theorem Inv.lt (I : Inv X pins σ H s) : X.env.locals < s.heap.objs.size := let ⟨_, hn, _⟩ := I.loc; hn.lt
theorem Inv.sz (I : Inv X pins σ H s) : X.cN.heap.objs.size <= s.heap.objs.size := Nat.le_trans I.ok.above (Nat.le_of_lt I.lt)
theorem Inv.Jq (I : Inv X pins σ H s) {a : Addr} (h : s.heap.objs.size <= a) : a ∉ X.fs := fun hb => by
 obtain ⟨_, o, ho, _⟩ := I.ok.jm.mem hb
 exact absurd (Nat.lt_of_lt_of_le (Heap.lt_size ho) (Nat.le_trans I.sz h)) (Nat.lt_irrefl _)
theorem Inv.Bi (I : Inv X pins σ H s) : ∀ x c, X.env.cells.lookup x = some c -> c ≠ X.env.locals := fun x c e z => by
 obtain ⟨v, o, ho, hd⟩ := I.cell x c e
 obtain ⟨m, ⟨o', es, ep, wq, lX, _⟩, _⟩ := I.loc
 rw [z, wq] at ho; cases ho; rw [lX] at hd; cases hd
theorem Inv.jm (I : Inv X pins σ H s) : s.heap.FunFrames X.base X.outer := by
 have all : ∀ (l : List Env), (∀ b ∈ o9 l, b ∈ X.fs) -> X.cN.heap.FunFrames X.base l -> s.heap.FunFrames X.base l := by
  intro l
  induction l with
  | nil => intro _ _; trivial
  | cons env r ih =>
    intro hs hl
    obtain ⟨hk, ⟨L, o, hf, hn, ho, hd⟩, hr⟩ := hl
    have hL : L ∈ X.fs := hs L (by unfold o9; rw [List.filterMap_cons, hf]; exact List.mem_cons_self)
    obtain ⟨sl, e⟩ := I.base.slot L o ho (I.ok.Au L hL) hL fun z => I.ok.tK L z hL
    exact ⟨hk, ⟨L, _, hf, hn, e, hd⟩, ih (fun b hb => hs b (by unfold o9; rw [List.filterMap_cons, hf]; exact List.mem_cons_of_mem _ hb)) hr⟩
 exact all X.outer (fun _ hb => hb) I.ok.jm
theorem Inv.stack (I : Inv X pins σ H s) : s.heap.FunFrames X.base X.stack := by
 rcases I.ok.Gd with e | ⟨e, hf⟩
 . rw [e]; exact I.jm
 . rw [e]
   obtain ⟨m, hn, _⟩ := I.loc
   refine .cons (by rw [I.ok.kind]; decide) hf hn ?_ I.jm
   exact Heap.get?_none_of_le (Nat.le_trans I.ok.xN I.ok.above)
theorem Inv.p6 (I : Inv X pins σ H s) : ∀ b ∈ o9 X.stack, b ∈ X.env.locals :: X.fs := fun b hb => by
 rcases I.ok.Gd with e | ⟨e, hf⟩
 . rw [e] at hb; exact List.mem_cons_of_mem _ hb
 . rw [e] at hb
   unfold o9 at hb
   rw [List.filterMap_cons, hf] at hb
   exact hb
theorem Inv.r9 (I : Inv X pins σ H s) : ∀ b ∈ o9 X.stack, H b = none := fun b hb => by
 rcases List.mem_cons.mp (I.p6 b hb) with e | hb
 . rw [e]; exact I.free
 . obtain ⟨_, o, ho, _⟩ := I.ok.jm.mem hb
   exact I.base.free b o ho (I.ok.Au b hb) fun z => I.ok.tK b z hb
theorem Inv.step {g' : Array GenState} {t' : Nat} {d' : Drawn} {ch : List Addr} (I : Inv X pins σ H s)
 (uf : ∀ b ∈ ch, (b ∈ X.ex \/ X.cN.heap.objs.size <= b) /\ b ≠ X.env.locals /\ (∀ x c, X.env.cells.lookup x = some c -> c ≠ b) /\ ∀ p ∈ X.pn ++ pins, p.1 ≠ b)
 (keep : ∀ b o, b ≠ X.env.locals -> b ∉ X.fs -> b ∉ ch -> s.heap.get? b = some o -> H b = none -> h'.get? b = some o)
 (slot : ∀ b o, b ≠ X.env.locals -> b ∈ X.fs -> b ∉ ch -> s.heap.get? b = some o -> H b = none -> ∃ sl, h'.get? b = some { o with slots := sl }) (free : ∀ b o, b ∉ ch -> s.heap.get? b = some o -> H b = none -> H' b = none)
 (there : ∀ b o, b ∉ ch -> s.heap.get? b = some o -> ∃ o', h'.get? b = some o')
 (j3 : ∀ b xs, H b = some (.tup xs) -> H' b = some (.tup xs)) (ji : ∀ b o u, H b = some (.rg o u) -> H' b = some (.rg o u)) (lQ : ∀ b ps, H b = some (.DV ps) -> ∃ more, H' b = some (.DV (ps ++ more)))
 (ns : ∀ m, s.heap.Ns X.env.locals m -> h'.Ns X.env.locals m) (aK : g8 X.prog X.w H' h') (hg : AllBare g') :
 Inv X pins σ H' { s with heap := h', gens := g', drawn := d', toks := t' } := by
 have KZ : ∀ b o, X.cN.heap.get? b = some o -> b ≠ X.env.locals := fun b o e => Nat.ne_of_lt (Nat.lt_of_lt_of_le (Heap.lt_size e) I.ok.above)
 have He : ∀ b o, X.cN.heap.get? b = some o -> b ∉ X.ex -> b ∉ ch := fun b o e hx hb => by
  rcases (uf b hb).1 with z | z
  . exact hx z
  . exact absurd (Nat.lt_of_lt_of_le (Heap.lt_size e) z) (Nat.lt_irrefl _)
 have cellK : ∀ x c, X.env.cells.lookup x = some c -> ∀ v, s.heap.IsCell c v -> h'.IsCell c v := fun x c e v ⟨o, ho, hd⟩ => by
  have FN : c ∉ ch := fun z => (uf c z).2.2.1 x c e rfl
  by_cases hc : c ∈ X.fs
  . obtain ⟨sl, q⟩ := slot c o (I.Bi x c e) hc FN ho (I.eI x c e)
    exact ⟨_, q, hd⟩
  . exact ⟨o, keep c o (I.Bi x c e) hc FN ho (I.eI x c e), hd⟩
 refine ⟨I.ok, I.os, hg, ⟨fun b o e n hb hx => ?_, fun b o e n hb hx => ?_, fun b o e n hx => ?_, fun b o e hx => ?_, fun b xs e => j3 b xs (I.base.j3 b xs e), fun b o xs e => ji b o xs (I.base.ji b o xs e), fun b ps e => ?_⟩, ?_, fun x c e => ?_, ?_, fun x c e => ?_, fun p hp => ?_, aK, I.len⟩
 . exact keep b o (KZ b o e) hb (He b o e hx) (I.base.keep b o e n hb hx) (I.base.free b o e n hx)
 . obtain ⟨sl, e1⟩ := I.base.slot b o e n hb hx
   obtain ⟨NT, e2⟩ := slot b _ (KZ b o e) hb (He b o e hx) e1 (I.base.free b o e n hx)
   exact ⟨NT, e2⟩
 . obtain ⟨o', e1⟩ := I.base.there b o e hx
   exact free b o' (He b o e hx) e1 (I.base.free b o e n hx)
 . obtain ⟨o', e1⟩ := I.base.there b o e hx
   exact there b o' (He b o e hx) e1
 . obtain ⟨m1, e1⟩ := I.base.lQ b ps e
   obtain ⟨m2, e2⟩ := lQ b _ e1
   exact ⟨m1 ++ m2, by rw [e2, Array.append_assoc]⟩
 . obtain ⟨m, hn, hl⟩ := I.loc
   refine ⟨m, ns m hn, fun i x v e1 e2 e3 => ?_⟩
   obtain ⟨u, r, l⟩ := hl i x v e1 e2 e3
   refine ⟨u, r, ?_⟩
   rcases l with l | ⟨k, c, e, z⟩
   . exact .inl l
   . exact .inr ⟨k, c, e, cellK x c e _ z⟩
 . obtain ⟨v, z⟩ := I.cell x c e
   exact ⟨v, cellK x c e v z⟩
 . obtain ⟨m, ⟨o, _, _, ho, _⟩, _⟩ := I.loc
   exact free _ o (fun z => (uf _ z).2.1 rfl) ho I.free
 . obtain ⟨v, o, ho, hd⟩ := I.cell x c e
   exact free c o (fun z => (uf c z).2.2.1 x c e rfl) ho (I.eI x c e)
 . obtain ⟨e, n, ne, nf, d⟩ := I.pin p hp
   have FN : p.1 ∉ ch := fun z => (uf p.1 z).2.2.2 p hp rfl
   exact ⟨keep p.1 p.2 ne nf FN e n, free p.1 p.2 FN e n, ne, nf, d⟩
theorem Inv.un {t' : Nat} (I : Inv X pins σ H s) (u : Un X.fs [] H H' s.heap h') (aK : g8 X.prog X.w H' h') : Inv X pins σ H' { s with heap := h', toks := t' } := by
 obtain ⟨m, ⟨o, es, ep, ho, r⟩, _⟩ := id I.loc
 obtain ⟨sl, hL⟩ := u.any ho I.free (by simp)
 exact I.step (g' := s.gens) (d' := s.drawn) (ch := []) (fun _ z => nomatch z) (fun b o _ hb _ e n => u.keep b o e n hb (by simp)) (fun b o _ hb _ e n => u.slot b o e n hb (by simp)) (fun b o _ e n => u.free b o e n (by simp)) (fun b o _ e => u.there b o e (by simp)) u.j3 u.ji u.lQ (fun m' hm => by
  obtain ⟨o', Ie, Kr, wq, r'⟩ := hm
  rw [ho] at wq; cases wq
  exact ⟨_, Ie, Kr, hL, r'⟩) aK I.bare
theorem Inv.call {g' : Array GenState} {t' : Nat} {d' : Drawn} {ch : List Addr} (I : Inv X pins σ H s) (u : Un (o9 X.stack) ch H H' s.heap h') (aK : g8 X.prog X.w H' h') (hg : AllBare g')
 (uf : ∀ b ∈ ch, (b ∈ X.ex \/ X.cN.heap.objs.size <= b) /\ b ≠ X.env.locals /\ (∀ x c, X.env.cells.lookup x = some c -> c ≠ b) /\ ∀ p ∈ X.pn ++ pins, p.1 ≠ b) :
 Inv X pins σ H' { s with heap := h', gens := g', drawn := d', toks := t' } := by
 obtain ⟨m, ⟨o, es, ep, ho, r⟩, _⟩ := id I.loc
 obtain ⟨sl, hL⟩ := u.any ho I.free fun z => (uf _ z).2.1 rfl
 exact I.step (ch := ch) uf (fun b o hL hb hc e n => u.keep b o e n (fun z => (List.mem_cons.mp (I.p6 b z)).elim hL hb) hc) (fun b o _ _ hc e n => u.any e n hc) (fun b o hc e n => u.free b o e n hc) (fun b o hc e => u.there b o e hc) u.j3 u.ji u.lQ (fun m' hm => by
  obtain ⟨o', Ie, Kr, wq, r'⟩ := hm
  rw [ho] at wq; cases wq
  exact ⟨_, Ie, Kr, hL, r'⟩) aK hg
theorem Inv.turned {t' : Nat} {it : Addr} (I : Inv X pins σ H s) (k : ∀ b o, b ≠ it -> s.heap.get? b = some o -> h'.get? b = some o) (hn : H it = none) (hL : it ≠ X.env.locals)
 (h1 : it ∈ X.ex \/ X.cN.heap.objs.size <= it) (h2 : ∀ x c, X.env.cells.lookup x = some c -> c ≠ it) (h3 : ∀ p ∈ X.pn ++ pins, p.1 ≠ it) : Inv X pins σ H { s with heap := h', toks := t' } := by
 have xK : ∀ b u, H b = some u -> b ≠ it := fun b u e z => by rw [z, hn] at e; cases e
 refine I.step (g' := s.gens) (d' := s.drawn) (ch := [it]) (fun b hb => ?_) (fun b o _ _ hc e _ => k b o (fun z => hc (by simp [z])) e) (fun b o _ _ hc e _ => ⟨o.slots, k b o (fun z => hc (by simp [z])) e⟩) (fun _ _ _ _ n => n)
  (fun b o hc e => ⟨o, k b o (fun z => hc (by simp [z])) e⟩) (fun _ _ e => e) (fun _ _ _ e => e) (fun b ps e => ⟨#[], by rw [e]; simp⟩) (fun m hm => ?_) (fun b u e => ?_) I.bare
 . have e : b = it := by simpa using hb
   subst e
   exact ⟨h1, hL, h2, h3⟩
 . obtain ⟨o, es, ep, ho, r⟩ := hm
   exact ⟨o, es, ep, k _ o (Ne.symm hL) ho, r⟩
 . refine (I.aK b u e).nq (fun c v hc q => k c v ?_ q) (fun _ q => q) fun _ _ q => q
   rcases hc with z | z
   . rw [z]; exact xK b u e
   . exact xK c _ z
theorem Inv.tok (I : Inv X pins σ H s) (t : Nat) : Inv X pins σ H { s with toks := t } := I.un (h' := s.heap) (t' := t) Un.refl I.aK
theorem Inv.kept {t' : Nat} (I : Inv X pins σ H s) (k : ∀ b u, s.heap.get? b = some u -> h'.get? b = some u) : Inv X pins σ H { s with heap := h', toks := t' } := I.un (Un.kept k) (I.aK.kept k)
theorem Inv.laid {a : Addr} {o : HO} {t' : Nat} (I : Inv X pins σ H s) (k : ∀ b u, s.heap.get? b = some u -> h'.get? b = some u) (hp : s.heap.objs.size <= a) (new : bp X.prog X.w (upd H a o) h' a o) :
 Inv X pins σ (upd H a o) { s with heap := h', toks := t' } := I.un (Un.laid k hp (I.aK.fresh hp)) (I.aK.laid k hp new)
theorem Inv.write {x e : Addr} {o : HO} {t' : Nat} (I : Inv X pins σ H s) (mu : E4 (H x)) (he : e = x \/ H e = some (.own x)) (k : ∀ b u, b ≠ e -> s.heap.get? b = some u -> h'.get? b = some u) (zS : ∃ u, h'.get? e = some u)
 (new : bp X.prog X.w (upd H x o) h' x o) : Inv X pins σ (upd H x o) { s with heap := h', toks := t' } := I.un (Un.write mu he k zS) (I.aK.write mu he k zS new)
theorem Inv.weak {σ' : List (Option V)} (I : Inv X pins σ H s) (hl : σ'.length = σ.length) (w : ∀ (i : Nat) v, σ'[i]? = some (some v) -> σ[i]? = some (some v)) : Inv X pins σ' H s :=
 ⟨I.ok, I.os, I.bare, I.base, let ⟨m, hn, pO⟩ := I.loc; ⟨m, hn, fun i x v e1 e2 e3 => pO i x v e1 (w i v e2) e3⟩, I.cell, I.free, I.eI, I.pin, I.aK, hl.trans I.len⟩
theorem Inv.gT {Ac : List (Addr × Obj)} (I : Inv X pins σ H s) (h : ∀ p ∈ Ac, s.heap.get? p.1 = some p.2 /\ H p.1 = none /\ p.1 ≠ X.env.locals /\ p.1 ∉ X.fs /\ ∀ v, p.2.data ≠ .cell v) : Inv X Ac σ H s :=
 ⟨I.ok, I.os, I.bare, I.base, I.loc, I.cell, I.free, I.eI, fun p hp => (List.mem_append.mp hp).elim (fun z => I.pin p (List.mem_append_left _ z)) (h p), I.aK, I.len⟩
theorem oZ {N : List Str} (hN : N.Nodup) {i j : Nat} {x : Str} (a : N[i]? = some x) (b : N[j]? = some x) : i = j := by
 obtain ⟨h1, e1⟩ := List.getElem?_eq_some_iff.mp a
 obtain ⟨h2, e2⟩ := List.getElem?_eq_some_iff.mp b
 exact (List.getElem_inj hN).mp (e1.trans e2.symm)
theorem my {M : Model} {A : Around} {E : Value -> Shared -> Prop} {i : Nat} {x : Str} {v : V} {u : Value} {Q : Unit -> Shared -> Prop} (I : Inv X pins σ H s) (hN : X.N.Nodup) (hi : X.N[i]? = some x) (hx : Loc X.env.scope x) (r : RelV v u)
 (h : ∀ s', Inv X pins (σ.set i (some v)) H s' -> (∃ a, Heap.SameBut a s.heap s'.heap /\ (a = X.env.locals \/ X.env.cells.lookup x = some a)) -> Q () s') (hf : X.fn x = true \/ X.env.scope.names.lookup x = some .local := by first | exact .inl rfl | exact .inr rfl | assumption) : wpAny M A (storeName X.env x u) Q E s := by
 obtain ⟨m, hn, hl⟩ := id I.loc
 have Ke : (X.env.scope.kind == .class || (X.env.scope.kind == .module && X.env.locals != X.env.globals)) = false := by rw [I.ok.kind]; rfl
 have Fw : i < σ.length := by rw [I.len]; exact (List.getElem?_eq_some_iff.mp hi).1
 have Bi := I.Bi
 have tracked : ∀ {a : Addr} {h' : Heap}, (∃ o, s.heap.get? a = some o /\ H a = none) -> Heap.SameBut a s.heap h' -> g8 X.prog X.w H h' := fun {a h'} ha hs b ob e => by
  obtain ⟨_, _, Ap⟩ := ha
  refine (I.aK b ob e).nq (fun c w' hc q => (hs.2 c ?_).trans q) (fun _ q => q) fun _ _ q => q
  rintro rfl
  rcases hc with rfl | hc
  . rw [Ap] at e; cases e
  . rw [Ap] at hc; cases hc
 rcases hx with hk | hk
 . refine wpAny_storeName_local hk hn (fun h' Eh hs => ?_) Ke
   obtain ⟨oL, _, _, sr, _⟩ := id hn
   refine h _ ⟨I.ok, I.os, I.bare, ⟨fun b o e n hb hx => ?_, fun b o e n hb hx => ?_, I.base.free, fun b o e hx => ?_, I.base.j3, I.base.ji, I.base.lQ⟩, ⟨_, Eh, fun j y v' e1 e2 e3 => ?_⟩, fun y c e => ?_, I.free, I.eI, fun p hp => ?_, tracked ⟨oL, sr, I.free⟩ hs, by simpa using I.len⟩ ⟨_, hs, .inl rfl⟩
   . exact (hs.2 b (Nat.ne_of_lt (Nat.lt_of_lt_of_le (Heap.lt_size e) I.ok.above))).trans (I.base.keep b o e n hb hx)
   . obtain ⟨sl, e1⟩ := I.base.slot b o e n hb hx
     exact ⟨sl, (hs.2 b (Nat.ne_of_lt (Nat.lt_of_lt_of_le (Heap.lt_size e) I.ok.above))).trans e1⟩
   . obtain ⟨o', e1⟩ := I.base.there b o e hx
     exact ⟨o', (hs.2 b (Nat.ne_of_lt (Nat.lt_of_lt_of_le (Heap.lt_size e) I.ok.above))).trans e1⟩
   . by_cases hj : j = i
     . subst hj
       rw [hi] at e1; cases e1
       rw [List.getElem?_set_self Fw] at e2
       cases e2
       exact ⟨u, r, .inl ⟨hk, by simp⟩⟩
     . rw [List.getElem?_set_ne (Ne.symm hj)] at e2
       obtain ⟨u', r', q⟩ := hl j y v' e1 e2 e3
       refine ⟨u', r', ?_⟩
       rcases q with ⟨k, e⟩ | ⟨k, c, e, z⟩
       . refine .inl ⟨k, ?_⟩
         have : y ≠ x := fun e => hj (oZ hN e1 (e ▸ hi))
         simp [this, e]
       . exact .inr ⟨k, c, e, z.sameBut hs (Bi y c e)⟩
   . obtain ⟨w', z⟩ := I.cell y c e
     exact ⟨w', z.sameBut hs (Bi y c e)⟩
   . obtain ⟨e, n, ne, nf, d⟩ := I.pin p hp
     exact ⟨(hs.2 p.1 ne).trans e, n, ne, nf, d⟩
 . have Im : X.fn x = true := by
    rcases hf with z | z
    . exact z
    . rw [z] at hk; cases hk
   obtain ⟨c, hc⟩ := I.ok.has x (.inl hk)
   obtain ⟨w', z⟩ := I.cell x c hc
   refine wpAny_storeName_cell I.ok.kind hk hc z (fun h' xJ hs => ?_)
   obtain ⟨oc, KG, HU⟩ := id z
   refine h { s with heap := h' } ⟨I.ok, I.os, I.bare, ⟨fun b o e n hb hx => ?_, fun b o e n hb hx => ?_, I.base.free, fun b o e hx => ?_, I.base.j3, I.base.ji, I.base.lQ⟩, ⟨m, hn.sameBut hs (Ne.symm (Bi x c hc)), fun j y v' e1 e2 e3 => ?_⟩, fun y c' e => ?_, I.free, I.eI, fun p hp => ?_, tracked ⟨oc, KG, I.eI x c hc⟩ hs, by simpa using I.len⟩ ⟨c, hs, .inr hc⟩
   . exact (hs.2 b (Nat.ne_of_lt (Nat.lt_of_lt_of_le (Heap.lt_size e) (I.ok.Ec x c Im hc)))).trans (I.base.keep b o e n hb hx)
   . obtain ⟨sl, e1⟩ := I.base.slot b o e n hb hx
     exact ⟨sl, (hs.2 b (Nat.ne_of_lt (Nat.lt_of_lt_of_le (Heap.lt_size e) (I.ok.Ec x c Im hc)))).trans e1⟩
   . obtain ⟨o', e1⟩ := I.base.there b o e hx
     exact ⟨o', (hs.2 b (Nat.ne_of_lt (Nat.lt_of_lt_of_le (Heap.lt_size e) (I.ok.Ec x c Im hc)))).trans e1⟩
   . by_cases hj : j = i
     . subst hj
       rw [hi] at e1; cases e1
       rw [List.getElem?_set_self Fw] at e2
       cases e2
       exact ⟨u, r, .inr ⟨.inl hk, c, hc, xJ⟩⟩
     . rw [List.getElem?_set_ne (Ne.symm hj)] at e2
       obtain ⟨u', r', q⟩ := hl j y v' e1 e2 e3
       refine ⟨u', r', ?_⟩
       rcases q with q | ⟨k, c', e, z'⟩
       . exact .inl q
       . refine .inr ⟨k, c', e, z'.sameBut hs ?_⟩
         rintro rfl
         exact hj (oZ hN e1 (I.ok.inj _ _ _ e hc ▸ hi))
   . by_cases uj : c' = c
     . subst uj; exact ⟨_, xJ⟩
     . obtain ⟨w2, z2⟩ := I.cell y c' e
       exact ⟨w2, z2.sameBut hs uj⟩
   . obtain ⟨e, n, ne, nf, d⟩ := I.pin p hp
     refine ⟨(hs.2 p.1 ?_).trans e, n, ne, nf, d⟩
     intro q
     rw [q, KG] at e
     have q' : oc = p.2 := Option.some.inj e
     exact d w' (by rw [<- q']; exact HU)
theorem oS {M : Model} {A : Around} {E : Value -> Shared -> Prop} {i : Nat} {x : Str} {v : V} {u : Value} {Q : Unit -> Shared -> Prop} (I : Inv X pins σ H s) (hN : X.N.Nodup) (hi : X.N[i]? = some x) (hx : Loc X.env.scope x) (r : RelV v u)
 (h : ∀ s', Inv X pins (σ.set i (some v)) H s' -> Q () s') (hf : X.fn x = true \/ X.env.scope.names.lookup x = some .local := by first | exact .inl rfl | exact .inr rfl | assumption) : wpAny M A (storeName X.env x u) Q E s :=
 my I hN hi hx r (fun s' I' _ => h s' I') hf
theorem Inv.E8 {s' : Shared} {ch : List Addr} (I : Inv X pins σ H s) (ho : s'.os = s.os) (u : Un (o9 X.stack) ch H H' s.heap s'.heap) (aK : g8 X.prog X.w H' s'.heap) (hg : AllBare s'.gens)
 (uf : ∀ b ∈ ch, (b ∈ X.ex \/ X.cN.heap.objs.size <= b) /\ b ≠ X.env.locals /\ (∀ x c, X.env.cells.lookup x = some c -> c ≠ b) /\ ∀ p ∈ X.pn ++ pins, p.1 ≠ b) : Inv X pins σ H' s' := by
 obtain ⟨h', g', d', t', o'⟩ := s'
 have e : o' = s.os := ho
 subst e
 exact I.call (g' := g') (t' := t') (d' := d') u aK hg uf
end
abbrev XK := Value -> Option Addr -> Hp -> Prop
abbrev St := List (Option V)
abbrev VK := V -> Hp -> Prop
abbrev TE := St -> Hp -> VK -> Prop
abbrev TT := St -> Hp -> (Bool -> Hp -> Prop) -> Prop
abbrev TA := St -> Hp -> (List V -> Hp -> Prop) -> Prop
structure Ends where
 nx : St -> Hp -> Prop
 rt : VK
 bk : St -> Hp -> Prop := fun _ _ => False
 ct : St -> Hp -> Prop := fun _ _ => False
abbrev TS := Ends -> St -> Hp -> Prop
def EP (X : Cx) (pins : List (Addr × Obj)) (σ : St) (Q : VK) (u : Value) (s' : Shared) : Prop := ∃ v H', Inv X pins σ H' s' /\ RelV v u /\ Q v H'
def TP (X : Cx) (pins : List (Addr × Obj)) (σ : St) (Q : Bool -> Hp -> Prop) (b : Bool) (s' : Shared) : Prop := ∃ H', Inv X pins σ H' s' /\ Q b H'
def AP (X : Cx) (pins : List (Addr × Obj)) (σ : St) (Q : List V -> Hp -> Prop) (us : List Value) (s' : Shared) : Prop := ∃ vs H', Inv X pins σ H' s' /\ Vals vs us /\ Q vs H'
def SP (X : Cx) (pins : List (Addr × Obj)) (D : Ends) (f : Flow) (s' : Shared) : Prop :=
 match f with
 | .next => ∃ σ' H', Inv X pins σ' H' s' /\ D.nx σ' H'
 | .brk => ∃ σ' H', Inv X pins σ' H' s' /\ D.bk σ' H'
 | .cont => ∃ σ' H', Inv X pins σ' H' s' /\ D.ct σ' H'
 | .ret u => ∃ v σ' H', Inv X pins σ' H' s' /\ RelV v u /\ D.rt v H'
def PE (X : Cx) (e : Expr) (t : TE) : Prop :=
 ∀ (pins : List (Addr × Obj)) (s : Shared) (σ : St) (H : Hp) (Q : VK), Inv X pins σ H s -> t σ H Q -> wpAny (model X.prog X.w) X.A (eval e X.env) (EP X pins σ Q) X.xe s
def PT (X : Cx) (e : Expr) (t : TT) : Prop :=
 ∀ (pins : List (Addr × Obj)) (s : Shared) (σ : St) (H : Hp) (Q : Bool -> Hp -> Prop), Inv X pins σ H s -> t σ H Q -> wpAny (model X.prog X.w) X.A (isTrue e X.env (eval e X.env)) (TP X pins σ Q) X.xe s
def PW (X : Cx) (e : Expr) (t : TT) : Prop :=
 ∀ (whole : Sem Value) (pins : List (Addr × Obj)) (s : Shared) (σ : St) (H : Hp) (Q : Bool -> Hp -> Prop), Inv X pins σ H s -> t σ H Q -> wpAny (model X.prog X.w) X.A (isTrue e X.env whole) (TP X pins σ Q) X.xe s
theorem PW.pt {X : Cx} {e : Expr} {t : TT} (h : PW X e t) : PT X e t := h _
def PA (X : Cx) (es : List Expr) (t : TA) : Prop :=
 ∀ (pos : Pos) (pins : List (Addr × Obj)) (s : Shared) (σ : St) (H : Hp) (Q : List V -> Hp -> Prop), Inv X pins σ H s -> t σ H Q -> wpAny (model X.prog X.w) X.A (spliced (backTo pos (starEach es X.env))) (AP X pins σ Q) X.xe s
def PS (X : Cx) (st : Stmt) (t : TS) : Prop :=
 ∀ (pins : List (Addr × Obj)) (s : Shared) (σ : St) (H : Hp) (D : Ends), Inv X pins σ H s -> t D σ H -> wpAny (model X.prog X.w) X.A (exec st X.env) (SP X pins D) X.xe s
def pP (X : Cx) (st : List Stmt) (t : TS) : Prop :=
 ∀ (pins : List (Addr × Obj)) (s : Shared) (σ : St) (H : Hp) (D : Ends), Inv X pins σ H s -> t D σ H -> wpAny (model X.prog X.w) X.A (execs st X.env) (SP X pins D) X.xe s
theorem bO {α : Type} {t : Sem α} {Q Q' : α -> Shared -> Prop} {M : Model} {A : Around} {E : Value -> Shared -> Prop} {s : Shared} (h : wpAny M A t Q E s) (hQ : ∀ a s, Q a s -> Q' a s) : wpAny M A t Q' E s := wpAny_mono h hQ fun _ _ x => x
section
variable {X : Cx}
def BI (i : Nat) : TE := fun σ H Q => ∃ v, σ[i]? = some (some v) /\ Q v H
def tC (v : V) : TE := fun _ H Q => Q v H
theorem Dg {i : Nat} {x : Str} {pos : Pos} (hN : X.N[i]? = some x) (hv : Gk X.env.scope x) (hd : (x == ("__debug__" : Str)) = false := by decide) (uE : (x == ("__classdict__" : Str)) = false := by decide) : PE X (.Name x pos) (BI i) := by
 intro pins s σ H Q I h
 obtain ⟨v, e, h⟩ := h
 obtain ⟨m, hn, hl⟩ := I.loc
 obtain ⟨u, r, l⟩ := hl i x v hN e hv
 have fin : EP X pins σ Q u s := ⟨v, H, I, r, h⟩
 rcases l with ⟨hk, hm⟩ | ⟨hk, c, hc, mG⟩
 . exact wpAny_Name (wpAny_loadName_local I.ok.kind hk hn hm fin) hd
 . rcases hk with hk | hk
   . exact wpAny_Name (wpAny_loadName_cell I.ok.kind hk hc mG fin) hd
   . exact wpAny_Name (wpAny_loadName_free I.ok.kind hk hc mG fin uE) hd
theorem af {i j pos} : PE X (.Constant (.int i) j pos) (tC (.int i)) := fun _ _ _ H _ I h => wpAny_Constant_int ⟨.int i, H, I.tok _, ⟨_, rfl⟩, h⟩
theorem fG {b j pos} : PE X (.Constant (.bool b) j pos) (tC (.bl b)) := fun _ _ _ H _ I h => Constant_bool ⟨.bl b, H, I, rfl, h⟩
theorem kT {j pos} : PE X (.Constant .none j pos) (tC .bz) := fun _ _ _ H _ I h => Constant_none ⟨.bz, H, I, rfl, h⟩
theorem qo {x j pos} : PE X (.Constant (.str x) j pos) (tC (.str x)) := fun _ _ _ H _ I h => Calls.Constant_str ⟨.str x, H, I.tok _, ⟨_, rfl⟩, h⟩
def Gl (X : Cx) (x : Str) : Prop := X.env.kindOf x = some .globalImplicit
theorem rZ {E : Value -> Shared -> Prop} {pins : List (Addr × Obj)} {s : Shared} {σ : St} {H : Hp} {x : Str} {u : Value} {pos : Pos} {Q : Value -> Shared -> Prop} (I : Inv X pins σ H s) (hg : Gl X x) (hm : X.mg x = some u) (h : Q u s)
 (hd : (x == ("__debug__" : Str)) = false := by decide) : wpAny (model X.prog X.w) X.A (eval (.Name x pos) X.env) Q E s :=
 Calls.Name_function_global I.ok.kind hg (Calls.loadGlobal_global (by rw [I.ok.glob]; exact I.mod.glob.keeps I.bk) hm h) hd
theorem dO {E : Value -> Shared -> Prop} {pins : List (Addr × Obj)} {s : Shared} {σ : St} {H : Hp} {x : Str} {u : Value} {pos : Pos} {Q : Value -> Shared -> Prop} (I : Inv X pins σ H s) (hg : Gl X x) (hm : X.mg x = none) (hv : bootBuiltins x = some u) (h : Q u s)
 (hn : x ≠ "__name__" := by decide) (hd : (x == ("__debug__" : Str)) = false := by decide) : wpAny (model X.prog X.w) X.A (eval (.Name x pos) X.env) Q E s := by
 obtain ⟨mb, h1, h2⟩ := I.mod.blt
 exact Calls.Name_function_global I.ok.kind hg (Calls.loadGlobal_builtin (by rw [I.ok.glob]; exact I.mod.glob.keeps I.bk) hm (by rw [I.ok.blt]; exact h1.keeps I.bk) ((h2 x hn).trans hv) h) hd
theorem ym {x : Str} {v : V} {u : Value} {pos : Pos} (hg : Gl X x) (hm : X.mg x = some u) (r : RelV v u) (hd : (x == ("__debug__" : Str)) = false := by decide) : PE X (.Name x pos) (tC v) :=
 fun _ _ _ H _ I h => rZ I hg hm ⟨v, H, I, r, h⟩ hd
theorem iM {x : Str} {v : V} {u : Value} {pos : Pos} (hg : Gl X x) (hm : X.mg x = none) (hv : bootBuiltins x = some u) (r : RelV v u) (hn : x ≠ "__name__" := by decide) (hd : (x == ("__debug__" : Str)) = false := by decide) : PE X (.Name x pos) (tC v) :=
 fun _ _ _ H _ I h => dO I hg hm hv ⟨v, H, I, r, h⟩ hn hd
variable {a b : Expr} {ta tb : TE} {pos : Pos}
variable {tA G5 : TT} {rest : List Expr}
def EG (t u : TT) : TT := fun σ H Q => t σ H fun c H1 => if c = true then u σ H1 Q else Q false H1
def KJ (t u : TT) : TT := fun σ H Q => t σ H fun c H1 => if c = true then Q true H1 else u σ H1 Q
def Ge (t : TT) : TT := fun σ H Q => t σ H fun c H1 => Q (!c) H1
theorem rF (ha : PT X a tA) : PW X (.BoolOp .And [a] pos) tA := by
 intro wh pins s σ H Q I h
 refine isTrue_and (bO (ha pins s σ H Q I h) fun c s1 e => ?_)
 cases c with
 | true => exact isTrue_and_nil e
 | false => exact e
theorem gm (ha : PT X a tA) : PW X (.BoolOp .Or [a] pos) tA := by
 intro wh pins s σ H Q I h
 refine isTrue_or (bO (ha pins s σ H Q I h) fun c s1 e => ?_)
 cases c with
 | false => exact isTrue_or_nil e
 | true => exact e
theorem xt (ha : PT X a tA) (hb : PW X (.BoolOp .And (b :: rest) pos) G5) : PW X (.BoolOp .And (a :: b :: rest) pos) (EG tA G5) := by
 intro wh pins s σ H Q I h
 refine isTrue_and (bO (ha pins s σ H _ I h) fun c s1 ⟨H1, I1, q1⟩ => ?_)
 cases c with
 | true => exact hb wh pins s1 σ H1 Q I1 q1
 | false => exact ⟨H1, I1, q1⟩
theorem ib (ha : PT X a tA) (hb : PW X (.BoolOp .Or (b :: rest) pos) G5) : PW X (.BoolOp .Or (a :: b :: rest) pos) (KJ tA G5) := by
 intro wh pins s σ H Q I h
 refine isTrue_or (bO (ha pins s σ H _ I h) fun c s1 ⟨H1, I1, q1⟩ => ?_)
 cases c with
 | true => exact ⟨H1, I1, q1⟩
 | false => exact hb wh pins s1 σ H1 Q I1 q1
theorem er (ha : PT X a tA) : PT X (.UnaryOp .Not a pos) (Ge tA) := by
 intro pins s σ H Q I h
 exact isTrue_not (ha pins s σ H (fun c H1 => Q (!c) H1) I h)
def Al (ta tb : TE) : TE := fun σ H Q => ta σ H fun x H1 => ∃ c, x = .bl c /\ if c = true then tb σ H1 Q else Q (.bl false) H1
def E2 (ta tb : TE) : TE := fun σ H Q => ta σ H fun x H1 => ∃ c, x = .bl c /\ if c = true then Q (.bl true) H1 else tb σ H1 Q
def Ag (ta : TE) : TE := fun σ H Q => ta σ H fun x H1 => ∃ c, x = .bl c /\ Q (.bl (!c)) H1
theorem qy {op} {t : TE} (h : PE X a t) : PE X (.BoolOp op [a] pos) t := fun pins s σ H Q I hw => BoolOp_one (h pins s σ H Q I hw)
theorem w6 (ha : PE X a ta) (hb : PE X (.BoolOp .And (b :: rest) pos) tb) : PE X (.BoolOp .And (a :: b :: rest) pos) (Al ta tb) := by
 intro pins s σ H Q I h
 refine BoolOp_and (bO (ha pins s σ H _ I h) fun v s1 ⟨x, H1, I1, r1, q1⟩ => ?_)
 obtain ⟨c, rfl, q1⟩ := q1
 cases r1
 refine wpAny_truthy_bool ?_
 cases c with
 | true => exact hb pins s1 σ H1 Q I1 q1
 | false => exact ⟨.bl false, H1, I1, rfl, q1⟩
theorem Gu (ha : PE X a ta) (hb : PE X (.BoolOp .Or (b :: rest) pos) tb) : PE X (.BoolOp .Or (a :: b :: rest) pos) (E2 ta tb) := by
 intro pins s σ H Q I h
 refine BoolOp_or (bO (ha pins s σ H _ I h) fun v s1 ⟨x, H1, I1, r1, q1⟩ => ?_)
 obtain ⟨c, rfl, q1⟩ := q1
 cases r1
 refine wpAny_truthy_bool ?_
 cases c with
 | false => exact hb pins s1 σ H1 Q I1 q1
 | true => exact ⟨.bl true, H1, I1, rfl, q1⟩
theorem Bn (ha : PE X a ta) : PE X (.UnaryOp .Not a pos) (Ag ta) := by
 intro pins s σ H Q I h
 refine UnaryOp_ (bO (ha pins s σ H _ I h) fun v s1 ⟨x, H1, I1, r1, q1⟩ => ?_)
 obtain ⟨c, rfl, q1⟩ := q1
 cases r1
 exact not_of (wpAny_truthy_bool ⟨.bl (!c), H1, I1, rfl, q1⟩)
end
def bF (K : PySem.W.Frag) (H : Hp) (a : Addr) (xs : List V) : Prop :=
 Rd H a (.lst xs) \/
  ∃ (o : Obj) (aD : Array Value) (n : Nat), K.lookup a = some o /\ o.cls = .type "list" /\ o.dict = none /\ o.data = .seq aD n /\ aD.size <= sizeLine /\ Vals xs aD.toList
def oj (K : PySem.W.Frag) (H : Hp) (a : Addr) (xs : List V) : Prop :=
 Rd H a (.tup xs) \/
  ∃ (o : Obj) (aD : Array Value) (n : Nat), K.lookup a = some o /\ o.cls = .type "tuple" /\ o.data = .seq aD n /\ aD.size <= sizeLine /\ Vals xs aD.toList
def IW : Value -> Option V
 | .none => some .bz
 | .bool b => some (.bl b)
 | .int i _ => some (.int i)
 | .str x _ => some (.str x)
 | .bytes b _ => some (.uw b)
 | .float b _ => some (.Eb b)
 | .ref a => some (.ref a)
 | .type n => some (.ty n)
 | _ => none
theorem RelV.abs {x : V} {u : Value} (r : RelV x u) : IW u = some x := by
 cases x with
 | bz => cases r; rfl
 | bl _ => cases r; rfl
 | int _ => obtain ⟨t, rfl⟩ := r; rfl
 | str _ => obtain ⟨t, rfl⟩ := r; rfl
 | uw _ => obtain ⟨t, rfl⟩ := r; rfl
 | Eb _ => obtain ⟨t, rfl⟩ := r; rfl
 | ref _ => cases r; rfl
 | ty _ => cases r; rfl
theorem RelV.inj {x y : V} {u : Value} (r : RelV x u) (q : RelV y u) : x = y := Option.some.inj (r.abs.symm.trans q.abs)
theorem Vals.inj : ∀ {xs ys : List V} {us : List Value}, Vals xs us -> Vals ys us -> xs = ys
 | _, _, _, .nil, .nil => rfl
 | _, _, _, .cons r t, .cons r' t' => by rw [r.inj r', Vals.inj t t']
section
variable {X : Cx} {pins : List (Addr × Obj)} {σ : St} {H : Hp} {s : Shared} {a : Addr} {xs ys : List V}
theorem bF.of {K : PySem.W.Frag} (h : H a = some (.lst xs)) : bF K H a xs := .inl (.inl h)
theorem oj.of {K : PySem.W.Frag} (h : H a = some (.tup xs)) : oj K H a xs := .inl (.inl h)
theorem Inv.list (I : Inv X pins σ H s) (h : bF X.K H a xs) : ∃ aD : List Value, Vals xs aD /\ PlainL s.heap a aD.toArray /\ xs.length <= sizeLine := by
 rcases h with h | ⟨o, aD, n, hk, hc, hd, hs, hz, r⟩
 . obtain ⟨z, aD, n, r, e⟩ := h.ok I.aK
   exact ⟨aD, r, ⟨_, n, e, rfl, rfl, rfl⟩, z⟩
 . refine ⟨aD.toList, r, ⟨o, n, I.oC a o hk, hc, hd, by simpa using hs⟩, ?_⟩
   have e := r.length
   simp only [Array.length_toList] at e
   omega
theorem Inv.tuple (I : Inv X pins σ H s) (h : oj X.K H a xs) : ∃ aD : List Value, Vals xs aD /\ IsTup s.heap a aD.toArray /\ xs.length <= sizeLine := by
 rcases h with h | ⟨o, aD, n, hk, hc, hs, hz, r⟩
 . obtain ⟨z, aD, r, p⟩ := h.ok I.aK
   exact ⟨aD, r, p, z⟩
 . refine ⟨aD.toList, r, ⟨o, I.oC a o hk, hc, n, by simpa using hs⟩, ?_⟩
   have e := r.length
   simp only [Array.length_toList] at e
   omega
theorem Inv.je (I : Inv X pins σ H s) (h : bF X.K H a xs) (h' : bF X.K H a ys) : xs = ys := by
 obtain ⟨aD, r, ⟨o, n, e, _, _, d⟩, _⟩ := I.list h
 obtain ⟨its', r', ⟨o', n', e', _, _, d'⟩, _⟩ := I.list h'
 rw [e] at e'; cases e'
 rw [d] at d'
 injection d' with d1 _
 have : aD = its' := by simpa using congrArg Array.toList d1
 subst this
 exact r.inj r'
end
abbrev Cx.lK (X : Cx) (E : Value -> Shared -> Prop) : Cx := { X with xe := E }
abbrev Cx.G1 (X : Cx) : Cx := X.lK fun _ _ => False
theorem Cx.Ok.lK {X : Cx} (ok : X.Ok) (E : Value -> Shared -> Prop) : (X.lK E).Ok :=
 ⟨ok.mod, ok.kind, ok.glob, ok.blt, ok.above, ok.inj, ok.has, ok.Ec, ok.hd, ok.frames, ok.Gd, ok.E6, ok.bs, ok.xN, ok.t4, ok.tK, ok.jm, ok.Au⟩
theorem Cx.Ok.gL {X : Cx} {E : Value -> Shared -> Prop} (ok : (X.lK E).Ok) : X.Ok :=
 ⟨ok.mod, ok.kind, ok.glob, ok.blt, ok.above, ok.inj, ok.has, ok.Ec, ok.hd, ok.frames, ok.Gd, ok.E6, ok.bs, ok.xN, ok.t4, ok.tK, ok.jm, ok.Au⟩
section
variable {X : Cx} {pins : List (Addr × Obj)} {σ : St} {H : Hp} {s : Shared} {E : Value -> Shared -> Prop}
theorem Inv.lK (I : Inv X pins σ H s) (E : Value -> Shared -> Prop) : Inv (X.lK E) pins σ H s := ⟨I.ok.lK E, I.os, I.bare, I.base, I.loc, I.cell, I.free, I.eI, I.pin, I.aK, I.len⟩
theorem Inv.gL (I : Inv (X.lK E) pins σ H s) : Inv X pins σ H s := ⟨I.ok.gL, I.os, I.bare, I.base, I.loc, I.cell, I.free, I.eI, I.pin, I.aK, I.len⟩
theorem SP.gL {D : Ends} {f : Flow} {s' : Shared} (h : SP (X.lK E) pins D f s') : SP X pins D f s' := by
 cases f with
 | next => obtain ⟨σ', H', I, q⟩ := h; exact ⟨σ', H', I.gL, q⟩
 | brk => obtain ⟨σ', H', I, q⟩ := h; exact ⟨σ', H', I.gL, q⟩
 | cont => obtain ⟨σ', H', I, q⟩ := h; exact ⟨σ', H', I.gL, q⟩
 | ret u => obtain ⟨v, σ', H', I, r, q⟩ := h; exact ⟨v, σ', H', I.gL, r, q⟩
theorem pP.G1 {st : List Stmt} {t : TS} (h : pP X.G1 st t) : pP X st t := fun pins s σ H D I hw =>
 wpAny_mono (h pins s σ H D (I.lK _) hw) (fun _ _ q => q.gL) fun _ _ z => False.elim z
end
section
variable {X : Cx} {st : Stmt} {rest : List Stmt} {t u : TS} {e : Expr} {te : TE} {pos : Pos}
def Ab : TS := fun D σ H => D.nx σ H
theorem bo : pP X [] Ab := fun _ _ σ H _ I h => wpAny_execs_nil ⟨σ, H, I, h⟩
theorem ak (h1 : PS X st t) : pP X [st] t := by
 intro pins s σ H D I h
 refine wpAny_execs_cons (bO (h1 pins s σ H D I h) fun f s1 q => ?_)
 cases f with
 | next => exact wpAny_execs_nil q
 | ret v => exact q
 | brk => exact q
 | cont => exact q
theorem Inv.quiet {pins : List (Addr × Obj)} {σ : St} {H : Hp} {s : Shared} (I : Inv X pins σ H s) : interactive X.env = false := by simp [interactive, I.ok.kind]
def AY (te : TE) : TS := fun D σ H => te σ H fun _ H1 => D.nx σ H1
theorem iP (he : PE X e te) (hs : swapsWith e none pos.line X.env = pure false := by rfl) : PS X (.Expr e pos) (AY te) := by
 intro pins s σ H D I h
 exact wpAny_Expr_any (bO (he pins s σ H _ I h) fun v s1 ⟨x, H1, I1, r1, q1⟩ => ⟨σ, H1, I1, q1⟩) I.quiet hs
def EK (te : TE) : TS := fun D σ H => te σ H D.rt
theorem aI (he : PE X e te) : PS X (.Return (some e) pos) (EK te) := by
 intro pins s σ H D I h
 exact wpAny_Return_some (bO (he pins s σ H _ I h) fun v s1 ⟨x, H1, I1, r1, q1⟩ => ⟨x, σ, H1, I1, r1, q1⟩)
def GA (c : TT) (t u : TS) : TS := fun D σ H => c σ H fun b H1 => if b = true then t D σ H1 else u D σ H1
theorem bZ {c : Expr} {a b : List Stmt} {tc : TT} (hc : PT X c tc) (ha : pP X a t) (hb : pP X b u) : PS X (.If c a b pos) (GA tc t u) := by
 intro pins s σ H D I h
 refine wpAny_If (bO (hc pins s σ H _ I h) fun d s1 ⟨H1, I1, q1⟩ => ?_)
 cases d with
 | true => exact ha pins s1 σ H1 D I1 q1
 | false => exact hb pins s1 σ H1 D I1 q1
end
abbrev TG := V -> St -> Hp -> (St -> Hp -> Prop) -> Prop
abbrev wX := List V -> St -> Hp -> (St -> Hp -> Prop) -> Prop
def PG (X : Cx) (target : Expr) (t : TG) : Prop :=
 ∀ (pins : List (Addr × Obj)) (s : Shared) (σ : St) (H : Hp) (v : V) (u : Value) (Q : St -> Hp -> Prop), Inv X pins σ H s -> RelV v u -> t v σ H Q ->
   wpAny (model X.prog X.w) X.A (assign target X.env u) (fun _ s' => ∃ σ' H', Inv X pins σ' H' s' /\ Q σ' H') X.xe s
def F7 (X : Cx) (ts : List Expr) (t : wX) : Prop :=
 ∀ (pins : List (Addr × Obj)) (s : Shared) (σ : St) (H : Hp) (vs : List V) (us : List Value) (Q : St -> Hp -> Prop), Inv X pins σ H s -> Vals vs us -> t vs σ H Q ->
   wpAny (model X.prog X.w) X.A (assignInOrder ((assignEach ts X.env).map (·.2)) us) (fun _ s' => ∃ σ' H', Inv X pins σ' H' s' /\ Q σ' H') X.xe s
abbrev zR := V -> V -> V -> Hp -> (Hp -> Prop) -> Prop
def Er (X : Cx) (t : zR) : Prop :=
 ∀ (pins : List (Addr × Obj)) (s : Shared) (σ : St) (H : Hp) (o i v : V) (ov iv u : Value) (Q : Hp -> Prop), Inv X pins σ H s -> RelV o ov -> RelV i iv -> RelV v u -> t o i v H Q ->
   wpAny (model X.prog X.w) X.A (setItem ov iv u) (fun _ s' => ∃ H', Inv X pins σ H' s' /\ Q H') X.xe s
section
variable {X : Cx} {pos : Pos}
def cO (i : Nat) : TG := fun v σ H Q => Q (σ.set i (some v)) H
theorem ao {i : Nat} {x : Str} (hN : X.N.Nodup) (hi : X.N[i]? = some x) (hx : Loc X.env.scope x) (hf : X.fn x = true \/ X.env.scope.names.lookup x = some .local := by first | exact .inl rfl | exact .inr rfl | assumption) : PG X (.Name x pos) (cO i) := by
 intro pins s σ H v u Q I r h
 exact wpAny_assign_Name (oS I hN hi hx r (fun s' I' => ⟨_, H, I', h⟩) hf)
def ur : wX := fun vs σ H Q => vs = [] /\ Q σ H
def eM (t : TG) (u : wX) : wX := fun vs σ H Q => ∃ v r, vs = v :: r /\ t v σ H fun σ' H' => u r σ' H' Q
theorem b6 : F7 X [] ur := by
 intro pins s σ H vs us Q I r h
 obtain ⟨e, h⟩ := h
 subst e
 cases r
 exact assignInOrder_nil ⟨σ, H, I, h⟩
theorem au {e : Expr} {es : List Expr} {t : TG} {u : wX} (h1 : PG X e t) (h2 : F7 X es u)
 (hs : (assignEach (e :: es) X.env).map (·.2) = assign e X.env :: (assignEach es X.env).map (·.2) := by rfl) : F7 X (e :: es) (eM t u) := by
 intro pins s σ H vs us Q I r h
 obtain ⟨v, vr, e1, h⟩ := h
 subst e1
 cases r with
 | cons r rr =>
   rw [hs]
   refine assignInOrder_cons (bO (h1 pins s σ H _ _ _ I r h) fun _ s1 ⟨σ1, H1, I1, q1⟩ => ?_)
   exact h2 pins s1 σ1 H1 _ _ Q I1 rr q1
def pU (K : PySem.W.Frag) (n : Nat) (t : wX) : TG := fun v σ H Q => ∃ a xs, v = .ref a /\ oj K H a xs /\ xs.length = n /\ t xs σ H Q
theorem fu {es : List Expr} {k : Nat} {t : wX} {n : Nat} (hc : X.calm = true) (h : F7 X es t)
 (hn : (assignEach es X.env).length = n := by rfl) (xM : (assignEach es X.env).findIdx? (·.1) = none := by rfl) : PG X (.Tuple es k pos) (pU X.K n t) := by
 intro pins s σ H v u Q I r hw
 obtain ⟨a, xs, e1, hq, hl, hw⟩ := hw
 subst e1
 cases r
 obtain ⟨aD, rv, ht, hz⟩ := I.tuple hq
 refine assign_Tuple_tuple (I.ok.hd hc) ht (by simp [hn, <- hl, rv.length]) xM fun h' hx => ?_
 have I1 : Inv X pins σ H { s with heap := h' } := I.kept (t' := s.toks) fun b o e => hx b o (Nat.ne_of_lt (Heap.lt_size e)) e
 exact h pins _ σ H xs _ Q I1 (by simpa using rv) hw
def GH (to ti : TE) (t : zR) : TG := fun v σ H Q => to σ H fun o H1 => ti σ H1 fun i H2 => t o i v H2 fun H3 => Q σ H3
theorem BE {o i : Expr} {to ti : TE} {t : zR} (ho : PE X o to) (hi : PE X i ti) (hs : Er X t)
 (ha : ∀ v, assign (.Subscript o i pos) X.env v = (do
  let ov <- holding [v] (eval o X.env)
  let iv <- holding [v, ov] (eval i X.env)
  standAt pos
  holding [v, ov, iv] (setItem ov iv v)
  release [v, ov, iv] []) := by intro _; rfl) : PG X (.Subscript o i pos) (GH to ti t) := by
 intro pins s σ H v u Q I r h
 rw [ha]
 refine wpAny_bind (wpAny_holding (bO (ho pins s σ H _ I h) fun ov s1 ⟨x, H1, I1, r1, q1⟩ => ?_))
 refine wpAny_bind (wpAny_holding (bO (hi pins s1 σ H1 _ I1 q1) fun iv s2 ⟨y, H2, I2, r2, q2⟩ => ?_))
 refine wpAny_bind (wpAny_standAt (wpAny_bind (wpAny_holding (bO (hs pins s2 σ H2 x y v ov iv u _ I2 r1 r2 r q2) fun _ s3 ⟨H3, I3, q3⟩ => ?_))))
 exact wpAny_release ⟨σ, H3, I3, q3⟩
def tF (te : TE) (g : TG) : TS := fun D σ H => te σ H fun x H1 => g x σ H1 D.nx
theorem wm {tg e : Expr} {te : TE} {g : TG} (he : PE X e te) (hg : PG X tg g) (hs : swapsWithSole [tg] e pos.line X.env = pure false := by rfl) (hw : swappedStores [tg] e X.env = pure none := by rfl)
 (h1 : (assignEach [tg] X.env).map (·.2) = [assign tg X.env] := by rfl) : PS X (.Assign [tg] e pos) (tF te g) := by
 intro pins s σ H D I h
 refine wpAny_Assign_stores (bO (he pins s σ H _ I h) fun v s1 ⟨x, H1, I1, r1, q1⟩ => ?_) hs hw
 rw [h1]
 exact bO (hg pins s1 σ H1 x v _ I1 r1 q1) fun _ s2 q => q
theorem av {i : Nat} {x : Str} {e : Expr} {te : TE} {pos' : Pos} (hN : X.N.Nodup) (hi : X.N[i]? = some x) (hx : Loc X.env.scope x) (he : PE X e te) (hs : swapsWith e (some (.Name x pos')) pos.line X.env = pure false := by rfl) (hf : X.fn x = true \/ X.env.scope.names.lookup x = some .local := by first | exact .inl rfl | exact .inr rfl | assumption) :
 PS X (.Assign [.Name x pos'] e pos) (tF te (cO i)) := by
 intro pins s σ H D I h
 refine wpAny_Assign_Name (bO (he pins s σ H _ I h) fun v s1 ⟨y, H1, I1, r1, q1⟩ => ?_) hs
 exact oS I1 hN hi hx r1 (fun s2 I2 => ⟨_, H1, I2, q1⟩) hf
end
section
variable {X : Cx} {pos : Pos}
def uJ (c : TT) (tb : TS) : TS := fun D σ H => ∃ W : Nat -> St -> Hp -> Prop, (∃ m, W m σ H) /\ ∀ m σ H, W m σ H ->
 c σ H fun b H1 => if b = true then ∃ N : St -> Hp -> Prop, (∀ σ' H', N σ' H' -> ∃ m', m' < m /\ W m' σ' H') /\ tb { D with nx := N, ct := N, bk := D.nx } σ H1 else D.nx σ H1
theorem pD {c : Expr} {body : List Stmt} {tc : TT} {tb : TS} (hp : PassesOwn (model X.prog X.w) X.A X.env X.xe) (hc : PT X c tc) (hb : pP X body tb) : PS X (.While c body [] pos) (uJ tc tb) := by
 intro pins s σ H D I h
 obtain ⟨W, ⟨m0, w0⟩, turn⟩ := h
 refine wpAny_While (codeAny_whileLoop (fun n s' => ∃ σ' H', Inv X pins σ' H' s' /\ W n σ' H') ?_ m0 ⟨σ, H, I, w0⟩)
 rintro n s1 ⟨σ1, H1, I1, w1⟩
 refine wpAny_passesOwn hp (bO (hc pins s1 σ1 H1 _ I1 (turn n σ1 H1 w1)) fun b s2 ⟨H2, I2, q2⟩ => ?_)
 cases b with
 | true =>
   obtain ⟨N, hN, q2⟩ := q2
   rw [if_pos rfl]
   refine wpAny_passesOwn hp (bO (hb pins s2 σ1 H2 _ I2 q2) fun f s3 q3 => ?_)
   cases f with
   | next =>
     obtain ⟨σ3, H3, I3, n3⟩ := q3
     obtain ⟨m', hm, w3⟩ := hN σ3 H3 n3
     exact ⟨m', hm, σ3, H3, I3, w3⟩
   | cont =>
     obtain ⟨σ3, H3, I3, n3⟩ := q3
     obtain ⟨m', hm, w3⟩ := hN σ3 H3 n3
     exact ⟨m', hm, σ3, H3, I3, w3⟩
   | brk => exact q3
   | ret v => exact q3
 | false =>
   rw [if_neg Bool.false_ne_true]
   exact wpAny_execs_nil ⟨σ1, H2, I2, q2⟩
end
structure It where
 go : Nat -> Hp -> Prop
 yC : Nat -> Hp -> V -> Hp -> Prop
 stop : Nat -> Hp -> Prop
def cM (X : Cx) (pins : List (Addr × Obj)) (H : Hp) (b : Addr) : Prop :=
 H b = none /\ b ≠ X.env.locals /\ b ∉ X.fs /\ (b ∈ X.ex \/ X.cN.heap.objs.size <= b) /\ (∀ x c, X.env.cells.lookup x = some c -> c ≠ b) /\ ∀ p ∈ X.pn ++ pins, p.1 ≠ b
theorem Inv.kC {X : Cx} {pins : List (Addr × Obj)} {σ : St} {H H' : Hp} {s : Shared} {b : Addr} (I : Inv X pins σ H s) (hb : s.heap.objs.size <= b) (hn : H' b = none) : cM X pins H' b := by
 refine ⟨hn, Nat.ne_of_gt (Nat.lt_of_lt_of_le I.lt hb), I.Jq hb, .inr (Nat.le_trans I.sz hb), fun x c e z => ?_, fun p hp z => ?_⟩
 . obtain ⟨v, q⟩ := I.cell x c e
   exact absurd (Nat.lt_of_lt_of_le q.lt (by rw [z]; exact hb)) (Nat.lt_irrefl _)
 . exact absurd (Nat.lt_of_lt_of_le (Heap.lt_size (I.pin p hp).1) (by rw [z]; exact hb)) (Nat.lt_irrefl _)
structure Turn (P : Program) (w : World) (K : PySem.W.Frag) (tg : Expr) (J : It) (fp : List Addr) (it : Addr) (tn : Nat -> Heap -> Prop) : Prop where
 mem : it ∈ fp
 obj : ∀ i h, tn i h -> ∀ b ∈ fp, ∃ o, h.get? b = some o /\ ∀ v, o.data ≠ .cell v
 keep : ∀ i h h', tn i h -> (∀ b ∈ fp, ∀ o, h.get? b = some o -> h'.get? b = some o) -> tn i h'
 item : ∀ (X : Cx), X.prog = P -> X.w = w -> X.K = K -> X.calm = true -> ∀ (i : Nat) (pins : List (Addr × Obj)) (s : Shared) (σ : St) (H : Hp) (E : Value -> Shared -> Prop), Inv X pins σ H s -> (∀ b ∈ fp, cM X pins H b) -> tn i s.heap -> J.go i H ->
  wpAny (model P w) X.A (pyNext (.ref it)) (fun r s1 => ∃ u, r = some u /\
   wpAny (model P w) X.A (letOwnedTupleGo tg (.ref it) u) (fun _ s2 => ∃ x H', Inv X pins σ H' s2 /\ RelV x u /\ J.yC i H x H' /\ tn (i + 1) s2.heap /\ ∀ b ∈ fp, H' b = none) E s1) E s
 done : ∀ (X : Cx), X.prog = P -> X.w = w -> X.K = K -> X.calm = true -> ∀ (i : Nat) (pins : List (Addr × Obj)) (s : Shared) (σ : St) (H : Hp) (E : Value -> Shared -> Prop), Inv X pins σ H s -> (∀ b ∈ fp, cM X pins H b) -> tn i s.heap -> J.stop i H ->
  wpAny (model P w) X.A (pyNext (.ref it)) (fun r s1 => r = none /\ Inv X pins σ H s1) E s
 self : ∀ (A : Around) (i : Nat) (s : Shared) (Q : Value -> Shared -> Prop) (E : Value -> Shared -> Prop), tn i s.heap -> Q (.ref it) s -> wpAny (model P w) A (pyIter (.ref it)) Q E s
abbrev TI := St -> Hp -> (It -> Hp -> Prop) -> Prop
def Ld (X : Cx) (pins : List (Addr × Obj)) (σ : St) (tg : Expr) (R : It -> Hp -> Prop) (Hl : Value) (s2 : Shared) : Prop :=
 ∃ (it : Addr) (fp : List Addr) (tn : Nat -> Heap -> Prop) (J : It) (H' : Hp), Hl = .ref it /\ Inv X pins σ H' s2 /\ Turn X.prog X.w X.K tg J fp it tn /\ tn 0 s2.heap /\ (∀ b ∈ fp, cM X pins H' b) /\ R J H'
def PI (X : Cx) (tg iter : Expr) (wi : TI) : Prop :=
 ∀ (pins : List (Addr × Obj)) (s : Shared) (σ : St) (H : Hp) (R : It -> Hp -> Prop), Inv X pins σ H s -> wi σ H R ->
   wpAny (model X.prog X.w) X.A (eval iter X.env) (fun v s1 => wpAny (model X.prog X.w) X.A (pyIter v) (Ld X pins σ tg R) X.xe s1) X.xe s
theorem Ao {M : Model} {A : Around} {E : Value -> Shared -> Prop} {s : Shared} {tg : Expr} {it : Addr} {u : Value} {o : Obj} {n : String} {vs : Array Value} {Q : Unit -> Shared -> Prop} (ho : s.heap.get? it = some o) (hc : o.cls = .type n) (hd : o.data = .fields vs)
 (hn : ["enumerate", "zip", "dict_itemiterator", "dict_reverseitemiterator", "odict_iterator", "itertools.zip_longest", "itertools.pairwise"].contains n = false) (hQ : Q () s) : wpAny M A (letOwnedTupleGo tg (.ref it) u) Q E s := by
 unfold letOwnedTupleGo
 cases tg <;> first
  | exact wpAny_pure hQ
  | (cases u <;> first
   | exact wpAny_pure hQ
   | (refine wpAny_bind (wpAny_load ho ?_)
      rw [hc, hd]
      show wpAny M A (if (["enumerate", "zip", "dict_itemiterator", "dict_reverseitemiterator", "odict_iterator", "itertools.zip_longest", "itertools.pairwise"].contains n && vs[0]? == some (rawInt _)) = true then _ else _) Q E s
      rw [if_neg (by intro h; rw [hn, Bool.false_and] at h; cases h)]
      exact wpAny_pure hQ))
def xF (K : PySem.W.Frag) (a : Addr) : It :=
 ⟨fun i H => ∃ xs x, bF K H a xs /\ xs[i]? = some x, fun i H x H' => H' = H /\ ∀ xs, bF K H a xs -> xs[i]? = some x, fun i H => ∃ xs, bF K H a xs /\ xs.length <= i⟩
def yr (lo : Int) (n : Nat) : It := ⟨fun i _ => i < n, fun i H x H' => H' = H /\ x = .int (lo + i), fun i _ => n <= i⟩
theorem tD {P : Program} {w : World} {K : PySem.W.Frag} {tg : Expr} (a it : Addr) : Turn P w K tg (xF K a) [it] it (fun i h => h.IsListIter it a i) where
 mem := by simp
 obj := fun i h st b hb => by
  have e : b = it := by simpa using hb
  subst e
  obtain ⟨o, e, c, d⟩ := st
  exact ⟨o, e, fun v z => by rw [d] at z; cases z⟩
 keep := fun i h h' st k => st.at fun o e => k it (by simp) o e
 item := by
  intro X hP hw hK hc i pins s σ H E I hf st hg
  subst hP hw hK
  obtain ⟨xs, x, hq, hx⟩ := hg
  obtain ⟨aD, rv, p, hz⟩ := I.list hq
  obtain ⟨u, hu, ru⟩ := rv.get hx
  obtain ⟨f0, f1, f2, f3, f4, f5⟩ := hf it (by simp)
  refine wpAny_pyNext_list_item st p.isList (x := u) (by simpa using hu) fun h' tW sb => ?_
  have I1 : Inv X pins σ H { s with heap := h' } := I.turned (t' := s.toks) (fun b o hb e => (sb.2 b hb).trans e) f0 f1 f3 f4 f5
  obtain ⟨o, e, c, d⟩ := id tW
  exact ⟨u, rfl, Ao (s := { s with heap := h' }) e c d (by decide) ⟨x, H, I1, ru, ⟨rfl, fun ys hy => by rw [I.je hy hq]; exact hx⟩, tW, fun b hb => (hf b hb).1⟩⟩
 done := by
  intro X hP hw hK hc i pins s σ H E I hf st hg
  subst hP hw hK
  obtain ⟨xs, hq, hx⟩ := hg
  obtain ⟨aD, rv, p, hz⟩ := I.list hq
  obtain ⟨f0, f1, f2, f3, f4, f5⟩ := hf it (by simp)
  have hl := rv.length
  exact wpAny_pyNext_list_end (I.ok.hd hc) st p.isList (by simp; omega) fun h' eb => ⟨rfl, I.turned (t' := s.toks) (fun b o hb e => eb b o hb e) f0 f1 f3 f4 f5⟩
 self := fun _ _ _ _ _ st h => wpAny_pyIter_listiter st h
theorem qQ {P : Program} {w : World} {K : PySem.W.Frag} {tg : Expr} (it : Addr) (lo : Int) (n : Nat) : Turn P w K tg (yr lo n) [it] it (fun i h => IsRangeIter h it (lo + (i : Nat) * 1) ((n : Int) - (i : Nat)) 1) where
 mem := by simp
 obj := fun i h st b hb => by
  have e : b = it := by simpa using hb
  subst e
  exact ⟨_, st, fun v z => by
   have z' : Data.fields _ = Data.cell v := z
   cases z'⟩
 keep := fun i h h' st k => k it (by simp) _ st
 item := by
  intro X hP hw hK hc i pins s σ H E I hf st hg
  subst hP hw hK
  obtain ⟨f0, f1, f2, f3, f4, f5⟩ := hf it (by simp)
  have W := Walks.range (prog := X.prog) (w := X.w) (I.ok.hd hc) it lo 1 n
  refine W.item i s _ _ hg st fun v h' tk hv tW kk => ?_
  obtain ⟨t, rfl⟩ := hv
  have I1 : Inv X pins σ H { s with heap := h', toks := tk } := I.turned (fun b o hb e => kk b o (by simpa using hb) e) f0 f1 f3 f4 f5
  refine ⟨_, rfl, Ao (s := { s with heap := h', toks := tk }) (n := "range_iterator") tW rfl rfl (by decide) ⟨.int (lo + i), H, I1, ⟨t, ?_⟩, ⟨rfl, rfl⟩, tW, fun b hb => (hf b hb).1⟩⟩
  rw [Int.mul_one]
 done := by
  intro X hP hw hK hc i pins s σ H E I hf st hg
  subst hP hw hK
  obtain ⟨f0, f1, f2, f3, f4, f5⟩ := hf it (by simp)
  exact wpAny_pyNext_range_end (I.ok.hd hc) st (by have : n <= i := hg; omega) fun h' eb => ⟨rfl, I.turned (t' := s.toks) (fun b o hb e => eb b o hb e) f0 f1 f3 f4 f5⟩
 self := fun _ _ _ _ _ st h => wpAny_pyIter_rangeiter st h
section
variable {X : Cx} {tg : Expr}
def u5 (K : PySem.W.Frag) (tl : TE) : TI := fun σ H R => tl σ H fun x H1 => ∃ a, x = .ref a /\ (∃ xs, bF K H1 a xs) /\ R (xF K a) H1
theorem bf {l : Expr} {tl : TE} (hl : PE X l tl) : PI X tg l (u5 X.K tl) := by
 intro pins s σ H R I h
 refine bO (hl pins s σ H _ I h) fun v s1 ⟨x, H1, I1, r1, q1⟩ => ?_
 obtain ⟨a, e, ⟨xs, hq⟩, q⟩ := q1
 subst e
 cases r1
 obtain ⟨aD, rv, p, hz⟩ := I1.list hq
 refine wpAny_pyIter_list p.isList ?_
 refine ⟨s1.heap.objs.size, [s1.heap.objs.size], _, _, H1, rfl, I1.kept (t' := s1.toks) fun b o e => Heap.get?_push_of_some _ e, tD a _, ⟨_, Heap.get?_push_size _ rfl, rfl, rfl⟩, fun b hb => ?_, q⟩
 have e : b = s1.heap.objs.size := by simpa using hb
 subst e
 exact I1.kC (Nat.le_refl _) (I1.aK.fresh (Nat.le_refl _))
theorem v5 {pins : List (Addr × Obj)} {σ : St} {H : Hp} {s : Shared} {R : It -> Hp -> Prop} {E : Value -> Shared -> Prop} {lo hi : Int} {t u v : Tok} {tk : Nat} (I : Inv X pins σ H s) (h1 : -(2 ^ 62) <= lo) (h2 : lo < 2 ^ 62) (h3 : -(2 ^ 62) <= hi) (h4 : hi < 2 ^ 62)
 (q : R (yr lo (hi - lo).toNat) H) : wpAny (model X.prog X.w) X.A (pyIter (.ref s.heap.objs.size)) (Ld X pins σ tg R) E { s with heap := s.heap.push { cls := .type "range", data := .fields #[.int lo t, .int hi u, .int 1 v] }, toks := tk } := by
 refine wpAny_pyIter_range (IsRange.new ..) (small_one h1 h2 h3 h4) ?_
 have I1 : Inv X pins σ H { s with heap := s.heap.push { cls := .type "range", data := .fields #[.int lo t, .int hi u, .int 1 v] }, toks := tk } := I.kept fun b o e => Heap.get?_push_of_some _ e
 refine ⟨(s.heap.push { cls := .type "range", data := .fields #[.int lo t, .int hi u, .int 1 v] }).objs.size, [(s.heap.push { cls := .type "range", data := .fields #[.int lo t, .int hi u, .int 1 v] }).objs.size], _, _, H, rfl,
  I1.kept (t' := tk) fun b o e => Heap.get?_push_of_some _ e, qQ _ lo (hi - lo).toNat, ?_, fun b hb => ?_, q⟩
 . have e1 : lo + ((0 : Nat) : Int) * 1 = lo := by simp
   have e2 : (((hi - lo).toNat : Nat) : Int) - ((0 : Nat) : Int) = Builtin.Range.rangeSize lo hi 1 := by rw [rangeSize_one]; split <;> omega
   show IsRangeIter _ _ (lo + ((0 : Nat) : Int) * 1) ((((hi - lo).toNat : Nat) : Int) - ((0 : Nat) : Int)) 1
   rw [e1, e2]
   exact Heap.get?_push_size _ rfl
 . have e : b = (s.heap.push { cls := .type "range", data := .fields #[.int lo t, .int hi u, .int 1 v] }).objs.size := by simpa using hb
   subst e
   exact I1.kC (Nat.le_refl _) (I1.aK.fresh (Nat.le_refl _))
def A1 (ta : TA) : TI := fun σ H R => ta σ H fun vs H1 => ∃ j : Int, vs = [.int j] /\ -(2 ^ 62) <= j /\ j < 2 ^ 62 /\ R (yr 0 j.toNat) H1
theorem jq {a : Expr} {ta : TA} {p pos : Pos} (hg : Gl X "range") (hm : X.mg "range" = none) (ha : PA X [a] ta) (hs : starEach [a] X.env = [(false, eval a X.env)] := by rfl) : PI X tg (.Call (.Name "range" p) [a] [] pos) (A1 ta) := by
 intro pins s σ H R I h
 refine Call_ (dO I hg hm boot_range (PyProof.Rows.callWith_type1 (bO (ha pos pins s σ H _ I h) fun us s1 ⟨vs, H1, I1, r1, q1⟩ => ?_) hs rfl))
 obtain ⟨j, e, q1, q2, q⟩ := q1
 subst e
 cases r1 with
 | cons r rr =>
   cases rr
   obtain ⟨t, rfl⟩ := r
   exact call_range_1 (v5 I1 (by omega) (by omega) q1 q2 (by simpa using q))
def xh (wi : TI) (g : TG) (tb : TS) : TS := fun D σ H => wi σ H fun J H1 => ∃ W : Nat -> Nat -> St -> Hp -> Prop, (∃ m, W 0 m σ H1) /\ ∀ i m σ H, W i m σ H ->
 (J.stop i H /\ D.nx σ H) \/ (J.go i H /\ ∃ N : St -> Hp -> Prop, (∀ σ' H', N σ' H' -> ∃ m', m' < m /\ W (i + 1) m' σ' H') /\ ∀ x H', J.yC i H x H' -> g x σ H' fun σ2 H2 => tb { D with nx := N, ct := N, bk := D.nx } σ2 H2)
def kK (fp : List Addr) (h : Heap) : List (Addr × Obj) := fp.filterMap fun b => (h.get? b).map fun o => (b, o)
theorem fc {fp : List Addr} {h : Heap} {b : Addr} {o : Obj} (hb : b ∈ fp) (e : h.get? b = some o) : (b, o) ∈ kK fp h := List.mem_filterMap.mpr ⟨b, hb, by rw [e]; rfl⟩
theorem tL {fp : List Addr} {h : Heap} {p : Addr × Obj} (hp : p ∈ kK fp h) : p.1 ∈ fp /\ h.get? p.1 = some p.2 := by
 obtain ⟨b, hb, e⟩ := List.mem_filterMap.mp hp
 cases q : h.get? b with
 | none => rw [q] at e; cases e
 | some o =>
   rw [q] at e
   have e' : (b, o) = p := Option.some.inj e
   subst e'
   exact ⟨hb, q⟩
theorem Inv.pinned {pins : List (Addr × Obj)} {σ : St} {H : Hp} {s : Shared} {fp : List Addr} (I : Inv X pins σ H s) (hf : ∀ b ∈ fp, cM X pins H b) (ho : ∀ b ∈ fp, ∃ o, s.heap.get? b = some o /\ ∀ v, o.data ≠ .cell v) : Inv X (pins ++ kK fp s.heap) σ H s :=
 I.gT fun p hp => (List.mem_append.mp hp).elim (fun z => I.pin p (List.mem_append_right _ z)) fun z => by
  obtain ⟨hb, e⟩ := tL z
  obtain ⟨f0, f1, f2, _⟩ := hf p.1 hb
  obtain ⟨o, e', d⟩ := ho p.1 hb
  rw [e] at e'; cases e'
  exact ⟨e, f0, f1, f2, d⟩
theorem Inv.iL {pins pl : List (Addr × Obj)} {σ : St} {H : Hp} {s : Shared} (I : Inv X (pins ++ pl) σ H s) : Inv X pins σ H s := I.gT fun p hp => I.pin p (List.mem_append_right _ (List.mem_append_left _ hp))
theorem cQ {iter : Expr} {body : List Stmt} {wi : TI} {g : TG} {tb : TS} {pos : Pos} (hp : PassesOwn (model X.prog X.w) X.A X.env X.xe) (hc : X.calm = true) (hi : PI X tg iter wi) (hg : PG X tg g) (hb : pP X body tb)
 (hs : ∀ x, foldedSetIterable iter X.env x = pure x := by intro _; rfl) : PS X (.For tg iter body [] pos) (xh wi g tb) := by
 intro pins s σ H D I h
 refine wpAny_For (bO (hi pins s σ H _ I h) fun v s1 h1 => bO h1 fun Hl s2 h2 => ?_) hs
 obtain ⟨it, fp, tn, J, H2, e, I2, T, Mj, f2, W, ⟨m0, w0⟩, turn⟩ := h2
 subst e
 have stat : ∀ {H' : Hp}, (∀ b ∈ fp, H' b = none) -> ∀ b ∈ fp, cM X pins H' b := fun hn b hb => ⟨hn b hb, (f2 b hb).2⟩
 refine codeAny_forLoop_any (fun n s' => ∃ i σ' H', Inv X pins σ' H' s' /\ tn i s'.heap /\ (∀ b ∈ fp, H' b = none) /\ W i n σ' H') ?_ m0 ⟨0, σ, H2, I2, Mj, fun b hb => (f2 b hb).1, w0⟩
 rintro n s3 ⟨i, σ3, H3, I3, Gm, Fm, w3⟩
 rcases turn i n σ3 H3 w3 with ⟨stop, qn⟩ | ⟨go, N, hN, step⟩
 . refine wpAny_passesOwn hp (bO (T.done X rfl rfl rfl hc i pins s3 σ3 H3 X.xe I3 (stat Fm) Gm stop) fun r s4 ⟨hr, I4⟩ => ?_)
   subst hr
   exact wpAny_execs_nil ⟨σ3, H3, I4, qn⟩
 . refine wpAny_passesOwn hp (bO (T.item X rfl rfl rfl hc i pins s3 σ3 H3 X.xe I3 (stat Fm) Gm go) fun r s4 ⟨u, hr, h4⟩ => ?_)
   subst hr
   refine wpAny_passesOwn hp (bO h4 fun _ s5 ⟨x, H5, I5, r5, y5, B7, JE⟩ => ?_)
   have JA := I5.pinned (stat JE) (T.obj _ _ B7)
   refine wpAny_passesOwn hp (bO (hg _ s5 σ3 H5 x u _ JA r5 (step x H5 y5)) fun _ s6 ⟨σ6, H6, I6, q6⟩ => ?_)
   refine wpAny_passesOwn hp (bO (hb _ s6 σ6 H6 _ I6 q6) fun f s7 q7 => ?_)
   have again : ∀ {σ7 : St} {H7 : Hp}, Inv X (pins ++ kK fp s5.heap) σ7 H7 s7 -> N σ7 H7 -> ∃ m, m < n /\ ∃ i σ' H', Inv X pins σ' H' s7 /\ tn i s7.heap /\ (∀ b ∈ fp, H' b = none) /\ W i m σ' H' := fun {σ7 H7} I7 n7 => by
    obtain ⟨m', hm, w7⟩ := hN σ7 H7 n7
    refine ⟨m', hm, i + 1, σ7, H7, I7.iL, T.keep _ _ _ B7 fun b hb o e => (I7.pin (b, o) (List.mem_append_right _ (List.mem_append_right _ (fc hb e)))).1, fun b hb => ?_, w7⟩
    obtain ⟨o, e, d⟩ := T.obj _ _ B7 b hb
    exact (I7.pin (b, o) (List.mem_append_right _ (List.mem_append_right _ (fc hb e)))).2.1
   cases f with
   | next => obtain ⟨σ7, H7, I7, n7⟩ := q7; exact again I7 n7
   | cont => obtain ⟨σ7, H7, I7, n7⟩ := q7; exact again I7 n7
   | brk => obtain ⟨σ7, H7, I7, q7⟩ := q7; exact ⟨σ7, H7, I7.iL, q7⟩
   | ret v => obtain ⟨x7, σ7, H7, I7, r7, q7⟩ := q7; exact ⟨x7, σ7, H7, I7.iL, r7, q7⟩
end
theorem xx {K : PySem.W.Frag} {a : Addr} {xs : List V} {g : TG} {tb : TS} {D : Ends} {σ : St} {H : Hp} (Pv : Nat -> St -> Hp -> Prop) (h0 : Pv 0 σ H) (hl : ∀ i σ H, i <= xs.length -> Pv i σ H -> bF K H a xs)
 (hs : ∀ i x σ H, xs[i]? = some x -> Pv i σ H -> g x σ H fun σ2 H2 => tb { D with nx := Pv (i + 1), ct := Pv (i + 1), bk := D.nx } σ2 H2) (hd : ∀ σ H, Pv xs.length σ H -> D.nx σ H) :
 ∃ W : Nat -> Nat -> St -> Hp -> Prop, (∃ m, W 0 m σ H) /\ ∀ i m σ H, W i m σ H ->
   ((xF K a).stop i H /\ D.nx σ H) \/ ((xF K a).go i H /\ ∃ N : St -> Hp -> Prop, (∀ σ' H', N σ' H' -> ∃ m', m' < m /\ W (i + 1) m' σ' H') /\ ∀ x H', (xF K a).yC i H x H' -> g x σ H' fun σ2 H2 => tb { D with nx := N, ct := N, bk := D.nx } σ2 H2) := by
 refine ⟨fun i m σ H => m = xs.length - i /\ i <= xs.length /\ Pv i σ H, ⟨xs.length, by simp, Nat.zero_le _, h0⟩, ?_⟩
 rintro i m σ H ⟨rfl, hi, p⟩
 have q := hl i σ H hi p
 by_cases b4 : i < xs.length
 . refine .inr ⟨⟨xs, xs[i], q, by simp [b4]⟩, Pv (i + 1), fun σ' H' p' => ⟨xs.length - (i + 1), by omega, rfl, b4, p'⟩, fun x H' y => ?_⟩
   obtain ⟨e, y⟩ := y
   subst e
   exact hs i x σ _ (y xs q) p
 . have e : i = xs.length := by omega
   subst e
   exact .inl ⟨⟨xs, q, Nat.le_refl _⟩, hd σ H p⟩
theorem jg {lo : Int} {n : Nat} {g : TG} {tb : TS} {D : Ends} {σ : St} {H : Hp} (Pv : Nat -> St -> Hp -> Prop) (h0 : Pv 0 σ H)
 (hs : ∀ i σ H, i < n -> Pv i σ H -> g (.int (lo + i)) σ H fun σ2 H2 => tb { D with nx := Pv (i + 1), ct := Pv (i + 1), bk := D.nx } σ2 H2) (hd : ∀ σ H, Pv n σ H -> D.nx σ H) :
 ∃ W : Nat -> Nat -> St -> Hp -> Prop, (∃ m, W 0 m σ H) /\ ∀ i m σ H, W i m σ H ->
   ((yr lo n).stop i H /\ D.nx σ H) \/ ((yr lo n).go i H /\ ∃ N : St -> Hp -> Prop, (∀ σ' H', N σ' H' -> ∃ m', m' < m /\ W (i + 1) m' σ' H') /\ ∀ x H', (yr lo n).yC i H x H' -> g x σ H' fun σ2 H2 => tb { D with nx := N, ct := N, bk := D.nx } σ2 H2) := by
 refine ⟨fun i m σ H => m = n - i /\ i <= n /\ Pv i σ H, ⟨n, by simp, Nat.zero_le _, h0⟩, ?_⟩
 rintro i m σ H ⟨rfl, hi, p⟩
 by_cases b4 : i < n
 . refine .inr ⟨b4, Pv (i + 1), fun σ' H' p' => ⟨n - (i + 1), by omega, rfl, b4, p'⟩, fun x H' y => ?_⟩
   obtain ⟨e, y⟩ := y
   subst e y
   exact hs i σ _ b4 p
 . have e : i = n := by omega
   subst e
   exact .inl ⟨Nat.le_refl _, hd σ H p⟩
abbrev R2 := V -> V -> Hp -> VK -> Prop
def iE (X : Cx) (f : Value -> Value -> Sem Value) (r : R2) : Prop :=
 ∀ (pins : List (Addr × Obj)) (s : Shared) (σ : St) (H : Hp) (x y : V) (v u : Value) (Q : VK), Inv X pins σ H s -> RelV x v -> RelV y u -> r x y H Q ->
   wpAny (model X.prog X.w) X.A (f v u) (EP X pins σ Q) X.xe s
def dH (X : Cx) (f : Value) (r : List V -> Hp -> VK -> Prop) : Prop :=
 ∀ (pins : List (Addr × Obj)) (s : Shared) (σ : St) (H : Hp) (xs : List V) (us : List Value) (Q : VK), Inv X pins σ H s -> Vals xs us -> r xs H Q ->
   wpAny (model X.prog X.w) X.A (call f us) (EP X pins σ Q) X.xe s
def HC (X : Cx) (r : V -> Hp -> (Bool -> Hp -> Prop) -> Prop) : Prop :=
 ∀ (pins : List (Addr × Obj)) (s : Shared) (σ : St) (H : Hp) (x : V) (v : Value) (Q : Bool -> Hp -> Prop), Inv X pins σ H s -> RelV x v -> r x H Q ->
   wpAny (model X.prog X.w) X.A (truthy v) (TP X pins σ Q) X.xe s
def FY (r : R2) (ta tb : TE) : TE := fun σ H Q => ta σ H fun x H1 => tb σ H1 fun y H2 => r x y H2 Q
def rI (C : Int -> Int -> Prop) (g : Int -> Int -> V) : R2 := fun x y H Q => ∃ i j, x = .int i /\ y = .int j /\ C i j /\ Q (g i j) H
def y8 (g : Int -> Int -> V) : R2 := fun x y H Q => ∃ i j, x = .int i /\ y = .int j /\ Q (g i j) H
section
variable {X : Cx} {a b c : Expr} {ta tb tc : TE} {pos : Pos}
theorem C5 (ha : PE X a ta) (hb : PE X b tb) {pins : List (Addr × Obj)} {s : Shared} {σ : St} {H : Hp} {R : V -> V -> Hp -> Prop} (I : Inv X pins σ H s)
 (h : ta σ H fun x H1 => tb σ H1 fun y H2 => R x y H2) {Q : Value -> Shared -> Prop} {f : Value -> Value -> Sem Value}
 (hf : ∀ v u s2 x y H2, Inv X pins σ H2 s2 -> RelV x v -> RelV y u -> R x y H2 -> wpAny (model X.prog X.w) X.A (f v u) Q X.xe s2) :
 wpAny (model X.prog X.w) X.A (eval a X.env) (fun v s₁ => wpAny (model X.prog X.w) X.A (eval b X.env) (fun u s₂ => wpAny (model X.prog X.w) X.A (f v u) Q X.xe s₂) X.xe s₁) X.xe s := by
 refine bO (ha pins s σ H _ I h) fun v s1 ⟨x, H1, I1, r1, q1⟩ => ?_
 refine bO (hb pins s1 σ H1 _ I1 q1) fun u s2 ⟨y, H2, I2, r2, q2⟩ => ?_
 exact hf v u s2 x y H2 I2 r1 r2 q2
theorem aj {op : Operator} {r : R2} (ho : iE X (binaryOp op) r) (ha : PE X a ta) (hb : PE X b tb) : PE X (.BinOp a op b pos) (FY r ta tb) := by
 intro pins s σ H Q I h
 exact wpAny_BinOp (C5 ha hb I h fun v u s2 x y H2 I2 rx ry q => ho pins s2 σ H2 x y v u Q I2 rx ry q)
theorem Hi {f : Value -> Value -> Sem Value} {C : Int -> Int -> Prop} {g : Int -> Int -> Int}
 (rule : ∀ (i j : Int) (t u : Tok) (s : Shared) (Q : Value -> Shared -> Prop) (E : Value -> Shared -> Prop), C i j -> Q (.int (g i j) s.toks) { s with toks := s.toks + 1 } -> wpAny (model X.prog X.w) X.A (f (.int i t) (.int j u)) Q E s) :
 iE X f (rI C fun i j => .int (g i j)) := by
 intro pins s σ H x y v u Q I rx ry h
 obtain ⟨i, j, rfl, rfl, hc, q⟩ := h
 obtain ⟨t, rfl⟩ := rx
 obtain ⟨t', rfl⟩ := ry
 exact rule i j t t' s _ _ hc ⟨.int (g i j), H, I.tok _, ⟨_, rfl⟩, q⟩
theorem Fj {f : Value -> Value -> Sem Value} {g : Int -> Int -> Int}
 (rule : ∀ (i j : Int) (t u : Tok) (s : Shared) (Q : Value -> Shared -> Prop) (E : Value -> Shared -> Prop), Q (.int (g i j) s.toks) { s with toks := s.toks + 1 } -> wpAny (model X.prog X.w) X.A (f (.int i t) (.int j u)) Q E s) :
 iE X f (y8 fun i j => .int (g i j)) := by
 intro pins s σ H x y v u Q I rx ry h
 obtain ⟨i, j, rfl, rfl, q⟩ := h
 obtain ⟨t, rfl⟩ := rx
 obtain ⟨t', rfl⟩ := ry
 exact rule i j t t' s _ _ ⟨.int (g i j), H, I.tok _, ⟨_, rfl⟩, q⟩
theorem xU {f : Value -> Value -> Sem Value} {g : Int -> Int -> Bool}
 (rule : ∀ (i j : Int) (t u : Tok) (s : Shared) (Q : Value -> Shared -> Prop) (E : Value -> Shared -> Prop), Q (.bool (g i j)) s -> wpAny (model X.prog X.w) X.A (f (.int i t) (.int j u)) Q E s) :
 iE X f (y8 fun i j => .bl (g i j)) := by
 intro pins s σ H x y v u Q I rx ry h
 obtain ⟨i, j, rfl, rfl, q⟩ := h
 obtain ⟨t, rfl⟩ := rx
 obtain ⟨t', rfl⟩ := ry
 exact rule i j t t' s _ _ ⟨.bl (g i j), H, I, rfl, q⟩
def Bk (i j : Int) : Prop := 0 <= j /\ j <= 1000000 /\ i.natAbs < 2 ^ 64
theorem bh : iE X (binaryOp .Add) (y8 fun i j => .int (i + j)) := Fj fun _ _ _ _ _ _ _ q => add_int q
theorem fV : iE X (binaryOp .Sub) (y8 fun i j => .int (i - j)) := Fj fun _ _ _ _ _ _ _ q => sub_int q
theorem A9 : iE X (binaryOp .Mod) (rI (fun _ j => 0 < j) fun i j => .int (i % j)) := Hi fun i j _ _ _ _ _ hc q => by
 have h1 : (0 : Int) < j := hc
 exact mod_int' (by omega) (by rw [Int.fmod_eq_emod_of_nonneg i (by omega)]; exact q)
theorem jv : iE X (binaryOp .Pow) (rI Bk fun i j => .int (i ^ j.toNat)) := Hi fun _ _ _ _ _ _ _ hc q => pow_int_small hc.1 hc.2.1 hc.2.2 q
end
def zh : V -> V -> Bool
 | .bz, .bz => true | .bz, .int _ => true | .int _, .bz => true | .bz, .bl _ => true | .bl _, .bz => true | .bz, .str _ => true | .str _, .bz => true
 | .int _, .int _ => true | .bl _, .bl _ => true | .str _, .str _ => true | .uw _, .uw _ => true
 | .int _, .str _ => true | .str _, .int _ => true | .bl _, .str _ => true | .str _, .bl _ => true
 | _, _ => false
def O5 : R2 := fun x y H Q => zh x y = true /\ Q (.bl (decide (x = y))) H
def Ng : R2 := fun x y H Q => zh x y = true /\ Q (.bl (!decide (x = y))) H
theorem sJ {i j : Int} : decide (V.int i = V.int j) = (i == j) := by
 rw [Bool.eq_iff_iff]
 simp
theorem uT {i j : Bool} : decide (V.bl i = V.bl j) = (i == j) := by
 rw [Bool.eq_iff_iff]
 simp
theorem rq {i j : Str} : decide (V.str i = V.str j) = (i == j) := by
 rw [Bool.eq_iff_iff]
 simp
theorem sg {i j : Array UInt8} : decide (V.uw i = V.uw j) = (i.toList == j.toList) := by
 rw [Bool.eq_iff_iff]
 cases i
 cases j
 simp
section
variable {X : Cx} {a b c : Expr} {ta tb tc : TE} {pos : Pos}
theorem aP {pins : List (Addr × Obj)} {σ : St} {H : Hp} {s : Shared} {Q : VK} {k k' : Bool} (I : Inv X pins σ H s) (q : Q (.bl k) H) (e : k = k') : EP X pins σ Q (.bool k') s := by
 subst e
 exact ⟨.bl k, H, I, rfl, q⟩
theorem F6 : iE X (compareOp .Eq) O5 := by
 intro pins s σ H x y v u Q I rx ry h
 obtain ⟨hs, q⟩ := h
 cases x with
 | bz =>
   cases rx
   cases y with
   | bz => cases ry; exact PySem.EqNone.eq_none_none (aP I q (by simp))
   | bl j => cases ry; exact PySem.EqNone.eq_none_bool (aP I q (by simp))
   | int j => obtain ⟨t', rfl⟩ := ry; exact PySem.EqNone.eq_none_int (aP I q (by simp))
   | str j => obtain ⟨t', rfl⟩ := ry; exact PySem.EqNone.eq_none_str (aP I q (by simp))
   | _ => exact absurd (show false = true from hs) Bool.false_ne_true
 | bl i =>
   cases rx
   cases y with
   | bz => cases ry; exact PySem.EqNone.eq_bool_none (aP I q (by simp))
   | bl j => cases ry; exact eq_bool (aP I q uT)
   | str j => obtain ⟨t', rfl⟩ := ry; exact PySem.EqMixed.eq_bool_str (aP I q (by simp))
   | _ => exact absurd (show false = true from hs) Bool.false_ne_true
 | int i =>
   obtain ⟨t, rfl⟩ := rx
   cases y with
   | bz => cases ry; exact PySem.EqNone.eq_int_none (aP I q (by simp))
   | int j => obtain ⟨t', rfl⟩ := ry; exact eq_int (aP I q sJ)
   | str j => obtain ⟨t', rfl⟩ := ry; exact PySem.EqMixed.eq_int_str (aP I q (by simp))
   | _ => exact absurd (show false = true from hs) Bool.false_ne_true
 | str i =>
   obtain ⟨t, rfl⟩ := rx
   cases y with
   | bz => cases ry; exact PySem.EqNone.eq_str_none (aP I q (by simp))
   | bl j => cases ry; exact PySem.EqMixed.eq_str_bool (aP I q (by simp))
   | int j => obtain ⟨t', rfl⟩ := ry; exact PySem.EqMixed.eq_str_int (aP I q (by simp))
   | str j => obtain ⟨t', rfl⟩ := ry; exact eq_str (aP I q rq)
   | _ => exact absurd (show false = true from hs) Bool.false_ne_true
 | uw i =>
   obtain ⟨t, rfl⟩ := rx
   cases y with
   | uw j => obtain ⟨t', rfl⟩ := ry; exact PySem.W.eq_bytes (aP I q sg)
   | _ => exact absurd (show false = true from hs) Bool.false_ne_true
 | _ => cases y <;> exact absurd (show false = true from hs) Bool.false_ne_true
theorem GQ : iE X (compareOp .NotEq) Ng := by
 intro pins s σ H x y v u Q I rx ry h
 obtain ⟨hs, q⟩ := h
 cases x with
 | bz =>
   cases rx
   cases y with
   | bz => cases ry; exact PySem.EqNone.ne_none_none (aP I q (by simp))
   | bl j => cases ry; exact PySem.EqNone.ne_none_bool (aP I q (by simp))
   | int j => obtain ⟨t', rfl⟩ := ry; exact PySem.EqNone.ne_none_int (aP I q (by simp))
   | str j => obtain ⟨t', rfl⟩ := ry; exact PySem.EqNone.ne_none_str (aP I q (by simp))
   | _ => exact absurd (show false = true from hs) Bool.false_ne_true
 | bl i =>
   cases rx
   cases y with
   | bz => cases ry; exact PySem.EqNone.ne_bool_none (aP I q (by simp))
   | bl j => cases ry; exact ne_bool (aP I q (congrArg not uT))
   | str j => obtain ⟨t', rfl⟩ := ry; exact PySem.EqMixed.ne_bool_str (aP I q (by simp))
   | _ => exact absurd (show false = true from hs) Bool.false_ne_true
 | int i =>
   obtain ⟨t, rfl⟩ := rx
   cases y with
   | bz => cases ry; exact PySem.EqNone.ne_int_none (aP I q (by simp))
   | int j => obtain ⟨t', rfl⟩ := ry; exact ne_int (aP I q (congrArg not sJ))
   | str j => obtain ⟨t', rfl⟩ := ry; exact PySem.EqMixed.ne_int_str (aP I q (by simp))
   | _ => exact absurd (show false = true from hs) Bool.false_ne_true
 | str i =>
   obtain ⟨t, rfl⟩ := rx
   cases y with
   | bz => cases ry; exact PySem.EqNone.ne_str_none (aP I q (by simp))
   | bl j => cases ry; exact PySem.EqMixed.ne_str_bool (aP I q (by simp))
   | int j => obtain ⟨t', rfl⟩ := ry; exact PySem.EqMixed.ne_str_int (aP I q (by simp))
   | str j => obtain ⟨t', rfl⟩ := ry; exact ne_str (aP I q (congrArg not rq))
   | _ => exact absurd (show false = true from hs) Bool.false_ne_true
 | uw i =>
   obtain ⟨t, rfl⟩ := rx
   cases y with
   | uw j => obtain ⟨t', rfl⟩ := ry; exact PySem.W.ne_bytes (aP I q (congrArg not sg))
   | _ => exact absurd (show false = true from hs) Bool.false_ne_true
 | _ => cases y <;> exact absurd (show false = true from hs) Bool.false_ne_true
theorem kB : iE X (compareOp .Lt) (y8 fun i j => .bl (decide (i < j))) := xU fun _ _ _ _ _ _ _ q => lt_int q
theorem gF : iE X (compareOp .LtE) (y8 fun i j => .bl (decide (i <= j))) := xU fun _ _ _ _ _ _ _ q => le_int q
theorem iZ : iE X (compareOp .Gt) (y8 fun i j => .bl (decide (j < i))) := xU fun _ _ _ _ _ _ _ q => gt_int q
theorem FU : iE X (compareOp .GtE) (y8 fun i j => .bl (decide (j <= i))) := xU fun _ _ _ _ _ _ _ q => ge_int q
theorem vP : iE X (compareOp .Is) (fun x y H Q => y = .bz /\ Q (.bl (decide (x = .bz))) H) := by
 intro pins s σ H x y v u Q I rx ry h
 obtain ⟨rfl, q⟩ := h
 cases ry
 refine is_none_gen (aP I q ?_)
 cases x <;> first
  | (cases rx; rfl)
  | (obtain ⟨t, rfl⟩ := rx; rfl)
theorem aS (b : Expr) {op : CmpOp} (h : op ≠ .In := by decide) (h2 : op ≠ .NotIn := by decide) : behindInMarks op b = false := by
 have e1 : (op == CmpOp.In) = false := by cases op <;> first | rfl | exact absurd rfl h
 have e2 : (op == CmpOp.NotIn) = false := by cases op <;> first | rfl | exact absurd rfl h2
 cases b <;> simp [behindInMarks, e1, e2]
theorem jd {op : CmpOp} {r : R2} (ho : iE X (compareOp op) r) (ha : PE X a ta) (hb : PE X b tb) (hm : behindInMarks op b = false) : PE X (.Compare a [op] [b] pos) (FY r ta tb) := by
 intro pins s σ H Q I h
 exact wpAny_Compare1 (C5 ha hb I h fun v u s2 x y H2 I2 rx ry q => ho pins s2 σ H2 x y v u Q I2 rx ry q) hm
def xo (t : TE) : TT := fun σ H Q => t σ H fun x H' => ∃ k, x = .bl k /\ Q k H'
theorem aN {op : CmpOp} {r : R2} (ho : iE X (compareOp op) r) (ha : PE X a ta) (hb : PE X b tb) (hm : behindInMarks op b = false) : PT X (.Compare a [op] [b] pos) (xo (FY r ta tb)) := by
 intro pins s σ H Q I h
 refine wpAny_isTrue_Compare1 (bO (ha pins s σ H _ I h) fun v s1 ⟨x, H1, I1, r1, q1⟩ => bO (hb pins s1 σ H1 _ I1 q1) fun u s2 ⟨y, H2, I2, r2, q2⟩ =>
  bO (ho pins s2 σ H2 x y v u _ I2 r1 r2 q2) fun c s3 ⟨z, H3, I3, r3, k, e, q3⟩ => ?_) hm
 subst e
 cases r3
 exact wpAny_truthy_bool ⟨H3, I3, q3⟩
def vS (r r' : R2) (ta tb tc : TE) : TE := fun σ H Q => ta σ H fun x H1 => tb σ H1 fun y H2 => r x y H2 fun z H3 => ∃ k, z = .bl k /\
 (if k = true then tc σ H3 fun w' H4 => r' y w' H4 Q else Q (.bl false) H3)
theorem gI {op JH : CmpOp} {r r' : R2} (ho : iE X (compareOp op) r) (wq : iE X (compareOp JH) r') (ha : PE X a ta) (hb : PE X b tb) (hc : PE X c tc)
 (hm : lastMarks [op, JH] [b, c] = false := by with_unfolding_all rfl) : PT X (.Compare a [op, JH] [b, c] pos) (xo (vS r r' ta tb tc)) := by
 intro pins s σ H Q I h
 refine isTrue_chain (bO (ha pins s σ H _ I h) fun v s1 ⟨x, H1, I1, r1, q1⟩ => test_link (bO (hb pins s1 σ H1 _ I1 q1) fun u s2 ⟨y, H2, I2, r2, q2⟩ =>
  bO (ho pins s2 σ H2 x y v u _ I2 r1 r2 q2) fun d s3 ⟨z, H3, I3, r3, k, e, q3⟩ => ?_)) hm
 subst e
 cases r3
 refine wpAny_truthy_bool ?_
 cases k with
 | false =>
   obtain ⟨k', e', q'⟩ := q3
   cases e'
   exact ite_ff ⟨H3, I3, q'⟩
 | true =>
   refine ite_tt (test_last (bO (hc pins s3 σ H3 _ I3 q3) fun w' s4 ⟨z', H4, I4, r4, q4⟩ => bO (wq pins s4 σ H4 y z' u w' _ I4 r2 r4 q4) fun d' s5 ⟨z2, H5, I5, r5, k2, e2, q5⟩ => ?_))
   subst e2
   cases r5
   exact wpAny_truthy_bool ⟨H5, I5, q5⟩
def DF (K : PySem.W.Frag) (x : V) (H : Hp) (k : Bool) : Prop :=
 match x with
 | .bz => k = false
 | .bl b => k = b
 | .int i => k = (i != 0)
 | .str y => y.length <= sizeLine /\ k = ((y.length : Int) != 0)
 | .uw y => y.size <= sizeLine /\ k = ((y.size : Int) != 0)
 | .ref p => (∃ xs, bF K H p xs /\ k = !xs.isEmpty) \/ (∃ xs, oj K H p xs /\ k = !xs.isEmpty) \/ ∃ kvs, H p = some (.dK kvs) /\ k = !kvs.isEmpty
 | _ => False
theorem qC {κ : Type} {kvs : List (κ × V)} {vs : List (κ × Value)} (r : KV kvs vs) : (!vs.isEmpty) = !kvs.isEmpty := by
 cases r <;> rfl
theorem la {xs : List V} {aD : List Value} (r : Vals xs aD) : (!aD.toArray.isEmpty) = !xs.isEmpty := by
 cases r <;> simp
theorem iq : (sizeLine : Nat) < 2 ^ 63 := by rw [sizeLine_eq]; decide
theorem CI : HC X (fun x H Q => ∃ k, DF X.K x H k /\ Q k H) := by
 intro pins s σ H x v Q I rx h
 obtain ⟨k, e, q⟩ := h
 have hl := iq
 have hs : sizeLine = 16777216 := sizeLine_eq
 cases x with
 | bz =>
   cases rx
   have e' : k = false := e
   subst e'
   exact truthy_none ⟨H, I, q⟩
 | bl b =>
   cases rx
   have e' : k = b := e
   subst e'
   exact wpAny_truthy_bool ⟨H, I, q⟩
 | int i =>
   obtain ⟨t, rfl⟩ := rx
   have e' : k = (i != 0) := e
   subst e'
   exact PySem.P.truthy_int ⟨H, I, q⟩
 | str y =>
   obtain ⟨t, rfl⟩ := rx
   obtain ⟨hy, e'⟩ : y.length <= sizeLine /\ k = ((y.length : Int) != 0) := e
   subst e'
   exact PySem.P.truthy_str (by omega) ⟨H, I.tok _, q⟩
 | uw y =>
   obtain ⟨t, rfl⟩ := rx
   obtain ⟨hy, e'⟩ : y.size <= sizeLine /\ k = ((y.size : Int) != 0) := e
   subst e'
   exact PySem.W.truthy_bytes (by omega) ⟨H, I.tok _, q⟩
 | ref p =>
   cases rx
   have e' : (∃ xs, bF X.K H p xs /\ k = !xs.isEmpty) \/ (∃ xs, oj X.K H p xs /\ k = !xs.isEmpty) \/ ∃ kvs, H p = some (.dK kvs) /\ k = !kvs.isEmpty := e
   rcases e' with ⟨xs, hx, e'⟩ | ⟨xs, hx, e'⟩ | ⟨kvs, hx, e'⟩
   . subst e'
     obtain ⟨aD, r, pl, hz⟩ := I.list hx
     have hlen := r.length
     exact wpAny_truthy_list pl.isList (by simp only [List.size_toArray]; omega) ⟨H, I.tok _, by rw [la r]; exact q⟩
   . subst e'
     obtain ⟨aD, r, pl, hz⟩ := I.tuple hx
     have hlen := r.length
     exact truthy_tuple pl (by simp only [List.size_toArray]; omega) ⟨H, I.tok _, by rw [la r]; exact q⟩
   . subst e'
     obtain ⟨hz, hS, vs, r, m⟩ : kvs.length <= sizeLine /\ (p == sysModules) = false /\ ∃ vs, KV kvs vs /\ s.heap.DictOf (aY X.prog X.w) p vs := I.aK p _ hx
     have hlen : kvs.length = vs.length := Paired.length r
     exact wpAny_truthy_dict hS m (by omega) ⟨H, I.tok _, by rw [qC r]; exact q⟩
 | _ => exact (show False from e).elim
theorem bU (ha : PE X a ta) (he : ∀ whole, isTrue a X.env whole = (do let v <- whole; standAt a.pos; holding [v] (truthy v))) :
 PT X a (fun σ H Q => ta σ H fun x H' => ∃ k, DF X.K x H' k /\ Q k H') := by
 intro pins s σ H Q I h
 exact isTrue_plain (bO (ha pins s σ H _ I h) fun v s1 ⟨x, H1, I1, r1, q1⟩ => CI pins s1 σ H1 x v Q I1 r1 q1) (he _)
theorem qP : iE X (binaryOp .Add) (fun x y H Q => ∃ i j, x = .str i /\ y = .str j /\ i.length + j.length <= sizeLine /\ Q (.str (i ++ j)) H) := by
 intro pins s σ H x y v u Q I rx ry h
 obtain ⟨i, j, rfl, rfl, hz, q⟩ := h
 obtain ⟨t, rfl⟩ := rx
 obtain ⟨t', rfl⟩ := ry
 exact add_str (fun t' tk => ⟨.str (i ++ j), H, I.tok _, ⟨_, rfl⟩, q⟩) hz
theorem vals1 {x : V} {us : List Value} (r : Vals [x] us) : ∃ u, us = [u] /\ RelV x u := by
 cases r with
 | cons r1 r2 => cases r2; exact ⟨_, rfl, r1⟩
theorem vals2 {x y : V} {us : List Value} (r : Vals [x, y] us) : ∃ u w', us = [u, w'] /\ RelV x u /\ RelV y w' := by
 cases r with
 | cons r1 r2 =>
   cases r2 with
   | cons r3 r4 => cases r4; exact ⟨_, _, rfl, r1, r3⟩
theorem tm (hc : X.calm = true) : dH X (.builtin "min") (fun xs H Q => ∃ i j, xs = [.int i, .int j] /\ Q (.int (if j < i then j else i)) H) := by
 intro pins s σ H xs us Q I r h
 obtain ⟨i, j, rfl, q⟩ := h
 obtain ⟨u, w', rfl, ⟨t, rfl⟩, ⟨t', rfl⟩⟩ := vals2 r
 refine min_two_ints (I.ok.hd hc) fun h' tk k => ⟨_, H, I.kept k, ?_, q⟩
 by_cases hj : j < i
 . rw [if_pos hj, if_pos hj]; exact ⟨_, rfl⟩
 . rw [if_neg hj, if_neg hj]; exact ⟨_, rfl⟩
end
structure Dy (h : Heap) (x dx C : Addr) (mA : Str -> Option Value) : Prop where
 obj : h.get? x = some (PySem.W.instObj C dx)
 ns : h.Ns1 dx mA
 ne : dx ≠ x
theorem tU {h : Heap} {dx : Addr} {mA : Str -> Option Value} (n : h.Ns1 dx mA) : ∃ od, h.get? dx = some od /\ ∀ name, PySem.W.lookIn name od = some (mA name) := by
 obtain ⟨o, es, ep, ho, hd, hk, _, hm⟩ := n
 refine ⟨o, ho, fun name => ?_⟩
 have e := hm name
 unfold nsFind findBy at e
 rw [<- Array.find?_toList] at e
 unfold PySem.W.lookIn
 rw [hd]
 dsimp only
 split
 . rename_i y q
   rw [q] at e
   exact congrArg some e
 . rename_i q
   rw [q] at e
   have a : es.toList.any (·.refKey) = false := by
    rw [List.any_eq_false]
    intro y hy
    obtain ⟨z, t, IG⟩ := hk y (Array.mem_toList_iff.mp hy)
    simp [DictEntry.refKey, IG]
   have a' : ¬ es.toList.any (·.refKey) = true := by rw [a]; exact Bool.false_ne_true
   rw [if_neg a']
   exact congrArg some e
theorem Dy.look {h : Heap} {x dx C : Addr} {mA : Str -> Option Value} (I : Dy h x dx C mA) : ∃ od, PySem.W.InstAt h x (PySem.W.instObj C dx) C (some od) /\ ∀ name, PySem.W.lookIn name od = some (mA name) :=
 let ⟨od, ho, hl⟩ := tU I.ns
 ⟨od, ⟨I.obj, rfl, rfl, ho⟩, hl⟩
section
variable {prog : Program} {w : World} {A : Around} {E : Value -> Shared -> Prop} {s : Shared} {K : PySem.W.Frag} {x dx C f : Addr} {mA : Str -> Option Value} {name : Str} {v : Value}
end
theorem j4.some_of {v : V} {o : Option Value} (r : j4 (some v) o) : ∃ u, o = some u /\ RelV v u := by
 cases o with
 | none => exact (show False from r).elim
 | some u => exact ⟨u, rfl, r⟩
section
variable {P : Program} {w : World} {H H' : Hp} {h h' : Heap} {a C dx : Addr} {fs NC : List (Str × V)}
theorem yW (aK : g8 P w H h) (e : H a = some (.ins C dx fs)) : ∃ mA, Dy h a dx C mA /\ (∀ f, j4 (fs.lookup f) (mA f)) /\ PySem.Within mA (fs.map (·.1)) /\ fs.length <= 1000 /\ H dx = some (.own a) := by
 obtain ⟨d, z, ne, ob, mA, n, r, q⟩ := (show bp P w H h a (.ins C dx fs) from aK a _ e)
 exact ⟨mA, ⟨ob, n, ne⟩, r, q, z, d⟩
end
structure Jf (K : PySem.W.Frag) (C : Addr) : Prop where
 pg : PySem.W.plainGet K C Str.empty = true
 hd : PySem.W.hasDictIn K C = true
 po : PySem.W.plainOver K C = true
 sa : PySem.W.findIn K (.ref C) "__setattr__" = some (some (.builtin "object.__setattr__"))
theorem Jf.get {K : PySem.W.Frag} {C : Addr} (c : Jf K C) (f : Str) : PySem.W.plainGet K C f = true := c.pg
structure Qe (K : PySem.W.Frag) (C : Addr) (f : Str) (v : V) (u : Value) : Prop where
 at_ : PySem.W.findIn K (.ref C) f = some (some u)
 rel : RelV v u
 get : PySem.W.specialIn K u "__get__" = some none
 cp : PySem.W.copiedNames.contains f = false
structure Meth (K : PySem.W.Frag) (C : Addr) (m : Str) (f : Addr) : Prop where
 at_ : PySem.W.findIn K (.ref C) m = some (some (.ref f))
 fn : PySem.W.isFn K (.ref f) = true
 kp : PySem.W.keepIn K (.ref f) = true
section
variable {X : Cx} {pins : List (Addr × Obj)} {σ : St} {H : Hp} {s : Shared} {a C dx : Addr} {fs : List (Str × V)} {f : Str} {v : V} {A : Around} {E : Value -> Shared -> Prop}
end
section
variable {X : Cx} {o e value : Expr} {f : Str} {pos pos' vH : Pos} {ta tv : TE}
end
section
variable {X : Cx} {pins : List (Addr × Obj)} {σ : St} {H : Hp} {s : Shared} {A : Around} {E : Value -> Shared -> Prop} {Q : Value -> Shared -> Prop} {c : Value} {b : Bool}
inductive iS (K : PySem.W.Frag) (H : Hp) : V -> Value -> Prop where
 | bz : iS K H .bz (.type "NoneType")
 | bl (x : Bool) : iS K H (.bl x) (.type "bool")
 | int (i : Int) : iS K H (.int i) (.type "int")
 | str (x : Str) : iS K H (.str x) (.type "str")
 | Eb (x : UInt64) : iS K H (.Eb x) (.type "float")
 | lst {a : Addr} {xs : List V} (e : H a = some (.lst xs)) : iS K H (.ref a) (.type "list")
 | rg {a : Addr} {o : Obj} {xs : List V} (e : H a = some (.rg o (.lst xs))) : iS K H (.ref a) (.type "list")
 | tup {a : Addr} {xs : List V} (e : H a = some (.tup xs)) : iS K H (.ref a) (.type "tuple")
 | dK {a : Addr} {kvs : List (Key × V)} (e : H a = some (.dK kvs)) : iS K H (.ref a) (.type "dict")
 | dT {a : Addr} {kvs : List (List Key × V)} (e : H a = some (.dT kvs)) : iS K H (.ref a) (.type "dict")
 | ins {a C dx : Addr} {fs : List (Str × V)} (e : H a = some (.ins C dx fs)) (cl : Jf K C) (ha : PySem.W.findIn K (.ref C) "__class__" = some (some (.builtin "object.__class__")))
  (hn : PySem.W.specialIn K (.builtin "object.__class__") "__get__" = some (some (.builtin "getset_descriptor.__get__"))) (rm : PySem.W.takesIn K (.builtin "object.__class__") = some true)
  (hm : PySem.W.mroIn K C (.type "object") = some true) : iS K H (.ref a) (.ref C)
theorem tE {x : V} {u t : Value} (I : Inv X pins σ H s) (rx : RelV x u) (ty : iS X.K H x t) (e : PySem.W.kitOne X.K t c = some b) (h : ∀ tk, Q (.bool b) { s with toks := tk }) :
 wpAny (model X.prog X.w) A (call (.builtin "isinstance") [u, c]) Q E s := by
 cases ty with
 | bz => cases (show u = Value.none from rx); exact PySem.W.kia_one PySem.W.kitx_none I.oC True.intro e (fun z => nomatch z) h
 | bl y => cases (show u = Value.bool y from rx); exact PySem.W.kia_one PySem.W.kitx_bool I.oC True.intro e (fun z => nomatch z) h
 | int i => obtain ⟨t, q⟩ := (show ∃ t, u = Value.int i t from rx); cases q; exact PySem.W.kia_one PySem.W.kitx_int I.oC True.intro e (fun z => nomatch z) h
 | str y => obtain ⟨t, q⟩ := (show ∃ t, u = Value.str y t from rx); cases q; exact PySem.W.kia_one PySem.W.kitx_str I.oC True.intro e (fun z => nomatch z) h
 | Eb y => obtain ⟨t, q⟩ := (show ∃ t, u = Value.float y t from rx); cases q; exact PySem.W.kia_one PySem.W.kitx_float I.oC True.intro e (fun z => nomatch z) h
 | @lst a xs ea =>
   cases (show u = Value.ref a from rx)
   obtain ⟨_, _, n, _, h1⟩ := (show bp X.prog X.w H s.heap a (.lst xs) from I.aK a _ ea)
   exact PySem.W.kia_one PySem.W.kitx_list I.oC ⟨_, h1, rfl⟩ e (fun z => nomatch z) h
 | @rg a ob xs ea =>
   cases (show u = Value.ref a from rx)
   obtain ⟨_, _, _, n, _, h1⟩ := (show bp X.prog X.w H s.heap a (.rg ob (.lst xs)) from I.aK a _ ea)
   exact PySem.W.kia_one PySem.W.kitx_list I.oC ⟨_, h1, rfl⟩ e (fun z => nomatch z) h
 | @tup a xs ea =>
   cases (show u = Value.ref a from rx)
   obtain ⟨_, _, _, p⟩ := (show bp X.prog X.w H s.heap a (.tup xs) from I.aK a _ ea)
   obtain ⟨o, h1, h2, _⟩ := p
   exact PySem.W.kia_one PySem.W.kitx_tuple I.oC ⟨o, h1, h2⟩ e (fun z => nomatch z) h
 | @dK a kvs ea =>
   cases (show u = Value.ref a from rx)
   obtain ⟨_, _, vs, _, p⟩ := (show bp X.prog X.w H s.heap a (.dK kvs) from I.aK a _ ea)
   obtain ⟨o, es, ep, h1, h2, _⟩ := p
   exact PySem.W.kia_one PySem.W.kitx_dict I.oC ⟨o, h1, h2.1⟩ e (fun z => nomatch z) h
 | @dT a kvs ea =>
   cases (show u = Value.ref a from rx)
   obtain ⟨_, _, xs, _, o, es, ep, h1, h2, _⟩ := (show bp X.prog X.w H s.heap a (.dT kvs) from I.aK a _ ea)
   exact PySem.W.kia_one PySem.W.kitx_dict I.oC ⟨o, h1, h2.1⟩ e (fun z => nomatch z) h
 | @ins a C dx fs ea cl ha hn rm hm =>
   cases (show u = Value.ref a from rx)
   obtain ⟨mA, O, _⟩ := yW I.aK ea
   obtain ⟨od, J, _⟩ := O.look
   exact PySem.W.kia_one (PySem.W.kitx_own (cl.get _) cl.hd ha hn rm hm) I.oC J e (fun z => nomatch z) h
end
structure cf (k : Nat) (A : Around) : Prop where
 hd : A.handled = none
 dp : A.depth + 3 * k + 5 < recursionLimit
 un : A.units + 16 * k + 200 < cLine
theorem cf.mono {j k : Nat} {A : Around} (r : cf k A) (h : j <= k) : cf j A := ⟨r.hd, by have := r.dp; omega, by have := r.un; omega⟩
theorem cf.deeper {k : Nat} {A : Around} (r : cf (k + 1) A) (env : Env) : cf k (A.deeper env) :=
 ⟨r.hd, by have := r.dp; show A.depth + 1 + 3 * k + 5 < _; omega, by have := r.un; show A.units + 3 + 16 * k + 200 < _; omega⟩
theorem cf.in1 {k : Nat} {A : Around} (r : cf (k + 1) A) : cf k A.in1 :=
 ⟨r.hd, by have := r.dp; show A.depth + 3 * k + 5 < _; omega, by have := r.un; show A.units + 1 + 16 * k + 200 < _; omega⟩
theorem cf.depth {k : Nat} {A : Around} (r : cf k A) : A.depth < recursionLimit := by have := r.dp; omega
theorem cf.units {k : Nat} {A : Around} (r : cf k A) : A.units + 64 < cLine := by have := r.un; omega
def Ck : TA := fun _ H Q => Q [] H
def vj (ta : TE) (tr : TA) : TA := fun σ H Q => ta σ H fun x H1 => tr σ H1 fun xs H2 => Q (x :: xs) H2
section
variable {X : Cx} {e : Expr} {es : List Expr} {te : TE} {t : TA} {pos : Pos}
theorem ai : PA X [] Ck := fun _ _ _ _ H Q I h => Calls.spliced_nil ⟨[], H, I, .nil, h⟩
theorem ae (ha : PE X e te) (hr : PA X es t) (hs : starEach (e :: es) X.env = (false, eval e X.env) :: starEach es X.env := by rfl) : PA X (e :: es) (vj te t) := by
 intro pos pins s σ H Q I h
 rw [hs]
 show wpAny _ _ (spliced ((false, eval e X.env) :: backTo pos (starEach es X.env))) _ _ s
 refine Calls.spliced_cons (bO (ha pins s σ H _ I h) fun u s1 ⟨x, H1, I1, r1, q1⟩ => ?_)
 exact bO (hr pos pins s1 σ H1 _ I1 q1) fun us s2 ⟨xs, H2, I2, r2, q2⟩ => ⟨x :: xs, H2, I2, .cons r1 r2, q2⟩
def II (t : TA) : TE := fun σ H Q => t σ H fun xs H1 => xs.length <= sizeLine /\ ∀ p, H1 p = none -> Q (.ref p) (upd H1 p (.tup xs))
def JK (t : TA) : TE := fun σ H Q => t σ H fun xs H1 => xs.length <= sizeLine /\ ∀ p, H1 p = none -> Q (.ref p) (upd H1 p (.lst xs))
theorem C1 {x1} (h : PA X es t) : PE X (.Tuple es x1 pos) (II t) := by
 intro pins s σ H Q I hq
 refine wpAny_Tuple_spliced (bO (h pos pins s σ H _ I hq) fun us s1 ⟨xs, H1, I1, r, z, q⟩ => ⟨by rw [<- r.length]; exact z, ?_⟩)
 have hf : H1 s1.heap.objs.size = none := I1.aK.fresh (Nat.le_refl _)
 refine ⟨.ref s1.heap.objs.size, upd H1 s1.heap.objs.size (.tup xs), I1.laid (t' := s1.toks) (fun b u e => Heap.get?_push_of_some _ e) (Nat.le_refl _) ?_, rfl, q _ hf⟩
 exact ⟨z, us, r, ⟨_, Heap.get?_push_size _ rfl, rfl, _, rfl⟩⟩
theorem CA (h : PA X es t) : PE X (.List es pos) (JK t) := by
 intro pins s σ H Q I hq
 refine wpAny_List_spliced (bO (h pos pins s σ H _ I hq) fun us s1 ⟨xs, H1, I1, r, z, q⟩ => ⟨by rw [<- r.length]; exact z, ?_⟩)
 have hf : H1 s1.heap.objs.size = none := I1.aK.fresh (Nat.le_refl _)
 refine ⟨.ref s1.heap.objs.size, upd H1 s1.heap.objs.size (.lst xs), I1.laid (t' := s1.toks) (fun b u e => Heap.get?_push_of_some _ e) (Nat.le_refl _) ?_, rfl, q _ hf⟩
 exact ⟨z, us, 0, r, Heap.get?_push_size _ rfl⟩
end
abbrev Sp := List V -> Hp -> VK -> XK -> Prop
abbrev oz := List Env -> Hp -> Shared -> XK -> Value -> Shared -> Prop
structure p5 (P : Program) (w : World) (K : PySem.W.Frag) (mg : Str -> Option Value) (base : Heap) (A : Around) (outer : List Env) (s : Shared) (H : Hp) : Prop where
 frames : A.frames = some outer
 mod : Mod K mg base
 bs : ∀ b o, base.get? b = some o -> s.heap.get? b = some o /\ H b = none
 xN : base.objs.size <= s.heap.objs.size
 jm : s.heap.FunFrames base outer
 Au : ∀ b ∈ o9 outer, H b = none
 aK : g8 P w H s.heap
 bare : AllBare s.gens
def CE (outer : List Env) (P : Program) (w : World) (H : Hp) (s : Shared) (Q : VK) (u : Value) (s' : Shared) : Prop :=
 ∃ v H', s'.os = s.os /\ AllBare s'.gens /\ Un (o9 outer) [] H H' s.heap s'.heap /\ g8 P w H' s'.heap /\ RelV v u /\ Q v H'
def CR (CX : oz) (outer : List Env) (P : Program) (w : World) (H : Hp) (s : Shared) (Q : VK) (E : XK) (r : Result) (s' : Shared) : Prop :=
 match r with
 | .ok (.ret u) => CE outer P w H s Q u s'
 | .ok _ => False
 | .error e => CX outer H s E e s'
structure bQ (P : Program) (w : World) (K : PySem.W.Frag) (mg : Str -> Option Value) (base : Heap) (CX : oz) (k : Nat) (f : Addr) (fd : FuncData) (ps : List Str) (sp : Sp) : Prop where
 len : ∀ vs H Q E, sp vs H Q E -> vs.length = ps.length
 run : ∀ (A : Around) (outer : List Env) (s : Shared) (H : Hp) (args : Args) (us : List Value) (vs : List V) (Q : VK) (E : XK), cf k A -> p5 P w K mg base A outer s H -> BindsTo s fd args (ps.zip us) -> Vals vs us -> sp vs H Q E ->
  codeAny (model P w) A (.call (.ref f) args) (CR CX outer P w H s Q E) s
theorem bQ.mono {P : Program} {w : World} {K : PySem.W.Frag} {mg : Str -> Option Value} {base : Heap} {CX : oz} {j k : Nat} {f : Addr} {fd : FuncData} {ps : List Str} {sp : Sp} (F : bQ P w K mg base CX j f fd ps sp) (h : j <= k) :
 bQ P w K mg base CX k f fd ps sp := ⟨F.len, fun A outer s H args us vs Q E hr => F.run A outer s H args us vs Q E (hr.mono h)⟩
theorem p5.in1 {P : Program} {w : World} {K : PySem.W.Frag} {mg : Str -> Option Value} {base : Heap} {A : Around} {outer : List Env} {s : Shared} {H : Hp} (e : p5 P w K mg base A outer s H) :
 p5 P w K mg base A.in1 outer s H := ⟨e.frames, e.mod, e.bs, e.xN, e.jm, e.Au, e.aK, e.bare⟩
section
variable {X : Cx} {pins : List (Addr × Obj)} {σ : St} {H : Hp} {s s' : Shared}
theorem Inv.FT (I : Inv X pins σ H s) : p5 X.prog X.w X.K X.mg X.base X.A X.stack s H :=
 ⟨I.ok.frames, I.ok.mod, I.bs, Nat.le_trans I.ok.xN I.sz, I.stack, I.r9, I.aK, I.bare⟩
theorem Inv.after {Q : VK} {u : Value} (I : Inv X pins σ H s) (h : CE X.stack X.prog X.w H s Q u s') : EP X pins σ Q u s' := by
 obtain ⟨v, H', os, bare, un, aK, r, q⟩ := h
 obtain ⟨hh, g, d, t, Gh⟩ := s'
 obtain rfl : Gh = s.os := os
 exact ⟨v, H', I.call (h' := hh) (g' := g) (d' := d) (t' := t) (ch := []) un aK bare (fun b z => absurd z (by simp)), r, q⟩
end
def rE (sp : Sp) (iB : List V) (E : XK) (t : TA) : TE := fun σ H Q => t σ H fun vs H1 => sp (vs ++ iB) H1 Q E
def Binds (K : PySem.W.Frag) (fd : FuncData) (ps : List Str) (ds : List Value) : Prop :=
 ∀ (s : Shared) (us : List Value), K.In s.heap -> (us ++ ds).length = ps.length -> BindsTo s fd ⟨us, []⟩ (ps.zip (us ++ ds))
theorem Binds.all {K : PySem.W.Frag} {fd : FuncData} {ps : List Str} (h : ∀ us : List Value, us.length = ps.length -> bindArgs fd ⟨us, []⟩ = pure (ps.zip us)) : Binds K fd ps [] := fun s us _ hl => by
 rw [List.append_nil] at hl ⊢
 exact .of_eq (h us hl)
def Passes (CX : oz) (X : Cx) (E : XK) : Prop := ∀ (pins : List (Addr × Obj)) (σ : St) (H : Hp) (s : Shared) (e : Value) (s' : Shared), Inv X pins σ H s -> CX X.stack H s E e s' -> X.xe e s'
section
variable {X : Cx} {CX : oz} {k : Nat} {f C : Addr} {fd : FuncData} {ps : List Str} {sp : Sp} {iB : List V} {ds : List Value} {E : XK} {x m : Str} {p pos apos : Pos} {e o : Expr} {es : List Expr} {ta : TE} {t : TA}
theorem CZ {pins : List (Addr × Obj)} {σ : St} {H : Hp} {s : Shared} {Q : VK} {us : List Value} {vs : List V} (F : bQ X.prog X.w X.K X.mg X.base CX k f fd ps sp) (hr : cf k X.A) (hb : Binds X.K fd ps ds) (hd : Vals iB ds) (hx : Passes CX X E)
 (I : Inv X pins σ H s) (r : Vals vs us) (h : sp (vs ++ iB) H Q E) : wpAny (model X.prog X.w) X.A (call (.ref f) us) (EP X pins σ Q) X.xe s := by
 have r2 : Vals (vs ++ iB) (us ++ ds) := r.append hd
 have hl : (us ++ ds).length = ps.length := by rw [<- r2.length]; exact F.len _ _ _ _ h
 refine wpAny_call (codeAny_mono (F.run X.A X.stack s H ⟨us, []⟩ (us ++ ds) (vs ++ iB) Q E hr I.FT (hb s us I.oC hl) r2 h) fun r s' hq => ?_)
 cases r with
 | error e => exact hx pins σ H s e s' I hq
 | ok fl =>
   cases fl with
   | ret u => exact I.after hq
   | next => exact False.elim hq
   | brk => exact False.elim hq
   | cont => exact False.elim hq
theorem zJ (F : bQ X.prog X.w X.K X.mg X.base CX k f fd ps sp) (hr : cf k X.A) (hg : Gl X x) (hm : X.mg x = some (.ref f)) (hk : PySem.W.keepIn X.K (.ref f) = true) (hb : Binds X.K fd ps ds) (hd : Vals iB ds) (hx : Passes CX X E)
 (ha : PA X (e :: es) t) (yE : (x == ("__debug__" : Str)) = false := by decide) (he : starEach (e :: es) X.env = (false, eval e X.env) :: starEach es X.env := by rfl) (mB : (backTo pos (starEach es X.env)).any (·.1) = false := by rfl) :
 PE X (.Call (.Name x p) (e :: es) [] pos) (rE sp iB E t) := by
 intro pins s σ H Q I h
 refine wpAny_Call_Name_kw (rZ I hg hm ?_ yE)
 refine PySem.W.callWith_K (h₀ := X.base) I.ok.mod.Ik hk (bO (ha pos pins s σ H _ I h) fun us s1 ⟨vs, H1, I1, r, q⟩ => ⟨I1.oC, ?_⟩) he mB
 exact CZ F hr hb hd hx I1 r q
structure Mk (K : PySem.W.Frag) (C f : Addr) : Prop where
 makes : PySem.W.makesIn K C = true
 init : PySem.W.findIn K (.ref C) "__init__" = some (some (.ref f))
 fn : PySem.W.isFn K (.ref f) = true
 kp : PySem.W.keepIn K (.ref C) = true
end
def PK (X : Cx) (Gw : List Keyword) (t : TA) : Prop :=
 ∀ (pos : Pos) (pins : List (Addr × Obj)) (s : Shared) (σ : St) (H : Hp) (Q : List V -> Hp -> Prop), Inv X pins σ H s -> t σ H Q -> wpAny (model X.prog X.w) X.A (evalAll ((backToKw pos (keywordEach Gw X.env)).map (·.2))) (AP X pins σ Q) X.xe s
section
variable {X : Cx} {CX : oz} {k : Nat} {f C : Addr} {fd : FuncData} {ps ks : List Str} {sp : Sp} {E : XK} {x m : Str} {p pos apos DG : Pos} {e o : Expr} {es : List Expr} {Gw : List Keyword} {te ta : TE} {t tk : TA} {nm : Option Str}
theorem CY : PK X [] Ck := fun _ _ _ _ H Q I h => wpAny_evalAll_nil ⟨[], H, I, .nil, h⟩
theorem zG (ha : PE X e te) (hr : PK X Gw t) : PK X (⟨nm, e, DG⟩ :: Gw) (vj te t) := by
 intro pos pins s σ H Q I h
 show wpAny _ _ (evalAll ((do let v <- eval e X.env; standAt pos; pure v) :: (backToKw pos (keywordEach Gw X.env)).map (·.2))) _ _ s
 refine wpAny_evalAll_cons (wpAny_bind (bO (ha pins s σ H _ I h) fun u s1 ⟨x, H1, I1, r1, q1⟩ => wpAny_bind (wpAny_standAt (wpAny_pure ?_))))
 exact bO (hr pos pins s1 σ H1 _ I1 q1) fun us s2 ⟨xs, H2, I2, r2, q2⟩ => ⟨x :: xs, H2, I2, .cons r1 r2, q2⟩
structure JF (K : PySem.W.Frag) (fd : FuncData) (ps ks : List Str) (g : List Value -> List Value -> List Value) (gV : List V -> List V -> List V) : Prop where
 to : ∀ (s : Shared) (us ws : List Value), K.In s.heap -> (g us ws).length = ps.length -> BindsTo s fd ⟨us, ks.zip ws⟩ (ps.zip (g us ws))
 rel : ∀ {vs : List V} {us : List Value} {zs : List V} {ws : List Value}, Vals vs us -> Vals zs ws -> Vals (gV vs zs) (g us ws)
variable {g : List Value -> List Value -> List Value} {gV : List V -> List V -> List V}
end
structure aR (N P : List Str) (sc : Scope) : Prop where
 kind : sc.kind = .function
 co : sc.isCoroutine = false
 gen : sc.isGenerator = false
 nd : N.Nodup
 pre : N.take P.length = P
 par : ∀ x ∈ P, sc.names.lookup x = some .local \/ sc.names.lookup x = some .cell
 BO : ∀ y ∈ sc.names, y.2 ≠ .free
theorem mC {kindOf : Str -> Option NameKind} {x : Str} : ∀ {binds : List (Str × Value)} {m : Str -> Option Value}, (∀ v, (x, v) ∉ binds) -> bindL kindOf binds m x = m x
 | [], _, _ => rfl
 | (n, v) :: r, m, h => by
   unfold bindL
   rw [mC fun w hw => h w (List.mem_cons_of_mem _ hw)]
   split
   . have : x ≠ n := by rintro rfl; exact h v List.mem_cons_self
     simp [this]
   . rfl
theorem mO {kindOf : Str -> Option NameKind} {x : Str} : ∀ {binds : List (Str × Value)} {m : Str -> Option Value}, (∀ v, (x, v) ∉ binds) -> bindC kindOf binds m x = m x
 | [], _, _ => rfl
 | (n, v) :: r, m, h => by
   unfold bindC
   rw [mO fun w hw => h w (List.mem_cons_of_mem _ hw)]
   split
   . rfl
   . have : x ≠ n := by rintro rfl; exact h v List.mem_cons_self
     simp [this]
theorem ml {kindOf : Str -> Option NameKind} {x : Str} {v : Value} : ∀ {P : List Str} {vs : List Value} {i : Nat} {m : Str -> Option Value}, P.Nodup -> P[i]? = some x -> vs[i]? = some v -> kindOf x = some .local ->
 bindL kindOf (P.zip vs) m x = some v
 | [], _, _, _, _, h, _, _ => by simp at h
 | _ :: _, [], _, _, _, _, h, _ => by simp at h
 | p :: P, w :: vs, 0, m, nd, h1, h2, hk => by
   simp at h1 h2; subst h1; subst h2
   show bindL kindOf ((p, w) :: P.zip vs) m p = _
   unfold bindL
   rw [mC fun v hv => (List.nodup_cons.mp nd).1 (List.of_mem_zip hv).1, if_pos hk]
   simp
 | p :: P, w :: vs, i + 1, m, nd, h1, h2, hk => by
   show bindL kindOf ((p, w) :: P.zip vs) m x = _
   unfold bindL
   exact ml (i := i) (List.nodup_cons.mp nd).2 (by simpa using h1) (by simpa using h2) hk
theorem mw {kindOf : Str -> Option NameKind} {x : Str} {v : Value} : ∀ {P : List Str} {vs : List Value} {i : Nat} {m : Str -> Option Value}, P.Nodup -> P[i]? = some x -> vs[i]? = some v -> kindOf x ≠ some .local ->
 bindC kindOf (P.zip vs) m x = some v
 | [], _, _, _, _, h, _, _ => by simp at h
 | _ :: _, [], _, _, _, _, h, _ => by simp at h
 | p :: P, w :: vs, 0, m, nd, h1, h2, hk => by
   simp at h1 h2; subst h1; subst h2
   show bindC kindOf ((p, w) :: P.zip vs) m p = _
   unfold bindC
   rw [mO fun v hv => (List.nodup_cons.mp nd).1 (List.of_mem_zip hv).1, if_neg hk]
   simp
 | p :: P, w :: vs, i + 1, m, nd, h1, h2, hk => by
   show bindC kindOf ((p, w) :: P.zip vs) m x = _
   unfold bindC
   exact mw (i := i) (List.nodup_cons.mp nd).2 (by simpa using h1) (by simpa using h2) hk
def start (N : List Str) (vs : List V) : St := vs.map some ++ List.replicate (N.length - vs.length) none
def tV (CX : oz) (P : Program) (w : World) (K : PySem.W.Frag) (mg : Str -> Option Value) (base : Heap) (N : List Str) (qual : Str) (scope : Scope) (f : Addr) (cd : Value) (A : Around) (outer : List Env) (s : Shared) (H : Hp) (E : XK) : Cx where
 prog := P
 w := w
 K := K
 mg := mg
 base := base
 A := A.deeper (envOfC qual scope s.heap.objs.size f cd)
 N := N
 cN := s
 uX := H
 env := envOfC qual scope s.heap.objs.size f cd
 outer := outer
 stack := envOfC qual scope s.heap.objs.size f cd :: outer
 ex := []
 calm := true
 fn := fun _ => true
 pn := []
 xe := fun e s' => wpAny (model P w) (A.deeper (envOfC qual scope s.heap.objs.size f cd)) (leaving (envOfC qual scope s.heap.objs.size f cd) e) (fun _ HF => CX outer H s E e HF) (fun e' HF => CX outer H s E e' HF) s'
theorem oE {sc : Scope} {n : Nat} {x : Str} (h : sc.names.lookup x = some .cell) : ∃ c, (cellsFrom n sc.names []).lookup x = some c := by
 have q := PySem.W.cellsFrom_some sc.names n [] (.inl h)
 exact Option.isSome_iff_exists.mp q
theorem tu {CX : oz} {P : Program} {w : World} {K : PySem.W.Frag} {mg : Str -> Option Value} {base : Heap} {N ps : List Str} {qual : Str} {scope : Scope} {f : Addr} {cd : Value} {A : Around} {outer : List Env} {s s1 : Shared} {H : Hp} {E : XK} {us : List Value} {vs : List V}
 (S : aR N ps scope) (hd : A.handled = none) (e0 : p5 P w K mg base A outer s H) (hl : vs.length = ps.length) (r : Vals vs us)
 (x : InCallC s s.heap.objs.size (bindL (envOfC qual scope s.heap.objs.size f cd).kindOf (ps.zip us) fun _ => none) (cellsFrom (s.heap.objs.size + 1) scope.names []) (bindC (envOfC qual scope s.heap.objs.size f cd).kindOf (ps.zip us) fun _ => none) s1) :
 Inv (tV CX P w K mg base N qual scope f cd A outer s H E) [] (start N vs) H s1 := by
 have mB : ps.length <= N.length := by have := congrArg List.length S.pre; rw [List.length_take] at this; omega
 obtain ⟨h1, tk, rfl, hk⟩ := x.done
 have Fb : ∀ b : Addr, b ∉ (tV CX P w K mg base N qual scope f cd A outer s H E).ex := fun b z => absurd (show b ∈ ([] : List Addr) from z) (by simp)
 refine ⟨⟨e0.mod, S.kind, rfl, rfl, Nat.le_refl _, fun y z c h1 h2 => ?_, fun y hy => ?_, fun y c _ h => ?_, fun _ => hd, Around.frames_deeper e0.frames, .inr ⟨rfl, rfl⟩, fun b z => absurd z (Fb b), e0.bs, e0.xN, fun b _ _ => Fb b, fun b z => absurd z (Fb b), e0.jm, e0.Au⟩,
  rfl, e0.bare, Un.kept hk, ⟨_, x.toInCall.ns, fun i y v h1 h2 h3 => ?_⟩, fun y c h => ⟨_, x.cell y c h⟩, e0.aK.fresh (Nat.le_refl _), fun y c h => ?_, fun p hp => absurd (show p ∈ ([] : List (Addr × Obj)) from hp) (by simp), e0.aK.kept hk, ?_⟩
 . exact name_of_addr x.apart (PySem.mem_of_lookup h1) (PySem.mem_of_lookup h2)
 . have hy : scope.names.lookup y = some .cell \/ scope.names.lookup y = some .free := hy
   rcases hy with hy | hy
   . exact oE hy
   . exact absurd rfl (S.BO _ (PySem.mem_of_lookup hy))
 . exact Nat.le_of_lt (x.above y c (PySem.mem_of_lookup h))
 . have hi : i < vs.length := by
    unfold start at h2
    by_cases hi : i < vs.length
    . exact hi
    . rw [List.getElem?_append_right (by simpa using hi)] at h2
      rw [List.getElem?_replicate] at h2
      split at h2 <;> cases h2
   have ha : vs[i]? = some v := by
    unfold start at h2
    rw [List.getElem?_append_left (by simpa using hi), List.getElem?_map] at h2
    cases e : vs[i]? with
    | none => rw [e] at h2; cases h2
    | some a => rw [e] at h2; cases h2; rfl
   obtain ⟨u, hu, rv⟩ := r.get ha
   have hp : ps[i]? = some y := by
    rw [<- S.pre, List.getElem?_take_of_lt (by omega)]; exact h1
   have K7 : ps.Nodup := by rw [<- S.pre]; exact S.nd.sublist (List.take_sublist _ _)
   refine ⟨u, rv, ?_⟩
   rcases S.par y (List.mem_of_getElem? hp) with k | k
   . exact .inl ⟨k, ml K7 hp hu k⟩
   . obtain ⟨c, e⟩ := oE (n := s.heap.objs.size + 1) k
     refine .inr ⟨.inl k, c, e, ?_⟩
     have q := x.cell y c e
     rw [mw K7 hp hu (by show scope.names.lookup y ≠ _; rw [k]; decide)] at q
     exact q
 . exact e0.aK.fresh (Nat.le_of_lt (x.above y c (PySem.mem_of_lookup h)))
 . unfold start
   show _ = N.length
   rw [List.length_append, List.length_map, List.length_replicate]
   omega
theorem Gg {CX : oz} {P : Program} {w : World} {K : PySem.W.Frag} {mg : Str -> Option Value} {base : Heap} {k : Nat} {f : Addr} {name qual : Str} {params : Arguments} {body : List Stmt} {scope : Scope} {dV kV doc pm df ct oc : Value} {an od : Option Addr}
 {wQ : Array (Option Value)} {N ps : List Str} {sp : Sp} (lk : K.lookup f = some ⟨oc, od, .func (PySem.W.fnOf name qual params body scope dV kV doc pm an df ct), wQ⟩) (uE : PySem.W.codeIn K df qual = true) (S : aR N ps scope)
 (len : ∀ vs H Q E, sp vs H Q E -> vs.length = ps.length)
 (mH : ∀ (A : Around) (outer : List Env) (s : Shared) (H : Hp) (vs : List V) (Q : VK) (E : XK), cf k (A.deeper (envOfC qual scope s.heap.objs.size f df)) -> sp vs H Q E ->
  ∃ t, pP (tV CX P w K mg base N qual scope f df A outer s H E) body t /\ t { nx := fun _ H' => Q .bz H', rt := Q } (start N vs) H) :
 bQ P w K mg base CX (k + 1) f (PySem.W.fnOf name qual params body scope dV kV doc pm an df ct) ps sp := by
 refine ⟨len, fun A outer s H args us vs Q E hr e0 hb r xS => ?_⟩
 have hl := len _ _ _ _ xS
 have KX : K.In s.heap := e0.mod.Ik.keeps fun b o e => (e0.bs b o e).1
 have lim : s.heap.NoLimit := e0.mod.nolimit.keeps fun b o e => (e0.bs b o e).1
 have F4 : ∀ y ∈ ps.zip us, scope.names.lookup y.1 = some .local \/ (scope.names.lookup y.1 = some .cell /\ ((cellsFrom (s.heap.objs.size + 1) scope.names []).lookup y.1).isSome = true) := fun ⟨n, v⟩ hy => by
  rcases S.par n (List.of_mem_zip hy).1 with q | q
  . exact .inl q
  . exact .inr ⟨q, PySem.W.cellsFrom_some _ _ _ (.inl q)⟩
 refine codeAny_call_function hr.depth (KX _ _ lk) rfl S.co S.gen rfl (PySem.W.codeRec_of KX uE) (hb _ _ _ _ ?_)
 refine wpAny_newFunctionEnv_cells S.kind F4 fun env he s1 x => ?_
 subst he
 refine ⟨lim.keeps x.toInCall.keep, codeAny_func ?_⟩
 obtain ⟨t, ht, hq⟩ := mH A outer s H vs Q E (hr.deeper _) xS
 have I : Inv (tV CX P w K mg base N qual scope f df A outer s H E) [] (start N vs) H s1 := tu S hr.hd e0 hl r x
 refine wpAny_mono (ht [] s1 (start N vs) H _ I hq) (fun fl s' hs => ?_) fun e s' hs => hs
 have fin : ∀ {σ' : St} {H' : Hp} {v : V} {u : Value}, Inv (tV CX P w K mg base N qual scope f df A outer s H E) [] σ' H' s' -> RelV v u -> Q v H' -> CE outer P w H s Q u s' :=
  fun {σ' H' v u} J rv q => ⟨v, H', J.os, J.bare, J.base, J.aK, rv, q⟩
 cases fl with
 | ret u =>
   obtain ⟨v, σ', H', J, rv, q⟩ := hs
   exact fin J rv q
 | next =>
   obtain ⟨σ', H', J, q⟩ := hs
   exact fin (v := V.bz) (u := Value.none) J rfl q
 | brk =>
   obtain ⟨_, _, _, q⟩ := hs
   exact False.elim q
 | cont =>
   obtain ⟨_, _, _, q⟩ := hs
   exact False.elim q
section
variable {X : Cx} {x : Str} {p pos : Pos} {e : Expr} {es : List Expr} {t : TA} {id T : String} {r : List V -> Hp -> VK -> Prop}
def I9 (r : List V -> Hp -> VK -> Prop) (t : TA) : TE := fun σ H Q => t σ H fun vs H1 => r vs H1 Q
theorem aQ (hc : dH X (.builtin id) r) (hg : Gl X x) (hm : X.mg x = none) (hv : bootBuiltins x = some (.builtin id)) (ha : PA X (e :: es) t) (hn : x ≠ "__name__" := by decide) (yE : (x == ("__debug__" : Str)) = false := by decide)
 (he : starEach (e :: es) X.env = (false, eval e X.env) :: starEach es X.env := by rfl) (mB : (backTo pos (starEach es X.env)).any (·.1) = false := by rfl) : PE X (.Call (.Name x p) (e :: es) [] pos) (I9 r t) := by
 intro pins s σ H Q I h
 refine wpAny_Call_Name_kw (dO I hg hm hv ?_ hn yE)
 exact PyProof.Rows.callWith_builtin1 (bO (ha pos pins s σ H _ I h) fun us s1 ⟨vs, H1, I1, r1, q1⟩ => hc pins s1 σ H1 vs us Q I1 r1 q1) he mB
theorem jA (hc : dH X (.type T) r) (hg : Gl X x) (hm : X.mg x = none) (hv : bootBuiltins x = some (.type T)) (ha : PA X (e :: es) t) (hn : x ≠ "__name__" := by decide) (yE : (x == ("__debug__" : Str)) = false := by decide)
 (he : starEach (e :: es) X.env = (false, eval e X.env) :: starEach es X.env := by rfl) (mB : (backTo pos (starEach es X.env)).any (·.1) = false := by rfl) : PE X (.Call (.Name x p) (e :: es) [] pos) (I9 r t) := by
 intro pins s σ H Q I h
 refine wpAny_Call_Name_kw (dO I hg hm hv ?_ hn yE)
 exact PyProof.Rows.callWith_type1 (bO (ha pos pins s σ H _ I h) fun us s1 ⟨vs, H1, I1, r1, q1⟩ => hc pins s1 σ H1 vs us Q I1 r1 q1) he mB
end
end L2
namespace HT
open PySem PyProof.Rows
section
open PySem.SeqAt
open PySem.AutoSeq1 (wpAny_loadPart')
open PySem.MeetsSeq PySem.MeetsSeq2 PySem.MeetsSeq3
end
section
variable {prog : Program} {w : World} {A : Around} {E : Value -> Shared -> Prop} {s : Shared}
def lG (n d : Nat) : Option Int -> Nat
 | none => d
 | some v => if v < 0 then (v + (n : Int)).toNat else min v.toNat n
theorem rQ (n d k : Nat) : lG n d (some (k : Int)) = min k n := by
 show (if (k : Int) < 0 then ((k : Int) + (n : Int)).toNat else min (k : Int).toNat n) = min k n
 rw [if_neg (by omega), Int.toNat_natCast]
end
end HT
namespace L2
open PySem PySem.Spec PyProof.Rows
abbrev TO := St -> Hp -> (Option Int -> Hp -> Prop) -> Prop
def PO (X : Cx) (e : Option Expr) (t : TO) : Prop :=
 ∀ (pins : List (Addr × Obj)) (s : Shared) (σ : St) (H : Hp) (Q : Option Int -> Hp -> Prop), Inv X pins σ H s -> t σ H Q ->
   wpAny (model X.prog X.w) X.A (evalPart e X.env) (fun u s' => ∃ o H', Inv X pins σ H' s' /\ IsPart u o /\ Q o H') X.xe s
def rj : TO := fun _ H Q => Q none H
def As (t : TE) : TO := fun σ H Q => t σ H fun x H1 => ∃ i, x = .int i /\ Q (some i) H1
section
variable {X : Cx} {e : Expr} {te : TE} {lo hi : Option Expr} {tl th : TO} {pos p2 : Pos}
theorem d6 : PO X none rj := by
 intro pins s σ H Q I h
 rw [evalPart_none]
 exact wpAny_pure ⟨none, H, I, .none, h⟩
theorem cT (h : PE X e te) : PO X (some e) (As te) := by
 intro pins s σ H Q I hw
 rw [evalPart_some]
 refine bO (h pins s σ H _ I hw) fun u s1 ⟨x, H1, I1, r1, q1⟩ => ?_
 obtain ⟨i, rfl, q⟩ := q1
 obtain ⟨t, rfl⟩ := r1
 exact ⟨some i, H1, I1, .int i t, q⟩
def Jn (X : Cx) (r : V -> Option Int -> Option Int -> Hp -> VK -> Prop) : Prop :=
 ∀ (pins : List (Addr × Obj)) (s : Shared) (σ : St) (H : Hp) (x : V) (v vl vu : Value) (lo hi : Option Int) (sl : Addr) (Q : VK), Inv X pins σ H s -> RelV x v -> s.heap.IsSliceOf sl vl vu .none -> IsPart vl lo -> IsPart vu hi -> r x lo hi H Q ->
   ∃ T id, typeLookup (.type T) "__getitem__" = pure (some (.builtin id)) /\ s.TypeIs v T /\ wpAny (model X.prog X.w) X.A (getItem v (.ref sl)) (EP X pins σ Q) X.xe s
def LL (r : V -> Option Int -> Option Int -> Hp -> VK -> Prop) (te : TE) (tl th : TO) : TE := fun σ H Q => te σ H fun x H1 => tl σ H1 fun l H2 => th σ H2 fun u H3 => r x l u H3 Q
theorem cH {r : V -> Option Int -> Option Int -> Hp -> VK -> Prop} (hr : Jn X r) (he : PE X e te) (hl : PO X lo tl) (hu : PO X hi th) : PE X (.Subscript e (.Slice lo hi none p2) pos) (LL r te tl th) := by
 intro pins s σ H Q I h
 refine Subscript_ (bO (he pins s σ H _ I h) fun v s1 ⟨x, H1, I1, r1, q1⟩ => ?_)
 refine wpAny_Slice (bO (hl pins s1 σ H1 _ I1 q1) fun vl s2 ⟨l, H2, I2, pl, q2⟩ => bO (hu pins s2 σ H2 _ I2 q2) fun vu s3 ⟨u, H3, I3, pu, q3⟩ => ?_)
 rw [evalPart_none]
 refine wpAny_pure ?_
 have I4 : Inv X pins σ H3 { s3 with heap := s3.heap.push { cls := .type "slice", data := .fields #[vl, vu, .none] } } := I3.kept (t' := s3.toks) fun b ob q => Heap.get?_push_of_some _ q
 obtain ⟨T, id, hT, ht, hg⟩ := hr pins { s3 with heap := s3.heap.push { cls := .type "slice", data := .fields #[vl, vu, .none] } } σ H3 x v vl vu l u s3.heap.objs.size Q I4 r1 (Heap.IsSliceOf.new ..) pl pu q3
 show wpAny (model X.prog X.w) X.A (subscriptTail e (.Slice lo hi none p2) v (.ref s3.heap.objs.size)) (EP X pins σ Q) X.xe { s3 with heap := s3.heap.push { cls := .type "slice", data := .fields #[vl, vu, .none] } }
 exact tail_any (ops := [.ref s3.heap.objs.size, v]) ht hT hg (by with_unfolding_all rfl)
def p8 (xs : List V) (lo hi : Option Int) : List V := (xs.drop (HT.lG xs.length 0 lo)).take (HT.lG xs.length xs.length hi - HT.lG xs.length 0 lo)
theorem pC (xs : List V) (lo hi : Option Int) : (p8 xs lo hi).length <= xs.length := by
 unfold p8
 rw [List.length_take, List.length_drop]
 omega
end
def wH (n : Nat) (i : Int) : Option Nat := if 0 <= i then (if i < n then some i.toNat else none) else if -(n : Int) <= i then some (i + n).toNat else none
def nr {α : Type} (xs : List α) (i : Int) : Option α := (wH xs.length i).bind fun j => xs[j]?
theorem rD {n : Nat} {i : Int} {j : Nat} (h : wH n i = some j) : seqIndex? i n = some j /\ j < n /\ -(n : Int) <= i /\ i < n := by
 unfold wH at h
 by_cases h0 : 0 <= i
 . rw [if_pos h0] at h
   by_cases h1 : i < n
   . rw [if_pos h1] at h
     have e : i.toNat = j := Option.some.inj h
     exact ⟨by rw [seqIndex_of h0 h1, e], by omega, by omega, h1⟩
   . rw [if_neg h1] at h; cases h
 . rw [if_neg h0] at h
   by_cases h1 : -(n : Int) <= i
   . rw [if_pos h1] at h
     have e : (i + n).toNat = j := Option.some.inj h
     exact ⟨by rw [seqIndex_neg (by omega) h1, e], by omega, h1, by omega⟩
   . rw [if_neg h1] at h; cases h
theorem og {α : Type} {xs : List α} {i : Int} {v : α} (h : nr xs i = some v) : ∃ j, seqIndex? i xs.length = some j /\ xs[j]? = some v /\ j < xs.length /\ -(xs.length : Int) <= i /\ i < xs.length := by
 unfold nr at h
 cases e : wH xs.length i with
 | none => rw [e] at h; cases h
 | some j =>
   rw [e] at h
   obtain ⟨h1, h2, h3, h4⟩ := rD e
   exact ⟨j, h1, h, h2, h3, h4⟩
theorem gY {α : Type} {xs : List α} {j : Nat} {v : α} (h : xs[j]? = some v) : nr xs (j : Int) = some v := by
 have hj : j < xs.length := (List.getElem?_eq_some_iff.mp h).1
 have e : wH xs.length (j : Int) = some j := by
  unfold wH
  rw [if_pos (by omega), if_pos (by omega)]; simp
 unfold nr; rw [e]; exact h
def zv (b : Expr) : Prop := ∀ o i, subscripted b false o i = operate [o, i] (getItem o i)
def uA (X : Cx) (r : R2) : Prop :=
 ∀ (value slice : Expr) (pins : List (Addr × Obj)) (s : Shared) (σ : St) (H : Hp) (x y : V) (v u : Value) (Q : VK), Inv X pins σ H s -> RelV x v -> RelV y u -> r x y H Q ->
   subscripted slice false v u = operate [v, u] (getItem v u) -> wpAny (model X.prog X.w) X.A (subscriptTail value slice v u) (EP X pins σ Q) X.xe s
def ME (X : Cx) (id : String) (r : V -> List V -> Hp -> VK -> Prop) : Prop :=
 ∀ (pins : List (Addr × Obj)) (s : Shared) (σ : St) (H : Hp) (x : V) (xs : List V) (v : Value) (us : List Value) (Q : VK), Inv X pins σ H s -> RelV x v -> Vals xs us -> r x xs H Q ->
   wpAny (model X.prog X.w) X.A (call (.builtin id) (v :: us)) (EP X pins σ Q) X.xe s
section
variable {X : Cx} {a b : Expr} {ta tb : TE} {pos : Pos}
theorem uA.or {r r' : R2} (h : uA X r) (h' : uA X r') : uA X (fun x y H Q => r x y H Q \/ r' x y H Q) := by
 intro value slice pins s σ H x y v u Q I rx ry q hs
 rcases q with q | q
 . exact h value slice pins s σ H x y v u Q I rx ry q hs
 . exact h' value slice pins s σ H x y v u Q I rx ry q hs
theorem aL {r : R2} (hr : uA X r) (ha : PE X a ta) (hb : PE X b tb) (hs : zv b) : PE X (.Subscript a b pos) (FY r ta tb) := by
 intro pins s σ H Q I h
 exact Subscript_ (C5 ha hb I h fun v u s2 x y H2 I2 rx ry q => hr a b pins s2 σ H2 x y v u Q I2 rx ry q (hs _ _))
def Dz (K : PySem.W.Frag) : R2 := fun x y H Q => ∃ p xs i v, x = .ref p /\ y = .int i /\ bF K H p xs /\ nr xs i = some v /\ Q v H
def Bx (K : PySem.W.Frag) : R2 := fun x y H Q => ∃ p xs i v, x = .ref p /\ y = .int i /\ oj K H p xs /\ nr xs i = some v /\ Q v H
def Be : R2 := fun x y H Q => ∃ z i c, x = .str z /\ y = .int i /\ z.length <= sizeLine /\ nr z.cps.toList i = some c /\ Q (.str ⟨#[c]⟩) H
theorem sE : uA X (Dz X.K) := by
 intro value slice pins s σ H x y v u Q I rx ry h hs
 obtain ⟨p, xs, i, z, rfl, rfl, hq, he, q⟩ := h
 cases rx
 obtain ⟨t, rfl⟩ := ry
 obtain ⟨aD, r, pl, hz⟩ := I.list hq
 obtain ⟨j, h1, h2, h3, h4, h5⟩ := og he
 obtain ⟨w, ew, vx⟩ := r.get h2
 have hl := r.length
 have hn := iq
 have fin : EP X pins σ Q w s := ⟨z, H, I, vx, q⟩
 by_cases h0 : 0 <= i
 . have hj : i.toNat = j := by
    rw [seqIndex_of h0 h5] at h1
    exact Option.some.inj h1
   exact item_listR pl.isList h0 (by omega) (by rw [hj]; simpa using ew) fin hs
 . have hj : (i + (aD.toArray.size : Int)).toNat = j := by
    rw [seqIndex_neg (by omega) h4] at h1
    rw [List.size_toArray, <- hl]
    exact Option.some.inj h1
   exact subscriptTail_builtinR (x := w) pl.isList.typeIs slot_list_getitem.lookup
    (wpAny_getItem_list_neg (Q := fun r s' => r = w /\ EP X pins σ Q r s') pl.isList (by omega) (by rw [List.size_toArray] <;> omega) (by omega) (by rw [hj]; simpa using ew) ⟨rfl, fin⟩) hs
theorem bT : uA X (Bx X.K) := by
 intro value slice pins s σ H x y v u Q I rx ry h hs
 obtain ⟨p, xs, i, z, rfl, rfl, hq, he, q⟩ := h
 cases rx
 obtain ⟨t, rfl⟩ := ry
 obtain ⟨aD, r, pl, hz⟩ := I.tuple hq
 obtain ⟨j, h1, h2, h3, h4, h5⟩ := og he
 obtain ⟨w, ew, vx⟩ := r.get h2
 have hl := r.length
 have hn := iq
 have fin : EP X pins σ Q w s := ⟨z, H, I, vx, q⟩
 exact subscriptTail_builtinR (x := w) pl.typeIs slot_tuple_getitem.lookup
  (getItem_tuple (j := j) (Q := fun r s' => r = w /\ EP X pins σ Q r s') pl (by omega) (by omega) (by rw [List.size_toArray, <- hl]; exact h1) (by simpa using ew) ⟨rfl, fin⟩) hs
theorem CN : uA X Be := by
 intro value slice pins s σ H x y v u Q I rx ry h hs
 obtain ⟨z, i, c, rfl, rfl, hz, he, q⟩ := h
 obtain ⟨t, rfl⟩ := rx
 obtain ⟨t', rfl⟩ := ry
 obtain ⟨j, h1, h2, h3, h4, h5⟩ := og he
 have hl : z.cps.toList.length = z.length := by simp [Str.length]
 rw [hl] at h1 h4 h5
 have hn := iq
 exact tail_any (typeIs_str s z t) slot_str_getitem.lookup (getItem_str (c := c) (by
  have e1 : decide (i < -(2 ^ 63 : Int)) = false := decide_eq_false (by omega)
  have e2 : decide (i ≥ 2 ^ 63) = false := decide_eq_false (by omega)
  rw [e1, e2, Bool.or_false]) (by rw [h1]; simpa using h2) ⟨.str ⟨#[c]⟩, H, I.tok _, ⟨_, rfl⟩, q⟩) hs
def KO (K : PySem.W.Frag) : R2 := fun x y H Q => Dz K x y H Q \/ Bx K x y H Q \/ Be x y H Q
theorem CL : uA X (KO X.K) := sE.or (bT.or CN)
theorem qz (aD : List Value) (n j : Nat) (u : Value) : Obj.mapSeq (·.setIfInBounds j u) { cls := .type "list", data := .seq aD.toArray n } = { cls := .type "list", data := .seq (aD.set j u).toArray n } := by
 simp [Obj.mapSeq]
theorem Inv.lst {pins : List (Addr × Obj)} {σ : St} {H : Hp} {s : Shared} {p : Addr} {xs : List V} (I : Inv X pins σ H s) (h : H p = some (.lst xs)) :
 ∃ (aD : List Value) (n : Nat), Vals xs aD /\ s.heap.get? p = some { cls := .type "list", data := .seq aD.toArray n } /\ xs.length <= sizeLine := by
 obtain ⟨z, aD, n, r, e⟩ := I.aK p _ h
 exact ⟨aD, n, r, e, z⟩
theorem Inv.CM {pins : List (Addr × Obj)} {σ : St} {H : Hp} {s : Shared} {p : Addr} {xs ys : List V} {aD its' : List Value} {n n' : Nat} {f : Obj -> Obj} (I : Inv X pins σ H s) (h : H p = some (.lst xs))
 (ho : s.heap.get? p = some { cls := .type "list", data := .seq aD.toArray n }) (hf : f { cls := .type "list", data := .seq aD.toArray n } = { cls := .type "list", data := .seq its'.toArray n' }) (r : Vals ys its') (hz : ys.length <= sizeLine) (t : Nat) :
 Inv X pins σ (upd H p (.lst ys)) { s with heap := s.heap.update p f, toks := t } := by
 have e : (s.heap.update p f).get? p = some { cls := .type "list", data := .seq its'.toArray n' } := by
  rw [Heap.get?_update_self f ho (by rw [hf] <;> rfl), hf]
 refine I.write (x := p) (e := p) (by rw [h]; trivial) (.inl rfl) (fun b u hb q => (Heap.get?_update_other _ _ (Ne.symm hb)).trans q) ⟨_, e⟩ ?_
 exact ⟨hz, its', n', r, e⟩
def AJ : V -> V -> V -> Hp -> (Hp -> Prop) -> Prop := fun o i v H Q => ∃ p xs k j, o = .ref p /\ i = .int k /\ H p = some (.lst xs) /\ wH xs.length k = some j /\ Q (upd H p (.lst (xs.set j v)))
theorem set_list : Er X AJ := by
 intro pins s σ H o i v ov iv u Q I ro ri rv h
 obtain ⟨p, xs, k, j, rfl, rfl, hp, hj, q⟩ := h
 cases ro
 obtain ⟨t, rfl⟩ := ri
 obtain ⟨aD, n, r, ho, hz⟩ := I.lst hp
 obtain ⟨h1, h2, h3, h4⟩ := rD hj
 have hl := r.length
 have hn := iq
 have I' : Inv X pins σ (upd H p (.lst (xs.set j v))) { s with heap := s.heap.update p (Obj.mapSeq (·.setIfInBounds j u)) } :=
  I.CM hp ho (qz aD n j u) (r.set rv j) (by rw [List.length_set]; exact hz) s.toks
 by_cases h0 : 0 <= k
 . have hk : k.toNat = j := by
    rw [seqIndex_of h0 h4] at h1
    exact Option.some.inj h1
   exact PySem.W.ki_setAt ho h0 (by omega) (by rw [List.size_toArray, <- hl]; exact h4) (by rw [hk]; exact ⟨_, I', q⟩)
 . have hk : (k + (aD.toArray.size : Int)).toNat = j := by
    rw [seqIndex_neg (by omega) h3] at h1
    rw [List.size_toArray, <- hl]
    exact Option.some.inj h1
   exact PySem.W.ki_setBack ho (by omega) (by rw [List.size_toArray, <- hl]; exact h3) (by omega) (by rw [hk]; exact ⟨_, I', q⟩)
theorem n0 (lo hi : Option Int) (n : Nat) : (sliceBounds lo hi none n).1 = ((HT.lG n 0 lo : Nat) : Int) /\ (sliceBounds lo hi none n).2.1 = ((HT.lG n n hi : Nat) : Int) /\ (sliceBounds lo hi none n).2.2 = 1 := by
 refine ⟨?_, ?_, rfl⟩
 . cases lo with
   | none => simp [sliceBounds, HT.lG]
   | some i =>
     simp only [sliceBounds, HT.lG, Option.getD_none, show (1 : Int) > 0 by decide, if_true]
     by_cases h : i < 0
     . simp only [h, if_true] <;> omega
     . simp only [h, if_false] <;> omega
 . cases hi with
   | none => simp [sliceBounds, HT.lG]
   | some i =>
     simp only [sliceBounds, HT.lG, Option.getD_none, show (1 : Int) > 0 by decide, if_true]
     by_cases h : i < 0
     . simp only [h, if_true] <;> omega
     . simp only [h, if_false] <;> omega
theorem lI (aD : List Value) (lo hi : Option Int) : slicePick aD.toArray lo hi none = ((aD.drop (HT.lG aD.length 0 lo)).take (HT.lG aD.length aD.length hi - HT.lG aD.length 0 lo)).toArray := by
 obtain ⟨h1, h2, h3⟩ := n0 lo hi aD.toArray.size
 unfold slicePick
 rw [h1, h2, h3]
 simp only [sliceRange_one, pick_run, List.size_toArray] <;> rfl
def zl (K : PySem.W.Frag) : V -> Option Int -> Option Int -> Hp -> VK -> Prop := fun x lo hi H Q => ∃ a xs, x = .ref a /\ bF K H a xs /\ ∀ p, H p = none -> Q (.ref p) (upd H p (.lst (p8 xs lo hi)))
theorem nT : Jn X (zl X.K) := by
 intro pins s σ H x v vl vu lo hi sl Q I rx hs pl pu h
 obtain ⟨a, xs, rfl, hx, q⟩ := h
 cases rx
 obtain ⟨aD, r, ht, hz⟩ := I.list hx
 have hlen := r.length
 refine ⟨"list", _, slot_list_getitem.lookup, ht.isList.typeIs, ?_⟩
 refine wpAny_getItem_list_slice ht.isList hs pl pu .none (by simp) ?_ (by rw [List.size_toArray] <;> omega)
 rw [lI, <- hlen]
 refine ⟨.ref s.heap.objs.size, _, I.laid (t' := s.toks) (o := .lst (p8 xs lo hi)) (fun b ob q => Heap.get?_push_of_some _ q) (Nat.le_refl _) ?_, rfl, q _ (I.aK.fresh (Nat.le_refl _))⟩
 exact ⟨Nat.le_trans (pC xs lo hi) hz, _, 0, (r.drop (HT.lG xs.length 0 lo)).take (HT.lG xs.length xs.length hi - HT.lG xs.length 0 lo), Heap.get?_push_size _ rfl⟩
def A0 : V -> Bool
 | .bz => true
 | .bl _ => true
 | .int _ => true
 | .str _ => true
 | _ => false
def Ka : V -> V -> Bool
 | .bz, .bz => true
 | .bl a, .bl b => a == b
 | .bl a, .int b => (if a then 1 else 0) == b
 | .int a, .bl b => a == (if b then 1 else 0)
 | .int a, .int b => a == b
 | .str a, .str b => a == b
 | _, _ => false
theorem Cy {A : Around} {s : Shared} {y x : V} {u v : Value} (ry : RelV y u) (rx : RelV x v) (fy : A0 y = true) (fx : A0 x = true) : SeqAt.EqAt A s u v (Ka y x) := by
 cases y with
 | bz =>
   cases ry
   cases x with
   | bz => cases rx; exact SeqAt.EqAt.same _
   | bl b => cases rx; exact SeqAt.EqAt.none_bool b
   | int b => obtain ⟨t, rfl⟩ := rx; exact SeqAt.EqAt.none_int b t
   | str b => obtain ⟨t, rfl⟩ := rx; exact SeqAt.EqAt.none_str b t
   | _ => exact absurd (show false = true from fx) Bool.false_ne_true
 | bl a =>
   cases ry
   cases x with
   | bz => cases rx; exact SeqAt.EqAt.bool_none a
   | bl b => cases rx; exact SeqAt.EqAt.bool_bool a b
   | int b => obtain ⟨t, rfl⟩ := rx; exact SeqAt.EqAt.bool_int a b t
   | str b => obtain ⟨t, rfl⟩ := rx; exact SeqAt.EqAt.bool_str a b t
   | _ => exact absurd (show false = true from fx) Bool.false_ne_true
 | int a =>
   obtain ⟨t', rfl⟩ := ry
   cases x with
   | bz => cases rx; exact SeqAt.EqAt.int_none a t'
   | bl b => cases rx; exact SeqAt.EqAt.int_bool a t' b
   | int b => obtain ⟨t, rfl⟩ := rx; exact SeqAt.EqAt.int_int a t' b t
   | str b => obtain ⟨t, rfl⟩ := rx; exact SeqAt.EqAt.int_str a t' b t
   | _ => exact absurd (show false = true from fx) Bool.false_ne_true
 | str a =>
   obtain ⟨t', rfl⟩ := ry
   cases x with
   | bz => cases rx; exact SeqAt.EqAt.str_none a t'
   | bl b => cases rx; exact SeqAt.EqAt.str_bool a t' b
   | int b => obtain ⟨t, rfl⟩ := rx; exact SeqAt.EqAt.str_int a t' b t
   | str b => obtain ⟨t, rfl⟩ := rx; exact SeqAt.EqAt.str_str a t' b t
   | _ => exact absurd (show false = true from fx) Bool.false_ne_true
 | _ => exact absurd (show false = true from fy) Bool.false_ne_true
theorem eY : dH X (.builtin "len") (fun xs H Q => ∃ p ys, xs = [.ref p] /\ (bF X.K H p ys \/ oj X.K H p ys) /\ Q (.int ys.length) H) := by
 intro pins s σ H xs us Q I r h
 obtain ⟨p, ys, rfl, hq, q⟩ := h
 obtain ⟨u, rfl, rx⟩ := vals1 r
 cases rx
 have hn := iq
 rcases hq with hq | hq
 . obtain ⟨aD, r', pl, hz⟩ := I.list hq
   have hlen := r'.length
   exact Calls.call_len_list pl.isList (by simp only [List.size_toArray] <;> omega) ⟨.int ys.length, H, I.tok _, ⟨s.toks + 1, by rw [List.size_toArray, hlen]⟩, q⟩
 . obtain ⟨aD, r', pl, hz⟩ := I.tuple hq
   have hlen := r'.length
   exact len_tuple pl (by simp only [List.size_toArray] <;> omega) ⟨.int ys.length, H, I.tok _, ⟨s.toks + 1, by rw [List.size_toArray, hlen]⟩, q⟩
theorem nY : dH X (.builtin "len") (fun xs H Q => ∃ z, xs = [.str z] /\ z.length <= sizeLine /\ Q (.int z.length) H) := by
 intro pins s σ H xs us Q I r h
 obtain ⟨z, rfl, hz, q⟩ := h
 obtain ⟨u, rfl, t, rfl⟩ := vals1 r
 have hn := iq
 exact len_str (by omega) ⟨.int z.length, H, I.tok _, ⟨_, rfl⟩, q⟩
theorem ng : dH X (.type "list") (fun xs H Q => ∃ p ys, xs = [.ref p] /\ (bF X.K H p ys \/ oj X.K H p ys) /\ ∀ l, H l = none -> Q (.ref l) (upd H l (.lst ys))) := by
 intro pins s σ H xs us Q I r h
 obtain ⟨p, ys, rfl, hq, q⟩ := h
 obtain ⟨u, rfl, rx⟩ := vals1 r
 cases rx
 have fin : ∀ (aD : List Value), Vals ys aD -> ys.length <= sizeLine -> ∀ (h' : Heap) (c' : Nat), (∀ b o', s.heap.get? b = some o' -> h'.get? b = some o') ->
  h'.get? s.heap.objs.size = some { cls := .type "list", dict := none, data := .seq aD.toArray c', slots := #[] } -> EP X pins σ Q (.ref s.heap.objs.size) { s with heap := h' } := fun aD r' hz h' c' kp e =>
  ⟨.ref s.heap.objs.size, _, I.laid (t' := s.toks) kp (Nat.le_refl _) (show bp X.prog X.w _ h' _ (.lst ys) from ⟨hz, aD, c', r', e⟩), rfl, q _ (I.aK.fresh (Nat.le_refl _))⟩
 rcases hq with hq | hq
 . obtain ⟨aD, r', pl, hz⟩ := I.list hq
   have hlen := r'.length
   obtain ⟨o, ho, hc, n, hd⟩ := pl.isList
   exact call_list_seq p (.inl rfl) ho hc hd (fun h' c' kp e => fin aD r' hz h' c' kp e) (by simp only [List.size_toArray] <;> omega)
 . obtain ⟨aD, r', pl, hz⟩ := I.tuple hq
   have hlen := r'.length
   obtain ⟨o, ho, hc, n, hd⟩ := pl
   exact call_list_seq p (.inr rfl) ho hc hd (fun h' c' kp e => fin aD r' hz h' c' kp e) (by simp only [List.size_toArray] <;> omega)
def GP (K : PySem.W.Frag) (T : String) (x : V) (H : Hp) : Prop := match x with
 | .str _ => T = "str"
 | .int _ => T = "int"
 | .ref p => (T = "list" /\ ∃ xs, bF K H p xs) \/ (T = "tuple" /\ ∃ o, K.lookup p = some o /\ o.cls = .type "tuple" /\ o.dict = none) \/
  (T = "dict" /\ ((∃ kvs, H p = some (.dK kvs)) \/ ∃ kvs, H p = some (.dT kvs))) \/ (T = "set" /\ ∃ S n, H p = some (.set S n))
 | _ => False
theorem qY {pins : List (Addr × Obj)} {σ : St} {H : Hp} {s : Shared} {T : String} {x : V} {v : Value} (I : Inv X pins σ H s) (r : RelV x v) (ty : GP X.K T x H) :
 s.TypeIs v T /\ ∀ a, v = .ref a -> ∃ ob, s.heap.get? a = some ob /\ ob.dict = none := by
 cases x with
 | str z =>
   obtain ⟨t, rfl⟩ := r
   cases (show T = "str" from ty)
   exact ⟨typeIs_str s z t, fun _ e => nomatch e⟩
 | int i =>
   obtain ⟨t, rfl⟩ := r
   cases (show T = "int" from ty)
   exact ⟨typeIs_int s i t, fun _ e => nomatch e⟩
 | ref p =>
   cases r
   rcases ty with ⟨rfl, xs, hq⟩ | ⟨rfl, o, hk, hc, hd⟩ | ⟨rfl, hk⟩ | ⟨rfl, S, n, hk⟩
   . obtain ⟨aD, _, pl, _⟩ := I.list hq
     refine ⟨pl.isList.typeIs, fun a e => ?_⟩
     cases e
     obtain ⟨o, n, e, c, hd, _⟩ := pl
     exact ⟨o, e, hd⟩
   . refine ⟨⟨o, I.oC p o hk, hc⟩, fun a e => ?_⟩
     cases e
     exact ⟨o, I.oC _ o hk, hd⟩
   . have z : ∃ o, s.heap.get? p = some o /\ o.ExactDict := by
      rcases hk with ⟨kvs, hk⟩ | ⟨kvs, hk⟩
      . obtain ⟨_, _, _, _, o, _, _, e, ex, _⟩ := I.aK p _ hk
        exact ⟨o, e, ex⟩
      . obtain ⟨_, _, _, _, o, _, _, e, ex, _⟩ := I.aK p _ hk
        exact ⟨o, e, ex⟩
     obtain ⟨o, e, ex⟩ := z
     refine ⟨⟨o, e, ex.1⟩, fun a e2 => ?_⟩
     cases e2
     exact ⟨o, e, ex.2.1⟩
   . obtain ⟨o, _, _, _, e, ex, _⟩ := I.aK p _ hk
     refine ⟨⟨o, e, ex.1⟩, fun a e2 => ?_⟩
     cases e2
     exact ⟨o, e, ex.2.1⟩
 | _ => exact False.elim ty
def K6 (K : PySem.W.Frag) (T : String) (r : V -> List V -> Hp -> VK -> Prop) (to : TE) (t : TA) : TE := fun σ H Q => to σ H fun x H1 => GP K T x H1 /\ t σ H1 fun xs H2 => r x xs H2 Q
variable {o e : Expr} {es : List Expr} {to : TE} {t : TA} {name : Str} {apos cC : Pos} {T id : String} {r : V -> List V -> Hp -> VK -> Prop}
theorem pq (pa : PlainAttrs T) (slot : Slot T name id) (Md : typeOf (.builtin id) = pure (.type "method_descriptor")) (hm : ME X id r) (ho : PE X o to) (ha : PA X (e :: es) t)
 (oF : attributeBase o name X.env (eval o X.env) = eval o X.env := by rfl)
 (J5 : ((backTo cC (starEach (e :: es) X.env)).all (fun x => !x.1) && (backToKw cC (keywordEach [] X.env)).all (fun x => x.1.isSome)
  && decide ((e :: es).length + ([] : List Keyword).length + (if ([] : List Keyword).isEmpty then 0 else 1) < 30)) = true := by rfl)
 (hline : (apos.endLine == cC.line) = true := by rfl) (hs : starEach (e :: es) X.env = (false, eval e X.env) :: starEach es X.env := by rfl) (Bm : (backTo cC (starEach es X.env)).any (·.1) = false := by rfl) :
 PE X (.Call (.Attribute o name apos) (e :: es) [] cC) (K6 X.K T r to t) := by
 intro pins s σ H Q I h
 refine wpAny_Call_method_late oF J5 hline rfl (bO (ho pins s σ H _ I h) fun v s1 ⟨x, H1, I1, r1, ty, q1⟩ => ?_)
 obtain ⟨h1, h2⟩ := qY I1 r1 ty
 refine ⟨T, id, pa, slot, Md, h1, h2, ?_⟩
 have hA := ha cC pins s1 σ H1 _ I1 q1
 rw [hs] at hA ⊢
 refine Calls.callWith_builtin (by show (false || (backTo cC (starEach es X.env)).any (·.1)) = false; rw [Bm] <;> rfl) (Calls.evalArgs_plain ?_)
 exact bO hA fun us s2 ⟨vs, H2, I2, r2, q2⟩ => hm pins s2 σ H2 x vs v us Q I2 r1 r2 q2
end
def Nz (X : Cx) (id : String) (r : V -> List V -> Hp -> VK -> Prop) : Prop :=
 ∀ (pins : List (Addr × Obj)) (s : Shared) (σ : St) (H : Hp) (x : V) (xs : List V) (v : Value) (us : List Value) (Q : VK), Inv X pins σ H s -> RelV x v -> Vals xs us -> r x xs H Q ->
   wpAny (model X.prog X.w) X.A (call (.builtin id) (v :: us)) (EP X pins σ Q) X.xe s
theorem Vals.one : ∀ {x : V} {us : List Value}, Vals [x] us -> ∃ u, us = [u] /\ RelV x u
 | _, _, .cons r .nil => ⟨_, rfl, r⟩
section
variable {X : Cx} {pins : List (Addr × Obj)} {σ : St} {H : Hp} {s : Shared} {l b : Addr} {xs ys zs : List V}
theorem Inv.J8 {aD its' : List Value} {n : Nat} {f : Array Value -> Array Value} {t' : Nat} (I : Inv X pins σ H s) (hH : H l = some (.lst xs))
 (e : s.heap.get? l = some { cls := .type "list", data := .seq aD.toArray n }) (hf : f aD.toArray = its'.toArray) (hv : Vals ys its') (hz : ys.length <= sizeLine) :
 Inv X pins σ (upd H l (.lst ys)) { s with heap := s.heap.update l (Obj.mapSeq f), toks := t' } := by
 have q := PySem.IsL.update e f
 rw [hf] at q
 refine I.write (x := l) (e := l) (by rw [hH]; exact trivial) (.inl rfl) (fun b' u hb hu => (Heap.get?_update_other s.heap (Obj.mapSeq f) (Ne.symm hb)).trans hu) ⟨_, q⟩ ?_
 exact ⟨hz, its', _, hv, q⟩
theorem Inv.HZ {aD : List Value} {t' : Nat} (I : Inv X pins σ H s) (hv : Vals ys aD) (hz : ys.length <= sizeLine) :
 Inv X pins σ (upd H s.heap.objs.size (.lst ys)) { s with heap := s.heap.push { cls := .type "list", data := .seq aD.toArray }, toks := t' } :=
 I.laid (fun _ _ q => Heap.get?_push_of_some _ q) (Nat.le_refl _) ⟨hz, aD, 0, hv, Heap.get?_push_size _ rfl⟩
theorem Inv.fresh (I : Inv X pins σ H s) : H s.heap.objs.size = none := I.aK.fresh (Nat.le_refl _)
theorem Inv.BU (I : Inv X pins σ H s) (hH : H l = some (.lst xs)) : xs.length <= sizeLine /\ ∃ (aD : List Value) (n : Nat), Vals xs aD /\ xs.length = aD.length /\ s.heap.get? l = some { cls := .type "list", data := .seq aD.toArray n } := by
 obtain ⟨z, aD, n, r, e⟩ := I.aK l _ hH
 exact ⟨z, aD, n, r, r.length, e⟩
end
section
variable {X : Cx}
def nU : V -> List V -> Hp -> VK -> Prop := fun x vs H Q => ∃ l xs y, x = .ref l /\ vs = [y] /\ H l = some (.lst xs) /\ xs.length < sizeLine /\ Q .bz (upd H l (.lst (xs ++ [y])))
theorem eR : Nz X "list.append" nU := by
 intro pins s σ H x vs v us Q I rx rv h
 obtain ⟨l, xs, y, rfl, rfl, hH, hz, q⟩ := h
 cases rx
 obtain ⟨u, rfl, ru⟩ := rv.one
 obtain ⟨z, aD, n, r, hl, e⟩ := I.BU hH
 refine call_meets F.slot_list_append ⟨_, e, rfl⟩ F.entry_list_append (F.args_list_append_2 _ _) (PySem.list_append l aD.toArray n u (by rw [List.size_toArray]; omega)) ⟨e, ?_⟩
 refine ⟨.bz, _, I.J8 (its' := aD ++ [u]) hH e (by simp) (r.append (.cons ru .nil)) ?_, rfl, q⟩
 rw [List.length_append, List.length_singleton]
 omega
def DX : R2 := fun x y H Q => ∃ l b xs zs, x = .ref l /\ y = .ref b /\ H l = some (.lst xs) /\ H b = some (.lst zs) /\ xs.length + zs.length <= sizeLine /\ ∀ p, H p = none -> Q (.ref p) (upd H p (.lst (xs ++ zs)))
theorem qH : iE X (binaryOp .Add) DX := by
 intro pins s σ H x y v u Q I rx ry h
 obtain ⟨l, b, xs, zs, rfl, rfl, hH, hB, hz, q⟩ := h
 cases rx
 cases ry
 obtain ⟨z, aD, n, r, hl, e⟩ := I.BU hH
 obtain ⟨z2, tR, n2, r2, xm, e2⟩ := I.BU hB
 refine PySem.P.add_list e e2 ?_ (by rw [List.size_toArray, List.size_toArray]; omega)
 have ea : aD.toArray ++ tR.toArray = (aD ++ tR).toArray := by simp
 rw [ea]
 exact ⟨.ref _, _, I.HZ (t' := s.toks) (r.append r2) (by rw [List.length_append]; omega), rfl, q _ I.fresh⟩
end
section
variable {prog : Program} {w : World} {A : Around} {E : Value -> Shared -> Prop} {s : Shared}
set_option maxRecDepth 100000 in
end
section
variable {X : Cx}
end
section
variable {κ : Type} [DecidableEq κ]
def jn (kvs : List (κ × V)) (k : κ) : Option V := (kvs.find? fun kv => decide (kv.1 = k)).map (·.2)
def putK (kvs : List (κ × V)) (k : κ) (v : V) : List (κ × V) :=
 if (kvs.any fun kv => decide (kv.1 = k)) = true then kvs.map (fun kv => if kv.1 = k then (kv.1, v) else kv) else kvs ++ [(k, v)]
theorem jc {p : κ × V} {r : List (κ × V)} {k : κ} (e : p.1 = k) : jn (p :: r) k = some p.2 := by simp [jn, List.find?_cons, e]
theorem fW {p : κ × V} {r : List (κ × V)} {k : κ} (e : ¬ p.1 = k) : jn (p :: r) k = jn r k := by simp [jn, List.find?_cons, e]
theorem oX (k : κ) : ∀ kvs : List (κ × V), (kvs.any fun kv => decide (kv.1 = k)) = (jn kvs k).isSome
 | [] => rfl
 | p :: r => by
   rw [List.any_cons]
   by_cases e : p.1 = k
   . simp only [jc e, decide_eq_true e, Bool.true_or, Option.isSome_some]
   . rw [fW e, decide_eq_false e, Bool.false_or]; exact oX k r
theorem jT (kvs : List (κ × V)) (k : κ) (v : V) : (putK kvs k v).length <= kvs.length + 1 := by
 unfold putK
 split
 . rw [List.length_map]; omega
 . rw [List.length_append, List.length_cons, List.length_nil]; omega
theorem j4.sR {o : Option V} {u : Option Value} (r : j4 o u) : o.isSome = u.isSome := by
 cases o with
 | none => cases u with
   | none => rfl
   | some _ => exact (show False from r).elim
 | some _ => cases u with
   | none => exact (show False from r).elim
   | some _ => rfl
theorem KV.val {kvs : List (κ × V)} {vs : List (κ × Value)} (r : KV kvs vs) (k : κ) : j4 (jn kvs k) (valueAt vs k) := by
 unfold KV at r
 induction r with
 | nil => exact True.intro
 | @cons p q ps qs h t ih =>
   obtain ⟨h1, h2⟩ := h
   by_cases e : p.1 = k
   . have e' : q.1 = k := h1.symm.trans e
     have b : valueAt (q :: qs) k = some q.2 := by simp [valueAt, List.find?_cons, e']
     rw [jc e, b]; exact h2
   . have e' : ¬ q.1 = k := fun z => e (h1.trans z)
     have b : valueAt (q :: qs) k = valueAt qs k := by simp [valueAt, List.find?_cons, e']
     rw [fW e, b]; exact ih
theorem KV.any {kvs : List (κ × V)} {vs : List (κ × Value)} (r : KV kvs vs) (k : κ) : (kvs.any fun kv => decide (kv.1 = k)) = vs.any fun kv => decide (kv.1 = k) := by
 unfold KV at r
 induction r with
 | nil => rfl
 | cons h t ih => rw [List.any_cons, List.any_cons, ih, h.1]
theorem KV.repl {kvs : List (κ × V)} {vs : List (κ × Value)} (r : KV kvs vs) (k : κ) {y : V} {u : Value} (ry : RelV y u) :
 KV (kvs.map fun kv => if kv.1 = k then (kv.1, y) else kv) (vs.map fun kv => if kv.1 = k then (kv.1, u) else kv) := by
 unfold KV at r ⊢
 induction r with
 | nil => exact .nil
 | @cons p q ps qs h t ih =>
   rw [List.map_cons, List.map_cons]
   refine .cons ?_ ih
   obtain ⟨h1, h2⟩ := h
   by_cases e : p.1 = k
   . rw [if_pos e, if_pos (h1.symm.trans e)]; exact ⟨h1, ry⟩
   . rw [if_neg e, if_neg (fun z => e (h1.trans z))]; exact ⟨h1, h2⟩
theorem KV.put {kvs : List (κ × V)} {vs : List (κ × Value)} (r : KV kvs vs) (k : κ) {y : V} {u : Value} (ry : RelV y u) : KV (putK kvs k y) (stored vs k u) := by
 unfold putK stored
 rw [r.any k]
 by_cases e : (vs.any fun kv => decide (kv.1 = k)) = true
 . rw [if_pos e, if_pos e]; exact r.repl k ry
 . rw [if_neg e, if_neg e]; exact Paired.snoc r ⟨rfl, ry⟩
theorem KV.length {kvs : List (κ × V)} {vs : List (κ × Value)} (r : KV kvs vs) : kvs.length = vs.length := Paired.length r
end
theorem vZ {P : Program} {w : World} {k : Key} {u : Value} (r : RelV (kV k) u) : (aY P w).is k u = true := by
 cases k with
 | inl i => obtain ⟨t, e⟩ := (show ∃ t, u = Value.int i t from r); subst e; exact o8 P w i t
 | inr x => obtain ⟨t, e⟩ := (show ∃ t, u = Value.str x t from r); subst e; exact oK P w x t
theorem lW {P : Program} {w : World} : ∀ {ks : List Key} {us : List Value}, Vals (ks.map kV) us -> ItemsAre (aY P w) ks us
 | [], _, r => by rw [List.map_nil] at r; cases r; exact .nil
 | k :: ks, _, r => by
   rw [List.map_cons] at r
   cases r with
   | cons h t => exact .cons (vZ h) (lW t)
abbrev KT (H : Hp) : List (List Key × V) -> List (List Key × Addr × Value) -> Prop := Paired fun p q => p.1 = q.1 /\ H q.2.1 = some (.tup (p.1.map kV)) /\ RelV p.2 q.2.2
theorem KT.val {H : Hp} {kvs : List (List Key × V)} {xs : List (List Key × Addr × Value)} (r : KT H kvs xs) (k : List Key) : j4 (jn kvs k) ((atKey xs k).map (·.2)) := by
 induction r with
 | nil => exact True.intro
 | @cons p q ps qs h t ih =>
   obtain ⟨h1, _, h2⟩ := h
   by_cases e : p.1 = k
   . have e' : q.1 = k := h1.symm.trans e
     have b : atKey (q :: qs) k = some q.2 := by simp [atKey, List.find?_cons, e']
     rw [jc e, b]; exact h2
   . have e' : ¬ q.1 = k := fun z => e (h1.trans z)
     have b : atKey (q :: qs) k = atKey qs k := by simp [atKey, List.find?_cons, e']
     rw [fW e, b]; exact ih
theorem KT.repl {H : Hp} {kvs : List (List Key × V)} {xs : List (List Key × Addr × Value)} (r : KT H kvs xs) (k : List Key) {y : V} {u : Value} (ry : RelV y u) :
 KT H (kvs.map fun kv => if kv.1 = k then (kv.1, y) else kv) (xs.map (putAt k u)) := by
 induction r with
 | nil => exact .nil
 | @cons p q ps qs h t ih =>
   rw [List.map_cons, List.map_cons]
   refine .cons ?_ ih
   obtain ⟨h1, h2, h3⟩ := h
   unfold putAt
   by_cases e : p.1 = k
   . rw [if_pos e, if_pos (h1.symm.trans e)]; exact ⟨h1, h2, ry⟩
   . rw [if_neg e, if_neg (fun z => e (h1.trans z))]; exact ⟨h1, h2, h3⟩
theorem KT.put {H : Hp} {kvs : List (List Key × V)} {xs : List (List Key × Addr × Value)} (r : KT H kvs xs) (k : List Key) {b : Addr} {y : V} {u : Value} (hb : H b = some (.tup (k.map kV))) (ry : RelV y u) :
 KT H (putK kvs k y) (storedH xs k b u) := by
 have e : (kvs.any fun kv => decide (kv.1 = k)) = (atKey xs k).isSome := by
  rw [oX, (r.val k).sR, Option.isSome_map]
 unfold putK storedH
 rw [e]
 by_cases q : (atKey xs k).isSome = true
 . rw [if_pos q, if_pos q]; exact r.repl k ry
 . rw [if_neg q, if_neg q]; exact Paired.snoc r ⟨rfl, hb, ry⟩
theorem KT.keeps {H H' : Hp} {kvs : List (List Key × V)} {xs : List (List Key × Addr × Value)} (r : KT H kvs xs) (ht : ∀ b ys, H b = some (.tup ys) -> H' b = some (.tup ys)) : KT H' kvs xs :=
 Paired.A6 r fun _ _ z => ⟨z.1, ht _ _ z.2.1, z.2.2⟩
section
variable {P : Program} {w : World} {H : Hp} {h : Heap} {a : Addr}
theorem Ar {u : HO} (ok : g8 P w H h) (e : Rd H a u) : bp P w H h a u := e.ok ok
theorem su {kvs : List (Key × V)} (ok : g8 P w H h) (e : Rd H a (.dK kvs)) : kvs.length <= sizeLine /\ (a == sysModules) = false /\ ∃ vs, KV kvs vs /\ h.DictOf (aY P w) a vs :=
 show bp P w H h a (.dK kvs) from Ar ok e
theorem ED {kvs : List (Key × V)} (ok : g8 P w H h) (e : H a = some (.dK kvs)) : kvs.length <= sizeLine /\ (a == sysModules) = false /\ ∃ vs, KV kvs vs /\ h.DictOf (aY P w) a vs := su ok (.inl e)
theorem qf {ks : List Key} (ok : g8 P w H h) (e : H a = some (.tup (ks.map kV))) : (tupleKind (aY P w)).is h ks a := by
 obtain ⟨_, aD, r, o, h1, h2, n, h3⟩ := (show bp P w H h a (.tup (ks.map kV)) from ok a _ e)
 exact ⟨o, aD.toArray, n, h1, h2, h3, by simpa using lW r⟩
theorem uW {kvs : List (List Key × V)} (ok : g8 P w H h) (e : Rd H a (.dT kvs)) : kvs.length <= sizeLine /\ (a == sysModules) = false /\
 ∃ xs, KT H kvs xs /\ h.DictOfH (tupleKind (aY P w)) a xs := by
 obtain ⟨z, y, xs, r, o, es, ep, h1, h2, h3, h4, h5⟩ := (show bp P w H h a (.dT kvs) from Ar ok e)
 refine ⟨z, y, xs, r, o, es, ep, h1, h2, h3, h4, fun x hx => ?_, h5⟩
 have all : ∀ {l : List (List Key × V)} {m : List (List Key × Addr × Value)}, KT H l m -> ∀ x ∈ m, (tupleKind (aY P w)).is h x.1 x.2.1 := by
  intro l m q
  induction q with
  | nil => intro x hx; exact nomatch hx
  | @cons p q ps qs hq t ih =>
    intro x hx
    rcases List.mem_cons.mp hx with e | hx
    . subst e
      exact qf ok (by rw [<- hq.1]; exact hq.2.1)
    . exact ih x hx
 exact all r x hx
theorem Ex {kvs : List (List Key × V)} (ok : g8 P w H h) (e : H a = some (.dT kvs)) : kvs.length <= sizeLine /\ (a == sysModules) = false /\
 ∃ xs, KT H kvs xs /\ h.DictOfH (tupleKind (aY P w)) a xs := uW ok (.inl e)
end
def pN (H : Hp) (a : Addr) (y : V) (r : Option V) : Prop :=
 (∃ kvs k, Rd H a (.dK kvs) /\ y = kV k /\ r = jn kvs k) \/ ∃ kvs k b, Rd H a (.dT kvs) /\ y = .ref b /\ H b = some (.tup (k.map kV)) /\ r = jn kvs k
def qh (H : Hp) (a : Addr) (y v : V) (H' : Hp) : Prop :=
 (∃ kvs k, H a = some (.dK kvs) /\ y = kV k /\ kvs.length < sizeLine /\ H' = upd H a (.dK (putK kvs k v))) \/
 ∃ kvs k b, H a = some (.dT kvs) /\ y = .ref b /\ H b = some (.tup (k.map kV)) /\ kvs.length < sizeLine /\ H' = upd H a (.dT (putK kvs k v))
theorem pN.k {H : Hp} {a : Addr} {kvs : List (Key × V)} {k : Key} (e : H a = some (.dK kvs)) : pN H a (kV k) (jn kvs k) := .inl ⟨kvs, k, .inl e, rfl, rfl⟩
theorem qh.k {H : Hp} {a : Addr} {kvs : List (Key × V)} {k : Key} {v : V} (e : H a = some (.dK kvs)) (hl : kvs.length < sizeLine) : qh H a (kV k) v (upd H a (.dK (putK kvs k v))) := .inl ⟨kvs, k, e, rfl, hl, rfl⟩
section
variable {X : Cx} {pins : List (Addr × Obj)} {σ : St} {H : Hp} {s : Shared} {a : Addr} {y v : V} {u r : Value} {o : Option V} {A : Around} {E : Value -> Shared -> Prop}
theorem Inv.big (I : Inv X pins σ H s) : sysModules < s.heap.objs.size := by
 have h : mainGlobals < s.heap.objs.size := (I.mod.glob.keeps I.bk).lt
 exact Nat.lt_trans (by decide) h
theorem tN {Q : Value -> Shared -> Prop} (hu : A.units + 1 < cLine) (I : Inv X pins σ H s) (g : pN H a y (some v)) (ry : RelV y u) (h : ∀ w' s', Inv X pins σ H s' -> RelV v w' -> Q w' s') :
 wpAny (model X.prog X.w) A (getItem (.ref a) u) Q E s := by
 rcases g with ⟨kvs, k, e, ey, l⟩ | ⟨kvs, k, b, e, ey, eb, l⟩
 . subst ey
   obtain ⟨z, hd, vs, rel, dd⟩ := su I.aK e
   obtain ⟨w', hw, vx⟩ := j4.some_of (v := v) (o := valueAt vs k) (by rw [l]; exact rel.val k)
   exact wpAny_getItem_of (vZ ry) dd.mapOf hw (h w' _ (I.tok _) vx)
 . subst ey
   cases (show u = Value.ref b from ry)
   obtain ⟨z, hd, xs, rel, dd⟩ := uW I.aK e
   obtain ⟨w', hw, vx⟩ := j4.some_of (v := v) (o := (atKey xs k).map (·.2)) (by rw [l]; exact rel.val k)
   obtain ⟨p, hp, uC⟩ := Option.map_eq_some_iff.mp hw
   refine wpAny_getItem_heap (tupleKind_room_in1 hu) (qf I.aK eb) dd hp ?_
   rw [uC]
   exact h w' _ (I.tok _) vx
theorem r0 {h' : Heap} {t' : Nat} {ob : HO} (I : Inv X pins σ H s) (mu : E4 (H a)) (hs : Heap.SameBut a s.heap h') (he : ∃ q, h'.get? a = some q) (new : bp X.prog X.w (upd H a ob) h' a ob) :
 Inv X pins σ (upd H a ob) { s with heap := h', toks := t' } :=
 I.write (x := a) (e := a) mu (.inl rfl) (fun b q hb z => (hs.2 b hb).trans z) he new
theorem xa {P : Program} {w : World} {H' : Hp} {h' : Heap} {kvs : List (Key × V)} {vs : List (Key × Value)} (z : kvs.length <= sizeLine) (hd : (a == sysModules) = false) (rel : KV kvs vs) (dd : h'.DictOf (aY P w) a vs) :
 bp P w H' h' a (.dK kvs) := ⟨z, hd, vs, rel, dd⟩
theorem ug {H' : Hp} {Q : Unit -> Shared -> Prop} (hu : A.units + 1 < cLine) (I : Inv X pins σ H s) (g : qh H a y v H') (ry : RelV y u) (rv : RelV v r) (h : ∀ s', Inv X pins σ H' s' -> Q () s') :
 wpAny (model X.prog X.w) A (setItem (.ref a) u r) Q E s := by
 rcases g with ⟨kvs, k, e, ey, l, eH⟩ | ⟨kvs, k, b, e, ey, eb, l, eH⟩
 . subst ey eH
   obtain ⟨z, hd, vs, rel, dd⟩ := ED I.aK e
   have hz : vs.length <= sizeLine := by rw [<- rel.length]; exact z
   have hl : (putK kvs k v).length <= sizeLine := by have := jT kvs k v; omega
   refine wpAny_setItem_pairs (hsz := hz) (vZ ry) dd fun h' D3 hs => h _ ?_
   have he : ∃ q, h'.get? a = some q := let ⟨q, _, _, hq, _⟩ := D3; ⟨q, hq⟩
   exact r0 I (by rw [e]; exact True.intro) hs he (xa hl hd (rel.put k rv) D3)
 . subst ey eH
   cases (show u = Value.ref b from ry)
   obtain ⟨z, hd, xs, rel, dd⟩ := Ex I.aK e
   have hz : xs.length <= sizeLine := by rw [<- Paired.length rel]; exact z
   have hl : (putK kvs k v).length <= sizeLine := by have := jT kvs k v; omega
   refine wpAny_setItem_heap (hsz := hz) (tupleKind_room_in1 hu) (qf I.aK eb) dd fun h' D3 hs => h _ ?_
   obtain ⟨q, es, ep, hq, h2, h3, h4, _, h5⟩ := D3
   refine r0 I (by rw [e]; exact True.intro) hs ⟨q, hq⟩ ⟨hl, hd, _, (rel.put k eb rv).keeps fun c ys ec => ?_, q, es, ep, hq, h2, h3, h4, h5⟩
   rw [aw (Fo ec e (fun z => nomatch z))]
   exact ec
end
section
variable {X : Cx} {pins : List (Addr × Obj)} {σ : St} {H : Hp} {s : Shared} {a : Addr} {kvs : List (Key × V)} {k : Key} {u : Value} {A : Around} {E : Value -> Shared -> Prop}
end
def Fn (i : Expr) : Prop := ∀ ov iv, subscripted i false ov iv = operate [ov, iv] (getItem ov iv)
theorem yD {prog : Program} {w : World} {A : Around} {E : Value -> Shared -> Prop} {s : Shared} {env : Env} {value slice : Expr} {pos : Pos} {T id : String} {Q : Value -> Shared -> Prop}
 (hl : typeLookup (.type T) "__getitem__" = pure (some (.builtin id))) (hs : Fn slice)
 (h : wpAny (model prog w) A (eval value env) (fun o s₁ => wpAny (model prog w) A (eval slice env) (fun i s₂ => s₂.TypeIs o T /\ wpAny (model prog w) A (getItem o i) Q E s₂) E s₁) E s) :
 wpAny (model prog w) A (eval (.Subscript value slice pos) env) Q E s := by
 refine Subscript_ (wpAny_mono h (fun o s₁ h₁ => wpAny_mono h₁ (fun i s₂ h₂ => ?_) fun _ _ x => x) fun _ _ x => x)
 obtain ⟨hT, h₂⟩ := h₂
 unfold subscriptTail
 refine wpAny_bind ?_
 rw [getitemInPython_of_ne hT.not_modules]
 refine wpAny_bind (wpAny_specialOf hT hl ?_)
 have fin : wpAny (model prog w) A (subscripted slice false o i) (fun r s₃ => wpAny (model prog w) A (letTemporaryGo value o r >>= fun _ => pure r) Q E s₃) E s₂ := by
  rw [hs o i]
  exact wpAny_operating (wpAny_mono h₂ (fun r s₃ h₃ => wpAny_bind (wpAny_letTemporaryGo (wpAny_pure h₃))) fun _ _ x => x)
 first
  | exact wpAny_pure (wpAny_bind fin)
  | exact wpAny_bind (wpAny_pure (wpAny_bind fin))
  | exact wpAny_bind fin
theorem oP {X : Cx} {pins : List (Addr × Obj)} {σ : St} {H : Hp} {s : Shared} {a : Addr} {y : V} {o : Option V} (I : Inv X pins σ H s) (g : pN H a y o) : s.TypeIs (.ref a) "dict" := by
 rcases g with ⟨kvs, k, e, _, _⟩ | ⟨kvs, k, b, e, _, _, _⟩
 . obtain ⟨_, _, vs, _, dd⟩ := su I.aK e
   exact dd.typeIs
 . obtain ⟨_, _, xs, _, dd⟩ := uW I.aK e
   exact dd.typeIs
def AU (td ty : TE) : TE := fun σ H Q => td σ H fun x H1 => ty σ H1 fun y H2 => ∃ a v, x = .ref a /\ pN H2 a y (some v) /\ Q v H2
def AG (td ty tv : TE) : TS := fun D σ H => tv σ H fun v H1 => td σ H1 fun x H2 => ty σ H2 fun y H3 => ∃ a H4, x = .ref a /\ qh H3 a y v H4 /\ D.nx σ H4
section
variable {X : Cx} {o i e value : Expr} {pos pos' vH : Pos} {td ty tv : TE}
theorem iK (hu : X.A.units + 1 < cLine) (ho : PE X o td) (hi : PE X i ty) (hs : Fn i) : PE X (.Subscript o i pos) (AU td ty) := by
 intro pins s σ H Q I h
 refine yD PySem.F.slot_dict_getitem.lookup hs (bO (ho pins s σ H _ I h) fun u s1 ⟨x, H1, I1, rx, q1⟩ => bO (hi pins s1 σ H1 _ I1 q1) fun iv s2 ⟨y, H2, I2, ry, a, v, ex, g, q2⟩ => ?_)
 subst ex
 obtain rfl : u = Value.ref a := rx
 exact ⟨oP I2 g, tN hu I2 g ry fun w' s3 I3 vx => ⟨v, H2, I3, vx, q2⟩⟩
theorem mZ (hu : X.A.units + 1 < cLine) (ho : PE X o td) (hi : PE X i ty) (hv : PE X value tv) (hs : swapsWith value (some (.Subscript o i pos')) pos.line X.env = pure false) :
 PS X (.Assign [.Subscript o i pos'] value pos) (AG td ty tv) := by
 intro pins s σ H D I h
 refine wpAny_Assign_Subscript (bO (hv pins s σ H _ I h) fun r s1 ⟨v, H1, I1, rv, q1⟩ => bO (ho pins s1 σ H1 _ I1 q1) fun u s2 ⟨x, H2, I2, rx, q2⟩ => bO (hi pins s2 σ H2 _ I2 q2) fun iv s3 ⟨y, H3, I3, ry, a, H4, ex, g, q3⟩ => ?_) hs
 subst ex
 obtain rfl : u = Value.ref a := rx
 exact ug hu I3 g ry rv fun s4 I4 => ⟨σ, H4, I4, q3⟩
end
theorem xj {P : Program} {w : World} {H : Hp} (h : Heap) (hb : sysModules < h.objs.size) : bp P w H (h.push { cls := .type "dict", data := .dict #[] }) h.objs.size (.dK []) :=
 ⟨Nat.zero_le _, beq_eq_false_iff_ne.mpr (Ne.symm (Nat.ne_of_lt hb)), [], .nil, Heap.DictOf.new h⟩
def vf : TE := fun _ H Q => ∀ p, H p = none -> Q (.ref p) (upd H p (.dK []))
section
variable {X : Cx} {pos : Pos}
theorem vT : PE X (.Dict [] [] pos) vf := fun pins s σ H Q I h =>
 wpAny_Dict_empty ⟨.ref s.heap.objs.size, _, I.laid (a := s.heap.objs.size) (o := .dK []) (t' := s.toks) (fun _ _ q => Heap.get?_push_of_some _ q) (Nat.le_refl _) (xj s.heap I.big), rfl, h _ (I.aK.fresh (Nat.le_refl _))⟩
end
structure M1 (X : Cx) (o : Expr) (m : Str) (apos : Pos) (e : Expr) (cC : Pos) : Prop where
 base : attributeBase o m X.env (eval o X.env) = eval o X.env
 few : ((backTo cC (starEach [e] X.env)).all (fun x => !x.1) && (backToKw cC (keywordEach [] X.env)).all (fun x => x.1.isSome)
  && decide (([e] : List Expr).length + ([] : List Keyword).length + (if ([] : List Keyword).isEmpty then 0 else 1) < 30)) = true
 line : (apos.endLine == cC.line) = true
 trees : backTo cC (starEach [e] X.env) = [(false, eval e X.env)]
structure M2 (X : Cx) (o : Expr) (m : Str) (apos : Pos) (e f : Expr) (cC : Pos) : Prop where
 base : attributeBase o m X.env (eval o X.env) = eval o X.env
 few : ((backTo cC (starEach [e, f] X.env)).all (fun x => !x.1) && (backToKw cC (keywordEach [] X.env)).all (fun x => x.1.isSome)
  && decide (([e, f] : List Expr).length + ([] : List Keyword).length + (if ([] : List Keyword).isEmpty then 0 else 1) < 30)) = true
 line : (apos.endLine == cC.line) = true
 trees : backTo cC (starEach [e, f] X.env) = [(false, eval e X.env), (false, eval f X.env)]
section
variable {X : Cx} {pins : List (Addr × Obj)} {σ : St} {H : Hp} {s : Shared} {a : Addr} {y d : V} {u r : Value} {o : Option V} {A : Around} {E : Value -> Shared -> Prop}
end
section
variable {X : Cx} {o e f : Expr} {apos cC : Pos} {td ty tx : TE}
end
section
variable {X : Cx} {pins : List (Addr × Obj)} {σ : St} {H : Hp} {s : Shared} {a : Addr} {kvs : List (Key × V)} {A : Around} {E : Value -> Shared -> Prop}
theorem vJ {Q : Value -> Shared -> Prop} (I : Inv X pins σ H s) (e : Rd H a (.dK kvs)) (h : ∀ p s', H p = none -> Inv X pins σ (upd H p (.dK kvs)) s' -> Q (.ref p) s') : wpAny (model X.prog X.w) A (call (.type "dict") [.ref a]) Q E s := by
 obtain ⟨z, hd, vs, rel, dd⟩ := su I.aK e
 refine kt_call_dict hd dd (by rw [<- rel.length]; exact z) fun h' D3 hs => ?_
 refine h _ _ (I.aK.fresh (Nat.le_refl _)) (I.laid (a := s.heap.objs.size) (o := .dK kvs) (t' := s.toks) (fun b q hq => ?_) (Nat.le_refl _) (xa z (beq_eq_false_iff_ne.mpr (Ne.symm (Nat.ne_of_lt I.big))) rel D3))
 exact (hs.2 b (Nat.ne_of_lt (Heap.lt_size hq))).trans (Heap.get?_push_of_some _ hq)
end
section
variable {X : Cx} {pins : List (Addr × Obj)} {σ : St} {H : Hp} {s : Shared} {a : Addr} {y : V} {u : Value} {A : Around} {E : Value -> Shared -> Prop}
end
end L2
namespace Lf
open PySem PySem.W PySem.Calls PyProof.Rows
theorem jY {P : Params} {h : Heap} : ∀ (ns : List Int) (vs : List Value), WellAll P h vs (ns.map WData.int) -> IntsAre vs ns := by
 intro ns
 induction ns with
 | nil =>
   intro vs w
   rw [List.map_nil] at w
   cases w
   exact .nil
 | cons n ns ih =>
   intro vs w
   rw [List.map_cons] at w
   cases w with
   | cons a b =>
     cases a
     exact .cons _ _ (ih _ b)
theorem uo {l : OpenLaw} {n : Nat} (hn : l.most = some n) {P : Params} {h : Heap} {args : List WData} {vals : List Value}
 (zr : l.row.toRowW.claim.pre args = true) (HE : WellAll P h vals args) :
 ∃ a vs ns, vals = [Value.ref a] /\ args = [WData.list (ns.map WData.int)] /\ h.get? a = some { cls := .type "list", data := .seq vs.toArray } /\ IntsAre vs ns /\ ns.length <= n := by
 have nR : WShape.hasAll [] args [.list .int] = true := (pre_splitW zr).1
 have hc : l.pre.holds [] { args := args } = true := (pre_splitW zr).2
 obtain ⟨d, r, rfl, h1, h2⟩ := hasAllW_cons nR
 obtain rfl := hasAllW_nil h2
 obtain ⟨xs, rfl, h3⟩ := hasW_list h1
 obtain ⟨ns, rfl⟩ := items_int h3
 have hlen : ns.length <= n := by
  unfold OpenLaw.pre at hc
  have h4 : (WTm.not (.lt (.lit (.int (n : Int))) (.len (.arg 0)))).holds [] { args := [.list (ns.map .int)] } = true := by
   have h4 := (holds_andW hc).1
   rw [hn] at h4
   exact h4
  have h5 := condW_of h4 (w_not (w_lt w_lit (w_len_list (w_arg rfl))))
  rw [List.length_map] at h5
  refine Nat.le_of_not_lt fun q => ?_
  have q' : (n : Int) < ((ns.length : Nat) : Int) := by omega
  first
   | (rw [decide_eq_true q'] at h5; exact absurd h5 (by decide))
   | (simp at h5; omega)
 cases HE with
 | cons w1 w2 =>
   cases w2
   cases w1 with
   | list ho De => exact ⟨_, _, ns, rfl, rfl, ho, jY ns _ De, hlen⟩
theorem uq (l : OpenLaw) (args : List WData) : l.row.toRowW.claim.post args (.bool true) args = true :=
 postW_of (r := l.row.toRowW) (X := (true == true))
  (show WShape.has [] (.bool true) .bool = true by first | rfl | decide | simp [WShape.has, WShape.arms, WShape.armsAll])
  (show (WTm.eq .res (.lit (.bool true))).value [] { args := args, res := some (.bool true), after := args } = some (.bool (true == true)) from w_eq_bool (w_res rfl) w_lit) rfl
theorem o3 {l : OpenLaw} {n : Nat} {q : Program} {loose : List Str} {XP : (Str -> Option Value) -> Heap -> Prop} {YP : World -> Heap -> Prop} {d : DefRec}
 (hn : l.most = some n) (GB : d.params.defaults = [])
 (call : ∀ (w : World) (cN s₁ : Shared) (mg mb : Str -> Option Value) (fa : Addr) (o : Obj) (pm cd doc : Value) (a : Addr) (vs : List Value) (ns : List Int),
  Ground q loose [] XP w cN mg mb s₁.heap -> YP w s₁.heap ->
  s₁.heap.get? fa = some o -> o.data = .func (docDef d.name d.params d.body d.scope pm cd doc) -> s₁.heap.CodeRec cd d.name -> mg d.name = some (.ref fa) ->
  s₁.heap.get? a = some { cls := .type "list", data := .seq vs.toArray } -> IntsAre vs ns -> ns.length <= n -> s₁.gens = #[] ->
  codeAny (model l.prog w) callerA (.call (.ref fa) ⟨[.ref a], []⟩) (fun r s' => r = .ok (.ret (.bool true)) /\ OldK s₁.heap s'.heap /\ s'.os = s₁.os /\ AllBare s'.gens) s₁) :
 WalkO q loose XP YP l.row.toRowW d [] (fun f vs => PySem.call f vs) := by
 intro w cN s₁ mg mb G Y fa o pm cd doc dV kV ho hd uE hD Fp hg args vals as zr OZ Py HE DT
 obtain rfl : dV = .none := Dflts.none hD GB
 obtain rfl : kV = .none := Dflts.noKw hD
 obtain ⟨a, vs, ns, rfl, rfl, Bq, hints, hlen⟩ := uo hn zr HE
 refine enter_call (codeAny_mono (call w cN s₁ mg mb fa o pm cd doc a vs ns G Y ho (fd_plain hd) uE Fp Bq hints hlen hg) fun r s' hq => ?_)
 obtain ⟨rfl, h2, h3, h4⟩ := hq
 exact ⟨.inl ⟨.bool true, .bool true, [], rfl, fun _ => rfl, .bool true, uq l _, fun _ => ⟨List.Pairwise.nil, fun _ hm => (nomatch hm)⟩⟩, h2, h3, h4⟩
section
variable {prog : Program} {w : World} {A : Around} {E : Value -> Shared -> Prop} {s : Shared} {K : Frag}
end
end Lf
namespace L2
open PySem PySem.Spec PyProof.Rows
theorem jl : ∀ {vs : List Value} {ns : List Int}, IntsAre vs ns -> Vals (ns.map V.int) vs
 | _, _, .nil => .nil
 | _, _, .cons n t h => .cons ⟨t, rfl⟩ (jl h)
def zD (H : Hp) : Prop := ∀ b, H b = none \/ ∃ o xs, H b = some (.rg o (.lst xs))
theorem wV {P : Program} {w : World} {K : PySem.W.Frag} {mg mb : Str -> Option Value} {CX : oz} {k : Nat} {fa a : Addr} {fd : FuncData} {x : Str} {sp : Sp} {s₁ : Shared} {vs : List Value} {ns : List Int}
 (KX : K.In s₁.heap) (KQ : s₁.heap.Ns mainGlobals mg) (hb : s₁.heap.Ns builtinsNs mb) (JV : ∀ x : Str, x ≠ "__name__" -> mb x = bootBuiltins x) (Iz : s₁.heap.NoLimit) (hg : s₁.gens = #[])
 (ha : s₁.heap.get? a = some { cls := .type "list", data := .seq vs.toArray }) (hi : IntsAre vs ns) (hl : ns.length <= sizeLine) (hr : cf k callerA)
 (F : ∀ base : Heap, K.In base -> base.Ns mainGlobals mg -> bQ P w K mg base CX k fa fd [x] sp) (EV : ∀ (s : Shared) (u : Value), BindsTo s fd ⟨[u], []⟩ [(x, u)])
 (xS : ∀ H : Hp, zD H -> bF K H a (ns.map V.int) -> sp [.ref a] H (fun v _ => v = .bl true) fun _ _ _ => False)
 (GN : ∀ H e s', CX [] H s₁ (fun _ _ _ => False) e s' -> False) :
 codeAny (model P w) callerA (.call (.ref fa) ⟨[.ref a], []⟩) (fun r s' => r = .ok (.ret (.bool true)) /\ OldK s₁.heap s'.heap /\ s'.os = s₁.os /\ AllBare s'.gens) s₁ := by
 have rv := jl hi
 have Jj := hi.length
 have core : ∀ H : Hp, zD H -> bF K H a (ns.map V.int) -> g8 P w H s₁.heap -> (∀ b, H b ≠ none -> b = a) -> (H a ≠ none -> K.lookup a = none) ->
  codeAny (model P w) callerA (.call (.ref fa) ⟨[.ref a], []⟩) (fun r s' => r = .ok (.ret (.bool true)) /\ OldK s₁.heap s'.heap /\ s'.os = s₁.os /\ AllBare s'.gens) s₁ := by
  intro H hO hS aK hA hK
  have rW : ∀ {b : Addr} {o : Obj}, s₁.heap.get? b = some o -> H b = none -> (mX s₁.heap H).get? b = some o := fun e n => wY e n
  have Fb : ∀ {b : Addr} {o : Obj} {es : Array DictEntry} {ep : Nat}, s₁.heap.get? b = some o -> o.data = .dict es ep -> H b = none := fun {b o es ep} e d => by
   cases q : H b with
   | none => rfl
   | some u =>
     have e' : b = a := hA b (by rw [q]; simp)
     subst e'
     rw [ha] at e; cases e
     have d' : Data.seq vs.toArray _ = Data.dict es ep := d
     cases d'
  have Hr : ∀ {b : Addr} {m : Str -> Option Value}, s₁.heap.Ns b m -> (mX s₁.heap H).Ns b m := fun {b m} ⟨o, es, ep, e, d, r⟩ => ⟨o, es, ep, rW e (Fb e d), d, r⟩
  have LW : K.In (mX s₁.heap H) := fun b o e => rW (KX b o e) (by
   cases q : H b with
   | none => rfl
   | some u =>
     have e' : b = a := hA b (by rw [q]; simp)
     subst e'
     rw [hK (by rw [q]; simp)] at e; cases e)
  have hM : Mod K mg (mX s₁.heap H) := ⟨LW, Hr KQ, ⟨mb, Hr hb, JV⟩, let ⟨mc, h1, h2⟩ := Iz; ⟨mc, Hr h1, h2⟩⟩
  have e0 : p5 P w K mg (mX s₁.heap H) callerA [] s₁ H := ⟨rfl, hM, fun b o e => zQ e, Nat.le_of_eq (tM _ _), trivial, fun b hb => absurd (show b ∈ ([] : List Addr) from hb) (by simp), aK, .of_eq hg⟩
  refine codeAny_mono ((F _ LW (Hr KQ)).run callerA [] s₁ H ⟨[.ref a], []⟩ [.ref a] [.ref a] _ _ hr e0 (EV s₁ (.ref a)) (.cons rfl .nil) (xS H hO hS)) fun r s' h => ?_
  cases r with
  | error e => exact (GN H e s' h).elim
  | ok fl =>
    cases fl with
    | next => exact False.elim h
    | brk => exact False.elim h
    | cont => exact False.elim h
    | ret u =>
      obtain ⟨v, H', os, bare, un, Ia, r', q⟩ := h
      have q' : v = .bl true := q
      subst q'
      obtain rfl : u = Value.bool true := r'
      refine ⟨rfl, OldK.of_keep fun b o e => ?_, os, bare⟩
      cases q : H b with
      | none => exact un.keep b o e q (by intro z; exact absurd (show b ∈ ([] : List Addr) from z) (by simp)) (by simp)
      | some u =>
        rcases hO b with z | ⟨ob, xs, z⟩
        . rw [q] at z; cases z
        . have z2 := un.ji b ob _ z
          obtain ⟨e1, _⟩ := aK b _ z
          obtain ⟨e2, _⟩ := Ia b _ z2
          rw [e] at e1; cases e1
          exact e2
 cases hk : K.lookup a with
 | some o =>
   have e := KX a o hk
   rw [ha] at e
   cases e
   refine core (fun _ => none) (fun _ => .inl rfl) (.inr ⟨_, vs.toArray, _, hk, rfl, rfl, rfl, by rw [List.size_toArray, Jj]; exact hl, by simpa using rv⟩) (fun b u z => by have z' : (none : Option HO) = some u := z; cases z') (fun b z => absurd rfl z) fun z => absurd rfl z
 | none =>
   refine core (fun b => if b = a then some (.rg { cls := .type "list", data := .seq vs.toArray } (.lst (ns.map V.int))) else none) (fun b => ?_) (.inl (.inr ⟨{ cls := .type "list", data := .seq vs.toArray }, if_pos rfl⟩)) (fun b u z => ?_) (fun b z => ?_) fun _ => hk
   . by_cases hb : b = a
     . exact .inr ⟨_, _, if_pos hb⟩
     . exact .inl (if_neg hb)
   . by_cases hb : b = a
     . have z' := (if_pos hb).symm.trans z
       cases z'
       subst hb
       exact ⟨ha, by rw [List.length_map]; exact hl, vs, _, rv, ha⟩
     . have z' := (if_neg hb).symm.trans z
       cases z'
   . by_cases hb : b = a
     . exact hb
     . exact absurd (if_neg hb) z
abbrev Li {K : PySem.W.Frag} {h : Heap} (_ : K.In h) : PySem.W.Frag := K
theorem yk {l : PySem.W.OpenLaw} {n k : Nat} {q : Program} {loose : List Str} {XP : (Str -> Option Value) -> Heap -> Prop} {YP : World -> Heap -> Prop} {d : DefRec} {K : Params -> PySem.W.Frag} {CX : World -> oz} {sp : World -> Sp} {x : Str}
 (hn : l.most = some n) (oB : n <= sizeLine) (GB : d.params.defaults = []) (hr : cf k callerA)
 (hY : ∀ (w : World) (h : Heap), YP w h -> (K w.params).In h)
 (F : ∀ (w : World) (mg : Str -> Option Value) (fa : Addr) (h : Heap), (K w.params).In h -> h.Ns mainGlobals mg -> mg d.name = some (.ref fa) ->
  ∃ fd : FuncData, (∀ (s : Shared) (u : Value), BindsTo s fd ⟨[u], []⟩ [(x, u)]) /\
    ∀ base : Heap, (K w.params).In base -> base.Ns mainGlobals mg -> bQ l.prog w (K w.params) mg base (CX w) k fa fd [x] (sp w))
 (xS : ∀ (w : World) (H : Hp) (a : Addr) (ns : List Int), ns.length <= n -> zD H -> bF (K w.params) H a (ns.map V.int) -> sp w [.ref a] H (fun v _ => v = .bl true) fun _ _ _ => False)
 (GN : ∀ (w : World) (H : Hp) (s : Shared) (e : Value) (s' : Shared), CX w [] H s (fun _ _ _ => False) e s' -> False) :
 PySem.W.WalkO q loose XP YP l.row.toRowW d [] (fun f vs => PySem.call f vs) := by
 refine Lf.o3 hn GB fun w cN s₁ mg mb fa o pm cd doc a vs ns G Y ho hd uE Fp Bq hints hlen hg => ?_
 have KX := hY w _ Y
 obtain ⟨fd, hb, hF⟩ := F w mg fa _ KX G.T.g Fp
 exact wV KX G.T.g G.T.b G.T.builtins G.T.nolimit hg Bq hints (Nat.le_trans hlen oB) hr hF hb (fun H hO hS => xS w H a ns hlen hO hS) fun H e s' => GN w H s₁ e s'
theorem vV {l : PySem.W.OpenLaw} {n k : Nat} {q : Program} {loose : List Str} {XP : (Str -> Option Value) -> Heap -> Prop} {YP : World -> Heap -> Prop} {d : DefRec} {K : Params -> PySem.W.Frag} {CX : oz} {sp : PySem.W.Frag -> Sp} {x : Str}
 (hn : l.most = some n) (oB : n <= sizeLine) (GB : d.params.defaults = []) (hr : cf k callerA)
 (hY : ∀ (w : World) (h : Heap), YP w h -> (K w.params).In h)
 (F : ∀ (w : World) (mg : Str -> Option Value) (fa : Addr) (h : Heap), (K w.params).In h -> h.Ns mainGlobals mg -> mg d.name = some (.ref fa) ->
  ∃ fd : FuncData, (∀ (s : Shared) (u : Value), BindsTo s fd ⟨[u], []⟩ [(x, u)]) /\
    ∀ base : Heap, (K w.params).In base -> base.Ns mainGlobals mg -> bQ l.prog w (K w.params) mg base CX k fa fd [x] (sp (K w.params)))
 (xS : ∀ (K : PySem.W.Frag) (H : Hp) (a : Addr) (ns : List Int), ns.length <= n -> zD H -> bF K H a (ns.map V.int) -> sp K [.ref a] H (fun v _ => v = .bl true) fun _ _ _ => False)
 (GN : ∀ (H : Hp) (s : Shared) (e : Value) (s' : Shared), CX [] H s (fun _ _ _ => False) e s' -> False) :
 PySem.W.WalkO q loose XP YP l.row.toRowW d [] (fun f vs => PySem.call f vs) :=
 yk (K := K) (CX := fun _ => CX) (sp := fun w => sp (K w.params)) hn oB GB hr hY F (fun w H a ns h1 h2 h3 => xS (K w.params) H a ns h1 h2 h3) fun _ H s e s' => GN H s e s'
def iJ (s : Stmt) : Arguments := match s with
 | .FunctionDef _ a _ _ _ _ _ _ _ _ => a
 | _ => { posonlyargs := [], args := [], vararg := none, kwonlyargs := [], kw_defaults := [], kwarg := none, defaults := [] }
def gU (s : Stmt) : List Stmt := match s with
 | .FunctionDef _ _ b _ _ _ _ _ _ _ => b
 | _ => []
def aq (s : Stmt) : Scope := match s with
 | .FunctionDef _ _ _ _ _ _ sc _ _ _ => sc
 | _ => { kind := .function, names := [], isGenerator := false, isCoroutine := false }
abbrev iV : oz := fun _ _ _ _ _ _ => False
abbrev E0 : XK := fun _ _ _ => False
theorem FZ {X : Cx} : Passes iV X E0 := fun _ _ _ _ _ _ _ h => h.elim
structure Qg (K : PySem.W.Frag) (x qual : Str) (st : Stmt) (f : Addr) (fd : FuncData) : Prop where
 ex : ∃ (oc : Value) (od : Option Addr) (kV doc pm : Value) (an : Option Addr) (df ct : Value) (wQ : Array (Option Value)),
  fd = PySem.W.fnOf x qual (iJ st) (gU st) (aq st) .none kV doc pm an df ct /\ K.lookup f = some ⟨oc, od, .func fd, wQ⟩ /\ PySem.W.codeIn K df qual = true
 kp : PySem.W.keepIn K (.ref f) = true
section
variable {P : Program} {w : World} {K : PySem.W.Frag} {mg : Str -> Option Value} {base : Heap}
end
theorem jG {A : Around} {k : Nat} (hr : cf k A) : A.units + 1 < cLine := Nat.lt_of_le_of_lt (Nat.add_le_add_left (by decide : 1 <= 64) _) hr.units
section
variable {X : Cx}
theorem pv (i : Nat) {x : Str} {pos : Pos} (hN : X.N[i]? = some x := by rfl) (hv : Gk X.env.scope x := by first | exact Or.inl rfl | exact Or.inr (Or.inl rfl) | exact Or.inr (Or.inr rfl)) (hd : (x == ("__debug__" : Str)) = false := by decide)
 (uE : (x == ("__classdict__" : Str)) = false := by decide) : PE X (.Name x pos) (BI i) := Dg hN hv hd uE
end
theorem JQ {A B : Prop} (h : B) : if false = true then A else B := by
 rw [if_neg Bool.false_ne_true]
 exact h
theorem HB {A B : Prop} (h : A) : if true = true then A else B := by
 rw [if_pos rfl]
 exact h
def ah (H H' : Hp) : Prop := ∀ b o, H b = some o -> H' b = some o
theorem ah.refl (H : Hp) : ah H H := fun _ _ h => h
theorem ah.trans {H H1 H2 : Hp} (a : ah H H1) (b : ah H1 H2) : ah H H2 := fun c o h => b c o (a c o h)
theorem ah.seq {K : PySem.W.Frag} {H H' : Hp} {a : Addr} {xs : List V} (e : ah H H') (h : bF K H a xs) : bF K H' a xs := by
 rcases h with (h | ⟨o, h⟩) | h
 . exact .inl (.inl (e _ _ h))
 . exact .inl (.inr ⟨o, e _ _ h⟩)
 . exact .inr h
section
variable {κ : Type} [DecidableEq κ]
end
section
variable {X : Cx}
def rP (i j : Int) : Prop := i.natAbs < 2 ^ 2000 /\ j.natAbs < 2 ^ 2000
theorem rP.ok {i j : Int} (h : rP i j) : IntMulOk i j := by
 have h1 : Builtin.Int.intBits i <= 2000 := PyProof.Rows.intBits_le h.1
 have h2 : Builtin.Int.intBits j <= 2000 := PyProof.Rows.intBits_le h.2
 have h3 : Builtin.Int.intTooBig ((Builtin.Int.intBits i + Builtin.Int.intBits j : Nat) : Int) = false := by
  unfold Builtin.Int.intTooBig
  have : (bitsLine : Nat) = 134217728 := rfl
  refine decide_eq_false ?_
  omega
 unfold IntMulOk
 have h4 : Builtin.Int.intTooBig (Builtin.Int.intBits i + Builtin.Int.intBits j) = false := by
  have e : ((Builtin.Int.intBits i : Int) + (Builtin.Int.intBits j : Int)) = ((Builtin.Int.intBits i + Builtin.Int.intBits j : Nat) : Int) := by omega
  rw [e]; exact h3
 rw [h4]
 simp
theorem cg : iE X (binaryOp .Mult) (rI rP fun i j => .int (i * j)) := Hi fun _ _ _ _ _ _ _ hc q => mul_int q hc.ok
def Ae (_ j : Int) : Prop := 0 < j /\ j.natAbs < 2 ^ 2000
theorem aF : iE X (binaryOp .FloorDiv) (rI Ae fun i j => .int (i / j)) := Hi fun i j _ _ _ _ _ hc q => by
 have e : i.fdiv j = i / j := Int.fdiv_eq_ediv_of_nonneg _ (Int.le_of_lt hc.1)
 have hl : j.natAbs.log2 < 9000 := by
  have h0 : j.natAbs ≠ 0 := by have := hc.1; omega
  have h2 : j.natAbs.log2 < 2000 := (Nat.log2_lt h0).mpr hc.2
  omega
 refine floordiv_int (by have := hc.1; omega) ?_ (.inl (PyProof.noPylong_of_log2 hl))
 rw [e]; exact q
inductive Cb : V -> Value -> Prop where
 | ty (n : String) : Cb (.ty n) (.type n)
 | ref (C : Addr) : Cb (.ref C) (.ref C)
def qw (K : PySem.W.Frag) : List V -> Hp -> VK -> Prop := fun xs H Q => ∃ x c cv t b, xs = [x, c] /\ Cb c cv /\ iS K H x t /\ PySem.W.kitOne K t cv = some b /\ Q (.bl b) H
theorem gk : dH X (.builtin "isinstance") (qw X.K) := by
 intro pins s σ H xs us Q I r h
 obtain ⟨x, c, cv, t, b, rfl, hc, ty, e, q⟩ := h
 obtain ⟨u, w', rfl, r1, r2⟩ := vals2 r
 have ew : w' = cv := by cases hc <;> exact r2
 subst ew
 exact tE I r1 ty e fun tk => ⟨.bl b, H, I.tok tk, rfl, q⟩
structure K9 (K : PySem.W.Frag) (C : Addr) (m : Str) (f : Addr) : Prop where
 ga : PySem.W.specialIn K (.ref C) "__getattribute__" = some (some (.builtin "type.__getattribute__"))
 rd : PySem.W.readsIn K C (.type "type") = true
 fd : PySem.W.findCls K (.ref C) (.type "type") m = some (.val (.ref f))
 kp : PySem.W.keepIn K (.ref f) = true
end
mutual
inductive gB (K : PySem.W.Frag) (H : Hp) : V -> PyData -> Prop where
 | bz : gB K H .bz .none
 | bl (b : Bool) : gB K H (.bl b) (.bool b)
 | int (i : Int) : gB K H (.int i) (.int i)
 | str (x : Str) : gB K H (.str x) (.str x)
 | tup {a : Addr} {xs : List V} {ds : List PyData} (h : oj K H a xs) (r : c0 K H xs ds) : gB K H (.ref a) (.tuple ds)
 | lst {a : Addr} {xs : List V} {ds : List PyData} (h : bF K H a xs) (r : c0 K H xs ds) : gB K H (.ref a) (.list ds)
inductive c0 (K : PySem.W.Frag) (H : Hp) : List V -> List PyData -> Prop where
 | nil : c0 K H [] []
 | cons {x : V} {d : PyData} {xs : List V} {ds : List PyData} (h : gB K H x d) (r : c0 K H xs ds) : c0 K H (x :: xs) (d :: ds)
end
theorem oj.keeps {K : PySem.W.Frag} {H H' : Hp} {a : Addr} {xs : List V} (e : ah H H') (h : oj K H a xs) : oj K H' a xs := by
 rcases h with (h | ⟨o, h⟩) | h
 . exact .inl (.inl (e _ _ h))
 . exact .inl (.inr ⟨o, e _ _ h⟩)
 . exact .inr h
mutual
theorem gB.keeps {K : PySem.W.Frag} {H H' : Hp} (e : ah H H') : ∀ {v : V} {d : PyData}, gB K H v d -> gB K H' v d
 | _, _, .bz => .bz
 | _, _, .bl b => .bl b
 | _, _, .int i => .int i
 | _, _, .str x => .str x
 | _, _, .tup h r => .tup (oj.keeps e h) (c0.keeps e r)
 | _, _, .lst h r => .lst (ah.seq e h) (c0.keeps e r)
theorem c0.keeps {K : PySem.W.Frag} {H H' : Hp} (e : ah H H') : ∀ {vs : List V} {ds : List PyData}, c0 K H vs ds -> c0 K H' vs ds
 | _, _, .nil => .nil
 | _, _, .cons h r => .cons (gB.keeps e h) (c0.keeps e r)
end
section
variable {X : Cx} {pins : List (Addr × Obj)} {σ : St} {H : Hp} {s : Shared}
mutual
theorem gB.reads (I : Inv X pins σ H s) : ∀ {v : V} {d : PyData} {u : Value}, gB X.K H v d -> RelV v u -> ∃ as, Reads s.heap u d as
 | _, _, _, .bz, r => by cases r; exact ⟨_, .none⟩
 | _, _, _, .bl b, r => by cases r; exact ⟨_, .bool b⟩
 | _, _, _, .int i, r => by obtain ⟨t, rfl⟩ := r; exact ⟨_, .int i t⟩
 | _, _, _, .str x, r => by obtain ⟨t, rfl⟩ := r; exact ⟨_, .str x t⟩
 | _, _, _, .tup h q, r => by
   cases r
   obtain ⟨aD, rv, ⟨o, h1, h2, n, h3⟩, _⟩ := I.tuple h
   obtain ⟨as, ra⟩ := c0.reads I q rv
   exact ⟨_, .tuple h1 h2 h3 (by simpa using ra)⟩
 | _, _, _, .lst h q, r => by
   cases r
   obtain ⟨aD, rv, ⟨o, n, h1, h2, _, h3⟩, _⟩ := I.list h
   obtain ⟨as, ra⟩ := c0.reads I q rv
   exact ⟨_, .list h1 h2 h3 (by simpa using ra)⟩
theorem c0.reads (I : Inv X pins σ H s) : ∀ {vs : List V} {ds : List PyData} {us : List Value}, c0 X.K H vs ds -> Vals vs us -> ∃ as, ReadsAll s.heap us ds as
 | _, _, _, .nil, r => by cases r; exact ⟨_, .nil⟩
 | _, _, _, .cons h q, r => by
   cases r with
   | cons r1 r2 =>
     obtain ⟨as, ra⟩ := gB.reads I h r1
     obtain ⟨bs, rb⟩ := c0.reads I q r2
     exact ⟨_, .cons ra rb⟩
end
end
section
variable {X : Cx}
def FA (K : PySem.W.Frag) (f : Bool -> Bool) : R2 := fun x y H Q => ∃ d e, gB K H x d /\ gB K H y e /\ d.canLay0 = true /\ e.canLay0 = true /\ d.depth <= 8 /\ Q (.bl (f (PyData.eqv d e))) H
theorem B4 (hu : X.A.units + 8 < cLine) : iE X (compareOp .Eq) (FA X.K id) := by
 intro pins s σ H x y v u Q I rx ry h
 obtain ⟨d, e, hd, he, c1, c2, hn, q⟩ := h
 obtain ⟨as, ra⟩ := hd.reads I rx
 obtain ⟨bs, rb⟩ := he.reads I ry
 exact SeqAt.compareEq_reads ra rb c1 c2 (by have := Nat.min_le_left d.depth e.depth; omega) ⟨.bl _, H, I, rfl, q⟩
theorem Dt (hu : X.A.units + 8 < cLine) : iE X (compareOp .NotEq) (FA X.K not) := by
 intro pins s σ H x y v u Q I rx ry h
 obtain ⟨d, e, hd, he, c1, c2, hn, q⟩ := h
 obtain ⟨as, ra⟩ := hd.reads I rx
 obtain ⟨bs, rb⟩ := he.reads I ry
 exact SeqAt.compareNe_reads ra rb c1 c2 (by have := Nat.min_le_left d.depth e.depth; omega) ⟨.bl _, H, I, rfl, q⟩
end
structure lg (P : Program) (w : World) (K : PySem.W.Frag) (mg : Str -> Option Value) (base : Heap) (k : Nat) (f : Addr) (ps : List Str) (iB : List V) (sp : Sp) : Prop where
 ex : ∃ (fd : FuncData) (ds : List Value), bQ P w K mg base iV k f fd ps sp /\ Binds K fd ps ds /\ Vals iB ds
section
variable {X : Cx} {k : Nat} {f C : Addr} {ps : List Str} {sp : Sp} {iB : List V} {x m : Str} {p pos apos : Pos} {e o : Expr} {es : List Expr} {ta : TE} {t : TA}
theorem zL (c : lg X.prog X.w X.K X.mg X.base k f ps iB sp) (hr : cf k X.A) (hg : Gl X x) (hm : X.mg x = some (.ref f)) (hk : PySem.W.keepIn X.K (.ref f) = true)
 (ha : PA X (e :: es) t) (yE : (x == ("__debug__" : Str)) = false := by decide) (he : starEach (e :: es) X.env = (false, eval e X.env) :: starEach es X.env := by rfl) (mB : (backTo pos (starEach es X.env)).any (·.1) = false := by rfl) :
 PE X (.Call (.Name x p) (e :: es) [] pos) (rE sp iB E0 t) := by
 obtain ⟨fd, ds, F, hb, hd⟩ := c.ex
 exact zJ F hr hg hm hk hb hd FZ ha yE he mB
end
structure cL (K : PySem.W.Frag) (x qual : Str) (st : Stmt) (f : Addr) (dV : Value) (fd : FuncData) : Prop where
 ex : ∃ (oc : Value) (od : Option Addr) (kV doc pm : Value) (an : Option Addr) (df ct : Value) (wQ : Array (Option Value)),
  fd = PySem.W.fnOf x qual (iJ st) (gU st) (aq st) dV kV doc pm an df ct /\ K.lookup f = some ⟨oc, od, .func fd, wQ⟩ /\ PySem.W.codeIn K df qual = true
theorem x6 {K : PySem.W.Frag} {x qual : Str} {st : Stmt} {f : Addr} {oc : Value} {od an : Option Addr} {wQ : Array (Option Value)} {dV kV doc pm df ct : Value} (l : K.lookup f = some ⟨oc, od, .func (PySem.W.fnOf x qual (iJ st) (gU st) (aq st) dV kV doc pm an df ct), wQ⟩)
 (c : PySem.W.codeIn K df qual = true) : cL K x qual st f dV (PySem.W.fnOf x qual (iJ st) (gU st) (aq st) dV kV doc pm an df ct) := ⟨⟨oc, od, kV, doc, pm, an, df, ct, wQ, rfl, l, c⟩⟩
section
variable {P : Program} {w : World} {K : PySem.W.Frag} {mg : Str -> Option Value} {base : Heap}
theorem cL.ok {x qual : Str} {st : Stmt} {f : Addr} {dV : Value} {fd : FuncData} {N ps : List Str} {k : Nat} {sp : Sp} (F : cL K x qual st f dV fd) (S : aR N ps (aq st)) (len : ∀ vs H Q E, sp vs H Q E -> vs.length = ps.length)
 (mH : ∀ (df : Value) (A : Around) (outer : List Env) (s : Shared) (H : Hp) (vs : List V) (Q : VK) (E : XK), cf k (A.deeper (envOfC qual (aq st) s.heap.objs.size f df)) -> sp vs H Q E ->
  ∃ t, pP (tV iV P w K mg base N qual (aq st) f df A outer s H E).G1 (gU st) t /\ t { nx := fun _ H' => Q .bz H', rt := Q } (start N vs) H) : bQ P w K mg base iV (k + 1) f fd ps sp := by
 obtain ⟨oc, od, kV, doc, pm, an, df, ct, wQ, rfl, lk, uE⟩ := F.ex
 refine Gg lk uE S len fun A outer s H vs Q E hr xS => ?_
 obtain ⟨t, h, q⟩ := mH df A outer s H vs Q E hr xS
 exact ⟨t, h.G1, q⟩
theorem cL.binds {x qual : Str} {st : Stmt} {f : Addr} {dV : Value} {fd : FuncData} {ps : List Str} {ds : List Value} (F : cL K x qual st f dV fd)
 (h : ∀ (kV doc pm : Value) (an : Option Addr) (df ct : Value), Binds K (PySem.W.fnOf x qual (iJ st) (gU st) (aq st) dV kV doc pm an df ct) ps ds) : Binds K fd ps ds := by
 obtain ⟨oc, od, kV, doc, pm, an, df, ct, wQ, rfl, lk, uE⟩ := F.ex
 exact h kV doc pm an df ct
end
structure Pb (K : PySem.W.Frag) (T : Addr) (items : Array Value) : Prop where
 ex : ∃ (o : Obj) (n : Nat), K.lookup T = some o /\ o.data = .seq items n
structure Gs (K : PySem.W.Frag) (C : Addr) : Prop where
 ha : PySem.W.findIn K (.ref C) "__class__" = some (some (.builtin "object.__class__"))
 hn : PySem.W.specialIn K (.builtin "object.__class__") "__get__" = some (some (.builtin "getset_descriptor.__get__"))
 ht : PySem.W.takesIn K (.builtin "object.__class__") = some true
 hm : PySem.W.mroIn K C (.type "object") = some true
section
variable {σ : St} {H : Hp} {Q : VK} {D : Ends} {K : PySem.W.Frag}
theorem A5 (h : D.nx σ H) : Ab D σ H := h
theorem FG {te : TE} (h : te σ H D.rt) : EK te D σ H := h
theorem Dh {te : TE} (h : te σ H fun _ H1 => D.nx σ H1) : AY te D σ H := h
theorem Et {c : TT} {t u : TS} (h : c σ H fun b H1 => if b = true then t D σ H1 else u D σ H1) : GA c t u D σ H := h
theorem Fe {te : TE} {i : Nat} (h : te σ H fun x H1 => D.nx (σ.set i (some x)) H1) : tF te (cO i) D σ H := h
theorem An {i : Nat} {v : V} (e : σ[i]? = some (some v)) (h : Q v H) : BI i σ H Q := ⟨v, e, h⟩
theorem M6 {v : V} (h : Q v H) : tC v σ H Q := h
theorem HX {r : R2} {ta tb : TE} (h : ta σ H fun x H1 => tb σ H1 fun y H2 => r x y H2 Q) : FY r ta tb σ H Q := h
theorem HP {g : Int -> Int -> V} {i j : Int} (h : Q (g i j) H) : y8 g (.int i) (.int j) H Q := ⟨i, j, rfl, rfl, h⟩
theorem OW {C : Int -> Int -> Prop} {g : Int -> Int -> V} {i j : Int} (c : C i j) (h : Q (g i j) H) : rI C g (.int i) (.int j) H Q := ⟨i, j, rfl, rfl, c, h⟩
theorem BJ {t : TE} {Q : Bool -> Hp -> Prop} (h : t σ H fun x H' => ∃ k, x = .bl k /\ Q k H') : xo t σ H Q := h
theorem Gi {t u : TT} {Q : Bool -> Hp -> Prop} (h : t σ H fun c H1 => if c = true then u σ H1 Q else Q false H1) : EG t u σ H Q := h
theorem Kp {t u : TT} {Q : Bool -> Hp -> Prop} (h : t σ H fun c H1 => if c = true then Q true H1 else u σ H1 Q) : KJ t u σ H Q := h
theorem EH {t : TT} {Q : Bool -> Hp -> Prop} (h : t σ H fun c H1 => Q (!c) H1) : Ge t σ H Q := h
theorem BV {ta tb : TE} (h : ta σ H fun x H1 => ∃ c, x = .bl c /\ if c = true then tb σ H1 Q else Q (.bl false) H1) : Al ta tb σ H Q := h
theorem Ff {ta tb : TE} (h : ta σ H fun x H1 => ∃ c, x = .bl c /\ if c = true then Q (.bl true) H1 else tb σ H1 Q) : E2 ta tb σ H Q := h
theorem B2 {ta : TE} (h : ta σ H fun x H1 => ∃ c, x = .bl c /\ Q (.bl (!c)) H1) : Ag ta σ H Q := h
theorem HL {b : Bool} {R : Bool -> Prop} (h : R b) : ∃ k, V.bl b = .bl k /\ R k := ⟨b, rfl, h⟩
theorem EL {Q : List V -> Hp -> Prop} (h : Q [] H) : Ck σ H Q := h
theorem BK {ta : TE} {tr : TA} {Q : List V -> Hp -> Prop} (h : ta σ H fun x H1 => tr σ H1 fun xs H2 => Q (x :: xs) H2) : vj ta tr σ H Q := h
theorem Io {r : List V -> Hp -> VK -> Prop} {t : TA} (h : t σ H fun vs H1 => r vs H1 Q) : I9 r t σ H Q := h
theorem wc {A B : Prop} (h : A) : if true = true then A else B := by rw [if_pos rfl]; exact h
theorem tP {A B : Prop} (h : B) : if false = true then A else B := by rw [if_neg Bool.false_ne_true]; exact h
end
section
variable {X : Cx} {e : Expr} {es : List Expr}
theorem PE.weak {t u : TE} (h1 : PE X e t) (h : ∀ σ H Q, u σ H Q -> t σ H Q) : PE X e u := fun pins s σ H Q I q => h1 pins s σ H Q I (h σ H Q q)
def mA (t : TA) : TA := fun σ H Q => ∃ Q' : List V -> Hp -> Prop, t σ H Q' /\ ∀ v H', Q' v H' -> Q v H'
theorem PA.m {t : TA} (h : PA X es t) : PA X es (mA t) := fun pos pins s σ H Q I ⟨Q', q, m⟩ => bO (h pos pins s σ H Q' I q) fun _ _ ⟨v, H', I', r, z⟩ => ⟨v, H', I', r, m v H' z⟩
end
def JZ : Key -> PyData
 | .inl i => .int i
 | .inr x => .str x
mutual
inductive Dv (H : Hp) : V -> PyData -> Prop where
 | bz : Dv H .bz .none
 | bl (b : Bool) : Dv H (.bl b) (.bool b)
 | int (i : Int) : Dv H (.int i) (.int i)
 | str (x : Str) : Dv H (.str x) (.str x)
 | tup {a : Addr} {xs : List V} {ds : List PyData} (h : H a = some (.tup xs)) (r : bb H xs ds) : Dv H (.ref a) (.tuple ds)
 | lst {a : Addr} {xs : List V} {ds : List PyData} (h : Rd H a (.lst xs)) (r : bb H xs ds) : Dv H (.ref a) (.list ds)
 | dct {a : Addr} {kvs : List (Key × V)} {ds : List (PyData × PyData)} (h : H a = some (.dK kvs)) (r : xO H kvs ds) : Dv H (.ref a) (.dict ds)
inductive xO (H : Hp) : List (Key × V) -> List (PyData × PyData) -> Prop where
 | nil : xO H [] []
 | cons {k : Key} {x : V} {d : PyData} {xs : List (Key × V)} {ds : List (PyData × PyData)} (h : Dv H x d) (r : xO H xs ds) : xO H ((k, x) :: xs) ((JZ k, d) :: ds)
inductive bb (H : Hp) : List V -> List PyData -> Prop where
 | nil : bb H [] []
 | cons {x : V} {d : PyData} {xs : List V} {ds : List PyData} (h : Dv H x d) (r : bb H xs ds) : bb H (x :: xs) (d :: ds)
end
mutual
theorem Dv.has {K : PySem.W.Frag} {H : Hp} : ∀ {v : V} {d : PyData}, Dv H v d -> d.canLay0 = true -> gB K H v d
 | _, _, .bz, _ => .bz
 | _, _, .bl b, _ => .bl b
 | _, _, .int i, _ => .int i
 | _, _, .str x, _ => .str x
 | _, _, .tup h r, c => .tup (.of h) (bb.has r (by simpa [PyData.canLay0] using c))
 | _, _, .lst h r, c => .lst (.inl h) (bb.has r (by simpa [PyData.canLay0] using c))
 | _, _, .dct h r, c => by simp [PyData.canLay0] at c
theorem bb.has {K : PySem.W.Frag} {H : Hp} : ∀ {v : List V} {d : List PyData}, bb H v d -> PyData.canLayAll0 d = true -> c0 K H v d
 | _, _, .nil, _ => .nil
 | _, _, .cons h r, c => by
   have c' := c
   simp only [PyData.canLayAll0, Bool.and_eq_true] at c'
   exact .cons (Dv.has h c'.1) (bb.has r c'.2)
end
theorem ah.rd {H H' : Hp} {a : Addr} {u : HO} (e : ah H H') (h : Rd H a u) : Rd H' a u := by
 rcases h with h | ⟨o, h⟩
 . exact .inl (e _ _ h)
 . exact .inr ⟨o, e _ _ h⟩
mutual
theorem Dv.keeps {H H' : Hp} (e : ah H H') : ∀ {v : V} {d : PyData}, Dv H v d -> Dv H' v d
 | _, _, .bz => .bz
 | _, _, .bl b => .bl b
 | _, _, .int i => .int i
 | _, _, .str x => .str x
 | _, _, .tup h r => .tup (e _ _ h) (bb.keeps e r)
 | _, _, .lst h r => .lst (e.rd h) (bb.keeps e r)
 | _, _, .dct h r => .dct (e _ _ h) (xO.keeps e r)
theorem xO.keeps {H H' : Hp} (e : ah H H') : ∀ {v : List (Key × V)} {d : List (PyData × PyData)}, xO H v d -> xO H' v d
 | _, _, .nil => .nil
 | _, _, .cons h r => .cons (Dv.keeps e h) (xO.keeps e r)
theorem bb.keeps {H H' : Hp} (e : ah H H') : ∀ {v : List V} {d : List PyData}, bb H v d -> bb H' v d
 | _, _, .nil => .nil
 | _, _, .cons h r => .cons (Dv.keeps e h) (bb.keeps e r)
end
theorem bb.length {H : Hp} : ∀ {xs : List V} {ds : List PyData}, bb H xs ds -> xs.length = ds.length
 | _, _, .nil => rfl
 | _, _, .cons _ r => by simp [bb.length r]
theorem bb.get {H : Hp} : ∀ {xs : List V} {ds : List PyData} {i : Nat} {d : PyData}, bb H xs ds -> ds[i]? = some d -> ∃ x, xs[i]? = some x /\ Dv H x d
 | _, _, _, _, .nil, e => by simp at e
 | _, _, 0, _, .cons h _, e => by simp at e; subst e; exact ⟨_, rfl, h⟩
 | _, _, i + 1, x, .cons _ r, e => by
   obtain ⟨d, h1, h2⟩ := bb.get (i := i) (d := x) r (by simpa using e)
   exact ⟨d, by simpa using h1, h2⟩
theorem bb.append {H : Hp} : ∀ {xs ys : List V} {ds es : List PyData}, bb H xs ds -> bb H ys es -> bb H (xs ++ ys) (ds ++ es)
 | _, _, _, _, .nil, s => s
 | _, _, _, _, .cons r t, s => .cons r (bb.append t s)
theorem bb.ints {H : Hp} : ∀ (ns : List Int), bb H (ns.map V.int) (ns.map PyData.int)
 | [] => .nil
 | n :: ns => .cons (.int n) (bb.ints ns)
theorem Dv.int_inv {H : Hp} {v : V} {i : Int} (h : Dv H v (.int i)) : v = .int i := by cases h; rfl
theorem Dv.zm {H : Hp} {v : V} (h : Dv H v .none) : v = .bz := by cases h; rfl
theorem Dv.str_inv {H : Hp} {v : V} {i : Str} (h : Dv H v (.str i)) : v = .str i := by cases h; rfl
def oH (H : Hp) (d : PyData) (Q : VK) : Prop := match d with
 | .none => Q .bz H
 | .bool b => Q (.bl b) H
 | .int i => Q (.int i) H
 | .str x => Q (.str x) H
 | d => ∀ v, Dv H v d -> Q v H
theorem oH.use {H : Hp} {d : PyData} {Q : VK} (g : oH H d Q) {v : V} (h : Dv H v d) : Q v H := by
 cases h with
 | bz => exact g
 | bl b => exact g
 | int i => exact g
 | str x => exact g
 | tup h r => exact g _ (.tup h r)
 | lst h r => exact g _ (.lst h r)
 | dct h r => exact g _ (.dct h r)
theorem r6 {H : Hp} {xs : List V} {ds : List PyData} {i : Int} {d : PyData} (r : bb H xs ds) (h : nr ds i = some d) : ∃ x, nr xs i = some x /\ Dv H x d := by
 unfold nr at h ⊢
 rw [r.length]
 cases e : wH ds.length i with
 | none => rw [e] at h; simp at h
 | some j =>
   rw [e] at h
   have h' : ds[j]? = some d := by simpa using h
   obtain ⟨x, h1, h2⟩ := r.get h'
   exact ⟨x, by simpa using h1, h2⟩
def mJ (H : Hp) (v : V) (ds : List PyData) : Prop := Dv H v (.tuple ds) \/ Dv H v (.list ds)
def GI : R2 := fun x y H Q => ∃ ds i d, y = .int i /\ mJ H x ds /\ nr ds i = some d /\ oH H d Q
theorem yi {K : PySem.W.Frag} {x y : V} {H : Hp} {Q : VK} (h : GI x y H Q) : KO K x y H Q := by
 obtain ⟨ds, i, d, rfl, hs, hi, g⟩ := h
 rcases hs with hs | hs
 . cases hs with
   | tup h r =>
     obtain ⟨v, h1, h2⟩ := r6 r hi
     exact .inr (.inl ⟨_, _, i, v, rfl, rfl, .of h, h1, g.use h2⟩)
 . cases hs with
   | lst h r =>
     obtain ⟨v, h1, h2⟩ := r6 r hi
     exact .inl ⟨_, _, i, v, rfl, rfl, .inl h, h1, g.use h2⟩
section
variable {X : Cx}
def Bj : R2 := fun x y H Q => GI x y H Q \/ Be x y H Q
theorem HK : uA X Bj := fun value slice pins s σ H x y v u Q I r1 r2 h => CL value slice pins s σ H x y v u Q I r1 r2 (h.elim yi fun z => .inr (.inr z))
def xu : List V -> Hp -> VK -> Prop := fun xs H Q => (∃ v ds, xs = [v] /\ mJ H v ds /\ Q (.int (ds.length : Nat)) H) \/ ∃ z, xs = [.str z] /\ z.length <= sizeLine /\ Q (.int (z.length : Nat)) H
theorem ui : dH X (.builtin "len") xu := fun pins s σ H xs us Q I r h => by
 rcases h with ⟨v, ds, rfl, hs, q⟩ | h
 . rcases hs with hs | hs
   . cases hs with
     | tup h t => exact eY pins s σ H _ us Q I r ⟨_, _, rfl, .inr (.of h), by rw [t.length]; exact q⟩
   . cases hs with
     | lst h t => exact eY pins s σ H _ us Q I r ⟨_, _, rfl, .inl (.inl h), by rw [t.length]; exact q⟩
 . exact nY pins s σ H _ us Q I r h
def GY : PyData -> String
 | .none => "NoneType" | .bool _ => "bool" | .int _ => "int" | .str _ => "str" | .list _ => "list" | .tuple _ => "tuple" | .dict _ => "dict"
def uG (t n : String) : Option Bool := if ((Value.type t) == (Value.type n)) = true then some true else if PySem.W.kitMeta n = true then (PySem.fastBuiltinMro t).map (·.contains (.type n)) else none
theorem wJ {K : PySem.W.Frag} {t n : String} {b : Bool} (h : uG t n = some b) : PySem.W.kitOne K (.type t) (.type n) = some b := h
def CD (t n : String) : Bool := t == n || (t == "bool" && n == "int")
theorem tX : (["NoneType", "bool", "int", "str", "list", "tuple", "dict"].all fun t => ["int", "bool", "str", "list", "tuple", "dict"].all fun n => uG t n == some (CD t n)) = true := by decide +kernel
theorem v7 {t n : String} (ht : t ∈ ["NoneType", "bool", "int", "str", "list", "tuple", "dict"]) (hn : n ∈ ["int", "bool", "str", "list", "tuple", "dict"]) : uG t n = some (CD t n) := by
 have h := List.all_eq_true.mp (List.all_eq_true.mp tX t ht) n hn
 exact beq_iff_eq.mp h
theorem zE (d : PyData) : GY d ∈ ["NoneType", "bool", "int", "str", "list", "tuple", "dict"] := by
 cases d <;> simp [GY]
theorem Dv.ty {K : PySem.W.Frag} {H : Hp} {v : V} {d : PyData} (h : Dv H v d) : iS K H v (.type (GY d)) := by
 cases h with
 | bz => exact .bz
 | bl b => exact .bl b
 | int i => exact .int i
 | str x => exact .str x
 | tup h r => exact .tup h
 | lst h r =>
   rcases h with h | ⟨o, h⟩
   . exact .lst h
   . exact .rg h
 | dct h r => exact .dK h
theorem ku {K : PySem.W.Frag} {H : Hp} {v : V} {d : PyData} {n : String} {Q : VK} (h : Dv H v d) (hn : n ∈ ["int", "bool", "str", "list", "tuple", "dict"]) (q : Q (.bl (CD (GY d) n)) H) : qw K [v, .ty n] H Q :=
 ⟨v, .ty n, .type n, _, _, rfl, .ty n, h.ty, wJ (v7 (zE d) hn), q⟩
def pW (K : PySem.W.Frag) (f : Bool -> Bool) : R2 := fun x y H Q => (zh x y = true /\ Q (.bl (f (decide (x = y)))) H) \/ ∃ d e, Dv H x d /\ Dv H y e /\ d.canLay0 = true /\ e.canLay0 = true /\ d.depth <= 8 /\ Q (.bl (f (PyData.eqv d e))) H
theorem km (hu : X.A.units + 8 < cLine) : iE X (compareOp .Eq) (pW X.K id) := fun pins s σ H x y v u Q I rx ry h => by
 rcases h with h | ⟨d, e, h1, h2, h3, h4, h5, h6⟩
 . exact F6 pins s σ H x y v u Q I rx ry h
 . exact B4 hu pins s σ H x y v u Q I rx ry ⟨d, e, h1.has h3, h2.has h4, h3, h4, h5, h6⟩
theorem n6 (hu : X.A.units + 8 < cLine) : iE X (compareOp .NotEq) (pW X.K not) := fun pins s σ H x y v u Q I rx ry h => by
 rcases h with h | ⟨d, e, h1, h2, h3, h4, h5, h6⟩
 . exact GQ pins s σ H x y v u Q I rx ry h
 . exact Dt hu pins s σ H x y v u Q I rx ry ⟨d, e, h1.has h3, h2.has h4, h3, h4, h5, h6⟩
variable {es : List Expr} {t : TA} {pos : Pos}
def tT (xs : List V) (H1 : Hp) (Q : VK) : Prop := xs.length <= sizeLine /\ ∃ ds, bb H1 xs ds /\ ∀ p H2, ah H1 H2 -> H1 p = none -> H2 p = some (.tup xs) -> Dv H2 (.ref p) (.tuple ds) -> Q (.ref p) H2
def vA (xs : List V) (H1 : Hp) (Q : VK) : Prop := xs.length <= sizeLine /\ ∃ ds, bb H1 xs ds /\ ∀ p H2, ah H1 H2 -> H1 p = none -> H2 p = some (.lst xs) -> bb H2 xs ds -> Dv H2 (.ref p) (.list ds) -> Q (.ref p) H2
def Az (t : TA) : TE := fun σ H Q => t σ H fun xs H1 => tT xs H1 Q
theorem du {x1} (h : PA X es t) : PE X (.Tuple es x1 pos) (Az t) := PE.weak (C1 h.m) fun σ H Q q => ⟨_, q, fun xs H1 ⟨hl, ds, hd, k⟩ => ⟨hl, fun p hp => by
 have sm : ah H1 (upd H1 p (.tup xs)) := fun b u e => by rw [aw (aH e hp)]; exact e
 exact k p _ sm hp aA (.tup aA (hd.keeps sm))⟩⟩
def AW (t : TA) : TE := fun σ H Q => t σ H fun xs H1 => vA xs H1 Q
theorem bR (h : PA X es t) : PE X (.List es pos) (AW t) := PE.weak (CA h.m) fun σ H Q q => ⟨_, q, fun xs H1 ⟨hl, ds, hd, k⟩ => ⟨hl, fun p hp => by
 have sm : ah H1 (upd H1 p (.lst xs)) := fun b u e => by rw [aw (aH e hp)]; exact e
 exact k p _ sm hp aA (hd.keeps sm) (.lst (.of aA) (hd.keeps sm))⟩⟩
variable {st : Stmt} {rest : List Stmt}
def Df (t u : TS) : TS := fun D σ H => ∃ R : St -> Hp -> Prop, t { D with nx := R } σ H /\ ∀ σ' H', R σ' H' -> u D σ' H'
theorem ag {t u : TS} (h1 : PS X st t) (h2 : pP X rest u) : pP X (st :: rest) (Df t u) := by
 intro pins s σ H D I ⟨R, h, k⟩
 refine wpAny_execs_cons (bO (h1 pins s σ H { D with nx := R } I h) fun f s1 q => ?_)
 cases f with
 | next =>
   obtain ⟨σ', H', I', q⟩ := q
   exact h2 pins s1 σ' H' D I' (k _ _ q)
 | ret v => exact q
 | brk => exact q
 | cont => exact q
end
section
variable {σ : St} {H : Hp} {Q : VK} {D : Ends} {K : PySem.W.Frag}
theorem Ca {t u : TS} (h : t { D with nx := u D } σ H) : Df t u D σ H := ⟨u D, h, fun _ _ z => z⟩
theorem Du {t : TA} (h : t σ H fun xs H1 => tT xs H1 Q) : Az t σ H Q := h
theorem By {xs : List V} {ds : List PyData} (hl : xs.length <= sizeLine) (hd : bb H xs ds) (k : ∀ v H2, ah H H2 -> Dv H2 v (.tuple ds) -> Q v H2) : tT xs H Q := ⟨hl, ds, hd, fun p H2 s _ _ d => k (.ref p) H2 s d⟩
theorem iz {xs : List V} {ds : List PyData} (hl : xs.length <= sizeLine) (hd : bb H xs ds) (k : ∀ p H2, ah H H2 -> H p = none -> H2 p = some (.tup xs) -> Q (.ref p) H2) : tT xs H Q := ⟨hl, ds, hd, fun p H2 s n e _ => k p H2 s n e⟩
theorem C6 {t : TA} (h : t σ H fun xs H1 => vA xs H1 Q) : AW t σ H Q := h
theorem Eo {f : Bool -> Bool} {x y : V} (e : zh x y = true) (h : Q (.bl (f (decide (x = y)))) H) : pW K f x y H Q := .inl ⟨e, h⟩
theorem sA {f : Bool -> Bool} {x y : V} {d e : PyData} (h1 : Dv H x d) (h2 : Dv H y e) (h3 : d.canLay0 = true) (h4 : e.canLay0 = true) (h5 : d.depth <= 8) (h : Q (.bl (f (PyData.eqv d e))) H) : pW K f x y H Q := .inr ⟨d, e, h1, h2, h3, h4, h5, h⟩
theorem Gj {x : V} {ds : List PyData} {i : Int} {d : PyData} (hs : mJ H x ds) (hi : nr ds i = some d) (g : oH H d Q) : Bj x (.int i) H Q := .inl ⟨ds, i, d, rfl, hs, hi, g⟩
theorem Cm {v : V} {ds : List PyData} (hs : mJ H v ds) (h : Q (.int (ds.length : Nat)) H) : xu [v] H Q := .inl ⟨v, ds, rfl, hs, h⟩
theorem nA {i : Int} (h : Q (.int i) H) : oH H (.int i) Q := h
theorem yu {i : Str} (h : Q (.str i) H) : oH H (.str i) Q := h
theorem Ey {b : Bool} {A B : Prop} (h1 : b = true -> A) (h2 : b = false -> B) : if b = true then A else B := by
 cases b
 . exact JQ (h2 rfl)
 . exact HB (h1 rfl)
end
theorem cf.xD {k : Nat} {A : Around} (r : cf k A) : A.units + 8 < cLine := Nat.lt_of_le_of_lt (by omega) r.units
theorem ah.at {H H' : Hp} {a : Addr} {o : HO} (s : ah H H') (h : H a = some o) : H' a = some o := s a o h
theorem aM {H : Hp} {t : Addr} {o : HO} (h : H t = none) : ah H (upd H t o) := fun b u e => by rw [aw (aH e h)]; exact e
section
variable {σ : St} {H : Hp} {Q : VK} {D : Ends} {K : PySem.W.Frag}
end
def isInt : PyData -> Bool | .int _ => true | .bool _ => true | _ => false
def isBool : PyData -> Bool | .bool _ => true | _ => false
def isStr : PyData -> Bool | .str _ => true | _ => false
def AK : PyData -> Bool | .list _ => true | _ => false
def isTup : PyData -> Bool | .tuple _ => true | _ => false
def zT : PyData -> Bool | .dict _ => true | _ => false
section
variable {K : PySem.W.Frag} {H : Hp} {v : V} {d : PyData} {Q : VK}
theorem tB (h : Dv H v d) (q : Q (.bl (isInt d)) H) : qw K [v, .ty "int"] H Q := ku h (by decide) (by cases d <;> exact q)
theorem qV (h : Dv H v d) (q : Q (.bl (isBool d)) H) : qw K [v, .ty "bool"] H Q := ku h (by decide) (by cases d <;> exact q)
theorem sW (h : Dv H v d) (q : Q (.bl (AK d)) H) : qw K [v, .ty "list"] H Q := ku h (by decide) (by cases d <;> exact q)
theorem tH (h : Dv H v d) (q : Q (.bl (isTup d)) H) : qw K [v, .ty "tuple"] H Q := ku h (by decide) (by cases d <;> exact q)
theorem tG (h : Dv H v d) (q : Q (.bl (zT d)) H) : qw K [v, .ty "dict"] H Q := ku h (by decide) (by cases d <;> exact q)
def M7 (H : Hp) (v : V) (C : Addr) (fs : List (Str × V)) : Prop := ∃ p dx, v = .ref p /\ H p = some (.ins C dx fs)
end
def look (f : Str) : List (Str × V) -> Option V
 | [] => none
 | (g, v) :: r => if f = g then some v else look f r
section
variable {X : Cx}
def lL (K : PySem.W.Frag) : R2 := fun x y H Q => Bj x y H Q \/ Dz K x y H Q
theorem eu : uA X (lL X.K) := fun value slice pins s σ H x y v u Q I r1 r2 h => h.elim (HK value slice pins s σ H x y v u Q I r1 r2) (sE value slice pins s σ H x y v u Q I r1 r2)
def pI (K : PySem.W.Frag) : List V -> Hp -> VK -> Prop := fun xs H Q => xu xs H Q \/ ∃ p ys, xs = [.ref p] /\ bF K H p ys /\ Q (.int ys.length) H
theorem cB : dH X (.builtin "len") (pI X.K) := fun pins s σ H xs us Q I r h => by
 rcases h with h | ⟨p, ys, e, hl, q⟩
 . exact ui pins s σ H xs us Q I r h
 . exact eY pins s σ H xs us Q I r ⟨p, ys, e, .inl hl, q⟩
end
section
variable {σ : St} {H : Hp} {Q : VK} {D : Ends} {K : PySem.W.Frag}
theorem rH {x : V} {ds : List PyData} {i : Int} {d : PyData} (hs : mJ H x ds) (hi : nr ds i = some d) (g : oH H d Q) : lL K x (.int i) H Q := .inl (Gj hs hi g)
theorem Ay {p : Addr} {xs : List V} {i : Int} {v : V} (hs : bF K H p xs) (hi : nr xs i = some v) (g : Q v H) : lL K (.ref p) (.int i) H Q := .inr ⟨p, xs, i, v, rfl, rfl, hs, hi, g⟩
theorem wR {v : V} {ds : List PyData} (hs : mJ H v ds) (h : Q (.int (ds.length : Nat)) H) : pI K [v] H Q := .inl (Cm hs h)
theorem Bg {p : Addr} {xs : List V} (hs : bF K H p xs) (h : Q (.int xs.length) H) : pI K [.ref p] H Q := .inr ⟨p, xs, rfl, hs, h⟩
theorem Jd {R : Prop} (h : R) : V.bz = V.bz /\ R := ⟨rfl, h⟩
end
theorem bg {i : Int} (h1 : -(10 ^ 200) < i) (h2 : i < 10 ^ 200) : i.natAbs < 2 ^ 2000 := by
 have : (10 : Nat) ^ 200 < 2 ^ 2000 := by decide +kernel
 have h3 : i.natAbs < 10 ^ 200 := by
  have e : ((10 : Nat) ^ 200 : Nat) = ((10 : Int) ^ 200).toNat := by decide +kernel
  rw [e]
  generalize (10 : Int) ^ 200 = m at h1 h2 ⊢
  omega
 exact Nat.lt_trans h3 this
theorem Gx {i j : Int} (h1 : -(10 ^ 200) < i /\ i < 10 ^ 200) (h2 : -(10 ^ 200) < j /\ j < 10 ^ 200) : rP i j := ⟨bg h1.1 h1.2, bg h2.1 h2.2⟩
theorem FO {i j : Int} (h1 : 0 < j) (h2 : j < 10 ^ 200) : Ae i j := ⟨h1, bg (Int.lt_trans (by decide) h1) h2⟩
def cell (ns : List Int) (k : Nat) : Int := ns.getD k 0
def pT (K : PySem.W.Frag) : Sp := fun vs H Q _ => ∃ l ns k, vs = [.ref l, .int k] /\ bF K H l (ns.map V.int) /\ 0 <= k /\ Q (.int (cell ns k.toNat)) H
theorem Bz {K : PySem.W.Frag} {H : Hp} {Q : VK} {E : XK} {l : Addr} {ns : List Int} {k : Int} (h : bF K H l (ns.map V.int)) (hk : 0 <= k) (q : Q (.int (cell ns k.toNat)) H) : pT K [.ref l, .int k] H Q E := ⟨l, ns, k, rfl, h, hk, q⟩
theorem yZ {ns : List Int} {k : Int} (h0 : 0 <= k) (h : k < (ns.map V.int).length) : nr (ns.map V.int) k = some (.int (cell ns k.toNat)) := by
 obtain ⟨n, rfl⟩ := Int.eq_ofNat_of_zero_le h0
 refine gY ?_
 have hn : n < ns.length := by simpa using h
 simp [cell, hn, List.getD_eq_getElem?_getD]
theorem yA {ns : List Int} {k : Int} (h0 : 0 <= k) (h : ¬ k < (ns.map V.int).length) : cell ns k.toNat = 0 := by
 have : ns.length <= k.toNat := by simp at h; omega
 simp [cell, List.getD_eq_getElem?_getD, this]
def rn (sp : Sp) (vs : List V) (H : Hp) (Q : VK) (E : XK) : Prop := ∃ ws, vs = ws /\ sp ws H Q E
theorem wu (sp : Sp) (vs : List V) (H : Hp) (Q : VK) (E : XK) : rn sp vs H Q E = sp vs H Q E := propext ⟨fun ⟨_, e, h⟩ => e ▸ h, fun h => ⟨vs, rfl, h⟩⟩
def nL (sp : Sp) (iB : List V) (E : XK) (t : TA) : TE := fun σ H Q => t σ H fun vs H1 => rn sp (vs ++ iB) H1 Q E
theorem sP (sp : Sp) (iB : List V) (E : XK) (t : TA) : nL sp iB E t = rE sp iB E t := by
 funext σ H Q; unfold nL rE; congr 1; funext vs H1; exact wu _ _ _ _ _
section
variable {X : Cx} {k : Nat} {f C : Addr} {ps : List Str} {sp : Sp} {iB : List V} {x m : Str} {p pos apos : Pos} {e o : Expr} {es : List Expr} {ta : TE} {t : TA}
theorem aC (c : lg X.prog X.w X.K X.mg X.base k f ps iB sp) (hr : cf k X.A) (hg : Gl X x) (hm : X.mg x = some (.ref f)) (hk : PySem.W.keepIn X.K (.ref f) = true)
 (ha : PA X (e :: es) t) (yE : (x == ("__debug__" : Str)) = false := by decide) (he : starEach (e :: es) X.env = (false, eval e X.env) :: starEach es X.env := by rfl) (mB : (backTo pos (starEach es X.env)).any (·.1) = false := by rfl) :
 PE X (.Call (.Name x p) (e :: es) [] pos) (nL sp iB E0 t) := by rw [sP]; exact zL c hr hg hm hk ha yE he mB
end
section
variable {σ : St} {H : Hp} {Q : VK} {D : Ends} {K : PySem.W.Frag}
theorem zI {sp : Sp} {iB : List V} {E : XK} {t : TA} (h : t σ H fun vs H1 => rn sp (vs ++ iB) H1 Q E) : nL sp iB E t σ H Q := h
theorem qj {sp : Sp} {vs ws : List V} {E : XK} (e : vs = ws) (h : sp ws H Q E) : rn sp vs H Q E := ⟨ws, e, h⟩
theorem CB {b : Bool} {R : Bool -> Prop} (h : R b) : ∃ k, DF K (.bl b) H k /\ R k := ⟨b, rfl, h⟩
end
theorem gu {n : Nat} (h : Nat.ble n 64 = true) : n <= sizeLine := Nat.le_trans (Nat.le_of_ble_eq_true h) (by decide)
section
variable {X : Cx} {st : Stmt} {rest : List Stmt}
def Ak (t u : TS) : TS := Df t u
theorem kN {t u : TS} (h1 : PS X st t) (h2 : pP X rest u) : pP X (st :: rest) (Ak t u) := ag h1 h2
end
section
variable {σ : St} {H : Hp} {Q : VK} {D : Ends} {K : PySem.W.Frag}
theorem q0 {t u : TS} (R : St -> Hp -> Prop) (h : t { D with nx := R } σ H) (k : ∀ σ' H', R σ' H' -> u D σ' H') : Ak t u D σ H := ⟨R, h, k⟩
theorem wD {xs : List V} {ds : List PyData} (hl : xs.length <= sizeLine) (hd : bb H xs ds) (k : ∀ p H2, ah H H2 -> H p = none -> H2 p = some (.lst xs) -> bb H2 xs ds -> Dv H2 (.ref p) (.list ds) -> Q (.ref p) H2) : vA xs H Q := ⟨hl, ds, hd, k⟩
def Cr (K : PySem.W.Frag) (x : V) (g : TG) (tb : TS) (D : Ends) (σ : St) (H1 : Hp) : Prop := ∃ a, x = .ref a /\ (∃ xs, bF K H1 a xs) /\ ∃ W : Nat -> Nat -> St -> Hp -> Prop, (∃ m, W 0 m σ H1) /\ ∀ i m σ H, W i m σ H ->
 ((xF K a).stop i H /\ D.nx σ H) \/ ((xF K a).go i H /\ ∃ N : St -> Hp -> Prop, (∀ σ' H', N σ' H' -> ∃ m', m' < m /\ W (i + 1) m' σ' H') /\ ∀ x H', (xF K a).yC i H x H' -> g x σ H' fun σ2 H2 => tb { D with nx := N, ct := N, bk := D.nx } σ2 H2)
theorem E7 {tl : TE} {g : TG} {tb : TS} (h : tl σ H fun x H1 => Cr K x g tb D σ H1) : xh (u5 K tl) g tb D σ H := h
theorem forL {a : Addr} {xs : List V} {g : TG} {tb : TS} (hl : bF K H a xs) (Pv : Nat -> St -> Hp -> Prop) (h0 : Pv 0 σ H) (hk : ∀ i σ H, i <= xs.length -> Pv i σ H -> bF K H a xs)
 (hs : ∀ i x σ H, xs[i]? = some x -> Pv i σ H -> g x σ H fun σ2 H2 => tb { D with nx := Pv (i + 1), ct := Pv (i + 1), bk := D.nx } σ2 H2) (hd : ∀ σ H, Pv xs.length σ H -> D.nx σ H) : Cr K (.ref a) g tb D σ H :=
 ⟨a, rfl, ⟨xs, hl⟩, xx Pv h0 hk hs hd⟩
def JD (lo : Int) (n : Nat) (g : TG) (tb : TS) (D : Ends) (σ : St) (H1 : Hp) : Prop := ∃ W : Nat -> Nat -> St -> Hp -> Prop, (∃ m, W 0 m σ H1) /\ ∀ i m σ H, W i m σ H ->
 ((yr lo n).stop i H /\ D.nx σ H) \/ ((yr lo n).go i H /\ ∃ N : St -> Hp -> Prop, (∀ σ' H', N σ' H' -> ∃ m', m' < m /\ W (i + 1) m' σ' H') /\ ∀ x H', (yr lo n).yC i H x H' -> g x σ H' fun σ2 H2 => tb { D with nx := N, ct := N, bk := D.nx } σ2 H2)
theorem yg {ta : TA} {g : TG} {tb : TS} (h : ta σ H fun vs H1 => ∃ j : Int, vs = [.int j] /\ -(2 ^ 62) <= j /\ j < 2 ^ 62 /\ JD 0 j.toNat g tb D σ H1) : xh (A1 ta) g tb D σ H := h
theorem Cz {j : Int} {R : Int -> Prop} (h1 : -(2 ^ 62) <= j) (h2 : j < 2 ^ 62) (h : R j) : ∃ i : Int, [V.int j] = [.int i] /\ -(2 ^ 62) <= i /\ i < 2 ^ 62 /\ R i := ⟨j, rfl, h1, h2, h⟩
end
section
variable {X : Cx}
def AA : List V -> Hp -> VK -> Prop := fun xs H Q => ∃ i j, xs = [.int i, .int j] /\ ∀ k, (k = i \/ k = j) -> k <= i -> k <= j -> Q (.int k) H
theorem me (hc : X.calm = true) : dH X (.builtin "min") AA := fun pins s σ H xs us Q I r ⟨i, j, e, h⟩ => tm hc pins s σ H xs us Q I r ⟨i, j, e, by
 split
 . exact h _ (.inr rfl) (by omega) (by omega)
 . exact h _ (.inl rfl) (by omega) (by omega)⟩
def AO : R2 := fun x y H Q => ∃ i j, x = .int i /\ y = .int j /\ 0 < j /\ (0 <= i % j -> i % j < j -> Q (.int (i % j)) H)
theorem aB : iE X (binaryOp .Mod) AO := fun pins s σ H x y v u Q I rx ry ⟨i, j, e1, e2, hj, h⟩ => A9 pins s σ H x y v u Q I rx ry ⟨i, j, e1, e2, hj, h (Int.emod_nonneg _ (by omega)) (Int.emod_lt_of_pos _ hj)⟩
end
section
variable {σ : St} {H : Hp} {Q : VK} {D : Ends} {K : PySem.W.Frag}
theorem DE {i j : Int} (h : ∀ k, (k = i \/ k = j) -> k <= i -> k <= j -> Q (.int k) H) : AA [.int i, .int j] H Q := ⟨i, j, rfl, h⟩
theorem BH {i j : Int} (hj : 0 < j) (h : 0 <= i % j -> i % j < j -> Q (.int (i % j)) H) : AO (.int i) (.int j) H Q := ⟨i, j, rfl, rfl, hj, h⟩
end
section
variable {σ : St} {H : Hp} {Q : VK} {D : Ends} {K : PySem.W.Frag}
def AV (Pv : Nat -> St -> Hp -> Prop) (m : Nat) (tb : TS) (D : Ends) (σ : St) (H1 : Hp) : Prop := ∃ N : St -> Hp -> Prop, (∀ σ' H', N σ' H' -> ∃ m', m' < m /\ Pv m' σ' H') /\ tb { D with nx := N, ct := N, bk := D.nx } σ H1
theorem Ba {Pv : Nat -> St -> Hp -> Prop} {m : Nat} {tb : TS} (h : tb { D with nx := fun σ' H' => ∃ m', m' < m /\ Pv m' σ' H', ct := fun σ' H' => ∃ m', m' < m /\ Pv m' σ' H', bk := D.nx } σ H) : AV Pv m tb D σ H := ⟨_, fun _ _ h => h, h⟩
theorem rN {c : TT} {tb : TS} (Pv : Nat -> St -> Hp -> Prop) (h0 : ∃ m, Pv m σ H) (hs : ∀ m σ H, Pv m σ H -> c σ H fun b H1 => if b = true then AV Pv m tb D σ H1 else D.nx σ H1) : uJ c tb D σ H := ⟨Pv, h0, hs⟩
end
end L2
namespace L2
end L2
namespace L2
open PySem PySem.Spec PyProof.Rows
section
variable {X : Cx}
end
section
variable {σ : St} {H : Hp} {Q : VK} {D : Ends} {K : PySem.W.Frag}
end
theorem CJ {H : Hp} {Q : VK} {i j p : Int} (c : Bk i j) (e : i ^ j.toNat = p) (h : Q (.int p) H) : rI Bk (fun i j => .int (i ^ j.toNat)) (.int i) (.int j) H Q := ⟨i, j, rfl, rfl, c, by show Q (.int (i ^ j.toNat)) H; rw [e]; exact h⟩
section
variable {X : Cx} {e : Expr}
end
section
variable {σ : St} {H : Hp} {Q : VK} {D : Ends} {K : PySem.W.Frag}
end
end L2
namespace L2
end L2
namespace L2
open PySem PySem.Spec PyProof.Rows PySem.W
structure OQ (lt : Nat -> Nat -> Bool) : Prop where
 Gp : ∀ a, lt a a = false
 EY : ∀ a b, lt a b = true -> lt b a = false
 xH : ∀ a b c, lt a b = false -> lt b c = false -> lt a c = false
section
variable {lt : Nat -> Nat -> Bool} {n : Nat} {S : Shared -> Prop} {cmp : Nat -> Nat -> (Bool -> Shared -> Prop) -> Shared -> Prop}
def Up (lt : Nat -> Nat -> Bool) (p : Array Nat) (k : Nat) : Prop := ∀ i j, i < j -> j < k -> lt (p.getD j 0) (p.getD i 0) = false
def Down (lt : Nat -> Nat -> Bool) (p : Array Nat) (k : Nat) : Prop := ∀ i j, i < j -> j < k -> lt (p.getD i 0) (p.getD j 0) = false
def Alike (lt : Nat -> Nat -> Bool) (p : Array Nat) (a b : Nat) : Prop := ∀ i j, a <= i -> i < b -> a <= j -> j < b -> lt (p.getD i 0) (p.getD j 0) = false
structure Ix (n : Nat) (p : Array Nat) : Prop where
 sz : p.size = n
 pm : p.toList.Perm (List.range n)
theorem Ix.low {p : Array Nat} (h : Ix n p) {i : Nat} (hi : i < n) : p.getD i 0 < n := by
 have Am : i < p.size := by rw [h.sz]; exact hi
 have e : p.getD i 0 = p[i] := by simp [Array.getD, Am]
 rw [e]
 have : p[i] ∈ p.toList := by simp
 exact List.mem_range.mp (h.pm.mem_iff.mp this)
theorem Ix.perm {p q : Array Nat} (h : Ix n p) (hq : q.Perm p) : Ix n q := ⟨hq.size_eq.trans h.sz, (Array.perm_iff_toList_perm.mp hq).trans h.pm⟩
theorem c6 {p : Array Nat} {i j : Nat} (hj : j <= p.size) (k : Nat) : (kas_rev p i j).getD k 0 = if i <= k /\ k < j then p.getD (i + j - 1 - k) 0 else p.getD k 0 := by
 unfold kas_rev
 rw [Array.getD_eq_getD_getElem?, getElem?_mirror_all hj k]
 by_cases h : i <= k /\ k < j
 . rw [if_pos h, if_pos h, Array.getD_eq_getD_getElem?]
 . rw [if_neg h, if_neg h, Array.getD_eq_getD_getElem?]
theorem kQ {p : Array Nat} (h : Ix n p) (i j : Nat) : Ix n (kas_rev p i j) := h.perm (mirror_perm _ _ _ _)
theorem oY {p : Array Nat} {k d : Nat} (hk : k < p.size) (hd : d <= k) (i : Nat) : (bubble p k d).getD i 0 = if i = k - d then p.getD k 0 else if k - d < i /\ i <= k then p.getD (i - 1) 0 else p.getD i 0 := by
 rw [Array.getD_eq_getD_getElem?, getElem?_bubble hk d hd i]
 by_cases h : i = k - d
 . rw [if_pos h, if_pos h, Array.getD_eq_getD_getElem?]
 . rw [if_neg h, if_neg h]
   by_cases h2 : k - d < i /\ i <= k
   . rw [if_pos h2, if_pos h2, Array.getD_eq_getD_getElem?]
   . rw [if_neg h2, if_neg h2, Array.getD_eq_getD_getElem?]
def Gz (n : Nat) (lt : Nat -> Nat -> Bool) (S : Shared -> Prop) (cmp : Nat -> Nat -> (Bool -> Shared -> Prop) -> Shared -> Prop) : Prop :=
 ∀ i j C s, i < n -> j < n -> S s -> (∀ s', S s' -> C (lt i j) s') -> cmp i j C s
variable (w : OQ lt) (ha : Gz n lt S cmp)
include w ha
theorem qO {p : Array Nat} (hp : Ix n p) {Q : Nat -> Shared -> Prop} : ∀ (f k : Nat), 1 <= k -> k + f <= n -> Up lt p k -> (∀ m s, S s -> k <= m -> m <= k + f -> Up lt p m -> (m = k + f \/ (m < k + f /\ lt (p.getD m 0) (p.getD (m - 1) 0) = true)) -> Q m s) -> ∀ s, S s -> (kas_asc p f k).kasWp cmp Q s
 | 0, k, _, _, hu, hq, s, hs => hq k s hs (Nat.le_refl _) (Nat.le_refl _) hu (.inl rfl)
 | f + 1, k, h1, hf, hu, hq, s, hs => by
   refine ha _ _ _ _ (hp.low (by omega)) (hp.low (by omega)) hs fun s' pX => ?_
   cases e : lt (p.getD k 0) (p.getD (k - 1) 0) with
   | true => exact hq k s' pX (Nat.le_refl _) (by omega) hu (.inr ⟨by omega, e⟩)
   | false =>
     refine qO hp f (k + 1) (by omega) (by omega) (fun i j jU hj => ?_) (fun m s hs a b c d => hq m s hs (by omega) (by omega) c (by rcases d with d | d; exact .inl (by omega); exact .inr ⟨by omega, d.2⟩)) s' pX
     by_cases DM : j < k
     . exact hu i j jU DM
     . have : j = k := by omega
       subst this
       by_cases hi : i = j - 1
       . rw [hi]; exact e
       . exact w.xH _ _ _ e (hu i (j - 1) (by omega) (by omega))
theorem ke {Q : Array Nat × Nat × Nat -> Shared -> Prop} : ∀ (f : Nat) (p : Array Nat) (k q : Nat), Ix n p -> k + f <= n -> q + 1 <= k -> Down lt p k -> Alike lt p (k - (q + 1)) k ->
 (∀ p' k' q' s, S s -> Ix n p' -> k <= k' -> k' <= k + f -> q' + 1 <= k' -> Down lt p' k' -> Alike lt p' (k' - (q' + 1)) k' -> Q (p', k', q') s) -> ∀ s, S s -> (kas_desc f p k q).kasWp cmp Q s
 | 0, p, k, q, hp, _, h1, hd, hl, hq, s, hs => hq p k q s hs hp (Nat.le_refl _) (Nat.le_refl _) h1 hd hl
 | f + 1, p, k, q, hp, hf, h1, hd, hl, hq, s, hs => by
   refine ha _ _ _ _ (hp.low (by omega)) (hp.low (by omega)) hs fun s' pX => ?_
   cases e : lt (p.getD k 0) (p.getD (k - 1) 0) with
   | true =>
     have qd : ∀ i, i < k -> lt (p.getD i 0) (p.getD k 0) = false := fun i hi => by
      by_cases h : i = k - 1
      . rw [h]; exact w.EY _ _ e
      . exact w.xH _ _ _ (hd i (k - 1) (by omega) (by omega)) (w.EY _ _ e)
     by_cases h0 : q > 0
     . simp only [if_true, if_pos h0]
       have hk : k <= p.size := by rw [hp.sz]; omega
       refine ke f _ (k + 1) 0 (kQ hp _ _) (by omega) (by omega) (fun i j jU hj => ?_) (fun i j a b c d => ?_) (fun p' k' q' s hs a b c d e f => hq p' k' q' s hs a (by omega) (by omega) d e f) s' pX
       . rw [c6 hk, c6 hk]
         by_cases DM : j = k
         . subst DM
           rw [if_neg (show ¬ (j - (q + 1) <= j /\ j < j) by omega)]
           by_cases hi : j - (q + 1) <= i /\ i < j
           . rw [if_pos hi]; exact qd _ (by omega)
           . rw [if_neg hi]; exact qd _ jU
         . by_cases hi : k - (q + 1) <= i /\ i < k
           . rw [if_pos hi, if_pos (show k - (q + 1) <= j /\ j < k by omega)]
             exact hl _ _ (by omega) (by omega) (by omega) (by omega)
           . rw [if_neg hi]
             by_cases Ax : k - (q + 1) <= j /\ j < k
             . rw [if_pos Ax]; exact hd _ _ (by omega) (by omega)
             . rw [if_neg Ax]; exact hd _ _ jU (by omega)
       . have : i = k := by omega
         have : j = k := by omega
         subst_vars
         exact w.Gp _
     . simp only [if_true, if_neg h0]
       refine ke f _ (k + 1) 0 hp (by omega) (by omega) (fun i j jU hj => ?_) (fun i j a b c d => ?_) (fun p' k' q' s hs a b c d e f => hq p' k' q' s hs a (by omega) (by omega) d e f) s' pX
       . by_cases DM : j = k
         . subst DM; exact qd _ jU
         . exact hd _ _ jU (by omega)
       . have : i = k := by omega
         have : j = k := by omega
         subst_vars
         exact w.Gp _
   | false =>
     simp only [Bool.false_eq_true, if_false]
     refine ha _ _ _ _ (hp.low (by omega)) (hp.low (by omega)) pX fun s2 BD => ?_
     cases e2 : lt (p.getD (k - 1) 0) (p.getD k 0) with
     | true => simp only [if_true]; exact hq p k q s2 BD hp (Nat.le_refl _) (by omega) h1 hd hl
     | false =>
       simp only [Bool.false_eq_true, if_false]
       refine ke f _ (k + 1) (q + 1) hp (by omega) (by omega) (fun i j jU hj => ?_) (fun i j a b c d => ?_) (fun p' k' q' s hs a b c d e f => hq p' k' q' s hs a (by omega) (by omega) d e f) s2 BD
       . by_cases DM : j = k
         . subst DM
           by_cases h : i = j - 1
           . rw [h]; exact e2
           . exact w.xH _ _ _ (hd i (j - 1) (by omega) (by omega)) e2
         . exact hd _ _ jU (by omega)
       . by_cases hi : i = k
         . by_cases hj : j = k
           . rw [hi, hj]; exact w.Gp _
           . rw [hi]; exact w.xH _ _ _ e (hl _ _ (by omega) (by omega) (by omega) (by omega))
         . by_cases hj : j = k
           . rw [hj]; exact w.xH _ _ _ (hl _ _ (by omega) (by omega) (by omega) (by omega)) e2
           . exact hl _ _ (by omega) (by omega) (by omega) (by omega)
theorem oQ {Q : Nat × Array Nat -> Shared -> Prop} {p : Array Nat} {k : Nat} (hp : Ix n p) (h1 : 1 <= k) (hk : k <= n) (hd : Down lt p k) (hq : ∀ m p' s, S s -> Ix n p' -> 1 <= m -> m <= n -> Up lt p' m -> Q (m, p') s) (s : Shared) (hs : S s) : (kas_tail3 k n p).kasWp cmp Q s := by
 unfold kas_tail3
 rw [KasT.kasWp_bind]
 have xB : k <= p.size := by rw [hp.sz]; exact hk
 refine qO w ha (kQ hp 0 k) (n - k) k h1 (by omega) (fun i j jU hj => ?_) (fun m s hs a b c _ => hq m _ s hs (kQ hp _ _) (by omega) (by omega) c) s hs
 rw [c6 xB, c6 xB, if_pos (by omega), if_pos (by omega)]
 exact hd _ _ (by omega) (by omega)
theorem jH {Q : Nat × Array Nat -> Shared -> Prop} {p : Array Nat} {k : Nat} (hp : Ix n p) (h1 : 1 <= k) (hk : k + 1 <= n) (hd : Down lt p (k + 1)) (hq : ∀ m p' s, S s -> Ix n p' -> 1 <= m -> m <= n -> Up lt p' m -> Q (m, p') s) (s : Shared) (hs : S s) : (kas_descPart k n p).kasWp cmp Q s := by
 unfold kas_descPart
 rw [KasT.kasWp_bind]
 refine ke w ha _ p (k + 1) 0 hp (by omega) (by omega) hd (fun i j a b c d => ?_) (fun p' k' q' s hs xT a b c lX hl => ?_) s hs
 . have : i = k := by omega
   have : j = k := by omega
   subst_vars
   exact w.Gp _
 . by_cases h0 : q' > 0
   . simp only [if_pos h0]
     have xB : k' <= p'.size := by rw [xT.sz]; omega
     refine oQ w ha (kQ xT _ _) (by omega) (by omega) (fun i j jU hj => ?_) hq s hs
     rw [c6 xB, c6 xB]
     by_cases hi : k' - (q' + 1) <= i /\ i < k'
     . rw [if_pos hi, if_pos (by omega)]; exact hl _ _ (by omega) (by omega) (by omega) (by omega)
     . rw [if_neg hi]
       by_cases Ax : k' - (q' + 1) <= j /\ j < k'
       . rw [if_pos Ax]; exact lX _ _ (by omega) (by omega)
       . rw [if_neg Ax]; exact lX _ _ jU (by omega)
   . simp only [if_neg h0]
     exact oQ w ha xT (by omega) (by omega) lX hq s hs
theorem vL {Q : Nat × Array Nat -> Shared -> Prop} {p : Array Nat} (hn : 1 <= n) (hp : Ix n p) (hq : ∀ m p' s, S s -> Ix n p' -> 1 <= m -> m <= n -> Up lt p' m -> Q (m, p') s) (s : Shared) (hs : S s) : (kas_count n p).kasWp cmp Q s := by
 unfold kas_count
 rw [KasT.kasWp_bind]
 refine qO w ha hp (n - 1) 1 (Nat.le_refl _) (by omega) (fun i j _ _ => by omega) (fun m s hs a b hu hc => ?_) s hs
 by_cases hm : (m == n) = true
 . simp only [if_pos hm]; exact hq m p s hs hp a (by have := beq_iff_eq.mp hm; omega) hu
 . simp only [if_neg hm]
   have HH : m ≠ n := fun z => hm (beq_iff_eq.mpr z)
   have b4 : m < n := by omega
   have xJ : lt (p.getD m 0) (p.getD (m - 1) 0) = true := by
    rcases hc with hc | hc
    . omega
    . exact hc.2
   by_cases h1 : m > 1
   . simp only [if_pos h1]
     refine ha _ _ _ _ (hp.low (by omega)) (hp.low (by omega)) hs fun s2 BD => ?_
     cases e : lt (p.getD 0 0) (p.getD (m - 1) 0) with
     | true => simp only [if_true]; exact hq m p s2 BD hp a (by omega) hu
     | false =>
       simp only [Bool.false_eq_true, if_false]
       have hk : m <= p.size := by rw [hp.sz]; omega
       have al : ∀ i j, i < m -> j < m -> lt (p.getD i 0) (p.getD j 0) = false := fun i j hi hj => by
        have h1 : lt (p.getD i 0) (p.getD 0 0) = false := by
         by_cases h : i = 0
         . rw [h]; exact w.Gp _
         . exact hu 0 i (by omega) hi
        have h2 : lt (p.getD i 0) (p.getD (m - 1) 0) = false := w.xH _ _ _ h1 e
        by_cases h : j = m - 1
        . rw [h]; exact h2
        . exact w.xH _ _ _ h2 (hu j (m - 1) (by omega) (by omega))
       refine jH w ha (kQ hp _ _) a (by omega) (fun i j jU hj => ?_) hq s2 BD
       rw [c6 hk, c6 hk, if_pos (by omega)]
       by_cases Qk : j < m
       . rw [if_pos (by omega)]; exact al _ _ (by omega) (by omega)
       . rw [if_neg (by omega)]
         have : j = m := by omega
         subst this
         exact w.xH _ _ _ (al _ (j - 1) (by omega) (by omega)) (w.EY _ _ xJ)
   . simp only [if_neg h1]
     refine jH w ha hp a (by omega) (fun i j jU hj => ?_) hq s hs
     have h1 : m = 1 := by omega
     have hi : i = m - 1 := by omega
     have hj : j = m := by omega
     rw [hi, hj]
     exact w.EY _ _ xJ
theorem kO {p : Array Nat} {k : Nat} (hp : Ix n p) (hk : k < n) (hu : Up lt p k) {Q : Nat -> Shared -> Prop} : ∀ (f l r : Nat), l <= r -> r <= k -> r - l <= f -> (∀ i, i < l -> lt (p.getD k 0) (p.getD i 0) = false) -> (∀ i, r <= i -> i < k -> lt (p.getD k 0) (p.getD i 0) = true) ->
 (∀ l s, S s -> l <= k -> (∀ i, i < l -> lt (p.getD k 0) (p.getD i 0) = false) -> (∀ i, l <= i -> i < k -> lt (p.getD k 0) (p.getD i 0) = true) -> Q l s) -> ∀ s, S s -> (kas_place p k f l r).kasWp cmp Q s
 | 0, l, r, MM, hr, hf, h1, h2, hq, s, hs => hq l s hs (by omega) h1 (fun i a b => h2 i (by omega) b)
 | f + 1, l, r, MM, hr, hf, h1, h2, hq, s, hs => by
   unfold kas_place
   by_cases h : l ≥ r
   . rw [if_pos h]; exact hq l s hs (by omega) h1 (fun i a b => h2 i (by omega) b)
   . rw [if_neg h]
     refine ha _ _ _ _ (hp.low hk) (hp.low (by omega)) hs fun s' pX => ?_
     cases e : lt (p.getD k 0) (p.getD ((l + r) / 2) 0) with
     | true =>
       simp only [if_true]
       refine kO hp hk hu f l ((l + r) / 2) (by omega) (by omega) (by omega) h1 (fun i a b => ?_) hq s' pX
       by_cases hi : i = (l + r) / 2
       . rw [hi]; exact e
       . cases e3 : lt (p.getD k 0) (p.getD i 0) with
         | true => rfl
         | false => rw [w.xH _ _ _ e3 (hu ((l + r) / 2) i (by omega) b)] at e; exact e
     | false =>
       simp only [Bool.false_eq_true, if_false]
       refine kO hp hk hu f ((l + r) / 2 + 1) r (by omega) (by omega) (by omega) (fun i a => ?_) h2 hq s' pX
       by_cases hi : i = (l + r) / 2
       . rw [hi]; exact e
       . exact w.xH _ _ _ e (hu i ((l + r) / 2) (by omega) (by omega))
theorem w5 {Q : Array Nat -> Shared -> Prop} : ∀ (f : Nat) (p : Array Nat) (k : Nat), Ix n p -> k + f = n -> Up lt p k -> (∀ p' s, S s -> Ix n p' -> Up lt p' n -> Q p' s) -> ∀ s, S s -> (kas_bin f p k).kasWp cmp Q s
 | 0, p, k, hp, hf, hu, hq, s, hs => by
   have : k = n := by omega
   subst this
   exact hq p s hs hp hu
 | f + 1, p, k, hp, hf, hu, hq, s, hs => by
   unfold kas_bin
   rw [KasT.kasWp_bind]
   refine kO w ha hp (by omega) hu k 0 k (by omega) (Nat.le_refl _) (by omega) (fun i h => by omega) (fun i a b => by omega) (fun l s hs hl h1 h2 => ?_) s hs
   have hk : k < p.size := by rw [hp.sz]; omega
   refine w5 f _ (k + 1) (hp.perm (bubble_perm _ _ _)) (by omega) (fun i j jU hj => ?_) hq s hs
   rw [oY hk (by omega), oY hk (by omega)]
   have el : k - (k - l) = l := by omega
   rw [el]
   by_cases pQ : j = l
   . rw [if_pos pQ, if_neg (by omega), if_neg (by omega)]; exact h1 i (by omega)
   . rw [if_neg pQ]
     by_cases yl : i = l
     . rw [if_pos yl, if_pos (by omega)]; exact w.EY _ _ (h2 _ (by omega) (by omega))
     . rw [if_neg yl]
       by_cases ux : l < i /\ i <= k
       . rw [if_pos ux, if_pos (by omega)]; exact hu _ _ (by omega) (by omega)
       . rw [if_neg ux]
         by_cases Ax : l < j /\ j <= k
         . rw [if_pos Ax]; exact hu _ _ (by omega) (by omega)
         . rw [if_neg Ax]; exact hu _ _ jU (by omega)
theorem yO {Q : Array Nat -> Shared -> Prop} (hn : 1 <= n) (hq : ∀ p' s, S s -> Ix n p' -> Up lt p' n -> Q p' s) (s : Shared) (hs : S s) : (kas_sort n).kasWp cmp Q s := by
 unfold kas_sort
 rw [KasT.kasWp_bind]
 refine vL w ha hn ⟨by simp, by simp⟩ (fun m p' s hs hp h1 hm hu => ?_) s hs
 by_cases h : m < n
 . simp only [if_pos h]
   have : max m 1 = m := by omega
   rw [this]
   exact w5 w ha _ p' m hp (by omega) hu hq s hs
 . simp only [if_neg h]
   have : m = n := by omega
   subst this
   exact hq p' s hs hp hu
end
section
variable {X : Cx} {pins : List (Addr × Obj)} {σ : St} {H H' : Hp} {s : Shared} {a : Addr}
theorem Inv.vR {f : Obj -> Obj} (I : Inv X pins σ H s) (fa : cM X pins H a) : Inv X pins σ H { s with heap := s.heap.update a f } :=
 I.turned (t' := s.toks) (fun b o hb e => by rw [Heap.get?_update_ne _ _ _ _ hb]; exact e) fa.1 fa.2.1 fa.2.2.2.1 fa.2.2.2.2.1 fa.2.2.2.2.2
theorem Inv.rT {o : Obj} (I : Inv X pins σ H s) : Inv X pins σ H { s with heap := s.heap.push o } := I.kept (t' := s.toks) fun b u e => Heap.get?_push_of_some _ e
theorem cM.keep (fa : cM X pins H a) (h : H' a = none) : cM X pins H' a := ⟨h, fa.2⟩
theorem Inv.FW {acc : List V} {aD : List Value} {n : Nat} (I : Inv X pins σ H s) (fa : cM X pins H a) (xQ : X.cN.heap.objs.size <= a) (hl : acc.length <= sizeLine) (r : Vals acc aD) (hd : s.heap.get? a = some { cls := .type "list", data := .seq aD.toArray n }) :
 Inv X pins σ (upd H a (.lst acc)) s := by
 have ne : ∀ b u, H b = some u -> b ≠ a := fun b u e => aH e fa.1
 have old : ∀ b o, X.cN.heap.get? b = some o -> b ≠ a := fun b o e => Nat.ne_of_lt (Nat.lt_of_lt_of_le (Heap.lt_size e) xQ)
 have U := I.base
 refine ⟨I.ok, I.os, I.bare, ⟨U.keep, U.slot, fun b o e n hx => ?_, U.there, fun b xs e => ?_, fun b o u e => ?_, fun b ps e => ?_⟩, I.loc, I.cell, ?_, fun x c e => ?_, fun p hp => ?_, fun b u e => ?_, I.len⟩
 . rw [aw (old b o e)]; exact U.free b o e n hx
 . rw [aw (ne b _ (U.j3 b xs e))]; exact U.j3 b xs e
 . rw [aw (ne b _ (U.ji b o u e))]; exact U.ji b o u e
 . obtain ⟨more, q⟩ := U.lQ b ps e
   exact ⟨more, by rw [aw (ne b _ q)]; exact q⟩
 . rw [aw (Ne.symm fa.2.1)]; exact I.free
 . rw [aw (fa.2.2.2.2.1 x c e)]; exact I.eI x c e
 . obtain ⟨e1, e2, e3⟩ := I.pin p hp
   exact ⟨e1, by rw [aw (fa.2.2.2.2.2 p hp)]; exact e2, e3⟩
 . by_cases hb : b = a
   . subst hb
     rw [aA] at e
     cases e
     exact ⟨hl, aD, n, r, hd⟩
   . rw [aw hb] at e
     exact (I.aK b u e).nq (fun c v _ q => q) (fun c q => by rw [aw (ne c _ q)]; exact q) fun c xs q => by rw [aw (ne c _ q)]; exact q
end
def pe (a b : Str) : Bool := decide (a.cps.toList < b.cps.toList)
def cb (a b : Int × Str) : Bool := decide (a.1 < b.1) || (decide (a.1 = b.1) && pe a.2 b.2)
theorem x9 (a : Str) : pe a a = false := decide_eq_false (List.lt_irrefl _)
theorem yq {a b : Str} (h : pe a b = true) : pe b a = false := decide_eq_false (List.lt_asymm (of_decide_eq_true h))
theorem sv {a b c : Str} (h : pe a b = false) (h2 : pe b c = false) : pe a c = false := by
 unfold pe at *
 have rM : b.cps.toList <= a.cps.toList := List.not_lt.mp (of_decide_eq_false h)
 have BG : c.cps.toList <= b.cps.toList := List.not_lt.mp (of_decide_eq_false h2)
 exact decide_eq_false (List.not_lt.mpr (List.le_trans BG rM))
theorem zB {a b : Str} (h : a.cps.toList = b.cps.toList) : a = b := by
 cases a; cases b
 simp only at h
 rw [Array.toList_inj.mp h]
theorem sG {a b : Str} (h : pe a b = false) (h2 : pe b a = false) : a = b := by
 unfold pe at *
 have rM : b.cps.toList <= a.cps.toList := List.not_lt.mp (of_decide_eq_false h)
 have BG : a.cps.toList <= b.cps.toList := List.not_lt.mp (of_decide_eq_false h2)
 exact zB (List.le_antisymm BG rM)
theorem wa {a b : Int × Str} : cb a b = true ↔ a.1 < b.1 \/ (a.1 = b.1 /\ pe a.2 b.2 = true) := by
 unfold cb; simp
theorem cw {a b : Int × Str} : cb a b = false ↔ ¬ a.1 < b.1 /\ (a.1 = b.1 -> pe a.2 b.2 = false) := by
 unfold cb; simp
theorem o6 (a : Int × Str) : cb a a = false := cw.mpr ⟨by omega, fun _ => x9 _⟩
theorem vk {a b : Int × Str} (h : cb a b = true) : cb b a = false := by
 rcases wa.mp h with h | ⟨h, h2⟩
 . exact cw.mpr ⟨by omega, fun _ => by omega⟩
 . exact cw.mpr ⟨by omega, fun _ => yq h2⟩
theorem v9 {a b c : Int × Str} (h : cb a b = false) (h2 : cb b c = false) : cb a c = false := by
 obtain ⟨h1, h3⟩ := cw.mp h
 obtain ⟨h4, h5⟩ := cw.mp h2
 refine cw.mpr ⟨by omega, fun e => ?_⟩
 exact sv (h3 (by omega)) (h5 (by omega))
theorem uK {a b : Int × Str} (h : cb a b = false) (h2 : cb b a = false) : a = b := by
 obtain ⟨h1, h3⟩ := cw.mp h
 obtain ⟨h4, h5⟩ := cw.mp h2
 have e : a.1 = b.1 := by omega
 exact Prod.ext e (sG (h3 e) (h5 e.symm))
section
variable {prog : Program} {w : World} {A : Around} {E : Value -> Shared -> Prop} {s : Shared}
theorem yT {x y : Addr} {i j : Int} {t u t2 u2 : Tok} {c d : Str} {Q : Bool -> Shared -> Prop} (hx : IsTup s.heap x #[.int i t, .str c t2]) (hy : IsTup s.heap y #[.int j u, .str d u2]) (h : Q (cb (i, c) (j, d)) s) :
 wpAny (model prog w) A (keyLt' (tuples' true) (.ref x) (.ref y)) Q E s := by
 obtain ⟨ox, Mp, cx, nx, dx⟩ := hx
 obtain ⟨oy, O1, cy, ny, dy⟩ := hy
 refine kat_lt Mp dx O1 dy ?_
 refine kat_cons (wpAny_eqBool_int ?_)
 by_cases e : i = j
 . rw [show (i == j) = true from beq_iff_eq.mpr e]
   refine kat_yes (kat_cons (wpAny_eqBool_str ?_))
   by_cases e2 : c = d
   . rw [decide_eq_true e2]
     refine kat_yes (kat_nil ?_)
     have : cb (i, c) (j, d) = false := by rw [e, e2]; exact o6 _
     rw [this] at h
     exact h
   . rw [decide_eq_false e2]
     refine kat_no (kat_one _ _ (lt_str ?_))
     have : cb (i, c) (j, d) = pe c d := by unfold cb; simp [e]
     rw [this] at h
     exact h
 . rw [show (i == j) = false from beq_eq_false_iff_ne.mpr e]
   refine kat_no (oneLt_int ?_)
   have : cb (i, c) (j, d) = decide (i < j) := by unfold cb; simp [e]
   rw [this] at h
   exact h
end
def qB (sp : Sp) (kf : V -> Int × Str) (H : Hp) (xs : List V) : Prop := ∀ v ∈ xs, ∀ H', ah H H' -> sp [v] H' (fun y H2 => ah H' H2 /\ Dv H2 y (.tuple [.int (kf v).1, .str (kf v).2])) E0
def nI {α : Type} (lt : α -> α -> Bool) (kf : V -> α) (ys xs : List V) : Prop := ys.Perm xs /\ ys.Pairwise fun x y => lt (kf y) (kf x) = false
section
variable {X : Cx} {pins : List (Addr × Obj)} {σ : St} {H : Hp} {s : Shared} {k : Nat} {f : Addr} {fd : FuncData} {ps : List Str} {sp : Sp} {kf : V -> Int × Str} {A : Around}
theorem zu {H' : Hp} {s' : Shared} {v : V} {u : Value} {pl : List (Addr × Obj)} (F : bQ X.prog X.w X.K X.mg X.base iV k f fd ps sp) (hb : Binds X.K fd ps []) (hr : cf (k + 2) X.A) (I : Inv X pl σ H' s') (r : RelV v u)
 (hs : sp [v] H' (fun y H2 => ah H' H2 /\ Dv H2 y (.tuple [.int (kf v).1, .str (kf v).2])) E0) :
 wpAny (model X.prog X.w) X.A.in1.in1 (call (.ref f) [u]) (EP X pl σ fun y H2 => ah H' H2 /\ Dv H2 y (.tuple [.int (kf v).1, .str (kf v).2])) (fun _ _ => False) s' := by
 have r2 : Vals [v] [u] := .cons r .nil
 have hl : ([u] ++ []).length = ps.length := by have := F.len _ _ _ _ hs; simpa using this
 have lN := hb s' [u] I.oC hl
 refine wpAny_call (codeAny_mono (F.run X.A.in1.in1 X.stack s' H' ⟨[u], []⟩ [u] [v] _ E0 (cf.in1 (cf.in1 hr)) (I.FT.in1.in1) (by simpa using lN) r2 hs) fun r s2 hq => ?_)
 cases r with
 | error e => exact hq.elim
 | ok fl =>
   cases fl with
   | ret u => exact I.after hq
   | next => exact False.elim hq
   | brk => exact False.elim hq
   | cont => exact False.elim hq
structure CP (X : Cx) (pins : List (Addr × Obj)) (σ : St) (H : Hp) (kf : V -> Int × Str) (a kS : Addr) (oa : Obj) (xs : List V) (s' : Shared) : Prop where
 mk ::
 ex : ∃ H' us e ys, Inv X pins σ H' s' /\ ah H H' /\ H' a = none /\ H' kS = none /\ s'.heap.get? a = some oa /\ s'.heap.get? kS = some (seqObj "list" (List.toArray us) e) /\ Vals ys us /\ bb H' ys (xs.map fun v => .tuple [.int (kf v).1, .str (kf v).2])
theorem mF {kS : Addr} {oa : Obj} {body : Value -> PUnit -> Sem (ForInStep PUnit)} {E : Value -> Shared -> Prop} (F : bQ X.prog X.w X.K X.mg X.base iV k f fd ps sp) (hb : Binds X.K fd ps []) (hr : cf (k + 2) X.A) (L3 : ∀ v, oa.data ≠ .cell v)
 (mH : ∀ x (s' : Shared) (R : Shared -> Prop), wpAny (model X.prog X.w) X.A.in1.in1 (call (.ref f) [x]) (fun k s2 => ∃ us e, s2.heap.get? kS = some (seqObj "list" (List.toArray us) e) /\ us.length < 64 /\ R { s2 with heap := s2.heap.update kS (Obj.mapSeq (·.push k)) }) (fun _ _ => False) s' ->
  wpAny (model X.prog X.w) X.A.in1.in1 (body x ⟨⟩) (fun r s2 => r = .yield ⟨⟩ /\ R s2) E s')
 (fa : cM X pins H a) (fk : cM X pins H kS) (xA : a ≠ kS) : ∀ (rx : List V) (r : List Value) (xs : List V) (s' : Shared), Vals rx r -> qB sp kf H rx -> xs.length + rx.length < 64 -> CP X pins σ H kf a kS oa xs s' ->
  wpAny (model X.prog X.w) X.A.in1.in1 (forIn r PUnit.unit body) (fun _ s2 => CP X pins σ H kf a kS oa (xs ++ rx) s2) E s'
 | [], _, xs, s', hv, _, _, hK => by
   cases hv
   rw [List.forIn_nil, List.append_nil]
   exact wpAny_pure hK
 | v :: rx, _, xs, s', .cons (b := u) (l₂ := r) hu hv, LO, hlen, ⟨H', us, e, ys, I, sm, ha, hk, MB, NQ, rv, dv⟩ => by
   rw [List.forIn_cons]
   have P1 := fa.keep (H' := H') ha
   have Qn := fk.keep (H' := H') hk
   have I' : Inv X (pins ++ [(a, oa), (kS, seqObj "list" (List.toArray us) e)]) σ H' s' := by
    refine I.gT fun p hp => ?_
    rcases List.mem_append.mp hp with hp | hp
    . exact I.pin p (List.mem_append_right _ hp)
    . rcases List.mem_cons.mp hp with rfl | hp
      . exact ⟨MB, ha, fa.2.1, fa.2.2.1, L3⟩
      . have : p = (kS, seqObj "list" (List.toArray us) e) := by simpa using hp
        subst this
        exact ⟨NQ, hk, fk.2.1, fk.2.2.1, fun v z => by cases z⟩
   have PR : us.length = xs.length := by rw [<- rv.length, dv.length, List.length_map]
   refine wpAny_bind (wpAny_mono (mH u s' (fun s2 => CP X pins σ H kf a kS oa (xs ++ [v]) s2) (wpAny_mono (zu F hb hr I' hu (LO v List.mem_cons_self H' sm)) (fun kv s2 hq => ?_) fun _ _ z => z)) (fun q s2 hq => ?_) fun _ _ z => z)
   . obtain ⟨y, H2, I2, ry, cA, dy⟩ := hq
     have p1 := I2.pin (a, oa) (List.mem_append_right _ (List.mem_append_right _ List.mem_cons_self))
     have p2 := I2.pin (kS, seqObj "list" (List.toArray us) e) (List.mem_append_right _ (List.mem_append_right _ (List.mem_cons_of_mem _ List.mem_cons_self)))
     have I3 : Inv X pins σ H2 s2 := I2.iL
     refine ⟨us, e, p2.1, by simp at hlen; omega, ?_⟩
     obtain ⟨c, hc⟩ : ∃ c, (s2.heap.update kS (Obj.mapSeq (·.push kv))).get? kS = some (seqObj "list" (List.toArray (us ++ [kv])) c) := by
      have ea : (List.toArray us).push kv = List.toArray (us ++ [kv]) := by simp
      rw [<- ea]
      exact ⟨_, get?_update_seq p2.1 (·.push kv)⟩
     refine ⟨H2, us ++ [kv], c, ys ++ [y], I3.vR (fk.keep p2.2.1), sm.trans cA, p1.2.1, p2.2.1, ?_, hc, rv.append (.cons ry .nil), ?_⟩
     . show (s2.heap.update kS _).get? a = some oa
       rw [Heap.get?_update_ne _ _ _ _ xA]; exact p1.1
     . rw [List.map_append]
       exact (dv.keeps cA).append (.cons dy .nil)
   . obtain ⟨rfl, hq⟩ := hq
     have := mF F hb hr L3 mH fa fk xA rx r (xs ++ [v]) s2 hv (fun z hz => LO z (List.mem_cons_of_mem _ hz)) (by simp at hlen ⊢; omega) hq
     rw [List.append_assoc] at this
     exact this
theorem vq {xs : List V} {p : Array Nat} {α : Type} {lt : α -> α -> Bool} {kf : V -> α} (hp : Ix xs.length p) (hu : Up (fun i j => lt (kf (xs.getD i .bz)) (kf (xs.getD j .bz))) p xs.length) : nI lt kf (p.toList.map fun i => xs.getD i .bz) xs := by
 refine ⟨?_, ?_⟩
 . have h := hp.pm.map fun i => xs.getD i .bz
   have e : (List.range xs.length).map (fun i => xs.getD i .bz) = xs := by
    refine List.ext_getElem? fun i => ?_
    rw [List.getElem?_map]
    by_cases hi : i < xs.length
    . rw [List.getElem?_range hi]; simp [hi]
    . rw [List.getElem?_eq_none (by simpa using hi), List.getElem?_eq_none (by simpa using hi)]; rfl
   rw [e] at h
   exact h
 . rw [List.pairwise_map, List.pairwise_iff_getElem]
   intro i j hi hj jU
   have hsz : p.toList.length = xs.length := by simp [hp.sz]
   have := hu i j jU (by omega)
   have gi : p.getD i 0 = p.toList[i] := by simp [Array.getD, show i < p.size by rw [hp.sz]; omega]
   have gj : p.getD j 0 = p.toList[j] := by simp [Array.getD, show j < p.size by rw [hp.sz]; omega]
   rw [gi, gj] at this
   exact this
theorem jw : ∀ {xs : List V} {us : List Value} (i : Nat), Vals xs us -> RelV (xs.getD i .bz) (us.getD i Value.none)
 | _, _, _, .nil => rfl
 | _, _, 0, .cons r _ => r
 | _, _, i + 1, .cons _ t => by simpa using jw i t
theorem mE {xs : List V} {us : List Value} (r : Vals xs us) : ∀ l : List Nat, Vals (l.map fun i => xs.getD i .bz) (l.map fun i => us.getD i Value.none)
 | [] => .nil
 | i :: l => .cons (jw i r) (mE r l)
theorem pk {H : Hp} {g : V -> PyData} : ∀ {ys : List V} {xs : List V} {i : Nat}, bb H ys (xs.map g) -> i < xs.length -> Dv H (ys.getD i .bz) (g (xs.getD i .bz))
 | _, [], _, _, h => by simp at h
 | _, _ :: _, 0, .cons h _, _ => h
 | _, _ :: _, i + 1, .cons _ t, hi => by simpa using pk (i := i) t (by simpa using hi)
def sy (X : Cx) (pins : List (Addr × Obj)) (σ : St) (H : Hp) {α : Type} (lt : α -> α -> Bool) (kf : V -> α) (xs : List V) (Q : VK) : Prop :=
 ∀ a ys H', ah H H' -> H a = none -> H' a = none -> nI lt kf ys xs -> Q (.ref a) (upd H' a (.lst ys))
theorem t7 {H' : Hp} {s' : Shared} {xs ys : List V} {us : List Value} {A : Around} (I : Inv X pins σ H' s') (rv : Vals ys us) (dv : bb H' ys (xs.map fun v => .tuple [.int (kf v).1, .str (kf v).2])) :
 Gz xs.length (fun i j => cb (kf (xs.getD i .bz)) (kf (xs.getD j .bz))) (fun z => z = s') (kas_ask X.prog X.w A (tuples' true) us) := by
 intro i j C z hi hj hz hC
 subst hz
 have one : ∀ i, i < xs.length -> ∃ x t t2, us.getD i Value.none = .ref x /\ IsTup z.heap x #[.int (kf (xs.getD i .bz)).1 t, .str (kf (xs.getD i .bz)).2 t2] := fun i hi => by
  have d := pk dv hi
  have r := jw i rv
  generalize ys.getD i .bz = y at d r
  generalize us.getD i Value.none = u at r
  cases d with
  | tup h q =>
    have r' : u = .ref _ := r
    obtain ⟨aD, rr, tt, _⟩ := I.tuple (.of h)
    cases q with
    | cons h1 q =>
      cases q with
      | cons h2 q =>
        cases q
        cases h1; cases h2
        cases rr with
        | cons r1 rr =>
          cases rr with
          | cons r2 rr =>
            cases rr
            obtain ⟨t1, rfl⟩ := r1
            obtain ⟨t2, rfl⟩ := r2
            exact ⟨_, t1, t2, r', tt⟩
 obtain ⟨x, t, t2, e1, hx⟩ := one i hi
 obtain ⟨y, u, u2, e2, hy⟩ := one j hj
 show wpAny (model X.prog X.w) A (keyLt' (tuples' true) (us.getD i Value.none) (us.getD j Value.none)) C (fun _ _ => False) z
 rw [e1, e2]
 exact yT hx hy (hC _ rfl)
theorem lu {H' : Hp} {s' : Shared} : ∀ {xs ys : List V} {us : List Value}, Inv X pins σ H' s' -> Vals ys us -> bb H' ys (xs.map fun v => .tuple [.int (kf v).1, .str (kf v).2]) ->
 ∃ fs, KatTups s'.heap us fs /\ fs.length = us.length /\ ∀ v ∈ fs, Looks (model X.prog X.w) s'.heap (typeOf v) (.type "int")
 | [], _, _, I, rv, dv => by
   cases dv
   cases rv
   exact ⟨[], trivial, rfl, fun _ z => nomatch z⟩
 | x :: xs, _, _, I, rv, dv => by
   cases dv with
   | cons d dv =>
     cases rv with
     | cons r rv =>
       obtain ⟨fs, h1, h2, h3⟩ := lu I rv dv
       cases d with
       | tup h q =>
         obtain ⟨aD, rr, tt, _⟩ := I.tuple (.of h)
         cases q with
         | cons q1 q =>
           cases q with
           | cons q2 q =>
             cases q
             cases q1; cases q2
             cases rr with
             | cons r1 rr =>
               cases rr with
               | cons r2 rr =>
                 cases rr
                 obtain ⟨t1, rfl⟩ := r1
                 obtain ⟨t2, rfl⟩ := r2
                 cases r
                 obtain ⟨o, ho, hc, n, hd⟩ := tt
                 refine ⟨_ :: fs, KatTups.cons ho hc hd rfl h1, by simp [h2], fun v hv => ?_⟩
                 rcases List.mem_cons.mp hv with rfl | hv
                 . exact .now
                 . exact h3 v hv
end
section
variable {X : Cx} {pins : List (Addr × Obj)} {σ : St} {H : Hp} {s : Shared} {k : Nat} {f : Addr} {fd : FuncData} {ps : List Str} {sp : Sp} {kf : V -> Int × Str} {A : Around}
theorem lU {H' : Hp} {s' : Shared} {a kS : Addr} {e e1 : Nat} {us out : List Value} {ys : List V} {st : SortSt} {E : Value -> Shared -> Prop} {P : PySem.Fin -> Shared -> Prop} (I : Inv X pins σ H' s') (fa : cM X pins H' a) (fk : cM X pins H' kS) (xA : a ≠ kS) (xQ : X.cN.heap.objs.size <= a)
 (oa : s'.heap.get? a = some (seqObj "list" #[] e1)) (ok : s'.heap.get? kS = some (seqObj "list" (List.toArray us) e)) (hz : us.length < 64) (Jt : (arrOf st).map (·.2) = List.toArray out) (ho : out.length < 64) (hf : failedOf st = none) (rv : Vals ys out)
 (h : ∀ s2, Inv X pins σ (upd H' a (.lst ys)) s2 -> P (.done (.ret .none)) s2) : wpAny (model X.prog X.w) A (ksk_tail a false e1 (.ref kS) st) P E s' := by
 have Kz : (64 : Nat) <= sizeLine := by decide
 unfold ksk_tail
 dsimp only
 rw [Jt]
 refine wpAny_bind (listUpdate_at ok rfl ?_ (by rw [List.size_toArray]; omega) (Nat.zero_le _))
 refine wpAny_bind (wpAny_letGo ?_)
 have Jl : (s'.heap.update kS (Obj.mapSeq fun _ => (#[] : Array Value))).get? a = some (seqObj "list" #[] e1) := by rw [Heap.get?_update_ne _ _ _ _ xA]; exact oa
 have I1 : Inv X pins σ H' { s' with heap := s'.heap.update kS (Obj.mapSeq fun _ => (#[] : Array Value)) } := I.vR fk
 refine wpAny_bind (seqEpoch_at Jl rfl ?_)
 refine wpAny_bind (listUpdate_at Jl rfl ?_ (Nat.zero_le _) (by show (List.toArray out).size <= _; rw [List.size_toArray]; omega))
 rw [hf]
 simp only [bne_self_eq_false, Bool.false_eq_true, if_false]
 refine wpAny_pure (h _ ?_)
 have I2 := I1.vR (f := Obj.mapSeq fun _ => List.toArray out) fa
 exact I2.FW fa xQ (by rw [rv.length]; omega) rv (get?_update_seq Jl fun _ => List.toArray out)
theorem wC {H' : Hp} {s' : Shared} {a kS : Addr} {e e1 : Nat} {us vs : List Value} {xs ys : List V} {Q : VK} {E : Value -> Shared -> Prop} {P : PySem.Fin -> Shared -> Prop} (sm : ah H H') (Lc : H a = none) (I : Inv X pins σ H' s') (fa : cM X pins H' a) (fk : cM X pins H' kS) (xA : a ≠ kS) (xQ : X.cN.heap.objs.size <= a)
 (oa : s'.heap.get? a = some (seqObj "list" #[] e1)) (ok : s'.heap.get? kS = some (seqObj "list" (List.toArray us) e)) (wx : xs.length < 64) (rx : Vals xs vs) (ry : Vals ys us) (dv : bb H' ys (xs.map fun v => .tuple [.int (kf v).1, .str (kf v).2]))
 (fin : sy X pins σ H cb kf xs Q) (h : ∀ s2, EP X pins σ Q (.ref a) s2 -> P (.done (.ret .none)) s2) : wpAny (model X.prog X.w) A (ksk_end a false vs.toArray e1 (.ref kS) (List.toArray us)) P E s' := by
 have lx := rx.length
 have ly := ry.length
 have ld := dv.length
 rw [List.length_map] at ld
 unfold ksk_end
 simp only [Bool.false_eq_true, if_false]
 by_cases h2 : vs.toArray.size < 2
 . rw [if_pos h2, if_pos h2]
   refine wpAny_bind (wpAny_pure ?_)
   rw [StateT.run_pure]
   refine wpAny_bind (wpAny_pure ?_)
   refine lU (out := vs) (ys := xs) I fa fk xA xQ oa ok (by omega) ?_ (by omega) rfl rx (fun s2 I2 => h s2 ⟨.ref a, _, I2, rfl, fin a xs H' sm Lc fa.1 ⟨List.Perm.refl _, ?_⟩⟩)
   . show ((List.toArray us).zip vs.toArray).map (·.2) = List.toArray vs
     apply Array.toList_inj.mp
     have : us.length = vs.length := by omega
     simp [List.map_snd_zip, this]
   . rw [List.size_toArray] at h2
     match xs, lx with
     | [], _ => exact .nil
     | [_], _ => exact List.pairwise_singleton _ _
     | _ :: _ :: _, lx => simp at lx; omega
 . rw [if_neg h2, if_neg h2]
   rw [List.size_toArray] at h2
   obtain ⟨fs, k1, k2, k3⟩ := lu I ry dv
   refine wpAny_bind (kat_kind k1 (by omega) k3 (by decide) ?_)
   have Eg : us.length = vs.length := by omega
   refine wpAny_bind (wpAny_mono (kat_run (Q := fun tW s2 => s2 = s' /\ ∃ p : Array Nat, Ix xs.length p /\ arrOf tW = p.map (kas_item ((List.toArray us).zip (List.toArray vs))) /\ failedOf tW = none /\ Up (fun i j => cb (kf (xs.getD i .bz)) (kf (xs.getD j .bz))) p xs.length)
    (G := fun p s2 => s2 = s' /\ Ix xs.length p /\ Up (fun i j => cb (kf (xs.getD i .bz)) (kf (xs.getD j .bz))) p xs.length) Eg (by omega) (by omega) (fun p tW s2 a1 a2 a3 ⟨a4, a5, a6⟩ => ⟨a4, p, a5, a2, a3, a6⟩) ?_) ?_ fun _ _ z => z)
   . rw [show vs.length = xs.length by omega]
     refine yO (lt := fun i j => cb (kf (xs.getD i .bz)) (kf (xs.getD j .bz))) (S := fun z => z = s') ⟨fun _ => o6 _, fun _ _ => vk, fun _ _ _ => v9⟩ (t7 I ry dv) (by omega) (fun p s2 hs hp hu => ⟨hs, hp, hu⟩) s' rfl
   . rintro ⟨⟨⟩, tW⟩ s2 ⟨rfl, p, hp, Ol, hf, hu⟩
     dsimp only
     refine lU (out := p.toList.map fun i => vs.getD i Value.none) (ys := p.toList.map fun i => xs.getD i .bz) I fa fk xA xQ oa ok (by omega) (kat_snds Eg Ol) (by simp [hp.sz]; omega) hf (mE rx _) (fun s3 I3 => h s3 ⟨.ref a, _, I3, rfl, fin a _ H' sm Lc fa.1 (vq hp hu)⟩)
theorem qN {l : Addr} {xs : List V} {Q : VK} {E : Value -> Shared -> Prop} (I : Inv X pins σ H s) (hl : bF X.K H l xs) (wx : xs.length < 64) (F : bQ X.prog X.w X.K X.mg X.base iV k f fd ps sp) (hb : Binds X.K fd ps []) (hr : cf (k + 2) X.A)
 (hk : qB sp kf H xs) (fin : sy X pins σ H cb kf xs Q) : wpAny (model X.prog X.w) X.A (call (.builtin "sorted") [.ref l] [(Str.ofString "key", .ref f)]) (EP X pins σ Q) E s := by
 have Kz : (64 : Nat) <= sizeLine := by decide
 obtain ⟨vs, rv, p, hz⟩ := I.list hl
 have lx := rv.length
 refine call_function_entry_kw kind_sorted plain_sorted entry_sorted (ksk_s1 _ _) ?_
 unfold Builtin.«sorted»
 refine wpAny_bind (m := checkCount "sorted" 1 1 _) (wpAny_pure ?_)
 refine wpAny_bind (collect_list p.isList ?_ (by omega))
 refine wpAny_bind (wpAny_newList ?_ (by omega))
 have Pq : cM X pins H s.heap.objs.size := I.kC (Nat.le_refl _) (I.aK.fresh (Nat.le_refl _))
 have I2 : Inv X pins σ H { s with heap := (s.heap.push (seqObj "list" #[] 0)).update s.heap.objs.size (Obj.mapSeq (· ++ vs.toArray)) } := (I.rT (o := seqObj "list" #[] 0)).vR Pq
 have hsz : ((s.heap.push (seqObj "list" #[] 0)).update s.heap.objs.size (Obj.mapSeq (· ++ vs.toArray))).objs.size = s.heap.objs.size + 1 := by rw [Heap.size_update, size_push']
 generalize hG : (s.heap.push (seqObj "list" #[] 0)).update s.heap.objs.size (Obj.mapSeq (· ++ vs.toArray)) = h2 at I2 hsz ⊢
 have sr : (h2.push (seqObj "list" vs.toArray 0)).get? h2.objs.size = some (seqObj "list" vs.toArray 0) := Heap.get?_push_size _ rfl
 have I3 : Inv X pins σ H { s with heap := h2.push (seqObj "list" vs.toArray 0) } := I2.rT
 have fa : cM X pins H h2.objs.size := I2.kC (Nat.le_refl _) (I2.aK.fresh (Nat.le_refl _))
 have xQ : X.cN.heap.objs.size <= h2.objs.size := I2.sz
 show wpAny _ _ _ _ _ { s with heap := h2.push (seqObj "list" vs.toArray 0) }
 generalize h2.objs.size = a at *
 refine wpAny_bind (wpAny_holding (wpAny_call_entry_kw slot_list_sort ⟨_, sr, rfl⟩ entry_list_sort ?body (ksk_l1 _ _)))
 case body =>
  show wpAny (model X.prog X.w) X.A.in1.in1 (Builtin.«list.sort» ⟨[.ref a], [(Str.ofString "key", .ref f)]⟩) _ _ _
  rw [ksk_t1]
  generalize h2.push (seqObj "list" vs.toArray 0) = h3 at *
  unfold ksk_tree
  refine wpAny_bind (listItems_at sr rfl ?_)
  refine wpAny_bind (listUpdate_at sr rfl ?_ (by rw [List.size_toArray]; omega) (Nat.zero_le _))
  have I4 : Inv X pins σ H { s with heap := h3.update a (Obj.mapSeq fun _ => (#[] : Array Value)) } := I3.vR fa
  obtain ⟨e1, oa⟩ : ∃ e1, (h3.update a (Obj.mapSeq fun _ => (#[] : Array Value))).get? a = some (seqObj "list" #[] e1) := ⟨_, get?_update_seq sr fun _ => #[]⟩
  generalize h3.update a (Obj.mapSeq fun _ => (#[] : Array Value)) = h4 at *
  refine wpAny_bind (seqEpoch_at oa rfl ?_)
  refine wpAny_bind (wpAny_newTuple ?_ (by show vs.length <= _; omega))
  have I5 : Inv X pins σ H { s with heap := h4.push (seqObj "tuple" vs.toArray 0) } := I4.rT
  have Ly : (h4.push (seqObj "tuple" vs.toArray 0)).get? a = some (seqObj "list" #[] e1) := Heap.get?_push_of_some _ oa
  show wpAny _ _ _ _ _ { s with heap := h4.push (seqObj "tuple" vs.toArray 0) }
  generalize h4.push (seqObj "tuple" vs.toArray 0) = h5 at *
  refine wpAny_bind (wpAny_newList ?_ (Nat.zero_le _))
  have I6 : Inv X pins σ H { s with heap := h5.push (seqObj "list" #[] 0) } := I5.rT
  have fk : cM X pins H h5.objs.size := I5.kC (Nat.le_refl _) (I5.aK.fresh (Nat.le_refl _))
  have OJ : (h5.push (seqObj "list" #[] 0)).get? a = some (seqObj "list" #[] e1) := Heap.get?_push_of_some _ Ly
  have NW : (h5.push (seqObj "list" #[] 0)).get? h5.objs.size = some (seqObj "list" #[] 0) := Heap.get?_push_size _ rfl
  have xA : a ≠ h5.objs.size := Nat.ne_of_lt (Heap.lt_size Ly)
  show wpAny _ _ _ _ _ { s with heap := h5.push (seqObj "list" #[] 0) }
  show wpAny _ _ (holding [_, .ref h5.objs.size] (ksk_rest a (.ref f) false vs.toArray e1 (.ref h5.objs.size))) _ _ _
  generalize h5.objs.size = kS at *
  generalize h5.push (seqObj "list" #[] 0) = h6 at *
  refine wpAny_holding ?_
  unfold ksk_rest
  refine wpAny_bind (wpAny_rule ?_)
  first
   | rw [List.forIn_toArray]
   | (rw [<- Array.forIn_toList]; simp only [List.toList_toArray])
  refine wpAny_bind (wpAny_mono (mF (kf := kf) F hb hr (oa := seqObj "list" #[] e1) (fun v z => by cases z) (fun x s' R hx => ?_) fa fk xA xs vs [] { s with heap := h6 } rv hk (by simpa using wx) ⟨H, [], 0, [], I6, ah.refl _, fa.1, fk.1, OJ, NW, .nil, .nil⟩) (fun _ s7 hK => ?_) fun _ _ z => z)
  . refine wpAny_bind (wpAny_attempt (wpAny_mono hx (fun kv s2 hq => ?_) fun _ _ z => z.elim))
    obtain ⟨us, e, ok, b4, hR⟩ := hq
    dsimp only
    refine wpAny_bind (listUpdate_at ok rfl ?_ (by rw [List.size_toArray]; omega) (by rw [Array.size_push, List.size_toArray]; omega))
    exact wpAny_pure ⟨rfl, hR⟩
  . obtain ⟨H', us, e, ys, I7, sm, MQ, OV, NR, KR, ry, dv⟩ := hK
    try dsimp only
    refine wpAny_bind (listItems_at KR rfl ?_)
    refine wC sm fa.1 I7 (fa.keep MQ) (fk.keep OV) xA xQ NR KR wx rv ry (by simpa using dv) fin (fun s8 h8 => ⟨_, rfl, wpAny_pure ⟨_, rfl, h8⟩⟩)
end
def qI (sp : Sp) (K : PySem.W.Frag) (vs : List V) (H : Hp) (Q : VK) : Prop := ∃ a xs kf, vs = [.ref a] /\ bF K H a xs /\ xs.length < 64 /\ qB sp kf H xs /\ ∀ l ys H', ah H H' -> H l = none -> H' l = none -> nI cb kf ys xs -> Q (.ref l) (upd H' l (.lst ys))
def wA (K : PySem.W.Frag) (sp : Sp) (t : TA) : TE := fun σ H Q => t σ H fun vs H1 => qI sp K vs H1 Q
section
variable {X : Cx} {k : Nat} {f : Addr} {ps : List Str} {sp : Sp} {e : Expr} {t : TA} {x : Str} {p p2 pos DG : Pos}
theorem wU (c : lg X.prog X.w X.K X.mg X.base k f ps [] sp) (hr : cf (k + 2) X.A) (hg : Gl X "sorted") (hm : X.mg "sorted" = none) (hf : PE X (.Name x p2) (tC (.ref f))) (ha : PA X [e] t)
 (xM : backTo pos (starEach [e] X.env) = (false, eval e X.env) :: backTo pos (starEach [] X.env) := by rfl) (mB : (backTo pos (starEach [e] X.env)).any (·.1) = false := by rfl) : PE X (.Call (.Name "sorted" p) [e] [⟨some "key", .Name x p2, DG⟩] pos) (wA X.K sp t) := by
 intro pins s σ H Q I h
 obtain ⟨fd, ds, F, hb, hd⟩ := c.ex
 cases hd
 refine wpAny_Call_Name_kw (dO I hg hm boot_sorted ?_)
 refine callWith_kw (bO (ha pos pins s σ H _ I h) fun us s1 ⟨vs, H1, I1, r1, q1⟩ => ?_) xM mB
 refine bO (zG hf CY pos pins s1 σ H1 (fun zs H2 => zs = [.ref f] /\ H2 = H1) I1 ⟨rfl, rfl⟩) fun ws s2 ⟨zs, H2, I2, rz, q2, q3⟩ => ?_
 subst q2; subst q3
 obtain ⟨a, xs, kf, e1, hl, wx, hk, fin⟩ := q1
 subst e1
 obtain ⟨u, rfl, ru⟩ := vals1 r1
 obtain ⟨w', rfl, vx⟩ := vals1 rz
 have e1 : u = .ref a := ru
 have e2 : w' = .ref f := vx
 subst e1; subst e2
 exact qN I2 hl wx F hb hr hk (fun a ys H' => fin a ys H')
end
end L2
namespace L2
open PySem PySem.Spec PyProof.Rows
theorem kD {scope : Scope} {env : Env} (h : ∀ x ∈ scope.names, x.2 = .free -> ∃ c, env.cells.lookup x.1 = some c) :
 ∃ cl, closureFor scope env = pure cl /\ (∀ x c, cl.lookup x = some c -> env.cells.lookup x = some c) /\ ∀ x ∈ scope.names, x.2 = .free -> ∃ c, cl.lookup x.1 = some c := by
 have key : ∀ (l : List (Str × NameKind)) (acc : List (Str × Addr)), (∀ x ∈ l, x.2 = .free -> ∃ c, env.cells.lookup x.1 = some c) -> (∀ x c, acc.lookup x = some c -> env.cells.lookup x = some c) ->
  ∃ cl, (forIn l acc (fun (x : Str × NameKind) (r : List (Str × Addr)) => (match x with
    | (name, kind) => if (kind == NameKind.free) = true then (do let c <- cellOf env name; pure (ForInStep.yield ((name, c) :: r))) else pure (ForInStep.yield r) : Sem (ForInStep (List (Str × Addr))))) : Sem _) = pure cl /\
    (∀ x c, cl.lookup x = some c -> env.cells.lookup x = some c) /\ (∀ x ∈ l, x.2 = .free -> ∃ c, cl.lookup x.1 = some c) /\ ∀ x, (∃ c, acc.lookup x = some c) -> ∃ c, cl.lookup x = some c := by
  intro l
  induction l with
  | nil => intro acc _ ha; exact ⟨acc, rfl, ha, fun _ z => (nomatch z), fun _ z => z⟩
  | cons p r ih =>
    intro acc hl ha
    obtain ⟨n, k⟩ := p
    rw [List.forIn_cons]
    by_cases hk : k = .free
    . subst hk
      obtain ⟨c, hc⟩ := hl (n, .free) List.mem_cons_self rfl
      have mG : cellOf env n = pure c := by unfold cellOf; rw [hc]
      obtain ⟨cl, e, h1, h2, h3⟩ := ih ((n, c) :: acc) (fun x hx => hl x (List.mem_cons_of_mem _ hx)) (fun x d hd => by
       rw [List.lookup_cons] at hd
       by_cases hx : x = n
       . subst hx; rw [beq_self_eq_true] at hd; cases hd; exact hc
       . rw [beq_eq_false_iff_ne.mpr hx] at hd; exact ha x d hd)
      refine ⟨cl, ?_, h1, fun x hx hf => ?_, fun x ⟨d, hd⟩ => h3 x ?_⟩
      . simp only [beq_self_eq_true, if_true, mG]
        exact e
      . rcases List.mem_cons.mp hx with rfl | hx
        . exact h3 n ⟨c, by rw [List.lookup_cons, beq_self_eq_true]⟩
        . exact h2 x hx hf
      . rw [List.lookup_cons]
        by_cases hx : x = n
        . subst hx; rw [beq_self_eq_true]; exact ⟨c, rfl⟩
        . rw [beq_eq_false_iff_ne.mpr hx]; exact ⟨d, hd⟩
    . obtain ⟨cl, e, h1, h2, h3⟩ := ih acc (fun x hx => hl x (List.mem_cons_of_mem _ hx)) ha
      refine ⟨cl, ?_, h1, fun x hx hf => ?_, h3⟩
      . have : (k == NameKind.free) = false := by simpa using hk
        simp only [this, Bool.false_eq_true, if_false]
        exact e
      . rcases List.mem_cons.mp hx with rfl | hx
        . exact absurd hf hk
        . exact h2 x hx hf
 obtain ⟨cl, e, h1, h2, _⟩ := key scope.names [] h (fun _ _ z => by simp at z)
 refine ⟨cl, ?_, h1, h2⟩
 unfold closureFor
 show (forIn scope.names [] _ >>= fun cs => pure cs) = _
 refine Eq.trans (congrArg (· >>= _) e) rfl
theorem eU {env : Env} {scope : Scope} {x : Str} : (relabel scope env).names.lookup x = (scope.names.lookup x).map fun k => if (k == NameKind.free && env.scope.kind == .function && env.kindOf x == some .cell) = true then .cell else k := by
 unfold relabel
 show List.lookup x (List.map _ scope.names) = _
 generalize scope.names = l
 induction l with
 | nil => rfl
 | cons p r ih =>
   obtain ⟨n, k⟩ := p
   rw [List.map_cons]
   dsimp only
   by_cases hx : x = n
   . subst hx
     by_cases hc : (k == NameKind.free && env.scope.kind == .function && env.kindOf x == some .cell) = true
     . rw [if_pos hc, List.lookup_cons, List.lookup_cons, beq_self_eq_true]; simp only [Option.map_some, if_pos hc]
     . rw [if_neg hc, List.lookup_cons, List.lookup_cons, beq_self_eq_true]; simp only [Option.map_some, if_neg hc]
   . have hb : (x == n) = false := beq_eq_false_iff_ne.mpr hx
     by_cases hc : (k == NameKind.free && env.scope.kind == .function && env.kindOf n == some .cell) = true
     . rw [if_pos hc, List.lookup_cons, List.lookup_cons, hb]; exact ih
     . rw [if_neg hc, List.lookup_cons, List.lookup_cons, hb]; exact ih
theorem mem_lookup {α : Type} {x : Str} {k : α} : ∀ {l : List (Str × α)}, l.lookup x = some k -> (x, k) ∈ l
 | [], h => by simp at h
 | (n, j) :: r, h => by
   rw [List.lookup_cons] at h
   by_cases hx : x = n
   . subst hx; rw [beq_self_eq_true] at h; cases h; exact List.mem_cons_self
   . rw [beq_eq_false_iff_ne.mpr hx] at h; exact List.mem_cons_of_mem _ (mem_lookup h)
def dR (X : Cx) (N : List Str) (scope : Scope) (cl : List (Str × Addr)) (C : Addr) (s : Shared) (H : Hp) (fp : List Addr) : Cx :=
 { X with N := N, cN := s, uX := H, env := compEnvC scope cl C X.env, outer := X.stack, stack := X.stack, ex := fp, fn := fun _ => false, pn := [], xe := fun _ _ => False }
structure gW (X : Cx) (T M : List Str) (scope : Scope) : Prop where
 kind : scope.kind = .function
 cell : ∀ y ∈ scope.names, y.2 ≠ .cell
 names : ∀ y ∈ scope.names, y.2 = .local -> scope.names.lookup y.1 = some .local
 free : ∀ y ∈ scope.names, y.2 = .free -> X.env.scope.names.lookup y.1 = some .cell \/ X.env.scope.names.lookup y.1 = some .free
 len : M.length = X.N.length
 old : ∀ (i : Nat) x, M[i]? = some x -> X.N[i]? = some x /\ scope.names.lookup x = some .free \/ scope.names.lookup x = none
section
variable {X : Cx} {pins : List (Addr × Obj)} {σ : St} {H : Hp} {s : Shared} {T M : List Str} {scope : Scope} {cl : List (Str × Addr)} {fp : List Addr}
theorem Fh {C : Addr} (I : Inv X pins σ H s) (hN : gW X T M scope) (h1 : ∀ x c, cl.lookup x = some c -> X.env.cells.lookup x = some c) (h2 : ∀ x ∈ scope.names, x.2 = .free -> ∃ c, cl.lookup x.1 = some c)
 (hC : s.heap.objs.size <= C) (hf : ∀ b ∈ fp, cM X pins H b) (D1 : ∀ b ∈ fp, b < s.heap.objs.size) : (dR X (T ++ M) scope cl C s H fp).Ok where
 mod := I.ok.mod
 kind := hN.kind
 glob := I.ok.glob
 blt := I.ok.blt
 above := hC
 inj := fun x y c e1 e2 => I.ok.inj x y c (h1 x c e1) (h1 y c e2)
 has := fun x hx => by
  have jb : (relabel scope X.env).names.lookup x = some .cell \/ (relabel scope X.env).names.lookup x = some .free := hx
  rw [eU] at jb
  cases e : scope.names.lookup x with
  | none => rw [e] at jb; simp at jb
  | some k =>
    have hm := mem_lookup e
    have hk : k = .free := by
     rw [e] at jb
     simp only [Option.map_some, Option.some.injEq] at jb
     by_cases hf : k = .free
     . exact hf
     . have : (k == NameKind.free) = false := by simpa using hf
       simp only [this, Bool.false_and, Bool.false_eq_true, if_false] at jb
       rcases jb with jb | jb
       . exact absurd jb (hN.cell _ hm)
       . exact jb
    exact h2 (x, k) hm hk
 Ec := fun _ _ z => by cases z
 hd := I.ok.hd
 frames := I.ok.frames
 Gd := .inl rfl
 E6 := fun b hb => ⟨Nat.ne_of_lt (Nat.lt_of_lt_of_le (D1 b hb) hC), fun x c e => (hf b hb).2.2.2.2.1 x c (h1 x c e)⟩
 bs := I.bs
 xN := Nat.le_trans I.ok.xN I.sz
 t4 := fun b o e hb => by
  rcases (hf b hb).2.2.2.1 with z | z
  . exact I.ok.t4 b o e z
  . exact absurd (Nat.lt_of_lt_of_le (Heap.lt_size e) (Nat.le_trans I.ok.xN z)) (Nat.lt_irrefl _)
 tK := fun b hb z => by
  rcases List.mem_cons.mp (I.p6 b z) with e | e
  . exact (hf b hb).2.1 e
  . exact (hf b hb).2.2.1 e
 jm := I.stack
 Au := I.r9
theorem vE {C : Addr} {h₁ : Heap} {tk : Nat} (I : Inv X pins σ H s) (hN : gW X T M scope) (h1 : ∀ x c, cl.lookup x = some c -> X.env.cells.lookup x = some c) (h2 : ∀ x ∈ scope.names, x.2 = .free -> ∃ c, cl.lookup x.1 = some c)
 (hC : s.heap.objs.size <= C) (hf : ∀ b ∈ fp, cM X pins H b) (D1 : ∀ b ∈ fp, b < s.heap.objs.size)
 {m : Str -> Option Value} (hn : h₁.Ns C m) (old : ∀ b o, s.heap.get? b = some o -> h₁.get? b = some o) :
 Inv (dR X (T ++ M) scope cl C s H fp) [] (List.replicate T.length none ++ σ) H { s with heap := h₁, toks := tk } where
 ok := Fh I hN h1 h2 hC hf D1
 os := rfl
 bare := I.bare
 base := Un.kept old
 loc := by
  refine ⟨m, hn, fun i x v e1 e2 e3 => ?_⟩
  have GV : (T ++ M)[i]? = some x := e1
  by_cases hi : i < T.length
  . rw [List.getElem?_append_left (by simpa using hi), List.getElem?_replicate, if_pos hi] at e2
    cases e2
  . have Am : T.length <= i := Nat.le_of_not_lt hi
    rw [List.getElem?_append_right Am] at GV
    rw [List.getElem?_append_right (by simpa using Am), List.length_replicate] at e2
    have J3 : Gk (relabel scope X.env) x := e3
    rcases hN.old _ x GV with ⟨hx, HM⟩ | Hk
    . obtain ⟨m0, xQ, Aj⟩ := I.loc
      have hk := hN.free _ (mem_lookup HM) rfl
      have xB : X.env.scope.names.lookup x = some .cell \/ X.env.scope.names.lookup x = some .free := hk
      obtain ⟨u, r, l⟩ := Aj _ x v hx e2 (.inr xB)
      refine ⟨u, r, .inr ?_⟩
      rcases l with ⟨z, _⟩ | ⟨_, c, hc, mG⟩
      . have z' : X.env.scope.names.lookup x = some .local := z
        rw [z'] at xB; rcases xB with q | q <;> cases q
      . obtain ⟨c', xJ⟩ := h2 _ (mem_lookup HM) rfl
        have : c' = c := by have := h1 _ _ xJ; rw [hc] at this; exact (Option.some.inj this).symm
        subst this
        refine ⟨?_, c', xJ, ?_⟩
        . show (relabel scope X.env).names.lookup x = some .cell \/ (relabel scope X.env).names.lookup x = some .free
          rw [eU, HM]
          simp only [Option.map_some, Option.some.injEq]
          by_cases hc : (NameKind.free == NameKind.free && X.env.scope.kind == .function && X.env.kindOf x == some .cell) = true
          . left; rw [if_pos hc]
          . right; rw [if_neg hc]
        . obtain ⟨o, ho, hd⟩ := mG
          exact ⟨o, old _ _ ho, hd⟩
    . unfold Gk at J3
      rw [eU, Hk] at J3
      simp at J3
 cell := fun x c e => by
  obtain ⟨v, o, ho, hd⟩ := I.cell x c (h1 x c e)
  exact ⟨v, o, old _ _ ho, hd⟩
 free := I.aK.fresh hC
 eI := fun x c e => I.eI x c (h1 x c e)
 pin := fun p hp => nomatch hp
 aK := I.aK.kept old
 len := by
  show (List.replicate T.length none ++ σ).length = (T ++ M).length
  rw [List.length_append, List.length_append, List.length_replicate, hN.len, I.len]
theorem x4 {C D : Addr} {s' : Shared} {σ' : St} {H' : Hp} {acc : List V} {aD : List Value} {n : Nat} (I : Inv X pins σ H s) (I' : Inv (dR X (T ++ M) scope cl C s H fp) [] σ' H' s')
 (hf : ∀ b ∈ fp, cM X pins H b) (hD : s.heap.objs.size <= D) (hn : H' D = none) (hl : acc.length <= sizeLine) (r : Vals acc aD) (hd : s'.heap.get? D = some { cls := .type "list", data := .seq aD.toArray n }) :
 Inv X pins σ (upd H' D (.lst acc)) s' := by
 have U : Un (o9 X.stack) fp H H' s.heap s'.heap := I'.base
 have O4 : ∀ b o, s.heap.get? b = some o -> b ≠ D := fun b o e => Nat.ne_of_lt (Nat.lt_of_lt_of_le (Heap.lt_size e) hD)
 have neT : ∀ b u, H' b = some u -> b ≠ D := fun b u e => aH e hn
 refine I.E8 (ch := fp) I'.os ⟨U.keep, U.slot, fun b o e1 e2 e3 => ?_, U.there, fun b xs e => ?_, fun b o u e => ?_, fun b ps e => ?_⟩ (fun b u e => ?_) I'.bare (fun b hb => ⟨(hf b hb).2.2.2.1, (hf b hb).2.1, (hf b hb).2.2.2.2.1, (hf b hb).2.2.2.2.2⟩)
 . rw [aw (O4 b o e1)]; exact U.free b o e1 e2 e3
 . rw [aw (neT b _ (U.j3 b xs e))]; exact U.j3 b xs e
 . rw [aw (neT b _ (U.ji b o u e))]; exact U.ji b o u e
 . obtain ⟨more, q⟩ := U.lQ b ps e
   exact ⟨more, by rw [aw (neT b _ q)]; exact q⟩
 . by_cases hb : b = D
   . subst hb
     rw [aA] at e
     cases e
     exact ⟨hl, aD, n, r, hd⟩
   . rw [aw hb] at e
     exact (I'.aK b u e).nq (fun c v _ q => q) (fun c q => by rw [aw (neT c _ q)]; exact q) fun c xs q => by rw [aw (neT c _ q)]; exact q
end
theorem qM {prog : Program} {w : World} {A : Around} {R : Result -> Shared -> Prop} {s : Shared} {elt target iter : Expr} {ifs : List Expr} {scope : Scope} {pos : Pos} {it acc : Value} {env : Env} (I : Nat -> Shared -> Prop)
 (turn : ∀ n s, I n s -> wpAny (model prog w) A (pyNext it) (fun r s₁ => match r with
  | none => R (.ok .next) s₁
  | some v => wpAny (model prog w) A (letOwnedTupleGo target it v) (fun _ z1 => wpAny (model prog w) A (assign target env v) (fun _ s₂ =>
   wpAny (model prog w) A (forIn ifs true fun c r => if r = true then do let ok <- isTrue c env (eval c env); pure (ForInStep.yield ok) else pure (ForInStep.yield r)) (fun ok s₃ =>
    if ok = true then wpAny (model prog w) A (eval elt env) (fun x s₄ =>
     wpAny (model prog w) A (call (.builtin "list.append") [acc, x]) (fun _ s₅ => ∃ m, m < n /\ I m s₅) (fun _ _ => False) s₄) (fun _ _ => False) s₃
    else ∃ m, m < n /\ I m s₃) (fun _ _ => False) s₂) (fun _ _ => False) z1) (fun _ _ => False) s₁) (fun _ _ => False) s)
 (n : Nat) (h : I n s) :
 codeAny (model prog w) A (.compLoop (.ListComp elt [⟨target, iter, ifs, 0⟩] scope pos) 0 it acc env) R s := by
 refine codeAny_loop rfl I (fun n s hI => ?_) n h
 show wpAny _ A ((compTurn (.ListComp elt [⟨target, iter, ifs, 0⟩] scope pos) 0 it acc env).onRaise (fun x => do noteFrame x env; theTreesLotGoes x)) _ _ s
 refine wpAny_noted ?_
 rw [compTurn_list]
 refine wpAny_bind (wpAny_standAt (wpAny_bind (wpAny_mono (turn n s hI) (fun r s₁ h₁ => ?_) fun _ _ h' => h'.elim)))
 cases r with
 | none => exact wpAny_pure h₁
 | some v =>
   refine wpAny_bind (wpAny_mono h₁ (fun _ z1 F3 => ?_) fun _ _ h' => h'.elim)
   refine wpAny_bind (wpAny_mono F3 (fun _ s₂ h₂ => wpAny_bind (wpAny_mono h₂ (fun ok s₃ h₃ => ?_) fun _ _ h' => h'.elim)) fun _ _ h' => h'.elim)
   cases ok with
   | false => exact wpAny_pure ⟨rfl, h₃⟩
   | true =>
     exact wpAny_bind (wpAny_bind (wpAny_mono h₃ (fun x s₄ h₄ => wpAny_bind (wpAny_mono h₄ (fun _ s₅ h₅ => wpAny_pure (wpAny_pure ⟨rfl, h₅⟩)) fun _ _ h' => h'.elim)) fun _ _ h' => h'.elim))
def GJ (X : Cx) (ifs : List Expr) (t : TT) : Prop :=
 ∀ (pins : List (Addr × Obj)) (s : Shared) (σ : St) (H : Hp) (Q : Bool -> Hp -> Prop), Inv X pins σ H s -> t σ H Q ->
   wpAny (model X.prog X.w) X.A (forIn ifs true fun c r => if r = true then do let ok <- isTrue c X.env (eval c X.env); pure (ForInStep.yield ok) else pure (ForInStep.yield r)) (TP X pins σ Q) X.xe s
def Kx : TT := fun _ H Q => Q true H
theorem di {X : Cx} : GJ X [] Kx := fun _ _ _ H _ I h => wpAny_tests_nil ⟨H, I, h⟩
theorem kh {X : Cx} {c : Expr} {t : TT} (h : PT X c t) : GJ X [c] t := fun pins s σ H Q I q => wpAny_tests_one (h pins s σ H Q I q)
def Ed (k : Nat) (g : TG) (tc : TT) (te : TE) (Fin : List V -> Hp -> Prop) (σ : St) (J : It) (H1 : Hp) : Prop :=
 ∃ W : Nat -> Nat -> List V -> Hp -> Prop, (∃ m, W 0 m [] H1) /\ ∀ i m acc H, W i m acc H ->
   (J.stop i H /\ Fin acc H) \/ (J.go i H /\ acc.length < sizeLine /\ ∀ x H', J.yC i H x H' -> g x (List.replicate k none ++ σ) H' fun σ2 H2 => tc σ2 H2 fun b H3 =>
    if b = true then te σ2 H3 fun y H4 => ∃ m', m' < m /\ W (i + 1) m' (acc ++ [y]) H4 else ∃ m', m' < m /\ W (i + 1) m' acc H3)
section
variable {X : Cx} {pins : List (Addr × Obj)} {σ : St} {H : Hp} {s : Shared} {T M : List Str} {scope : Scope} {cl : List (Str × Addr)} {fp : List Addr} {g : TG} {tc : TT} {te : TE} {tg elt iter : Expr} {ifs : List Expr} {pos : Pos}
theorem Inv.forget {X : Cx} {pins : List (Addr × Obj)} {σ σ' : St} {H : Hp} {s : Shared} (I : Inv X pins σ' H s) (k : Nat) (hk : k + σ.length = σ'.length) (h : σ'.drop k = σ) : Inv X pins (List.replicate k none ++ σ) H s := by
 refine I.weak (by simp [hk]) (fun i v e => ?_)
 by_cases hi : i < k
 . rw [List.getElem?_append_left (by simpa using hi), List.getElem?_replicate, if_pos hi] at e; cases e
 . rw [List.getElem?_append_right (by simpa using hi), List.length_replicate, <- h, List.getElem?_drop] at e
   have : k + (i - k) = i := by omega
   rw [this] at e; exact e
theorem wK {it : Addr} {tn : Nat -> Heap -> Prop} {J : It} {RR : Value -> Addr -> Result -> Shared -> Prop} {Fin : List V -> Hp -> Prop} {E : Value -> Shared -> Prop}
 (hN : gW X T M scope) (mI : X.calm = true) (h1 : ∀ x c, cl.lookup x = some c -> X.env.cells.lookup x = some c) (h2 : ∀ x ∈ scope.names, x.2 = .free -> ∃ c, cl.lookup x.1 = some c)
 (hg : ∀ cl C s H fp, PG (dR X (T ++ M) scope cl C s H fp) tg g) (N0 : ∀ v H Q, g v (List.replicate T.length none ++ σ) H Q -> g v (List.replicate T.length none ++ σ) H fun σ2 H2 => Q σ2 H2 /\ T.length + σ.length = σ2.length /\ σ2.drop T.length = σ)
 (hc : ∀ cl C s H fp, GJ (dR X (T ++ M) scope cl C s H fp) ifs tc) (he : ∀ cl C s H fp, PE (dR X (T ++ M) scope cl C s H fp) elt te)
 (I : Inv X pins σ H s) (Tn : Turn X.prog X.w X.K tg J fp it tn) (st : tn 0 s.heap) (hf : ∀ b ∈ fp, cM X pins H b) (hW : Ed T.length g tc te Fin σ J H)
 (hR : ∀ D C s' H' acc m, s.heap.objs.size <= D -> s.heap.objs.size <= C -> C ≠ D -> s'.heap.Ns C m -> H' C = none -> H' D = none -> Inv X pins σ (upd H' D (.lst acc)) s' -> Fin acc H' -> RR (.ref D) C (.ok .next) s') :
 wpAny (model X.prog X.w) X.A (newList []) (fun acc s₃ => wpAny (model X.prog X.w) X.A (newFunctionEnv scope X.env.globals cl [] X.env.qual none .none (some X.env)) (fun Fx s₄ =>
  codeAny (model X.prog X.w) X.A (.compStart (.ListComp elt [⟨tg, iter, ifs, 0⟩] scope pos) 0 (.ref it) acc { Fx with scope := relabel scope X.env }) (RR acc Fx.locals) s₄) E s₃) E s := by
 refine wpAny_newObj_type (wpAny_newFunctionEnv hN.cell (by intro y hy; simp at hy) (fun h₁ pZ nZ => ?_) hN.kind)
 dsimp only at pZ nZ ⊢
 generalize Ih : s.heap.push { cls := .type "list", dict := none, data := .seq ([] : List Value).toArray } = H2 at pZ nZ ⊢
 have hC : H2.objs.size = s.heap.objs.size + 1 := by rw [<- Ih, Heap.size_push]
 have Hw : s.heap.objs.size ≠ H2.objs.size := by rw [hC]; exact Nat.ne_of_lt (Nat.lt_succ_self _)
 have Bd : s.heap.objs.size <= H2.objs.size := by rw [hC]; exact Nat.le_succ _
 have D1 : ∀ b ∈ fp, b < s.heap.objs.size := fun b hb => by obtain ⟨o, ho, _⟩ := Tn.obj _ _ st b hb; exact Heap.lt_size ho
 have old : ∀ b o, s.heap.get? b = some o -> h₁.get? b = some o := fun b o e => nZ.extBut b o (Nat.ne_of_lt (Nat.lt_of_lt_of_le (Heap.lt_size e) Bd)) (Heap.get?_push_of_some _ (Ih ▸ Heap.get?_push_of_some _ e))
 have eK : h₁.PlainList s.heap.objs.size #[] := ⟨_, nZ.extBut _ _ Hw (Heap.get?_push_of_some _ (Ih ▸ Heap.get?_push_size _ rfl))⟩
 generalize B9 : s.heap.objs.size = D at *
 generalize PD : H2.objs.size = C at *
 have I0 : Inv (dR X (T ++ M) scope cl C s H fp) [] (List.replicate T.length none ++ σ) H { s with heap := h₁, toks := s.toks + ([] : List (Str × Value)).length } :=
  vE I hN h1 h2 (by rw [B9]; exact Bd) hf (by rw [B9]; exact D1) pZ old
 have L8 : tn 0 h₁ := Tn.keep _ _ _ st fun b _ o e => old b o e
 obtain ⟨W, ⟨m0, w0⟩, turn⟩ := hW
 have LC : ∀ b ∈ fp, b ≠ D := fun b hb => Nat.ne_of_lt (D1 b hb)
 have stat : ∀ {H' : Hp} {pl : List (Addr × Obj)}, (∀ b ∈ fp, H' b = none) -> (∀ p ∈ pl, p.1 = D) -> ∀ b ∈ fp, cM (dR X (T ++ M) scope cl C s H fp) pl H' b := fun {H' pl} hn hp b hb => by
  have ok := I0.ok
  refine ⟨hn b hb, (ok.E6 b hb).1, ok.tK b hb, .inl hb, (ok.E6 b hb).2, fun p hq => ?_⟩
  have Cq : p ∈ pl := hq
  rw [hp p Cq]; exact Ne.symm (LC b hb)
 have loop : codeAny (model X.prog X.w) X.A (.compLoop (.ListComp elt [⟨tg, iter, ifs, 0⟩] scope pos) 0 (.ref it) (.ref D) (compEnvC scope cl C X.env)) (RR (.ref D) C) { s with heap := h₁, toks := s.toks + ([] : List (Str × Value)).length } := by
  refine qM (fun n s' => ∃ i acc H' aD, Inv (dR X (T ++ M) scope cl C s H fp) [] (List.replicate T.length none ++ σ) H' s' /\ tn i s'.heap /\ (∀ b ∈ fp, H' b = none) /\ s'.heap.PlainList D aD /\ H' D = none /\ Vals acc aD.toList /\ acc.length <= sizeLine /\ W i n acc H') ?_ m0
   ⟨0, [], H, #[], I0, L8, fun b hb => (hf b hb).1, eK, I.aK.fresh (by rw [B9]; exact Nat.le_refl _), .nil, Nat.zero_le _, w0⟩
  rintro n s3 ⟨i, acc, H3, aD, I3, Gm, Fm, ⟨nn, ho⟩, IA, hv, hlen, w3⟩
  have HW : ∀ {H'} {s'} {σ'} {o : Obj}, Inv (dR X (T ++ M) scope cl C s H fp) [] σ' H' s' -> s'.heap.get? D = some o -> (∀ v, o.data ≠ .cell v) -> H' D = none -> Inv (dR X (T ++ M) scope cl C s H fp) [(D, o)] σ' H' s' := fun {H' s' σ' o} I' e d hn => by
   refine I'.gT fun p hp => ?_
   have e' : p = (D, o) := by simpa using hp
   subst e'
   refine ⟨e, hn, Hw, fun z => ?_, d⟩
   have z' : D ∈ o9 X.stack := z
   obtain ⟨_, o', wq, _⟩ := I.stack.mem z'
   exact absurd (Heap.lt_size wq) (by rw [B9]; exact Nat.lt_irrefl _)
  have KA := HW I3 ho (fun v z => by cases z) IA
  rcases turn i n acc H3 w3 with ⟨stop, fin⟩ | ⟨go, hl, step⟩
  . refine bO (Tn.done (dR X (T ++ M) scope cl C s H fp) rfl rfl rfl mI i _ s3 _ H3 _ KA (stat Fm (by simp)) Gm stop) fun r s4 ⟨hr, I4⟩ => ?_
    subst hr
    have e4 := (I4.pin (D, _) (List.mem_append_right _ List.mem_cons_self)).1
    have IL : Inv (dR X (T ++ M) scope cl C s H fp) [] (List.replicate T.length none ++ σ) H3 s4 := I4.gT fun p hp => nomatch hp
    obtain ⟨m4, n4, _⟩ := IL.loc
    exact hR D C s4 H3 acc m4 (Nat.le_refl _) Bd (Ne.symm Hw) n4 IL.free IA (x4 I IL hf (by rw [B9]; exact Nat.le_refl _) IA hlen hv (by simpa using e4)) fin
  . refine bO (Tn.item (dR X (T ++ M) scope cl C s H fp) rfl rfl rfl mI i _ s3 _ H3 _ KA (stat Fm (by simp)) Gm go) fun r s4 ⟨u, hr, h4⟩ => ?_
    subst hr
    refine bO h4 fun _ s5 ⟨x, H5, I5, r5, y5, B7, JE⟩ => ?_
    have JA := I5.pinned (stat JE (by simp)) (Tn.obj _ _ B7)
    refine bO (hg _ _ _ _ _ _ s5 _ H5 x u _ JA r5 (N0 _ _ _ (step x H5 y5))) fun _ s6 ⟨σ6, H6, I6, q6, Ny, NV⟩ => ?_
    refine bO (hc _ _ _ _ _ _ s6 σ6 H6 _ I6 q6) fun b s7 ⟨H7, I7, q7⟩ => ?_
    have rest : ∀ {s8 : Shared} {H8 : Hp}, Inv (dR X (T ++ M) scope cl C s H fp) ([(D, _)] ++ kK fp s5.heap) σ6 H8 s8 -> tn (i + 1) s8.heap /\ (∀ b ∈ fp, H8 b = none) /\ s8.heap.PlainList D aD /\ H8 D = none /\ Inv (dR X (T ++ M) scope cl C s H fp) [] (List.replicate T.length none ++ σ) H8 s8 := fun {s8 H8} I8 => by
     refine ⟨Tn.keep _ _ _ B7 fun b hb o e => (I8.pin (b, o) (List.mem_append_right _ (List.mem_append_right _ (fc hb e)))).1, fun b hb => ?_, ⟨nn, (I8.pin (D, _) (List.mem_append_right _ (List.mem_append_left _ List.mem_cons_self))).1⟩, (I8.pin (D, _) (List.mem_append_right _ (List.mem_append_left _ List.mem_cons_self))).2.1, (I8.forget T.length Ny NV).gT fun p hp => nomatch hp⟩
     obtain ⟨o, e, d⟩ := Tn.obj _ _ B7 b hb
     exact (I8.pin (b, o) (List.mem_append_right _ (List.mem_append_right _ (fc hb e)))).2.1
    cases b with
    | false =>
      obtain ⟨m', hm, w7⟩ := q7
      obtain ⟨a1, a2, a3, a4, a5⟩ := rest I7
      exact ⟨m', hm, i + 1, acc, H7, aD, a5, a1, a2, a3, a4, hv, hlen, w7⟩
    | true =>
      refine bO (he _ _ _ _ _ _ s7 σ6 H7 _ I7 q7) fun y s8 ⟨yv, H8, I8, r8, m', hm, w8⟩ => ?_
      obtain ⟨a1, a2, a3, a4, a5⟩ := rest I8
      have hsz : aD.size <= sizeLine := by have := hv.length; simp at this; omega
      refine wpAny_list_append_plain (hsz := hsz) a3 fun h9 Km Lp => ?_
      refine ⟨m', hm, i + 1, acc ++ [yv], H8, aD.push y, ?_, ?_, a2, Km, a4, ?_, by simp; omega, w8⟩
      . exact a5.turned (t' := s8.toks) (it := D) (fun b o hb e => (Lp.2 b hb).trans e) a4 Hw (.inr (by show s.heap.objs.size <= D; rw [B9]; exact Nat.le_refl _)) (fun x c e z => by
         obtain ⟨v, o, ho, _⟩ := I.cell x c (h1 x c e)
         exact absurd (Heap.lt_size ho) (by rw [B9, z]; exact Nat.lt_irrefl _)) (fun p hp => nomatch hp)
      . exact Tn.keep _ _ _ a1 fun b hb o e => (Lp.2 b (LC b hb)).trans e
      . simpa using Vals.append hv (.cons r8 .nil)
 exact codeAny_compStart_list loop (Tn.self _ _ _ _ _ L8 loop)
end
def yQ (k : Nat) (g : TG) : Prop := ∀ v (τ σ : St) H Q, τ.length = k -> g v (τ ++ σ) H Q -> g v (τ ++ σ) H fun σ2 H2 => Q σ2 H2 /\ ∃ τ', τ'.length = k /\ σ2 = τ' ++ σ
def sH (k : Nat) (g : wX) : Prop := ∀ vs (τ σ : St) H Q, τ.length = k -> g vs (τ ++ σ) H Q -> g vs (τ ++ σ) H fun σ2 H2 => Q σ2 H2 /\ ∃ τ', τ'.length = k /\ σ2 = τ' ++ σ
theorem cq {k i : Nat} (h : i < k) : yQ k (cO i) := fun v τ σ H Q hl q => by
 have e : (τ ++ σ).set i (some v) = τ.set i (some v) ++ σ := List.set_append_left _ _ (by omega)
 exact ⟨q, τ.set i (some v), by simp [hl], e⟩
theorem eL {k : Nat} : sH k ur := fun vs τ σ H Q hl ⟨e, q⟩ => ⟨e, q, τ, hl, rfl⟩
theorem aE {k i : Nat} {u : wX} (h : i < k) (h2 : sH k u) : sH k (eM (cO i) u) := fun vs τ σ H Q hl ⟨v, r, e, q⟩ => by
 have e1 : (τ ++ σ).set i (some v) = τ.set i (some v) ++ σ := List.set_append_left _ _ (by omega)
 refine ⟨v, r, e, ?_⟩
 show u r ((τ ++ σ).set i (some v)) H _
 rw [e1]
 have q' : u r ((τ ++ σ).set i (some v)) H Q := q
 rw [e1] at q'
 exact h2 r _ σ H Q (by simp [hl]) q'
theorem f9 {K : PySem.W.Frag} {k n : Nat} {u : wX} (h : sH k u) : yQ k (pU K n u) := fun v τ σ H Q hl ⟨a, xs, e, hq, hn, q⟩ => ⟨a, xs, e, hq, hn, h xs τ σ H Q hl q⟩
def oO (Q : VK) (acc : List V) (H : Hp) : Prop := ∀ p, H p = none -> Q (.ref p) (upd H p (.lst acc))
def FC (k : Nat) (wi : TI) (g : TG) (tc : TT) (te : TE) : TE := fun σ H Q => wi σ H fun J H1 => Ed k g tc te (oO Q) σ J H1
section
variable {X : Cx} {T M : List Str} {scope : Scope} {g : TG} {tc : TT} {te : TE} {wi : TI} {tg elt iter : Expr} {ifs : List Expr} {pos : Pos}
theorem fS (hN : gW X T M scope) (mI : X.calm = true) (hi : PI X tg iter wi) (hg : ∀ cl C s H fp, PG (dR X (T ++ M) scope cl C s H fp) tg g) (HN : yQ T.length g)
 (hc : ∀ cl C s H fp, GJ (dR X (T ++ M) scope cl C s H fp) ifs tc) (he : ∀ cl C s H fp, PE (dR X (T ++ M) scope cl C s H fp) elt te)
 (hs : ∀ x, foldedSetIterable iter X.env x = pure x := by intro _; rfl) : PE X (.ListComp elt [⟨tg, iter, ifs, 0⟩] scope pos) (FC T.length wi g tc te) := by
 intro pins s σ H Q I h
 obtain ⟨cl, ud, h1, h2⟩ := kD (scope := scope) (env := X.env) fun x hx hf => I.ok.has x.1 (hN.free x hx hf)
 rw [eval_ListComp]
 refine wpAny_comprehension_free (use := none) rfl hs ud hN.kind hN.names (bO (hi pins s σ H _ I h) fun xv s1 rM => bO rM fun Hl s2 BG => ?_)
 obtain ⟨it, fp, tn, J, H2, e, I2, Tn, st, hf, hW⟩ := BG
 subst e
 refine wK (RR := fun acc C => compPost (model X.prog X.w) X.A X.xe none (EP X pins σ Q) acc C) hN mI h1 h2 hg (fun v H Q q => ?_) hc he I2 Tn st hf hW ?_
 . have := HN v (List.replicate T.length none) σ H Q (by simp) q
   refine (by
    have e : (fun (σ2 : St) (H2 : Hp) => Q σ2 H2 /\ T.length + σ.length = σ2.length /\ σ2.drop T.length = σ) = fun σ2 H2 => Q σ2 H2 /\ ∃ τ' : St, τ'.length = T.length /\ σ2 = τ' ++ σ := by
     funext σ2 H2
     refine propext ⟨fun ⟨a, b, c⟩ => ⟨a, σ2.take T.length, by rw [List.length_take]; omega, by rw [<- c, List.take_append_drop]⟩, fun ⟨a, τ', b, c⟩ => ⟨a, by rw [c, List.length_append, b], by rw [c, <- b, List.drop_left]⟩⟩
    rw [e]; exact this)
 . intro D C s' H' acc m hD hC om hn HY IC Ib fin
   refine ⟨m, hn, fun h' pX => ⟨.ref D, _, ?_, rfl, fin D IC⟩⟩
   exact Ib.turned (t' := s'.toks) (it := C) (fun b o hb e => (pX.2 b hb).trans e) (by rw [aw om]; exact HY) (Nat.ne_of_gt (Nat.lt_of_lt_of_le I2.lt hC)) (.inr (Nat.le_trans I2.sz hC)) (fun x c e z => by
    obtain ⟨v, q⟩ := I2.cell x c e
    exact absurd (Nat.lt_of_lt_of_le q.lt (by rw [z]; exact hC)) (Nat.lt_irrefl _)) (fun p hp z => absurd (Nat.lt_of_lt_of_le (Heap.lt_size (I2.pin p hp).1) (by rw [z]; exact hC)) (Nat.lt_irrefl _))
theorem EC {i : Nat} {y : Str} {py Ew : Pos} (xC : X.N.Nodup) (Am : X.N[i]? = some y) (hy : Loc X.env.scope y) (hN : gW X T M scope) (mI : X.calm = true) (hi : PI X tg iter wi) (hg : ∀ cl C s H fp, PG (dR X (T ++ M) scope cl C s H fp) tg g) (HN : yQ T.length g)
 (hc : ∀ cl C s H fp, GJ (dR X (T ++ M) scope cl C s H fp) ifs tc) (he : ∀ cl C s H fp, PE (dR X (T ++ M) scope cl C s H fp) elt te)
 (N9 : swapsWith (.ListComp elt [⟨tg, iter, ifs, 0⟩] scope pos) (some (.Name y py)) Ew.line X.env = pure true)
 (hs : ∀ x, foldedSetIterable iter X.env x = pure x := by intro _; rfl) (M9 : X.fn y = true \/ X.env.scope.names.lookup y = some .local := by first | exact .inl rfl | exact .inr rfl | assumption) :
 PS X (.Assign [.Name y py] (.ListComp elt [⟨tg, iter, ifs, 0⟩] scope pos) Ew) (tF (FC T.length wi g tc te) (cO i)) := by
 intro pins s σ H D' I h
 have h : FC T.length wi g tc te σ H fun x H1 => D'.nx (σ.set i (some x)) H1 := h
 obtain ⟨cl, ud, h1, h2⟩ := kD (scope := scope) (env := X.env) fun x hx hf => I.ok.has x.1 (hN.free x hx hf)
 rw [exec_Assign_Name_used _ _ _ _ N9]
 refine wpAny_bind (wpAny_standAt (wpAny_bind ?_))
 show wpAny _ X.A (do let _ <- comprehension (.ListComp elt [⟨tg, iter, ifs, 0⟩] scope pos) scope X.env _ (newList []) false (eval iter X.env) (some (assign (.Name y py) X.env))) _ _ s
 refine wpAny_bind (wpAny_mono (wpAny_comprehension_free (use := some (assign (.Name y py) X.env)) (Q := fun _ s' => SP X pins D' .next s') rfl hs ud hN.kind hN.names
  (bO (hi pins s σ H _ I h) fun xv s1 rM => bO rM fun Hl s2 BG => ?_)) (fun _ s' hq => wpAny_pure (wpAny_pure hq)) fun _ _ e => e)
 obtain ⟨it, fp, tn, J, H2, e, I2, Tn, st, hf, hW⟩ := BG
 subst e
 refine wK (RR := fun acc C => compPost (model X.prog X.w) X.A X.xe (some (assign (.Name y py) X.env)) (fun _ s' => SP X pins D' .next s') acc C) hN mI h1 h2 hg (fun v H Q q => ?_) hc he I2 Tn st hf hW ?_
 . have := HN v (List.replicate T.length none) σ H Q (by simp) q
   refine (by
    have e : (fun (σ2 : St) (H2 : Hp) => Q σ2 H2 /\ T.length + σ.length = σ2.length /\ σ2.drop T.length = σ) = fun σ2 H2 => Q σ2 H2 /\ ∃ τ' : St, τ'.length = T.length /\ σ2 = τ' ++ σ := by
     funext σ2 H2
     refine propext ⟨fun ⟨a, b, c⟩ => ⟨a, σ2.take T.length, by rw [List.length_take]; omega, by rw [<- c, List.take_append_drop]⟩, fun ⟨a, τ', b, c⟩ => ⟨a, by rw [c, List.length_append, b], by rw [c, <- b, List.drop_left]⟩⟩
    rw [e]; exact this)
 . intro D C s' H' acc m hD hC om hn HY IC Ib fin
   show wpAny _ X.A (assign (.Name y py) X.env (.ref D)) _ _ _
   refine wpAny_assign_Name (my Ib xC Am hy (v := .ref D) rfl (fun s3 I3 ⟨a, sb, ha⟩ => ?_) M9)
   have K8 : C ≠ X.env.locals := Nat.ne_of_gt (Nat.lt_of_lt_of_le I2.lt hC)
   have Ls : ∀ x c, X.env.cells.lookup x = some c -> c ≠ C := fun x c e z => by
    obtain ⟨v, q⟩ := I2.cell x c e
    exact absurd (Nat.lt_of_lt_of_le q.lt (by rw [z]; exact hC)) (Nat.lt_irrefl _)
   have Nj : C ≠ a := by
    rcases ha with rfl | ha
    . exact K8
    . exact Ne.symm (Ls _ _ ha)
   refine ⟨m, hn.sameBut sb Nj, fun h' pX => ⟨_, _, ?_, fin D IC⟩⟩
   exact I3.turned (t' := s3.toks) (it := C) (fun b o hb e => (pX.2 b hb).trans e) (by rw [aw om]; exact HY) K8 (.inr (Nat.le_trans I2.sz hC)) Ls (fun p hp z => absurd (Nat.lt_of_lt_of_le (Heap.lt_size (I2.pin p hp).1) (by rw [z]; exact hC)) (Nat.lt_irrefl _))
end
end L2
namespace L2
open PySem PySem.Spec PyProof.Rows PySem.W
mutual
def lE : PyData -> Bool
 | .none => true
 | .bool _ => true
 | .int _ => true
 | .str _ => true
 | .tuple ds => a9 ds
 | .list _ => false
 | .dict _ => false
def a9 : List PyData -> Bool
 | [] => true
 | d :: ds => lE d && a9 ds
end
theorem dJ : ∀ {ds : List PyData}, a9 ds = true ↔ ∀ d ∈ ds, lE d = true
 | [] => by simp [a9]
 | d :: ds => by simp [a9, dJ (ds := ds)]
theorem d7 {ds es : List PyData} (h1 : a9 ds = true) (h2 : a9 es = true) : a9 (ds ++ es) = true := by
 rw [dJ] at *
 intro d hd
 rcases List.mem_append.mp hd with h | h
 . exact h1 d h
 . exact h2 d h
theorem bN {α : Type} {f : α -> PyData} (h : ∀ x, lE (f x) = true) (xs : List α) : a9 (xs.map f) = true := by
 rw [dJ]
 intro d hd
 obtain ⟨x, _, rfl⟩ := List.mem_map.mp hd
 exact h x
structure Mv (S : List Addr) (H H' : Hp) : Prop where
 kp : ∀ a o, a ∉ S -> H a = some o -> H' a = some o
 tp : ∀ a xs, H a = some (.tup xs) -> H' a = some (.tup xs)
 dm : ∀ a, H' a = none -> H a = none
theorem Mv.refl {S : List Addr} {H : Hp} : Mv S H H := ⟨fun _ _ _ h => h, fun _ _ h => h, fun _ h => h⟩
theorem ah.mv {S : List Addr} {H H' : Hp} (s : ah H H') : Mv S H H' := ⟨fun a o _ h => s a o h, fun a xs h => s a _ h, fun a h => by
 cases e : H a with
 | none => rfl
 | some o => rw [s a o e] at h; cases h⟩
theorem Mv.trans {S : List Addr} {H H1 H2 : Hp} (m : Mv S H H1) (m2 : Mv S H1 H2) : Mv S H H2 := ⟨fun a o n h => m2.kp a o n (m.kp a o n h), fun a xs h => m2.tp a xs (m.tp a xs h), fun a h => m.dm a (m2.dm a h)⟩
theorem Mv.step {S S1 : List Addr} {H H1 H2 : Hp} (m : Mv S H H1) (m2 : Mv S1 H1 H2) (hs : ∀ a ∈ S1, a ∈ S \/ H a = none) : Mv S H H2 := by
 refine ⟨fun a o n h => ?_, fun a xs h => m2.tp a xs (m.tp a xs h), fun a h => m.dm a (m2.dm a h)⟩
 refine m2.kp a o (fun z => ?_) (m.kp a o n h)
 rcases hs a z with q | q
 . exact n q
 . rw [q] at h; cases h
theorem Mv.vy {S : List Addr} {H H1 H2 : Hp} (m : Mv S H H1) (s : ah H1 H2) : Mv S H H2 := m.trans s.mv
theorem Mv.at {S : List Addr} {H H' : Hp} {a : Addr} {o : HO} (m : Mv S H H') (n : a ∉ S) (h : H a = some o) : H' a = some o := m.kp a o n h
theorem ah.none {H H' : Hp} {a : Addr} (m : ah H H') (h : H' a = none) : H a = none := (m.mv (S := [])).dm a h
theorem Mv.qG {H : Hp} {p : Addr} {o u : HO} (h : H p = some u) (nt : ∀ xs, u ≠ .tup xs) : Mv [p] H (upd H p o) := ⟨fun a v n e => by
 rw [aw (fun z => n (by simp [z]))]; exact e, fun a xs e => by
 rw [aw (fun z => by subst z; rw [h] at e; exact nt xs (Option.some.inj e))]; exact e, fun a e => by
 by_cases z : a = p
 . subst z; rw [aA] at e; cases e
 . rw [aw z] at e; exact e⟩
mutual
theorem Dv.se {H H' : Hp} (t : ∀ a xs, H a = some (.tup xs) -> H' a = some (.tup xs)) : ∀ {v : V} {d : PyData}, Dv H v d -> lE d = true -> Dv H' v d
 | _, _, .bz, _ => .bz
 | _, _, .bl b, _ => .bl b
 | _, _, .int i, _ => .int i
 | _, _, .str x, _ => .str x
 | _, _, .tup h r, c => .tup (t _ _ h) (bb.se t r (by simpa [lE] using c))
 | _, _, .lst h r, c => by simp [lE] at c
 | _, _, .dct h r, c => by simp [lE] at c
theorem bb.se {H H' : Hp} (t : ∀ a xs, H a = some (.tup xs) -> H' a = some (.tup xs)) : ∀ {v : List V} {d : List PyData}, bb H v d -> a9 d = true -> bb H' v d
 | _, _, .nil, _ => .nil
 | _, _, .cons h r, c => by
   have c' := c
   simp only [a9, Bool.and_eq_true] at c'
   exact .cons (Dv.se t h c'.1) (bb.se t r c'.2)
end
theorem Mv.zo {S : List Addr} {H H' : Hp} {v : List V} {d : List PyData} (m : Mv S H H') (i : a9 d = true) (h : bb H v d) : bb H' v d := h.se m.tp i
def bG (H : Hp) (p : Addr) (ds : List PyData) : Prop := ∃ xs, H p = some (.lst xs) /\ bb H xs ds /\ a9 ds = true
theorem bG.dv {H : Hp} {p : Addr} {ds : List PyData} (h : bG H p ds) : Dv H (.ref p) (.list ds) := let ⟨_, e, d, _⟩ := h; .lst (.of e) d
theorem bG.keeps {H H' : Hp} {p : Addr} {ds : List PyData} (s : ah H H') (h : bG H p ds) : bG H' p ds := let ⟨xs, e, d, i⟩ := h; ⟨xs, s _ _ e, d.keeps s, i⟩
theorem bG.mv {S : List Addr} {H H' : Hp} {p : Addr} {ds : List PyData} (m : Mv S H H') (n : p ∉ S) (h : bG H p ds) : bG H' p ds := let ⟨xs, e, d, i⟩ := h; ⟨xs, m.at n e, m.zo i d, i⟩
theorem bG.ne {H : Hp} {p q : Addr} {ds : List PyData} (h : bG H p ds) (hn : H q = none) : p ≠ q := let ⟨_, e, _, _⟩ := h; aH e hn
theorem gX {H : Hp} {p : Addr} {xs : List V} {ds : List PyData} (hn : H p = none) (d : bb H xs ds) (i : a9 ds = true) : bG (upd H p (.lst xs)) p ds := ⟨xs, aA, d.keeps (aM hn), i⟩
theorem vM {p q : Addr} (h : p ≠ q) : p ∉ [q] := by simpa using h
theorem small {n m : Nat} (h : n <= m) (hm : m <= 4000 := by decide) : n <= sizeLine := Nat.le_trans h (Nat.le_trans hm (by decide))
theorem dr {n : Nat} (h : n <= 4000) : n < sizeLine := Nat.lt_of_le_of_lt h (by decide)
section
variable {σ : St} {H : Hp} {Q : VK} {D : Ends} {K : PySem.W.Frag} {p : Addr} {ds : List PyData}
theorem IK {T : String} {r : V -> List V -> Hp -> VK -> Prop} {to : TE} {t : TA} (h : to σ H fun x H1 => GP K T x H1 /\ t σ H1 fun xs H2 => r x xs H2 Q) : K6 K T r to t σ H Q := h
theorem GO {R : Prop} (hp : bG H p ds) (h : R) : GP K "list" (.ref p) H /\ R := let ⟨xs, e, _, _⟩ := hp; ⟨.inl ⟨rfl, xs, bF.of e⟩, h⟩
theorem GR {y : V} {d : PyData} (hp : bG H p ds) (hl : ds.length <= 4000) (hy : Dv H y d) (hi : lE d = true) (h : ∀ H2, Mv [p] H H2 -> bG H2 p (ds ++ [d]) -> Q .bz H2) : nU (.ref p) [y] H Q := by
 obtain ⟨xs, e, dv, i⟩ := hp
 have m : Mv [p] H (upd H p (.lst (xs ++ [y]))) := .qG e (by intro _ z; cases z)
 refine ⟨p, xs, y, rfl, rfl, e, by rw [dv.length]; exact dr hl, h _ m ⟨_, aA, m.zo (d7 i (by simp [a9, hi])) (dv.append (.cons hy .nil)), d7 i (by simp [a9, hi])⟩⟩
theorem DI {xs : List V} (hl : xs.length <= sizeLine) (hd : bb H xs ds) (hi : a9 ds = true) (k : ∀ p H2, ah H H2 -> H p = none -> bG H2 p ds -> Q (.ref p) H2) : vA xs H Q :=
 ⟨hl, ds, hd, fun p H2 s n e d _ => k p H2 s n ⟨xs, e, d, hi⟩⟩
end
mutual
theorem Dv.fn {H : Hp} : ∀ {v : V} {d e : PyData}, Dv H v d -> Dv H v e -> lE d = true -> d = e
 | _, _, _, .bz, h, _ => by cases h; rfl
 | _, _, _, .bl b, h, _ => by cases h; rfl
 | _, _, _, .int i, h, _ => by cases h; rfl
 | _, _, _, .str x, h, _ => by cases h; rfl
 | _, _, _, .tup h r, h2, c => by
   cases h2 with
   | tup h' r' =>
     have c' := (by simpa [lE] using c : a9 _ = true)
     rw [h] at h'
     cases h'
     rw [bb.fn r r' c']
   | lst h' r' =>
     rcases h' with h' | ⟨o, h'⟩ <;> rw [h] at h' <;> cases h'
   | dct h' r' => rw [h] at h'; cases h'
 | _, _, _, .lst h r, _, c => by simp [lE] at c
 | _, _, _, .dct h r, _, c => by simp [lE] at c
theorem bb.fn {H : Hp} : ∀ {v : List V} {d e : List PyData}, bb H v d -> bb H v e -> a9 d = true -> d = e
 | _, _, _, .nil, h, _ => by cases h; rfl
 | _, _, _, .cons h r, h2, c => by
   have c' := c
   simp only [a9, Bool.and_eq_true] at c'
   cases h2 with
   | cons h' r' => rw [Dv.fn h h' c'.1, bb.fn r r' c'.2]
end
theorem bb.perm {α : Type} {H : Hp} {g : α -> PyData} {xs ys : List V} (p0 : ys.Perm xs) : ∀ {cs : List α}, bb H xs (cs.map g) -> ∃ xP : List α, xP.Perm cs /\ bb H ys (xP.map g) := by
 have p := p0.symm
 clear p0
 induction p with
 | nil => intro cs h; exact ⟨cs, .refl _, h⟩
 | cons x _ ih =>
   intro cs h
   cases cs with
   | nil => cases h
   | cons c cs =>
     cases h with
     | cons h r =>
       obtain ⟨xP, p', h'⟩ := ih r
       exact ⟨c :: xP, p'.cons c, .cons h h'⟩
 | swap x y l =>
   intro cs h
   cases cs with
   | nil => cases h
   | cons c cs =>
     cases h with
     | cons h r =>
       cases cs with
       | nil => cases r
       | cons c2 cs =>
         cases r with
         | cons h2 r => exact ⟨c2 :: c :: cs, .swap c c2 cs, .cons h2 (.cons h r)⟩
 | trans _ _ N2 M3 =>
   intro cs h
   obtain ⟨c1, p1, h1⟩ := N2 h
   obtain ⟨c2, p2, h2⟩ := M3 h1
   exact ⟨c2, p2.trans p1, h2⟩
theorem bb.mem {α : Type} {H : Hp} {g : α -> PyData} : ∀ {xs : List V} {cs : List α}, bb H xs (cs.map g) -> ∀ v ∈ xs, ∃ c ∈ cs, Dv H v (g c)
 | _, [], .nil, _, h => nomatch h
 | _, c :: cs, .cons h r, v, hv => by
   rcases List.mem_cons.mp hv with rfl | hv
   . exact ⟨c, List.mem_cons_self, h⟩
   . obtain ⟨c', hc, hd⟩ := bb.mem r v hv
     exact ⟨c', List.mem_cons_of_mem _ hc, hd⟩
theorem bb.pairwise {α β : Type} {H : Hp} {g : α -> PyData} {key : α -> β} {kf : V -> β} {R : β -> β -> Prop} (hk : ∀ v c, Dv H v (g c) -> kf v = key c) : ∀ {xs : List V} {cs : List α}, bb H xs (cs.map g) -> xs.Pairwise (fun x y => R (kf x) (kf y)) -> cs.Pairwise (fun c d => R (key c) (key d))
 | _, [], .nil, _ => .nil
 | _, c :: cs, .cons h r, p => by
   rw [List.pairwise_cons] at p ⊢
   refine ⟨fun d hd => ?_, bb.pairwise hk r p.2⟩
   obtain ⟨i, hi⟩ := List.getElem?_of_mem hd
   obtain ⟨x, hx, hv⟩ := r.get (i := i) (d := g d) (by rw [List.getElem?_map, hi]; rfl)
   have := p.1 x (List.mem_of_getElem? hx)
   rw [hk _ _ h, hk _ _ hv] at this
   exact this
theorem Dv.lst_inv {H : Hp} {v : V} {ds : List PyData} (h : Dv H v (.list ds)) : ∃ a xs, v = .ref a /\ (∀ K : PySem.W.Frag, bF K H a xs) /\ bb H xs ds := by
 cases h with
 | lst h r => exact ⟨_, _, rfl, fun _ => .inl h, r⟩
section
variable {σ : St} {H : Hp} {Q : VK} {D : Ends} {K : PySem.W.Frag} {p : Addr} {v : V} {ds : List PyData}
theorem vz {sp : Sp} {t : TA} (h : t σ H fun vs H1 => qI sp K vs H1 Q) : wA K sp t σ H Q := h
theorem yR {α : Type} {sp : Sp} {cs : List α} (g : α -> PyData) (key : α -> Int × Str) (hg : ∀ c, lE (g c) = true) (hinj : ∀ c c', g c = g c' -> key c = key c') (hl : Dv H v (.list (cs.map g))) (wx : cs.length < 64)
 (hk : ∀ c v H', c ∈ cs -> ah H H' -> Dv H' v (g c) -> sp [v] H' (fun y H2 => ah H' H2 /\ Dv H2 y (.tuple [.int (key c).1, .str (key c).2])) E0)
 (k : ∀ q H' (xP : List α), ah H H' -> H q = none -> xP.Perm cs -> xP.Pairwise (fun c d => cb (key d) (key c) = false) -> bG H' q (xP.map g) -> Q (.ref q) H') : qI sp K [v] H Q := by
 obtain ⟨p, xs, rfl, e, dv⟩ := hl.lst_inv
 classical
 have Hf : ∃ kf : V -> Int × Str, ∀ v c, Dv H v (g c) -> kf v = key c := by
  refine ⟨fun v => if h : ∃ c, Dv H v (g c) then key h.choose else (0, ⟨#[]⟩), fun v c hv => ?_⟩
  have h : ∃ c, Dv H v (g c) := ⟨c, hv⟩
  show (if h : ∃ c, Dv H v (g c) then key h.choose else (0, ⟨#[]⟩)) = key c
  rw [dif_pos h]
  exact hinj _ _ (Dv.fn h.choose_spec hv (hg _))
 obtain ⟨kf, Hf⟩ := Hf
 refine ⟨p, xs, kf, rfl, e K, by rw [dv.length, List.length_map]; exact wx, fun v hv H' sm => ?_, fun l ys H' sm hn Eh ord => ?_⟩
 . obtain ⟨c, hc, hd⟩ := dv.mem v hv
   rw [Hf v c hd]
   exact hk c v H' hc sm (hd.keeps sm)
 . obtain ⟨pm, pw⟩ := ord
   obtain ⟨xP, pc, Lw⟩ := dv.perm pm
   have cA : ah H (upd H' l (.lst ys)) := sm.trans (aM Eh)
   exact k l _ xP cA hn pc (bb.pairwise (R := fun a b => cb b a = false) Hf Lw pw) ⟨ys, aA, Lw.keeps cA, bN hg _⟩
def Ht (te : TE) (N : Option V -> Hp -> Prop) (σ2 : St) (b : Bool) (H3 : Hp) : Prop := if b = true then te σ2 H3 (fun y H4 => N (some y) H4) else N none H3
theorem EA {k : Nat} {tl : TE} {g : TG} {tc : TT} {te : TE} (h : tl σ H fun x H1 => ∃ a, x = .ref a /\ (∃ xs, bF K H1 a xs) /\ Ed k g tc te (oO Q) σ (xF K a) H1) : FC k (u5 K tl) g tc te σ H Q := h
theorem j0 {k : Nat} {g : TG} {tc : TT} {te : TE} {α : Type} {cs : List α} {gd : α -> PyData} (pf : α -> Bool) (fd : α -> PyData) (hl : Dv H v (.list (cs.map gd))) (hlen : cs.length <= 4000) (hi : ∀ c, lE (fd c) = true)
 (turn : ∀ x c H' (N : Option V -> Hp -> Prop), c ∈ cs -> ah H H' -> Dv H' x (gd c) -> (pf c = true -> ∀ y H4, ah H' H4 -> Dv H4 y (fd c) -> N (some y) H4) -> (pf c = false -> ∀ H3, ah H' H3 -> N none H3) ->
  g x (List.replicate k none ++ σ) H' fun σ2 H2 => tc σ2 H2 fun b H3 => Ht te N σ2 b H3)
 (kk : ∀ q H', ah H H' -> H q = none -> bG H' q ((cs.filter pf).map fd) -> Q (.ref q) H') : ∃ a, v = .ref a /\ (∃ xs, bF K H a xs) /\ Ed k g tc te (oO Q) σ (xF K a) H := by
 obtain ⟨p, xs, rfl, e, dv⟩ := hl.lst_inv
 have Aj : bF K H p xs := e K
 have Gf : xs.length = cs.length := by rw [dv.length, List.length_map]
 refine ⟨p, rfl, ⟨xs, Aj⟩, fun i m acc H' => i <= cs.length /\ m = cs.length - i /\ ah H H' /\ bb H' acc (((cs.take i).filter pf).map fd), ⟨cs.length, Nat.zero_le _, rfl, ah.refl _, by simpa using bb.nil⟩, ?_⟩
 rintro i m acc H' ⟨DK, hm, sm, eK⟩
 have pO : bF K H' p xs := ah.seq sm Aj
 have uD : acc.length <= cs.length := by
  rw [eK.length, List.length_map]
  exact Nat.le_trans (List.length_filter_le _ _) (by rw [List.length_take]; omega)
 by_cases hc : i = cs.length
 . left
   refine ⟨⟨xs, pO, by omega⟩, fun q hq => ?_⟩
   rw [hc, List.take_length] at eK
   have cA : ah H (upd H' q (.lst acc)) := sm.trans (aM hq)
   exact kk q _ cA (sm.none hq) ⟨acc, aA, eK.keeps (aM hq), bN hi _⟩
 . right
   have b4 : i < cs.length := by omega
   have FV : i < xs.length := by omega
   refine ⟨⟨xs, xs[i], pO, List.getElem?_eq_getElem FV⟩, dr (by omega), fun x H2 hy => ?_⟩
   obtain ⟨rfl, hy⟩ := hy
   have hx := hy xs pO
   have Ah : cs[i]? = some cs[i] := List.getElem?_eq_getElem b4
   obtain ⟨x', jb, hd⟩ := dv.get (i := i) (d := gd cs[i]) (by rw [List.getElem?_map, Ah]; rfl)
   rw [hx] at jb
   cases jb
   have rm : cs.take (i + 1) = cs.take i ++ [cs[i]] := by rw [List.take_add_one, Ah]; rfl
   exact turn x cs[i] H2 (fun o H4 => match o with | some y => ∃ m', m' < m /\ i + 1 <= cs.length /\ m' = cs.length - (i + 1) /\ ah H H4 /\ bb H4 (acc ++ [y]) (((cs.take (i + 1)).filter pf).map fd) | none => ∃ m', m' < m /\ i + 1 <= cs.length /\ m' = cs.length - (i + 1) /\ ah H H4 /\ bb H4 acc (((cs.take (i + 1)).filter pf).map fd))
    (List.getElem_mem b4) sm (hd.keeps sm)
    (fun hp y H4 s4 d4 => ⟨cs.length - (i + 1), by omega, b4, rfl, sm.trans s4, by
     rw [rm, List.filter_append, List.map_append]
     simp only [List.filter_cons, hp, if_true, List.filter_nil, List.map_cons, List.map_nil]
     exact bb.append (eK.keeps s4) (.cons d4 .nil)⟩)
    (fun hp H3 s3 => ⟨cs.length - (i + 1), by omega, b4, rfl, sm.trans s3, by
     rw [rm, List.filter_append, List.map_append]
     simp only [List.filter_cons, hp, Bool.false_eq_true, if_false, List.filter_nil, List.map_nil, List.append_nil]
     exact eK.keeps s3⟩)
end
def rS (scope sc : Scope) (N M : List Str) : Bool :=
 (scope.kind == .function) && scope.names.all (fun y => y.2 != .cell) && scope.names.all (fun y => y.2 != .local || scope.names.lookup y.1 == some .local) &&
  scope.names.all (fun y => y.2 != .free || (sc.names.lookup y.1 == some .cell || sc.names.lookup y.1 == some .free)) && (M.length == N.length) &&
  (M.zip N).all fun p => (p.1 == p.2 && scope.names.lookup p.1 == some .free) || scope.names.lookup p.1 == none
theorem sQ {X : Cx} {T M : List Str} {scope : Scope} (sc : Scope) (N : List Str) (hs : X.env.scope = sc) (hN : X.N = N) (h : rS scope sc N M = true) : gW X T M scope := by
 unfold rS at h
 simp only [Bool.and_eq_true, List.all_eq_true, Bool.or_eq_true, bne_iff_ne, beq_iff_eq, ne_eq] at h
 obtain ⟨⟨⟨⟨⟨h1, h2⟩, h3⟩, h4⟩, h5⟩, h6⟩ := h
 refine ⟨h1, h2, fun y hy e => ?_, fun y hy e => ?_, by rw [hN]; exact h5, fun i x hx => ?_⟩
 . rcases h3 y hy with z | z
   . exact absurd e z
   . exact z
 . rw [hs]
   rcases h4 y hy with z | z
   . exact absurd e z
   . exact z
 . have hi : i < M.length := (List.getElem?_eq_some_iff.mp hx).1
   have Ln : i < N.length := by omega
   have hz : (M.zip N)[i]? = some (x, N[i]) := by
    rw [List.getElem?_zip_eq_some]
    exact ⟨hx, List.getElem?_eq_getElem Ln⟩
   rcases h6 _ (List.mem_of_getElem? hz) with ⟨a, b⟩ | a
   . left
     refine ⟨?_, b⟩
     rw [hN, List.getElem?_eq_getElem Ln]
     have a' : x = N[i] := a
     rw [a']
   . exact .inr a
section
variable {σ : St} {H : Hp} {Q : VK} {D : Ends} {K : PySem.W.Frag} {p : Addr} {v : V} {ds : List PyData}
theorem CQ {z : Str} {i : Int} {c : Nat} (hl : z.length <= sizeLine) (hi : nr z.cps.toList i = some c) (h : Q (.str ⟨#[c]⟩) H) : lL K (.str z) (.int i) H Q := .inl (.inr ⟨z, i, c, rfl, rfl, hl, hi, h⟩)
def Aq : R2 := fun x y H Q => ∃ i j, x = .str i /\ y = .str j /\ i.length + j.length <= sizeLine /\ Q (.str (i ++ j)) H
theorem kc {X : Cx} : iE X (binaryOp .Add) Aq := qP
theorem C3 {i j : Str} (hl : i.length + j.length <= 4000) (h : Q (.str (i ++ j)) H) : Aq (.str i) (.str j) H Q := ⟨i, j, rfl, rfl, small hl, h⟩
def sD (K : PySem.W.Frag) : List V -> Hp -> VK -> Prop := fun xs H Q => ∃ p ys, xs = [.ref p] /\ (bF K H p ys \/ oj K H p ys) /\ ∀ l, H l = none -> Q (.ref l) (upd H l (.lst ys))
theorem jC {X : Cx} : dH X (.type "list") (sD X.K) := ng
theorem vh (hp : Dv H v (.list ds)) (i : a9 ds = true) (k : ∀ q H', ah H H' -> H q = none -> bG H' q ds -> Q (.ref q) H') : sD K [v] H Q := by
 obtain ⟨p, xs, rfl, e, dv⟩ := hp.lst_inv
 exact ⟨p, xs, rfl, .inl (e K), fun l hl => k l _ (aM hl) hl (gX hl dv i)⟩
theorem zk (xs : List V) (i j : Nat) : p8 xs (some (i : Int)) (some (j : Int)) = (xs.drop i).take (j - i) := by
 unfold p8
 rw [HT.rQ, HT.rQ]
 by_cases h : i <= xs.length
 . rw [Nat.min_eq_left h]
   by_cases h2 : j <= xs.length
   . rw [Nat.min_eq_left h2]
   . rw [Nat.min_eq_right (by omega)]
     rw [List.take_of_length_le (by rw [List.length_drop]; omega), List.take_of_length_le (by rw [List.length_drop]; omega)]
 . rw [List.drop_of_length_le (show xs.length <= min i xs.length by omega), List.drop_of_length_le (show xs.length <= i by omega), List.take_nil, List.take_nil]
theorem Jh {te : TE} {tl th : TO} {r : V -> Option Int -> Option Int -> Hp -> VK -> Prop} (h : te σ H fun x H1 => tl σ H1 fun l H2 => th σ H2 fun u H3 => r x l u H3 Q) : LL r te tl th σ H Q := h
theorem Dw {t : TE} {R : Option Int -> Hp -> Prop} (h : t σ H fun x H1 => ∃ i, x = .int i /\ R (some i) H1) : As t σ H R := h
theorem wO {R : Option Int -> Hp -> Prop} (h : R none H) : rj σ H R := h
theorem xX {i : Int} {R : Int -> Prop} (h : R i) : ∃ j, V.int i = .int j /\ R j := ⟨i, rfl, h⟩
theorem BZ {ns : List Int} (i j : Nat) (hp : bF K H p (ns.map V.int)) (k : ∀ q H', ah H H' -> H q = none -> bG H' q (((ns.drop i).take (j - i)).map PyData.int) -> Q (.ref q) H') : zl K (.ref p) (some (i : Int)) (some (j : Int)) H Q := by
 refine ⟨p, _, rfl, hp, fun q hq => ?_⟩
 rw [zk, <- List.map_drop, <- List.map_take]
 exact k q _ (aM hq) hq ⟨_, aA, bb.ints _, bN (fun _ => rfl) _⟩
end
end L2
namespace L2
theorem uZ {H H1 H2 : Hp} (a : ∀ x, H1 x = none -> H x = none) (b : ∀ x, H2 x = none -> H1 x = none) : ∀ x, H2 x = none -> H x = none := fun x h => a x (b x h)
theorem Ci {H H' : Hp} {p : PySem.Addr} (s : ∀ x, H' x = none -> H x = none) (h : H' p = none) : H p = none := s p h
theorem ah.NY {H H' : Hp} (s : ah H H') : ∀ x, H' x = Option.none -> H x = Option.none := (s.mv (S := [])).dm
theorem Aa {S : List PySem.Addr} {H : Hp} {p : PySem.Addr} (h : p ∈ S \/ H p = none) : ∀ a ∈ [p], a ∈ S \/ H a = none := fun a ha => by
 have : a = p := by simpa using ha
 subst this; exact h
end L2
namespace L2
open PySem
theorem xn {α β : Type} [Inhabited α] {f : α -> β} {xs : List α} {i : Int} (h0 : 0 <= i) (h1 : i < xs.length) : nr (xs.map f) i = some (f (xs.getD i.toNat default)) := by
 obtain ⟨m, rfl⟩ := Int.eq_ofNat_of_zero_le h0
 have hm : m < xs.length := by omega
 refine gY ?_
 rw [List.getElem?_map, List.getElem?_eq_getElem hm]
 simp [hm]
theorem DY {α : Type} {g : α -> PyData} {xs : List α} {K : PySem.W.Frag} {H : Hp} {Q : VK} {v : V} (hs : Dv H v (.list (xs.map g))) (h : Q (.int (xs.length : Nat)) H) : pI K [v] H Q := wR (.inr hs) (by rw [List.length_map]; exact h)
theorem zg {i : Nat} {v : V} {σ : St} {H : Hp} {R : St -> Hp -> Prop} (h : R (σ.set i (some v)) H) : cO i v σ H R := h
theorem Mv.Fi {p : Addr} {H H1 H2 : Hp} (s : ah H H1) (m : Mv [p] H1 H2) (n : H p = Option.none) : ah H H2 := fun a o e => m.kp a o (vM (aH e n)) (s a o e)
theorem Mv.sq {K : PySem.W.Frag} {S : List Addr} {H H' : Hp} {a : Addr} {xs : List V} (m : Mv S H H') (n : a ∉ S) (h : bF K H a xs) : bF K H' a xs := by
 rcases h with (h | ⟨o, h⟩) | h
 . exact .inl (.inl (m.at n h))
 . exact .inl (.inr ⟨o, m.at n h⟩)
 . exact .inr h
theorem b9 {te : TE} {N : Option V -> Hp -> Prop} {σ2 : St} {b : Bool} {H3 : Hp} (h1 : b = true -> te σ2 H3 (fun y H4 => N (some y) H4)) (h2 : b = false -> N none H3) : Ht te N σ2 b H3 := by
 unfold Ht
 cases b with
 | true => rw [if_pos rfl]; exact h1 rfl
 | false => rw [if_neg (by simp)]; exact h2 rfl
end L2
namespace L2
open PySem PySem.Spec PyProof.Rows
section
variable {X : Cx} {K : PySem.W.Frag} {a b e : Expr} {es : List Expr} {ta : TE} {pos : Pos}
theorem k7 (h : X.K = K) : uA X (lL K) := by rw [<- h]; exact eu
theorem iT {k : Nat} {t : wX} {n : Nat} (h : X.K = K) (hc : X.calm = true) (hs : F7 X es t) (hn : (assignEach es X.env).length = n := by rfl) (xM : (assignEach es X.env).findIdx? (·.1) = none := by rfl) : PG X (.Tuple es k pos) (pU K n t) := by rw [<- h]; exact fu hc hs hn xM
end
end L2
namespace L2
open PySem PySem.Spec PyProof.Rows PySem.W
inductive e9 (H : Hp) : List (Key × V) -> List (Str × PyData) -> Prop where
 | nil : e9 H [] []
 | cons {k : Str} {v : V} {d : PyData} {kvs : List (Key × V)} {m : List (Str × PyData)} (h : Dv H v d) (i : lE d = true) (r : e9 H kvs m) : e9 H ((.inr k, v) :: kvs) ((k, d) :: m)
theorem e9.se {H H' : Hp} (t : ∀ a xs, H a = some (.tup xs) -> H' a = some (.tup xs)) : ∀ {kvs : List (Key × V)} {m : List (Str × PyData)}, e9 H kvs m -> e9 H' kvs m
 | _, _, .nil => .nil
 | _, _, .cons h i r => .cons (h.se t i) i (e9.se t r)
theorem e9.length {H : Hp} : ∀ {kvs : List (Key × V)} {m : List (Str × PyData)}, e9 H kvs m -> kvs.length = m.length
 | _, _, .nil => rfl
 | _, _, .cons _ _ r => by simp [e9.length r]
def oq (m : List (Str × PyData)) (k : Str) : Option PyData := (m.find? fun kv => decide (kv.1 = k)).map (·.2)
def putD (m : List (Str × PyData)) (k : Str) (d : PyData) : List (Str × PyData) := if (m.any fun kv => decide (kv.1 = k)) = true then m.map (fun kv => if kv.1 = k then (kv.1, d) else kv) else m ++ [(k, d)]
theorem yB {a b : Str} : ((Sum.inr a : Key) = Sum.inr b) = (a = b) := propext ⟨fun h => Sum.inr.inj h, fun h => by rw [h]⟩
theorem e9.val {H : Hp} {k : Str} : ∀ {kvs : List (Key × V)} {m : List (Str × PyData)}, e9 H kvs m -> (∀ d, oq m k = some d -> ∃ v, jn kvs (.inr k) = some v /\ Dv H v d) /\ (oq m k = none -> jn kvs (.inr k) = none)
 | _, _, .nil => ⟨fun d h => by simp [oq] at h, fun _ => rfl⟩
 | _, _, .cons (k := j) h i r => by
   obtain ⟨h1, h2⟩ := e9.val (k := k) r
   by_cases e : j = k
   . subst e
     refine ⟨fun d hd => ⟨_, jc rfl, ?_⟩, fun hd => by simp [oq] at hd⟩
     simp [oq] at hd
     subst hd; exact h
   . have e' : (Sum.inr j : Key) ≠ .inr k := fun z => e (Sum.inr.inj z)
     have el : ∀ (d : PyData) (m : List (Str × PyData)), oq ((j, d) :: m) k = oq m k := fun d m => by simp [oq, List.find?_cons, e]
     refine ⟨fun d hd => ?_, fun hd => ?_⟩
     . rw [el] at hd
       obtain ⟨v, hv, lX⟩ := h1 d hd
       exact ⟨v, by rw [fW e']; exact hv, lX⟩
     . rw [el] at hd
       rw [fW e']; exact h2 hd
theorem e9.any {H : Hp} {k : Str} : ∀ {kvs : List (Key × V)} {m : List (Str × PyData)}, e9 H kvs m -> (kvs.any fun kv => decide (kv.1 = .inr k)) = m.any fun kv => decide (kv.1 = k)
 | _, _, .nil => rfl
 | _, _, .cons h i r => by
   simp only [List.any_cons, e9.any r, yB]
theorem e9.append {H : Hp} : ∀ {kvs GD : List (Key × V)} {m m' : List (Str × PyData)}, e9 H kvs m -> e9 H GD m' -> e9 H (kvs ++ GD) (m ++ m')
 | _, _, _, _, .nil, s => s
 | _, _, _, _, .cons h i r, s => .cons h i (e9.append r s)
theorem e9.repl {H : Hp} {k : Str} {v : V} {d : PyData} (hv : Dv H v d) (hi : lE d = true) : ∀ {kvs : List (Key × V)} {m : List (Str × PyData)}, e9 H kvs m -> e9 H (kvs.map fun kv => if kv.1 = .inr k then (kv.1, v) else kv) (m.map fun kv => if kv.1 = k then (kv.1, d) else kv)
 | _, _, .nil => .nil
 | _, _, .cons (k := j) h i r => by
   rw [List.map_cons, List.map_cons]
   by_cases e : j = k
   . subst e
     rw [if_pos rfl, if_pos rfl]
     exact .cons hv hi (e9.repl hv hi r)
   . rw [if_neg (fun z => e (Sum.inr.inj z)), if_neg e]
     exact .cons h i (e9.repl hv hi r)
theorem e9.put {H : Hp} {k : Str} {v : V} {d : PyData} {kvs : List (Key × V)} {m : List (Str × PyData)} (r : e9 H kvs m) (hv : Dv H v d) (hi : lE d = true) : e9 H (putK kvs (.inr k) v) (putD m k d) := by
 unfold putK putD
 rw [r.any]
 by_cases h : (m.any fun kv => decide (kv.1 = k)) = true
 . rw [if_pos h, if_pos h]; exact r.repl hv hi
 . rw [if_neg h, if_neg h]; exact r.append (.cons hv hi .nil)
def eG (H : Hp) (p : Addr) (m : List (Str × PyData)) : Prop := ∃ kvs, H p = some (.dK kvs) /\ e9 H kvs m
theorem eG.keeps {H H' : Hp} {p : Addr} {m : List (Str × PyData)} (s : ah H H') (h : eG H p m) : eG H' p m := let ⟨kvs, e, d⟩ := h; ⟨kvs, s _ _ e, d.se fun a xs e => s _ _ e⟩
theorem eG.mv {S : List Addr} {H H' : Hp} {p : Addr} {m : List (Str × PyData)} (v : Mv S H H') (n : p ∉ S) (h : eG H p m) : eG H' p m := let ⟨kvs, e, d⟩ := h; ⟨kvs, v.at n e, d.se v.tp⟩
theorem eG.ne {H : Hp} {p q : Addr} {m : List (Str × PyData)} (h : eG H p m) (hn : H q = none) : p ≠ q := let ⟨_, e, _⟩ := h; aH e hn
section
variable {σ : St} {H : Hp} {Q : VK} {D : Ends} {K : PySem.W.Frag} {p : Addr} {m : List (Str × PyData)} {k : Str}
theorem CF (h : ∀ p H2, ah H H2 -> H p = none -> eG H2 p [] -> Q (.ref p) H2) : vf σ H Q := fun p hp => h p _ (aM hp) hp ⟨[], aA, .nil⟩
theorem y7 {td ty tv : TE} (h : tv σ H fun v H1 => td σ H1 fun x H2 => ty σ H2 fun y H3 => ∃ a H4, x = .ref a /\ qh H3 a y v H4 /\ D.nx σ H4) : AG td ty tv D σ H := h
theorem DW {v : V} {d : PyData} {R : Hp -> Prop} (hp : eG H p m) (hl : m.length <= 4000) (hv : Dv H v d) (hi : lE d = true) (h : ∀ H2, Mv [p] H H2 -> eG H2 p (putD m k d) -> R H2) : ∃ a H4, V.ref p = .ref a /\ qh H a (.str k) v H4 /\ R H4 := by
 obtain ⟨kvs, e, dk⟩ := hp
 have mv : Mv [p] H (upd H p (.dK (putK kvs (.inr k) v))) := .qG e (by intro _ z; cases z)
 exact ⟨p, _, rfl, qh.k (k := .inr k) e (by rw [dk.length]; exact dr hl), h _ mv ⟨_, aA, (dk.put hv hi).se mv.tp⟩⟩
theorem y4 {td ty : TE} (h : td σ H fun x H1 => ty σ H1 fun y H2 => ∃ a v, x = .ref a /\ pN H2 a y (some v) /\ Q v H2) : AU td ty σ H Q := h
theorem DA {d : PyData} {R : V -> Prop} (hp : eG H p m) (hk : oq m k = some d) (h : oH H d fun v _ => R v) : ∃ a v, V.ref p = .ref a /\ pN H a (.str k) (some v) /\ R v := by
 obtain ⟨kvs, e, dk⟩ := hp
 obtain ⟨v, hv, hd⟩ := (dk.val (k := k)).1 d hk
 exact ⟨p, v, rfl, by rw [<- hv]; exact pN.k (k := .inr k) e, h.use hd⟩
theorem zq {r r' : R2} {ta tb tc : TE} (h : ta σ H fun x H1 => tb σ H1 fun y H2 => r x y H2 fun z H3 => ∃ k, z = .bl k /\ if k = true then tc σ H3 fun u H4 => r' y u H4 Q else Q (.bl false) H3) : vS r r' ta tb tc σ H Q := h
def ow : Option Int -> V | none => .bz | some i => .int i
def G8 : Option Int -> PyData | none => .none | some i => .int i
end
end L2
namespace L2
end L2
namespace L2
open PySem
theorem mr {Hb : Hp} {σ : St} {H : Hp} {D : Ends} {K : PySem.W.Frag} {v : V} {α : Type} {cs : List α} {gd : α -> PyData} {g : TG} {tb : TS} (hl : Dv Hb v (.list (cs.map gd))) (Pv : Nat -> St -> Hp -> Prop) (h0 : Pv 0 σ H) (hk : ∀ i σ H', i <= cs.length -> Pv i σ H' -> ∀ a xs, v = .ref a -> bF K Hb a xs -> bF K H' a xs)
 (hs : ∀ i c x σ H', cs[i]? = some c -> Pv i σ H' -> (lE (gd c) = true -> (∀ a xs, Hb a = some (.tup xs) -> H' a = some (.tup xs)) -> Dv H' x (gd c)) -> (ah Hb H' -> Dv H' x (gd c)) -> g x σ H' fun σ2 H2 => tb { D with nx := Pv (i + 1), ct := Pv (i + 1), bk := D.nx } σ2 H2) (hd : ∀ σ H', Pv cs.length σ H' -> D.nx σ H') : Cr K v g tb D σ H := by
 obtain ⟨p, xs, rfl, e, dv⟩ := hl.lst_inv
 have Gf : xs.length = cs.length := by rw [dv.length, List.length_map]
 refine forL (hk 0 σ H (Nat.zero_le _) h0 p xs rfl (e K)) Pv h0 (fun i σ H' hi hp => hk i σ H' (by omega) hp p xs rfl (e K)) (fun i x σ H' hx hp => ?_) (fun σ H' hp => hd σ H' (by rw [<- Gf]; exact hp))
 have hi : i < cs.length := by have := (List.getElem?_eq_some_iff.mp hx).1; omega
 obtain ⟨x', jb, lX⟩ := dv.get (i := i) (d := gd cs[i]) (by rw [List.getElem?_map, List.getElem?_eq_getElem hi]; rfl)
 rw [hx] at jb
 cases jb
 exact hs i cs[i] x σ H' (List.getElem?_eq_getElem hi) hp (fun im t => lX.se t im) (fun s => lX.keeps s)
theorem lay_ints : ∀ ts : List Int, PyData.canLayAll0 (ts.map PyData.int) = true
 | [] => rfl
 | t :: ts => by rw [List.map_cons, PyData.canLayAll0, lay_ints ts]; rfl
theorem depthAll_ints : ∀ ts : List Int, PyData.depthAll (ts.map PyData.int) <= 1
 | [] => by simp [PyData.depthAll]
 | t :: ts => by
   have := depthAll_ints ts
   simp only [List.map_cons, PyData.depthAll, PyData.depth]
   omega
theorem zN {K : PySem.W.Frag} {H : Hp} {Q : VK} {f : Bool -> Bool} {x y : V} {ts : List Int} (h1 : Dv H x (.list (ts.map PyData.int))) (h2 : Dv H y (.list [])) (h : Q (.bl (f ts.isEmpty)) H) : pW K f x y H Q := by
 have e : PyData.eqv (.list (ts.map PyData.int)) (.list []) = ts.isEmpty := by cases ts <;> rfl
 refine sA h1 h2 (by rw [PyData.canLay0]; exact lay_ints ts) rfl ?_ (by rw [e]; exact h)
 have := depthAll_ints ts
 rw [PyData.depth]
 omega
end L2
namespace L2
open PySem PySem.Spec PyProof.Rows PySem.W
section
variable {X : Cx} {tg : Expr}
section
variable {σ : St} {H : Hp} {Q : VK} {D : Ends} {K : PySem.W.Frag}
end
end
end L2
namespace L2
open PySem
section
variable {H : Hp} {Q : VK} {K : PySem.W.Frag}
theorem yb {z : Str} (hl : z.length <= 4000) (h : Q (.int (z.length : Nat)) H) : pI K [.str z] H Q := .inl (.inr ⟨z, rfl, small hl, h⟩)
end
end L2
namespace L2
open PySem PySem.Spec PyProof.Rows PySem.W
section
variable {X : Cx}
theorem sj {H : Hp} : ∀ {xs : List V} {ss : List Str} {us : List Value}, bb H xs (ss.map PyData.str) -> Vals xs us -> StrsAre us ss
 | _, [], _, .nil, .nil => .nil
 | _, b :: bs, _, .cons h r, .cons q t => by
   cases h
   obtain ⟨tk, rfl⟩ := q
   exact .cons _ _ (sj r t)
end
section
variable {σ : St} {H : Hp} {Q : VK} {D : Ends} {K : PySem.W.Frag} {p : Addr} {ds : List PyData}
theorem bb.drop {H : Hp} : ∀ {xs : List V} {ds : List PyData} (n : Nat), bb H xs ds -> bb H (xs.drop n) (ds.drop n)
 | _, _, 0, h => h
 | _, _, _ + 1, .nil => .nil
 | _, _, n + 1, .cons _ r => bb.drop n r
theorem bb.take {H : Hp} : ∀ {xs : List V} {ds : List PyData} (n : Nat), bb H xs ds -> bb H (xs.take n) (ds.take n)
 | _, _, 0, _ => .nil
 | _, _, _ + 1, .nil => .nil
 | _, _, n + 1, .cons h r => .cons h (bb.take n r)
theorem oR {ds : List PyData} (n : Nat) (h : a9 ds = true) : a9 (ds.take n) = true := by
 rw [dJ] at *
 exact fun d hd => h d (List.mem_of_mem_take hd)
theorem xl (xs : List V) (j : Nat) : p8 xs none (some (j : Int)) = xs.take j := by
 have h1 : HT.lG xs.length xs.length (some (j : Int)) = min j xs.length := by
  simp only [HT.lG]
  rw [if_neg (by omega)]
  omega
 have h2 : HT.lG xs.length 0 none = 0 := rfl
 show (xs.drop (HT.lG xs.length 0 none)).take (HT.lG xs.length xs.length (some (j : Int)) - HT.lG xs.length 0 none) = _
 rw [h1, h2, List.drop_zero, Nat.sub_zero]
 by_cases h : j <= xs.length
 . rw [Nat.min_eq_left h]
 . rw [List.take_of_length_le (show xs.length <= min j xs.length by omega), List.take_of_length_le (show xs.length <= j by omega)]
theorem B6 (j : Nat) (hp : bG H p ds) (k : ∀ q H', ah H H' -> H q = none -> bG H' q (ds.take j) -> Q (.ref q) H') : zl K (.ref p) none (some (j : Int)) H Q := by
 obtain ⟨xs, e, dv, im⟩ := hp
 refine ⟨p, xs, rfl, bF.of e, fun q hq => ?_⟩
 rw [xl]
 exact k q _ (aM hq) hq (gX hq (dv.take j) (oR j im))
theorem uQ {q : Addr} {es : List PyData} (hp : bG H p ds) (hq : bG H q es) (hl : ds.length + es.length <= 4000) (k : ∀ r H', ah H H' -> H r = none -> bG H' r (ds ++ es) -> Q (.ref r) H') : DX (.ref p) (.ref q) H Q := by
 obtain ⟨xs, e, dv, im⟩ := hp
 obtain ⟨zs, e2, LY, Nk⟩ := hq
 refine ⟨p, q, xs, zs, rfl, rfl, e, e2, by rw [dv.length, LY.length]; exact small hl, fun r hr => ?_⟩
 exact k r _ (aM hr) hr (gX hr (dv.append LY) (d7 im Nk))
end
end L2
namespace L2
open PySem PySem.Calls PyProof.Rows
section
variable {X : Cx} {e k : Expr} {te tk : TE} {pos p2 : Pos}
end
section
variable {X : Cx}
end
section
variable {K : PySem.W.Frag} {σ : St} {H : Hp} {Q : VK} {p : Addr} {ds : List PyData}
end
end L2
namespace L2
open PySem PySem.Spec PyProof.Rows PySem.W
theorem sI (lo hi : Option Int) (n : Nat) : (Builtin.Str.strSliceIndices lo hi 1 n).length <= n := by
 unfold Builtin.Str.strSliceIndices sliceRange
 simp only [List.length_map, List.length_range, Int.ediv_one, show (1 : Int) > 0 by decide, if_true]
 cases lo <;> cases hi <;> simp only [] <;> (repeat' split) <;> omega
section
variable {X : Cx}
def zV (ss : List Str) : Prop := ss.Pairwise fun a b => pe b a = false
theorem i7 : ∀ (r : List Str) (p : Str), risingS p r = true -> (∀ x ∈ r, pe x p = false) /\ zV r
 | [], _, _ => ⟨fun x hx => (by cases hx), List.Pairwise.nil⟩
 | y :: r, p, h => by
   unfold risingS at h
   rw [Bool.and_eq_true] at h
   obtain ⟨h1, h2⟩ := h
   have rM : pe y p = false := by
    have : ltCps y.cps.toList p.cps.toList = false := by simpa using h1
    rw [ltCps_eq] at this
    exact this
   obtain ⟨a, b⟩ := i7 r y h2
   refine ⟨fun x hx => ?_, List.pairwise_cons.mpr ⟨a, b⟩⟩
   rcases List.mem_cons.mp hx with rfl | hx
   . exact rM
   . exact sv (a x hx) rM
theorem iW {ss : List Str} (h : sortedS ss = true) : zV ss := by
 cases ss with
 | nil => exact List.Pairwise.nil
 | cons x r => obtain ⟨a, b⟩ := i7 r x h; exact List.pairwise_cons.mpr ⟨a, b⟩
theorem mj : ∀ {xs ys : List Str}, xs.Perm ys -> zV xs -> zV ys -> xs = ys
 | [], _, hp, _, _ => List.Perm.nil_eq hp
 | x :: xs, [], hp, _, _ => by have := hp.length_eq; simp at this
 | x :: xs, y :: ys, hp, h1, h2 => by
   have hx := List.pairwise_cons.mp h1
   have hy := List.pairwise_cons.mp h2
   have Eg : x = y := by
    have m1 : y ∈ x :: xs := hp.mem_iff.mpr List.mem_cons_self
    have m2 : x ∈ y :: ys := hp.mem_iff.mp List.mem_cons_self
    rcases List.mem_cons.mp m1 with e | IV
    . exact e.symm
    rcases List.mem_cons.mp m2 with e | Jk
    . exact e
    exact sG (hy.1 x Jk) (hx.1 y IV)
   subst Eg
   rw [mj (List.Perm.cons_inv hp) hx.2 hy.2]
def wB : List V -> Hp -> VK -> Prop := fun xs H Q => ∃ (v : V) (ss : List Str), xs = [v] /\ Dv H v (.list (ss.map PyData.str)) /\ ss.length < 64 /\ ∀ (q : Addr) (H' : Hp) (j5 : List Str), ah H H' -> H q = none -> j5.Perm ss -> zV j5 -> bG H' q (j5.map PyData.str) -> Q (.ref q) H'
theorem jf : ∀ {us : List Value} {ss : List Str}, StrsAre us ss -> Vals (ss.map V.str) us
 | _, _, .nil => .nil
 | _, _, .cons _ t r => .cons ⟨t, rfl⟩ (jf r)
theorem lC {H : Hp} : ∀ (ss : List Str), bb H (ss.map V.str) (ss.map PyData.str)
 | [] => .nil
 | x :: r => .cons (.str x) (lC r)
theorem qZ : dH X (.builtin "sorted") wB := by
 intro pins s σ H xs us Q I r h
 obtain ⟨v, ss, rfl, hd, hl, q⟩ := h
 obtain ⟨u, rfl, ru⟩ := vals1 r
 obtain ⟨p, ys, rfl, e, dv⟩ := hd.lst_inv
 obtain ⟨aD, yS, pl, _⟩ := I.list (e X.K)
 cases ru
 have hS := sj dv yS
 refine sorted_strs pl.isList hS (by rw [<- yS.length, dv.length, List.length_map]; exact hl) fun out j5 h1 h2 h3 => ?_
 obtain ⟨ep, he⟩ := sortedAll_at s.heap aD out
 have hq : H (s.heap.objs.size + 1) = none := I.aK.fresh (Nat.le_succ _)
 refine ⟨.ref (s.heap.objs.size + 1), upd H (s.heap.objs.size + 1) (.lst (j5.map V.str)), I.laid (t' := s.toks) (fun b ob q => sortedAll_old q) (Nat.le_succ _) ?_, rfl, q _ _ j5 (aM hq) hq h2 (iW h3) (gX hq (lC j5) (bN (fun _ => rfl) _))⟩
 exact ⟨by rw [List.length_map, h2.length_eq]; exact Nat.le_of_lt (dr (by omega)), out.toList, ep, jf h1, by simpa [seqObj] using he⟩
def zX : List V -> Hp -> VK -> Prop := fun xs H Q => ∃ (v : V) (ns : List Int), xs = [v] /\ Dv H v (.list (ns.map PyData.int)) /\ Q (.int ns.sum) H
theorem kd {H : Hp} : ∀ {xs : List V} {ns : List Int} {us : List Value}, bb H xs (ns.map PyData.int) -> Vals xs us -> IntsAre us ns
 | _, [], _, .nil, .nil => .nil
 | _, _ :: _, _, .cons h r, .cons q t => by
   cases h
   obtain ⟨tk, rfl⟩ := q
   exact .cons _ _ (kd r t)
theorem jL (x : Int) (ns : List Int) : ∀ k, preSum (fun i => (x :: ns).getD i 0) (k + 1) = x + preSum (fun i => ns.getD i 0) k
 | 0 => by simp [preSum]
 | k + 1 => by
   rw [preSum, jL x ns k, preSum, List.getD_cons_succ]
   omega
theorem gN : ∀ ns : List Int, preSum (fun i => ns.getD i 0) ns.length = ns.sum
 | [] => rfl
 | x :: r => by rw [List.length_cons, jL, gN r, List.sum_cons]
theorem ju (hc : X.calm = true) : dH X (.builtin "sum") zX := by
 intro pins s σ H xs us Q I r h
 obtain ⟨v, ns, rfl, hd, q⟩ := h
 obtain ⟨u, rfl, ru⟩ := vals1 r
 obtain ⟨p, ys, rfl, e, dv⟩ := hd.lst_inv
 obtain ⟨aD, yS, pl, _⟩ := I.list (e X.K)
 cases ru
 have hI := kd dv yS
 have b4 : p < s.heap.objs.size := by obtain ⟨o, n, e1, _⟩ := pl; exact Heap.lt_size e1
 have hA : X.A.in1.handled = none := I.ok.hd hc
 refine call_sum_walkAnyB (wpAny_pyIter_list pl.isList ?_)
 refine ⟨s.heap.objs.size, _, _, _, _, _, _, fun i => ns.getD i 0, rfl, (Walks.list hA _ p (Nat.ne_of_lt b4) aD.toArray).toS, ⟨⟨_, Heap.get?_push_size _ rfl, rfl, rfl⟩, pl.isList.at fun o e => Heap.get?_push_of_some _ e⟩, ?_, ?_, ?_⟩
 . intro b hb
   rw [Heap.size_push]
   have : b = s.heap.objs.size \/ b = p := by simpa using hb
   rcases this with rfl | rfl
   . exact Nat.lt_succ_self _
   . exact Nat.lt_succ_of_lt b4
 . intro i v hv
   obtain ⟨t, ht⟩ := hI.int_at i v (by simpa using hv)
   exact .inl ⟨t, ht⟩
 . intro s' t' hm
   have hn : aD.toArray.size = ns.length := by rw [List.size_toArray, hI.length]
   rw [hn, gN]
   obtain ⟨h', g', d', Iw, Gh⟩ := s'
   have eg : g' = s.gens := hm.gens
   have ed : d' = s.drawn := hm.drawn
   have eo : Gh = s.os := hm.os
   subst eg; subst ed; subst eo
   have I1 := I.kept (t' := s.toks) (h' := s.heap.push { cls := Value.type "list_iterator", data := Data.fields #[Value.ref p, Value.int 0 0] }) fun b o e => Heap.get?_push_of_some _ e
   have fp := I.kC (H' := H) (Nat.le_refl _) (I.aK.fresh (Nat.le_refl _))
   have I2 := I1.turned (t' := Iw) (h' := h') (it := s.heap.objs.size) (fun b o hb e => hm.heap b o (by simpa using hb) e) fp.1 fp.2.1 fp.2.2.2.1 fp.2.2.2.2.1 fp.2.2.2.2.2
   exact ⟨.int ns.sum, H, I2, ⟨t', rfl⟩, q⟩
end
section
variable {prog : Program} {w : World} {A : Around} {E : Value -> Shared -> Prop} {s : Shared} {it l : Addr} {aD : Array Value}
end
section
variable {X : Cx} {e : Expr} {te : TE} {p p2 pos tQ : Pos}
end
section
variable {K : PySem.W.Frag} {σ : St} {H : Hp} {Q : VK} {p : Addr} {ds : List PyData} {v : V}
theorem B1 {ns : List Int} (hp : Dv H v (.list (ns.map PyData.int))) (h : Q (.int ns.sum) H) : zX [v] H Q := ⟨v, ns, rfl, hp, h⟩
theorem yM {ss : List Str} (hp : Dv H v (.list (ss.map PyData.str))) (hl : ss.length < 64) (k : ∀ q H' j5, ah H H' -> H q = none -> j5.Perm ss -> zV j5 -> bG H' q (j5.map PyData.str) -> Q (.ref q) H') : wB [v] H Q := ⟨v, ss, rfl, hp, hl, k⟩
theorem iu {x : V} {i j l m : Nat} {d1 d2 d3 d4 : PyData} {R : St -> Hp -> Prop} (hd : Dv H x (.tuple [d1, d2, d3, d4])) (h : ∀ v1 v2 v3 v4, Dv H v1 d1 -> Dv H v2 d2 -> Dv H v3 d3 -> Dv H v4 d4 -> R ((((σ.set i (some v1)).set j (some v2)).set l (some v3)).set m (some v4)) H) :
 pU K 4 (eM (cO i) (eM (cO j) (eM (cO l) (eM (cO m) ur)))) x σ H R := by
 cases hd with
 | tup ha r =>
   cases r with
   | cons h1 r =>
     cases r with
     | cons h2 r =>
       cases r with
       | cons h3 r =>
         cases r with
         | cons h4 r =>
           cases r
           exact ⟨_, _, rfl, .of ha, rfl, _, _, rfl, _, _, rfl, _, _, rfl, _, _, rfl, rfl, h _ _ _ _ h1 h2 h3 h4⟩
end
section
variable {P : Program} {w : World} {H : Hp} {h : Heap} {d : Addr} {o : Obj} {kvs : List (Key × V)}
end
section
variable {X : Cx} {pins : List (Addr × Obj)} {σ : St} {H : Hp} {s : Shared} {d : Addr} {o : Obj} {kvs : List (Key × V)}
end
theorem kZ {α β : Type} {F : α -> β -> Prop} : ∀ {xs : List α} {ys : List β}, Paired F xs ys -> ∀ {i : Nat} {x : α}, xs[i]? = some x -> ∃ y, ys[i]? = some y /\ F x y
 | _, _, .nil, i, x, h => by simp at h
 | _, _, .cons r t, 0, x, h => by
   have e := Option.some.inj h
   exact ⟨_, rfl, e ▸ r⟩
 | _, _, .cons r t, i + 1, x, h => by
   obtain ⟨y, e, q⟩ := kZ t (i := i) (by simpa using h)
   exact ⟨y, by simpa using e, q⟩
theorem xc {k : Key} {v : Value} (h : kM k v = true) : RelV (kV k) v := by
 rcases bu h with ⟨i, t, rfl, rfl⟩ | ⟨x, t, rfl, rfl⟩
 . exact ⟨t, rfl⟩
 . exact ⟨t, rfl⟩
theorem e9.Ft {H : Hp} : ∀ {kvs : List (Key × V)} {m : List (Str × PyData)}, e9 H kvs m -> ∀ {i : Nat} {kv : Key × V}, kvs[i]? = some kv -> ∃ k d, m[i]? = some (k, d) /\ kv.1 = .inr k /\ Dv H kv.2 d
 | _, _, .nil, i, kv, h => by simp at h
 | _, _, .cons (k := k) (d := d) hv _ r, 0, kv, h => by
   have e := (Option.some.inj h).symm
   subst e
   exact ⟨k, d, rfl, rfl, hv⟩
 | _, _, .cons _ _ r, i + 1, kv, h => by
   obtain ⟨k, d, e, q⟩ := e9.Ft r (i := i) (by simpa using h)
   exact ⟨k, d, by simpa using e, q⟩
section
variable {σ : St} {H : Hp} {Q : VK} {K : PySem.W.Frag} {p : Addr} {m : List (Str × PyData)} {k : Str}
end
section
variable {X : Cx}
end
section
variable {σ : St} {H : Hp} {Q : VK} {K : PySem.W.Frag} {p : Addr} {m : List (Str × PyData)} {k : Str}
end
section
variable {σ : St} {H : Hp} {Q : VK} {K : PySem.W.Frag} {p : Addr}
end
section
variable {X : Cx}
end
theorem kr {h : Heap} {o u : Obj} {b : Addr} (e : (h.push o).get? b = some u) (n : b ≠ h.objs.size) : h.get? b = some u := by
 obtain ⟨e1, e2⟩ := Heap.get?_some_iff.mp e
 refine Heap.get?_some_iff.mpr ⟨?_, e2⟩
 cases h
 simpa [Heap.push, Array.getElem?_push, n] using e1
section
variable {prog : Program} {w : World} {K : Type} [DecidableEq K] {knd : KeyKind prog w K} {A : Around} {E : Value -> Shared -> Prop} {s : Shared} {d : Addr} {kvs : List (K × Value)} {ep : Nat}
end
section
variable {X : Cx}
theorem qp {P : Program} {w : World} {kvs : List (Key × V)} {vs : List (Key × Value)} {acc : Array Value} (kv : KV kvs vs) (h : ItemsOf (fun i v => ∃ k x, vs[i]? = some (k, x) /\ (aY P w).is k v = true) acc vs.length) : Vals (kvs.map fun kv => kV kv.1) acc.toList := by
 obtain ⟨h0, h1⟩ := h
 have key : ∀ (kvs : List (Key × V)) (vs : List (Key × Value)), KV kvs vs -> ∀ l : List Value, l.length = vs.length -> (∀ (i : Nat) (v : Value), l[i]? = some v -> ∃ k x, vs[i]? = some (k, x) /\ (aY P w).is k v = true) -> Vals (kvs.map fun kv => kV kv.1) l := by
  intro kvs vs r
  induction r with
  | nil =>
    intro l hl _
    cases l with
    | nil => exact .nil
    | cons => simp at hl
  | cons r t ih =>
    intro l hl hi
    cases l with
    | nil => simp at hl
    | cons v l =>
      refine .cons ?_ (ih l (by simpa using hl) fun i v e => ?_)
      . obtain ⟨k, x, e, hk⟩ := hi 0 v rfl
        have e' := Option.some.inj e
        dsimp only
        rw [r.1, e']
        exact xc hk
      . exact hi (i + 1) v (by simpa using e)
 exact key kvs vs kv acc.toList (by simpa using h0) fun i v e => h1 i v (by simpa using e)
end
section
variable {σ : St} {H : Hp} {Q : VK} {p : Addr} {m : List (Str × PyData)}
end
section
variable {σ : St} {H : Hp} {D : Ends} {p : Addr} {m : List (Str × PyData)} {g : TG} {tb : TS}
end
section
variable {σ : St} {H : Hp} {K : PySem.W.Frag}
theorem CH {x : V} {i j : Nat} {d1 d2 : PyData} {R : St -> Hp -> Prop} (hd : Dv H x (.tuple [d1, d2])) (h : ∀ v1 v2, Dv H v1 d1 -> Dv H v2 d2 -> R ((σ.set i (some v1)).set j (some v2)) H) :
 pU K 2 (eM (cO i) (eM (cO j) ur)) x σ H R := by
 cases hd with
 | tup ha r =>
   cases r with
   | cons h1 r =>
     cases r with
     | cons h2 r =>
       cases r
       exact ⟨_, _, rfl, .of ha, rfl, _, _, rfl, _, _, rfl, rfl, h _ _ h1 h2⟩
end
end L2
namespace L2
open PySem
def Bc (xs : Array Nat) : Prop := ∀ i j, (hi : i < xs.size) -> (hj : j < xs.size) -> i < j -> xs[i] < xs[j]
theorem we {xs : Array Nat} {j : Nat} (up : Bc xs) : ∀ (f lo hi : Nat), hi - lo <= f -> lo <= hi -> hi <= xs.size -> (∀ i, (h : i < xs.size) -> i < lo -> xs[i] < j) -> (∀ i, (h : i < xs.size) -> hi <= i -> j <= xs[i]) ->
 SetTable.below.go xs j f lo hi <= xs.size /\ (∀ i, (h : i < xs.size) -> i < SetTable.below.go xs j f lo hi -> xs[i] < j) /\ ∀ i, (h : i < xs.size) -> SetTable.below.go xs j f lo hi <= i -> j <= xs[i] := by
 intro f
 induction f with
 | zero =>
   intro lo hi hf h1 h2 a b
   have e : hi = lo := by omega
   subst e
   exact ⟨h2, a, b⟩
 | succ f ih =>
   intro lo hi hf h1 h2 a b
   unfold SetTable.below.go
   by_cases b4 : lo < hi
   . rw [if_pos b4]
     have hm : (lo + hi) / 2 < xs.size := by omega
     have hg : xs.getD ((lo + hi) / 2) j = xs[(lo + hi) / 2] := by simp [Array.getD, hm]
     dsimp only
     rw [hg]
     by_cases hx : xs[(lo + hi) / 2] < j
     . rw [if_pos hx]
       refine ih _ _ (by omega) (by omega) h2 (fun i h Am => ?_) b
       by_cases e : i = (lo + hi) / 2
       . subst e; exact hx
       . exact Nat.lt_trans (up i _ h hm (by omega)) hx
     . rw [if_neg hx]
       refine ih _ _ (by omega) (by omega) (by omega) a (fun i h Am => ?_)
       by_cases e : i = (lo + hi) / 2
       . subst e; omega
       . have := up _ i hm h (by omega); omega
   . rw [if_neg b4]
     have e : hi = lo := by omega
     subst e
     exact ⟨h2, a, b⟩
theorem below_at {xs : Array Nat} {j : Nat} (up : Bc xs) : SetTable.below xs j <= xs.size /\ (∀ i, (h : i < xs.size) -> i < SetTable.below xs j -> xs[i] < j) /\ ∀ i, (h : i < xs.size) -> SetTable.below xs j <= i -> j <= xs[i] :=
 we up _ _ _ (by omega) (Nat.zero_le _) (Nat.le_refl _) (fun i _ h => absurd h (Nat.not_lt_zero _)) (fun i h h' => absurd h (by omega))
theorem qv {xs : Array Nat} : Bc xs ↔ xs.toList.Pairwise (· < ·) := by
 rw [List.pairwise_iff_getElem]
 constructor
 . intro h i j hi hj jU
   simpa using h i j (by simpa using hi) (by simpa using hj) jU
 . intro h i j hi hj jU
   have := h i j (by simpa using hi) (by simpa using hj) jU
   rw [Array.getElem_toList, Array.getElem_toList] at this
   exact this
theorem qF {xs : Array Nat} {j : Nat} (up : Bc xs) (hn : xs[SetTable.below xs j]? ≠ some j) : Bc (SetTable.insertAt xs (SetTable.below xs j) j) := by
 obtain ⟨h0, h1, h2⟩ := below_at (j := j) up
 rw [qv, SetTable.toList_insertAt]
 have pw := qv.mp up
 have hd : ∀ x ∈ xs.toList.drop (SetTable.below xs j), j < x := by
  intro x hx
  obtain ⟨k, hk, e⟩ := List.getElem_of_mem hx
  rw [List.getElem_drop] at e
  have GW : SetTable.below xs j + k < xs.size := by rw [List.length_drop] at hk; simp at hk; omega
  have e2 : xs[SetTable.below xs j + k] = x := by rw [<- e]; simp
  have := h2 _ GW (by omega)
  rcases Nat.lt_or_ge j x with q | q
  . exact q
  . have hj : xs[SetTable.below xs j + k] = j := by omega
    rcases Nat.eq_zero_or_pos k with k0 | k0
    . subst k0
      exact absurd (by rw [Array.getElem?_eq_getElem (by omega)]; simpa using hj) hn
    . have a := up (SetTable.below xs j) _ (by omega) GW (by omega)
      have b := h2 (SetTable.below xs j) (by omega) (Nat.le_refl _)
      omega
 rw [List.pairwise_append, List.pairwise_cons]
 refine ⟨pw.sublist (List.take_sublist _ _), ⟨hd, pw.sublist (List.drop_sublist _ _)⟩, fun x hx y hy => ?_⟩
 have L4 : x < j := by
  obtain ⟨k, hk, e⟩ := List.getElem_of_mem hx
  rw [List.getElem_take] at e
  rw [List.length_take] at hk
  have GW : k < xs.size := by simp at hk; omega
  have := h1 k GW (by omega)
  rw [<- e]; simpa using this
 rcases List.mem_cons.mp hy with rfl | hy
 . exact L4
 . exact Nat.lt_trans L4 (hd y hy)
structure Good (t : SetTable) : Prop where
 up : Bc t.place
 nd : t.dummies = #[]
theorem tS (n : Nat) : Bc (Array.range n) := fun i j hi hj h => by simpa using h
theorem dq {t : SetTable} {n : Nat} : Good (t.standIn n) := ⟨tS n, rfl⟩
theorem qK {t : SetTable} {b : Bool} (g : Good t) : Good { t with plain := b } := ⟨g.up, g.nd⟩
theorem rp {j : Nat} : SetTable.has #[] j = false := by simp [SetTable.has]
theorem qm {t : SetTable} {j : Nat} (g : Good t) (h : t.slot j = .empty) : t.place[SetTable.below t.place j]? ≠ some j := by
 intro e
 unfold SetTable.slot at h
 simp [e] at h
theorem wM {t : SetTable} {f : Nat -> Int} {h : Int} (g : Good t) : ∀ (k : Nat) (p : SetTable.Probe) (j : Nat) (d : Option Nat), p.dummy = none -> SetTable.probe.go t f h k p = some (.empty j d) -> t.slot j = .empty /\ d = none := by
 intro k
 induction k with
 | zero => intro p j d _ e; simp [SetTable.probe.go] at e
 | succ k ih =>
   intro p j d hp e
   unfold SetTable.probe.go at e
   have MN : ∀ q : SetTable.Probe, q.dummy = none -> (t.advance q).dummy = none := by
    intro q hq
    unfold SetTable.advance
    split <;> exact hq
   split at e
   . rename_i hs
     cases e
     exact ⟨hs, hp⟩
   . rename_i hs
     unfold SetTable.slot at hs
     dsimp only at hs
     split at hs
     . cases hs
     . rw [g.nd, rp] at hs
       cases hs
   . split at e
     . cases e
     . exact ih _ j d (MN p hp) e
theorem pA {t : SetTable} {es : Array (Int × Value)} {h : Int} {x : Value} (g : Good t) : Good (layNew t es h x).2.1 /\ (layNew t es h x).2.1.led = t.led := by
 unfold layNew
 split
 . rename_i slot Nf e
   have hs : t.slot slot = .empty := by
    unfold SetTable.freeSlot at e
    split at e
    . rename_i j d hp
      obtain ⟨h1, rfl⟩ := wM g _ _ _ _ rfl hp
      cases e
      exact h1
    . cases e
   have hn := qm g hs
   have gp : Good (t.put slot).1 := ⟨qF g.up hn, by unfold SetTable.put; dsimp only; rw [g.nd, rp]; rfl⟩
   dsimp only
   unfold SetTable.orStandIn
   split
   . exact ⟨gp, rfl⟩
   . exact ⟨dq, rfl⟩
 . exact ⟨dq, rfl⟩
theorem kq {α : Type} (g : Nat -> Option α) : ∀ l : List Nat, ((l.filterMap fun j => (g j).map (j, ·)).map (·.1)) = l.filter fun j => (g j).isSome
 | [] => rfl
 | j :: r => by
   rw [List.filterMap_cons, List.filter_cons]
   cases hg : g j with
   | none => simpa using kq g r
   | some a => simpa using kq g r
theorem uv {mask finger moves : Nat} {led plain : Bool} {hs : Array Int} {t : SetTable} {o : Array Nat} (e : SetTable.laid mask finger moves led plain hs = some (t, o)) : Good t /\ t.led = led := by
 unfold SetTable.laid at e
 cases hl : SetTable.layClean mask hs with
 | none => rw [hl] at e; cases e
 | some owner =>
   rw [hl] at e
   have e' := Option.some.inj e
   cases e'
   refine ⟨⟨?_, rfl⟩, rfl⟩
   rw [qv]
   show List.Pairwise _ (List.map _ _)
   rw [kq]
   exact List.pairwise_lt_range.filter _
theorem qU {t : SetTable} {es : Array (Int × Value)} {n : Nat} : Good (relayAll t es n).2.1 /\ (relayAll t es n).2.1.led = t.led := by
 unfold relayAll
 split
 . rename_i t' order e
   have := uv e
   dsimp only
   split
   . exact this
   . exact ⟨dq, rfl⟩
 . exact ⟨dq, rfl⟩
section
variable {prog : Program} {w : World} {A : Around} {E : Value -> Shared -> Prop} {s : Shared}
def eN (prog : Program) (w : World) (h : Heap) (a : Addr) (S : Int -> Bool) (n : Nat) : Prop :=
 ∃ o es ep t, h.get? a = some o /\ o.ExactSet /\ o.data = .set es ep t /\ ElemsOf (intKind prog w) es.toList /\ (∀ k, S k = true ↔ ∃ e ∈ es.toList, (intKind prog w).is k e.2 = true) /\ es.size < scanBound /\ t.fits es.size = true /\ es.size = n /\ Good t /\ t.led = !w.params.followText "set-order"
theorem eN.at {h h' : Heap} {a : Addr} {S : Int -> Bool} {n : Nat} (x : eN prog w h a S n) (k : ∀ o, h.get? a = some o -> h'.get? a = some o) : eN prog w h' a S n := by
 obtain ⟨o, es, ep, t, ho, r⟩ := x
 exact ⟨o, es, ep, t, k o ho, r⟩
theorem rU {h : Heap} {a : Addr} {o : Obj} {es eO : Array (Int × Value)} {ep : Nat} {t t1 : SetTable} {S : Int -> Bool} (ho : h.get? a = some o) (hx : o.ExactSet) (hd : o.data = .set es ep t)
 (h1 : ElemsOf (intKind prog w) eO.toList) (h2 : ∀ k, S k = true ↔ ∃ e ∈ eO.toList, (intKind prog w).is k e.2 = true) (h3 : eO.size < scanBound) (h4 : t1.fits eO.size = true) (h5 : Good t1) (h6 : t1.led = !w.params.followText "set-order") :
 (h.update a (Obj.putSet eO t1)).get? a = some { o with data := .set eO (ep + 1) t1 } /\ eN prog w (h.update a (Obj.putSet eO t1)) a S eO.size := by
 obtain ⟨e, _⟩ := SetOf_store (knd := intKind prog w) ho hx hd h1 h2 h3 h4
 exact ⟨e, _, eO, ep + 1, t1, e, hx, rfl, h1, h2, h3, h4, rfl, h5, h6⟩
theorem uM {g : Bool -> Sem Unit} (hg : ∀ (b : Bool) (s1 : Shared) (R : Unit -> Shared -> Prop), R () s1 -> wpAny (model prog w) A (g b) R E s1) {a : Addr} {o : Obj} {es eO : Array (Int × Value)} {ep : Nat} {t t1 : SetTable} {S : Int -> Bool} {wd : Bool} {R : Option Bool -> Shared -> Prop}
 (ho : s.heap.get? a = some o) (hx : o.ExactSet) (hd : o.data = .set es ep t) (h1 : ElemsOf (intKind prog w) eO.toList) (h2 : ∀ k, S k = true ↔ ∃ e ∈ eO.toList, (intKind prog w).is k e.2 = true) (h3 : eO.size < scanBound) (h4 : t1.fits eO.size = true) (h5 : Good t1) (h6 : t1.led = !w.params.followText "set-order")
 (k : ∀ h', Heap.SameBut a s.heap h' -> eN prog w h' a S eO.size -> R (some true) { s with heap := h' }) :
 wpAny (model prog w) A (do
  storeSet a eO t1
  if (!wd && t1.tooFull) = true then do
      g (relayAll t1 eO (SetTable.grown eO.size)).2.2
      storeSet a (relayAll t1 eO (SetTable.grown eO.size)).1 (relayAll t1 eO (SetTable.grown eO.size)).2.1
      pure (some true)
   else pure (some true)) R E s := by
 obtain ⟨e1, g1⟩ := rU (prog := prog) (w := w) ho hx hd h1 h2 h3 h4 h5 h6
 refine wpAny_bind (wpAny_storeSet_of ho hd ?_ (fits_of_scanBound h3))
 have sb := Heap.SameBut.update s.heap a (Obj.putSet eO t1)
 by_cases c : (!wd && t1.tooFull) = true
 . rw [if_pos c]
   have p1 := relayAll_perm t1 eO (SetTable.grown eO.size)
   have p2 := relayAll_fits t1 eO (SetTable.grown eO.size)
   obtain ⟨p3, p4⟩ := qU (t := t1) (es := eO) (n := SetTable.grown eO.size)
   have sz : (relayAll t1 eO (SetTable.grown eO.size)).1.size = eO.size := by rw [<- Array.length_toList, p1.length_eq, Array.length_toList]
   have q2 : ∀ k, S k = true ↔ ∃ e ∈ (relayAll t1 eO (SetTable.grown eO.size)).1.toList, (intKind prog w).is k e.2 = true := fun k => by
    rw [h2 k]
    exact ⟨fun ⟨e, m, i⟩ => ⟨e, p1.mem_iff.mpr m, i⟩, fun ⟨e, m, i⟩ => ⟨e, p1.mem_iff.mp m, i⟩⟩
   have L5 : (relayAll t1 eO (SetTable.grown eO.size)).1.size < scanBound := by rw [sz]; exact h3
   obtain ⟨_, g2⟩ := rU (prog := prog) (w := w) e1 hx rfl (h1.perm p1) q2 L5 p2 p3 (p4.trans h6)
   refine wpAny_bind (hg _ _ _ (wpAny_bind (wpAny_storeSet_of e1 rfl ?_ (fits_of_scanBound L5))))
   rw [sz] at g2
   exact wpAny_pure (k _ (sb.trans (Heap.SameBut.update _ a _)) g2)
 . rw [if_neg c]
   exact wpAny_pure (k _ sb g1)
theorem F1 {a : Addr} {S : Int -> Bool} {n : Nat} {k : Int} {x : Value} {Q : Bool -> Shared -> Prop} (hk : (intKind prog w).is k x = true) (hc : x.scannable = true) (hS : eN prog w s.heap a S n) (hr : n + 1 < scanBound)
 (h : ∀ h', Heap.SameBut a s.heap h' -> eN prog w h' a (fun i => S i || decide (i = k)) (if S k then n else n + 1) -> Q (!S k) { s with heap := h' }) : wpAny (model prog w) A (setAddHashed a x ((intKind prog w).hash k)) Q E s := by
 obtain ⟨o, es, ep, t, ho, hx, hd, h1, h2, h3, h4, h5, h6, h7⟩ := hS
 unfold setAddHashed setAddHashedIn
 refine wpAny_holding (wpAny_bind (wpAny_setState_of ho hd h4 ?_))
 dsimp only
 rw [byScan_of hc h3 h1]
 simp only [if_true]
 unfold setAddByScan
 refine wpAny_bind (wpAny_bind (wpAny_rule (wpAny_bind (wpAny_setScan_of hk ho hd h4 h1 ?_))))
 cases hf : List.findIdx? (fun e => (intKind prog w).is k e.2) es.toList with
 | some j =>
   obtain ⟨hj, hp, _⟩ := List.findIdx?_eq_some_iff_getElem.mp hf
   have e : S k = true := (h2 k).mpr ⟨_, List.getElem_mem hj, hp⟩
   rw [e] at h
   dsimp only
   refine wpAny_pure (wpAny_pure ?_)
   have z := h s.heap (Heap.SameBut.refl a s.heap) ⟨o, es, ep, t, ho, hx, hd, h1, fun i => by
    rw [Bool.or_eq_true, decide_eq_true_eq, <- h2 i]
    exact ⟨fun q => q.elim id fun z => z ▸ e, .inl⟩, h3, h4, by simpa using h5, h6, h7⟩
   cases s
   exact z
 | none =>
   have e : S k = false := by
    cases hb : S k with
    | false => rfl
    | true =>
      obtain ⟨y, m, i⟩ := (h2 k).mp hb
      rw [List.findIdx?_eq_none_iff.mp hf y m] at i
      cases i
   rw [e] at h
   dsimp only
   have p1 := layNew_perm t es ((intKind prog w).hash k) x
   have p2 := layNew_fits t es ((intKind prog w).hash k) x
   obtain ⟨p3, p4⟩ := pA (es := es) (h := (intKind prog w).hash k) (x := x) h6
   generalize layNew t es ((intKind prog w).hash k) x = L at p1 p2 p3 p4 ⊢
   obtain ⟨eO, t1, wd, gv⟩ := L
   dsimp only at p1 p2 p3 p4 ⊢
   rw [Array.toList_push] at p1
   have sz : eO.size = n + 1 := by rw [<- Array.length_toList, p1.length_eq, List.length_append, Array.length_toList, h5]; rfl
   have q1 : ElemsOf (intKind prog w) eO.toList := (h1.push hk hc).perm p1
   have q2 := mem_push_iff hk h2 p1
   have q3 : eO.size < scanBound := by rw [sz]; exact hr
   have fin : ∀ h', Heap.SameBut a s.heap h' -> eN prog w h' a (fun i => S i || decide (i = k)) eO.size -> Q true { s with heap := h' } := fun h' sb g => by
    rw [sz] at g
    exact h h' sb g
   refine wpAny_bind (m := match gv with | true => rule "set.scan.the-table-gave-way" | false => pure ()) ?_
   have gw : ∀ (b : Bool) (s1 : Shared) (R : Unit -> Shared -> Prop), R () s1 -> wpAny (model prog w) A (match b with | true => rule "set.scan.the-table-gave-way" | false => pure ()) R E s1 := fun b s1 R hq => by
    cases b
    . exact wpAny_pure hq
    . exact wpAny_rule hq
   refine gw gv _ _ ?_
   by_cases c : t1.plain = true
   . rw [if_pos c, hashByValue_scannable 8 hc]
     refine wpAny_bind (wpAny_pure ?_)
     refine uM gw ho hx hd q1 q2 q3 ?_ ?_ ?_ fun h' sb g => wpAny_pure (fin h' sb g)
     . split
       . exact p2
       . exact SetTable.fits_plain_off p2
     . split
       . exact p3
       . exact qK p3
     . split
       . exact p4.trans h7
       . exact p4.trans h7
   . rw [if_neg c]
     refine wpAny_bind (wpAny_pure ?_)
     simp only [if_true]
     exact uM gw ho hx hd q1 q2 q3 p2 p3 (p4.trans h7) fun h' sb g => wpAny_pure (fin h' sb g)
end
theorem ip {α : Type} : ∀ {xs : List α} {i : Nat} (h : i < xs.length), (xs[i] :: xs.eraseIdx i).Perm xs
 | a :: r, 0, _ => .refl _
 | a :: r, i + 1, h => by
   have h2 : i < r.length := by simpa using h
   show (r[i] :: a :: r.eraseIdx i).Perm (a :: r)
   exact (List.Perm.swap a _ _).trans (List.Perm.cons a (ip h2))
theorem yj {α : Type} (f : Nat -> Nat) : ∀ (n k : Nat) (left : List α) (out : Array α), left.length <= n -> (pickOrder.go f n k left out).toList.Perm (out.toList ++ left) := by
 intro n
 induction n with
 | zero =>
   intro k left out h
   have : left = [] := List.length_eq_zero_iff.mp (by omega)
   subst this
   simp [pickOrder.go]
 | succ n ih =>
   intro k left out h
   unfold pickOrder.go
   cases left with
   | nil => simp
   | cons a r =>
     have b4 : f k % (a :: r).length < (a :: r).length := Nat.mod_lt _ (by simp)
     rw [List.getElem?_eq_getElem b4]
     dsimp only
     refine (ih _ _ _ ?_).trans ?_
     . rw [List.length_eraseIdx, if_pos b4]; simp at h ⊢; omega
     . rw [Array.toList_push, List.append_assoc]
       exact List.Perm.append_left _ (ip b4)
theorem jr {α : Type} (f : Nat -> Nat) (xs : Array α) : (pickOrder f xs).toList.Perm xs.toList := by
 unfold pickOrder
 simpa using yj f xs.size 0 xs.toList #[] (by simp)
section
variable {prog : Program} {w : World} {A : Around} {E : Value -> Shared -> Prop} {s : Shared}
theorem yd {src : Source} {n : Nat} {Q : Nat -> Shared -> Prop} (hn : n ≠ 0) (h : ∀ i d, i < n -> Q i { s with drawn := d }) : wpAny (model prog w) A (choose src n) Q E s := fun Γ p _ => by
 show Sem.wp _ _ (.choose src n .pure) _ _ _ _
 rw [Sem.wp_choose]
 exact ⟨hn, h _ _ (Nat.mod_lt _ (Nat.pos_of_ne_zero hn))⟩
theorem xi {α : Type} : ∀ (n : Nat) (xs : List α) {s : Shared} {Q : List α -> Shared -> Prop}, xs.length <= n -> (∀ ys d, ys.Perm xs -> Q ys { s with drawn := d }) -> wpAny (model prog w) A (drawOrder n xs) Q E s := by
 intro n
 induction n with
 | zero =>
   intro xs s Q h k
   have : xs = [] := List.length_eq_zero_iff.mp (by omega)
   subst this
   exact wpAny_pure (k [] s.drawn .nil)
 | succ n ih =>
   intro xs s Q h k
   cases xs with
   | nil => exact wpAny_pure (k [] s.drawn .nil)
   | cons a r =>
     unfold drawOrder
     refine wpAny_bind (yd (by simp) fun i d hi => ?_)
     rw [List.getElem?_eq_getElem hi]
     dsimp only
     refine wpAny_bind (ih _ ?_ fun ys d2 hp => wpAny_pure (k _ _ ?_))
     . rw [List.length_eraseIdx, if_pos hi]; simp at h ⊢; omega
     . exact (List.Perm.cons _ hp).trans (ip hi)
end
set_option maxRecDepth 100000
theorem oD : Manifest.owners.lookup (String.ofList ['r', 'o', 't', 'a', 'r', 'e', 't', 'i', '_', 't', 'e', 's'].reverse) = some Manifest.sig_set_iterator := by kernel_rfl
theorem aU : Slot "set_iterator" "__next__" "set_iterator.__next__" :=
 .of (owner := "set_iterator") (n := "__next__") (by rw [typeLookup_type, builtinLookup_eq_fast]; kernel_rfl) (by decide +kernel) (by decide +kernel) (by decide +kernel) (by first | exact .inl (by decide +kernel) | exact .inr (by decide +kernel)) (by rw [isSubtype_type]; kernel_rfl)
theorem iY : Slot "set_iterator" "__iter__" "set_iterator.__iter__" :=
 .of (owner := "set_iterator") (n := "__iter__") (by rw [typeLookup_type, builtinLookup_eq_fast]; kernel_rfl) (by decide +kernel) (by decide +kernel) (by decide +kernel) (by first | exact .inl (by decide +kernel) | exact .inr (by decide +kernel)) (by rw [isSubtype_type]; kernel_rfl)
theorem cV : entryFor table "set_iterator.__next__" = some Builtin.«set_iterator.__next__» := entryFor_of_tree (by kernel_rfl)
theorem lM : entryFor table "set_iterator.__iter__" = some Builtin.«dict_keyiterator.__iter__» :=
 entryFor_alias (id' := "dict_keyiterator.__iter__") (by kernel_rfl) rfl (by decide +kernel) (by kernel_rfl)
theorem dg (a : Value) : argsOk "set_iterator.__next__" ⟨[a], []⟩ := by
 unfold argsOk; rw [signature?_of (id := "set_iterator.__next__") (n := ['_', '_', 't', 'x', 'e', 'n', '_', '_']) (o := ['r', 'o', 't', 'a', 'r', 'e', 't', 'i', '_', 't', 'e', 's']) (by kernel_rfl) oD]; kernel_rfl
theorem nu (a : Value) : argsOk "set_iterator.__iter__" ⟨[a], []⟩ := by
 unfold argsOk; rw [signature?_of (id := "set_iterator.__iter__") (n := ['_', '_', 'r', 'e', 't', 'i', '_', '_']) (o := ['r', 'o', 't', 'a', 'r', 'e', 't', 'i', '_', 't', 'e', 's']) (by kernel_rfl) oD]; kernel_rfl
theorem kz : entryFor table "set.__iter__" = some Builtin.«frozenset.__iter__» :=
 entryFor_alias (id' := "frozenset.__iter__") (by kernel_rfl) rfl (by decide +kernel) (by kernel_rfl)
def fQ (f : Value) (i : Nat) (a : Addr) (n ep : Nat) : Obj := { cls := .type "set_iterator", data := .fields #[f, rawInt i, .ref a, rawInt n, rawInt ep] }
section
variable {prog : Program} {w : World} {A : Around} {E : Value -> Shared -> Prop} {s : Shared} {it a : Addr} {o : Obj} {es : Array (Int × Value)} {ep : Nat} {t : SetTable}
theorem nj {f : Value} {i n : Nat} {Q : Value -> Shared -> Prop} (h : s.heap.get? it = some (fQ f i a n ep)) (q : Q (.ref it) s) : wpAny (model prog w) A (pyIter (.ref it)) Q E s := by
 have hT : s.TypeIs (.ref it) "set_iterator" := ⟨_, h, rfl⟩
 refine wpAny_pyIter_slot hT iY (wpAny_call_entry iY hT lM ?_ (nu _))
 show wpAny _ _ (ret (.ref it)) _ _ s
 exact wpAny_pure ⟨_, rfl, "set_iterator", _, hT, aU.lookup, q⟩
end
section
variable {prog : Program} {w : World} {A : Around} {E : Value -> Shared -> Prop} {s : Shared} {it a : Addr} {o : Obj} {es : Array (Int × Value)} {ep : Nat} {t : SetTable}
theorem kX : isSubtype (.type "StopIteration") (.type "StopIteration") = pure true := by rw [isSubtype_type]; kernel_rfl
theorem rK {z z2 i : Nat} {x : Value} {Q : Option Value -> Shared -> Prop} (hit : s.heap.get? it = some (fQ (rawInt z) i a es.size ep)) (ho : s.heap.get? a = some o) (hd : o.data = .set es ep t) (hf : t.fits es.size = true)
 (hn : ∀ (R : Option (Value × Nat) -> Shared -> Prop) (E : Value -> Shared -> Prop), R (some (x, z2)) s -> wpAny (model prog w) A.in1 (setNext a z i ep) R E s)
 (h : ∀ h', h'.get? it = some (fQ (rawInt z2) (i + 1) a es.size ep) -> Heap.SameBut it s.heap h' -> Q (some x) { s with heap := h' }) : wpAny (model prog w) A (pyNext (.ref it)) Q E s := by
 have hT : s.TypeIs (.ref it) "set_iterator" := ⟨_, hit, rfl⟩
 unfold pyNext
 refine wpAny_bind (wpAny_attempt (wpAny_callSpecial?_slot (name := Str.ofString "__next__") hT aU (wpAny_call_entry aU hT cV ?_ (dg _))))
 unfold Builtin.«set_iterator.__next__»
 refine wpAny_bind (wpAny_pure ?_)
 refine wpAny_bind (wpAny_fieldsOf hit rfl ?_)
 refine wpAny_bind (wpAny_setEntries_of ho hd hf ?_)
 rw [if_neg (by simp)]
 refine wpAny_bind (hn _ _ ?_)
 dsimp only
 refine wpAny_bind (wpAny_setField_rec hit (by simp) fun h1 e1 b1 => ?_)
 refine wpAny_bind (wpAny_setField_rec (s := { s with heap := h1 }) e1 (by simp) fun h2 e2 b2 => ?_)
 refine wpAny_pure ⟨_, rfl, wpAny_pure (h h2 ?_ (b1.trans b2))⟩
 rw [e2]
 unfold fQ
 have e : ((i + 1 : Nat) : Int) = (i : Int) + 1 := by omega
 rw [e]
 rfl
theorem kF {z i : Nat} {Q : Option Value -> Shared -> Prop} (hh : A.handled = none) (hit : s.heap.get? it = some (fQ (rawInt z) i a es.size ep)) (ho : s.heap.get? a = some o) (hd : o.data = .set es ep t) (hf : t.fits es.size = true)
 (hn : ∀ (R : Option (Value × Nat) -> Shared -> Prop) (E : Value -> Shared -> Prop), R none s -> wpAny (model prog w) A.in1 (setNext a z i ep) R E s)
 (h : ∀ h', Heap.ExtBut it s.heap h' -> Q none { s with heap := h' }) : wpAny (model prog w) A (pyNext (.ref it)) Q E s := by
 have hT : s.TypeIs (.ref it) "set_iterator" := ⟨_, hit, rfl⟩
 unfold pyNext
 refine wpAny_bind (wpAny_attempt (wpAny_callSpecial?_slot (name := Str.ofString "__next__") hT aU (wpAny_call_entry aU hT cV ?_ (dg _))))
 unfold Builtin.«set_iterator.__next__»
 refine wpAny_bind (wpAny_pure ?_)
 refine wpAny_bind (wpAny_fieldsOf hit rfl ?_)
 refine wpAny_bind (wpAny_setEntries_of ho hd hf ?_)
 rw [if_neg (by simp)]
 refine wpAny_bind (hn _ _ ?_)
 dsimp only
 refine wpAny_bind (wpAny_setField_rec hit (by simp) fun h1 e1 b1 => ?_)
 refine wpAny_bind ?_
 simp only [newExc, newTuple]
 refine wpAny_bind (wpAny_newObj_type ?_ (by size_fits))
 refine wpAny_bind (m := firstArgMember _ _) (wpAny_of_eq (a := Value.none) (by first | rfl | (simp only [firstArgMember]; rfl)) ?_)
 refine wpAny_newObj_type ?_ (by size_fits)
 simp only [raiseNew]
 refine wpAny_bind (wpAny_handled ?_)
 rw [show A.in1.handled = none from hh]
 refine wpAny_bind (wpAny_pure (wpAny_throw ?_))
 refine wpAny_bind (wpAny_isInstance (T := "StopIteration") (b := true) ⟨_, Heap.get?_push_size _ rfl, rfl⟩ kX ?_)
 exact wpAny_pure (h _ ((b1.extBut.push _).push _))
theorem uH {p i j : Nat} {ps : List Nat} {x : Int × Value} {Q : Option Value -> Shared -> Prop} (hit : s.heap.get? it = some (fQ (.ref p) i a es.size ep)) (hp : s.heap.get? p = some { cls := .type "tuple", data := .seq (ps.map fun (i : Nat) => rawInt i).toArray }) (ho : s.heap.get? a = some o) (hd : o.data = .set es ep t) (hf : t.fits es.size = true)
 (hi : ps[i]? = some j) (hj : es[j]? = some x) (h : ∀ h', h'.get? it = some (fQ (.ref p) (i + 1) a es.size ep) -> Heap.SameBut it s.heap h' -> Q (some x.2) { s with heap := h' }) : wpAny (model prog w) A (pyNext (.ref it)) Q E s := by
 have hT : s.TypeIs (.ref it) "set_iterator" := ⟨_, hit, rfl⟩
 unfold pyNext
 refine wpAny_bind (wpAny_attempt (wpAny_callSpecial?_slot (name := Str.ofString "__next__") hT aU (wpAny_call_entry aU hT cV ?_ (dg _))))
 unfold Builtin.«set_iterator.__next__»
 refine wpAny_bind (wpAny_pure ?_)
 refine wpAny_bind (wpAny_fieldsOf hit rfl ?_)
 refine wpAny_bind (wpAny_setEntries_of ho hd hf ?_)
 rw [if_neg (by simp)]
 refine wpAny_bind (wpAny_bind (wpAny_load hp (wpAny_pure ?_)))
 dsimp only
 have e0 : (ps.map fun (i : Nat) => rawInt i).toArray[(i : Int).toNat]? = some (rawInt j) := by
  rw [Int.toNat_natCast, List.getElem?_toArray, List.getElem?_map, hi]; rfl
 rw [e0]
 refine wpAny_bind ?_
 unfold setNextDrawn
 refine wpAny_bind (wpAny_setState_of ho hd hf ?_)
 dsimp only
 rw [if_neg (by simp), Int.toNat_natCast, hj]
 refine wpAny_pure (wpAny_bind (wpAny_setField_rec hit (by simp) fun h1 e1 b1 => wpAny_pure ⟨_, rfl, wpAny_pure (h h1 ?_ b1)⟩))
 rw [e1]
 unfold fQ
 have e : ((i + 1 : Nat) : Int) = (i : Int) + 1 := by omega
 rw [e]
 rfl
theorem o5 {p i : Nat} {ps : List Nat} {Q : Option Value -> Shared -> Prop} (hh : A.handled = none) (hit : s.heap.get? it = some (fQ (.ref p) i a es.size ep)) (hp : s.heap.get? p = some { cls := .type "tuple", data := .seq (ps.map fun (i : Nat) => rawInt i).toArray }) (ho : s.heap.get? a = some o) (hd : o.data = .set es ep t) (hf : t.fits es.size = true)
 (hi : ps[i]? = none) (h : ∀ h', Heap.ExtBut it s.heap h' -> Q none { s with heap := h' }) : wpAny (model prog w) A (pyNext (.ref it)) Q E s := by
 have hT : s.TypeIs (.ref it) "set_iterator" := ⟨_, hit, rfl⟩
 unfold pyNext
 refine wpAny_bind (wpAny_attempt (wpAny_callSpecial?_slot (name := Str.ofString "__next__") hT aU (wpAny_call_entry aU hT cV ?_ (dg _))))
 unfold Builtin.«set_iterator.__next__»
 refine wpAny_bind (wpAny_pure ?_)
 refine wpAny_bind (wpAny_fieldsOf hit rfl ?_)
 refine wpAny_bind (wpAny_setEntries_of ho hd hf ?_)
 rw [if_neg (by simp)]
 refine wpAny_bind (wpAny_bind (wpAny_load hp (wpAny_pure ?_)))
 dsimp only
 have e0 : (ps.map fun (i : Nat) => rawInt i).toArray[(i : Int).toNat]? = none := by
  rw [Int.toNat_natCast, List.getElem?_toArray, List.getElem?_map, hi]; rfl
 rw [e0]
 refine wpAny_bind (wpAny_setField_rec hit (by simp) fun h1 e1 b1 => ?_)
 refine wpAny_bind (wpAny_setField_rec (s := { s with heap := h1 }) e1 (by simp) fun h2 e2 b2 => ?_)
 refine wpAny_bind ?_
 simp only [newExc, newTuple]
 refine wpAny_bind (wpAny_newObj_type ?_ (by size_fits))
 refine wpAny_bind (m := firstArgMember _ _) (wpAny_of_eq (a := Value.none) (by first | rfl | (simp only [firstArgMember]; rfl)) ?_)
 refine wpAny_newObj_type ?_ (by size_fits)
 simp only [raiseNew]
 refine wpAny_bind (wpAny_handled ?_)
 rw [show A.in1.handled = none from hh]
 refine wpAny_bind (wpAny_pure (wpAny_throw ?_))
 refine wpAny_bind (wpAny_isInstance (T := "StopIteration") (b := true) ⟨_, Heap.get?_push_size _ rfl, rfl⟩ kX ?_)
 exact wpAny_pure (h _ (((b1.trans b2).extBut.push _).push _))
theorem sx {A : Around} {z i : Nat} (hb : w.params.followText "set-order" = true) (ho : s.heap.get? a = some o) (hd : o.data = .set es ep t) (hf : t.fits es.size = true) (R : Option (Value × Nat) -> Shared -> Prop) (E : Value -> Shared -> Prop)
 (h : R ((((pickOrder (w.params.setOrder a ep) es).toList.map (·.2))[i]?).map fun x => (x, z)) s) : wpAny (model prog w) A (setNext a z i ep) R E s := by
 unfold setNext
 refine wpAny_bind (wpAny_setState_of ho hd hf ?_)
 unfold setsByText
 refine wpAny_bind (wpAny_bind (wpAny_askSetting (wpAny_pure ?_)))
 dsimp only
 rw [show (model prog w).w.params.followText "set-order" = true from hb, if_pos rfl, if_neg (by simp)]
 refine wpAny_bind ?_
 unfold setWalk setsByText
 refine wpAny_bind (wpAny_setState_of ho hd hf ?_)
 refine wpAny_bind (wpAny_bind (wpAny_askSetting (wpAny_pure ?_)))
 dsimp only
 rw [show (model prog w).w.params.followText "set-order" = true from hb, if_pos rfl]
 refine wpAny_bind (wpAny_askSetting (wpAny_pure (wpAny_pure ?_)))
 dsimp only
 rw [List.getElem?_map, Array.getElem?_toList, Option.map_map] at h
 exact h
theorem mV {A : Around} {z i k : Nat} (hb : w.params.followText "set-order" = false) (ho : s.heap.get? a = some o) (hd : o.data = .set es ep t) (hf : t.fits es.size = true) (Ea : (!t.plain && decide (es.size > 1)) = false) (hl : t.led = true) (R : Option (Value × Nat) -> Shared -> Prop) (E : Value -> Shared -> Prop)
 (h : R (match es[SetTable.below t.place z]?, t.place[SetTable.below t.place z]? with | some (_, x), some j => some (x, j + 1) | _, _ => none) s) : wpAny (model prog w) A (setNext a z k ep) R E s := by
 unfold setNext
 refine wpAny_bind (wpAny_setState_of ho hd hf ?_)
 unfold setsByText
 refine wpAny_bind (wpAny_bind (wpAny_askSetting (wpAny_pure ?_)))
 dsimp only
 rw [show (model prog w).w.params.followText "set-order" = false from hb, if_neg (by simp)]
 split
 . rename_i c
   have c2 : (!t.plain && decide (es.size > 1)) = true := c
   rw [Ea] at c2
   cases c2
 . refine wpAny_bind ?_
   show wpAny _ _ (if (!t.led && !es.isEmpty) = true then unsupported "set:maker-not-led" else pure ()) _ _ _
   rw [hl, if_neg (by simp)]
   exact wpAny_pure (wpAny_pure h)
theorem qJ {t : SetTable} {i : Nat} (g : Good t) (hi : i < t.place.size) : SetTable.below t.place (t.place[i] + 1) = i + 1 := by
 obtain ⟨h0, h1, h2⟩ := below_at (j := t.place[i] + 1) g.up
 by_cases a : SetTable.below t.place (t.place[i] + 1) <= i
 . have := h2 i hi a; omega
 . by_cases b : i + 1 < SetTable.below t.place (t.place[i] + 1)
   . have c : i + 1 < t.place.size := by omega
     have := h1 (i + 1) c b
     have := g.up i (i + 1) hi c (by omega)
     omega
   . omega
theorem pV {t : SetTable} (g : Good t) : SetTable.below t.place 0 = 0 := by
 obtain ⟨h0, h1, h2⟩ := below_at (j := 0) g.up
 by_cases a : 0 < SetTable.below t.place 0
 . have := h1 0 (by omega) a; omega
 . omega
theorem s9 (hh : A.handled = none) (hb : w.params.followText "set-order" = true) (hd : o.data = .set es ep t) (hf : t.fits es.size = true) (om : a ≠ it) (z : Nat) :
 Walks prog w A it [it, a] [it] es.size (fun i v => ((pickOrder (w.params.setOrder a ep) es).toList.map (·.2))[i]? = some v) (fun i h => h.get? it = some (fQ (rawInt z) i a es.size ep) /\ h.get? a = some o) where
 sub := fun b hb => by simp at hb; simp [hb]
 frame := fun i h h' st k => ⟨k it (by simp) _ st.1, k a (by simp) _ st.2⟩
 item := fun i s Q E hi st hQ => by
  have hl : ((pickOrder (w.params.setOrder a ep) es).toList.map (·.2)).length = es.size := by rw [List.length_map, (jr _ _).length_eq]; simp
  obtain ⟨x, hx⟩ : ∃ x, ((pickOrder (w.params.setOrder a ep) es).toList.map (·.2))[i]? = some x := ⟨_, List.getElem?_eq_getElem (by rw [hl]; exact hi)⟩
  refine rK (z2 := z) st.1 st.2 hd hf (fun R E h => sx hb st.2 hd hf R E (by rw [hx]; exact h)) fun h' e sb => ?_
  exact hQ x h' s.toks hx ⟨e, (sb.2 a om).trans st.2⟩ fun b o hb e => sb.extBut b o (by simpa using hb) e
 done := fun s Q E st hQ => by
  have hl : ((pickOrder (w.params.setOrder a ep) es).toList.map (·.2)).length = es.size := by rw [List.length_map, (jr _ _).length_eq]; simp
  refine kF hh st.1 st.2 hd hf (fun R E h => sx hb st.2 hd hf R E (by rw [List.getElem?_eq_none (by rw [hl]; exact Nat.le_refl _)]; exact h)) fun h' eb => hQ h' s.toks fun b o hb e => eb b o (by simpa using hb) e
 self := fun i s Q E st q => nj st.1 q
theorem oI (hh : A.handled = none) (hb : w.params.followText "set-order" = false) (hd : o.data = .set es ep t) (hf : t.fits es.size = true) (hg : Good t) (Ea : (!t.plain && decide (es.size > 1)) = false) (hl : t.led = true) (om : a ≠ it) :
 Walks prog w A it [it, a] [it] es.size (fun i v => (es.toList.map (·.2))[i]? = some v) (fun i h => (∃ z : Nat, SetTable.below t.place z = i /\ h.get? it = some (fQ (rawInt z) i a es.size ep)) /\ h.get? a = some o) where
 sub := fun b hb => by simp at hb; simp [hb]
 frame := fun i h h' st k => let ⟨⟨z, e1, e2⟩, e3⟩ := st; ⟨⟨z, e1, k it (by simp) _ e2⟩, k a (by simp) _ e3⟩
 item := fun i s Q E hi st hQ => by
  obtain ⟨⟨z, e1, e2⟩, e3⟩ := st
  have hp : t.place.size = es.size := by unfold SetTable.fits at hf; simp at hf; exact hf.1
  have ux : i < t.place.size := by rw [hp]; exact hi
  have hx : (es.toList.map (·.2))[i]? = some es[i].2 := by rw [List.getElem?_map, Array.getElem?_toList, Array.getElem?_eq_getElem hi]; rfl
  refine rK (z2 := t.place[i] + 1) (x := es[i].2) e2 e3 hd hf (fun R E h => mV (i := i) hb e3 hd hf Ea hl R E (by rw [e1, Array.getElem?_eq_getElem hi, Array.getElem?_eq_getElem ux]; exact h)) fun h' e sb => ?_
  exact hQ _ h' s.toks hx ⟨⟨_, qJ hg ux, e⟩, (sb.2 a om).trans e3⟩ fun b o hb e => sb.extBut b o (by simpa using hb) e
 done := fun s Q E st hQ => by
  obtain ⟨⟨z, e1, e2⟩, e3⟩ := st
  refine kF hh e2 e3 hd hf (fun R E h => mV (i := 0) hb e3 hd hf Ea hl R E (by rw [e1, Array.getElem?_eq_none (Nat.le_refl _)]; exact h)) fun h' eb => hQ h' s.toks fun b o hb e => eb b o (by simpa using hb) e
 self := fun i s Q E st q => by
  obtain ⟨⟨z, e1, e2⟩, e3⟩ := st
  exact nj e2 q
theorem qe {p : Addr} {ps : List Nat} (hh : A.handled = none) (hd : o.data = .set es ep t) (hf : t.fits es.size = true) (om : a ≠ it) (OG : p ≠ it) (lH : ps.Perm (List.range es.size)) :
 Walks prog w A it [it, a, p] [it] es.size (fun i v => (ps.map fun j => (es.getD j default).2)[i]? = some v) (fun i h => h.get? it = some (fQ (.ref p) i a es.size ep) /\ h.get? a = some o /\ h.get? p = some { cls := .type "tuple", data := .seq (ps.map fun (i : Nat) => rawInt i).toArray }) where
 sub := fun b hb => by simp at hb; simp [hb]
 frame := fun i h h' st k => ⟨k it (by simp) _ st.1, k a (by simp) _ st.2.1, k p (by simp) _ st.2.2⟩
 item := fun i s Q E hi st hQ => by
  have hl : ps.length = es.size := by rw [lH.length_eq, List.length_range]
  have ux : i < ps.length := by rw [hl]; exact hi
  have hj : ps[i] < es.size := List.mem_range.mp (lH.mem_iff.mp (List.getElem_mem ux))
  have hx : (ps.map fun j => (es.getD j default).2)[i]? = some es[ps[i]].2 := by
   rw [List.getElem?_map, List.getElem?_eq_getElem ux]
   simp [Array.getD, hj]
  refine uH st.1 st.2.2 st.2.1 hd hf (List.getElem?_eq_getElem ux) (Array.getElem?_eq_getElem hj) fun h' e sb => ?_
  exact hQ _ h' s.toks hx ⟨e, (sb.2 a om).trans st.2.1, (sb.2 p OG).trans st.2.2⟩ fun b o hb e => sb.extBut b o (by simpa using hb) e
 done := fun s Q E st hQ => by
  have hl : ps.length = es.size := by rw [lH.length_eq, List.length_range]
  exact o5 hh st.1 st.2.2 st.2.1 hd hf (List.getElem?_eq_none (by rw [hl]; exact Nat.le_refl _)) fun h' eb => hQ h' s.toks fun b o hb e => eb b o (by simpa using hb) e
 self := fun i s Q E st q => nj st.1 q
end
section
variable {prog : Program} {w : World} {A : Around} {E : Value -> Shared -> Prop} {s : Shared} {it a : Addr} {o : Obj} {es : Array (Int × Value)} {ep : Nat} {t : SetTable}
theorem qD {α : Type} [Inhabited α] (es : Array α) : (List.range es.size).map (fun j => es.getD j default) = es.toList := by
 refine List.ext_getElem (by simp) fun i h1 h2 => ?_
 have : i < es.size := by simpa using h1
 simp [Array.getD, this]
theorem w9 {Q : Value -> Shared -> Prop} (ho : s.heap.get? a = some o) (hx : o.ExactSet) (hd : o.data = .set es ep t) (hf : t.fits es.size = true) (hg : Good t) (hl : t.led = !w.params.followText "set-order") (hz : es.size < scanBound)
 (h : ∀ (it : Addr) (fp : List Addr) (St : Nat -> Heap -> Prop) (ord : List Value) (h' : Heap) (d : Drawn), (∀ b u, s.heap.get? b = some u -> h'.get? b = some u) -> s.heap.objs.size <= it -> St 0 h' -> (∀ b ∈ fp, b < h'.objs.size) -> (∀ b ∈ fp, b = a \/ s.heap.objs.size <= b) -> it ∈ fp -> ord.Perm (es.toList.map (·.2)) ->
  (∀ A : Around, A.handled = none -> Walks prog w A it fp [it] es.size (fun i v => ord[i]? = some v) St) -> Q (.ref it) { s with heap := h', drawn := d }) : wpAny (model prog w) A (pyIter (.ref a)) Q E s := by
 have hT : s.TypeIs (.ref a) "set" := ⟨o, ho, hx.1⟩
 have uD : a < s.heap.objs.size := Heap.lt_size ho
 refine wpAny_pyIter_slot hT F.slot_set_iter (wpAny_call_entry F.slot_set_iter hT kz ?_ (F.args_set_iter_1 _))
 unfold Builtin.«frozenset.__iter__»
 refine wpAny_bind (wpAny_pure ?_)
 refine wpAny_bind ?_
 unfold Builtin.Frozenset.sizeOf
 refine wpAny_bind (wpAny_setEntries_of ho hd hf (wpAny_pure ?_))
 refine wpAny_bind ?_
 unfold setDrawn setsByText
 refine wpAny_bind (wpAny_setState_of ho hd hf ?_)
 refine wpAny_bind (wpAny_bind (wpAny_askSetting (wpAny_pure (wpAny_pure ?_))))
 dsimp only
 split
 . rename_i c
   have c2 : (!w.params.followText "set-order" && (!t.plain && decide (es.size > 1))) = true := c
   refine wpAny_bind (xi _ _ (by simp) fun ps d lH => ?_)
   have mB : ps.length = es.size := by rw [lH.length_eq, List.length_range]
   refine wpAny_bind (wpAny_newTuple (hsz := by rw [List.length_map, mB]; exact fits_of_scanBound hz) ?_)
   refine wpAny_bind (wpAny_setEpoch_of (o := o) (Heap.get?_push_of_some _ ho) hd hf ?_)
   refine wpAny_bind (wpAny_newObj_type (wpAny_pure ⟨_, rfl, "set_iterator", _, ⟨_, Heap.get?_push_size _ rfl, rfl⟩, aU.lookup, ?_⟩))
   have hsz : ∀ u : Obj, (s.heap.push u).objs.size = s.heap.objs.size + 1 := fun u => Heap.size_push ..
   refine h _ [_, a, s.heap.objs.size] _ (ps.map fun j => (es.getD j default).2) _ d (fun b u e => Heap.get?_push_of_some _ (Heap.get?_push_of_some _ e)) (by rw [hsz]; exact Nat.le_succ _) ⟨Heap.get?_push_size _ rfl, Heap.get?_push_of_some _ (Heap.get?_push_of_some _ ho), Heap.get?_push_of_some _ (Heap.get?_push_size _ rfl)⟩ ?_ ?_ (by simp) ?_ (fun A hh => qe hh hd hf ?_ ?_ lH)
   . intro b hb
     rw [Heap.size_push, hsz]
     have : b = s.heap.objs.size + 1 \/ b = a \/ b = s.heap.objs.size := by simpa using hb
     rcases this with rfl | rfl | rfl
     . exact Nat.lt_succ_self _
     . exact Nat.lt_succ_of_lt (Nat.lt_succ_of_lt uD)
     . exact Nat.lt_succ_of_lt (Nat.lt_succ_self _)
   . intro b hb
     have : b = s.heap.objs.size + 1 \/ b = a \/ b = s.heap.objs.size := by simpa using hb
     rcases this with rfl | rfl | rfl
     . exact .inr (Nat.le_succ _)
     . exact .inl rfl
     . exact .inr (Nat.le_refl _)
   . rw [<- qD es, List.map_map]
     exact lH.map _
   . rw [hsz]; exact Nat.ne_of_lt (Nat.lt_succ_of_lt uD)
   . rw [hsz]; exact Nat.ne_of_lt (Nat.lt_succ_self _)
 . rename_i c
   have c2 : ¬ (!w.params.followText "set-order" && (!t.plain && decide (es.size > 1))) = true := c
   refine wpAny_bind (wpAny_pure ?_)
   refine wpAny_bind (wpAny_setEpoch_of ho hd hf ?_)
   refine wpAny_bind (wpAny_newObj_type (wpAny_pure ⟨_, rfl, "set_iterator", _, ⟨_, Heap.get?_push_size _ rfl, rfl⟩, aU.lookup, ?_⟩))
   have LN : ∀ u : Obj, ∀ b ∈ [s.heap.objs.size, a], b < (s.heap.push u).objs.size := by
    intro u b hb
    rw [Heap.size_push]
    have : b = s.heap.objs.size \/ b = a := by simpa using hb
    rcases this with rfl | rfl
    . exact Nat.lt_succ_self _
    . exact Nat.lt_succ_of_lt uD
   have Lz : ∀ b ∈ [s.heap.objs.size, a], b = a \/ s.heap.objs.size <= b := by
    intro b hb
    have : b = s.heap.objs.size \/ b = a := by simpa using hb
    rcases this with rfl | rfl
    . exact .inr (Nat.le_refl _)
    . exact .inl rfl
   cases hb : w.params.followText "set-order" with
   | true =>
     exact h _ [s.heap.objs.size, a] _ _ _ s.drawn (fun b u e => Heap.get?_push_of_some _ e) (Nat.le_refl _) ⟨Heap.get?_push_size _ rfl, Heap.get?_push_of_some _ ho⟩ (LN _) Lz (by simp) ((jr _ _).map _) (fun A hh => s9 hh hb hd hf (Nat.ne_of_lt uD) 0)
   | false =>
     have Ea : (!t.plain && decide (es.size > 1)) = false := by
      cases q : (!t.plain && decide (es.size > 1)) with
      | false => rfl
      | true => exact absurd (by rw [hb, q]; rfl) c2
     exact h _ [s.heap.objs.size, a] _ _ _ s.drawn (fun b u e => Heap.get?_push_of_some _ e) (Nat.le_refl _) ⟨⟨0, pV hg, Heap.get?_push_size _ rfl⟩, Heap.get?_push_of_some _ ho⟩ (LN _) Lz (by simp) (.refl _) (fun A hh => oI hh hb hd hf hg Ea (by rw [hl, hb]; rfl) (Nat.ne_of_lt uD))
end
end L2
namespace L2
open PySem PySem.Spec PyProof.Rows
section
variable {prog : Program} {w : World} {A : Around} {R : Result -> Shared -> Prop} {it y : Addr} {fp wr : List Addr} {G : Array GenState -> Array GenState -> Prop} {n : Nat} {Pv : Nat -> Value -> Prop} {St : Nat -> Shared -> Prop}
theorem eN.congr {h : Heap} {a : Addr} {S S' : Int -> Bool} {n n' : Nat} (x : eN prog w h a S n) (e : ∀ k, S k = S' k) (en : n = n') : eN prog w h a S' n' := by
 have : S = S' := funext e
 subst this; subst en; exact x
theorem xZ (W : WalksS prog w A.in1 it fp wr G n Pv St) (hy : y ∉ fp) (f : Nat -> Int) (hf : ∀ i v, Pv i v -> ∃ t, v = .int (f i) t) (hb : n + 1 < scanBound) :
 ∀ (k i : Nat) (s : Shared), n - i = k -> i <= n -> St i s -> eN prog w s.heap y (fun k' => (firstMet f i).any (· == k')) (firstMet f i).length ->
   (∀ s', Moved (y :: wr) G s s' -> eN prog w s'.heap y (fun k' => (firstMet f n).any (· == k')) (firstMet f n).length -> R (.ok (.ret .none)) s') ->
   codeAny (model prog w) A (.builtin "set.update.loop" ⟨[.ref y, .ref it], []⟩) R s := by
 have L0 : y ∉ wr := fun z => hy (W.sub _ z)
 intro k
 induction k with
 | zero =>
   intro i s ek li st hS fin
   obtain rfl : i = n := by omega
   refine codeAny_builtin PyProof.Rows.F.entry_set_update_loop ?_
   rw [Around.under_plainId PyProof.Rows.F.plain_set_update_loop _]
   show wpAny _ A.in1 (pyNext (.ref it) >>= _) _ _ s
   refine wpAny_bind (W.done s _ _ st fun s1 m1 => ?_)
   show wpAny _ A.in1 (ret Value.none) _ _ s1
   exact wpAny_pure (fin s1 (m1.mono fun b z => List.mem_cons_of_mem _ z) (hS.at fun o e => m1.heap y _ L0 e))
 | succ k ih =>
   intro i s ek li st hS fin
   have EF : i < n := by omega
   refine codeAny_builtin PyProof.Rows.F.entry_set_update_loop ?_
   rw [Around.under_plainId PyProof.Rows.F.plain_set_update_loop _]
   show wpAny _ A.in1 (pyNext (.ref it) >>= _) _ _ s
   refine wpAny_bind (W.item i s _ _ EF st fun v s1 hv Oe m1 => ?_)
   obtain ⟨t, rfl⟩ := hf i v hv
   have OC := hS.at (h' := s1.heap) fun o e => m1.heap y _ L0 e
   show wpAny _ A.in1 (holding [Value.int (f i) t] (setAdd y (.int (f i) t)) >>= _) _ _ s1
   refine wpAny_bind (wpAny_holding ?_)
   unfold setAdd
   refine wpAny_holding (wpAny_bind ((intKind prog w).pyHash (k := f i) (intKind_is _ _ _ _) ?_))
   have hle := firstMet_length_le f i
   refine F1 (s := { s1 with toks := s1.toks + 1 }) (intKind_is _ _ _ _) rfl OC (by omega) fun h2 sb NN => ?_
   have Mg : eN prog w h2 y (fun k' => (firstMet f (i + 1)).any (· == k')) (firstMet f (i + 1)).length := NN.congr (fun k' => by rw [firstMet_succ, step_any]) (by rw [firstMet_succ, step_length])
   refine wpAny_pure ⟨plainId_quiet PyProof.Rows.F.plain_set_update_loop _, ih (i + 1) _ (by omega) EF (W.frame _ s1 _ _ Oe (Nat.le_succ _) fun b z o e => ?_) Mg fun s3 m3 N5 => ?_⟩
   . rw [sb.2 b (fun z' : b = y => hy (z' ▸ z))]; exact e
   . refine fin s3 (Moved.trans W.gtrans ((m1.mono fun b z => List.mem_cons_of_mem _ z).then_heap (Nat.le_succ _) fun b o z e => ?_) m3) N5
     rw [sb.2 b (fun z' : b = y => z (z' ▸ List.mem_cons_self))]; exact e
end
section
variable {prog : Program} {w : World} {A : Around} {E : Value -> Shared -> Prop} {s : Shared}
theorem n9 (a : Value) {Q : Value -> Shared -> Prop} (h : Q (.ref s.heap.objs.size) { s with heap := s.heap.push { cls := .type "set", dict := none, data := .set #[] 0 (.fresh 0 0 (!w.params.followText "set-order")) } }) :
 codeAny (model prog w) A (.call (.builtin "set.__new__") ⟨[.type "set", a], []⟩) (wants Q E) s := by
 refine codeAny_of_tree ?_
 show wpAny _ A.in1 (do checkBuiltinCall "set.__new__" ⟨[.type "set", a], []⟩; again (.builtin "set.__new__" ⟨[.type "set", a], []⟩)) _ _ s
 refine wpAny_bind (wpAny_of_eq (PySem.F.newCall_set_1 a) (wpAny_pure ⟨plainId_quiet PySem.F.plain_set_new _, codeAny_builtin PySem.F.entry_set_new ?_⟩))
 rw [Around.under_plainId PySem.F.plain_set_new _]
 unfold Builtin.«set.__new__» Builtin.Frozenset.newClass
 have zF := sub_set_self
 obtain ⟨hp, g, d, tk, os⟩ := s
 dsimp only
 wp_walk
 refine wpAny_askSetting (wpAny_pure ?_)
 dsimp only
 simp only [newObj]
 exact wpAny_bind (wpAny_alloc (wpAny_pure (wpAny_pure h)))
theorem yo {h : Heap} {a : Addr} (e : h.get? a = some { cls := .type "set", dict := none, data := .set #[] 0 (.fresh 0 0 (!w.params.followText "set-order")) }) : eN prog w h a (fun _ => false) 0 :=
 ⟨_, #[], 0, _, e, ⟨rfl, rfl, rfl⟩, rfl, fun e he => by simp at he, fun k => by simp, by decide, by rfl, rfl, ⟨fun i j hi => by simp [SetTable.fresh] at hi, rfl⟩, rfl⟩
set_option maxRecDepth 100000 in
set_option maxHeartbeats 3200000 in
theorem lO {l : Addr} {aD : Array Value} {ns : List Int} {Q : Value -> Shared -> Prop} (hh : A.handled = none) (hl : s.heap.IsList l aD) (hi : IntsAre aD.toList ns) (hb : aD.size + 1 < scanBound)
 (fin : ∀ (h1 : Heap) (tk : Nat), eN prog w h1 s.heap.objs.size (fun k' => (firstMet (fun i => ns.getD i 0) aD.size).any (· == k')) (firstMet (fun i => ns.getD i 0) aD.size).length -> (∀ b o, b < s.heap.objs.size -> s.heap.get? b = some o -> h1.get? b = some o) -> Q (.ref s.heap.objs.size) { s with heap := h1, toks := tk }) :
 wpAny (model prog w) A (call (.type "set") [.ref l]) Q E s := by
 obtain ⟨c, tl, OT⟩ := PySem.F.called_set.mro
 have LI := PySem.F.called_set.made
 have zF := PySem.F.called_set.sub
 refine wpAny_call (codeAny_of_tree ?_)
 show wpAny _ _ (callAny (.type "set") _) _ _ _
 refine wpAny_pure ⟨Code.quiet_builtin _ (by decide +kernel), codeAny_builtin PySem.F.entry_type_call ?_⟩
 rw [Around.under_plain (weight_type_call_type "set" [.ref l] []) rfl]
 have n1 := PySem.F.called_set.notType
 have n2 := PySem.F.called_set.canCreate
 have n3 := PySem.F.typeCall_set_1 (.ref l)
 repeat (any_goals (first | assumption | wp_step))
 let ob : Obj := { cls := .type "set", dict := none, data := .set #[] 0 (.fresh 0 0 (!w.params.followText "set-order")) }
 refine codeAny_mono (n9 (.ref l) (E := E) (Q := fun u s1 => u = .ref s.heap.objs.size /\ s1 = { s with heap := s.heap.push ob }) ⟨rfl, rfl⟩) fun r s1 hr => ?_
 cases r with
 | error e => exact hr
 | ok fl =>
   cases fl with
   | ret u =>
     obtain ⟨rfl, rfl⟩ := hr
     have h0 : (s.heap.push ob).get? s.heap.objs.size = some ob := Heap.get?_push_size _ rfl
     have hT : Shared.TypeIs { s with heap := s.heap.push ob } (.ref s.heap.objs.size) "set" := ⟨_, h0, rfl⟩
     have g1 := PySem.F.called_set.init.lookup
     have g2 := PySem.F.called_set.init.bind (.ref s.heap.objs.size)
     repeat (any_goals (first | assumption | wp_step))
     refine codeAny_mono (codeAny_call_builtin (R := wants (fun r s2 => r = .none /\ ∃ h1 tk, s2 = { s with heap := h1, toks := tk } /\ eN prog w h1 s.heap.objs.size (fun k' => (firstMet (fun i => ns.getD i 0) aD.size).any (· == k')) (firstMet (fun i => ns.getD i 0) aD.size).length /\
      (∀ b o, b < s.heap.objs.size -> s.heap.get? b = some o -> h1.get? b = some o)) E) PySem.F.called_set.init.plain PySem.F.entry_set_init (check_set_init_1 hT ?_)) fun r2 s2 IU => ?_
     . obtain ⟨ol, L7, ud, nl, L6⟩ := hl
       obtain ⟨M8, E3, LX, CO⟩ := ol
       simp only at ud L6
       subst ud; subst L6
       have k1 : (s.heap.push ob).get? l = some { cls := .type "list", dict := E3, data := .seq aD nl, slots := CO } := Heap.get?_push_of_some _ L7
       have k2 := PySem.F.sub_list_set
       have k3 := PySem.F.sub_list_frozenset
       have k4 : (Value.type "list" == Value.type "dict") = false := by decide
       have Ep : (s.heap.push ob).IsList l aD := ⟨_, k1, rfl, nl, rfl⟩
       unfold Builtin.«set.__init__» noKeywords Builtin.Frozenset.updateFrom
       generalize NZ : pyIter = PI
       wp_walk
       subst NZ
       refine wpAny_pyIter_list Ep (wpAny_bind (wpAny_runValue ?_))
       have ll : l < s.heap.objs.size := Heap.lt_size L7
       have sz : (s.heap.push ob).objs.size = s.heap.objs.size + 1 := Heap.size_push ..
       have Oz : A.in1.in1.in1.handled = none := by simp [hh]
       have c1 : l ≠ (s.heap.push ob).objs.size := by rw [sz]; exact Nat.ne_of_lt (Nat.lt_succ_of_lt ll)
       have c2 : s.heap.objs.size ∉ [(s.heap.push ob).objs.size, l] := by
        rw [sz]
        intro z
        simp only [List.mem_cons, List.not_mem_nil, or_false] at z
        rcases z with z | z
        . exact absurd z (Nat.ne_of_lt (Nat.lt_succ_self _))
        . exact absurd z.symm (Nat.ne_of_lt ll)
       have c3 : ∀ (i : Nat) (v : Value), aD[i]? = some v -> ∃ t, v = .int ((fun i => ns.getD i 0) i) t := fun i v hv => IntsAre.int_at hi i v (by simpa using hv)
       refine xZ ((Walks.list Oz _ l c1 aD).toS) c2 (fun i => ns.getD i 0) c3 hb (aD.size - 0) 0 _ (by omega) (Nat.zero_le _) ⟨⟨_, Heap.get?_push_size _ rfl, rfl, rfl⟩, (Ep.push _)⟩ ?_ ?_
       . have kg : ((s.heap.push ob).push { cls := .type "list_iterator", data := .fields #[.ref l, .int 0 0] }).get? s.heap.objs.size = some ob := Heap.get?_push_of_some _ h0
         exact (yo kg).congr (fun _ => rfl) rfl
       . intro s3 hm hS
         obtain ⟨h3, g3, d3, N1, Nh⟩ := s3
         have eg : g3 = s.gens := hm.gens
         have ed : d3 = s.drawn := hm.drawn
         have eo : Nh = s.os := hm.os
         subst eg; subst ed; subst eo
         show wpAny _ _ _ _ _ _
         refine wpAny_pure ?_
         show wpAny _ _ (ret Value.none) _ _ _
         refine wpAny_pure ⟨rfl, h3, N1, rfl, hS, fun b o lb e => ?_⟩
         refine hm.heap b o ?_ (Heap.get?_push_of_some _ (Heap.get?_push_of_some _ e))
         intro z
         simp only [List.mem_cons, List.not_mem_nil, or_false] at z
         rw [sz] at z
         rcases z with z | z
         . exact absurd z (Nat.ne_of_lt lb)
         . exact absurd z (Nat.ne_of_lt (Nat.lt_succ_of_lt lb))
     . cases r2 with
       | error e => exact IU
       | ok f2 =>
         cases f2 with
         | ret r =>
           obtain ⟨rfl, h1, tk, rfl, hS, hk⟩ := IU
           repeat (any_goals (first | assumption | wp_step))
           exact fin _ _ hS hk
         | _ => exact IU.elim
   | _ => exact hr.elim
end
section
variable {prog : Program} {w : World} {A : Around} {E : Value -> Shared -> Prop} {s : Shared} {a : Addr} {S : Int -> Bool} {n : Nat}
theorem tf {ord : List Value} {acc : Array Value} {n : Nat} (hl : ord.length = n) (h : ItemsOf (fun i v => ord[i]? = some v) acc n) : acc.toList = ord := by
 obtain ⟨h0, h1⟩ := h
 refine List.ext_getElem? fun i => ?_
 rw [Array.getElem?_toList]
 by_cases hi : i < acc.size
 . rw [Array.getElem?_eq_getElem hi]
   exact (h1 i _ (Array.getElem?_eq_getElem hi)).symm
 . rw [Array.getElem?_eq_none (by omega), List.getElem?_eq_none (by omega)]
theorem pJ {Q : List Value -> Shared -> Prop} (hh : A.handled = none) (hS : eN prog w s.heap a S n)
 (h : ∀ (h' : Heap) (d : Drawn) (tk : Nat) (vs : List Value), (∀ b u, s.heap.get? b = some u -> h'.get? b = some u) -> (∃ es ep t o, s.heap.get? a = some o /\ o.data = .set es ep t /\ vs.Perm (es.toList.map (·.2))) -> vs.length = n -> s.heap.objs.size < h'.objs.size -> Q vs { s with heap := h', drawn := d, toks := tk }) : wpAny (model prog w) A (collect (.ref a)) Q E s := by
 obtain ⟨o, es, ep, t, ho, hx, hd, h1, h2, h3, h4, h5, h6, h7⟩ := hS
 have uD : a < s.heap.objs.size := Heap.lt_size ho
 unfold collect
 refine wpAny_bind (wpAny_runValue (codeAny_builtin entry_proto_collect' ?_))
 show wpAny _ _ (do again (.builtin "list.__iadd__" ⟨[<- newList [], .ref a], []⟩)) _ _ s
 refine wpAny_bind (wpAny_newList (wpAny_pure ⟨Code.quiet_builtin _ (by decide +kernel), codeAny_builtin entry_list_iadd' ?_⟩))
 show wpAny _ _ (Builtin.List.listExtendWith (.ref s.heap.objs.size) (.ref a) (.ref s.heap.objs.size)) _ _ { s with heap := s.heap.push (seqObj "list" #[] 0) }
 unfold Builtin.List.listExtendWith
 have Iq : (s.heap.push (seqObj "list" #[] 0)).get? a = some o := Heap.get?_push_of_some _ ho
 have O8 : (s.heap.push (seqObj "list" #[] 0)).get? s.heap.objs.size = some (seqObj "list" #[] 0) := Heap.get?_push_size _ rfl
 refine wpAny_bind (wpAny_typeOf (T := "set") ⟨o, Iq, hx.1⟩ ?_)
 have a1 : Builtin.List.listSameRef (.ref s.heap.objs.size) (.ref a) = false := by simp [Builtin.List.listSameRef, Ne.symm (Nat.ne_of_lt uD)]
 have a2 : (Value.type "set" == Value.type "list") = false := by decide
 have a3 : (Value.type "set" == Value.type "tuple") = false := by decide
 simp only [a1, a2, a3, Bool.or_self, Bool.false_eq_true, if_false]
 refine wpAny_bind (w9 (s := { s with heap := s.heap.push (seqObj "list" #[] 0) }) Iq hx hd h4 h6 h7 h3 fun it fp St ord rM d kp lit st fl fn Kl j8 W => ?_)
 refine wpAny_bind (wpAny_holding ?_)
 have Ii : Shared.TypeIs { s with heap := rM, drawn := d } (.ref a) "set" := ⟨o, kp a o Iq, hx.1⟩
 unfold Builtin.List.listLengthHint
 refine wpAny_bind (wpAny_specialOf Ii F.slot_set_len.lookup ?_)
 generalize LJ : ("set.__len__" : String) = Mx
 wp_delta
 rw [show splitId Mx = some ("set", "__len__") from by subst LJ; decide +kernel]
 subst LJ
 refine wpAny_bind (wpAny_isInstance (T := "set") (b := true) Ii (by rw [isSubtype_type]; kernel_rfl) ?_)
 refine wpAny_ite_split (fun Dm => absurd Dm (by decide)) (fun _ => ?_)
 refine wpAny_ite_split (fun _ => ?_) (fun Dm => absurd (by decide +kernel) Dm)
 refine wpAny_bind (wpAny_typeOf Ii (wpAny_pure ?_))
 show wpAny _ _ (rule "list.extend.makes-room" >>= fun _ => Builtin.List.listTouch (.ref s.heap.objs.size) >>= fun _ =>
  again (.builtin "list.extend.loop" ⟨[.ref s.heap.objs.size, .ref it, .ref s.heap.objs.size], []⟩)) _ _ _
 refine wpAny_bind (wpAny_rule (wpAny_bind ?_))
 have DZ := kp _ _ O8
 show wpAny _ _ (updateSeq s.heap.objs.size (·.push .none) >>= fun _ => updateSeq s.heap.objs.size (·.pop)) _ _ _
 refine wpAny_bind (wpAny_updateSeq DZ rfl ?_)
 have Lb := Heap.get?_update_self (Obj.mapSeq (·.push Value.none)) DZ rfl
 refine wpAny_updateSeq (hz := by seq_fits) Lb rfl ?_
 have NP := Heap.get?_update_self (Obj.mapSeq (·.pop)) Lb rfl
 have ot : ∀ b u, b ≠ s.heap.objs.size -> rM.get? b = some u -> ((rM.update s.heap.objs.size (Obj.mapSeq (·.push Value.none))).update s.heap.objs.size (Obj.mapSeq (·.pop))).get? b = some u :=
  fun b u hb e => (Heap.get?_update_other _ _ (Ne.symm hb)).trans ((Heap.get?_update_other _ _ (Ne.symm hb)).trans e)
 have DT : ord.length = es.size := by rw [j8.length_eq, List.length_map, Array.length_toList]
 have W1 := W A.in1 hh
 have Ij : s.heap.objs.size ∉ fp := fun z => by
  rcases fn _ z with e | e
  . exact absurd e.symm (Nat.ne_of_lt uD)
  . have : s.heap.objs.size + 1 <= s.heap.objs.size := by rw [<- size_push' s.heap (seqObj "list" #[] 0)]; exact e
    exact absurd this (Nat.not_succ_le_self _)
 have P5 : s.heap.objs.size ≠ it := fun z => Ij (z ▸ Kl)
 refine wpAny_pure ⟨plainId_quiet F.plain_extend_loop _, codeAny_extend_loopS W1.toS (fits_of_scanBound h3) _ Ij _ es.size 0 _ _ _ rfl (Nat.zero_le _) (W1.frame 0 _ _ st fun b hb u e => ot b u (fun z => Ij (z ▸ hb)) e) NP (ItemsOf.nil _) fun s' acc c hm hs eK => ?_⟩
 show wpAny _ _ (load s.heap.objs.size >>= _) _ _ s'
 refine wpAny_bind (wpAny_load hs (wpAny_pure ?_))
 have ea := tf DT eK
 obtain ⟨h9, g9, d9, Nt, M5⟩ := s'
 have eg : g9 = s.gens := hm.gens
 have ed : d9 = d := hm.drawn
 have eo : M5 = s.os := hm.os
 subst eg; subst ed; subst eo
 rw [ea]
 refine h h9 d9 Nt ord (fun b u e => ?_) ⟨es, ep, t, o, ho, hd, j8⟩ (DT.trans h5) (Heap.lt_size hs)
 have hb : b ≠ s.heap.objs.size := Nat.ne_of_lt (Heap.lt_size e)
 have Ic : s.heap.objs.size + 1 <= it := by rw [<- size_push' s.heap (seqObj "list" #[] 0)]; exact lit
 have Oh : b ≠ it := Nat.ne_of_lt (Nat.lt_of_lt_of_le (Nat.lt_succ_of_lt (Heap.lt_size e)) Ic)
 exact hm.heap b u (by simp [hb, Oh]) (ot b u hb (kp b u (Heap.get?_push_of_some _ e)))
theorem vY {h : Heap} (hS : eN prog w h a S n) {es : Array (Int × Value)} {ep : Nat} {t : SetTable} {o : Obj} {vs : List Value} (ho : h.get? a = some o) (hd : o.data = .set es ep t) (hp : vs.Perm (es.toList.map (·.2))) :
 ∃ ms, IntsAre vs ms /\ ∀ k, S k = true ↔ k ∈ ms := by
 obtain ⟨o2, Qj, PY, t2, Em, hx, hd2, h1, h2, _⟩ := hS
 rw [ho] at Em
 cases Em
 rw [hd] at hd2
 cases hd2
 have key : ∀ l : List Value, (∀ v ∈ l, ∃ k t, v = Value.int k t) -> ∃ ms, IntsAre l ms /\ ∀ k, k ∈ ms ↔ ∃ v ∈ l, (intKind prog w).is k v = true := by
  intro l
  induction l with
  | nil => intro _; exact ⟨[], .nil, fun k => by simp⟩
  | cons v r ih =>
    intro hv
    obtain ⟨ms, hI, hm⟩ := ih fun u hu => hv u (List.mem_cons_of_mem _ hu)
    obtain ⟨k, tk, rfl⟩ := hv v List.mem_cons_self
    refine ⟨k :: ms, .cons k tk hI, fun j => ?_⟩
    rw [List.mem_cons, hm j]
    constructor
    . rintro (rfl | ⟨u, hu, e⟩)
      . exact ⟨_, List.mem_cons_self, intKind_is _ _ _ _⟩
      . exact ⟨u, List.mem_cons_of_mem _ hu, e⟩
    . rintro ⟨u, hu, e⟩
      rcases List.mem_cons.mp hu with rfl | hu
      . exact .inl ((intKind prog w).inj _ j k e (intKind_is _ _ _ _))
      . exact .inr ⟨u, hu, e⟩
 have hv : ∀ v ∈ vs, ∃ k t, v = Value.int k t := by
  intro v hv
  obtain ⟨e, he, rfl⟩ := List.mem_map.mp (hp.mem_iff.mp hv)
  obtain ⟨⟨k, hk, _⟩, _⟩ := h1 e he
  exact ⟨k, Value.isInt_shape hk⟩
 obtain ⟨ms, hI, hm⟩ := key vs hv
 refine ⟨ms, hI, fun k => ?_⟩
 rw [h2 k, hm k]
 constructor
 . rintro ⟨e, he, q⟩
   exact ⟨e.2, hp.mem_iff.mpr (List.mem_map.mpr ⟨e, he, rfl⟩), q⟩
 . rintro ⟨v, hv, q⟩
   obtain ⟨e, he, rfl⟩ := List.mem_map.mp (hp.mem_iff.mp hv)
   exact ⟨e, he, q⟩
theorem p9 {Q : Value -> Shared -> Prop} (hh : A.handled = none) (hS : eN prog w s.heap a S n) (wx : n < 64)
 (h : ∀ (q : Addr) (h' : Heap) (d : Drawn) (tk e : Nat) (us : List Value) (ns : List Int), s.heap.objs.size <= q -> (∀ b u, s.heap.get? b = some u -> h'.get? b = some u) -> h'.get? q = some { cls := .type "list", data := .seq us.toArray e } -> IntsAre us ns -> ns.length = n -> ns.Pairwise (· <= ·) -> (∀ k, S k = true ↔ k ∈ ns) -> Q (.ref q) { s with heap := h', drawn := d, toks := tk }) :
 wpAny (model prog w) A (call (.builtin "sorted") [.ref a]) Q E s := by
 refine Calls.call_function_entry kind_sorted plain_sorted entry_sorted (args_sorted1 _) ?_
 unfold Builtin.«sorted»
 refine wpAny_bind (m := checkCount "sorted" 1 1 _) (wpAny_pure ?_)
 refine wpAny_bind (pJ (A := A.in1) hh hS fun h1 d tk vs kp ⟨es, ep, t, o, ho, hd, hp⟩ hn b4 => ?_)
 obtain ⟨ms, hI, hm⟩ := vY hS ho hd hp
 refine wpAny_bind (wpAny_newList ?_ (hsz := by rw [hn, sizeLine_eq]; omega))
 have sr : (h1.push (seqObj "list" vs.toArray 0)).get? h1.objs.size = some (seqObj "list" vs.toArray 0) := Heap.get?_push_size _ rfl
 refine wpAny_bind (wpAny_holding (wpAny_call_entry slot_list_sort ⟨_, sr, rfl⟩ entry_list_sort (list_sort_tree sr hI (by rw [hn]; exact wx) fun out Mq a1 a2 a3 => ⟨_, rfl, ?_⟩) (args_list_sort _)))
 obtain ⟨e, he⟩ := sortedHeap_at (out := out) sr
 have hle : ∀ b u, s.heap.get? b = some u -> b < h1.objs.size := fun b u q => Heap.lt_size (kp b u q)
 refine wpAny_pure ⟨_, rfl, h h1.objs.size _ d tk e out.toList Mq ?_ (fun b u q => ?_) (by simpa [seqObj] using he) a1 ?_ a3 fun k => ?_⟩
 . exact Nat.le_of_lt b4
 . rw [sortedHeap_old (Nat.ne_of_lt (hle b u q)) (by rw [size_push']; exact Nat.lt_succ_of_lt (hle b u q))]
   exact Heap.get?_push_of_some _ (kp b u q)
 . rw [a2.length_eq, <- IntsAre.length hI, hn]
 . rw [hm k, a2.mem_iff]
end
end L2
namespace L2
open PySem PySem.Spec PyProof.Rows PySem.W
theorem lh {α : Type} [BEq α] [LawfulBEq α] : ∀ {xs ys : List α}, xs.Nodup -> (∀ x ∈ xs, x ∈ ys) -> xs.length = ys.length -> ys.Perm xs
 | [], ys, _, _, hl => by
   have : ys = [] := List.length_eq_zero_iff.mp hl.symm
   subst this; exact .nil
 | x :: xs, ys, hn, hs, hl => by
   have hx : x ∈ ys := hs x List.mem_cons_self
   have p1 : ys.Perm (x :: ys.erase x) := List.perm_cons_erase hx
   have Eh := List.nodup_cons.mp hn
   have xm : xs.length = (ys.erase x).length := by have := p1.length_eq; simp at hl this; omega
   refine p1.trans (List.Perm.cons x (lh Eh.2 (fun y hy => ?_) xm))
   have om : y ≠ x := fun e => Eh.1 (e ▸ hy)
   exact (List.mem_erase_of_ne om).mpr (hs y (List.mem_cons_of_mem _ hy))
theorem y9 {σ : List Int} {v : Int} (h : σ.Nodup) : (step_dedup σ v).Nodup := by
 unfold step_dedup
 split
 . exact h
 . rename_i c
   rw [List.nodup_append]
   refine ⟨h, by simp, fun a ha b hb => ?_⟩
   have : b = v := by simpa using hb
   subst this
   intro e
   subst e
   exact c (by rw [List.any_eq_true]; exact ⟨a, ha, by simp⟩)
theorem f6 (f : Nat -> Int) : ∀ i, (firstMet f i).Nodup
 | 0 => by rw [firstMet_zero]; exact List.nodup_nil
 | i + 1 => by rw [firstMet_succ]; exact y9 (f6 f i)
theorem map_getD (ns : List Int) : (List.range ns.length).map (fun i => ns.getD i 0) = ns := by
 refine List.ext_getElem (by simp) fun i h1 h2 => ?_
 simp [h2]
theorem t8 {ms : List Int} (h : ms.Pairwise (· <= ·)) (n : ms.Nodup) : ms.Pairwise (· < ·) := by
 rw [List.nodup_iff_pairwise_ne] at n
 exact (h.and n).imp fun ⟨a, b⟩ => by omega
theorem Inv.drew {X : Cx} {pins : List (Addr × Obj)} {σ : St} {H : Hp} {s : Shared} (I : Inv X pins σ H s) (d : Drawn) : Inv X pins σ H { s with drawn := d } :=
 I.call (g' := s.gens) (t' := s.toks) (d' := d) (ch := []) (h' := s.heap) Un.refl I.aK I.bare (fun _ z => nomatch z)
section
variable {X : Cx} {e : Expr} {te : TE} {p p2 pos tQ : Pos}
def lD : V -> Hp -> VK -> Prop := fun x H Q => ∃ ns : List Int, Dv H x (.list (ns.map PyData.int)) /\ ns.length < 64 /\ ∀ (q : Addr) (H' : Hp) (ms : List Int), ah H H' -> H q = none -> ms.Pairwise (· < ·) -> (∀ k, k ∈ ms ↔ k ∈ ns) -> bG H' q (ms.map PyData.int) -> Q (.ref q) H'
def pE (te : TE) : TE := fun σ H Q => te σ H fun x H1 => lD x H1 Q
theorem gJ {H : Hp} : ∀ (ns : List Int), bb H (ns.map V.int) (ns.map PyData.int)
 | [] => .nil
 | x :: r => .cons (.int x) (gJ r)
theorem kY (he : PE X e te) (hc : X.calm = true) (hg : Gl X "sorted") (hm : X.mg "sorted" = none) (Jp : Gl X "set") (HV : X.mg "set" = none)
 (h1 : starEach [e] X.env = (false, eval e X.env) :: starEach [] X.env := by rfl)
 (h2 : starEach [.Call (.Name "set" p2) [e] [] tQ] X.env = (false, eval (.Call (.Name "set" p2) [e] [] tQ) X.env) :: starEach [] X.env := by rfl) :
 PE X (.Call (.Name "sorted" p) [.Call (.Name "set" p2) [e] [] tQ] [] pos) (pE te) := by
 intro pins s σ H Q I h
 refine wpAny_Call_Name_kw (dO I hg hm (by rfl) ?_ (by decide) (by decide))
 refine PyProof.Rows.callWith_builtin1 ?_ h2 rfl
 rw [h2]
 show wpAny _ _ (spliced ((false, eval (.Call (.Name "set" p2) [e] [] tQ) X.env) :: backTo pos (starEach [] X.env))) _ _ s
 refine Calls.spliced_cons (wpAny_Call_Name_kw (dO I Jp HV (by rfl) ?_ (by decide) (by decide)))
 refine PyProof.Rows.callWith_type1 ?_ h1 rfl
 rw [h1]
 show wpAny _ _ (spliced ((false, eval e X.env) :: backTo tQ (starEach [] X.env))) _ _ s
 refine Calls.spliced_cons (bO (he pins s σ H _ I h) fun u s1 ⟨x, H1, I1, r1, q1⟩ => ?_)
 refine Calls.spliced_nil ?_
 obtain ⟨ns, hd, hl, q⟩ := q1
 obtain ⟨a, ys, rfl, e, dv⟩ := hd.lst_inv
 obtain ⟨aD, yS, pl, _⟩ := I1.list (e X.K)
 cases r1
 have hS := kd dv yS
 have hlen : aD.length = ns.length := by rw [<- yS.length, dv.length, List.length_map]
 refine lO (I1.ok.hd hc) pl.isList (by simpa using hS) (by rw [List.size_toArray, hlen]; unfold scanBound; omega) fun h3 tk En hk => ?_
 refine Calls.spliced_nil ?_
 have MF : ∀ b u, s1.heap.get? b = some u -> h3.get? b = some u := fun b ob q => hk b ob (Heap.lt_size q) q
 have hle := firstMet_length_le (fun i => ns.getD i 0) aD.toArray.size
 refine p9 (I1.ok.hd hc) En (by rw [List.size_toArray, hlen] at hle; rw [List.size_toArray, hlen]; omega) fun qa h4 d D4 ep us ms hq kp IX hI Ce Pu jh => ?_
 have oA : s1.heap.objs.size <= qa := by
  rcases Nat.lt_or_ge qa s1.heap.objs.size with z | z
  . have : s1.heap.objs.size < h3.objs.size := by
     obtain ⟨o, _, _, _, ho, _⟩ := En
     exact Heap.lt_size ho
    exact absurd (Nat.lt_of_lt_of_le this hq) (Nat.not_lt.mpr (Nat.le_of_lt z))
  . exact z
 have Jc : H1 qa = none := I1.aK.fresh oA
 have hm : ∀ k, k ∈ ms ↔ k ∈ ns := fun k => by
  have z := jh k
  rw [firstMet_any, List.size_toArray, hlen, map_getD, List.any_eq_true] at z
  rw [<- z]
  exact ⟨fun ⟨y, hy, e⟩ => by rw [<- beq_iff_eq.mp e]; exact hy, fun hk => ⟨k, hk, by simp⟩⟩
 have xC : ms.Nodup := by
  refine (lh (f6 _ _) (fun k hk => ?_) Ce.symm).symm.nodup (f6 _ _)
  exact (jh k).mp (by rw [List.any_eq_true]; exact ⟨k, hk, by simp⟩)
 have I2 : Inv X pins σ (upd H1 qa (.lst (ms.map V.int))) { s1 with heap := h4, toks := D4 } := I1.laid (t' := D4) (fun b u e => kp b u (MF b u e)) oA ⟨by
  rw [List.length_map]
  have := firstMet_length_le (fun i => ns.getD i 0) aD.toArray.size
  rw [Ce, sizeLine_eq]
  rw [List.size_toArray, hlen] at this
  rw [List.size_toArray, hlen]
  omega, us, ep, jl hI, IX⟩
 exact ⟨.ref qa, _, I2.drew d, rfl, q qa _ ms (aM Jc) Jc (t8 Pu xC) hm (gX Jc (gJ ms) (bN (fun _ => rfl) _))⟩
end
section
variable {σ : St} {H : Hp} {Q : VK} {v : V}
theorem k9 {te : TE} (h : te σ H fun x H1 => lD x H1 Q) : pE te σ H Q := h
theorem lZ {ns : List Int} (hp : Dv H v (.list (ns.map PyData.int))) (hl : ns.length < 64) (h : ∀ (q : Addr) (H' : Hp) (ms : List Int), ah H H' -> H q = none -> ms.Pairwise (· < ·) -> (∀ k, k ∈ ms ↔ k ∈ ns) -> bG H' q (ms.map PyData.int) -> Q (.ref q) H') : lD v H Q := ⟨ns, hp, hl, h⟩
end
section
variable {X : Cx}
end
section
variable {σ : St} {H : Hp} {Q : VK} {K : PySem.W.Frag} {p : Addr} {m : List (Str × PyData)}
theorem e9.K4 : ∀ {kvs : List (Key × V)} {m : List (Str × PyData)}, e9 H kvs m -> xO H kvs (m.map fun x => (.str x.1, x.2))
 | _, _, .nil => .nil
 | _, _, .cons h _ r => .cons h (e9.K4 r)
theorem eG.dv (h : eG H p m) : Dv H (.ref p) (.dict (m.map fun x => (.str x.1, x.2))) := let ⟨_, e, d⟩ := h; .dct e d.K4
end
def Tr (h : Heap) (a T : Addr) (c : Value) : Prop := ∃ oe vs oT ts, h.get? a = some oe /\ oe.cls = c /\ oe.dict = none /\ oe.data = .fields vs /\ vs[1]? = some (.ref T) /\ T ≠ a /\ h.get? T = some oT /\ oT.data = .fields ts /\ ts[3]? = some .none /\ vs[2]? = some .none
structure Lv (l : List Env) (S : List Addr) (h h' : Heap) : Prop where
 keep : ∀ b o, b ∉ o9 l -> b ∉ S -> h.get? b = some o -> h'.get? b = some o
 slot : ∀ b o, b ∈ o9 l -> h.get? b = some o -> ∃ sl, h'.get? b = some { o with slots := sl }
section
variable {M : Model} {A : Around} {E : Value -> Shared -> Prop} {s : Shared} {env : Env} {outer : List Env} {L a T : Addr} {c : Value} {base : Heap} {Q : Unit -> Shared -> Prop}
end
def Og (P : Program) (w : World) : oz := fun outer H s E e s' => ∃ a T C H', e = .ref a /\ s'.os = s.os /\ AllBare s'.gens /\ Un (o9 outer) [] H H' s.heap s'.heap /\ g8 P w H' s'.heap /\ Tr s'.heap a T (.ref C) /\ s.heap.get? a = none /\ s.heap.get? T = none /\ H' a = none /\ H' T = none /\ E (.ref C) none H'
section
variable {P : Program} {w : World} {K : PySem.W.Frag} {mg : Str -> Option Value} {base : Heap} {N : List Str} {qual : Str} {scope : Scope} {f : Addr} {cd : Value} {A : Around} {outer : List Env} {s0 : Shared} {H0 : Hp} {E : XK} {CX : oz} {pins : List (Addr × Obj)} {σ : St} {H : Hp} {s : Shared}
end
section
variable {K : PySem.W.Frag} {h : Heap} {C : Addr} {Ef : List Value} {newId : String}
def DH (h : Heap) (C : Addr) (Ef : List Value) (newId : String) : Prop := ∃ (bm : List Value) (N : Addr) (nm q : Str) (bs : List Value) (hd : Bool) (sn : List Str) (sub : List Value) (ab : Bool) (col : Option Bool) (dd : Option Addr) (k0 k1 k2 k3 k5 : Option Value) (mN : Str -> Option Value),
 h.get? C = some (excClassObj nm q C N bs bm hd sn sub ab col dd k0 k1 k2 k3 k5 newId) /\ h.Ns N mN /\ mN "__init__" = none /\ OwnTail h Ef bm
theorem BM (X : K.In h) (q : excIn K C Ef newId = true) : DH h C Ef newId := by
 unfold excIn at q
 split at q
 . rename_i dd cd sl ho
   split at q
   . rename_i C' bm k0 k1 k2 k3 n k5 hm hs
     simp only [Bool.and_eq_true, beq_iff_eq, Bool.not_eq_true'] at q
     obtain ⟨⟨⟨⟨⟨rfl, rfl⟩, Fq⟩, ht⟩, aK⟩, K5⟩ := q
     obtain ⟨nm, bs, mro, ns, qn, hd, sn, sub, ab, col, del⟩ := cd
     dsimp only at hm Fq aK K5
     subst hm Fq
     obtain ⟨l⟩ := sl
     dsimp only at hs
     subst hs
     exact ⟨bm, ns, nm, qn, bs, hd, sn, sub, ab, col, dd, k0, k1, k2, k3, k5, _, X _ _ ho, .of_isNs (isNs_of_in X aK), nsMap_none_of_in X aK K5, tail_of_in X ht⟩
   . cases q
 . cases q
end
abbrev Kg : List Value := [.type "ValueError", .type "Exception", .type "BaseException", .type "object"]
def Cv (K : PySem.W.Frag) (C : Addr) : Prop := excIn K C Kg "ValueError.__new__" = true
section
variable {X : Cx} {pins : List (Addr × Obj)} {σ : St} {H : Hp} {s : Shared}
abbrev Cx.hand (X : Cx) (a : Addr) : Cx := { X with A := X.A.mark (some (.ref a)), calm := false, xe := fun _ _ => False }
end
section
variable {M : Model} {A : Around} {E : Value -> Shared -> Prop}
end
structure Nw (K : PySem.W.Frag) (C : Addr) : Prop where
 ga : PySem.W.findIn K (.ref C) "__getattribute__" = some (some (.builtin "BaseException.__getattribute__"))
 gn : PySem.W.findIn K (.ref C) "__getattr__" = some none
 mb : PySem.W.mroIn K C (.type "BaseException") = some true
 hd : PySem.W.hasDictIn K C = true
 ty : Gs K C
section
variable {X : Cx}
end
section
variable {P : Program} {w : World} {K : PySem.W.Frag} {mg : Str -> Option Value} {base : Heap}
structure NS (P : Program) (w : World) (K : PySem.W.Frag) (mg : Str -> Option Value) (base : Heap) (k : Nat) (f : Addr) (ps : List Str) (iB : List V) (sp : Sp) : Prop where
 ex : ∃ (fd : FuncData) (ds : List Value), bQ P w K mg base (Og P w) k f fd ps sp /\ Binds K fd ps ds /\ Vals iB ds
end
section
variable {X : Cx} {k : Nat} {f : Addr} {ps : List Str} {sp : Sp} {iB : List V} {E : XK} {x : Str} {p pos : Pos} {e : Expr} {es : List Expr} {t : TA}
end
section
variable {σ : St} {H : Hp} {Q : VK} {D : Ends} {K : PySem.W.Frag} {E : XK} {C : Addr} {ta : TA}
end
def b8 (z : Str) (lo hi : Option Int) : Str := ⟨((Builtin.Str.strSliceIndices lo hi 1 z.length).filterMap (z.cps[·]?)).toArray⟩
def Fy : V -> Option Int -> Option Int -> Hp -> VK -> Prop := fun x lo hi H Q => ∃ z : Str, x = .str z /\ z.length <= 4000 /\ Q (.str (b8 z lo hi)) H
theorem zz {lo hi : Option Int} {n : Nat} (h : (Builtin.Str.strSliceIndices lo hi 1 n).length = n) : Builtin.Str.strSliceIndices lo hi 1 n = List.range n := by
 have key : ∀ a b : Int, 0 <= a -> b <= n -> (sliceRange a b 1).length = n -> sliceRange a b 1 = List.range n := by
  intro a b ha hb hl
  unfold sliceRange at hl ⊢
  simp only [List.length_map, List.length_range, Int.ediv_one, show (1 : Int) > 0 by decide, if_true] at hl ⊢
  rw [hl]
  by_cases hn : n = 0
  . subst hn; rfl
  . have : a = 0 := by
     split at hl <;> omega
    subst this
    rw [show (fun k : Nat => ((0 : Int) + 1 * (k : Int)).toNat) = id from funext fun k => by simp, List.map_id]
 unfold Builtin.Str.strSliceIndices at h ⊢
 simp only [show (1 : Int) > 0 by decide, if_true] at h ⊢
 refine key _ _ ?_ ?_ h
 . cases lo <;> simp only [] <;> omega
 . cases hi <;> simp only [] <;> omega
theorem kI : ∀ (l : List Nat), (List.range l.length).filterMap (fun i => l[i]?) = l
 | [] => rfl
 | c :: r => by
   rw [List.length_cons, List.range_succ_eq_map, List.filterMap_cons]
   simp only [List.getElem?_cons_zero, List.filterMap_map]
   have : ((fun i => (c :: r)[i]?) ∘ Nat.succ) = fun i => r[i]? := funext fun i => by simp
   rw [this, kI r]
theorem uy {z : Str} {lo hi : Option Int} (h : (Builtin.Str.strSliceIndices lo hi 1 z.length).length = z.length) : b8 z lo hi = z := by
 unfold b8
 rw [zz h]
 obtain ⟨⟨l⟩⟩ := z
 show (⟨((List.range l.length).filterMap fun i => (⟨l⟩ : Array Nat)[i]?).toArray⟩ : Str) = _
 have : (fun i => (⟨l⟩ : Array Nat)[i]?) = fun i => l[i]? := funext fun i => (Array.getElem?_toList (xs := ⟨l⟩)).symm
 rw [this, kI l]
section
variable {X : Cx}
theorem gR : Jn X Fy := by
 intro pins s σ H x v vl vu lo hi sl Q I rx hs pl pu h
 obtain ⟨z, rfl, hz, q⟩ := h
 obtain ⟨t, rfl⟩ := rx
 obtain ⟨l, rfl, e1⟩ : ∃ l : Option (Int × Tok), vl = partValue l /\ l.map (·.1) = lo := by
  cases pl with
  | none => exact ⟨none, rfl, rfl⟩
  | int i t => exact ⟨some (i, t), rfl, rfl⟩
 obtain ⟨u, rfl, e2⟩ : ∃ u : Option (Int × Tok), vu = partValue u /\ u.map (·.1) = hi := by
  cases pu with
  | none => exact ⟨none, rfl, rfl⟩
  | int i t => exact ⟨some (i, t), rfl, rfl⟩
 refine ⟨"str", _, F.slot_str_getitem.lookup, typeIs_str _ _ _, ?_⟩
 refine wpAny_getItem_str_slice (l := l) (u := u) (st := none) hs rfl ?_
 have ep : slicePicked z l u none = Builtin.Str.strSliceIndices lo hi 1 z.length := by unfold slicePicked; rw [e1, e2]; rfl
 unfold sliceMade
 rw [ep]
 split
 . rename_i c
   rw [Bool.and_eq_true] at c
   have := uy (z := z) (lo := lo) (hi := hi) (by simpa using c.2)
   rw [this] at q
   exact ⟨.str z, H, I, ⟨t, rfl⟩, q⟩
 . have hn : (List.filterMap (fun i => z.cps[i]?) (Builtin.Str.strSliceIndices lo hi 1 z.length)).length <= z.length := by
    refine Nat.le_trans (List.length_filterMap_le _ _) ?_
    exact sI _ _ _
   have hl : (Str.mk (List.filterMap (fun i => z.cps[i]?) (Builtin.Str.strSliceIndices lo hi 1 z.length)).toArray).length <= z.length := by
    show (List.filterMap (fun i => z.cps[i]?) (Builtin.Str.strSliceIndices lo hi 1 z.length)).toArray.size <= _
    rw [List.size_toArray]; exact hn
   exact ⟨Nat.le_trans hl (Nat.le_of_lt (dr hz)), .str _, H, I.tok _, ⟨_, rfl⟩, q⟩
end
section
variable {σ : St} {H : Hp} {Q : VK} {D : Ends} {K : PySem.W.Frag}
end
section
variable {X : Cx} {k : Nat} {f C : Addr} {ps : List Str} {sp : Sp} {iB : List V} {E : XK} {x m : Str} {p pos apos : Pos} {e : Expr} {es : List Expr} {t : TA}
end
section
variable {prog : Program} {w : World} {A : Around} {E : Value -> Shared -> Prop} {s : Shared}
end
section
variable {σ : St} {H : Hp} {Q : VK} {D : Ends}
end
section
variable {X : Cx} {pins : List (Addr × Obj)} {σ : St} {H : Hp} {s : Shared} {h' : Heap}
theorem Inv.xY {t' : Nat} {i1 i2 : Addr} (I : Inv X pins σ H s) (k : ∀ b o, b ≠ i1 -> b ≠ i2 -> s.heap.get? b = some o -> h'.get? b = some o) (f1 : cM X pins H i1) (f2 : cM X pins H i2) : Inv X pins σ H { s with heap := h', toks := t' } := by
 have xK : ∀ b u, H b = some u -> b ≠ i1 /\ b ≠ i2 := fun b u e => ⟨fun z => (by rw [z, f1.1] at e; cases e), fun z => (by rw [z, f2.1] at e; cases e)⟩
 have nc : ∀ {b : Addr}, b ∉ [i1, i2] -> b ≠ i1 /\ b ≠ i2 := fun {b} h => by simpa using h
 refine I.step (g' := s.gens) (d' := s.drawn) (ch := [i1, i2]) (fun b hb => ?_) (fun b o _ _ hc e _ => k b o (nc hc).1 (nc hc).2 e) (fun b o _ _ hc e _ => ⟨o.slots, k b o (nc hc).1 (nc hc).2 e⟩) (fun _ _ _ _ n => n)
  (fun b o hc e => ⟨o, k b o (nc hc).1 (nc hc).2 e⟩) (fun _ _ e => e) (fun _ _ _ e => e) (fun b ps e => ⟨#[], by rw [e]; simp⟩) (fun m hm => ?_) (fun b u e => ?_) I.bare
 . have e : b = i1 \/ b = i2 := by simpa using hb
   rcases e with rfl | rfl
   . exact ⟨f1.2.2.2.1, f1.2.1, f1.2.2.2.2.1, f1.2.2.2.2.2⟩
   . exact ⟨f2.2.2.2.1, f2.2.1, f2.2.2.2.2.1, f2.2.2.2.2.2⟩
 . obtain ⟨o, es, ep, ho, r⟩ := hm
   exact ⟨o, es, ep, k _ o (Ne.symm f1.2.1) (Ne.symm f2.2.1) ho, r⟩
 . refine (I.aK b u e).nq (fun c v hc q => k c v ?_ ?_ q) (fun _ q => q) fun _ _ q => q
   . rcases hc with z | z
     . rw [z]; exact (xK b u e).1
     . exact (xK c _ z).1
   . rcases hc with z | z
     . rw [z]; exact (xK b u e).2
     . exact (xK c _ z).2
end
theorem fR : entryFor table "enumerate.__iter__" = some Builtin.«dict_keyiterator.__iter__» :=
 entryFor_alias (id' := "dict_keyiterator.__iter__") (by kernel_rfl) rfl (by decide +kernel) (by kernel_rfl)
def CW (K : PySem.W.Frag) (a : Addr) : It := ⟨fun i H => ∃ xs x, bF K H a xs /\ xs[i]? = some x, fun i H v H' => ∃ t x, (∀ xs, bF K H a xs -> xs[i]? = some x) /\ v = .ref t /\ H t = none /\ H' = upd H t (.tup [.int i, x]), fun i H => ∃ xs, bF K H a xs /\ xs.length <= i⟩
theorem sU {P : Program} {w : World} {K : PySem.W.Frag} {elts : List Expr} {x1} {pos : Pos} {e it a : Addr} (om : e ≠ it) :
 Turn P w K (.Tuple elts x1 pos) (CW K a) [e, it] e (fun i h => (∃ old, IsEnum h e it (i : Nat) old) /\ h.IsListIter it a i) where
 mem := by simp
 obj := fun i h st b hb => by
  have e' : b = e \/ b = it := by simpa using hb
  obtain ⟨⟨old, q⟩, o, e1, c, d⟩ := st
  rcases e' with rfl | rfl
  . exact ⟨_, q, fun v z => by cases z⟩
  . exact ⟨o, e1, fun v z => by rw [d] at z; cases z⟩
 keep := fun i h h' st k => ⟨let ⟨old, q⟩ := st.1; ⟨old, k e (by simp) _ q⟩, st.2.at fun o q => k it (by simp) o q⟩
 item := by
  intro X hP hw hK hc i pins s σ H E I hf st hg
  subst hP hw hK
  have fe := hf e (by simp)
  have fi := hf it (by simp)
  obtain ⟨xs, x, hq, hx⟩ := hg
  obtain ⟨aD, rv, p, hz⟩ := I.list hq
  obtain ⟨u, hu, ru⟩ := rv.get hx
  obtain ⟨⟨old, he⟩, hit⟩ := st
  have AZ : e < s.heap.objs.size := Heap.lt_size he
  have yl : it < s.heap.objs.size := by obtain ⟨o, ho, _⟩ := id hit; exact Heap.lt_size ho
  have hn : H s.heap.objs.size = none := I.aK.fresh (Nat.le_refl _)
  refine wpAny_pyNext_enum_item he hit p.isList (x := u) (by simpa using hu) om fun h' zS HJ ht MT kk => ?_
  refine ⟨_, rfl, wpAny_letOwnedTupleGo_enum (s := { s with heap := h', toks := s.toks + 1 }) zS fun h2 N6 sb => ?_⟩
  replace sb : Heap.SameBut e h' h2 := sb
  let tb : Obj := { cls := .type "tuple", data := .seq #[.int i s.toks, u] }
  have I1 : Inv X pins σ (upd H s.heap.objs.size (.tup [.int i, x])) { s with heap := s.heap.push tb } :=
   I.laid (t' := s.toks) (fun b u e => Heap.get?_push_of_some _ e) (Nat.le_refl _) (show bp X.prog X.w _ _ _ (.tup [.int i, x]) from ⟨by rw [sizeLine_eq]; simp, [.int i s.toks, u], .cons ⟨_, rfl⟩ (.cons ru .nil), IsTup.new _ _⟩)
  have E1 : upd H s.heap.objs.size (.tup [.int i, x]) e = none := by rw [aw (Nat.ne_of_lt AZ)]; exact fe.1
  have GC : upd H s.heap.objs.size (.tup [.int i, x]) it = none := by rw [aw (Nat.ne_of_lt yl)]; exact fi.1
  have I2 : Inv X pins σ (upd H s.heap.objs.size (.tup [.int i, x])) { s with heap := h2, toks := s.toks + 1 } := by
   refine Inv.xY (s := { s with heap := s.heap.push tb }) (h' := h2) (t' := s.toks + 1) (i1 := e) (i2 := it) I1 (fun b u' JC Mt q => ?_) ⟨E1, fe.2⟩ ⟨GC, fi.2⟩
   by_cases FJ : b = s.heap.objs.size
   . subst FJ
     have e0 : (s.heap.push tb).get? s.heap.objs.size = some tb := Heap.get?_push_size _ rfl
     have e1 := e0.symm.trans q
     cases e1
     exact (sb.2 _ JC).trans ht
   . exact (sb.2 _ JC).trans (kk b u' JC Mt (kr q FJ))
  refine ⟨.ref s.heap.objs.size, _, I2, rfl, ⟨_, x, fun ys hy => by rw [I.je hy hq]; exact hx, rfl, hn, rfl⟩, ⟨⟨_, N6⟩, HJ.at fun o q => (sb.2 it (Ne.symm om)).trans q⟩, fun b hb => ?_⟩
  have e' : b = e \/ b = it := by simpa using hb
  rcases e' with rfl | rfl
  . exact E1
  . exact GC
 done := by
  intro X hP hw hK hc i pins s σ H E I hf st hg
  subst hP hw hK
  obtain ⟨f0, f1, f2, f3, f4, f5⟩ := hf it (by simp)
  obtain ⟨xs, hq, hx⟩ := hg
  obtain ⟨aD, rv, p, hz⟩ := I.list hq
  have hl := rv.length
  obtain ⟨⟨old, he⟩, hit⟩ := st
  exact wpAny_pyNext_enum_end (I.ok.hd hc) he hit p.isList (by simp; omega) fun h' eb => ⟨rfl, I.turned (t' := s.toks) (fun b o hb e => eb b o hb e) f0 f1 f3 f4 f5⟩
 self := fun A i s Q E st q => by
  obtain ⟨⟨old, he⟩, hit⟩ := st
  have hT : s.TypeIs (.ref e) "enumerate" := ⟨_, he, rfl⟩
  refine wpAny_pyIter_slot hT F.slot_enumerate_iter (wpAny_call_entry F.slot_enumerate_iter hT fR ?_ (F.args_enumerate_iter_1 _))
  show wpAny _ _ (ret (.ref e)) _ _ s
  exact wpAny_pure ⟨_, rfl, "enumerate", _, hT, F.slot_enumerate_next.lookup, q⟩
def vt (K : PySem.W.Frag) (ta : TA) : TI := fun σ H R => ta σ H fun vs H1 => ∃ a, vs = [.ref a] /\ (∃ xs, bF K H1 a xs) /\ R (CW K a) H1
theorem oh {X : Cx} {elts : List Expr} {x1} {vH : Pos} {a : Expr} {ta : TA} {p pos : Pos} (hg : Gl X "enumerate") (hm : X.mg "enumerate" = none) (ha : PA X [a] ta) (hs : starEach [a] X.env = [(false, eval a X.env)] := by rfl) :
 PI X (.Tuple elts x1 vH) (.Call (.Name "enumerate" p) [a] [] pos) (vt X.K ta) := by
 intro pins s σ H R I h
 refine Call_ (dO I hg hm boot_enumerate (PyProof.Rows.callWith_type1 (bO (ha pos pins s σ H _ I h) fun us s1 ⟨vs, H1, I1, r1, q1⟩ => ?_) hs rfl))
 obtain ⟨l, e, ⟨xs, hq⟩, q⟩ := q1
 subst e
 cases r1 with
 | cons r rr =>
   cases rr
   cases r
   obtain ⟨aD, rv, p, hz⟩ := I1.list hq
   refine call_enumerate_list p.isList fun h' he hit hsz hk => ?_
   have hT : (⟨h', s1.gens, s1.drawn, s1.toks, s1.os⟩ : Shared).TypeIs (.ref (s1.heap.objs.size + 1)) "enumerate" := ⟨_, he, rfl⟩
   refine wpAny_pyIter_slot hT F.slot_enumerate_iter (wpAny_call_entry F.slot_enumerate_iter hT fR ?_ (F.args_enumerate_iter_1 _))
   show wpAny _ _ (ret (.ref (s1.heap.objs.size + 1))) _ _ _
   refine wpAny_pure ⟨_, rfl, "enumerate", _, hT, F.slot_enumerate_next.lookup, ?_⟩
   refine ⟨s1.heap.objs.size + 1, [s1.heap.objs.size + 1, s1.heap.objs.size], _, _, H1, rfl, I1.kept (t' := s1.toks) hk, sU (a := l) (Nat.succ_ne_self _), ⟨⟨_, he⟩, hit⟩, fun b hb => ?_, q⟩
   have e : b = s1.heap.objs.size + 1 \/ b = s1.heap.objs.size := by simpa using hb
   rcases e with rfl | rfl
   . exact I1.kC (Nat.le_succ _) (I1.aK.fresh (Nat.le_succ _))
   . exact I1.kC (Nat.le_refl _) (I1.aK.fresh (Nat.le_refl _))
theorem rl (num : Nat -> Int) : ∀ k, argBest (fun i j => decide (num i > num j)) k <= k /\ ∀ j, j <= k -> num j <= num (argBest (fun i j => decide (num i > num j)) k)
 | 0 => ⟨Nat.le_refl _, fun j hj => by have : j = 0 := by omega
                                       subst this; exact Int.le_refl _⟩
 | k + 1 => by
   obtain ⟨h1, h2⟩ := rl num k
   unfold argBest
   by_cases h : num (k + 1) > num (argBest (fun i j => decide (num i > num j)) k)
   . rw [if_pos (decide_eq_true h)]
     refine ⟨Nat.le_refl _, fun j hj => ?_⟩
     by_cases hk : j = k + 1
     . subst hk; exact Int.le_refl _
     . exact Int.le_trans (h2 j (by omega)) (Int.le_of_lt h)
   . rw [if_neg (by simpa using h)]
     refine ⟨by omega, fun j hj => ?_⟩
     by_cases hk : j = k + 1
     . subst hk; omega
     . exact h2 j (by omega)
section
variable {X : Cx}
def AB : List V -> Hp -> VK -> Prop := fun xs H Q => ∃ (v : V) (ns : List Int), xs = [v] /\ Dv H v (.list (ns.map PyData.int)) /\ 0 < ns.length /\ ∀ m ∈ ns, (∀ k ∈ ns, k <= m) -> Q (.int m) H
theorem tY (hc : X.calm = true) : dH X (.builtin "max") AB := by
 intro pins s σ H xs us Q I r h
 obtain ⟨v, ns, rfl, hd, k8, q⟩ := h
 obtain ⟨u, rfl, ru⟩ := vals1 r
 obtain ⟨p, ys, rfl, e, dv⟩ := hd.lst_inv
 obtain ⟨aD, yS, pl, _⟩ := I.list (e X.K)
 cases ru
 have hI := kd dv yS
 have hn : aD.toArray.size = ns.length := by rw [List.size_toArray, hI.length]
 have b4 : p < s.heap.objs.size := by obtain ⟨o, n, e1, _⟩ := pl; exact Heap.lt_size e1
 have hA : X.A.in1.handled = none := I.ok.hd hc
 refine call_max_walk (wpAny_pyIter_list pl.isList ?_)
 refine ⟨s.heap.objs.size, _, _, _, _, _, fun i j => decide (ns.getD i 0 > ns.getD j 0), rfl, Walks.list hA _ p (Nat.ne_of_lt b4) aD.toArray, ⟨⟨_, Heap.get?_push_size _ rfl, rfl, rfl⟩, pl.isList.at fun o e => Heap.get?_push_of_some _ e⟩, ?_, by omega, CmpOf.ints_gt (fun i => ns.getD i 0) ?_, ?_⟩
 . intro b hb
   rw [Heap.size_push]
   have : b = s.heap.objs.size \/ b = p := by simpa using hb
   rcases this with rfl | rfl
   . exact Nat.lt_succ_self _
   . exact Nat.lt_succ_of_lt b4
 . intro i v hv
   exact hI.int_at i v (by simpa using hv)
 . intro v h' tk hP hk
   have b := rl (fun i => ns.getD i 0) (aD.toArray.size - 1)
   generalize argBest (fun i j => decide (ns.getD i 0 > ns.getD j 0)) (aD.toArray.size - 1) = ix at b hP
   obtain ⟨b1, b2⟩ := b
   obtain ⟨t, rfl⟩ := hI.int_at ix v (by simpa using hP)
   have I1 := I.kept (t' := s.toks) (h' := s.heap.push { cls := Value.type "list_iterator", data := Data.fields #[Value.ref p, Value.int 0 0] }) fun b o e => Heap.get?_push_of_some _ e
   have fp := I.kC (H' := H) (Nat.le_refl _) (I.aK.fresh (Nat.le_refl _))
   have I2 := I1.turned (t' := tk) (h' := h') (it := s.heap.objs.size) (fun b o hb e => hk b o (by simpa using hb) e) fp.1 fp.2.1 fp.2.2.2.1 fp.2.2.2.2.1 fp.2.2.2.2.2
   have hb : ix < ns.length := by omega
   refine ⟨.int _, H, I2, ⟨t, rfl⟩, q _ ?_ ?_⟩
   . rw [List.getD_eq_getElem?_getD, List.getElem?_eq_getElem hb]; exact List.getElem_mem hb
   . intro k hk
     obtain ⟨j, hj, rfl⟩ := List.getElem_of_mem hk
     have := b2 j (by omega)
     rwa [List.getD_eq_getElem?_getD (i := j), List.getElem?_eq_getElem hj] at this
def vi : V -> Hp -> VK -> Prop := fun x H Q => ∃ (p : Addr) (m : List (Str × PyData)) (ns : List Int), x = .ref p /\ eG H p m /\ m.map (·.2) = ns.map PyData.int /\ Q (.int ns.sum) H
def zY (te : TE) : TE := fun σ H Q => te σ H fun x H1 => vi x H1 Q
theorem y6 {e : Expr} {te : TE} {p pos apos cC : Pos} (he : PE X e te) (hc : X.calm = true) (hg : Gl X "sum") (hm : X.mg "sum" = none)
 (oF : attributeBase e "values" X.env (eval e X.env) = eval e X.env := by rfl) (hline : (apos.endLine == cC.line) = true := by rfl)
 (h2 : starEach [.Call (.Attribute e "values" apos) [] [] cC] X.env = (false, eval (.Call (.Attribute e "values" apos) [] [] cC) X.env) :: starEach [] X.env := by rfl) :
 PE X (.Call (.Name "sum" p) [.Call (.Attribute e "values" apos) [] [] cC] [] pos) (zY te) := by
 intro pins s σ H Q I h
 refine wpAny_Call_Name_kw (dO I hg hm boot_sum ?_ (by decide) (by decide))
 refine PyProof.Rows.callWith_builtin1 ?_ h2 rfl
 rw [h2]
 show wpAny _ _ (spliced ((false, eval (.Call (.Attribute e "values" apos) [] [] cC) X.env) :: backTo pos (starEach [] X.env))) _ _ s
 refine Calls.spliced_cons (wpAny_Call_method0_late oF hline (bO (he pins s σ H _ I h) fun v s1 ⟨y, H1, I1, r1, q1⟩ => ?_))
 obtain ⟨d, m, ns, rfl, ⟨kvs, hd, dk⟩, HH, q⟩ := q1
 obtain ⟨h1, h2⟩ := qY I1 (T := "dict") r1 (.inr (.inr (.inl ⟨rfl, .inl ⟨kvs, hd⟩⟩)))
 cases r1
 refine ⟨"dict", "dict.values", PySem.F.plainAttrs_dict, PySem.F.slot_dict_values, PySem.F.type_dict_values, h1, h2, Calls.callWith_builtin rfl (PySem.evalArgs_none ?_)⟩
 obtain ⟨_, hs, vs, kv, o, es, ep, ho, a2, a3, a4⟩ := (show bp X.prog X.w H1 s1.heap d (.dK kvs) from I1.aK d _ hd)
 have da : s1.heap.DictAt (aY X.prog X.w) d vs ep := ⟨o, es, ho, a2, a3, a4⟩
 have b4 : d < s1.heap.objs.size := Heap.lt_size ho
 have hlen : vs.length = kvs.length := kv.length.symm
 refine call_meetsIn PySem.F.slot_dict_values da.dictOf.typeIs PySem.F.entry_dict_values (PySem.F.args_dict_values_1 _) (meets_dict_values (aY X.prog X.w) d hs) ⟨⟨vs, da.dictOf⟩, ?_⟩
 refine Calls.spliced_nil ?_
 have hsz : (s1.heap.push { cls := .type "dict_values", data := .fields #[.ref d] }).objs.size = s1.heap.objs.size + 1 := Heap.size_push ..
 have hA : X.A.in1.handled = none := I1.ok.hd hc
 have Ee : ns.length = kvs.length := by
  have := congrArg List.length HH
  rw [List.length_map, List.length_map] at this
  rw [<- this]; exact dk.length.symm
 refine call_sum_walkAnyB (wpAny_pyIter_values (v := s1.heap.objs.size) ⟨_, Heap.get?_push_size _ rfl, rfl, rfl⟩ (da.push _) ?_)
 refine ⟨_, _, _, _, _, _, _, fun i => ns.getD i 0, rfl, (Walks.dictValues (knd := aY X.prog X.w) hA _ d (Nat.ne_of_lt (by rw [hsz]; exact Nat.lt_succ_of_lt b4)) vs ep).toS, ⟨⟨_, Heap.get?_push_size _ rfl, rfl, rfl⟩, (da.push _).push _⟩, ?_, ?_, ?_⟩
 . intro b hb
   rw [Heap.size_push]
   have : b = (s1.heap.push { cls := .type "dict_values", data := .fields #[.ref d] }).objs.size \/ b = d := by simpa using hb
   rcases this with rfl | rfl
   . exact Nat.lt_succ_self _
   . rw [hsz]; exact Nat.lt_succ_of_lt (Nat.lt_succ_of_lt b4)
 . rintro i v ⟨k, hv⟩
   have hi : i < kvs.length := by rw [<- hlen]; exact (List.getElem?_eq_some_iff.mp hv).1
   obtain ⟨y, hy, DZ⟩ := kZ kv (List.getElem?_eq_getElem hi)
   rw [hv] at hy
   cases hy
   obtain ⟨k', dd, Pn, Qq, Oq⟩ := dk.Ft (List.getElem?_eq_getElem hi)
   have EF : i < ns.length := by omega
   have J9 : dd = .int (ns.getD i 0) := by
    have e1 : (m.map (·.2))[i]? = some dd := by rw [List.getElem?_map, Pn]; rfl
    rw [HH, List.getElem?_map, List.getElem?_eq_getElem EF] at e1
    rw [List.getD_eq_getElem?_getD, List.getElem?_eq_getElem EF]
    exact (Option.some.inj e1).symm
   subst J9
   have hq := Oq.int_inv
   have r2 := DZ.2
   rw [hq] at r2
   obtain ⟨t, ht⟩ := r2
   exact .inl ⟨t, ht⟩
 . intro s' t' Hs
   rw [hlen, <- Ee, gN]
   obtain ⟨h', g', d', Iw, Gh⟩ := s'
   have eg : g' = s1.gens := Hs.gens
   have ed : d' = s1.drawn := Hs.drawn
   have eo : Gh = s1.os := Hs.os
   subst eg; subst ed; subst eo
   have I2 : Inv X pins σ H1 { s1 with heap := s1.heap.push { cls := .type "dict_values", data := .fields #[.ref d] } } := I1.kept (t' := s1.toks) fun b o e => Heap.get?_push_of_some _ e
   have fp := I2.kC (H' := H1) (Nat.le_refl _) (I2.aK.fresh (Nat.le_refl _))
   have I3 := I2.turned (t' := Iw) (h' := h') (it := (s1.heap.push { cls := .type "dict_values", data := .fields #[.ref d] }).objs.size) (fun b o hb e => Hs.heap b o (by simpa using hb) (Heap.get?_push_of_some _ e)) fp.1 fp.2.1 fp.2.2.2.1 fp.2.2.2.2.1 fp.2.2.2.2.2
   exact ⟨.int ns.sum, H1, I3, ⟨t', rfl⟩, q⟩
end
section
variable {σ : St} {H : Hp} {Q : VK}
theorem CT {v : V} {ns : List Int} (hp : Dv H v (.list (ns.map PyData.int))) (hl : 0 < ns.length) (h : ∀ m ∈ ns, (∀ k ∈ ns, k <= m) -> Q (.int m) H) : AB [v] H Q := ⟨v, ns, rfl, hp, hl, h⟩
theorem yz {te : TE} (h : te σ H fun x H1 => vi x H1 Q) : zY te σ H Q := h
theorem BP {p : Addr} {m : List (Str × PyData)} {ns : List Int} (hp : eG H p m) (hm : m.map (·.2) = ns.map PyData.int) (h : Q (.int ns.sum) H) : vi (.ref p) H Q := ⟨p, m, ns, rfl, hp, hm, h⟩
end
section
variable {σ : St} {H : Hp} {Q : VK} {K : PySem.W.Frag} {v : V}
theorem Ct {k : Nat} {ta : TA} {g : TG} {tc : TT} {te : TE} (h : ta σ H fun vs H1 => ∃ a, vs = [.ref a] /\ (∃ xs, bF K H1 a xs) /\ Ed k g tc te (oO Q) σ (CW K a) H1) : FC k (vt K ta) g tc te σ H Q := h
theorem FD {k : Nat} {g : TG} {tc : TT} {te : TE} {α : Type} {cs : List α} {gd : α -> PyData} (pf : α × Nat -> Bool) (fd : α × Nat -> PyData) (hl : Dv H v (.list (cs.map gd))) (hlen : cs.length <= 4000) (hi : ∀ c, lE (fd c) = true)
 (turn : ∀ x c H' (N : Option V -> Hp -> Prop), c ∈ cs.zipIdx -> ah H H' -> Dv H' x (.tuple [.int c.2, gd c.1]) -> (pf c = true -> ∀ y H4, ah H' H4 -> Dv H4 y (fd c) -> N (some y) H4) -> (pf c = false -> ∀ H3, ah H' H3 -> N none H3) ->
  g x (List.replicate k none ++ σ) H' fun σ2 H2 => tc σ2 H2 fun b H3 => Ht te N σ2 b H3)
 (kk : ∀ q H', ah H H' -> H q = none -> bG H' q ((cs.zipIdx.filter pf).map fd) -> Q (.ref q) H') : ∃ a, [v] = [.ref a] /\ (∃ xs, bF K H a xs) /\ Ed k g tc te (oO Q) σ (CW K a) H := by
 obtain ⟨p, xs, rfl, e, dv⟩ := hl.lst_inv
 have Aj : bF K H p xs := e K
 have Gf : xs.length = cs.length := by rw [dv.length, List.length_map]
 have Ou : cs.zipIdx.length = cs.length := List.length_zipIdx
 refine ⟨p, rfl, ⟨xs, Aj⟩, fun i m acc H' => i <= cs.length /\ m = cs.length - i /\ ah H H' /\ bb H' acc (((cs.zipIdx.take i).filter pf).map fd), ⟨cs.length, Nat.zero_le _, rfl, ah.refl _, by simpa using bb.nil⟩, ?_⟩
 rintro i m acc H' ⟨DK, hm, sm, eK⟩
 have pO : bF K H' p xs := ah.seq sm Aj
 have uD : acc.length <= cs.length := by
  rw [eK.length, List.length_map]
  exact Nat.le_trans (List.length_filter_le _ _) (by rw [List.length_take]; omega)
 by_cases hc : i = cs.length
 . left
   refine ⟨⟨xs, pO, by omega⟩, fun q hq => ?_⟩
   rw [hc, <- Ou, List.take_length] at eK
   have cA : ah H (upd H' q (.lst acc)) := sm.trans (aM hq)
   exact kk q _ cA (sm.none hq) ⟨acc, aA, eK.keeps (aM hq), bN hi _⟩
 . right
   have b4 : i < cs.length := by omega
   have FV : i < xs.length := by omega
   refine ⟨⟨xs, xs[i], pO, List.getElem?_eq_getElem FV⟩, dr (by omega), fun x H2 hy => ?_⟩
   obtain ⟨t, x', hy, rfl, ht, rfl⟩ := hy
   have hx := hy xs pO
   have Ah : cs[i]? = some cs[i] := List.getElem?_eq_getElem b4
   obtain ⟨x2, zc, hd⟩ := dv.get (i := i) (d := gd cs[i]) (by rw [List.getElem?_map, Ah]; rfl)
   rw [hx] at zc
   cases zc
   have K2 : cs.zipIdx[i]? = some (cs[i], i) := by rw [List.getElem?_zipIdx, Ah]; simp
   have rm : cs.zipIdx.take (i + 1) = cs.zipIdx.take i ++ [(cs[i], i)] := by rw [List.take_add_one, K2]; rfl
   have Kj : ah H' (upd H' t (.tup [.int i, x'])) := aM ht
   have cA := sm.trans Kj
   exact turn (.ref t) (cs[i], i) _ (fun o H4 => match o with | some y => ∃ m', m' < m /\ i + 1 <= cs.length /\ m' = cs.length - (i + 1) /\ ah H H4 /\ bb H4 (acc ++ [y]) (((cs.zipIdx.take (i + 1)).filter pf).map fd) | none => ∃ m', m' < m /\ i + 1 <= cs.length /\ m' = cs.length - (i + 1) /\ ah H H4 /\ bb H4 acc (((cs.zipIdx.take (i + 1)).filter pf).map fd))
    (List.mem_of_getElem? K2) cA (.tup aA (.cons (.int _) (.cons (hd.keeps cA) .nil)))
    (fun hp y H4 s4 d4 => ⟨cs.length - (i + 1), by omega, b4, rfl, cA.trans s4, by
     rw [rm, List.filter_append, List.map_append]
     simp only [List.filter_cons, hp, if_true, List.filter_nil, List.map_cons, List.map_nil]
     exact bb.append (eK.keeps (Kj.trans s4)) (.cons d4 .nil)⟩)
    (fun hp H3 s3 => ⟨cs.length - (i + 1), by omega, b4, rfl, cA.trans s3, by
     rw [rm, List.filter_append, List.map_append]
     simp only [List.filter_cons, hp, Bool.false_eq_true, if_false, List.filter_nil, List.map_nil, List.append_nil]
     exact eK.keeps (Kj.trans s3)⟩)
end
end L2
namespace L2
open PySem
theorem dB {z : Str} {lo hi : Option Int} : ∀ c ∈ (b8 z lo hi).cps.toList, c ∈ z.cps.toList := by
 intro c hc
 unfold b8 at hc
 have hc : c ∈ (Builtin.Str.strSliceIndices lo hi 1 z.length).filterMap (z.cps[·]?) := by simpa using hc
 obtain ⟨i, _, hi⟩ := List.mem_filterMap.mp hc
 have := Array.mem_of_getElem? hi
 simpa using this
theorem cP (z : Str) (lo hi : Option Int) : (b8 z lo hi).length <= z.length := by
 show ((Builtin.Str.strSliceIndices lo hi 1 z.length).filterMap (z.cps[·]?)).toArray.size <= _
 rw [List.size_toArray]
 exact Nat.le_trans (List.length_filterMap_le _ _) (sI _ _ _)
section
variable {H : Hp} {Q : VK} {K : PySem.W.Frag}
theorem Bb {z : Str} {lo hi : Option Int} (hl : z.length <= 4000) (h : (b8 z lo hi).length <= z.length -> Q (.str (b8 z lo hi)) H) : Fy (.str z) lo hi H Q := ⟨z, rfl, hl, h (cP z lo hi)⟩
theorem Dd {z : Str} {i : Int} (hz : z.length <= 4000) (h0 : 0 <= i) (h1 : i < z.length) (h : ∀ c, z.cps.toList[i.toNat]? = some c -> Q (.str ⟨#[c]⟩) H) : lL K (.str z) (.int i) H Q := by
 obtain ⟨m, rfl⟩ := Int.eq_ofNat_of_zero_le h0
 have hi : m < z.cps.toList.length := by
  have : z.length = z.cps.toList.length := by show z.cps.size = _; simp
  omega
 exact CQ (Nat.le_of_lt (dr hz)) (gY (List.getElem?_eq_getElem hi)) (h _ (List.getElem?_eq_getElem hi))
end
end L2
namespace L2
open PySem PySem.Spec PyProof.Rows PySem.W
section
variable {X : Cx}
end
section
variable {σ : St} {H : Hp} {Q : VK}
end
section
variable {X : Cx} {pins : List (Addr × Obj)} {σ : St} {H : Hp} {s : Shared}
end
section
variable {σ : St} {H : Hp} {Q : VK}
end
section
variable {σ : St} {H : Hp} {Q : VK} {K : PySem.W.Frag} {p : Addr} {m : List (Str × PyData)} {k : Str}
end
def KH (h : Heap) (a T : Addr) (c : Value) (od : Option Addr) : Prop := ∃ oe vs oT ts, h.get? a = some oe /\ oe.cls = c /\ oe.dict = od /\ oe.data = .fields vs /\ vs[1]? = some (.ref T) /\ T ≠ a /\ h.get? T = some oT /\ oT.data = .fields ts /\ ts[3]? = some .none /\ vs[2]? = some .none
section
variable {M : Model} {A : Around} {E : Value -> Shared -> Prop} {s : Shared} {env : Env} {outer : List Env} {L a T : Addr} {c : Value} {od : Option Addr} {base : Heap} {Q : Unit -> Shared -> Prop}
end
def Nm (P : Program) (w : World) : oz := fun outer H s E e s' => ∃ a T C od H', e = .ref a /\ s'.os = s.os /\ AllBare s'.gens /\ Un (o9 outer) [] H H' s.heap s'.heap /\ g8 P w H' s'.heap /\ KH s'.heap a T (.ref C) od /\ s.heap.get? a = none /\ s.heap.get? T = none /\ H' a = none /\ H' T = none /\ E (.ref C) od H'
section
variable {P : Program} {w : World} {K : PySem.W.Frag} {mg : Str -> Option Value} {base : Heap} {N : List Str} {qual : Str} {scope : Scope} {f : Addr} {cd : Value} {A : Around} {outer : List Env} {s0 : Shared} {H0 : Hp} {E : XK} {CX : oz} {pins : List (Addr × Obj)} {σ : St} {H : Hp} {s : Shared}
end
structure Nv (P : Program) (w : World) (K : PySem.W.Frag) (mg : Str -> Option Value) (base : Heap) (k : Nat) (f : Addr) (ps : List Str) (iB : List V) (sp : Sp) : Prop where
 ex : ∃ (fd : FuncData) (ds : List Value), bQ P w K mg base (Nm P w) k f fd ps sp /\ Binds K fd ps ds /\ Vals iB ds
section
variable {X : Cx} {CX : oz} {k : Nat} {f C : Addr} {fd : FuncData} {ps : List Str} {sp : Sp} {iB : List V} {ds : List Value} {E : St -> XK} {x m : Str} {p pos apos : Pos} {e o : Expr} {es : List Expr} {ta : TE} {t : TA}
end
section
variable {P : Program} {w : World} {K : PySem.W.Frag} {mg : Str -> Option Value} {base : Heap}
end
section
variable {prog : Program} {w : World} {A : Around} {E : Value -> Shared -> Prop} {s : Shared} {K : PySem.W.Frag} {x C : Addr} {ox : Obj} {name : Str} {v : Value} {cd : ClassData}
open Builtin.ObjectAttr in
open Builtin.ObjectAttr in
end
structure Qa (K : PySem.W.Frag) (C W fI : Addr) : Prop where
 cls : ∃ (nm q : Str) (N : Addr) (bs : List Value) (sn : List Str) (sub : List Value) (ab : Bool) (col : Option Bool) (dd : Option Addr) (k0 k1 k2 k3 k5 : Option Value), K.lookup C = some (excClassObj nm q C N bs (.ref W :: Kg) true sn sub ab col dd k0 k1 k2 k3 k5 "ValueError.__new__")
 up : Cv K W
 init : PySem.W.findIn K (.ref C) "__init__" = some (some (.ref fI))
 fn : PySem.W.isFn K (.ref fI) = true
 te : Nw K C
 sa : PySem.W.findIn K (.ref C) "__setattr__" = some (some (.builtin "object.__setattr__"))
 tk : PySem.W.takerIn K C "name" = some none
 nm : PySem.W.findIn K (.ref C) "name" = some none
def J2 (K : PySem.W.Frag) (C : Addr) : Prop := ∀ h : Heap, K.In h -> ∃ (bm : List Value) (N : Addr) (nm q : Str) (bs : List Value) (hd : Bool) (sn : List Str) (sub : List Value) (ab : Bool) (col : Option Bool) (dd : Option Addr) (k0 k1 k2 k3 k5 : Option Value),
 h.get? C = some (excClassObj nm q C N bs bm hd sn sub ab col dd k0 k1 k2 k3 k5 "ValueError.__new__") /\ OwnTail h Kg bm
theorem Cv.o {K : PySem.W.Frag} {C : Addr} (h : Cv K C) : J2 K C := fun hp X => by
 obtain ⟨bm, N, nm, q, bs, hd, sn, sub, ab, col, dd, k0, k1, k2, k3, k5, mN, hC, _, _, T⟩ := BM X h
 exact ⟨bm, N, nm, q, bs, hd, sn, sub, ab, col, dd, k0, k1, k2, k3, k5, hC, T⟩
section
variable {prog : Program} {w : World} {A : Around} {E : Value -> Shared -> Prop} {h : Heap} {g : Array GenState} {d : Drawn} {t : Nat} {os : OsState}
variable {nm q : Str} {C N : Addr} {bs bm Ef : List Value} {JS : Bool} {sn : List Str} {sub : List Value} {ab : Bool} {col : Option Bool} {dd : Option Addr} {k0 k1 k2 k3 k5 : Option Value} {B newId HI : String}
end
structure Lk (K : PySem.W.Frag) (W : Addr) : Prop where
 ga : PySem.W.specialIn K (.ref W) "__getattribute__" = some (some (.builtin "type.__getattribute__"))
 rd : PySem.W.readsIn K W (.type "type") = true
 fd : PySem.W.findCls K (.ref W) (.type "type") "__init__" = some (.val (.builtin "ValueError.__init__"))
section
variable {X : Cx} {W : Addr} {x : Str} {p pos apos : Pos} {e : Expr} {es : List Expr} {t : TA} {pl : Sem Bool}
end
def del (H : Hp) (a : Addr) : Hp := fun b => if b = a then none else H b
section
variable {prog : Program} {w : World} {A : Around} {E : Value -> Shared -> Prop} {s : Shared} {env : Env}
variable {nm q : Str} {C N : Addr} {bs bm Ef : List Value} {JS : Bool} {sn : List Str} {sub : List Value} {ab : Bool} {col : Option Bool} {dd : Option Addr} {k0 k1 k2 k3 k5 : Option Value} {newId : String}
end
def NU (X : Cx) (cl : Expr) (hit : Addr -> Bool -> Prop) : Prop := ∀ (a C T : Addr) (od : Option Addr) (pins : List (Addr × Obj)) (σ : St) (H : Hp) (s : Shared) (Q : Bool -> Shared -> Prop) (E : Value -> Shared -> Prop) (b : Bool), Inv X pins σ H s -> KH s.heap a T (.ref C) od -> hit C b ->
 (∀ h', (∀ b o, s.heap.get? b = some o -> h'.get? b = some o) -> Q b { s with heap := h' }) ->
 wpAny (model X.prog X.w) (X.hand a).A (eval cl X.env) (fun c s1 => wpAny (model X.prog X.w) (X.hand a).A (excMatches (.ref a) c) Q E s1) E s
structure KI where
 hit : Addr -> Bool -> Prop
 i : Option Nat
 ts : Addr -> TS
def C0 (X : Cx) : Option Str -> Option Nat -> Prop
 | some n, some i => X.N[i]? = some n /\ X.env.scope.names.lookup n = some .local
 | none, none => True
 | _, _ => False
inductive vI (X : Cx) : List ExceptHandler -> List KI -> Prop
 | nil : vI X [] []
 | cons {cl : Expr} {n : Option Str} {b0 : Stmt} {zU : List Stmt} {pos : Pos} {hs : List ExceptHandler} {hit : Addr -> Bool -> Prop} {i : Option Nat} {ts : Addr -> TS} {rs : List KI} (hc : NU X cl hit) (hb : ∀ a, pP (X.hand a) (b0 :: zU) (ts a)) (hn : C0 X n i) (r : vI X hs rs) :
  vI X (.ExceptHandler (some cl) n (b0 :: zU) pos :: hs) (⟨hit, i, ts⟩ :: rs)
section
variable {X : Cx} {pins : List (Addr × Obj)} {σ : St} {H : Hp} {a C : Addr} {od : Option Addr} {Dn : Ends}
end
section
variable {X : Cx} {e : Expr} {te : TE} {y y2 : Str} {k k2 : Nat} {p1 p2 p3 pos : Pos}
end
section
variable {σ : St} {H : Hp} {Q : VK} {D : Ends} {K : PySem.W.Frag} {C : Addr} {E : St -> XK}
end
section
variable {prog : Program} {w : World} {A : Around} {R : Result -> Shared -> Prop} {I S : Addr} {fp wr : List Addr} {n : Nat} {P : Nat -> Value -> Prop} {St : Nat -> Heap -> Prop} {bt : Nat -> Nat -> Bool}
def xI (P : Nat -> Value -> Prop) (bt : Nat -> Nat -> Bool) (j : Nat) (aD : Array Value) : Prop := (j = 0 /\ aD = #[]) \/ ∃ i v, j = i + 1 /\ P (argBest bt i) v /\ aD = #[v, v]
end
section
variable {prog : Program} {w : World} {A : Around} {E : Value -> Shared -> Prop} {s : Shared}
end
section
variable {X : Cx}
end
section
variable {σ : St} {H : Hp} {Q : VK} {D : Ends} {K : PySem.W.Frag}
def F2 (K : PySem.W.Frag) (vs : List V) (g : TG) (tb : TS) (D : Ends) (σ : St) (H1 : Hp) : Prop := ∃ a, vs = [.ref a] /\ (∃ xs, bF K H1 a xs) /\ ∃ W : Nat -> Nat -> St -> Hp -> Prop, (∃ m, W 0 m σ H1) /\ ∀ i m σ H, W i m σ H ->
 ((CW K a).stop i H /\ D.nx σ H) \/ ((CW K a).go i H /\ ∃ N : St -> Hp -> Prop, (∀ σ' H', N σ' H' -> ∃ m', m' < m /\ W (i + 1) m' σ' H') /\ ∀ x H', (CW K a).yC i H x H' -> g x σ H' fun σ2 H2 => tb { D with nx := N, ct := N, bk := D.nx } σ2 H2)
theorem Cu {ta : TA} {g : TG} {tb : TS} (h : ta σ H fun vs H1 => F2 K vs g tb D σ H1) : xh (vt K ta) g tb D σ H := h
theorem AH {Hb : Hp} {v : V} {cs : List Int} {g : TG} {tb : TS} (hl : Dv Hb v (.list (cs.map PyData.int))) (Pv : Nat -> St -> Hp -> Prop) (h0 : Pv 0 σ H) (hk : ∀ i σ H', i <= cs.length -> Pv i σ H' -> ∀ a xs, v = .ref a -> bF K Hb a xs -> bF K H' a xs)
 (hs : ∀ i c t σ H', cs[i]? = some c -> Pv i σ H' -> H' t = none -> g (.ref t) σ (upd H' t (.tup [.int (i : Int), .int c])) fun σ2 H2 => tb { D with nx := Pv (i + 1), ct := Pv (i + 1), bk := D.nx } σ2 H2) (hd : ∀ σ H', Pv cs.length σ H' -> D.nx σ H') : F2 K [v] g tb D σ H := by
 obtain ⟨p, xs, rfl, e, dv⟩ := hl.lst_inv
 have Gf : xs.length = cs.length := by rw [dv.length, List.length_map]
 have at' : ∀ i σ H', i <= cs.length -> Pv i σ H' -> bF K H' p xs := fun i σ H' hi hp => hk i σ H' hi hp p xs rfl (e K)
 refine ⟨p, rfl, ⟨xs, at' 0 σ H (Nat.zero_le _) h0⟩, fun i m σ H => i <= cs.length /\ m = cs.length - i /\ Pv i σ H, ⟨_, Nat.zero_le _, rfl, h0⟩, ?_⟩
 rintro i m σ H' ⟨hi, hm, hp⟩
 have pO := at' i σ H' hi hp
 by_cases hc : i = cs.length
 . subst hc
   exact .inl ⟨⟨xs, pO, by omega⟩, hd σ H' hp⟩
 . have FV : i < xs.length := by omega
   refine .inr ⟨⟨xs, xs[i], pO, List.getElem?_eq_getElem FV⟩, Pv (i + 1), fun σ' H2 uC => ⟨cs.length - (i + 1), by omega, by omega, rfl, uC⟩, fun x H2 hy => ?_⟩
   obtain ⟨t, x', hy, rfl, ht, rfl⟩ := hy
   have hx := hy xs pO
   have Ah : cs[i]? = some cs[i] := List.getElem?_eq_getElem (by omega)
   obtain ⟨x2, zc, hd⟩ := dv.get (i := i) (d := .int cs[i]) (by rw [List.getElem?_map, Ah]; rfl)
   rw [hx] at zc
   cases zc
   obtain rfl := hd.int_inv
   exact hs i cs[i] t σ H' Ah hp ht
end
def C8 : Expr -> Option V
 | .Constant (.int i) _ _ => some (.int i)
 | .Constant (.str x) _ _ => some (.str x)
 | .Constant (.bool b) _ _ => some (.bl b)
 | .Constant .none _ _ => some .bz
 | _ => none
def uY : List Expr -> Option (List V)
 | [] => some []
 | e :: es => match C8 e, uY es with
   | some v, some vs => some (v :: vs)
   | _, _ => none
def AQ (vs : List V) : TA := fun _ H Q => Q vs H
theorem rG {X : Cx} {e : Expr} {v : V} (h : C8 e = some v) : PE X e (tC v) /\ ∀ es : List Expr, starEach (e :: es) X.env = (false, eval e X.env) :: starEach es X.env := by
 unfold C8 at h
 split at h <;> cases h <;> refine ⟨?_, fun _ => rfl⟩
 . exact af
 . exact qo
 . exact fG
 . exact kT
theorem rJ {X : Cx} : ∀ {es : List Expr} {vs : List V}, uY es = some vs -> PA X es (AQ vs)
 | [], vs, h => by cases h; exact ai
 | e :: es, vs, h => by
   unfold uY at h
   split at h
   . rename_i v PH h1 h2
     cases h
     exact ae (rG h1).1 (rJ h2) ((rG h1).2 es)
   . cases h
theorem Dl {σ : St} {H : Hp} {vs : List V} {Q : List V -> Hp -> Prop} (h : Q vs H) : AQ vs σ H Q := h
section
variable {σ : St} {H : Hp} {Q : VK} {K : PySem.W.Frag}
theorem wW {p : Addr} {xs : List V} {y : V} (e : H p = some (.lst xs)) (hl : xs.length <= 4000) (h : Q .bz (upd H p (.lst (xs ++ [y])))) : nU (.ref p) [y] H Q := ⟨p, xs, y, rfl, rfl, e, dr hl, h⟩
end
section
variable {X : Cx}
end
section
open PySem.SeqAt
open PySem.AutoSeq1 (wpAny_loadPart')
open PySem.MeetsSeq PySem.MeetsSeq2 PySem.MeetsSeq3
end
section
variable {X : Cx}
end
section
variable {σ : St} {H : Hp} {Q : VK} {D : Ends} {K : PySem.W.Frag}
end
section
variable {σ : St} {H : Hp} {Q : VK} {K : PySem.W.Frag}
end
section
variable {X : Cx}
def rX (m : List (Str × PyData)) : Prop := ∀ x ∈ m, ∃ n, x.2 = .int n
theorem tI {A : Around} {s : Shared} {H : Hp} {ka kb : List (Key × V)} {m m2 : List (Str × PyData)} {vb : List (Key × Value)} (d2 : e9 H kb m2) (p2 : KV kb vb) (d1 : e9 H ka m) : ∀ {va : List (Key × Value)}, KV ka va -> rX m -> (∀ z ∈ m, oq m2 z.1 = some z.2) -> KeqHits A s vb va true := by
 induction d1 with
 | nil =>
   intro va p1 _ _
   cases p1
   exact .nil
 | @cons k v kvs d m h1 i1 r1 ih =>
   intro va p1 hi hl
   cases p1 with
   | @cons _ x _ P2 q1 t1 =>
     obtain ⟨n, hn⟩ := hi _ List.mem_cons_self
     dsimp only at hn
     subst hn
     obtain rfl := h1.int_inv
     obtain ⟨xk, xv⟩ := x
     obtain ⟨e1, g1⟩ := q1
     dsimp only at e1 g1
     subst e1
     obtain ⟨v2, sT, hd2⟩ := (d2.val (k := k)).1 _ (hl _ List.mem_cons_self)
     obtain rfl := hd2.int_inv
     obtain ⟨y, hy, g2⟩ := j4.some_of (v := .int n) (o := valueAt vb (.inr k)) (by rw [<- sT]; exact p2.val _)
     have eq := Cy (A := A) (s := s) g1 g2 rfl rfl
     rw [show Ka (.int n) (.int n) = true by simp [Ka]] at eq
     exact KeqHits.hit hy eq (ih t1 (fun z hz => hi z (List.mem_cons_of_mem _ hz)) (fun z hz => hl z (List.mem_cons_of_mem _ hz)))
def vX : List V -> Hp -> VK -> Prop := fun xs H Q => ∃ p m, xs = [.ref p] /\ eG H p m /\ ∀ q H', ah H H' -> H q = none -> eG H' q m -> Q (.ref q) H'
theorem qx : dH X (.type "dict") vX := by
 intro pins s σ H xs us Q I rv h
 obtain ⟨p, m, rfl, ⟨kvs, e, dk⟩, q⟩ := h
 obtain ⟨u, rfl, ru⟩ := rv.one
 cases ru
 refine vJ I (.inl e) fun q' s' Cq I' => ⟨.ref q', _, I', rfl, q q' _ (aM Cq) Cq ⟨kvs, aA, dk.se fun a xs z => ?_⟩⟩
 rw [aw (aH z Cq)]; exact z
theorem yc {H : Hp} {Q : VK} {p : Addr} {m : List (Str × PyData)} (hp : eG H p m) (h : ∀ q H', ah H H' -> H q = none -> eG H' q m -> Q (.ref q) H') : vX [.ref p] H Q := ⟨p, m, rfl, hp, h⟩
end
section
variable {X : Cx} {pins : List (Addr × Obj)} {σ : St} {H : Hp} {s : Shared} {h' : Heap}
theorem Inv.rh {t' : Nat} {is : List Addr} (I : Inv X pins σ H s) (k : ∀ b o, b ∉ is -> s.heap.get? b = some o -> h'.get? b = some o) (f : ∀ i ∈ is, cM X pins H i) : Inv X pins σ H { s with heap := h', toks := t' } := by
 have xK : ∀ b u, H b = some u -> b ∉ is := fun b u e hb => by rw [(f b hb).1] at e; cases e
 refine I.step (g' := s.gens) (d' := s.drawn) (ch := is) (fun b hb => ?_) (fun b o _ _ hc e _ => k b o hc e) (fun b o _ _ hc e _ => ⟨o.slots, k b o hc e⟩) (fun _ _ _ _ n => n)
  (fun b o hc e => ⟨o, k b o hc e⟩) (fun _ _ e => e) (fun _ _ _ e => e) (fun b ps e => ⟨#[], by rw [e]; simp⟩) (fun m hm => ?_) (fun b u e => ?_) I.bare
 . exact ⟨(f b hb).2.2.2.1, (f b hb).2.1, (f b hb).2.2.2.2.1, (f b hb).2.2.2.2.2⟩
 . obtain ⟨o, es, ep, ho, r⟩ := hm
   exact ⟨o, es, ep, k _ o (fun hb => (f _ hb).2.1 rfl) ho, r⟩
 . refine (I.aK b u e).nq (fun c v hc q => k c v ?_ q) (fun _ q => q) fun _ _ q => q
   rcases hc with z | z
   . rw [z]; exact xK b u e
   . exact xK c _ z
end
def Gy (K : PySem.W.Frag) (a b : Addr) : It := ⟨fun i H => ∃ xs ys x y, bF K H a xs /\ bF K H b ys /\ xs[i]? = some x /\ ys[i]? = some y, fun i H v H' => ∃ t x y, (∀ xs, bF K H a xs -> xs[i]? = some x) /\ (∀ ys, bF K H b ys -> ys[i]? = some y) /\ v = .ref t /\ H t = none /\ H' = upd H t (.tup [x, y]), fun i H => ∃ xs ys, bF K H a xs /\ bF K H b ys /\ (xs.length <= i \/ ys.length <= i)⟩
structure wG (h : Heap) (z TI TO i1 i2 : Addr) (a b : Addr) (i : Nat) : Prop where
 zp : IsZip h z TI TO .none
 ti : IsPair h TI (.ref i1) (.ref i2)
 to : ∃ u v, IsPair h TO u v
 l1 : h.IsListIter i1 a i
 l2 : h.IsListIter i2 b i
structure ZA (z TI TO i1 i2 : Addr) : Prop where
 TIz : TI ≠ z
 TOz : TO ≠ z
 i1z : i1 ≠ z
 i2z : i2 ≠ z
 TITO : TI ≠ TO
 TIi1 : TI ≠ i1
 TIi2 : TI ≠ i2
 TOi1 : TO ≠ i1
 TOi2 : TO ≠ i2
 i12 : i1 ≠ i2
theorem Bu (n : Nat) : ZA (n + 4) (n + 2) (n + 3) n (n + 1) := by
 have h : ∀ a b : Nat, ¬ a = b -> @Ne Addr a b := fun _ _ h => h
 constructor <;> (refine h _ _ ?_; omega)
theorem zb {n c : Nat} (h : c ∈ [n + 4, n + 2, n + 3, n, n + 1]) : n <= c := by
 have e' : c = n + 4 \/ c = n + 2 \/ c = n + 3 \/ c = n \/ c = n + 1 := by simpa using h
 omega
theorem c4 {h : Heap} {l z : Addr} {aD : Array Value} {o : Obj} (hl : h.IsList l aD) (hz : h.get? z = some o) (hc : o.cls ≠ .type "list") : l ≠ z := by
 rintro rfl
 obtain ⟨o', e, c, _⟩ := hl
 rw [hz] at e
 cases e
 exact hc c
theorem dA {h : Heap} {l z : Addr} {aD : Array Value} {b : Addr} {n : Nat} (hl : h.IsList l aD) (hz : h.IsListIter z b n) : l ≠ z := by
 obtain ⟨o, e, c, _⟩ := hz
 exact c4 hl e (by rw [c]; decide)
theorem wG.apart {h : Heap} {z TI TO i1 i2 a b : Addr} {i : Nat} {xs ys : Array Value} (st : wG h z TI TO i1 i2 a b i) (za : ZA z TI TO i1 i2) (h1 : h.IsList a xs) (h2 : h.IsList b ys) : ZipApart z TI TO i1 i2 a b := by
 obtain ⟨u, v, vp⟩ := st.to
 have nz : Value.type "zip" ≠ Value.type "list" := by decide
 have nt : Value.type "tuple" ≠ Value.type "list" := by decide
 exact ⟨za.TIz, za.TOz, za.i1z, za.i2z, za.TITO, za.TIi1, za.TIi2, za.TOi1, za.TOi2, za.i12, c4 h1 st.zp nz, c4 h1 vp nt, dA h1 st.l1, dA h1 st.l2, c4 h2 st.zp nz, c4 h2 vp nt, dA h2 st.l1, dA h2 st.l2⟩
theorem vo {P : Program} {w : World} {K : PySem.W.Frag} {elts : List Expr} {x1} {pos : Pos} {z TI TO i1 i2 a b : Addr} (za : ZA z TI TO i1 i2) :
 Turn P w K (.Tuple elts x1 pos) (Gy K a b) [z, TI, TO, i1, i2] z (fun i h => wG h z TI TO i1 i2 a b i) where
 mem := by simp
 obj := fun i h st c hc => by
  have e' : c = z \/ c = TI \/ c = TO \/ c = i1 \/ c = i2 := by simpa using hc
  obtain ⟨u, v, vp⟩ := st.to
  rcases e' with rfl | rfl | rfl | rfl | rfl
  . exact ⟨_, st.zp, fun v z => by cases z⟩
  . exact ⟨_, st.ti, fun v z => by cases z⟩
  . exact ⟨_, vp, fun v z => by cases z⟩
  . obtain ⟨o, e1, c, d⟩ := st.l1
    exact ⟨o, e1, fun v z => by rw [d] at z; cases z⟩
  . obtain ⟨o, e1, c, d⟩ := st.l2
    exact ⟨o, e1, fun v z => by rw [d] at z; cases z⟩
 keep := fun i h h' st k => ⟨k z (by simp) _ st.zp, k TI (by simp) _ st.ti, let ⟨u, v, q⟩ := st.to; ⟨u, v, k TO (by simp) _ q⟩, st.l1.at fun o q => k i1 (by simp) o q, st.l2.at fun o q => k i2 (by simp) o q⟩
 item := by
  intro X hP hw hK hc i pins s σ H E I hf st hg
  subst hP hw hK
  obtain ⟨xs, ys, x, y, hq, jX, hx, hy⟩ := hg
  obtain ⟨aD, rv, p, hz⟩ := I.list hq
  obtain ⟨tR, HA, p2, Lg⟩ := I.list jX
  obtain ⟨u, hu, ru⟩ := rv.get hx
  obtain ⟨u2, OD, Np⟩ := HA.get hy
  have ap := st.apart za p.isList p2.isList
  obtain ⟨ua, ub, vp⟩ := st.to
  have b4 : ∀ c ∈ [z, TI, TO, i1, i2], c < s.heap.objs.size := by
   intro c hc
   have e' : c = z \/ c = TI \/ c = TO \/ c = i1 \/ c = i2 := by simpa using hc
   rcases e' with rfl | rfl | rfl | rfl | rfl
   . exact Heap.lt_size st.zp
   . exact Heap.lt_size st.ti
   . exact Heap.lt_size vp
   . obtain ⟨o, ho, _⟩ := st.l1; exact Heap.lt_size ho
   . obtain ⟨o, ho, _⟩ := st.l2; exact Heap.lt_size ho
  have hn : H s.heap.objs.size = none := I.aK.fresh (Nat.le_refl _)
  refine wpAny_pyNext_zip_item ap st.zp st.ti vp st.l1 st.l2 p.isList p2.isList (x := u) (y := u2) (by simpa using hu) (by simpa using OD) fun h' Nc JY DK ux ht MT kk => ?_
  refine ⟨_, rfl, wpAny_letOwnedTupleGo_zip (s := { s with heap := h' }) Nc fun h2 Iu sb => ?_⟩
  replace sb : Heap.SameBut z h' h2 := sb
  let tb : Obj := { cls := .type "tuple", data := .seq #[u, u2] }
  have I1 : Inv X pins σ (upd H s.heap.objs.size (.tup [x, y])) { s with heap := s.heap.push tb } :=
   I.laid (t' := s.toks) (fun b u e => Heap.get?_push_of_some _ e) (Nat.le_refl _) (show bp X.prog X.w _ _ _ (.tup [x, y]) from ⟨by rw [sizeLine_eq]; simp, [u, u2], .cons ru (.cons Np .nil), IsTup.new _ _⟩)
  have LZ : ∀ c ∈ [z, TI, TO, i1, i2], upd H s.heap.objs.size (.tup [x, y]) c = none := fun c hc => by
   rw [aw (Nat.ne_of_lt (b4 c hc))]; exact (hf c hc).1
  have I2 : Inv X pins σ (upd H s.heap.objs.size (.tup [x, y])) { s with heap := h2 } := by
   refine Inv.rh (s := { s with heap := s.heap.push tb }) (h' := h2) (t' := s.toks) (is := [z, TI, TO, i1, i2]) I1 (fun b u' hb q => ?_) (fun c hc => ⟨LZ c hc, (hf c hc).2⟩)
   have lN : b ≠ z /\ b ≠ TI /\ b ≠ TO /\ b ≠ i1 /\ b ≠ i2 := by simpa using hb
   by_cases FJ : b = s.heap.objs.size
   . subst FJ
     have e0 : (s.heap.push tb).get? s.heap.objs.size = some tb := Heap.get?_push_size _ rfl
     have e1 := e0.symm.trans q
     cases e1
     exact (sb.2 _ lN.1).trans ht
   . exact (sb.2 _ lN.1).trans (kk b u' lN.1 lN.2.2.1 lN.2.2.2.1 lN.2.2.2.2 (kr q FJ))
  refine ⟨.ref s.heap.objs.size, _, I2, rfl, ⟨_, x, y, fun ys hy => by rw [I.je hy hq]; exact hx, fun ys Nb => by rw [I.je Nb jX]; exact hy, rfl, hn, rfl⟩, ⟨Iu, ?_, ⟨u, u2, (sb.2 _ za.TOz).trans JY⟩, DK.at fun o q => (sb.2 i1 za.i1z).trans q, ux.at fun o q => (sb.2 i2 za.i2z).trans q⟩, fun c hc => LZ c hc⟩
  exact (sb.2 _ za.TIz).trans (kk TI _ za.TIz za.TITO za.TIi1 za.TIi2 st.ti)
 done := by
  intro X hP hw hK hc i pins s σ H E I hf st hg
  subst hP hw hK
  obtain ⟨xs, ys, hq, jX, hx⟩ := hg
  obtain ⟨aD, rv, p, hz⟩ := I.list hq
  obtain ⟨tR, HA, p2, Lg⟩ := I.list jX
  have hl := rv.length
  have xm := HA.length
  have ap := st.apart za p.isList p2.isList
  obtain ⟨ua, ub, vp⟩ := st.to
  refine wpAny_pyNext_zip_end (I.ok.hd hc) ap st.zp st.ti vp st.l1 st.l2 p.isList p2.isList (hx.imp (fun h => by simp; omega) (fun h => by simp; omega)) fun h' eb => ⟨rfl, ?_⟩
  exact I.rh (t' := s.toks) (is := [z, TI, TO, i1, i2]) (fun b o hb e => by
   have lN : b ≠ z /\ b ≠ TI /\ b ≠ TO /\ b ≠ i1 /\ b ≠ i2 := by simpa using hb
   exact eb b o lN.1 lN.2.2.1 lN.2.2.2.1 lN.2.2.2.2 e) hf
 self := fun A i s Q E st q => by
  exact wpAny_pyIter_zip st.zp q
def EZ (K : PySem.W.Frag) (ta : TA) : TI := fun σ H R => ta σ H fun vs H1 => ∃ a b, vs = [.ref a, .ref b] /\ (∃ xs, bF K H1 a xs) /\ (∃ ys, bF K H1 b ys) /\ R (Gy K a b) H1
theorem Bv {X : Cx} {elts : List Expr} {x1} {vH : Pos} {a b : Expr} {ta : TA} {p pos : Pos} (hg : Gl X "zip") (hm : X.mg "zip" = none) (ha : PA X [a, b] ta) (hs : starEach [a, b] X.env = (false, eval a X.env) :: starEach [b] X.env := by rfl) (BD : starEach [b] X.env = [(false, eval b X.env)] := by rfl) :
 PI X (.Tuple elts x1 vH) (.Call (.Name "zip" p) [a, b] [] pos) (EZ X.K ta) := by
 intro pins s σ H R I h
 refine Call_ (dO I hg hm boot_zip (PyProof.Rows.callWith_type1 (bO (ha pos pins s σ H _ I h) fun us s1 ⟨vs, H1, I1, r1, q1⟩ => ?_) hs (by rw [BD]; rfl)))
 obtain ⟨l, l2, e, ⟨xs, hq⟩, ⟨ys, jX⟩, q⟩ := q1
 subst e
 cases r1 with
 | cons r rr =>
   cases rr with
   | cons r2 rr =>
   cases rr
   cases r
   cases r2
   obtain ⟨aD, rv, p, hz⟩ := I1.list hq
   obtain ⟨tR, HA, p2, Lg⟩ := I1.list jX
   refine call_zip_2 p.isList p2.isList fun h' La Kw vp DK ux hsz hk => ?_
   refine wpAny_pyIter_zip La ?_
   have za := Bu s1.heap.objs.size
   refine ⟨s1.heap.objs.size + 4, [s1.heap.objs.size + 4, s1.heap.objs.size + 2, s1.heap.objs.size + 3, s1.heap.objs.size, s1.heap.objs.size + 1], _, _, H1, rfl, I1.kept (t' := s1.toks) hk, vo (a := l) (b := l2) za, ⟨La, Kw, ⟨_, _, vp⟩, DK, ux⟩, fun c hc => ?_, q⟩
   have hle : s1.heap.objs.size <= c := zb hc
   exact I1.kC hle (I1.aK.fresh hle)
section
variable {σ : St} {H : Hp} {Q : VK} {D : Ends} {K : PySem.W.Frag}
def EW (K : PySem.W.Frag) (vs : List V) (g : TG) (tb : TS) (D : Ends) (σ : St) (H1 : Hp) : Prop := ∃ a b, vs = [.ref a, .ref b] /\ (∃ xs, bF K H1 a xs) /\ (∃ ys, bF K H1 b ys) /\ ∃ W : Nat -> Nat -> St -> Hp -> Prop, (∃ m, W 0 m σ H1) /\ ∀ i m σ H, W i m σ H ->
 ((Gy K a b).stop i H /\ D.nx σ H) \/ ((Gy K a b).go i H /\ ∃ N : St -> Hp -> Prop, (∀ σ' H', N σ' H' -> ∃ m', m' < m /\ W (i + 1) m' σ' H') /\ ∀ x H', (Gy K a b).yC i H x H' -> g x σ H' fun σ2 H2 => tb { D with nx := N, ct := N, bk := D.nx } σ2 H2)
theorem Dp {ta : TA} {g : TG} {tb : TS} (h : ta σ H fun vs H1 => EW K vs g tb D σ H1) : xh (EZ K ta) g tb D σ H := h
theorem Kh {a b : Addr} {xs ys : List V} {g : TG} {tb : TS} (h1 : bF K H a xs) (h2 : bF K H b ys) (Pv : Nat -> St -> Hp -> Prop) (h0 : Pv 0 σ H) (hk : ∀ i σ H', Pv i σ H' -> ah H H')
 (hs : ∀ i x y t σ H', xs[i]? = some x -> ys[i]? = some y -> Pv i σ H' -> H' t = none -> g (.ref t) σ (upd H' t (.tup [x, y])) fun σ2 H2 => tb { D with nx := Pv (i + 1), ct := Pv (i + 1), bk := D.nx } σ2 H2) (hd : ∀ σ H', Pv (min xs.length ys.length) σ H' -> D.nx σ H') : EW K [.ref a, .ref b] g tb D σ H := by
 refine ⟨a, b, rfl, ⟨xs, h1⟩, ⟨ys, h2⟩, fun i m σ H' => i <= min xs.length ys.length /\ m = min xs.length ys.length - i /\ Pv i σ H', ⟨_, Nat.zero_le _, rfl, h0⟩, ?_⟩
 rintro i m σ H' ⟨hi, hm, hp⟩
 have sm := hk i σ H' hp
 have k1 := ah.seq sm h1
 have k2 := ah.seq sm h2
 by_cases hc : i = min xs.length ys.length
 . subst hc
   refine .inl ⟨⟨xs, ys, k1, k2, ?_⟩, hd σ H' hp⟩
   omega
 . have hx : i < xs.length := by omega
   have hy : i < ys.length := by omega
   refine .inr ⟨⟨xs, ys, xs[i], ys[i], k1, k2, List.getElem?_eq_getElem hx, List.getElem?_eq_getElem hy⟩, Pv (i + 1), fun σ' H2 uC => ⟨min xs.length ys.length - (i + 1), by omega, by omega, rfl, uC⟩, fun v H2 KN => ?_⟩
   obtain ⟨t, x, y, e1, e2, rfl, ht, rfl⟩ := KN
   exact hs i x y t σ H' (e1 xs k1) (e2 ys k2) hp ht
end
section
variable {prog : Program} {w : World} {A : Around} {E : Value -> Shared -> Prop} {s : Shared}
theorem oG {T : String} {r d : Addr} {n : Nat} {Pk : Nat -> Value -> Prop} {OK : Heap -> Prop} {ss : List Str} {Q : Value -> Shared -> Prop} (src : KdlSrc prog w T r d n Pk OK) (hh : A.handled = none) (ok : OK s.heap) (wx : n < 64) (hP : ∀ acc : Array Value, ItemsOf Pk acc n -> StrsAre acc.toList ss)
 (h : ∀ (h1 h' : Heap) (tk e : Nat) (us : List Value) (j5 : List Str), (∀ b u, s.heap.get? b = some u -> h1.get? b = some u) -> (∀ b u, h1.get? b = some u -> h'.get? b = some u) -> h'.get? h1.objs.size = some { cls := .type "list", data := .seq us.toArray e } -> StrsAre us j5 -> j5.Perm ss -> sortedS j5 = true -> Q (.ref h1.objs.size) { s with heap := h', toks := tk }) :
 wpAny (model prog w) A (call (.builtin "sorted") [.ref r]) Q E s := by
 refine Calls.call_function_entry kind_sorted plain_sorted entry_sorted (args_sorted1 _) ?_
 unfold Builtin.«sorted»
 refine wpAny_bind (m := checkCount "sorted" 1 1 _) (wpAny_pure ?_)
 refine wpAny_bind (kdu_collect (A := A.in1) src hh ok (by rw [sizeLine_eq]; omega) fun h1 tk acc kp eK => ?_)
 have hS := hP acc eK
 have hn : acc.toList.length < 64 := by
  have e : acc.size = n := eK.1
  rw [Array.length_toList, e]; exact wx
 refine wpAny_bind (wpAny_newList ?_ (hsz := by rw [sizeLine_eq]; omega))
 generalize acc.toList = vs at *
 have sr : (h1.push (seqObj "list" vs.toArray 0)).get? h1.objs.size = some (seqObj "list" vs.toArray 0) := Heap.get?_push_size _ rfl
 refine wpAny_bind (wpAny_holding (wpAny_call_entry slot_list_sort ⟨_, sr, rfl⟩ entry_list_sort (list_sort_treeK strKind_oneLt sr hS.keysOf (fun v₁ v₂ rest e => keyKind_strs (by rw [<- e]; exact hS)) hn fun tW a1 a2 => ⟨_, rfl, ?_⟩) (args_list_sort _)))
 obtain ⟨j5, b1, b2, b3⟩ := sorted_out_str hS a1 a2
 obtain ⟨e, he⟩ := sortedHeap_at (out := (arrOf tW).map (·.2)) sr
 refine wpAny_pure ⟨_, rfl, h h1 _ tk e ((arrOf tW).map (·.2)).toList j5 kp (fun b u q => ?_) (by rw [Array.toArray_toList]; exact he) b1 b2 b3⟩
 have b4 : b < h1.objs.size := Heap.lt_size q
 rw [sortedHeap_old (Nat.ne_of_lt b4) (by rw [size_push']; exact Nat.lt_succ_of_lt b4)]
 exact Heap.get?_push_of_some _ q
end
section
variable {X : Cx}
def qk : V -> Hp -> VK -> Prop := fun x H Q => ∃ (p : Addr) (m : List (Str × PyData)), x = .ref p /\ eG H p m /\ m.length < 64 /\ ∀ q H' ss, ah H H' -> H q = none -> ss.Perm (m.map (·.1)) -> zV ss -> bG H' q (ss.map PyData.str) -> Q (.ref q) H'
theorem sX {H : Hp} {kvs : List (Key × V)} {m : List (Str × PyData)} (dk : e9 H kvs m) {us : List Value} (hv : Vals (kvs.map fun kv => kV kv.1) us) : StrsAre us (m.map (·.1)) := by
 induction dk generalizing us with
 | nil => cases hv; exact .nil
 | @cons k v kvs d m h1 i1 r1 ih =>
   cases hv with
   | cons q t =>
     obtain ⟨tk, rfl⟩ := q
     exact .cons _ _ (ih t)
theorem sM {pins : List (Addr × Obj)} {σ : St} {H : Hp} {s : Shared} {Q : VK} {h1 h' : Heap} {tk e : Nat} {us : List Value} {j5 : List Str} (I : Inv X pins σ H s) (k1 : ∀ b u, s.heap.get? b = some u -> h1.get? b = some u) (k2 : ∀ b u, h1.get? b = some u -> h'.get? b = some u) (he : h'.get? h1.objs.size = some { cls := .type "list", data := .seq us.toArray e }) (hS : StrsAre us j5) (hl : j5.length < 64)
 (q : ∀ q H', ah H H' -> H q = none -> bG H' q (j5.map PyData.str) -> Q (.ref q) H') : ∃ v H1, Inv X pins σ H1 { s with heap := h', toks := tk } /\ RelV v (.ref h1.objs.size) /\ Q v H1 := by
 have I1 := I.kept (t' := tk) (h' := h1) k1
 have hq : H h1.objs.size = none := I1.aK.fresh (Nat.le_refl _)
 refine ⟨.ref h1.objs.size, upd H h1.objs.size (.lst (j5.map V.str)), I1.laid (t' := tk) k2 (Nat.le_refl _) ?_, rfl, q _ _ (aM hq) hq (gX hq (lC j5) (bN (fun _ => rfl) _))⟩
 exact ⟨by rw [List.length_map]; exact Nat.le_of_lt (dr (by omega)), us, e, jf hS, he⟩
def rk (te : TE) : TE := fun σ H Q => te σ H fun x H1 => qk x H1 Q
theorem t6 {e : Expr} {te : TE} {p pos apos cC : Pos} (he : PE X e te) (hc : X.calm = true) (hg : Gl X "sorted") (hm : X.mg "sorted" = none)
 (oF : attributeBase e "keys" X.env (eval e X.env) = eval e X.env := by rfl) (hline : (apos.endLine == cC.line) = true := by rfl)
 (h2 : starEach [.Call (.Attribute e "keys" apos) [] [] cC] X.env = (false, eval (.Call (.Attribute e "keys" apos) [] [] cC) X.env) :: starEach [] X.env := by rfl) :
 PE X (.Call (.Name "sorted" p) [.Call (.Attribute e "keys" apos) [] [] cC] [] pos) (rk te) := by
 intro pins s σ H Q I h
 refine wpAny_Call_Name_kw (dO I hg hm boot_sorted ?_ (by decide) (by decide))
 refine PyProof.Rows.callWith_builtin1 ?_ h2 rfl
 rw [h2]
 show wpAny _ _ (spliced ((false, eval (.Call (.Attribute e "keys" apos) [] [] cC) X.env) :: backTo pos (starEach [] X.env))) _ _ s
 refine Calls.spliced_cons (wpAny_Call_method0_late oF hline (bO (he pins s σ H _ I h) fun v s1 ⟨y, H1, I1, r1, q1⟩ => ?_))
 obtain ⟨d, m, rfl, ⟨kvs, hd, dk⟩, hl, q⟩ := q1
 obtain ⟨h1, h2⟩ := qY I1 (T := "dict") r1 (.inr (.inr (.inl ⟨rfl, .inl ⟨kvs, hd⟩⟩)))
 cases r1
 refine ⟨"dict", "dict.keys", PySem.F.plainAttrs_dict, PySem.F.slot_dict_keys, PySem.F.type_dict_keys, h1, h2, Calls.callWith_builtin rfl (PySem.evalArgs_none ?_)⟩
 obtain ⟨_, hs, vs, kv, o, es, ep, ho, a2, a3, a4⟩ := (show bp X.prog X.w H1 s1.heap d (.dK kvs) from I1.aK d _ hd)
 have da : s1.heap.DictAt (aY X.prog X.w) d vs ep := ⟨o, es, ho, a2, a3, a4⟩
 have hlen : vs.length = kvs.length := kv.length.symm
 have Ce : kvs.length = m.length := dk.length
 refine call_meetsIn PySem.F.slot_dict_keys da.dictOf.typeIs PySem.F.entry_dict_keys (PySem.F.args_dict_keys_1 _) (kdl_meets_keys (aY X.prog X.w) d hs) ⟨⟨vs, da.dictOf⟩, ?_⟩
 refine Calls.spliced_nil ?_
 have I2 : Inv X pins σ H1 { s1 with heap := s1.heap.push { cls := .type "dict_keys", data := .fields #[.ref d] } } := I1.kept (t' := s1.toks) fun b o e => Heap.get?_push_of_some _ e
 refine oG (s := { s1 with heap := s1.heap.push { cls := .type "dict_keys", data := .fields #[.ref d] } }) (kdl_keys (knd := aY X.prog X.w) (kvs := vs) (ep := ep) (d := d) (r := s1.heap.objs.size)) (I1.ok.hd hc) ⟨⟨_, Heap.get?_push_size _ rfl, rfl, rfl⟩, da.push _⟩ (by omega) (fun acc eK => sX dk (qp kv eK)) fun h1 h' tk e us j5 k1 k2 he hS hp pX => ?_
 exact sM I2 k1 k2 he hS (by rw [hp.length_eq, List.length_map]; exact hl) fun a H' sm hn pO => q a H' j5 sm hn hp (iW pX) pO
end
section
variable {σ : St} {H : Hp} {Q : VK}
theorem sS {te : TE} (h : te σ H fun x H1 => qk x H1 Q) : rk te σ H Q := h
theorem yL {p : Addr} {m : List (Str × PyData)} (hp : eG H p m) (hl : m.length < 64) (h : ∀ q H' ss, ah H H' -> H q = none -> ss.Perm (m.map (·.1)) -> zV ss -> bG H' q (ss.map PyData.str) -> Q (.ref q) H') : qk (.ref p) H Q := ⟨p, m, rfl, hp, hl, h⟩
end
def wg (prog : Program) (w : World) (A : Around) (s : Shared) (y x : Value) : Prop := ∀ (E : Value -> Shared -> Prop) (Q : Bool -> Shared -> Prop), Q true s -> wpAny (model prog w) A (eqBool y x) Q E s
section
open PySem.SeqAt PySem.AutoSeq1
theorem qR {prog : Program} {w : World} (l b : Addr) (items qL : Array Value) (n n2 : Nat) (dd Kq : Option Addr) (sl JG : Array (Option Value)) (hsz : items.size = qL.size) :
 MeetsIn prog w (Builtin.«tuple.__eq__» ⟨[.ref l, .ref b], []⟩) (fun A R s => s.heap.get? l = some { cls := .type "tuple", dict := dd, data := .seq items n, slots := sl } /\ s.heap.get? b = some { cls := .type "tuple", dict := Kq, data := .seq qL n2, slots := JG } /\
  (∀ p ∈ items.toList.zip qL.toList, wg prog w A.in1 s p.1 p.2) /\ R (.ok (.ret (.bool true))) s) :=
 .of_wp fun A R s h => by
  obtain ⟨hp, g, d, tk, os⟩ := s
  obtain ⟨hl, hb, he, h⟩ := h
  have f2 := AutoSeq1.sub_tuple_tuple
  wp_walk using wpAny_loadPart' hl, wpAny_loadPart' hb, wpAny_forIn_list _ (fun rest b s' => b.1 = none /\ s' = ⟨hp, g, d, tk, os⟩ /\ ∀ p ∈ rest, wg prog w A.in1 ⟨hp, g, d, tk, os⟩ p.1 p.2) _
  case turn =>
   rintro ⟨y, x⟩ rest b s' ⟨lN, rfl, hm⟩
   refine wpAny_bind (hm (y, x) List.mem_cons_self _ _ ?_)
   wp_walk
   exact ⟨rfl, rfl, fun p hp => hm p (List.mem_cons_of_mem _ hp)⟩
  case fin =>
   rintro ⟨b1, b2⟩ s' ⟨lN, rfl, _⟩
   simp only at lN
   subst lN
   wp_walk
   exact ⟨_, rfl, by simpa [Builtin.Tuple.tupleCompareSizes, hsz] using h⟩
  case h => exact ⟨rfl, rfl, he⟩
end
theorem mQ {prog : Program} {w : World} {A : Around} {s : Shared} {l b : Addr} (h : ∀ (E : Value -> Shared -> Prop) (Q : Value -> Shared -> Prop), Q (.bool true) s -> wpAny (model prog w) A (compareOp .Eq (.ref l) (.ref b)) Q E s) : wg prog w A s (.ref l) (.ref b) := fun E Q hq => by
 unfold eqBool
 refine wpAny_holding ?_
 refine wpAny_ite_split (fun _ => ?_) (fun _ => ?_)
 . exact wpAny_bind (wpAny_rule (wpAny_pure hq))
 . exact wpAny_bind (h E _ (wpAny_truthy_bool hq))
theorem mK : ∀ ns : List Int, PyData.canLayAll0 (ns.map PyData.int) = true
 | [] => rfl
 | n :: ns => by rw [List.map_cons, PyData.canLayAll0, mK ns]; rfl
theorem mP : ∀ ns : List Int, PyData.depthAll (ns.map PyData.int) <= 1
 | [] => by simp [PyData.depthAll]
 | _ :: r => by have := mP r; simp only [List.map_cons, PyData.depthAll, PyData.depth]; omega
theorem md : ∀ ns : List Int, PyData.eqvAll (ns.map PyData.int) (ns.map PyData.int) = true
 | [] => rfl
 | n :: ns => by rw [List.map_cons, PyData.eqvAll, md ns]; simp [PyData.eqv]
section
variable {X : Cx}
structure T3 (H : Hp) (t l d : Addr) (p : Int) (ns : List Int) (m : List (Str × PyData)) : Prop where
 tup : H t = some (.tup [.ref l, .int p, .ref d])
 lst : Dv H (.ref l) (.list (ns.map PyData.int))
 dct : eG H d m
def AI : R2 := fun x y H Q => ∃ t t' l l' d d' p ns m, x = .ref t /\ y = .ref t' /\ T3 H t l d p ns m /\ T3 H t' l' d' p ns m /\ rX m /\ (∀ z ∈ m, oq m z.1 = some z.2) /\ Q (.bl true) H
theorem yY (hu : X.A.units + 8 < cLine) : iE X (compareOp .Eq) AI := by
 intro pins s σ H x y v u Q I rx ry h
 obtain ⟨t, t', l, l', d, d', p, ns, m, rfl, rfl, ⟨h1, h2, ka, ea, da⟩, ⟨g1, g2, kb, eb, db⟩, hi, hk, q⟩ := h
 cases rx
 cases ry
 obtain ⟨aD, r1, p1, _⟩ := I.tuple (oj.of (K := X.K) h1)
 obtain ⟨tR, r2, p2, _⟩ := I.tuple (oj.of (K := X.K) g1)
 have e2 : wg X.prog X.w X.A.in1 s (.ref l) (.ref l') := by
  have c : (PyData.list (ns.map PyData.int)).canLay0 = true := by rw [PyData.canLay0]; exact mK ns
  obtain ⟨as, ra⟩ := (h2.has (K := X.K) c).reads I rfl
  obtain ⟨bs, rb⟩ := (g2.has (K := X.K) c).reads I rfl
  refine mQ fun E Q' hq => SeqAt.compareEq_reads ra rb c c ?_ (by rw [PyData.eqv, md]; exact hq)
  have := Nat.min_le_left (PyData.list (ns.map PyData.int)).depth (PyData.list (ns.map PyData.int)).depth
  have := mP ns
  have e : (PyData.list (ns.map PyData.int)).depth <= 2 := by rw [PyData.depth]; omega
  show X.A.units + 1 + _ < cLine
  omega
 have e3 : wg X.prog X.w X.A.in1 s (.ref d) (.ref d') := by
  obtain ⟨_, ha, va, pa, oa⟩ := (show bp X.prog X.w H s.heap d (.dK ka) from I.aK d _ ea)
  obtain ⟨_, lN, vb, pb, ob⟩ := (show bp X.prog X.w H s.heap d' (.dK kb) from I.aK d' _ eb)
  have hl : va.length = vb.length := by rw [<- pa.length, <- pb.length, da.length, db.length]
  refine mQ fun E Q' hq => keq_eq ha lN oa ob (by show X.A.units + 1 < cLine; omega) (fun _ => tI db pb da pa hi hk) ?_
  rw [hl]
  simpa using hq
 cases r1 with
 | cons a1 r1 =>
   cases r1 with
   | cons a2 r1 =>
     cases r1 with
     | cons a3 r1 =>
       cases r1
       cases r2 with
       | cons b1 r2 =>
         cases r2 with
         | cons b2 r2 =>
           cases r2 with
           | cons b3 r2 =>
             cases r2
             cases a1
             cases b1
             cases a3
             cases b3
             obtain ⟨Kk, rfl⟩ := a2
             obtain ⟨D4, rfl⟩ := b2
             obtain ⟨⟨cls, dd, data, sl⟩, ho, hc, n, hd⟩ := id p1
             obtain ⟨⟨MY, Kq, data2, JG⟩, Em, Hn, n2, hd2⟩ := id p2
             simp only at hc hd Hn hd2
             subst hc hd Hn hd2
             refine wpAny_richCompare_same_room (op := .Eq) ⟨_, ho, rfl⟩ ⟨_, Em, rfl⟩ PySem.F.slot_tuple_eq (call_meetsIn PySem.F.slot_tuple_eq ⟨_, ho, rfl⟩ PySem.F.entry_tuple_eq (PySem.F.args_tuple_eq_2 _ _) (qR t t' #[.ref l, .int p Kk, .ref d] #[.ref l', .int p D4, .ref d'] n n2 dd Kq sl JG rfl) ⟨ho, Em, ?_, show Value.bool true ≠ Value.notImplemented /\ (EP X pins σ Q) (.bool true) s from ⟨(fun x => nomatch x), ⟨.bl _, H, I, rfl, q⟩⟩⟩) (by omega)
             intro pp IP
             have Jv : pp = (.ref l, .ref l') \/ pp = (.int p Kk, .int p D4) \/ pp = (.ref d, .ref d') := by simpa using IP
             rcases Jv with rfl | rfl | rfl
             . exact e2
             . intro E Q' hq
               exact SeqAt.EqAt.int_int p Kk p D4 X.prog X.w E Q' (by simpa using hq)
             . exact e3
end
theorem Bo {H : Hp} {Q : VK} {t t' l l' d d' : Addr} {p : Int} {ns : List Int} {m : List (Str × PyData)} (h1 : T3 H t l d p ns m) (h2 : T3 H t' l' d' p ns m) (hi : rX m) (hk : ∀ z ∈ m, oq m z.1 = some z.2) (h : Q (.bl true) H) : AI (.ref t) (.ref t') H Q := ⟨t, t', l, l', d, d', p, ns, m, rfl, rfl, h1, h2, hi, hk, h⟩
end L2
set_option maxHeartbeats 4000000
namespace My
open PySem L2
local macro_rules | `(tactic| walk_at "same") => `(tactic| first
 | exact ah.refl _
 | assumption
 | (refine' ah.trans ?m ?s; (case s => assumption); (case m => walk_at "same")))
local macro_rules | `(tactic| walk_at "at") => `(tactic| first
 | assumption
 | exact aA
 | (refine' ah.at ?s ?m; (case s => assumption); (case m => walk_at "at")))
local macro_rules | `(tactic| walk_at "dat") => `(tactic| first
 | exact Dv.int _
 | exact Dv.bz
 | exact Dv.bl _
 | exact Dv.str _
 | assumption
 | (refine' Dv.keeps ?s ?m; (case s => assumption); (case m => walk_at "dat")))
local macro_rules | `(tactic| walk_at "ins") => `(tactic| first
 | assumption
 | (refine' M7.keeps ?s ?m; (case s => assumption); (case m => walk_at "ins")))
local macro_rules | `(tactic| walk_at "dats") => `(tactic| first
 | exact bb.nil
 | (refine' bb.cons ?m ?s; (case m => walk_at "dat"); (case s => walk_at "dats"))
 | assumption
 | (refine' bb.keeps ?s ?m; (case s => assumption); (case m => walk_at "dats")))
local macro_rules | `(tactic| walk_at "sql") => `(tactic| first
 | assumption
 | (refine' ah.seq ?s ?m; (case s => assumption); (case m => walk_at "sql")))
local macro_rules | `(tactic| walk_at "isq") => `(tactic| first
 | (refine' Or.inl ?m; case m => walk_at "dat")
 | (refine' Or.inr ?m; case m => walk_at "dat"))
set_option hygiene false in
local macro_rules | `(tactic| walk_at "side") => `(tactic| first
 | omega
 | assumption
 | exact (by decide)
 | exact FO (by omega) (by omega)
 | exact Gx ⟨by omega, by omega⟩ ⟨by omega, by omega⟩
 | exact ⟨by decide, by decide, by decide⟩)
set_option hygiene false in
local macro_rules | `(tactic| walk_at "use") => `(tactic| fail)
set_option hygiene false in
local macro_rules | `(tactic| walk_at "lk") => `(tactic| fail)
set_option hygiene false in
local macro_rules | `(tactic| walk_at "put") => `(tactic| fail)
set_option hygiene false in
local macro_rules | `(tactic| walk_at "fin") => `(tactic| fail)
set_option hygiene false in
local macro_rules | `(tactic| walk_at "wds") => `(tactic| first
 | with_reducible refine qj (ws := [_]) rfl ?_
 | with_reducible refine qj (ws := [_, _]) rfl ?_
 | with_reducible refine qj (ws := [_, _, _]) rfl ?_
 | with_reducible refine qj (ws := [_, _, _, _]) rfl ?_
 | with_reducible refine qj (ws := [_, _, _, _, _]) rfl ?_
 | with_reducible refine qj (ws := [_, _, _, _, _, _]) rfl ?_
 | with_reducible refine qj (ws := []) rfl ?_)
set_option hygiene false in
local macro_rules | `(tactic| walk_at "mks") => `(tactic| first
 | fail)
local macro_rules | `(tactic| walk_at "br") => `(tactic| ((with_reducible refine Ey (fun hb => ?_) (fun hb => ?_)) <;> (try simp only [id, decide_eq_true_eq, decide_eq_false_iff_not, Bool.not_eq_true', Bool.not_eq_false', Bool.not_true, Bool.not_false, V.int.injEq, Bool.true_eq_false, Bool.false_eq_true, reduceCtorEq, decide_true, decide_false, not_true, not_false_iff, PyData.eqv, PyData.eqvAll, Bool.and_eq_true, Bool.and_eq_false_iff, Bool.or_eq_true, Bool.or_eq_false_iff, beq_iff_eq, beq_eq_false_iff_ne, ne_eq, bne_iff_ne, Bool.and_true, Bool.and_false, Bool.and_self, beq_self_eq_true, isInt, isBool, isStr, AK, isTup, zT, List.length_cons, List.length_nil] at hb) <;> (try (exfalso; omega)) <;> (try (exfalso; (refine' JN hb ?d); (case d => walk_at "dat")))))
local macro_rules | `(tactic| walk_at "rd1") => `(tactic| first
 | with_reducible refine Ca ?_
 | with_reducible refine Fe ?_
 | with_reducible refine FG ?_
 | with_reducible refine Dh ?_
 | with_reducible refine Et ?_
 | ((with_reducible refine' An ?e ?_); case e => exact rfl)
 | with_reducible refine M6 ?_
 | with_reducible refine HX ?_
 | with_reducible refine HP ?_
 | ((with_reducible refine' CJ ?e1 ?e2 ?_); (case e1 => exact ⟨by decide, by decide, by decide⟩); (case e2 => ((conv => lhs; simp only [Int.reduceToNat]) <;> exact rfl)))
 | ((with_reducible refine' OW ?e ?_); case e => walk_at "side")
 | with_reducible refine BK ?_
 | with_reducible refine EL ?_
 | with_reducible refine zI ?_
 | with_reducible refine Io ?_
 | with_reducible refine BJ ?_
 | with_reducible refine Gi ?_
 | with_reducible refine Kp ?_
 | with_reducible refine EH ?_
 | with_reducible refine BV ?_
 | with_reducible refine Ff ?_
 | with_reducible refine B2 ?_
 | with_reducible refine HL ?_
 | with_reducible refine CB ?_
 | with_reducible refine wc ?_
 | with_reducible refine tP ?_
 | walk_at "br"
 | with_reducible refine A5 ?_
 | ((with_reducible refine' Eo ?e ?_); case e => exact rfl)
 | ((with_reducible refine' sA ?e1 ?e2 ?e3 ?e4 ?e5 ?_); (case e1 => walk_at "dat"); (case e2 => walk_at "dat"); (case e3 => first | rfl | assumption); (case e4 => first | rfl | assumption); (case e5 => first | exact Nat.le_of_ble_eq_true rfl | assumption))
 | ((with_reducible refine' rH ?e1 ?e2 ?_); (case e1 => walk_at "isq"); (case e2 => exact rfl))
 | ((with_reducible refine' wR ?e ?_); case e => walk_at "isq")
 | ((with_reducible refine' Bg ?e ?_); case e => walk_at "sql")
 | with_reducible refine DE (fun _ _ _ _ => ?_)
 | ((with_reducible refine' BH ?e (fun _ _ => ?_)); case e => walk_at "side")
 | with_reducible refine Jd ?_
 | ((with_reducible refine' tB ?e ?_); case e => walk_at "dat")
 | ((with_reducible refine' qV ?e ?_); case e => walk_at "dat")
 | ((with_reducible refine' tH ?e ?_); case e => walk_at "dat")
 | ((with_reducible refine' sW ?e ?_); case e => walk_at "dat")
 | ((with_reducible refine' tG ?e ?_); case e => walk_at "dat")
 | with_reducible refine nA ?_
 | with_reducible refine yu ?_
 | with_reducible refine Du ?_
 | ((with_reducible refine' By ?e1 ?e2 (fun _ _ _ _ => ?_)); (case e1 => exact gu rfl); (case e2 => walk_at "dats"))
 | with_reducible refine C6 ?_
 | ((with_reducible refine' wD ?e1 ?e2 (fun _ _ _ _ _ _ _ => ?_)); (case e1 => exact gu rfl); (case e2 => walk_at "dats"))
 | with_reducible refine Ba ?_
 | with_reducible refine E7 ?_
 | with_reducible refine yg ?_
 | ((with_reducible refine' Cz ?e1 ?e2 ?_); (case e1 => omega); (case e2 => omega))
 | walk_at "wds"
 | walk_at "mks"
 | walk_at "use"
 | walk_at "fin")
local macro_rules | `(tactic| walk_at "lat") => `(tactic| first
 | assumption
 | (refine' bG.keeps ?s ?m; (case s => assumption); (case m => walk_at "lat"))
 | (refine' bG.mv ?s ?n ?m; (case s => assumption); (case n => walk_at "nin"); (case m => walk_at "lat"))
 | fail)
local macro_rules | `(tactic| walk_at "nin") => `(tactic| first
 | (refine' vM ?n1; (case n1 => walk_at "ne"))
 | fail)
local macro_rules | `(tactic| walk_at "ne") => `(tactic| first
 | assumption
 | (refine Ne.symm ?_; assumption)
 | (refine' bG.ne ?h ?n; (case n => assumption); (case h => walk_at "lat"))
 | (refine' Ne.symm (bG.ne ?h ?n); (case n => assumption); (case h => walk_at "lat"))
 | fail)
local macro_rules | `(tactic| walk_at "dla") => `(tactic| first
 | assumption
 | (refine' eG.keeps ?s ?m; (case s => assumption); (case m => walk_at "dla"))
 | (refine' eG.mv ?s ?n ?m; (case s => assumption); (case n => walk_at "nin"); (case m => walk_at "dla"))
 | fail)
local macro_rules | `(tactic| walk_at "ne") => `(tactic| first
 | (refine' eG.ne ?h ?n; (case n => assumption); (case h => walk_at "dla"))
 | (refine' Ne.symm (eG.ne ?h ?n); (case n => assumption); (case h => walk_at "dla"))
 | fail)
local macro_rules | `(tactic| walk_at "imm") => `(tactic| first
 | rfl
 | assumption
 | exact bN (fun _ => rfl) _
 | (refine' bG.se ?h; (case h => assumption))
 | fail)
local macro_rules | `(tactic| walk_at "dm") => `(tactic| first
 | exact fun _ h => h
 | (refine' uZ ?a ?b; (case b => first | (refine' ah.NY ?c; (case c => assumption)) | (refine' Mv.dm ?c; (case c => assumption)) | fail); (case a => walk_at "dm"))
 | fail)
local macro_rules | `(tactic| walk_at "none") => `(tactic| first
 | assumption
 | (refine' Ci ?s ?m; (case m => assumption); (case s => walk_at "dm"))
 | fail)
local macro_rules | `(tactic| walk_at "same") => `(tactic| first
 | (refine' Mv.Fi ?s ?m ?n; (case m => assumption); (case s => walk_at "same"); (case n => walk_at "none"))
 | fail)
local macro_rules | `(tactic| walk_at "mv") => `(tactic| first
 | exact Mv.refl
 | assumption
 | (refine' Mv.vy ?m ?s; (case s => assumption); (case m => walk_at "mv"))
 | (refine' Mv.step ?m ?s ?h; (case s => assumption); (case m => walk_at "mv"); (case h => walk_at "ours"))
 | fail)
local macro_rules | `(tactic| walk_at "ours") => `(tactic| first
 | (refine' Aa (Or.inr ?h); (case h => walk_at "none"))
 | exact Aa (Or.inl (by simp))
 | fail)
local macro_rules | `(tactic| walk_at "dat") => `(tactic| first
 | (refine' bG.dv ?m; (case m => walk_at "lat"))
 | fail)
local macro_rules | `(tactic| walk_at "dats") => `(tactic| first
 | (refine' Mv.zo ?s ?i ?m; (case s => assumption); (case i => walk_at "imm"); (case m => walk_at "dats"))
 | fail)
set_option hygiene false in
local macro_rules | `(tactic| walk_at "len") => `(tactic| first
 | (simp only [List.length_map, List.length_append, List.length_cons, List.length_nil]; omega)
 | omega
 | fail)
local macro_rules | `(tactic| walk_at "rd1") => `(tactic| first
 | ((with_reducible refine' yb ?e ?_); case e => walk_at "len")
 | with_reducible refine zq ?_
 | with_reducible refine CF (fun _ _ _ _ _ => ?_)
 | with_reducible refine y7 ?_
 | with_reducible refine y4 ?_
 | ((with_reducible refine' DW ?e1 ?e2 ?e3 ?e4 (fun _ _ _ => ?_)); (case e1 => walk_at "dla"); (case e3 => walk_at "dat"); (case e2 => walk_at "len"); (case e4 => walk_at "imm"))
 | ((with_reducible refine' DA ?e1 ?e2 ?_); (case e1 => walk_at "dla"); (case e2 => assumption))
 | ((with_reducible refine' zN ?e1 ?e2 ?_); (case e1 => walk_at "dat"); (case e2 => walk_at "dat"))
 | with_reducible refine zg ?_
 | with_reducible refine IK ?_
 | ((with_reducible refine' GO ?e ?_); case e => walk_at "lat")
 | ((with_reducible refine' GR ?e1 ?e2 ?e3 ?e4 (fun _ _ _ => ?_)); (case e1 => walk_at "lat"); (case e3 => walk_at "dat"); (case e2 => walk_at "len"); (case e4 => walk_at "imm"))
 | ((with_reducible refine' DI ?e1 ?e2 ?e3 (fun _ _ _ _ _ => ?_)); (case e1 => exact gu rfl); (case e2 => walk_at "dats"); (case e3 => exact rfl))
 | with_reducible refine vz ?_
 | with_reducible refine Jh ?_
 | with_reducible refine Dw ?_
 | with_reducible refine wO ?_
 | with_reducible refine xX ?_
 | with_reducible refine EA ?_
 | ((with_reducible refine' vh ?e1 ?e2 (fun _ _ _ _ _ => ?_)); (case e1 => walk_at "dat"); (case e2 => walk_at "imm"))
 | ((with_reducible refine' C3 ?e ?_); case e => walk_at "len")
 | ((with_reducible refine' DY ?e ?_); case e => walk_at "dat")
 | ((with_reducible refine' rH ?e1 ?e2 ?_); (case e1 => walk_at "isq"); (case e2 => first | exact D5 | (refine' xn ?a ?b; (case a => omega); (case b => walk_at "len")) | fail))
 | fail)
local macro_rules | `(tactic| walk_at "rd1") => `(tactic| first
 | ((with_reducible refine' B6 _ ?e1 (fun _ _ _ _ _ => ?_)); (case e1 => walk_at "lat"))
 | ((with_reducible refine' uQ ?e1 ?e2 ?e3 (fun _ _ _ _ _ => ?_)); (case e1 => walk_at "lat"); (case e2 => walk_at "lat"); (case e3 => walk_at "len"))
 | fail)
local macro_rules | `(tactic| walk_at "rd1") => `(tactic| first
 | ((with_reducible refine' B1 ?e1 ?_); (case e1 => walk_at "dat"))
 | ((with_reducible refine' yM ?e1 ?e2 (fun _ _ _ _ _ _ _ _ => ?_)); (case e1 => walk_at "dat"); (case e2 => walk_at "len"))
 | fail)
set_option hygiene false in
local macro_rules | `(tactic| walk_at "rd1") => `(tactic| first
 | fail)
set_option hygiene false in
local macro_rules | `(tactic| walk_at "rd1") => `(tactic| first
 | fail)
set_option hygiene false in
local macro_rules | `(tactic| walk_at "rd1") => `(tactic| first
 | with_reducible refine Ct ?_
 | with_reducible refine yz ?_
 | fail)
set_option hygiene false in
local macro_rules | `(tactic| walk_at "rd1") => `(tactic| first
 | fail)
set_option hygiene false in
local macro_rules | `(tactic| walk_at "rd1") => `(tactic| first
 | fail)
set_option hygiene false in
local macro_rules | `(tactic| walk_at "rd1") => `(tactic| first
 | with_reducible refine Cu ?_
 | with_reducible refine Dl ?_
 | fail)
set_option hygiene false in
local macro_rules | `(tactic| walk_at "rd1") => `(tactic| first
 | fail)
def top (i : Nat) : Stmt := PySem.Challenge.pw_wakefew_k47_whole_thin_shown.main.body.getD i (.Pass ⟨0, 0, 0, 0⟩)
set_option hygiene false in
local macro_rules | `(tactic| walk_at "scp") => `(tactic| exact ⟨rfl, rfl, rfl, by decide +kernel, rfl, by decide +kernel, by decide +kernel⟩)
abbrev js : Stmt := top 1
theorem p7 : aR ["claim"] ["claim"] (aq js) := by walk_at "scp"
abbrev bY : Stmt := top 3
theorem aG : aR ["price", "claims", "points", "loads", "shares", "name", "first", "last", "weight", "held", "place"] ["price", "claims"] (aq bY) := by walk_at "scp"
abbrev qS : Stmt := top 5
theorem rV : aR ["claims", "most", "price"] ["claims", "most"] (aq qS) := by walk_at "scp"
abbrev gK : Stmt := top 6
theorem nE : aR ["claims", "price"] ["claims", "price"] (aq gK) := by walk_at "scp"
abbrev fb : Stmt := top 7
theorem cz : aR ["claims", "most", "low", "high", "middle"] ["claims", "most"] (aq fb) := by walk_at "scp"
abbrev dt : Stmt := top 8
theorem lP : aR ["claims", "ahead", "waking"] ["claims", "ahead", "waking"] (aq dt) := by walk_at "scp"
abbrev ft : Stmt := top 9
theorem dY : aR ["claims", "points", "gains", "place", "waking"] ["claims", "points"] (aq ft) := by walk_at "scp"
abbrev gM : Stmt := top 10
theorem cE : aR ["chains", "gains", "waking", "best", "chain", "gain"] ["chains", "gains", "waking"] (aq gM) := by walk_at "scp"
abbrev cJ : Stmt := top 11
theorem ay : aR ["claims", "most", "points", "gains", "best", "chains", "turn", "longer", "place", "waking", "weight", "wakings"] ["claims", "most"] (aq cJ) := by walk_at "scp"
abbrev dG : Stmt := top 13
theorem j7 : aR ["_law_script", "_law_k"] ["_law_script", "_law_k"] (aq dG) := by walk_at "scp"
abbrev fm : Stmt := top 14
theorem lR : aR ["_law_found"] ["_law_found"] (aq fm) := by walk_at "scp"
abbrev fq : Stmt := top 15
theorem et : aR ["_law_number"] ["_law_number"] (aq fq) := by walk_at "scp"
abbrev iC : Stmt := top 16
theorem jE : aR ["_law_cell", "_law_number"] ["_law_cell"] (aq iC) := by walk_at "scp"
abbrev fU : Stmt := top 17
theorem bP : aR ["_law_cell", "_law_k", "_law_many", "_law_some", "_law_sign", "_law_rest", "_law_place", "_law_tail"] ["_law_cell", "_law_k", "_law_many"] (aq fU) := by walk_at "scp"
abbrev fj : Stmt := top 18
theorem cY : aR ["_law_script", "_law_many", "_law_found", "_law_number"] ["_law_script", "_law_many"] (aq fj) := by walk_at "scp"
abbrev eF : Stmt := top 19
theorem az : aR ["_law_script", "_law_many", "_law_heavy", "_law_shape", "_law_unlike", "_law_cells_here", "_law_way", "_law_found", "_law_k", "_law_cell", "_law_other", "_law_first", "_law_last"] ["_law_script", "_law_many", "_law_heavy"] (aq eF) := by walk_at "scp"
abbrev fZ : Stmt := top 20
theorem nX : aR ["_law_cell"] ["_law_cell"] (aq fZ) := by walk_at "scp"
abbrev dD : Stmt := top 21
theorem fN : aR ["_law_found", "_law_most_here", "_law_k"] ["_law_found", "_law_most_here"] (aq dD) := by walk_at "scp"
abbrev cm : Stmt := top 22
theorem gO : aR ["_law_shares", "_law_claims_here", "_law_price", "_law_one", "_law_time"] ["_law_shares", "_law_claims_here", "_law_price"] (aq cm) := by walk_at "scp"
abbrev ck : Stmt := top 23
theorem ax : aR ["_law_found", "_law_claims_here", "_law_most_here", "_law_wakings_here", "_law_price", "_law_shares", "_law_weight", "_law_bound", "_law_name_here", "_law_first", "_law_last", "_law_heavy"] ["_law_found", "_law_claims_here", "_law_most_here"] (aq ck) := by walk_at "scp"
abbrev vd : Stmt := top 24
theorem d8 : aR ["_law_script", "_law_many", "_law_heavy", "_law_claims_here", "_law_most_here", "_law_handed", "_law_found", "_law_before"] ["_law_script"] (aq vd) := by walk_at "scp"
structure eh (K : PySem.W.Frag) (x q : Str) (s : Stmt) (d : Value) (f : Addr) : Prop where
 a : PySem.W.nsIn K mainGlobals x = some (some (.ref f))
 l : ∃ fd, cL K x q s f d fd
 k : PySem.W.keepIn K (.ref f) = true
structure N4 (K : PySem.W.Frag) (C : Addr) (x q : Str) (s : Stmt) (d : Value) (f : Addr) : Prop where
 a : PySem.W.findIn K (.ref C) x = some (some (.ref f))
 l : ∃ fd, cL K x q s f d fd
 k : PySem.W.keepIn K (.ref f) = true
 i : PySem.W.isFn K (.ref f) = true
structure Nr (K : PySem.W.Frag) (C : Addr) : Prop where
 pg : PySem.W.plainGet K C Str.empty = true
 hd : PySem.W.hasDictIn K C = true
 po : PySem.W.plainOver K C = true
 sa : PySem.W.findIn K (.ref C) "__setattr__" = some (some (.builtin "object.__setattr__"))
 t1 : PySem.W.findIn K (.ref C) "__class__" = some (some (.builtin "object.__class__"))
 t2 : PySem.W.mroIn K C (.type "object") = some true
 t3 : PySem.W.typeIn K (.ref C) = some (.type "type")
set_option genSizeOf false in
set_option genInjectivity false in
structure Ad where
 cR : Addr
 lj : FuncData
 bL : Addr
 iF : FuncData
 gE : Addr
 sd : FuncData
 bI : Addr
 i9 : FuncData
 bV : Addr
 jD : FuncData
 bE : Addr
 ie : FuncData
 bX : Addr
 jW : FuncData
 bJ : Addr
 ja : FuncData
 a0 : Addr
 fJ : FuncData
 a7 : Addr
 fK : FuncData
 bD : Addr
 ic : FuncData
 bB : Addr
 hX : FuncData
 bS : Addr
 jI : FuncData
 bK : Addr
 iI : FuncData
 bC : Addr
 ig : FuncData
 bq : Addr
 gD : FuncData
 bH : Addr
 iO : FuncData
 aZ : Addr
 fL : FuncData
 bW : Addr
 jK : FuncData
 aX : Addr
 eJ : FuncData
 g7 : Addr
 nF : FuncData
structure Txt (K : PySem.W.Frag) (mg : Str -> Option Value) (a : Ad) : Prop where
 jy : cL K "by_last" "by_last" js a.cR (.none) a.lj
 k6 : mg "by_last" = some (.ref a.cR)
 gb : cL K "shares_at" "shares_at" bY a.bL (.none) a.iF
 fz : PySem.W.keepIn K (.ref a.bL) = true
 fD : mg "shares_at" = some (.ref a.bL)
 qg : cL K "thin" "thin" qS a.gE (.none) a.sd
 nW : PySem.W.keepIn K (.ref a.gE) = true
 nN : mg "thin" = some (.ref a.gE)
 gA : cL K "share_sum" "share_sum" gK a.bI (.none) a.i9
 fh : PySem.W.keepIn K (.ref a.bI) = true
 fw : mg "share_sum" = some (.ref a.bI)
 il : cL K "price_of" "price_of" fb a.bV (.none) a.jD
 jQ : PySem.W.keepIn K (.ref a.bV) = true
 jO : mg "price_of" = some (.ref a.bV)
 eX : cL K "new_weight" "new_weight" dt a.bE (.none) a.ie
 hJ : PySem.W.keepIn K (.ref a.bE) = true
 gZ : mg "new_weight" = some (.ref a.bE)
 iA : cL K "gains_of" "gains_of" ft a.bX (.none) a.jW
 jP : PySem.W.keepIn K (.ref a.bX) = true
 jJ : mg "gains_of" = some (.ref a.bX)
 gG : cL K "best_last" "best_last" gM a.bJ (.none) a.ja
 iU : PySem.W.keepIn K (.ref a.bJ) = true
 iH : mg "best_last" = some (.ref a.bJ)
 dP : cL K "best_wakings" "best_wakings" cJ a.a0 (.none) a.fJ
 fP : PySem.W.keepIn K (.ref a.a0) = true
 fF : mg "best_wakings" = some (.ref a.a0)
 dF : cL K "_law_cell_at" "_law_cell_at" dG a.a7 (.none) a.fK
 aV : PySem.W.keepIn K (.ref a.a7) = true
 aW : mg "_law_cell_at" = some (.ref a.a7)
 fA : cL K "_law_whole" "_law_whole" fm a.bD (.none) a.ic
 cX : PySem.W.keepIn K (.ref a.bD) = true
 cS : mg "_law_whole" = some (.ref a.bD)
 e8 : cL K "_law_mixed" "_law_mixed" fq a.bB (.none) a.hX
 cW : PySem.W.keepIn K (.ref a.bB) = true
 cZ : mg "_law_mixed" = some (.ref a.bB)
 iy : cL K "_law_own" "_law_own" iC a.bS (.none) a.jI
 jN : PySem.W.keepIn K (.ref a.bS) = true
 jV : mg "_law_own" = some (.ref a.bS)
 fX : cL K "_law_name" "_law_name" fU a.bK (.none) a.iI
 i6 : PySem.W.keepIn K (.ref a.bK) = true
 iR : mg "_law_name" = some (.ref a.bK)
 fg : cL K "_law_cells" "_law_cells" fj a.bC (.none) a.ig
 hZ : PySem.W.keepIn K (.ref a.bC) = true
 ia : mg "_law_cells" = some (.ref a.bC)
 eD : cL K "_law_claims" "_law_claims" eF a.bq (.none) a.gD
 fY : PySem.W.keepIn K (.ref a.bq) = true
 gC : mg "_law_claims" = some (.ref a.bq)
 gf : cL K "_law_most" "_law_most" fZ a.bH (.none) a.iO
 iG : PySem.W.keepIn K (.ref a.bH) = true
 iQ : mg "_law_most" = some (.ref a.bH)
 dM : cL K "_law_wakings" "_law_wakings" dD a.aZ (.none) a.fL
 fO : PySem.W.keepIn K (.ref a.aZ) = true
 fM : mg "_law_wakings" = some (.ref a.aZ)
 iD : cL K "_law_fit" "_law_fit" cm a.bW (.none) a.jK
 jM : PySem.W.keepIn K (.ref a.bW) = true
 jR : mg "_law_fit" = some (.ref a.bW)
 c7 : cL K "_law_comes_to" "_law_comes_to" ck a.aX (.none) a.eJ
 eS : PySem.W.keepIn K (.ref a.aX) = true
 eQ : mg "_law_comes_to" = some (.ref a.aX)
 uF : cL K "law" "law" vd a.g7 (.none) a.nF
 vF : mg "law" = some (.ref a.g7)
 kl : mg "bool" = none
 no_dict : mg "dict" = none
 b5 : mg "enumerate" = none
 nP : mg "int" = none
 bw : mg "isinstance" = none
 dE : mg "len" = none
 gS : mg "list" = none
 nM : mg "max" = none
 kA : mg "min" = none
 eP : mg "range" = none
 kJ : mg "set" = none
 cn : mg "sorted" = none
 ik : mg "sum" = none
 iX : mg "tuple" = none
 m9 : mg "zip" = none
theorem DS {K : PySem.W.Frag} {h : Heap} {mg : Str -> Option Value} {cR bL gE bI bV bE bX bJ a0 a7 bD bB bS bK bC bq bH aZ bW aX g7 : Addr}  (X : K.In h) (G : h.Ns mainGlobals mg)
 (jo : eh K "by_last" "by_last" js (.none) cR)
 (d0 : eh K "shares_at" "shares_at" bY (.none) bL)
 (nQ : eh K "thin" "thin" qS (.none) gE)
 (dW : eh K "share_sum" "share_sum" gK (.none) bI)
 (eZ : eh K "price_of" "price_of" fb (.none) bV)
 (dh : eh K "new_weight" "new_weight" dt (.none) bE)
 (fv : eh K "gains_of" "gains_of" ft (.none) bX)
 (dZ : eh K "best_last" "best_last" gM (.none) bJ)
 (cK : eh K "best_wakings" "best_wakings" cJ (.none) a0)
 (cG : eh K "_law_cell_at" "_law_cell_at" dG (.none) a7)
 (dz : eh K "_law_whole" "_law_whole" fm (.none) bD)
 (dj : eh K "_law_mixed" "_law_mixed" fq (.none) bB)
 (e7 : eh K "_law_own" "_law_own" iC (.none) bS)
 (dX : eh K "_law_name" "_law_name" fU (.none) bK)
 (dw : eh K "_law_cells" "_law_cells" fj (.none) bC)
 (cU : eh K "_law_claims" "_law_claims" eF (.none) bq)
 (d5 : eh K "_law_most" "_law_most" fZ (.none) bH)
 (cI : eh K "_law_wakings" "_law_wakings" dD (.none) aZ)
 (eT : eh K "_law_fit" "_law_fit" cm (.none) bW)
 (cj : eh K "_law_comes_to" "_law_comes_to" ck (.none) aX)
 (uN : eh K "law" "law" vd (.none) g7)
 (kl : PySem.W.nsIn K mainGlobals "bool" = some none)
 (no_dict : PySem.W.nsIn K mainGlobals "dict" = some none)
 (b5 : PySem.W.nsIn K mainGlobals "enumerate" = some none)
 (nP : PySem.W.nsIn K mainGlobals "int" = some none)
 (bw : PySem.W.nsIn K mainGlobals "isinstance" = some none)
 (dE : PySem.W.nsIn K mainGlobals "len" = some none)
 (gS : PySem.W.nsIn K mainGlobals "list" = some none)
 (nM : PySem.W.nsIn K mainGlobals "max" = some none)
 (kA : PySem.W.nsIn K mainGlobals "min" = some none)
 (eP : PySem.W.nsIn K mainGlobals "range" = some none)
 (kJ : PySem.W.nsIn K mainGlobals "set" = some none)
 (cn : PySem.W.nsIn K mainGlobals "sorted" = some none)
 (ik : PySem.W.nsIn K mainGlobals "sum" = some none)
 (iX : PySem.W.nsIn K mainGlobals "tuple" = some none)
 (m9 : PySem.W.nsIn K mainGlobals "zip" = some none)
 : ∃ a : Ad, a.g7 = a.g7 /\ Txt K mg a :=
 ⟨⟨cR, jo.l.choose, bL, d0.l.choose, gE, nQ.l.choose, bI, dW.l.choose, bV, eZ.l.choose, bE, dh.l.choose, bX, fv.l.choose, bJ, dZ.l.choose, a0, cK.l.choose, a7, cG.l.choose, bD, dz.l.choose, bB, dj.l.choose, bS, e7.l.choose, bK, dX.l.choose, bC, dw.l.choose, bq, cU.l.choose, bH, d5.l.choose, aZ, cI.l.choose, bW, eT.l.choose, aX, cj.l.choose, g7, uN.l.choose⟩, rfl, {
   jy := jo.l.choose_spec,
   k6 := PySem.W.mg_of X G jo.a,
   gb := d0.l.choose_spec,
   fz := d0.k,
   fD := PySem.W.mg_of X G d0.a,
   qg := nQ.l.choose_spec,
   nW := nQ.k,
   nN := PySem.W.mg_of X G nQ.a,
   gA := dW.l.choose_spec,
   fh := dW.k,
   fw := PySem.W.mg_of X G dW.a,
   il := eZ.l.choose_spec,
   jQ := eZ.k,
   jO := PySem.W.mg_of X G eZ.a,
   eX := dh.l.choose_spec,
   hJ := dh.k,
   gZ := PySem.W.mg_of X G dh.a,
   iA := fv.l.choose_spec,
   jP := fv.k,
   jJ := PySem.W.mg_of X G fv.a,
   gG := dZ.l.choose_spec,
   iU := dZ.k,
   iH := PySem.W.mg_of X G dZ.a,
   dP := cK.l.choose_spec,
   fP := cK.k,
   fF := PySem.W.mg_of X G cK.a,
   dF := cG.l.choose_spec,
   aV := cG.k,
   aW := PySem.W.mg_of X G cG.a,
   fA := dz.l.choose_spec,
   cX := dz.k,
   cS := PySem.W.mg_of X G dz.a,
   e8 := dj.l.choose_spec,
   cW := dj.k,
   cZ := PySem.W.mg_of X G dj.a,
   iy := e7.l.choose_spec,
   jN := e7.k,
   jV := PySem.W.mg_of X G e7.a,
   fX := dX.l.choose_spec,
   i6 := dX.k,
   iR := PySem.W.mg_of X G dX.a,
   fg := dw.l.choose_spec,
   hZ := dw.k,
   ia := PySem.W.mg_of X G dw.a,
   eD := cU.l.choose_spec,
   fY := cU.k,
   gC := PySem.W.mg_of X G cU.a,
   gf := d5.l.choose_spec,
   iG := d5.k,
   iQ := PySem.W.mg_of X G d5.a,
   dM := cI.l.choose_spec,
   fO := cI.k,
   fM := PySem.W.mg_of X G cI.a,
   iD := eT.l.choose_spec,
   jM := eT.k,
   jR := PySem.W.mg_of X G eT.a,
   c7 := cj.l.choose_spec,
   eS := cj.k,
   eQ := PySem.W.mg_of X G cj.a,
   uF := uN.l.choose_spec,
   vF := PySem.W.mg_of X G uN.a,
   kl := PySem.W.mg_none_of X G kl,
   no_dict := PySem.W.mg_none_of X G no_dict,
   b5 := PySem.W.mg_none_of X G b5,
   nP := PySem.W.mg_none_of X G nP,
   bw := PySem.W.mg_none_of X G bw,
   dE := PySem.W.mg_none_of X G dE,
   gS := PySem.W.mg_none_of X G gS,
   nM := PySem.W.mg_none_of X G nM,
   kA := PySem.W.mg_none_of X G kA,
   eP := PySem.W.mg_none_of X G eP,
   kJ := PySem.W.mg_none_of X G kJ,
   cn := PySem.W.mg_none_of X G cn,
   ik := PySem.W.mg_none_of X G ik,
   iX := PySem.W.mg_none_of X G iX,
   m9 := PySem.W.mg_none_of X G m9
 }⟩
def wz (K : PySem.W.Frag) : Sp := fun vs H Q _ => ∃ (l : Addr) (ns : List Int), vs = [.ref l] /\ bF K H l (ns.map V.int) /\ ns.length <= 63 /\ ∀ H', Q (.bl true) H'
section
variable {P : Program} {w : World} {K : PySem.W.Frag} {mg : Str -> Option Value} {base : Heap} {a : Ad}
def LQ : PyData -> Bool
 | .int _ => true
 | _ => false
theorem F8 {H : Hp} {Q : VK} {v : V} {ds : List PyData} {i : Int} (hp : Dv H v (.list ds)) (De : ds.all LQ = true) (h0 : 0 <= i) (h1 : i < ds.length) (h : ∀ n, PyData.int n ∈ ds -> Q (.int n) H) : lL K v (.int i) H Q := by
 obtain ⟨m, rfl⟩ := Int.eq_ofNat_of_zero_le h0
 have hi : m < ds.length := by omega
 have hm : ds[m] ∈ ds := List.getElem_mem hi
 have hb : LQ ds[m] = true := List.all_eq_true.mp De _ hm
 obtain ⟨n, hn⟩ : ∃ n, ds[m] = .int n := by
  cases e : ds[m] with
  | int n => exact ⟨n, rfl⟩
  | _ => rw [e] at hb; cases hb
 have e : nr ds (m : Int) = some (.int n) := gY (by rw [List.getElem?_eq_getElem hi, hn])
 exact rH (.inr hp) e (nA (h n (hn ▸ hm)))
local macro_rules | `(tactic| walk_at "rd1") => `(tactic| first
 | ((with_reducible refine' F8 ?e1 ?e2 ?e3 ?e4 (fun n hn => ?q)); (case e1 => walk_at "dat"); (case e2 => exact rfl); (case e3 => omega); (case e4 => (simp only [List.length_cons, List.length_nil]; omega)); (case' q => simp only [List.mem_cons, List.not_mem_nil, or_false, PyData.int.injEq] at hn))
 | fail)
def kx : Sp := fun vs H Q _ => ∃ n, vs = [.int n] /\ ∀ r, 0 <= r -> r < 2147483647 -> Q (.int r) H
theorem nC {H : Hp} {Q : VK} {E : XK} {n : Int} (q : ∀ r, 0 <= r -> r < 2147483647 -> Q (.int r) H) : kx [.int n] H Q E := ⟨n, rfl, q⟩
theorem wZ (T : Txt K mg a) : bQ P w K mg base iV 1 a.bB a.hX ["_law_number"] kx := by
 refine T.e8.ok et (fun vs H Q E h => ?_) (fun df A outer s H vs Q E hr h => ?_)
 . obtain ⟨_, rfl, _⟩ := h; rfl
 . obtain ⟨n, rfl, q⟩ := h
   refine ⟨_, (ag (av (i := 0) et.nd rfl (Or.inl rfl) (aj aB (aj cg (aj bh (aj aB (pv 0) af) af) af) af))
    (ag (av (i := 0) et.nd rfl (Or.inl rfl) (aj aB (aj cg (pv 0) (aj bh (aj aF (pv 0) af) af)) af))
    (ak (aI (aj aB (aj cg (aj bh (pv 0) af) (aj bh (aj aF (pv 0) af) af)) af))))), ?_⟩
   repeat' (walk_at "rd1")
   exact q _ (by assumption) (by omega)
theorem mS (T : Txt K mg a) : lg P w K mg base 1 a.bB ["_law_number"] [] kx :=
 ⟨⟨_, _, wZ T, T.e8.binds fun _ _ _ _ _ _ => .all fun us hl => match us, hl with | [_], _ => rfl, .nil⟩⟩
def qW : Sp := fun vs H Q _ => ∃ n, vs = [.int n] /\ ∀ r, Q (.int r) H
theorem EE {H : Hp} {Q : VK} {E : XK} {n : Int} (q : ∀ r, Q (.int r) H) : qW [.int n] H Q E := ⟨n, rfl, q⟩
theorem DU (T : Txt K mg a) : bQ P w K mg base iV 2 a.bS a.jI ["_law_cell"] qW := by
 have de := mS (P := P) (w := w) (base := base) T
 refine T.iy.ok jE (fun vs H Q E h => ?_) (fun df A outer s H vs Q E hr h => ?_)
 . obtain ⟨_, rfl, _⟩ := h; rfl
 . obtain ⟨n, rfl, q⟩ := h
   refine ⟨_, (ag (bZ (aN (km hr.xD) (aj aB (pv 0) af) af (aS _))
    (ak (aI (aj aF (pv 0) af)))
    bo)
    (ag (av (i := 1) jE.nd rfl (Or.inl rfl) (aC de (hr.mono (by decide)) rfl T.cZ T.cW (ae (aj aF (pv 0) af) ai)))
    (ak (aI (aj bh (pv 1) (aj cg af (aC de (hr.mono (by decide)) rfl T.cZ T.cW (ae (aj bh (pv 1) af) ai)))))))), ?_⟩
   repeat' (walk_at "rd1")
   . exact q _
   . refine nC (fun r1 h1 h2 => ?_)
     repeat' (walk_at "rd1")
     refine nC (fun r2 h3 h4 => ?_)
     repeat' (walk_at "rd1")
     exact q _
theorem zP (T : Txt K mg a) : lg P w K mg base 2 a.bS ["_law_cell"] [] qW :=
 ⟨⟨_, _, DU T, T.iy.binds fun _ _ _ _ _ _ => .all fun us hl => match us, hl with | [_], _ => rfl, .nil⟩⟩
def ou (s : Str) : Prop := ∀ c ∈ s.cps.toList, c < 1114112
theorem ou.sub {s t : Str} (h : ou t) (k : ∀ c ∈ s.cps.toList, c ∈ t.cps.toList) : ou s := fun c hc => h c (k c hc)
theorem ou.app {s t : Str} (h : ou s) (k : ou t) : ou (s ++ t) := by
 intro c hc
 have : c ∈ (s.cps ++ t.cps).toList := hc
 rw [Array.toList_append] at this
 rcases List.mem_append.mp this with z | z
 . exact h c z
 . exact k c z
theorem ou.one {c : Nat} {t : Str} (h : ou t) (k : c ∈ t.cps.toList) : ou ⟨#[c]⟩ := by
 intro x hx
 have : x = c := by simpa using hx
 subst this; exact h x k
theorem ou.abc : ou "abcdefghijklmnopqrstuvwxyz" := by
 have h : ((Str.ofString "abcdefghijklmnopqrstuvwxyz").cps.toList.all fun c => decide (c < 1114112)) = true := by decide +kernel
 intro c hc
 exact of_decide_eq_true (List.all_eq_true.mp h c hc)
theorem i5 : (Str.ofString "abcdefghijklmnopqrstuvwxyz").length = 26 := by decide +kernel
theorem fE (c : Nat) : (Str.mk #[c]).length = 1 := rfl
def C9 (s : Str) : Prop := s.length <= 200 /\ ou s
abbrev nD : Str := Str.ofString "abcdefghijklmnopqrstuvwxyz"
theorem B3 : ∀ i : Fin 26, nD.cps.toList[i.val]? = some (97 + i.val) := by decide +kernel
def kW (c : Int) : Str := b8 (b8 nD (some (c / 156 % 20)) none) none (some (c / 3120 % 5))
def m7 (c : Int) : Int := c / 15600 % (((kW c).length : Nat) + 1)
def jZ (c : Int) : Int := [1, 3, 5, 7, 9, 11].getD (c / 26 % 6).toNat 0
def nK (c k : Int) : Nat := 97 + ((c + k * jZ c) % 26).toNat
def zW (c k : Int) : Str := b8 (b8 nD (some (k * 7 % 26)) none) none (some (k % 3 * (c / 78000 % 2)))
def sgn (c k m : Int) : Str := if 26 < m then (⟨#[nK c k]⟩ : Str) ++ ⟨#[97 + (k / 26).toNat]⟩ else ⟨#[nK c k]⟩
def uB (c k m : Int) : Str := ((b8 (kW c) none (some (m7 c)) ++ sgn c k m) ++ b8 (kW c) (some (m7 c)) none) ++ zW c k
theorem si (x y : Str) : (x ++ y).cps.toList = x.cps.toList ++ y.cps.toList := by show (x.cps ++ y.cps).toList = _; simp
theorem vC (c : Int) : jZ c = 1 \/ jZ c = 3 \/ jZ c = 5 \/ jZ c = 7 \/ jZ c = 9 \/ jZ c = 11 := by
 unfold jZ
 have h0 : 0 <= c / 26 % 6 := by omega
 have h1 : c / 26 % 6 < 6 := by omega
 generalize c / 26 % 6 = z at *
 have : z = 0 \/ z = 1 \/ z = 2 \/ z = 3 \/ z = 4 \/ z = 5 := by omega
 rcases this with rfl | rfl | rfl | rfl | rfl | rfl <;> simp
theorem rL {c k k' : Int} (e3 : nK c k = nK c k') (h : k / 26 = k' / 26) : k = k' := by
 unfold nK at e3
 have e4 : (c + k * jZ c) % 26 = (c + k' * jZ c) % 26 := by omega
 rcases vC c with m | m | m | m | m | m <;> rw [m] at e4 <;> omega
theorem zA {c k k' m : Int} (h0 : 0 <= k) (h1 : k < m) (h2 : 0 <= k') (h3 : k' < m) (h : uB c k m = uB c k' m) : k = k' := by
 have e := congrArg (fun s : Str => s.cps.toList) h
 simp only [uB, si, List.append_assoc] at e
 have e2 := List.append_cancel_left e
 unfold sgn at e2
 by_cases hm : 26 < m
 . simp only [if_pos hm, si, List.append_assoc] at e2
   have e3 : nK c k = nK c k' := (List.cons.inj e2).1
   have e4 : 97 + (k / 26).toNat = 97 + (k' / 26).toNat := (List.cons.inj (List.cons.inj e2).2).1
   exact rL e3 (by omega)
 . simp only [if_neg hm] at e2
   exact rL (List.cons.inj e2).1 (by omega)
theorem C7 (c k m : Int) (h0 : 0 <= k) (h1 : k < 100) : C9 (uB c k m) := by
 have al : nD.length = 26 := i5
 have l1 := cP nD (some (c / 156 % 20)) none
 have l2 : (kW c).length <= _ := cP (b8 nD (some (c / 156 % 20)) none) none (some (c / 3120 % 5))
 have l3 := cP (kW c) none (some (m7 c))
 have l4 := cP (kW c) (some (m7 c)) none
 have l5 := cP nD (some (k * 7 % 26)) none
 have l6 : (zW c k).length <= _ := cP (b8 nD (some (k * 7 % 26)) none) none (some (k % 3 * (c / 78000 % 2)))
 have r : ou (kW c) := (ou.abc.sub dB).sub dB
 have b4 : nK c k < 1114112 := by
  unfold nK
  generalize c + k * jZ c = z
  omega
 have one : ∀ n : Nat, n < 1114112 -> ou ⟨#[n]⟩ := fun n hn d hd => by
  have : d = n := by simpa using hd
  omega
 have hs : (sgn c k m).length <= 2 /\ ou (sgn c k m) := by
  unfold sgn
  split
  . refine ⟨by rw [Str.length_append, fE, fE]; omega, (one _ b4).app (one _ (by omega))⟩
  . exact ⟨by rw [fE]; omega, one _ b4⟩
 refine ⟨?_, (((r.sub dB).app hs.2).app (r.sub dB)).app ((ou.abc.sub dB).sub dB)⟩
 have := hs.1
 simp only [uB, Str.length_append]; omega
def lq : Sp := fun vs H Q _ => ∃ c k m, vs = [.int c, .int k, .int m] /\ 0 <= k /\ k < 100 /\ ∀ H', ah H H' -> Q (.str (uB c k m)) H'
theorem yI {H : Hp} {Q : VK} {E : XK} {c k m : Int} (h : 0 <= k /\ k < 100) (q : ∀ H', ah H H' -> Q (.str (uB c k m)) H') : lq [.int c, .int k, .int m] H Q E := ⟨c, k, m, rfl, h.1, h.2, q⟩
theorem Dc {H : Hp} {Q : VK} {v : V} {ls : List Int} {i : Int} (hp : Dv H v (.list (ls.map PyData.int))) (h0 : 0 <= i) (h1 : i < ls.length) (h : Q (.int (ls.getD i.toNat 0)) H) : lL K v (.int i) H Q := by
 obtain ⟨m, rfl⟩ := Int.eq_ofNat_of_zero_le h0
 have hi : m < ls.length := by omega
 refine rH (d := .int (ls.getD m 0)) (.inr hp) (gY (by rw [List.getElem?_map, List.getElem?_eq_getElem hi]; simp [List.getD_eq_getElem?_getD, hi])) (nA h)
theorem yp {H : Hp} {Q : VK} {i : Int} (h0 : 0 <= i) (h1 : i < 26) (h : Q (.str ⟨#[97 + i.toNat]⟩) H) : lL K (.str (Str.ofString "abcdefghijklmnopqrstuvwxyz")) (.int i) H Q :=
 Dd (by rw [i5]; decide) h0 (by rw [i5]; omega) fun c hc => by
  have e := B3 ⟨i.toNat, by omega⟩
  have e2 : some c = some (97 + i.toNat) := hc.symm.trans e
  rw [Option.some.inj e2]; exact h
local macro_rules | `(tactic| walk_at "rd1") => `(tactic| first
 | ((with_reducible refine' Dc (ls := [1, 3, 5, 7, 9, 11]) ?e1 ?e2 ?e3 ?_); (case e1 => walk_at "dat"); (case e2 => omega); (case e3 => (simp only [List.length_cons, List.length_nil]; omega)))
 | ((with_reducible refine' Bb ?e1 (fun _ => ?_)); (case e1 => walk_at "len"))
 | ((with_reducible refine' yp ?e1 ?e2 ?_); (case e1 => omega); (case e2 => omega))
 | fail)
set_option hygiene false in
local macro_rules | `(tactic| walk_at "len") => `(tactic| first
 | (simp only [Str.length_append, fE, i5] at *; omega)
 | fail)
theorem vn (T : Txt K mg a) : bQ P w K mg base iV 1 a.bK a.iI ["_law_cell", "_law_k", "_law_many"] lq := by
 refine T.fX.ok bP (fun vs H Q E h => ?_) (fun df A outer s H vs Q E hr h => ?_)
 . obtain ⟨_, _, _, rfl, _⟩ := h; rfl
 . obtain ⟨c, k, m, rfl, k0, k1, q⟩ := h
   have al := i5
   refine ⟨_, (ag (av (i := 3) bP.nd rfl (Or.inl rfl) qo)
    (ag (av (i := 4) bP.nd rfl (Or.inl rfl) (aL eu (pv 3) (aj aB (aj bh (pv 0) (aj cg (pv 1) (aL eu (bR (rJ (vs := [.int 1, .int 3, .int 5, .int 7, .int 9, .int 11]) rfl)) (aj aB (aj aF (pv 0) af) af) (fun _ _ => rfl)))) af) (fun _ _ => rfl)))
    (kN (bZ (aN iZ (pv 2) af (aS _))
     (ak (av (i := 4) bP.nd rfl (Or.inl rfl) (aj kc (pv 4) (aL eu (pv 3) (aj aF (pv 1) af) (fun _ _ => rfl)))))
     bo)
    (ag (av (i := 5) bP.nd rfl (Or.inl rfl) (cH gR (cH gR (pv 3) (cT (aj aB (aj aF (pv 0) af) af)) d6) d6 (cT (aj aB (aj aF (pv 0) af) af))))
    (ag (av (i := 6) bP.nd rfl (Or.inl rfl) (aj aB (aj aF (pv 0) af) (aj bh (aQ cB rfl T.dE PySem.boot_len (ae (pv 5) ai)) af)))
    (ag (av (i := 7) bP.nd rfl (Or.inl rfl) (cH gR (cH gR (pv 3) (cT (aj aB (aj cg (pv 1) af) af)) d6) d6 (cT (aj cg (aj aB (pv 1) af) (aj aB (aj aF (pv 0) af) af)))))
    (ak (aI (aj kc (aj kc (aj kc (cH gR (pv 5) d6 (cT (pv 6))) (pv 4)) (cH gR (pv 5) (cT (pv 6)) d6)) (pv 7)))))))))), ?_⟩
   have hm : 0 <= [1, 3, 5, 7, 9, 11].getD (c / 26 % 6).toNat (0 : Int) /\ [1, 3, 5, 7, 9, 11].getD (c / 26 % 6).toNat (0 : Int) <= 11 := by
    have := vC c
    unfold jZ at this
    omega
   repeat' (walk_at "rd1")
   refine q0 (fun σ' H' => ah H H' /\ σ' = [some (.int c), some (.int k), some (.int m), some (.str nD), some (.str (sgn c k m)), none, none, none]) ?_ ?_
   . repeat' (walk_at "rd1")
     . rename_i hb
       refine ⟨by walk_at "same", ?_⟩
       unfold sgn
       rw [if_pos hb]
       rfl
     . rename_i hb
       refine ⟨by walk_at "same", ?_⟩
       unfold sgn
       rw [if_neg hb]
       rfl
   rintro σ' H' ⟨Hz, rfl⟩
   have Kz : (sgn c k m).length <= 2 := by
    unfold sgn
    split
    . rw [Str.length_append, fE, fE]; omega
    . rw [fE]; omega
   repeat' (walk_at "rd1")
   exact q _ (by walk_at "same")
theorem tj (T : Txt K mg a) : lg P w K mg base 1 a.bK ["_law_cell", "_law_k", "_law_many"] [] lq :=
 ⟨⟨_, _, vn T, T.fX.binds fun _ _ _ _ _ _ => .all fun us hl => match us, hl with | [_, _, _], _ => rfl, .nil⟩⟩
theorem t9 (T : Txt K mg a) (s : Shared) (u : Value) : BindsTo s a.nF ⟨[u], []⟩ [("_law_script", u)] := by
 obtain ⟨oc, od, kV, doc, pm, an, df, ct, wQ, e, lk, uE⟩ := T.uF.ex
 rw [e]
 exact .of_eq rfl
theorem lr (T : Txt K mg a) : bQ P w K mg base iV 1 a.a7 a.fK ["_law_script", "_law_k"] (pT K) := by
 refine T.dF.ok j7 (fun vs H Q E h => ?_) (fun df A outer s H vs Q E hr h => ?_)
 . obtain ⟨_, _, _, rfl, _⟩ := h; rfl
 . obtain ⟨l, ns, i, rfl, hl, h0, k⟩ := h
   refine ⟨_, (ag (bZ (aN kB (pv 1) (aQ cB rfl T.dE PySem.boot_len (ae (pv 0) ai)) (aS _))
    (ak (aI (aL eu (pv 0) (pv 1) (fun _ _ => rfl))))
    bo)
    (ak (aI af))), ?_⟩
   repeat' (walk_at "rd1")
   . exact Ay hl (yZ h0 (by assumption)) k
   . rw [yA h0 (by assumption)] at k; exact k
theorem c9 (T : Txt K mg a) : lg P w K mg base 1 a.a7 ["_law_script", "_law_k"] [] (pT K) :=
 ⟨⟨_, _, lr T, T.dF.binds fun _ _ _ _ _ _ => .all fun us hl => match us, hl with | [_, _], _ => rfl, .nil⟩⟩
def ky (K : PySem.W.Frag) : Sp := fun vs H Q _ => ∃ (l : Addr) (ns : List Int) (m : Int), vs = [.ref l, .int m] /\ bF K H l (ns.map V.int) /\ 0 <= m /\ m <= 200 /\ ∀ p H' (ms : List Int), ah H H' -> H p = none -> (ms.length : Int) = m -> bG H' p (ms.map PyData.int) -> Q (.ref p) H'
theorem zt {H : Hp} {Q : VK} {E : XK} {l : Addr} {ns : List Int} {m : Int} (h : bF K H l (ns.map V.int)) (h0 : 0 <= m) (h1 : m <= 200) (q : ∀ p H' (ms : List Int), ah H H' -> H p = none -> (ms.length : Int) = m -> bG H' p (ms.map PyData.int) -> Q (.ref p) H') : ky K [.ref l, .int m] H Q E := ⟨l, ns, m, rfl, h, h0, h1, q⟩
local macro_rules | `(tactic| walk_at "use") => `(tactic| first
 | with_reducible refine nC (fun _ _ _ => ?_)
 | with_reducible refine EE (fun _ => ?_)
 | ((with_reducible refine' Bz ?e1 ?e2 ?_); (case e1 => walk_at "sql"); (case e2 => omega))
 | ((with_reducible refine' zt ?e1 ?e2 ?e3 (fun _ _ _ _ _ _ _ => ?_)); (case e1 => walk_at "sql"); (case e2 => omega); (case e3 => omega))
 | ((with_reducible refine' yI ?e1 (fun _ _ => ?_)); (case e1 => omega))
 | fail)
theorem vw (T : Txt K mg a) : bQ P w K mg base iV 2 a.bC a.ig ["_law_script", "_law_many"] (ky K) := by
 have aT := c9 (P := P) (w := w) (base := base) T
 have de := mS (P := P) (w := w) (base := base) T
 refine T.fg.ok cY (fun vs H Q E h => ?_) (fun df A outer s H vs Q E hr h => ?_)
 . obtain ⟨_, _, _, rfl, _⟩ := h; rfl
 . obtain ⟨l, ns, m, rfl, hl, m0, m1, q⟩ := h
   refine ⟨_, (ag (av (i := 2) cY.nd rfl (Or.inl rfl) (cH nT (pv 0) (cT af) (cT (aj bh af (pv 1)))))
    (ag (av (i := 3) cY.nd rfl (Or.inl rfl) (aC aT (hr.mono (by decide)) rfl T.aW T.aV (ae (pv 0) (ae af ai))))
    (ag (pD PassesOwn.never (aN kB (aQ cB rfl T.dE PySem.boot_len (ae (pv 2) ai)) (pv 1) (aS _))
     (ag (av (i := 3) cY.nd rfl (Or.inl rfl) (aC de (hr.mono (by decide)) rfl T.cZ T.cW (ae (aj bh (pv 3) (aQ cB rfl T.dE PySem.boot_len (ae (pv 2) ai))) ai)))
     (ak (iP (pq PySem.F.plainAttrs_list PySem.F.slot_list_append PySem.F.type_list_append eR (pv 2) (ae (pv 3) ai))))))
    (ak (aI (pv 2)))))), ?_⟩
   repeat' (walk_at "rd1")
   obtain ⟨M, rfl⟩ := Int.eq_ofNat_of_zero_le m0
   refine BZ 4 (4 + M) hl (fun p H1 ez sN hp => ?_)
   have Ma : ((ns.drop 4).take (4 + M - 4)).length <= M := by rw [List.length_take]; omega
   generalize (ns.drop 4).take (4 + M - 4) = MI at *
   repeat' (walk_at "rd1")
   refine rN (fun r σ' H' => ∃ (num : Int) (ms : List Int), σ' = [some (.ref l), some (.int M), some (.ref p), some (.int num)] /\ Mv [p] H1 H' /\ bG H' p (ms.map PyData.int) /\ ms.length <= M /\ r = M - ms.length) ⟨_, _, MI, rfl, Mv.refl, hp, Ma, rfl⟩ ?_
   rintro r σ' H' ⟨num, ms, rfl, mv, xT, hle, rfl⟩
   repeat' (walk_at "rd1")
   . rename_i hb x x0 x1 H3 Qm GX
     refine ⟨M - (ms.length + 1), by omega, x, ms ++ [x], rfl, by walk_at "mv", by rw [List.map_append]; exact GX, by rw [List.length_append]; simp only [List.length_cons, List.length_nil]; omega, by rw [List.length_append]; rfl⟩
   . exact q p H' ms (by walk_at "same") sN (by omega) xT
theorem tJ (T : Txt K mg a) : lg P w K mg base 2 a.bC ["_law_script", "_law_many"] [] (ky K) :=
 ⟨⟨_, _, vw T, T.fg.binds fun _ _ _ _ _ _ => .all fun us hl => match us, hl with | [_, _], _ => rfl, .nil⟩⟩
abbrev C4 := Str × Int × Int × Int
def b7 (c : C4) : PyData := .tuple [.str c.1, .int c.2.1, .int c.2.2.1, .int c.2.2.2]
structure yF (cs : List C4) : Prop where
 nm : ∀ c ∈ cs, C9 c.1
 wd : ∀ c ∈ cs, c.2.1 <= c.2.2.1
structure gP (cs : List C4) : Prop where
 ok : yF cs
 w1 : ∀ c ∈ cs, 1 <= c.2.2.2 /\ c.2.2.2 <= 10 ^ 12
 nd : (cs.map (·.1)).Nodup
theorem vg (c : Int) (m : Nat) : ((List.range m).map fun i => uB c (i : Nat) m).Nodup := by
 rw [List.Nodup, List.pairwise_map]
 refine List.Pairwise.imp_of_mem (fun ha hb Dm e => Dm ?_) List.nodup_range
 have h1 := List.mem_range.mp ha
 have h2 := List.mem_range.mp hb
 have := zA (by omega) (by omega) (by omega) (by omega) e
 omega
def iw (K : PySem.W.Frag) : Sp := fun vs H Q _ => ∃ (l : Addr) (ns : List Int) (m : Int) (hv : Bool), vs = [.ref l, .int m, .bl hv] /\ bF K H l (ns.map V.int) /\ 0 <= m /\ m <= 40 /\ ∀ p H' (cs : List C4), ah H H' -> H p = none -> (cs.length : Int) <= m -> gP cs -> bG H' p (cs.map b7) -> Q (.ref p) H'
theorem tZ {H : Hp} {Q : VK} {E : XK} {l : Addr} {ns : List Int} {m : Int} {hv : Bool} (h : bF K H l (ns.map V.int)) (h0 : 0 <= m) (h1 : m <= 40) (q : ∀ p H' (cs : List C4), ah H H' -> H p = none -> (cs.length : Int) <= m -> gP cs -> bG H' p (cs.map b7) -> Q (.ref p) H') : iw K [.ref l, .int m, .bl hv] H Q E := ⟨l, ns, m, hv, rfl, h, h0, h1, q⟩
set_option maxHeartbeats 0 in
theorem qt (T : Txt K mg a) : bQ P w K mg base iV 3 a.bq a.gD ["_law_script", "_law_many", "_law_heavy"] (iw K) := by
 have aT := c9 (P := P) (w := w) (base := base) T
 have qT := zP (P := P) (w := w) (base := base) T
 have nS := tJ (P := P) (w := w) (base := base) T
 have o7 := tj (P := P) (w := w) (base := base) T
 refine T.eD.ok az (fun vs H Q E h => ?_) (fun df A outer s H vs Q E hr h => ?_)
 . obtain ⟨_, _, _, _, rfl, _⟩ := h; rfl
 . obtain ⟨l, ns, m, hv, rfl, hl, m0, m1, q⟩ := h
   refine ⟨_, (ag (av (i := 3) az.nd rfl (Or.inl rfl) (aC qT (hr.mono (by decide)) rfl T.jV T.jN (ae (aC aT (hr.mono (by decide)) rfl T.aW T.aV (ae (pv 0) (ae af ai))) ai)))
    (ag (av (i := 4) az.nd rfl (Or.inl rfl) (aL eu (bR (ae af (ae af (ae (aj fV (aj jv af af) af) ai)))) (aj aB (aj aF (pv 3) af) af) (fun _ _ => rfl)))
    (kN (bZ (bU (pv 2) (fun _ => rfl))
     (ak (av (i := 4) az.nd rfl (Or.inl rfl) (aj fV (aj jv af af) af)))
     (ak (bZ (aN iZ (pv 1) af (aS _))
      (ak (av (i := 4) az.nd rfl (Or.inl rfl) af))
      (ak (bZ (aN iZ (pv 4) af (aS _))
       (ak (av (i := 1) az.nd rfl (Or.inl rfl) (aj aB (pv 1) af)))
       bo)))))
    (ag (av (i := 5) az.nd rfl (Or.inl rfl) (aC nS (hr.mono (by decide)) rfl T.ia T.hZ (ae (pv 0) (ae (aj cg af (pv 1)) ai))))
    (ag (av (i := 6) az.nd rfl (Or.inl rfl) (aj aB (pv 3) af))
    (ag (av (i := 7) az.nd rfl (Or.inl rfl) (bR ai))
    (ag (cQ PassesOwn.never rfl (jq rfl T.eP (ae (pv 1) ai)) (ao (i := 8) az.nd rfl (Or.inl rfl))
     (ag (av (i := 9) az.nd rfl (Or.inl rfl) (aL eu (pv 5) (aj cg af (pv 8)) (fun _ _ => rfl)))
     (ag (av (i := 10) az.nd rfl (Or.inl rfl) (aL eu (pv 5) (aj bh (aj cg af (pv 8)) af) (fun _ _ => rfl)))
     (ag (av (i := 11) az.nd rfl (Or.inl rfl) (aj bh (aL eu (bR (ae af (ae af (ae (aj jv af af) (ae (aj fV af af) ai))))) (aj aB (aj aF (pv 3) af) af) (fun _ _ => rfl)) (aj aB (pv 9) (aL eu (bR (ae af (ae af (ae (aj jv af af) (ae (aj cg af (pv 1)) ai))))) (pv 6) (fun _ _ => rfl)))))
     (ag (av (i := 12) az.nd rfl (Or.inl rfl) (aj bh (pv 11) (aL eu (bR (ae (aj aB (aj aF (pv 9) af) af) (ae (aj aB (aj aF (pv 9) af) af) (ae (aj aB (aj aF (pv 10) af) (aj jv af af)) (ae (aj aB (aj aF (pv 9) af) af) ai))))) (pv 6) (fun _ _ => rfl))))
     (ak (iP (pq PySem.F.plainAttrs_list PySem.F.slot_list_append PySem.F.type_list_append eR (pv 7) (ae (du (ae (aC o7 (hr.mono (by decide)) rfl T.iR T.i6 (ae (aj aF (pv 3) af) (ae (pv 8) (ae (pv 1) ai)))) (ae (pv 11) (ae (pv 12) (ae (aj bh af (aj aB (pv 10) (pv 4))) ai))))) ai)))))))))
    (ak (aI (pv 7)))))))))), ?_⟩
   obtain ⟨M0, rfl⟩ := Int.eq_ofNat_of_zero_le m0
   repeat' (walk_at "rd1")
   rename_i sh qq H0 Ob xQ Pp _ _ u0 Qd
   clear Pp
   refine q0 (fun σ' H' => H0 = H' /\ ∃ (M : Nat) (u : Int), M <= M0 /\ 1 <= u /\ u <= 10 ^ 12 /\ σ' = [some (.ref l), some (.int M), some (.bl hv), some (.int sh), some (.int u), none, none, none, none, none, none, none, none]) ?_ ?_
   . cases hv with
     | true =>
       repeat' (walk_at "rd1")
       all_goals first
        | exact ⟨rfl, M0, 10 ^ 12 - 1, Nat.le_refl _, by omega, by omega, rfl⟩
        | (rename_i hb; exact absurd rfl hb)
     | false =>
       repeat' (walk_at "rd1")
       all_goals first
        | exact ⟨rfl, M0, 3, Nat.le_refl _, by omega, by omega, rfl⟩
        | exact ⟨rfl, (((M0 : Nat) : Int) % 8).toNat, u0, by omega, by omega, by omega, by rw [Int.toNat_of_nonneg (by omega)]; rfl⟩
        | exact ⟨rfl, M0, u0, Nat.le_refl _, by omega, by omega, rfl⟩
        | (rename_i hb; cases hb)
   rintro σ0 H' ⟨rfl, M, u, hM, u1, u2, rfl⟩
   have Aj : bF K H0 l (ns.map V.int) := ah.seq Ob hl
   repeat' (walk_at "rd1")
   rename_i pc H1 ms ez sN Ce Cp w0 w1 pf H2 cA oB ML
   refine jg (fun j σ' H' => ∃ z8 z9 iN lT AX cs, σ' = [some (.ref l), some (.int M), some (.bl hv), some (.int sh), some (.int u), some (.ref pc), some (.int (sh % 4)), some (.ref pf), z8, z9, iN, lT, AX] /\ Mv [pf] H2 H' /\ bG H' pf (cs.map b7) /\ cs.length = j /\ yF cs /\ (∀ c ∈ cs, 1 <= c.2.2.2 /\ c.2.2.2 <= 10 ^ 12) /\ cs.map (·.1) = (List.range (j)).map fun i => uB (sh / 48) (i : Nat) M) ⟨_, _, _, _, _, [], rfl, Mv.refl, ML, rfl, ⟨fun c h => by simp at h, fun c h => by simp at h⟩, fun c h => by simp at h, rfl⟩ ?_ ?_
   . rintro j σ' H' hj ⟨z8, z9, iN, lT, AX, cs, rfl, mv, xT, ud, aK, HQ, Es⟩
     have J0 : j < M := by simpa using hj
     have fin : ∀ (c : C4) H3 (σ2 : St) (z8 z9 iN lT AX : Option V), c.1 = uB (sh / 48) (0 + (j : Nat)) M -> c.2.1 <= c.2.2.1 -> (1 <= c.2.2.2 /\ c.2.2.2 <= 10 ^ 12) -> Mv [pf] H2 H3 -> bG H3 pf (cs.map b7 ++ [b7 c]) -> σ2 = [some (.ref l), some (.int M), some (.bl hv), some (.int sh), some (.int u), some (.ref pc), some (.int (sh % 4)), some (.ref pf), z8, z9, iN, lT, AX] -> ∃ z8 z9 iN lT AX cs, σ2 = [some (.ref l), some (.int M), some (.bl hv), some (.int sh), some (.int u), some (.ref pc), some (.int (sh % 4)), some (.ref pf), z8, z9, iN, lT, AX] /\ Mv [pf] H2 H3 /\ bG H3 pf (cs.map b7) /\ cs.length = j + 1 /\ yF cs /\ (∀ c ∈ cs, 1 <= c.2.2.2 /\ c.2.2.2 <= 10 ^ 12) /\ cs.map (·.1) = (List.range (j + 1)).map fun i => uB (sh / 48) (i : Nat) M := by
      intro c H3 σ2 z8 z9 iN lT AX hn hw Ai m l2 e
      refine ⟨_, _, _, _, _, cs ++ [c], e, m, by rw [List.map_append]; exact l2, by simp [ud], ⟨fun d hd => ?_, fun d hd => ?_⟩, fun d hd => ?_, ?_⟩
      . rcases List.mem_append.mp hd with hd | hd
        . exact aK.nm d hd
        . have : d = c := by simpa using hd
          subst this; rw [hn]; exact C7 _ _ _ (by omega) (by omega)
      . rcases List.mem_append.mp hd with hd | hd
        . exact aK.wd d hd
        . have : d = c := by simpa using hd
          subst this; exact hw
      . rcases List.mem_append.mp hd with hd | hd
        . exact HQ d hd
        . have : d = c := by simpa using hd
          subst this; exact Ai
      . rw [List.map_append, Es, List.range_succ, List.map_append, List.map_cons, List.map_nil, List.map_cons, List.map_nil, hn]
        rw [Int.zero_add]
     repeat' (walk_at "rd1")
     all_goals (refine' fin (_, _, _, _) _ _ _ _ _ _ _ ?e1 ?e2 ?e6 ?e3 ?e4 ?e5; (case e4 => assumption); (case e5 => exact rfl); (case e1 => exact rfl); (case e6 => (dsimp only; omega)); (case e3 => walk_at "mv"); (case e2 => (dsimp only; omega)))
   . rintro σ' H' ⟨z8, z9, iN, lT, AX, cs, rfl, mv, xT, ud, aK, HQ, Es⟩
     repeat' (walk_at "rd1")
     have Ql : cs.length = M := by simpa using ud
     have Kt : cs.map (·.1) = (List.range M).map fun i => uB (sh / 48) (i : Nat) M := by simpa using Es
     exact q pf H' cs (by walk_at "same") (by walk_at "none") (by omega) ⟨aK, HQ, by rw [Kt]; exact vg _ _⟩ xT
theorem pM (T : Txt K mg a) : lg P w K mg base 3 a.bq ["_law_script", "_law_many", "_law_heavy"] [] (iw K) :=
 ⟨⟨_, _, qt T, T.eD.binds fun _ _ _ _ _ _ => .all fun us hl => match us, hl with | [_, _, _], _ => rfl, .nil⟩⟩
def sF (ts : List Int) (f l : Int) : Option Int := ts.find? fun t => decide (f <= t) && decide (t <= l)
def hit (ts : List Int) (c : C4) : Bool := (sF ts c.2.1 c.2.2.1).isSome
def fT (ts : List Int) (cs : List C4) : Int := ((cs.filter (hit ts)).map (·.2.2.2)).sum
def Ki (ts : List Int) (cs : List C4) : List Str := (cs.filter fun c => !hit ts c).map (·.1)
theorem aJ (ts : List Int) (c : C4) : hit ts c = true ↔ ∃ t ∈ ts, c.2.1 <= t /\ t <= c.2.2.1 := by
 unfold hit sF
 rw [List.find?_isSome]
 simp
theorem ko {l₁ l₂ : List Int} (h : l₁.Perm l₂) : l₁.sum = l₂.sum := by
 induction h with
 | nil => rfl
 | cons x _ ih => rw [List.sum_cons, List.sum_cons, ih]
 | swap x y l => simp only [List.sum_cons]; omega
 | trans _ _ h1 h2 => exact h1.trans h2
theorem take_snoc {α : Type} {l : List α} {j : Nat} {c : α} (h : l[j]? = some c) : l.take (j + 1) = l.take j ++ [c] := by
 rw [List.take_add_one, h]; rfl
theorem nH (xs ys : List Int) : (xs ++ ys).sum = xs.sum + ys.sum := by
 induction xs with
 | nil => simp
 | cons x r ih => simp only [List.cons_append, List.sum_cons, ih]; omega
def sf (P : C4 -> Bool) (g : C4 -> Int) (cs : List C4) : Int := ((cs.filter P).map g).sum
theorem gH (P : C4 -> Bool) (g : C4 -> Int) : sf P g [] = 0 := rfl
theorem a8 (P : C4 -> Bool) (g : C4 -> Int) (c : C4) (cs : List C4) : sf P g (c :: cs) = (if P c = true then g c else 0) + sf P g cs := by
 unfold sf
 rw [List.filter_cons]
 split
 . rw [List.map_cons, List.sum_cons]
 . omega
theorem n5 (P : C4 -> Bool) (g : C4 -> Int) (cs ds : List C4) : sf P g (cs ++ ds) = sf P g cs + sf P g ds := by
 unfold sf; rw [List.filter_append, List.map_append, nH]
theorem jF {P R : C4 -> Bool} {g h : C4 -> Int} : ∀ {cs : List C4}, (∀ c ∈ cs, P c = true -> R c = true /\ g c <= h c) -> (∀ c ∈ cs, R c = true -> 0 <= h c) -> sf P g cs <= sf R h cs
 | [], _, _ => by rw [gH, gH]; exact Int.le_refl _
 | c :: cs, h1, h2 => by
   have ih := jF (fun d hd => h1 d (List.mem_cons_of_mem _ hd)) (fun d hd => h2 d (List.mem_cons_of_mem _ hd))
   rw [a8, a8]
   by_cases hp : P c = true
   . obtain ⟨hr, hg⟩ := h1 c List.mem_cons_self hp
     rw [if_pos hp, if_pos hr]; omega
   . rw [if_neg hp]
     by_cases hr : R c = true
     . rw [if_pos hr]; have := h2 c List.mem_cons_self hr; omega
     . rw [if_neg hr]; omega
theorem xr {P R : C4 -> Bool} {g : C4 -> Int} : ∀ {cs : List C4}, (∀ c ∈ cs, 0 <= g c) -> sf (fun c => P c || R c) g cs <= sf P g cs + sf R g cs
 | [], _ => by rw [gH, gH, gH]; decide
 | c :: cs, h => by
   have ih := xr (P := P) (R := R) (fun d hd => h d (List.mem_cons_of_mem _ hd))
   have hc := h c List.mem_cons_self
   rw [a8, a8, a8]
   by_cases hp : P c = true
   . by_cases hr : R c = true
     . simp only [hp, hr, Bool.or_self, if_true]; omega
     . simp only [hp, hr, Bool.true_or, if_true, if_false, Bool.false_eq_true]; omega
   . by_cases hr : R c = true
     . simp only [hp, hr, Bool.or_true, if_true, if_false, Bool.false_eq_true]; omega
     . simp only [hp, hr, Bool.or_self, if_false, Bool.false_eq_true]; omega
theorem rY {P : C4 -> Bool} {g : C4 -> Int} {cs ds : List C4} (h : cs.Perm ds) : sf P g cs = sf P g ds := ko ((h.filter _).map _)
def con (p : Int) (c : C4) : Bool := decide (c.2.1 <= p) && decide (p <= c.2.2.1)
def load (f : Str -> Int) (cs : List C4) (p : Int) : Int := sf (con p) (fun c => f c.1) cs
theorem bx {p : Int} {c : C4} : con p c = true ↔ c.2.1 <= p /\ p <= c.2.2.1 := by simp [con]
theorem mh : ∀ (ds : List C4), ds ≠ [] -> ∃ c ∈ ds, ∀ d ∈ ds, d.2.1 <= c.2.1
 | [], h => absurd rfl h
 | [c], _ => ⟨c, by simp, fun d hd => by have : d = c := by simpa using hd
                                         rw [this]; exact Int.le_refl _⟩
 | c :: d :: r, _ => by
   obtain ⟨e, he, hm⟩ := mh (d :: r) (by simp)
   by_cases h : c.2.1 <= e.2.1
   . exact ⟨e, List.mem_cons_of_mem _ he, fun x hx => (List.mem_cons.mp hx).elim (fun z => z ▸ h) (hm x)⟩
   . exact ⟨c, List.mem_cons_self, fun x hx => (List.mem_cons.mp hx).elim (fun z => z ▸ Int.le_refl _) (fun z => by have := hm x z; omega)⟩
theorem kL {f : Str -> Int} {cs : List C4} {pr : Int} (h0 : 0 <= pr) (hf : ∀ c ∈ cs, 0 <= f c.1) (hl : ∀ c ∈ cs, load f cs c.2.1 <= pr) (t : Int) : load f cs t <= pr := by
 by_cases h : cs.filter (con t) = []
 . unfold load sf; rw [h]; exact h0
 . obtain ⟨c, hc, hm⟩ := mh _ h
   obtain ⟨LU, Hn⟩ := List.mem_filter.mp hc
   refine Int.le_trans (jF (fun d hd hp => ⟨?_, Int.le_refl _⟩) (fun d hd _ => hf d hd)) (hl c LU)
   have h1 := hm d (List.mem_filter.mpr ⟨hd, hp⟩)
   have h2 := bx.mp hp
   have h3 := bx.mp Hn
   exact bx.mpr ⟨h1, by omega⟩
theorem oJ (t : Int) (ts : List Int) (c : C4) : hit (t :: ts) c = (con t c || hit ts c) := by
 rw [Bool.eq_iff_iff, Bool.or_eq_true, aJ, aJ, bx]
 simp
theorem sC {f : Str -> Int} {cs : List C4} {pr : Int} (h0 : 0 <= pr) (hf : ∀ c ∈ cs, 0 <= f c.1) (hl : ∀ c ∈ cs, load f cs c.2.1 <= pr) : ∀ ts : List Int, sf (hit ts) (fun c => f c.1) cs <= ts.length * pr
 | [] => by
   have : cs.filter (hit []) = [] := List.filter_eq_nil_iff.mpr fun c _ => by rw [aJ]; simp
   unfold sf; rw [this]; simp
 | t :: ts => by
   have ih := sC h0 hf hl ts
   have e : hit (t :: ts) = fun c => con t c || hit ts c := funext (oJ t ts)
   have h1 := xr (P := con t) (R := hit ts) (g := fun c => f c.1) (cs := cs) hf
   have h2 := kL h0 hf hl t
   unfold load at h2
   rw [e, List.length_cons]
   have : ((ts.length + 1 : Nat) : Int) * pr = ts.length * pr + pr := by rw [Int.natCast_add, Int.add_mul]; simp
   omega
theorem kn {P : C4 -> Bool} {g : C4 -> Int} : ∀ cs : List C4, sf P g cs + sf (fun c => !P c) g cs = (cs.map g).sum
 | [] => rfl
 | c :: cs => by
   have ih := kn (P := P) (g := g) cs
   rw [a8, a8, List.map_cons, List.sum_cons]
   by_cases hp : P c = true
   . simp only [hp, if_true, Bool.not_true, Bool.false_eq_true, if_false]; omega
   . simp only [hp, if_false, Bool.not_false, if_true, Bool.false_eq_true]; omega
structure vG (pr : Int) (cs : List C4) (f : Str -> Int) : Prop where
 nn : ∀ c ∈ cs, 0 <= f c.1
 le : ∀ c ∈ cs, f c.1 <= c.2.2.2
 ld : ∀ c ∈ cs, load f cs c.2.1 <= pr
theorem vG.first {pr : Int} {cs : List C4} {f : Str -> Int} (h0 : 0 <= pr) (h : vG pr cs f) (ts : List Int) : fT ts cs <= ts.length * pr + (cs.map fun c => c.2.2.2 - f c.1).sum := by
 have h1 := sC h0 h.nn h.ld ts
 have h2 := kn (P := hit ts) (g := fun c => c.2.2.2 - f c.1) cs
 have h3 : 0 <= sf (fun c => !hit ts c) (fun c => c.2.2.2 - f c.1) cs := by
  have := jF (P := fun _ => false) (R := fun c => !hit ts c) (g := fun _ => 0) (h := fun c => c.2.2.2 - f c.1) (cs := cs) (fun c _ z => by cases z) (fun c hc _ => by have := h.le c hc; omega)
  have e : sf (fun _ => false) (fun _ => 0) cs = 0 := by unfold sf; rw [List.filter_eq_nil_iff.mpr (fun _ _ z => by cases z)]; rfl
  omega
 have h4 : fT ts cs = sf (hit ts) (fun c => f c.1) cs + sf (hit ts) (fun c => c.2.2.2 - f c.1) cs := by
  unfold fT sf
  induction cs.filter (hit ts) with
  | nil => rfl
  | cons c r ih => simp only [List.map_cons, List.sum_cons] at ih ⊢; omega
 omega
def dQ (f : Str -> Int) (n : Str) (v : Int) : Str -> Int := fun x => if x = n then v else f x
theorem pj {f : Str -> Int} {ds : List C4} {c : C4} {v p : Int} (hn : c.1 ∉ ds.map (·.1)) : load (dQ f c.1 v) (ds ++ [c]) p = load f ds p + (if con p c = true then v else 0) := by
 unfold load
 rw [n5, a8, gH]
 have e1 : sf (con p) (fun d => dQ f c.1 v d.1) ds = sf (con p) (fun d => f d.1) ds := by
  unfold sf
  congr 1
  refine List.map_congr_left fun d hd => ?_
  have : d.1 ≠ c.1 := fun z => hn (z ▸ List.mem_map_of_mem (List.mem_filter.mp hd).1)
  simp [dQ, this]
 have e2 : dQ f c.1 v c.1 = v := by simp [dQ]
 rw [e1, e2]
 omega
def fH (v : Int) (l : List Int) (hs : List Nat) : List Int := hs.foldl (fun l i => l.set i (l.getD i 0 + v)) l
theorem qi (v : Int) (l : List Int) (hs : List Nat) (i : Nat) : fH v l (hs ++ [i]) = (fH v l hs).set i ((fH v l hs).getD i 0 + v) := by unfold fH; rw [List.foldl_append]; rfl
theorem jx (v : Int) : ∀ (hs : List Nat) (l : List Int), (fH v l hs).length = l.length
 | [], _ => rfl
 | h :: hs, l => by show (fH v (l.set h (l.getD h 0 + v)) hs).length = _; rw [jx v hs, List.length_set]
theorem mL (v : Int) : ∀ (hs : List Nat) (l : List Int), hs.Nodup -> ∀ i, i < l.length -> (fH v l hs).getD i 0 = l.getD i 0 + (if i ∈ hs then v else 0)
 | [], l, _, i, _ => by show l.getD i 0 = _; simp
 | h :: hs, l, nd, i, hi => by
   obtain ⟨n1, n2⟩ := List.nodup_cons.mp nd
   show (fH v (l.set h (l.getD h 0 + v)) hs).getD i 0 = _
   rw [mL v hs _ n2 i (by rw [List.length_set]; exact hi)]
   by_cases e : i = h
   . subst e
     have : (l.set i (l.getD i 0 + v)).getD i 0 = l.getD i 0 + v := by
      rw [List.getD_eq_getElem?_getD, List.getElem?_set_self hi]; rfl
     rw [this, if_neg n1, if_pos List.mem_cons_self]; omega
   . have : (l.set h (l.getD h 0 + v)).getD i 0 = l.getD i 0 := by
      rw [List.getD_eq_getElem?_getD, List.getElem?_set_ne (Ne.symm e), <- List.getD_eq_getElem?_getD]
     rw [this]
     by_cases m : i ∈ hs
     . rw [if_pos m, if_pos (List.mem_cons_of_mem _ m)]
     . rw [if_neg m, if_neg (by simp [e, m])]
def heldOf (ps : List Int) (c : C4) : List Nat := (ps.zipIdx.filter fun x => con x.1 c).map (·.2)
theorem dN {ps : List Int} {c : C4} {i : Nat} : i ∈ heldOf ps c ↔ ∃ p, ps[i]? = some p /\ con p c = true := by
 unfold heldOf
 rw [List.mem_map]
 constructor
 . rintro ⟨⟨p, j⟩, h, rfl⟩
   obtain ⟨h1, h2⟩ := List.mem_filter.mp h
   exact ⟨p, List.mk_mem_zipIdx_iff_getElem?.mp h1, h2⟩
 . rintro ⟨p, h1, h2⟩
   exact ⟨(p, i), List.mem_filter.mpr ⟨List.mk_mem_zipIdx_iff_getElem?.mpr h1, h2⟩, rfl⟩
theorem yP (ps : List Int) (c : C4) : (heldOf ps c).Nodup := by
 have h1 : (ps.zipIdx.map (·.2)).Nodup := by
  rw [List.zipIdx_map_snd]; exact List.nodup_range'
 exact h1.sublist (List.filter_sublist.map _)
theorem nB {ps : List Int} {c : C4} {i : Nat} (h : i ∈ heldOf ps c) : i < ps.length := by
 obtain ⟨p, h1, _⟩ := dN.mp h
 exact (List.getElem?_eq_some_iff.mp h1).1
theorem v8 (ps : List Int) (c : C4) : (heldOf ps c).length <= ps.length := by
 unfold heldOf
 rw [List.length_map]
 exact Nat.le_trans (List.length_filter_le _ _) (by rw [List.length_zipIdx]; exact Nat.le_refl _)
theorem sO {ps : List Int} {c : C4} {v : Int} {g : Int -> Int} : fH v (ps.map g) (heldOf ps c) = ps.map fun p => g p + (if con p c = true then v else 0) := by
 have hl : (fH v (ps.map g) (heldOf ps c)).length = ps.length := by rw [jx, List.length_map]
 refine List.ext_getElem (by rw [hl, List.length_map]) fun i h1 h2 => ?_
 have hi : i < ps.length := by omega
 have h3 := mL v (heldOf ps c) (ps.map g) (yP ps c) i (by rw [List.length_map]; exact hi)
 rw [List.getD_eq_getElem?_getD, List.getElem?_eq_getElem h1, Option.getD_some] at h3
 rw [h3, List.getElem_map, List.getD_eq_getElem?_getD, List.getElem?_map, List.getElem?_eq_getElem hi]
 by_cases hc : con ps[i] c = true
 . rw [if_pos hc, if_pos (dN.mpr ⟨_, List.getElem?_eq_getElem hi, hc⟩)]; rfl
 . rw [if_neg hc, if_neg (fun z => by
    obtain ⟨p, e1, e2⟩ := dN.mp z
    rw [List.getElem?_eq_getElem hi] at e1
    cases e1
    exact hc e2)]; rfl
structure Pr (pr : Int) (ps : List Int) (f : Str -> Int) (ds : List C4) : Prop where
 nn : ∀ c ∈ ds, 0 <= f c.1 /\ f c.1 <= c.2.2.2
 ld : ∀ p ∈ ps, load f ds p <= pr
theorem Pr.step {pr mx v : Int} {ps : List Int} {f : Str -> Int} {ds : List C4} {c : C4} (h : Pr pr ps f ds) (hn : c.1 ∉ ds.map (·.1)) (hm : ∀ i ∈ heldOf ps c, (ps.map (load f ds)).getD i 0 <= mx) (hx : ∃ i ∈ heldOf ps c, mx = (ps.map (load f ds)).getD i 0) (hv : v = c.2.2.2 \/ v = pr - mx) (yy : v <= c.2.2.2) (sT : v <= pr - mx) (hw : 1 <= c.2.2.2) : Pr pr ps (dQ f c.1 v) (ds ++ [c]) := by
 have Hh : mx <= pr := by
  obtain ⟨i, hi, e⟩ := hx
  have hl := nB hi
  rw [List.getD_eq_getElem?_getD, List.getElem?_map, List.getElem?_eq_getElem hl] at e
  have : mx = load f ds ps[i] := e
  rw [this]; exact h.ld _ (List.getElem_mem hl)
 refine ⟨fun d hd => ?_, fun p hp => ?_⟩
 . rcases List.mem_append.mp hd with hd | hd
   . have : d.1 ≠ c.1 := fun z => hn (z ▸ List.mem_map_of_mem hd)
     simp only [dQ, if_neg this]
     exact h.nn d hd
   . have : d = c := by simpa using hd
     subst this
     simp only [dQ, if_true]
     omega
 . rw [pj hn]
   have := h.ld p hp
   by_cases hc : con p c = true
   . rw [if_pos hc]
     obtain ⟨i, hi, rfl⟩ := List.getElem_of_mem hp
     have := hm i (dN.mpr ⟨_, List.getElem?_eq_getElem hi, hc⟩)
     rw [List.getD_eq_getElem?_getD, List.getElem?_map, List.getElem?_eq_getElem hi] at this
     have : load f ds ps[i] <= mx := this
     omega
   . rw [if_neg hc]; omega
theorem Pr.shr {pr : Int} {ps : List Int} {f : Str -> Int} {ls cs : List C4} (h : Pr pr ps f ls) (hp : ls.Perm cs) (hm : ∀ c ∈ cs, c.2.1 ∈ ps) : vG pr cs f := by
 refine ⟨fun c hc => (h.nn c (hp.mem_iff.mpr hc)).1, fun c hc => (h.nn c (hp.mem_iff.mpr hc)).2, fun c hc => ?_⟩
 have := h.ld _ (hm c hc)
 unfold load at this ⊢
 rwa [rY hp] at this
theorem rB {H : Hp} {y : V} {d : PyData} (hy : Dv H y d) : ∀ {xs : List V} {ds : List PyData} (j : Nat), bb H xs ds -> bb H (xs.set j y) (ds.set j d)
 | [], [], _, _ => .nil
 | _ :: _, _ :: _, 0, .cons _ t => .cons hy t
 | _ :: _, _ :: _, j + 1, .cons h t => .cons h (rB hy j t)
theorem lz {d : PyData} (hd : lE d = true) {ds : List PyData} (j : Nat) (h : a9 ds = true) : a9 (ds.set j d) = true := by
 rw [dJ] at h ⊢
 intro x hx
 rcases List.mem_or_eq_of_mem_set hx with h1 | rfl
 . exact h x h1
 . exact hd
theorem BA {D : Ends} {σ : St} {H : Hp} {to ti te : TE} {t : zR} (h : te σ H fun v H1 => to σ H1 fun o H2 => ti σ H2 fun i H3 => t o i v H3 fun H4 => D.nx σ H4) : tF te (GH to ti t) D σ H := h
theorem uS {H : Hp} {p : Addr} {ds : List PyData} {j : Nat} {k : Int} {y : V} {d : PyData} {R : Hp -> Prop} (hp : bG H p ds) (hk : wH ds.length k = some j) (hy : Dv H y d) (hi : lE d = true) (h : ∀ H2, Mv [p] H H2 -> bG H2 p (ds.set j d) -> R H2) : AJ (.ref p) (.int k) y H R := by
 obtain ⟨xs, e, dv, im⟩ := hp
 have m : Mv [p] H (upd H p (.lst (xs.set j y))) := .qG e (by intro _ z; cases z)
 exact ⟨p, xs, k, j, rfl, rfl, e, by rw [dv.length]; exact hk, h _ m ⟨_, aA, m.zo (lz hi j im) (rB hy j dv), lz hi j im⟩⟩
local macro_rules | `(tactic| walk_at "rd1") => `(tactic| first
 | with_reducible refine BA ?_
 | ((with_reducible refine' uS ?e1 ?e2 ?e3 ?e4 (fun _ _ _ => ?_)); (case e1 => walk_at "lat"); (case e2 => exact rfl); (case e3 => walk_at "dat"); (case e4 => exact rfl))
 | fail)
def dC (c : C4) : Int × Str := (c.2.2.1, c.1)
theorem yn (c : C4) : lE (b7 c) = true := rfl
theorem ya {c d : C4} (h : b7 c = b7 d) : c = d := by
 obtain ⟨a, b, c, e⟩ := c
 obtain ⟨a', b', c', e'⟩ := d
 simp only [b7, PyData.tuple.injEq, List.cons.injEq, PyData.str.injEq, PyData.int.injEq, and_true] at h
 obtain ⟨rfl, rfl, rfl, rfl⟩ := h
 rfl
def f7 : Sp := fun vs H Q _ => ∃ (v : V) (c : C4), vs = [v] /\ Dv H v (b7 c) /\ ∀ y H', ah H H' -> Dv H' y (.tuple [.int (dC c).1, .str (dC c).2]) -> Q y H'
theorem qX {H : Hp} {Q : VK} {E : XK} {v : V} {c : C4} (h : Dv H v (b7 c)) (q : ∀ y H', ah H H' -> Dv H' y (.tuple [.int (dC c).1, .str (dC c).2]) -> Q y H') : f7 [v] H Q E := ⟨v, c, rfl, h, q⟩
theorem oM (T : Txt K mg a) : bQ P w K mg base iV 1 a.cR a.lj ["claim"] f7 := by
 refine T.jy.ok p7 (fun vs H Q E h => ?_) (fun df A outer s H vs Q E hr h => ?_)
 . obtain ⟨_, _, rfl, _⟩ := h; rfl
 . obtain ⟨v, c, rfl, hv, q⟩ := h
   have Fd : Dv H v (.tuple [.str c.1, .int c.2.1, .int c.2.2.1, .int c.2.2.2]) := hv
   refine ⟨_, (ak (aI (du (ae (aL eu (pv 0) af (fun _ _ => rfl)) (ae (aL eu (pv 0) af (fun _ _ => rfl)) ai))))), ?_⟩
   repeat' (walk_at "rd1")
   exact q _ _ (by walk_at "same") (by walk_at "dat")
theorem nh (T : Txt K mg a) : lg P w K mg base 1 a.cR ["claim"] [] f7 :=
 ⟨⟨_, _, oM T, T.jy.binds fun _ _ _ _ _ _ => .all fun us hl => match us, hl with | [_], _ => rfl, .nil⟩⟩
def DC (pr : Int) (ps : List Int) (f : Str -> Int) (L : List C4) : Prop := ∀ i c, L[i]? = some c -> ∃ p0 ∈ ps, con p0 c = true /\ (∀ p ∈ ps, con p c = true -> load f (L.take i) p <= load f (L.take i) p0) /\ f c.1 <= c.2.2.2 /\ f c.1 <= pr - load f (L.take i) p0 /\ (f c.1 = c.2.2.2 \/ f c.1 = pr - load f (L.take i) p0)
theorem c5 {f : Str -> Int} {ds : List C4} {n : Str} {v p : Int} (hn : n ∉ ds.map (·.1)) : load (dQ f n v) ds p = load f ds p := by
 unfold load sf
 congr 1
 refine List.map_congr_left fun d hd => ?_
 have : d.1 ≠ n := fun z => hn (z ▸ List.mem_map_of_mem (List.mem_filter.mp hd).1)
 simp only [dQ, if_neg this]
theorem DC.step {pr mx v : Int} {ps : List Int} {f : Str -> Int} {ds : List C4} {c : C4} (h : DC pr ps f ds) (hn : c.1 ∉ ds.map (·.1)) (hm : ∀ i ∈ heldOf ps c, (ps.map (load f ds)).getD i 0 <= mx) (hx : ∃ i ∈ heldOf ps c, mx = (ps.map (load f ds)).getD i 0) (hv : v = c.2.2.2 \/ v = pr - mx) (h1 : v <= c.2.2.2) (h2 : v <= pr - mx) : DC pr ps (dQ f c.1 v) (ds ++ [c]) := by
 intro i d hi
 by_cases b4 : i < ds.length
 . rw [List.getElem?_append_left b4] at hi
   obtain ⟨p0, D9, k1, k2, k3, k4, k5⟩ := h i d hi
   have hd : d.1 ≠ c.1 := fun z => hn (z ▸ List.mem_map_of_mem (List.mem_of_getElem? hi))
   have ht : (ds ++ [c]).take i = ds.take i := List.take_append_of_le_length (Nat.le_of_lt b4)
   have oB : c.1 ∉ (ds.take i).map (·.1) := fun z => hn (by rw [List.map_take] at z; exact List.mem_of_mem_take z)
   have e : dQ f c.1 v d.1 = f d.1 := by simp only [dQ, if_neg hd]
   refine ⟨p0, D9, k1, fun p hp hc => ?_, ?_, ?_, ?_⟩
   . rw [ht, c5 oB, c5 oB]; exact k2 p hp hc
   . rw [e]; exact k3
   . rw [e, ht, c5 oB]; exact k4
   . rw [e, ht, c5 oB]; exact k5
 . have Ow : i = ds.length := by
    have := (List.getElem?_eq_some_iff.mp hi).1
    rw [List.length_append, List.length_singleton] at this
    omega
   subst Ow
   have hd : d = c := by simpa using hi.symm
   subst hd
   have ht : (ds ++ [d]).take ds.length = ds := by simp
   obtain ⟨j, hj, ej⟩ := hx
   obtain ⟨p0, D9, Hm⟩ := dN.mp hj
   have e0 : mx = load f ds p0 := by rw [ej, List.getD_eq_getElem?_getD, List.getElem?_map, D9]; rfl
   have e : dQ f d.1 v d.1 = v := by simp only [dQ, if_true]
   refine ⟨p0, List.mem_of_getElem? D9, Hm, fun p hp hc => ?_, ?_, ?_, ?_⟩
   . rw [ht, c5 hn, c5 hn, <- e0]
     obtain ⟨k, hk, rfl⟩ := List.getElem_of_mem hp
     have := hm k (dN.mpr ⟨_, List.getElem?_eq_getElem hk, hc⟩)
     rwa [List.getD_eq_getElem?_getD, List.getElem?_map, List.getElem?_eq_getElem hk] at this
   . rw [e]; exact h1
   . rw [e, ht, c5 hn, <- e0]; exact h2
   . rw [e, ht, c5 hn, <- e0]; exact hv
def Exact (pr : Int) (cs : List C4) (f : Str -> Int) : Prop := ∃ (ls : List C4) (ps : List Int), ls.Perm cs /\ (ls.Pairwise fun c d => cb (dC d) (dC c) = false) /\ (∀ x, x ∈ ps ↔ x ∈ cs.map (·.2.1)) /\ DC pr ps f ls
def dU (f : Str -> Int) (cs : List C4) : List (Str × PyData) := cs.map fun c => (c.1, .int (f c.1))
theorem yG {f : Str -> Int} {n : Str} {v : Int} : ∀ {cs : List C4}, n ∈ cs.map (·.1) -> putD (dU f cs) n (.int v) = dU (dQ f n v) cs := fun {cs} h => by
 have h1 : ((dU f cs).any fun kv => decide (kv.1 = n)) = true := by
  obtain ⟨c, hc, rfl⟩ := List.mem_map.mp h
  exact List.any_eq_true.mpr ⟨_, List.mem_map_of_mem hc, decide_eq_true rfl⟩
 unfold putD
 rw [if_pos h1]
 unfold dU
 rw [List.map_map]
 refine List.map_congr_left fun c _ => ?_
 simp only [Function.comp, dQ]
 split <;> rfl
theorem x8 {cs : List C4} {n : Str} (h : n ∉ cs.map (·.1)) : putD (dU (fun _ => 0) cs) n (.int 0) = dU (fun _ => 0) cs ++ [(n, .int 0)] := by
 have h1 : ¬ ((dU (fun _ => 0) cs).any fun kv => decide (kv.1 = n)) = true := by
  intro z
  obtain ⟨kv, Oi, e⟩ := List.any_eq_true.mp z
  obtain ⟨c, hc, rfl⟩ := List.mem_map.mp Oi
  exact h (List.mem_map.mpr ⟨c, hc, of_decide_eq_true e⟩)
 unfold putD
 rw [if_neg h1]
theorem kj {f : Str -> Int} {n : Str} {cs : List C4} (h : n ∈ cs.map (·.1)) : oq (dU f cs) n = some (.int (f n)) := by
 unfold oq
 cases e : (dU f cs).find? fun kv => decide (kv.1 = n) with
 | none =>
   obtain ⟨c, hc, rfl⟩ := List.mem_map.mp h
   have := List.find?_eq_none.mp e _ (List.mem_map_of_mem hc)
   simp at this
 | some kv =>
   have h1 := List.find?_some e
   obtain ⟨c, hc, rfl⟩ := List.mem_map.mp (List.mem_of_find?_eq_some e)
   have : c.1 = n := of_decide_eq_true h1
   subst this
   rfl
theorem cF {α : Type} (l : List α) : l.filter (fun _ => true) = l := List.filter_eq_self.mpr fun _ _ => rfl
theorem jk : ∀ {xs ys : List Int}, xs.Nodup -> (∀ x ∈ xs, x ∈ ys) -> xs.length <= ys.length
 | [], _, _, _ => Nat.zero_le _
 | x :: xs, ys, h, hs => by
   obtain ⟨h1, h2⟩ := List.nodup_cons.mp h
   have hx := hs x List.mem_cons_self
   have ih := jk (xs := xs) (ys := ys.erase x) h2 fun y hy => (List.mem_erase_of_ne (fun z : y = x => h1 (by rw [<- z]; exact hy))).mpr (hs y (List.mem_cons_of_mem _ hy))
   rw [List.length_erase_of_mem hx] at ih
   have : 0 < ys.length := List.length_pos_of_mem hx
   rw [List.length_cons]
   omega
theorem rO {α β : Type} {f : α -> β} {l : List α} {j : Nat} {c : α} (h : (l.map f).Nodup) (hc : l[j]? = some c) : f c ∉ (l.take j).map f := by
 intro hm
 obtain ⟨d, hd, e⟩ := List.mem_map.mp hm
 obtain ⟨i, hi, rfl⟩ := List.getElem_of_mem hd
 have jU : i < j := by rw [List.length_take] at hi; omega
 have pQ : j < l.length := (List.getElem?_eq_some_iff.mp hc).1
 rw [List.Nodup, List.pairwise_map] at h
 have := List.pairwise_iff_getElem.mp h i j (by omega) pQ jU
 rw [List.getElem_take] at e
 have xJ : l[j] = c := Option.some.inj ((List.getElem?_eq_getElem pQ).symm.trans hc)
 rw [xJ] at this
 exact this e
theorem j9 (f : Str -> Int) (cs : List C4) : (dU f cs).length = cs.length := List.length_map ..
theorem uL (f : Str -> Int) (cs : List C4) (c : C4) : dU f (cs ++ [c]) = dU f cs ++ [(c.1, .int (f c.1))] := by unfold dU; rw [List.map_append]; rfl
theorem y0 {n i : Nat} (h : i < n) : wH n (i : Int) = some i := by unfold wH; rw [if_pos (Int.natCast_nonneg _), if_pos (Int.ofNat_lt.mpr h)]; rfl
theorem vN {x y b : Addr} (h : b ∈ [x]) : b ∈ [x, y] := by
 have : b = x := by simpa using h
 rw [this]; exact List.mem_cons_self
def jj : Sp := fun vs H Q _ => ∃ (pr : Int) (v : V) (cs : List C4), vs = [.int pr, v] /\ Dv H v (.list (cs.map b7)) /\ gP cs /\ cs.length <= 60 /\ 0 <= pr /\ ∀ p H' f, ah H H' -> H p = none -> eG H' p (dU f cs) -> vG pr cs f -> Exact pr cs f -> Q (.ref p) H'
theorem pL {H : Hp} {Q : VK} {E : XK} {pr : Int} {v : V} {cs : List C4} (h : Dv H v (.list (cs.map b7))) (ho : gP cs) (hl : cs.length <= 60) (h0 : 0 <= pr) (q : ∀ p H' f, ah H H' -> H p = none -> eG H' p (dU f cs) -> vG pr cs f -> Exact pr cs f -> Q (.ref p) H') : jj [.int pr, v] H Q E := ⟨pr, v, cs, rfl, h, ho, hl, h0, q⟩
theorem uh (T : Txt K mg a) : bQ P w K mg base iV 5 a.bL a.iF ["price", "claims"] jj := by
 have uc := nh (P := P) (w := w) (base := base) T
 refine T.gb.ok aG (fun vs H Q E h => ?_) (fun df A outer s H vs Q E hr h => ?_)
 . obtain ⟨_, _, _, rfl, _⟩ := h; rfl
 . obtain ⟨pr, v, cs, rfl, hv, aK, hl, h0, q⟩ := h
   refine ⟨_, (ag (av (i := 2) aG.nd rfl (Or.inl rfl) (kY (fS (T := ["name", "first", "last", "weight"]) (M := ["price", "claims", "points", "loads", "shares", "05", "06", "07", "08", "held", "place"]) (sQ (aq bY) ["price", "claims", "points", "loads", "shares", "name", "first", "last", "weight", "held", "place"] rfl rfl (by decide +kernel)) rfl (bf (pv 1)) (fun _ _ _ _ _ => (iT (K := K) (n := 4) rfl rfl (au (ao (i := 0) (show List.Nodup (["name", "first", "last", "weight", "price", "claims", "points", "loads", "shares", "05", "06", "07", "08", "held", "place"] : List Str) by decide +kernel) rfl (Or.inl rfl)) (au (ao (i := 1) (show List.Nodup (["name", "first", "last", "weight", "price", "claims", "points", "loads", "shares", "05", "06", "07", "08", "held", "place"] : List Str) by decide +kernel) rfl (Or.inl rfl)) (au (ao (i := 2) (show List.Nodup (["name", "first", "last", "weight", "price", "claims", "points", "loads", "shares", "05", "06", "07", "08", "held", "place"] : List Str) by decide +kernel) rfl (Or.inl rfl)) (au (ao (i := 3) (show List.Nodup (["name", "first", "last", "weight", "price", "claims", "points", "loads", "shares", "05", "06", "07", "08", "held", "place"] : List Str) by decide +kernel) rfl (Or.inl rfl)) b6)))))) (f9 (aE (by decide) (aE (by decide) (aE (by decide) (aE (by decide) eL))))) (fun _ _ _ _ _ => di) (fun _ _ _ _ _ => (pv 1))) rfl rfl T.cn rfl T.kJ))
    (ag (av (i := 3) aG.nd rfl (Or.inr rfl) (fS (T := ["point"]) (M := ["price", "claims", "points", "loads", "shares", "name", "first", "last", "weight", "held", "place"]) (sQ (aq bY) ["price", "claims", "points", "loads", "shares", "name", "first", "last", "weight", "held", "place"] rfl rfl (by decide +kernel)) rfl (bf (pv 2)) (fun _ _ _ _ _ => (ao (i := 0) (show List.Nodup (["point", "price", "claims", "points", "loads", "shares", "name", "first", "last", "weight", "held", "place"] : List Str) by decide +kernel) rfl (Or.inl rfl))) (cq (by decide)) (fun _ _ _ _ _ => di) (fun _ _ _ _ _ => af)))
    (ag (av (i := 4) aG.nd rfl (Or.inl rfl) vT)
    (ag (cQ PassesOwn.never rfl (bf (pv 1)) (fu (n := 4) rfl (au (ao (i := 5) aG.nd rfl (Or.inl rfl)) (au (ao (i := 6) aG.nd rfl (Or.inr rfl)) (au (ao (i := 7) aG.nd rfl (Or.inr rfl)) (au (ao (i := 8) aG.nd rfl (Or.inl rfl)) b6)))))
     (ak (mZ (jG hr) (pv 4) (pv 5) af rfl)))
    (ag (cQ PassesOwn.never rfl (bf (wU uc (hr.mono (by decide)) rfl T.cn (ym rfl T.k6 rfl) (ae (pv 1) ai))) (fu (n := 4) rfl (au (ao (i := 5) aG.nd rfl (Or.inl rfl)) (au (ao (i := 6) aG.nd rfl (Or.inr rfl)) (au (ao (i := 7) aG.nd rfl (Or.inr rfl)) (au (ao (i := 8) aG.nd rfl (Or.inl rfl)) b6)))))
     (ag (EC (i := 9) aG.nd rfl (Or.inl rfl) (T := ["place", "point"]) (M := ["price", "claims", "points", "loads", "shares", "name", "first", "last", "weight", "held", "010"]) (sQ (aq bY) ["price", "claims", "points", "loads", "shares", "name", "first", "last", "weight", "held", "place"] rfl rfl (by decide +kernel)) rfl (oh rfl T.b5 (ae (pv 2) ai)) (fun _ _ _ _ _ => (iT (K := K) (n := 2) rfl rfl (au (ao (i := 0) (show List.Nodup (["place", "point", "price", "claims", "points", "loads", "shares", "name", "first", "last", "weight", "held", "010"] : List Str) by decide +kernel) rfl (Or.inl rfl)) (au (ao (i := 1) (show List.Nodup (["place", "point", "price", "claims", "points", "loads", "shares", "name", "first", "last", "weight", "held", "010"] : List Str) by decide +kernel) rfl (Or.inl rfl)) b6)))) (f9 (aE (by decide) (aE (by decide) eL))) (fun _ _ _ _ _ => (kh (gI gF gF (pv 8) (pv 1) (pv 9)))) (fun _ _ _ _ _ => (pv 0)) rfl)
     (ag (mZ (jG hr) (pv 4) (pv 5) (aQ (me rfl) rfl T.kA PyProof.Rows.boot_min (ae (pv 8) (ae (aj fV (pv 0) (aQ (tY rfl) rfl T.nM PyProof.Rows.boot_max (ae (fS (T := ["place"]) (M := ["price", "claims", "points", "loads", "shares", "name", "first", "last", "weight", "held", "010"]) (sQ (aq bY) ["price", "claims", "points", "loads", "shares", "name", "first", "last", "weight", "held", "place"] rfl rfl (by decide +kernel)) rfl (bf (pv 9)) (fun _ _ _ _ _ => (ao (i := 0) (show List.Nodup (["place", "price", "claims", "points", "loads", "shares", "name", "first", "last", "weight", "held", "010"] : List Str) by decide +kernel) rfl (Or.inl rfl))) (cq (by decide)) (fun _ _ _ _ _ => di) (fun _ _ _ _ _ => (aL (k7 (K := K) rfl) (pv 4) (pv 0) (fun _ _ => rfl)))) ai))) ai))) rfl)
     (ak (cQ PassesOwn.never rfl (bf (pv 9)) (ao (i := 10) aG.nd rfl (Or.inl rfl))
      (ak (wm (aj bh (aL eu (pv 3) (pv 10) (fun _ _ => rfl)) (iK (jG hr) (pv 4) (pv 5) (fun _ _ => rfl))) (BE (pv 3) (pv 10) set_list))))))))
    (ak (aI (pv 4)))))))), ?_⟩
   repeat' (walk_at "rd1")
   refine k9 ?_
   repeat' (walk_at "rd1")
   refine j0 (cs := cs) (gd := b7) (fun _ => true) (fun c => .int c.2.1) hv (by omega) (fun _ => rfl) (fun x c H2 N hc cA hx yes no => ?_) (fun q1 H1 ez sN oA => ?_)
   . have jb : Dv H2 x (.tuple [.str c.1, .int c.2.1, .int c.2.2.1, .int c.2.2.2]) := hx
     refine iu jb (fun v1 v2 v3 v4 e1 e2 e3 e4 => ?_)
     obtain rfl := e1.str_inv
     obtain rfl := e2.int_inv
     obtain rfl := e3.int_inv
     obtain rfl := e4.int_inv
     refine b9 (fun hb => ?_) (fun hb => by cases hb)
     repeat' (walk_at "rd1")
     exact yes rfl _ _ (ah.refl _) (.int _)
   have oi : Dv H1 (.ref q1) (.list ((cs.map (·.2.1)).map PyData.int)) := by
    have := oA.dv
    rw [cF] at this
    rw [List.map_map]; exact this
   refine lZ oi (by rw [List.length_map]; omega) (fun q2 H2 ps cA oB b4 jh jX => ?_)
   have mB : ps.length <= 60 := by
    have := jk (b4.imp fun h => Int.ne_of_lt h) (fun x hx => (jh x).mp hx)
    rw [List.length_map] at this
    omega
   repeat' (walk_at "rd1")
   refine j0 (cs := ps) (gd := PyData.int) (fun _ => true) (fun _ => .int 0) jX.dv (by omega) (fun _ => rfl) (fun x c H3 N hc sm3 hx yes no => ?_) (fun q3 H3 sm3 um Aw => ?_)
   . obtain rfl := hx.int_inv
     repeat' (walk_at "rd1")
     refine b9 (fun hb => ?_) (fun hb => by cases hb)
     repeat' (walk_at "rd1")
     exact yes rfl _ _ (ah.refl _) (.int _)
   rw [cF] at Aw
   repeat' (walk_at "rd1")
   rename_i q4 H4 lS xE Ek
   have sV : ah H H3 := (ez.trans cA).trans sm3
   refine mr (Hb := H) (cs := cs) (gd := b7) hv (fun j σ' H' => ∃ z5 z6 z7 z8, σ' = [some (.int pr), some v, some (.ref q2), some (.ref q3), some (.ref q4), z5, z6, z7, z8, none, none] /\ ah H3 H' /\ eG H' q4 (dU (fun _ => 0) (cs.take j))) ⟨_, _, _, _, rfl, lS, Ek⟩ (fun i σ' H' _ ⟨_, _, _, _, _, pG, _⟩ a' xs _ hx => ah.seq (sV.trans pG) hx) ?_ ?_
   . rintro j c x σ' H' hc ⟨z5, z6, z7, z8, rfl, pG, lX⟩ _ hd
     have hx : Dv H' x (.tuple [.str c.1, .int c.2.1, .int c.2.2.1, .int c.2.2.2]) := hd (sV.trans pG)
     have Ce : (dU (fun _ => 0) (cs.take j)).length <= 60 := by rw [j9, List.length_take]; omega
     refine iu hx (fun v1 v2 v3 v4 e1 e2 e3 e4 => ?_)
     obtain rfl := e1.str_inv
     obtain rfl := e2.int_inv
     obtain rfl := e3.int_inv
     obtain rfl := e4.int_inv
     repeat' (walk_at "rd1")
     rename_i H5 P9 zK
     rw [x8 (rO aK.nd hc)] at zK
     exact ⟨_, _, _, _, rfl, by walk_at "same", by rw [take_snoc hc, uL]; exact zK⟩
   rintro σ' H' ⟨z5, z6, z7, z8, rfl, pG, lX⟩
   rw [List.take_length] at lX
   have Ks := pG
   have Fd : Dv H' v (.list (cs.map b7)) := hv.keeps (sV.trans pG)
   repeat' (walk_at "rd1")
   refine yR (cs := cs) b7 dC yn (fun c c' h => by rw [ya h]) Fd (by omega) (fun c v' H' hc pG hd => qX hd (fun y PV s d => ⟨s, d⟩)) (fun sq H5 ls m8 Bh pF j8 MX => ?_)
   repeat' (walk_at "rd1")
   have FE : bG H' q2 (ps.map PyData.int) := (jX.keeps sm3).keeps pG
   have FH : bG H' q3 (ps.map fun _ => PyData.int 0) := Aw.keeps pG
   have Pj : q2 ≠ q3 := jX.ne um
   have Ml : q2 ≠ q4 := (jX.keeps sm3).ne xE
   have IZ : q3 ≠ q4 := Aw.ne xE
   have PB : q2 ≠ sq := FE.ne Bh
   have MV : q3 ≠ sq := FH.ne Bh
   have MZ : q4 ≠ sq := lX.ne Bh
   have J4 := FE.keeps m8
   have JO := FH.keeps m8
   have zK := lX.keeps m8
   have Ma : ls.length = cs.length := pF.length_eq
   have xC : (ls.map (·.1)).Nodup := (pF.map _).nodup_iff.mpr aK.nd
   refine mr (Hb := H5) (cs := ls) (gd := b7) MX.dv (fun j σ' H' => ∃ z5 z6 z7 z8 z9 iN f, σ' = [some (.int pr), some v, some (.ref q2), some (.ref q3), some (.ref q4), z5, z6, z7, z8, z9, iN] /\ Mv [q3, q4] H5 H' /\ eG H' q4 (dU f cs) /\ bG H' q3 ((ps.map (load f (ls.take j))).map PyData.int) /\ Pr pr ps f (ls.take j) /\ DC pr ps f (ls.take j)) ⟨_, _, _, _, _, _, fun _ => 0, rfl, Mv.refl, zK, by rw [List.map_map]; exact JO, ⟨fun c hc => by simp at hc, fun p _ => h0⟩, fun i c h => by simp at h⟩ (fun i σ' H' _ ⟨_, _, _, _, _, _, _, _, mv, _⟩ a' xs e hx => by cases e; exact mv.sq (by simp [Ne.symm MV, Ne.symm MZ]) hx) ?_ ?_
   . rintro j c x σ' H' hc ⟨z5, z6, z7, z8, z9, iN, f, rfl, mv, lX, DT, Hd, Ei⟩ hd _
     have hx : Dv H' x (.tuple [.str c.1, .int c.2.1, .int c.2.2.1, .int c.2.2.2]) := hd rfl mv.tp
     have pQ : j < ls.length := (List.getElem?_eq_some_iff.mp hc).1
     have Ov : c ∈ ls := List.mem_of_getElem? hc
     have uj : c ∈ cs := pF.mem_iff.mp Ov
     have Gq : c.1 ∈ cs.map (·.1) := List.mem_map_of_mem uj
     have B5 := rO xC hc
     have rm := take_snoc hc
     have hw := aK.w1 c uj
     have Ce : (dU f cs).length <= 60 := by rw [j9]; exact hl
     have Js : bG H' q2 (ps.map PyData.int) := J4.mv mv (by simp [Pj, Ml])
     refine iu hx (fun v1 v2 v3 v4 e1 e2 e3 e4 => ?_)
     obtain rfl := e1.str_inv
     obtain rfl := e2.int_inv
     obtain rfl := e3.int_inv
     obtain rfl := e4.int_inv
     repeat' (walk_at "rd1")
     refine FD (cs := ps) (gd := PyData.int) (fun x => con x.1 c) (fun x => .int (x.2 : Nat)) Js.dv (by omega) (fun _ => rfl) (fun y t Hx N ht cA hy yes no => ?_) (fun hq H6 q9 Av Mi => ?_)
     . refine CH hy (fun w1 w2 f1 f2 => ?_)
       obtain rfl := f1.int_inv
       obtain rfl := f2.int_inv
       repeat' (walk_at "rd1")
       . rename_i h1
         refine b9 (fun hb => ?_) (fun hb => no (by simp [con, h1, of_decide_eq_false hb]) _ (ah.refl _))
         repeat' (walk_at "rd1")
         exact yes (by simp [con, h1, of_decide_eq_true hb]) _ _ (ah.refl _) (.int _)
       . rename_i h1
         exact b9 (fun hb => by cases hb) (fun _ => no (by simp [con, h1]) _ (ah.refl _))
     have EI : bG H6 hq ((heldOf ps c).map fun i => PyData.int (i : Nat)) := by unfold heldOf; rw [List.map_map]; exact Mi
     have PJ := v8 ps c
     have Ko := lX.keeps q9
     have Ip := DT.keeps q9
     have O2 : q3 ≠ hq := DT.ne Av
     have N8 : q4 ≠ hq := lX.ne Av
     have k8 : 0 < ((heldOf ps c).map fun i => (ps.map (load f (ls.take j))).getD i 0).length := by
      rw [List.length_map]
      have hf : c.2.1 ∈ ps := (jh _).mpr (List.mem_map_of_mem uj)
      obtain ⟨i, hi, e⟩ := List.getElem_of_mem hf
      exact List.length_pos_of_mem (dN.mpr ⟨c.2.1, by rw [List.getElem?_eq_getElem hi, e], bx.mpr ⟨Int.le_refl _, aK.ok.wd c uj⟩⟩)
     repeat' (walk_at "rd1")
     refine j0 (cs := heldOf ps c) (gd := fun i => .int (i : Nat)) (fun _ => true) (fun i => .int ((ps.map (load f (ls.take j))).getD i 0)) EI.dv (by omega) (fun _ => rfl) (fun y i Hx N hi lF hy yes no => ?_) (fun mq H7 lF D2 LK => ?_)
     . obtain rfl := hy.int_inv
       have b4 := nB hi
       repeat' (walk_at "rd1")
       refine b9 (fun hb => ?_) (fun hb => by cases hb)
       repeat' (walk_at "rd1")
       exact yes rfl _ _ (ah.refl _) (.int _)
     rw [cF] at LK
     have HS : Dv H7 (.ref mq) (.list (((heldOf ps c).map fun i => (ps.map (load f (ls.take j))).getD i 0).map PyData.int)) := by rw [List.map_map]; exact LK.dv
     have KD := Ko.keeps lF
     repeat' (walk_at "rd1")
     refine CT HS k8 (fun mx Hh Fg => ?_)
     repeat' (walk_at "rd1")
     rename_i vv hv yy sT H8 HD G3
     rw [yG Gq] at G3
     have El : oq (dU (dQ f c.1 vv) cs) c.1 = some (.int vv) := by rw [kj Gq]; simp [dQ]
     have JP : bG H8 q3 ((ps.map (load f (ls.take j))).map PyData.int) := (Ip.keeps lF).mv HD (by simp [IZ])
     have Jo : bG H8 hq ((heldOf ps c).map fun i => PyData.int (i : Nat)) := (EI.keeps lF).mv HD (by simp [Ne.symm N8])
     have OB : Mv [q3, q4] H5 H8 := by
      refine ((mv.vy q9).vy lF).step HD ?_
      exact fun b hb => .inl (List.mem_cons_of_mem _ hb)
     refine mr (Hb := H8) (cs := heldOf ps c) (gd := fun i => PyData.int (i : Nat)) Jo.dv (fun t σ' H' => ∃ iN, σ' = [some (.int pr), some v, some (.ref q2), some (.ref q3), some (.ref q4), some (.str c.1), some (.int c.2.1), some (.int c.2.2.1), some (.int c.2.2.2), some (.ref hq), iN] /\ Mv [q3] H8 H' /\ bG H' q3 ((fH vv (ps.map (load f (ls.take j))) ((heldOf ps c).take t)).map PyData.int)) ⟨_, rfl, Mv.refl, JP⟩ (fun i σ' H' _ ⟨_, _, mv, _⟩ a' xs e hx => by cases e; exact mv.sq (by simp [Ne.symm O2]) hx) ?_ ?_
     . rintro t i x σ' H' hi ⟨iN, rfl, rC, y3⟩ Ji _
       obtain rfl := (Ji rfl rC.tp).int_inv
       have hit := nB (List.mem_of_getElem? hi)
       have OL : eG H' q4 (dU (dQ f c.1 vv) cs) := G3.mv rC (by simp [Ne.symm IZ])
       have uD : (fH vv (ps.map (load f (ls.take j))) ((heldOf ps c).take t)).length = ps.length := by rw [jx, List.length_map]
       repeat' (walk_at "rd1")
       refine uS (j := i) y3 (y0 (by rw [List.length_map, uD]; exact hit)) (Dv.int _) rfl (fun H9 pR FI => ?_)
       refine ⟨_, rfl, rC.step pR fun b hb => .inl hb, ?_⟩
       rw [take_snoc hi, qi, List.map_set]
       exact FI
     . rintro σ' H' ⟨iN, rfl, rC, y3⟩
       rw [List.take_length, sO] at y3
       refine ⟨_, _, _, _, _, _, dQ f c.1 vv, rfl, ?_, G3.mv rC (by simp [Ne.symm IZ]), ?_, ?_, ?_⟩
       . exact OB.step rC fun b hb => .inl (vN hb)
       . rw [rm]
         have : ps.map (load (dQ f c.1 vv) (ls.take j ++ [c])) = ps.map fun p => load f (ls.take j) p + (if con p c = true then vv else 0) := List.map_congr_left fun p _ => pj B5
         rw [this]; exact y3
       . rw [rm]
         obtain ⟨i, hi, e⟩ := List.mem_map.mp Hh
         exact Hd.step B5 (fun i hi => Fg _ (List.mem_map.mpr ⟨i, hi, rfl⟩)) ⟨i, hi, e.symm⟩ hv yy sT hw.1
       . rw [rm]
         obtain ⟨i, hi, e⟩ := List.mem_map.mp Hh
         exact Ei.step B5 (fun i hi => Fg _ (List.mem_map.mpr ⟨i, hi, rfl⟩)) ⟨i, hi, e.symm⟩ hv yy sT
   . rintro σ' H' ⟨z5, z6, z7, z8, z9, iN, f, rfl, mv, lX, DT, Hd, Ei⟩
     rw [List.take_length] at Hd Ei
     repeat' (walk_at "rd1")
     refine q q4 H' f ?_ ?_ lX (Hd.shr pF fun c hc => (jh _).mpr (List.mem_map_of_mem hc)) ⟨ls, ps, pF, j8, jh, Ei⟩
     . have h3 : H q3 = none := (ez.trans cA).none um
       have h4 : H q4 = none := sV.none xE
       intro b u e
       refine mv.kp b u (fun z => ?_) (m8 b u (Ks b u (sV b u e)))
       have : b = q3 \/ b = q4 := by simpa using z
       rcases this with rfl | rfl
       . rw [h3] at e; cases e
       . rw [h4] at e; cases e
     . exact sV.none xE
theorem kE (T : Txt K mg a) : lg P w K mg base 5 a.bL ["price", "claims"] [] jj :=
 ⟨⟨_, _, uh T, T.gb.binds fun _ _ _ _ _ _ => .all fun us hl => match us, hl with | [_, _], _ => rfl, .nil⟩⟩
theorem yf {f : Str -> Int} {G : List C4} (hf : ∀ d ∈ G, 0 <= f d.1) (p : Int) : 0 <= load f G p := by
 have := jF (P := fun _ => false) (R := con p) (g := fun _ => 0) (h := fun c => f c.1) (cs := G) (fun c _ z => by cases z) (fun c hc _ => hf c hc)
 have e : sf (fun _ => false) (fun _ => 0) G = 0 := by unfold sf; rw [List.filter_eq_nil_iff.mpr (fun _ _ z => by cases z)]; rfl
 unfold load
 omega
theorem gQ {f : Str -> Int} {ls : List C4} (hf : ∀ d ∈ ls, 0 <= f d.1) {i j : Nat} (h : i <= j) (p : Int) : load f (ls.take i) p <= load f (ls.take j) p := by
 have e : ls.take j = ls.take i ++ (ls.take j).drop i := by
  have e0 := List.take_append_drop i (ls.take j)
  rw [List.take_take, Nat.min_eq_left h] at e0
  exact e0.symm
 rw [e]
 unfold load
 rw [n5]
 have : 0 <= sf (con p) (fun c => f c.1) ((ls.take j).drop i) := yf (f := f) (fun d hd => hf d (List.mem_of_mem_take (List.mem_of_mem_drop hd))) p
 omega
theorem sY {f : Str -> Int} {ds : List C4} {c : C4} {p : Int} : load f (ds ++ [c]) p = load f ds p + (if con p c = true then f c.1 else 0) := by
 unfold load; rw [n5, a8, gH]; omega
theorem rA : ∀ (ps : List Int), ps ≠ [] -> ∃ m ∈ ps, ∀ p ∈ ps, p <= m
 | [], h => absurd rfl h
 | [c], _ => ⟨c, by simp, fun d hd => by have : d = c := by simpa using hd
                                         rw [this]; exact Int.le_refl _⟩
 | c :: d :: r, _ => by
   obtain ⟨e, he, hm⟩ := rA (d :: r) (by simp)
   by_cases h : c <= e
   . exact ⟨e, List.mem_cons_of_mem _ he, fun x hx => (List.mem_cons.mp hx).elim (fun z => z ▸ h) (hm x)⟩
   . exact ⟨c, List.mem_cons_self, fun x hx => (List.mem_cons.mp hx).elim (fun z => z ▸ Int.le_refl _) (fun z => by have := hm x z; omega)⟩
structure Bw (pr : Int) (ps : List Int) (f : Str -> Int) (ls : List C4) (i : Nat) (W : List Int) : Prop where
 mk' : ∀ w ∈ W, w ∈ ps /\ ∃ k d, i <= k /\ ls[k]? = some d /\ con w d = true /\ load f (ls.take (k + 1)) w = pr /\ ∀ p ∈ ps, con p d = true -> load f (ls.take (k + 1)) p = pr -> p <= w
 hit : ∀ k c, i <= k -> ls[k]? = some c -> f c.1 < c.2.2.2 -> hit W c = true
 one : ∀ c ∈ ls, 0 < f c.1 -> ∀ w ∈ W, ∀ w' ∈ W, con w c = true -> con w' c = true -> w = w'
 nd : W.Nodup
theorem sL {pr : Int} {ps : List Int} {f : Str -> Int} {ls : List C4} {i : Nat} {W : List Int} {c : C4} (hf : ∀ d ∈ ls, 0 <= f d.1) (wy : ∀ p ∈ ps, load f ls p <= pr) (j8 : ∀ (i j : Nat) (c d : C4), i <= j -> ls[i]? = some c -> ls[j]? = some d -> c.2.2.1 <= d.2.2.1) (hg : DC pr ps f ls) (hc : ls[i]? = some c) (h : Bw pr ps f ls (i + 1) W) : ∃ W', Bw pr ps f ls i W' := by
 have rm : ls.take (i + 1) = ls.take i ++ [c] := take_snoc hc
 have up : ∀ {j : Nat} {p : Int}, p ∈ ps -> load f (ls.take j) p <= pr := fun {j p} hp => by
  have h1 := gQ hf (Nat.le_max_left j ls.length) p
  rw [List.take_of_length_le (Nat.le_max_right j ls.length)] at h1
  exact Int.le_trans h1 (wy p hp)
 by_cases hh : f c.1 < c.2.2.2 /\ My.hit W c = false
 . obtain ⟨b4, Hk⟩ := hh
   obtain ⟨p0, D9, Hm, Hh, a1, b1, e1⟩ := hg i c hc
   have FK : load f (ls.take (i + 1)) p0 = pr := by rw [rm, sY, if_pos Hm]; omega
   have om : ps.filter (fun p => con p c && decide (load f (ls.take (i + 1)) p = pr)) ≠ [] := fun z => by
    have : p0 ∈ ps.filter (fun p => con p c && decide (load f (ls.take (i + 1)) p = pr)) := List.mem_filter.mpr ⟨D9, by simp [Hm, FK]⟩
    rw [z] at this; simp at this
   obtain ⟨q, hq, F9⟩ := rA _ om
   obtain ⟨D8, jX⟩ := List.mem_filter.mp hq
   rw [Bool.and_eq_true] at jX
   have G4 := jX.1
   have OI : load f (ls.take (i + 1)) q = pr := of_decide_eq_true jX.2
   have Dk : ∀ w ∈ W, con w c = true -> False := fun w hw D0 => by
    have : My.hit W c = true := (aJ W c).mpr ⟨w, hw, bx.mp D0⟩
    rw [this] at Hk; cases Hk
   have qc := bx.mp G4
   have key : ∀ d ∈ ls, 0 < f d.1 -> con q d = true -> ∀ w ∈ W, con w d = true -> False := fun d hd k8 Lr w hw JB => by
    obtain ⟨t, ht, ed⟩ := List.getElem_of_mem hd
    have Ky : ls[t]? = some d := by rw [List.getElem?_eq_getElem ht, ed]
    have Kw : t <= i := by
     rcases Nat.lt_or_ge i t with h1 | h1
     . obtain ⟨p1, KY, LU, Ku, a2, b2, e2⟩ := hg t d Ky
       have g1 := gQ hf (show i + 1 <= t from h1) q
       have g2 := Ku q D8 Lr
       omega
     . exact h1
    obtain ⟨Qo, k, d2, hk, hd2, Jw, Qb, Ei⟩ := h.mk' w hw
    have l1 := j8 t i d c Kw Ky hc
    have l2 := j8 i k c d2 (by omega) hc hd2
    have x1 := bx.mp Lr
    have x2 := bx.mp JB
    have x3 := bx.mp Jw
    rcases Int.lt_trichotomy w q with h1 | h1 | h1
    . have h2 : con q d2 = true := bx.mpr ⟨by omega, by omega⟩
      have h3 : load f (ls.take (k + 1)) q = pr := by
       have g1 := gQ hf (show i + 1 <= k + 1 by omega) q
       have g2 := up (j := k + 1) D8
       omega
      have := Ei q D8 h2 h3
      omega
    . subst h1; exact Dk w hw G4
    . exact Dk w hw (bx.mpr ⟨by omega, by omega⟩)
   refine ⟨q :: W, ⟨fun w hw => ?_, fun k d hk hd zM => ?_, fun d hd k8 w hw w' OM D0 yH => ?_, ?_⟩⟩
   . rcases List.mem_cons.mp hw with rfl | hw
     . exact ⟨D8, i, c, Nat.le_refl _, hc, G4, OI, fun p hp Pt N3 => F9 p (List.mem_filter.mpr ⟨hp, by simp [Pt, N3]⟩)⟩
     . obtain ⟨h1, k, d, h2, h3⟩ := h.mk' w hw
       exact ⟨h1, k, d, by omega, h3⟩
   . rcases Nat.lt_or_ge i k with h1 | h1
     . have := (aJ W d).mp (h.hit k d h1 hd zM)
       obtain ⟨t, ht, h2⟩ := this
       exact (aJ _ d).mpr ⟨t, List.mem_cons_of_mem _ ht, h2⟩
     . have J1 : k = i := by omega
       subst J1
       rw [hc] at hd
       cases hd
       exact (aJ _ c).mpr ⟨q, List.mem_cons_self, qc⟩
   . rcases List.mem_cons.mp hw with e1 | w1 <;> rcases List.mem_cons.mp OM with e2 | w2
     . rw [e1, e2]
     . rw [e1] at D0
       exact (key d hd k8 D0 w' w2 yH).elim
     . rw [e2] at yH
       exact (key d hd k8 yH w w1 D0).elim
     . exact h.one d hd k8 w w1 w' w2 D0 yH
   . exact List.nodup_cons.mpr ⟨fun hw => Dk q hw G4, h.nd⟩
 . refine ⟨W, ⟨fun w hw => ?_, fun k d hk hd zM => ?_, h.one, h.nd⟩⟩
   . obtain ⟨h1, k, d, h2, h3⟩ := h.mk' w hw
     exact ⟨h1, k, d, by omega, h3⟩
   . rcases Nat.lt_or_ge i k with h1 | h1
     . exact h.hit k d h1 hd zM
     . have J1 : k = i := by omega
       subst J1
       rw [hc] at hd
       cases hd
       cases hx : My.hit W c with
       | true => rfl
       | false => exact absurd ⟨zM, hx⟩ hh
theorem o4 {pr : Int} {ps : List Int} {f : Str -> Int} {ls : List C4} (hf : ∀ d ∈ ls, 0 <= f d.1) (wy : ∀ p ∈ ps, load f ls p <= pr) (j8 : ∀ (i j : Nat) (c d : C4), i <= j -> ls[i]? = some c -> ls[j]? = some d -> c.2.2.1 <= d.2.2.1) (hg : DC pr ps f ls) : ∀ n : Nat, n <= ls.length -> ∃ W, Bw pr ps f ls (ls.length - n) W
 | 0, _ => ⟨[], ⟨fun w hw => by simp at hw, fun k c hk hc _ => by have := (List.getElem?_eq_some_iff.mp hc).1; omega, fun c _ _ w hw => by simp at hw, .nil⟩⟩
 | n + 1, hn => by
   obtain ⟨W, h⟩ := o4 hf wy j8 hg n (by omega)
   have hi : ls.length - (n + 1) < ls.length := by omega
   have e : ls.length - n = ls.length - (n + 1) + 1 := by omega
   rw [e] at h
   exact sL hf wy j8 hg (List.getElem?_eq_getElem hi) h
def cnt (W : List Int) (c : C4) : Int := ((W.filter fun w => con w c).length : Nat)
theorem pB (f : Str -> Int) : ∀ (cs : List C4) (p : Int), load f cs p = (cs.map fun c => if con p c = true then f c.1 else 0).sum
 | [], _ => rfl
 | c :: cs, p => by
   have := pB f cs p
   unfold load at this ⊢
   rw [a8, List.map_cons, List.sum_cons, this]
theorem sum_add {α : Type} (g h : α -> Int) : ∀ l : List α, (l.map fun x => g x + h x).sum = (l.map g).sum + (l.map h).sum
 | [] => rfl
 | x :: l => by have := sum_add g h l; simp only [List.map_cons, List.sum_cons] at this ⊢; omega
theorem mz (f : Str -> Int) (cs : List C4) : ∀ W : List Int, (W.map (load f cs)).sum = (cs.map fun c => f c.1 * cnt W c).sum
 | [] => by
   have : (cs.map fun c => f c.1 * cnt [] c) = cs.map fun _ => 0 := List.map_congr_left fun c _ => by simp [cnt]
   rw [this]
   have z : ∀ l : List C4, (l.map fun _ => (0 : Int)).sum = 0 := fun l => by induction l with | nil => rfl | cons x r ih => simp only [List.map_cons, List.sum_cons, ih]; rfl
   rw [z]; rfl
 | w :: W => by
   have ih := mz f cs W
   rw [List.map_cons, List.sum_cons, ih, pB, <- sum_add]
   congr 1
   refine List.map_congr_left fun c _ => ?_
   unfold cnt
   rw [List.filter_cons]
   by_cases h : con w c = true
   . simp only [h, if_true, List.length_cons, Int.natCast_add, Int.mul_add]
     simp
     omega
   . simp only [h, if_false, Bool.false_eq_true]; omega
theorem zf {W : List Int} {c : C4} (hn : W.Nodup) (h : ∀ w ∈ W, ∀ w' ∈ W, con w c = true -> con w' c = true -> w = w') : cnt W c = if hit W c = true then 1 else 0 := by
 unfold cnt
 cases hl : W.filter (fun w => con w c) with
 | nil =>
   rw [if_neg]
   . rfl
   . intro hh
     obtain ⟨t, ht, h1⟩ := (aJ W c).mp hh
     have : t ∈ W.filter (fun w => con w c) := List.mem_filter.mpr ⟨ht, bx.mpr h1⟩
     rw [hl] at this; simp at this
 | cons x r =>
   have hx : x ∈ W.filter (fun w => con w c) := by rw [hl]; exact List.mem_cons_self
   obtain ⟨x1, x2⟩ := List.mem_filter.mp hx
   rw [if_pos ((aJ W c).mpr ⟨x, x1, bx.mp x2⟩)]
   have xC : (x :: r).Nodup := by rw [<- hl]; exact hn.filter _
   cases r with
   | nil => rfl
   | cons y r =>
     have hy : y ∈ W.filter (fun w => con w c) := by rw [hl]; simp
     obtain ⟨y1, y2⟩ := List.mem_filter.mp hy
     have := h x x1 y y1 x2 y2
     subst this
     exact absurd List.mem_cons_self (List.nodup_cons.mp xC).1
def dc (W : List Int) (cs : List C4) : Int := (cs.map fun c => if hit W c = true then 0 else c.2.2.2).sum
theorem yJ {pr : Int} {cs : List C4} {f : Str -> Int} (hs : vG pr cs f) (hx : Exact pr cs f) : ∃ W : List Int, W.length <= cs.length /\ (cs.map fun c => f c.1).sum = W.length * pr + dc W cs := by
 obtain ⟨ls, ps, hp, ho, hm, hg⟩ := hx
 have hf : ∀ d ∈ ls, 0 <= f d.1 := fun d hd => hs.nn d (hp.mem_iff.mp hd)
 have wy : ∀ p ∈ ps, load f ls p <= pr := fun p IP => by
  obtain ⟨c, hc, rfl⟩ := List.mem_map.mp ((hm p).mp IP)
  have := hs.ld c hc
  unfold load at this ⊢
  rwa [rY hp]
 have j8 : ∀ (i j : Nat) (c d : C4), i <= j -> ls[i]? = some c -> ls[j]? = some d -> c.2.2.1 <= d.2.2.1 := fun i j c d jU hi hj => by
  rcases Nat.lt_or_eq_of_le jU with h | rfl
  . obtain ⟨DK, rfl⟩ := List.getElem?_eq_some_iff.mp hi
    obtain ⟨Hu, rfl⟩ := List.getElem?_eq_some_iff.mp hj
    have h1 := (List.pairwise_iff_getElem.mp ho) i j DK Hu h
    rcases Int.lt_or_le ls[j].2.2.1 ls[i].2.2.1 with b4 | hle
    . have h3 : cb (dC ls[j]) (dC ls[i]) = true := by
       unfold cb dC
       rw [decide_eq_true b4]; rfl
      rw [h3] at h1; cases h1
    . exact hle
  . rw [hi] at hj; cases hj; exact Int.le_refl _
 obtain ⟨W, hD⟩ := o4 hf wy j8 hg ls.length (Nat.le_refl _)
 rw [Nat.sub_self] at hD
 refine ⟨W, ?_, ?_⟩
 . have := jk hD.nd (ys := cs.map (·.2.1)) fun w hw => (hm w).mp (hD.mk' w hw).1
   rwa [List.length_map] at this
 . have full : ∀ w ∈ W, load f ls w = pr := fun w hw => by
    obtain ⟨h1, k, d, _, _, _, h2, _⟩ := hD.mk' w hw
    have g1 := gQ hf (Nat.le_max_left (k + 1) ls.length) w
    rw [List.take_of_length_le (Nat.le_max_right (k + 1) ls.length), h2] at g1
    have := wy w h1
    omega
   have e1 : (W.map (load f ls)).sum = W.length * pr := by
    have : W.map (load f ls) = W.map fun _ => pr := List.map_congr_left fun w hw => full w hw
    rw [this]
    have z : ∀ l : List Int, (l.map fun _ => pr).sum = l.length * pr := fun l => by
     induction l with
     | nil => simp
     | cons x r ih =>
       simp only [List.map_cons, List.sum_cons, ih, List.length_cons, Int.natCast_add, Int.add_mul]
       simp
       omega
    exact z W
   have e2 := mz f ls W
   have e3 : (ls.map fun c => f c.1).sum = (ls.map fun c => f c.1 * cnt W c).sum + (ls.map fun c => if hit W c = true then 0 else c.2.2.2).sum := by
    rw [<- sum_add]
    congr 1
    refine List.map_congr_left fun c hc => ?_
    have hn := hf c hc
    by_cases h0 : 0 < f c.1
    . rw [zf hD.nd (hD.one c hc h0)]
      by_cases hh : hit W c = true
      . simp only [hh, if_true]; omega
      . simp only [hh, if_false, Bool.false_eq_true]
        obtain ⟨k, hk, ek⟩ := List.getElem_of_mem hc
        have hw : ¬ f c.1 < c.2.2.2 := fun z => hh (hD.hit k c (Nat.zero_le _) (by rw [List.getElem?_eq_getElem hk, ek]) z)
        have := hs.le c (hp.mem_iff.mp hc)
        omega
    . have hz : f c.1 = 0 := by omega
      rw [hz]
      by_cases hh : hit W c = true
      . simp only [hh, if_true]; omega
      . simp only [hh, if_false, Bool.false_eq_true]
        obtain ⟨k, hk, ek⟩ := List.getElem_of_mem hc
        have hw : ¬ f c.1 < c.2.2.2 := fun z => hh (hD.hit k c (Nat.zero_le _) (by rw [List.getElem?_eq_getElem hk, ek]) z)
        have := hs.le c (hp.mem_iff.mp hc)
        omega
   have e4 : (cs.map fun c => f c.1).sum = (ls.map fun c => f c.1).sum := (ko (hp.map _)).symm
   have e5 : dc W cs = (ls.map fun c => if hit W c = true then 0 else c.2.2.2).sum := (ko (hp.map _)).symm
   rw [e4, e5, e3, <- e2, e1]
theorem tq {pr : Int} {cs : List C4} {g : C4 -> Int} (h0 : ∀ c ∈ cs, 0 <= g c) (hw : ∀ c ∈ cs, g c <= c.2.2.2) (hl : ∀ t : Int, sf (con t) g cs <= pr) : ∀ W : List Int, (cs.map g).sum <= W.length * pr + dc W cs := by
 intro W
 have e1 : (cs.map g).sum = sf (hit W) g cs + sf (fun c => !hit W c) g cs := (kn (P := hit W) (g := g) cs).symm
 have e2 : sf (fun c => !hit W c) g cs <= dc W cs := by
  have z : dc W cs = sf (fun c => !hit W c) (fun c => c.2.2.2) cs := by
   unfold dc
   clear h0 hw hl e1
   induction cs with
   | nil => rfl
   | cons c r ih =>
     rw [a8, List.map_cons, List.sum_cons, ih]
     by_cases hh : hit W c = true
     . simp [hh]
     . simp [hh]
  rw [z]
  exact jF (fun c hc hp => ⟨hp, hw c hc⟩) (fun c hc _ => Int.le_trans (h0 c hc) (hw c hc))
 have e3 : ∀ W : List Int, sf (hit W) g cs <= W.length * pr := by
  intro W
  induction W with
  | nil =>
    have : cs.filter (hit []) = [] := List.filter_eq_nil_iff.mpr fun c _ => by rw [aJ]; simp
    unfold sf; rw [this]; simp
  | cons t ts ih =>
    have e : hit (t :: ts) = fun c => con t c || hit ts c := funext (oJ t ts)
    have h1 := xr (P := con t) (R := hit ts) (g := g) (cs := cs) h0
    have h2 := hl t
    rw [e, List.length_cons]
    have : ((ts.length + 1 : Nat) : Int) * pr = ts.length * pr + pr := by rw [Int.natCast_add, Int.add_mul]; simp
    omega
 have := e3 W
 omega
abbrev fB (W : List Int) : Prop := W.Pairwise (· < ·)
def wt (c : C4) : Int := c.2.2.2
theorem dI (W : List Int) (cs : List C4) : fT W cs = sf (hit W) wt cs := rfl
def zi (a : Option Int) (c : C4) : Bool := match a with | none => true | some x => decide (x < c.2.1)
def jt (cs : List C4) (a : Option Int) (t : Int) : Int := sf (fun c => con t c && zi a c) wt cs
theorem oN {W : List Int} {a : Int} (h : fB W) (hl : W.getLast? = some a) : ∀ w ∈ W, w <= a := by
 obtain ⟨V, rfl⟩ := List.getLast?_eq_some_iff.mp hl
 intro w hw
 rcases List.mem_append.mp hw with h1 | h1
 . exact Int.le_of_lt ((List.pairwise_append.mp h).2.2 w h1 a (by simp))
 . have : w = a := by simpa using h1
   omega
theorem vD (W : List Int) (t : Int) (c : C4) : hit (W ++ [t]) c = (hit W c || con t c) := by
 rw [Bool.eq_iff_iff, Bool.or_eq_true, aJ, aJ, bx]
 constructor
 . rintro ⟨u, hu, h⟩
   rcases List.mem_append.mp hu with h1 | h1
   . exact .inl ⟨u, h1, h⟩
   . have : u = t := by simpa using h1
     subst this
     exact .inr h
 . rintro (⟨u, hu, h⟩ | h)
   . exact ⟨u, List.mem_append_left _ hu, h⟩
   . exact ⟨t, by simp, h⟩
theorem mU {W : List Int} {t : Int} (h : fB W) (ht : ∀ w ∈ W, w < t) (cs : List C4) : fT (W ++ [t]) cs = fT W cs + jt cs W.getLast? t := by
 unfold jt
 rw [dI, dI]
 induction cs with
 | nil => rfl
 | cons c cs ih =>
   rw [a8, a8, a8, ih, vD]
   by_cases hc : con t c = true
   . obtain ⟨h1, h2⟩ := bx.mp hc
     cases hl : W.getLast? with
     | none =>
       have : W = [] := List.getLast?_eq_none_iff.mp hl
       subst this
       have hn : hit [] c = false := by
        cases hh : hit [] c with
        | false => rfl
        | true => obtain ⟨_, hm, _⟩ := (aJ [] c).mp hh; simp at hm
       simp only [hc, hn, zi, Bool.and_self, Bool.or_true, if_true, Bool.false_eq_true, if_false]
       omega
     | some a =>
       have hle := oN h hl
       have Lh : a ∈ W := List.mem_of_getLast? hl
       by_cases hk : a < c.2.1
       . have hn : hit W c = false := by
          cases hh : hit W c with
          | false => rfl
          | true => obtain ⟨w, hm, hw, _⟩ := (aJ W c).mp hh; have := hle w hm; omega
         simp only [hc, hn, zi, hk, decide_true, Bool.and_self, Bool.or_true, if_true, Bool.false_eq_true, if_false]
         omega
       . have hn : hit W c = true := (aJ W c).mpr ⟨a, Lh, by omega, by have := ht a Lh; omega⟩
         simp only [hc, hn, zi, hk, decide_false, Bool.and_false, Bool.or_true, if_true, Bool.false_eq_true, if_false]
         omega
   . simp only [hc, Bool.or_false, Bool.false_and, Bool.false_eq_true, if_false]
     omega
structure Ent (cs : List C4) (ps : List Int) (k : Nat) (o : Option Int) (e : Int × List Int) : Prop where
 inc : fB e.2
 sub : ∀ x ∈ e.2, x ∈ ps
 len : e.2.length <= k
 last : e.2.getLast? = o
 val : e.1 = fT e.2 cs
 opt : ∀ V : List Int, fB V -> (∀ x ∈ V, x ∈ ps) -> V.length <= k -> V.getLast? = o -> fT V cs <= e.1
structure vB (cs : List C4) (ps : List Int) (k : Nat) (cl : List (Int × List Int)) : Prop where
 nil : cl[0]? = some (0, [])
 len : cl.length = if k = 0 then 1 else ps.length + 1
 ent : 0 < k -> ∀ i p, ps[i]? = some p -> ∃ e, cl[i + 1]? = some e /\ Ent cs ps k (some p) e
theorem fC (cs : List C4) : fT [] cs = 0 := by
 have : cs.filter (hit []) = [] := List.filter_eq_nil_iff.mpr fun c _ => by rw [aJ]; simp
 unfold fT; rw [this]; rfl
def eE (ps : List Int) (i : Nat) : List (Option Int) := none :: (ps.take i).map some
def bM (cs : List C4) (ps : List Int) (i : Nat) (p : Int) : List Int := (eE ps i).map fun a => jt cs a p
structure BL (el : List (Int × List Int)) (gl : List Int) (t : Int) (r : Int × List Int) : Prop where
 get : ∃ (j : Nat) (e : Int × List Int) (g : Int), el[j]? = some e /\ gl[j]? = some g /\ r = (e.1 + g, e.2 ++ [t])
 max : ∀ (j : Nat) (e : Int × List Int) (g : Int), el[j]? = some e -> gl[j]? = some g -> e.1 + g <= r.1
 fst : ∃ (j : Nat) (e : Int × List Int) (g : Int), el[j]? = some e /\ gl[j]? = some g /\ r = (e.1 + g, e.2 ++ [t]) /\ ∀ (j' : Nat) (e' : Int × List Int) (g' : Int), j' < j -> el[j']? = some e' -> gl[j']? = some g' -> e'.1 + g' < e.1 + g
theorem BL.det {el : List (Int × List Int)} {gl : List Int} {t : Int} {r r' : Int × List Int} (h : BL el gl t r) (h' : BL el gl t r') : r = r' := by
 obtain ⟨j, e, g, h1, h2, rfl, h3⟩ := h.fst
 obtain ⟨j', e', g', k1, k2, rfl, k3⟩ := h'.fst
 rcases Nat.lt_trichotomy j j' with hl | rfl | hl
 . have a1 := k3 j e g hl h1 h2
   have a2 := h.max j' e' g' k1 k2
   dsimp only at a2
   omega
 . rw [h1] at k1; rw [h2] at k2
   cases k1; cases k2; rfl
 . have a1 := h3 j' e' g' hl k1 k2
   have a2 := h'.max j e g h1 h2
   dsimp only at a2
   omega
inductive Run (cs : List C4) (ps : List Int) : Nat -> List (Int × List Int) -> Int × List Int -> Prop where
 | zero : Run cs ps 0 [(0, [])] (0, [])
 | succ {k : Nat} {cl el : List (Int × List Int)} {b : Int × List Int} (h : Run cs ps k cl b) (h0 : el[0]? = some (0, [])) (hl : el.length = ps.length + 1) (hb : ∀ i p, ps[i]? = some p -> ∃ e, el[i + 1]? = some e /\ BL (cl.take (i + 1)) ((eE ps i).map fun a => jt cs a p) p e) : Run cs ps (k + 1) el (el.foldl (fun b e => if e.1 > b.1 then e else b) b)
theorem Run.det {cs : List C4} {ps : List Int} {k : Nat} {cl : List (Int × List Int)} {b : Int × List Int} (h : Run cs ps k cl b) : ∀ {D6 b'}, Run cs ps k D6 b' -> cl = D6 /\ b = b' := by
 induction h with
 | zero => intro D6 b' h'; cases h'; exact ⟨rfl, rfl⟩
 | @succ k cl el b h h0 hl hb ih =>
   intro D6 b' h'
   cases h' with
   | @succ _ P6 P4 b2 h' Ph pO lN =>
     obtain ⟨e1, e2⟩ := ih h'
     subst e1; subst e2
     have e : el = D6 := by
      refine List.ext_getElem? fun i => ?_
      cases i with
      | zero => rw [h0, Ph]
      | succ i =>
        by_cases hi : i < ps.length
        . obtain ⟨x, hx, zc⟩ := hb i _ (List.getElem?_eq_getElem hi)
          obtain ⟨y, hy, DZ⟩ := lN i _ (List.getElem?_eq_getElem hi)
          rw [hx, hy, zc.det DZ]
        . rw [List.getElem?_eq_none (by omega), List.getElem?_eq_none (by omega)]
     subst e
     exact ⟨rfl, rfl⟩
theorem kR : ∀ {xs ys : List Int}, xs.Pairwise (· < ·) -> ys.Pairwise (· < ·) -> (∀ x, x ∈ xs ↔ x ∈ ys) -> xs = ys
 | [], [], _, _, _ => rfl
 | [], y :: ys, _, _, h => by have := (h y).mpr List.mem_cons_self; simp at this
 | x :: xs, [], _, _, h => by have := (h x).mp List.mem_cons_self; simp at this
 | x :: xs, y :: ys, hx, hy, h => by
   obtain ⟨x1, x2⟩ := List.pairwise_cons.mp hx
   obtain ⟨y1, y2⟩ := List.pairwise_cons.mp hy
   have e : x = y := by
    rcases List.mem_cons.mp ((h x).mp List.mem_cons_self) with e | hm
    . exact e
    . rcases List.mem_cons.mp ((h y).mpr List.mem_cons_self) with e | HV
      . exact e.symm
      . have := y1 x hm; have := x1 y HV; omega
   subst e
   rw [kR x2 y2 fun z => ⟨fun hz => ?_, fun hz => ?_⟩]
   . rcases List.mem_cons.mp ((h z).mp (List.mem_cons_of_mem _ hz)) with e | hm
     . have := x1 z hz; omega
     . exact hm
   . rcases List.mem_cons.mp ((h z).mpr (List.mem_cons_of_mem _ hz)) with e | hm
     . have := y1 z hz; omega
     . exact hm
theorem yx {ps : List Int} (h : fB ps) {i j : Nat} {p q : Int} (hi : ps[i]? = some p) (hj : ps[j]? = some q) (hq : q < p) : j < i := by
 obtain ⟨h1, rfl⟩ := List.getElem?_eq_some_iff.mp hi
 obtain ⟨h2, rfl⟩ := List.getElem?_eq_some_iff.mp hj
 rcases Nat.lt_or_ge j i with h3 | h3
 . exact h3
 . rcases Nat.lt_or_eq_of_le h3 with h4 | rfl
   . have := (List.pairwise_iff_getElem.mp h) i j h1 h2 h4
     omega
   . omega
theorem vB.step {cs : List C4} {ps : List Int} {k i : Nat} {cl : List (Int × List Int)} {p : Int} {r : Int × List Int} (h : vB cs ps k cl) (lH : fB ps) (hi : ps[i]? = some p) (hb : BL (cl.take (i + 1)) (bM cs ps i p) p r) : Ent cs ps (k + 1) (some p) r := by
 have yl : i < ps.length := (List.getElem?_eq_some_iff.mp hi).1
 have key : ∀ (j : Nat) (e : Int × List Int) (g : Int), (cl.take (i + 1))[j]? = some e -> (bM cs ps i p)[j]? = some g -> ∃ o : Option Int, Ent cs ps k o e /\ g = jt cs o p /\ ∀ w ∈ e.2, w < p := by
  intro j e g he hg
  have hj : j < i + 1 := by
   have := (List.getElem?_eq_some_iff.mp he).1
   rw [List.length_take] at this; omega
  rw [List.getElem?_take_of_lt hj] at he
  cases j with
  | zero =>
    rw [h.nil] at he
    cases he
    refine ⟨none, ⟨.nil, by simp, Nat.zero_le _, rfl, (fC cs).symm, fun V _ _ _ hl => ?_⟩, ?_, by simp⟩
    . rw [List.getLast?_eq_none_iff.mp hl, fC]; exact Int.le_refl _
    . have : (bM cs ps i p)[0]? = some (jt cs none p) := rfl
      rw [this] at hg; cases hg; rfl
  | succ j =>
    have hk : 0 < k := by
     rcases Nat.eq_zero_or_pos k with rfl | hk
     . have := (List.getElem?_eq_some_iff.mp he).1
       rw [h.len, if_pos rfl] at this; omega
     . exact hk
    have pQ : j < ps.length := by omega
    obtain ⟨e', Ds, hE⟩ := h.ent hk j _ (List.getElem?_eq_getElem pQ)
    rw [he] at Ds
    cases Ds
    refine ⟨_, hE, ?_, fun w hw => ?_⟩
    . unfold bM eE at hg
      rw [List.map_cons, List.getElem?_cons_succ, List.map_map, List.getElem?_map, List.getElem?_take_of_lt (by omega), List.getElem?_eq_getElem pQ] at hg
      cases hg; rfl
    . have h1 := oN hE.inc hE.last w hw
      obtain ⟨_, rfl⟩ := List.getElem?_eq_some_iff.mp hi
      have h2 := (List.pairwise_iff_getElem.mp lH) j i pQ yl (by omega)
      omega
 obtain ⟨j, e, g, he, hg, rfl⟩ := hb.get
 obtain ⟨o, hE, rfl, b4⟩ := key j e g he hg
 refine ⟨?_, ?_, ?_, ?_, ?_, ?_⟩
 . refine List.pairwise_append.mpr ⟨hE.inc, by simp, fun w hw y hy => ?_⟩
   have : y = p := by simpa using hy
   subst this
   exact b4 w hw
 . intro x hx
   rcases List.mem_append.mp hx with h1 | h1
   . exact hE.sub x h1
   . have : x = p := by simpa using h1
     subst this
     exact List.mem_of_getElem? hi
 . have := hE.len
   rw [List.length_append, List.length_singleton]; omega
 . simp
 . show e.1 + jt cs o p = fT (e.2 ++ [p]) cs
   rw [mU hE.inc b4, hE.last, hE.val]
 . intro V hV zF hlen Eu
   obtain ⟨V', rfl⟩ := List.getLast?_eq_some_iff.mp Eu
   obtain ⟨K0, _, O9⟩ := List.pairwise_append.mp hV
   have FL : ∀ w ∈ V', w < p := fun w hw => O9 w hw p (by simp)
   rw [mU K0 FL]
   rw [List.length_append, List.length_singleton] at hlen
   cases hl : V'.getLast? with
   | none =>
     have : V' = [] := List.getLast?_eq_none_iff.mp hl
     subst this
     have h1 : (cl.take (i + 1))[0]? = some (0, []) := by rw [List.getElem?_take_of_lt (by omega)]; exact h.nil
     have := hb.max 0 _ _ h1 (show (bM cs ps i p)[0]? = some (jt cs none p) from rfl)
     rw [fC]
     exact this
   | some q =>
     have F9 : q ∈ V' := List.mem_of_getLast? hl
     have D8 : q ∈ ps := zF q (List.mem_append_left _ F9)
     obtain ⟨j, hj, ej⟩ := List.getElem_of_mem D8
     have wI : ps[j]? = some q := by rw [List.getElem?_eq_getElem hj, ej]
     have DB : j < i := yx lH hi wI (FL q F9)
     have hk : 0 < k := by
      have := List.length_pos_of_mem F9
      omega
     obtain ⟨e', Ds, MR⟩ := h.ent hk j q wI
     have h1 := MR.opt V' K0 (fun x hx => zF x (List.mem_append_left _ hx)) (by omega) hl
     have h2 : (cl.take (i + 1))[j + 1]? = some e' := by rw [List.getElem?_take_of_lt (by omega)]; exact Ds
     have h3 : (bM cs ps i p)[j + 1]? = some (jt cs (some q) p) := by
      unfold bM eE
      rw [List.map_cons, List.getElem?_cons_succ, List.map_map, List.getElem?_map, List.getElem?_take_of_lt DB, wI]; rfl
     have := hb.max (j + 1) _ _ h2 h3
     show fT V' cs + jt cs (some q) p <= _
     omega
structure xI (cs : List C4) (ps : List Int) (k : Nat) (e : Int × List Int) : Prop where
 inc : fB e.2
 sub : ∀ x ∈ e.2, x ∈ ps
 len : e.2.length <= k
 val : e.1 = fT e.2 cs
 opt : ∀ V : List Int, fB V -> (∀ x ∈ V, x ∈ ps) -> V.length <= k -> fT V cs <= e.1
theorem xI.zero (cs : List C4) (ps : List Int) : xI cs ps 0 (0, []) := ⟨.nil, by simp, Nat.le_refl _, (fC cs).symm, fun V _ _ h => by
 have : V = [] := List.length_eq_zero_iff.mp (by omega)
 rw [this, fC]; exact Int.le_refl _⟩
theorem vB.zero (cs : List C4) (ps : List Int) : vB cs ps 0 [(0, [])] := ⟨rfl, rfl, fun h => by omega⟩
def pick (b e : Int × List Int) : Int × List Int := if e.1 > b.1 then e else b
theorem lY : ∀ (cl : List (Int × List Int)) (b : Int × List Int), (cl.foldl pick b = b \/ cl.foldl pick b ∈ cl) /\ b.1 <= (cl.foldl pick b).1 /\ ∀ e ∈ cl, e.1 <= (cl.foldl pick b).1
 | [], b => ⟨.inl rfl, Int.le_refl _, by simp⟩
 | c :: cl, b => by
   obtain ⟨h1, h2, h3⟩ := lY cl (pick b c)
   rw [List.foldl_cons]
   have hp : (pick b c = b \/ pick b c = c) /\ b.1 <= (pick b c).1 /\ c.1 <= (pick b c).1 := by
    unfold pick
    by_cases h : c.1 > b.1
    . rw [if_pos h]; exact ⟨.inr rfl, by omega, Int.le_refl _⟩
    . rw [if_neg h]; exact ⟨.inl rfl, Int.le_refl _, by omega⟩
   refine ⟨?_, by omega, fun e he => ?_⟩
   . rcases h1 with h1 | h1
     . rw [h1]
       rcases hp.1 with h4 | h4
       . exact .inl h4
       . exact .inr (by rw [h4]; exact List.mem_cons_self)
     . exact .inr (List.mem_cons_of_mem _ h1)
   . rcases List.mem_cons.mp he with rfl | he
     . omega
     . exact h3 e he
theorem xI.step {cs : List C4} {ps : List Int} {k : Nat} {b : Int × List Int} {cl : List (Int × List Int)} (h : xI cs ps k b) (hc : vB cs ps (k + 1) cl) : xI cs ps (k + 1) (cl.foldl pick b) := by
 obtain ⟨h1, h2, h3⟩ := lY cl b
 have vK : ∀ V : List Int, fB V -> (∀ x ∈ V, x ∈ ps) -> V.length <= k + 1 -> fT V cs <= (cl.foldl pick b).1 := by
  intro V hV hs hl
  cases hq : V.getLast? with
  | none =>
    have : V = [] := List.getLast?_eq_none_iff.mp hq
    subst this
    exact Int.le_trans (h.opt [] .nil (by simp) (Nat.zero_le _)) h2
  | some q =>
    obtain ⟨j, hj, ej⟩ := List.getElem_of_mem (hs q (List.mem_of_getLast? hq))
    obtain ⟨e, he, hE⟩ := hc.ent (Nat.succ_pos _) j q (by rw [List.getElem?_eq_getElem hj, ej])
    exact Int.le_trans (hE.opt V hV hs hl hq) (h3 e (List.mem_of_getElem? he))
 rcases h1 with e | hm
 . rw [e] at vK ⊢
   exact ⟨h.inc, h.sub, Nat.le_succ_of_le h.len, h.val, vK⟩
 . obtain ⟨j, hj, ej⟩ := List.getElem_of_mem hm
   have wI : cl[j]? = some (cl.foldl pick b) := by rw [List.getElem?_eq_getElem hj, ej]
   cases j with
   | zero =>
     rw [hc.nil] at wI
     have e := Option.some.inj wI
     rw [<- e] at vK ⊢
     exact ⟨.nil, by simp, Nat.zero_le _, (fC cs).symm, vK⟩
   | succ j =>
     have pQ : j < ps.length := by
      rw [hc.len, if_neg (by omega)] at hj; omega
     obtain ⟨e, he, hE⟩ := hc.ent (Nat.succ_pos _) j _ (List.getElem?_eq_getElem pQ)
     rw [wI] at he
     have e2 := Option.some.inj he
     rw [<- e2] at hE
     exact ⟨hE.inc, hE.sub, hE.len, hE.val, vK⟩
theorem qu {ps : List Int} (h : fB ps) {v p : Int} (hf : ps.find? (fun q => decide (v <= q)) = some p) : v <= p /\ p ∈ ps /\ ∀ q ∈ ps, v <= q -> p <= q := by
 refine ⟨by simpa using List.find?_some hf, List.mem_of_find?_eq_some hf, fun q hq hv => ?_⟩
 induction ps with
 | nil => simp at hq
 | cons x xs ih =>
   obtain ⟨h1, h2⟩ := List.pairwise_cons.mp h
   rw [List.find?_cons] at hf
   by_cases hx : v <= x
   . rw [decide_eq_true hx] at hf
     cases hf
     rcases List.mem_cons.mp hq with rfl | hq
     . exact Int.le_refl _
     . exact Int.le_of_lt (h1 q hq)
   . rw [decide_eq_false hx] at hf
     rcases List.mem_cons.mp hq with rfl | hq
     . exact absurd hv hx
     . exact ih h2 hf hq
theorem F0 {cs : List C4} {ps : List Int} (h : fB ps) (hm : ∀ c ∈ cs, c.2.2.1 ∈ ps) (hw : ∀ c ∈ cs, 0 <= wt c) (V : List Int) : ∃ V' : List Int, fB V' /\ (∀ x ∈ V', x ∈ ps) /\ V'.length <= V.length /\ fT V cs <= fT V' cs := by
 refine ⟨ps.filter fun p => decide (p ∈ V.filterMap fun v => ps.find? fun q => decide (v <= q)), h.filter _, fun x hx => (List.mem_filter.mp hx).1, ?_, ?_⟩
 . refine Nat.le_trans (jk ((h.filter _).imp fun h => Int.ne_of_lt h) (ys := V.filterMap fun v => ps.find? fun q => decide (v <= q)) fun x hx => of_decide_eq_true (List.mem_filter.mp hx).2) (List.length_filterMap_le _ _)
 . rw [dI, dI]
   refine jF (fun c hc hh => ⟨?_, Int.le_refl _⟩) (fun c hc _ => hw c hc)
   obtain ⟨v, hv, h1, h2⟩ := (aJ V c).mp hh
   cases hf : ps.find? (fun q => decide (v <= q)) with
   | none =>
     have := List.find?_eq_none.mp hf _ (hm c hc)
     simp at this; omega
   | some p =>
     obtain ⟨g1, g2, g3⟩ := qu h hf
     refine (aJ _ c).mpr ⟨p, List.mem_filter.mpr ⟨g2, decide_eq_true (List.mem_filterMap.mpr ⟨v, hv, hf⟩)⟩, by omega, g3 _ (hm c hc) h2⟩
structure Bf (cs : List C4) (m : Int) (W : List Int) : Prop where
 inc : fB W
 len : (W.length : Int) <= m
 opt : ∀ V : List Int, (V.length : Int) <= m -> fT V cs <= fT W cs
theorem xI.Kn {cs : List C4} {ps : List Int} {k : Nat} {m : Int} {b : Int × List Int} (h : xI cs ps k b) (lH : fB ps) (hm : ∀ c ∈ cs, c.2.2.1 ∈ ps) (hw : ∀ c ∈ cs, 0 <= wt c) (h1 : (k : Int) <= m) (h2 : (k : Int) = m \/ k = ps.length) : Bf cs m b.2 := by
 refine ⟨h.inc, by have := h.len; omega, fun V hV => ?_⟩
 obtain ⟨V', g1, g2, g3, g4⟩ := F0 lH hm hw V
 refine Int.le_trans g4 ?_
 rw [<- h.val]
 refine h.opt V' g1 g2 ?_
 rcases h2 with h2 | h2
 . omega
 . have := jk (g1.imp fun h => Int.ne_of_lt h) g2
   omega
def RL {α : Type} (R : V -> α -> Prop) (xs : List V) (as : List α) : Prop := xs.length = as.length /\ ∀ (i : Nat) x c, xs[i]? = some x -> as[i]? = some c -> R x c
theorem RL.nil {α : Type} {R : V -> α -> Prop} : RL R [] [] := ⟨rfl, fun i x c h => by simp at h⟩
theorem RL.mono {α : Type} {R R' : V -> α -> Prop} {xs : List V} {as : List α} (h : RL R xs as) (k : ∀ x c, R x c -> R' x c) : RL R' xs as := ⟨h.1, fun i x c h1 h2 => k x c (h.2 i x c h1 h2)⟩
theorem RL.snoc {α : Type} {R : V -> α -> Prop} {xs : List V} {as : List α} {x : V} {c : α} (h : RL R xs as) (hx : R x c) : RL R (xs ++ [x]) (as ++ [c]) := by
 refine ⟨by simp [h.1], fun i y d h1 h2 => ?_⟩
 by_cases hi : i < xs.length
 . rw [List.getElem?_append_left hi] at h1
   rw [List.getElem?_append_left (by rw [<- h.1]; exact hi)] at h2
   exact h.2 i y d h1 h2
 . have hle := (List.getElem?_eq_some_iff.mp h1).1
   rw [List.length_append, List.length_singleton] at hle
   have e : i = xs.length := by omega
   subst e
   rw [List.getElem?_append_right (Nat.le_refl _), Nat.sub_self] at h1
   rw [h.1, List.getElem?_append_right (Nat.le_refl _), Nat.sub_self] at h2
   cases h1; cases h2; exact hx
theorem RL.take {α : Type} {R : V -> α -> Prop} {xs : List V} {as : List α} (h : RL R xs as) (n : Nat) : RL R (xs.take n) (as.take n) := by
 refine ⟨by rw [List.length_take, List.length_take, h.1], fun i x c h1 h2 => ?_⟩
 have hi : i < n := by
  have := (List.getElem?_eq_some_iff.mp h1).1
  rw [List.length_take] at this; omega
 rw [List.getElem?_take_of_lt hi] at h1 h2
 exact h.2 i x c h1 h2
theorem RL.get {α : Type} {R : V -> α -> Prop} {xs : List V} {as : List α} {i : Nat} {c : α} (h : RL R xs as) (hc : as[i]? = some c) : ∃ x, xs[i]? = some x /\ R x c := by
 have hi : i < xs.length := by rw [h.1]; exact (List.getElem?_eq_some_iff.mp hc).1
 exact ⟨xs[i], List.getElem?_eq_getElem hi, h.2 i _ c (List.getElem?_eq_getElem hi) hc⟩
def ki (H0 H : Hp) (x : V) (e : Int × List Int) : Prop := ∃ t l, x = .ref t /\ H0 l = none /\ H t = some (.tup [.int e.1, .ref l]) /\ H l = some (.lst (e.2.map V.int))
theorem ki.keeps {H0 H H' : Hp} {x : V} {e : Int × List Int} (s : ah H H') (h : ki H0 H x e) : ki H0 H' x e := let ⟨t, l, e1, e2, e3, e4⟩ := h; ⟨t, l, e1, e2, s _ _ e3, s _ _ e4⟩
theorem ki.old {H0 H1 H : Hp} {x : V} {e : Int × List Int} (s : ah H0 H1) (h : ki H1 H x e) : ki H0 H x e := let ⟨t, l, e1, e2, e3, e4⟩ := h; ⟨t, l, e1, s.none e2, e3, e4⟩
theorem ki.app {H0 H : Hp} {x : V} {e : Int × List Int} {p r : Addr} {xs ys : List V} (hp : H p = some (.lst (.ref r :: xs))) (h : ki H0 H x e) : ki H0 (upd H p (.lst ys)) x e := by
 obtain ⟨t, l, e1, e2, e3, e4⟩ := h
 refine ⟨t, l, e1, e2, ?_, ?_⟩
 . rw [aw (fun z => by rw [z, hp] at e3; cases e3)]; exact e3
 . rw [aw (fun z => by
    rw [z, hp] at e4
    have := Option.some.inj e4
    injection this with h1
    cases he : e.2 with
    | nil => rw [he] at h1; cases h1
    | cons y ys => rw [he] at h1; cases h1)]; exact e4
theorem dS {H : Hp} : ∀ ns : List Int, bb H (ns.map V.int) (ns.map PyData.int)
 | [] => .nil
 | n :: ns => .cons (.int n) (dS ns)
theorem ki.dv {H0 H : Hp} {x : V} {e : Int × List Int} (h : ki H0 H x e) : Dv H x (.tuple [.int e.1, .list (e.2.map PyData.int)]) := by
 obtain ⟨t, l, rfl, _, e3, e4⟩ := h
 exact .tup e3 (.cons (.int _) (.cons (.lst (.inl e4) (dS _)) .nil))
theorem oV {H : Hp} {p : Addr} {ns : List Int} (h : H p = some (.lst (ns.map V.int))) : bG H p (ns.map PyData.int) := ⟨_, h, dS ns, bN (fun _ => rfl) _⟩
theorem gJ : ∀ {H : Hp} {xs : List V} {ns : List Int}, bb H xs (ns.map PyData.int) -> xs = ns.map V.int
 | _, [], [], _ => rfl
 | _, x :: xs, n :: ns, h => by
   cases h with
   | cons h1 h2 => rw [h1.int_inv, gJ h2]; rfl
theorem bG.ints {H : Hp} {p : Addr} {ns : List Int} (h : bG H p (ns.map PyData.int)) : H p = some (.lst (ns.map V.int)) := by
 obtain ⟨xs, e, d, _⟩ := h
 rw [gJ d] at e
 exact e
theorem Bl {H : Hp} {Q : VK} {p q : Addr} {xs zs : List V} (e : H p = some (.lst xs)) (e2 : H q = some (.lst zs)) (hl : xs.length + zs.length <= 4000) (k : ∀ r H', ah H H' -> H r = none -> H' r = some (.lst (xs ++ zs)) -> Q (.ref r) H') : DX (.ref p) (.ref q) H Q :=
 ⟨p, q, xs, zs, rfl, rfl, e, e2, small hl, fun r hr => k r _ (aM hr) hr aA⟩
theorem Bt {H : Hp} {Q : VK} {p : Addr} {xs : List V} (j : Nat) (e : H p = some (.lst xs)) (k : ∀ q H', ah H H' -> H q = none -> H' q = some (.lst (xs.take j)) -> Q (.ref q) H') : zl K (.ref p) none (some (j : Int)) H Q := by
 refine ⟨p, xs, rfl, bF.of e, fun q hq => ?_⟩
 rw [xl]
 exact k q _ (aM hq) hq aA
theorem vU {H : Hp} {Q : VK} {p : Addr} {xs : List V} {i : Int} {v : V} (h : H p = some (.tup xs)) (hi : nr xs i = some v) (g : Q v H) : Bx K (.ref p) (.int i) H Q := ⟨p, xs, i, v, rfl, rfl, oj.of h, hi, g⟩
theorem nJ {K : PySem.W.Frag} {σ : St} {H : Hp} {t : Addr} {v1 v2 : V} {i j : Nat} {R : St -> Hp -> Prop} (ha : H t = some (.tup [v1, v2])) (h : R ((σ.set i (some v1)).set j (some v2)) H) : pU K 2 (eM (cO i) (eM (cO j) ur)) (.ref t) σ H R :=
 ⟨_, _, rfl, .of ha, rfl, _, _, rfl, _, _, rfl, rfl, h⟩
local macro_rules | `(tactic| walk_at "tpa") => `(tactic| first
 | assumption
 | (refine' ah.at ?s ?m; (case s => assumption); (case m => walk_at "tpa"))
 | fail)
theorem ER {K : PySem.W.Frag} {H : Hp} {p : Addr} {xs : List V} {R : Prop} (e : H p = some (.lst xs)) (h : R) : GP K "list" (.ref p) H /\ R := ⟨.inl ⟨rfl, xs, bF.of e⟩, h⟩
local macro_rules | `(tactic| walk_at "rd1") => `(tactic| first
 | ((with_reducible refine' ER ?e ?_); case e => walk_at "tpa")
 | ((with_reducible refine' vU ?e1 ?e2 ?_); (case e1 => walk_at "tpa"); (case e2 => exact rfl))
 | fail)
theorem ki.mk {H0 H : Hp} {t l : Addr} {n : Int} {ws : List Int} (h0 : H0 l = none) (h1 : H t = some (.tup [.int n, .ref l])) (h2 : H l = some (.lst (ws.map V.int))) : ki H0 H (.ref t) (n, ws) := ⟨t, l, rfl, h0, h1, h2⟩
def wL : Sp := fun vs H Q _ => ∃ (p g : Addr) (xs : List V) (w : Int) (el : List (Int × List Int)) (gl : List Int), vs = [.ref p, .ref g, .int w] /\ H p = some (.lst xs) /\ (∃ H0, RL (ki H0 H) xs el) /\ H g = some (.lst (gl.map V.int)) /\ 0 < el.length /\ 0 < gl.length /\ (∀ e ∈ el, e.2.length <= 100) /\ ∀ t l H' r, ah H H' -> H t = none -> H l = none -> H' t = some (.tup [.int r.1, .ref l]) -> H' l = some (.lst (r.2.map V.int)) -> BL el gl w r -> Q (.ref t) H'
theorem IB {H H0 : Hp} {Q : VK} {E : XK} {p g : Addr} {xs : List V} {w : Int} {el : List (Int × List Int)} {gl : List Int} (h1 : H p = some (.lst xs)) (h2 : RL (ki H0 H) xs el) (h3 : H g = some (.lst (gl.map V.int))) (h4 : 0 < el.length) (h5 : 0 < gl.length) (h6 : ∀ e ∈ el, e.2.length <= 100) (q : ∀ t l H' r, ah H H' -> H t = none -> H l = none -> H' t = some (.tup [.int r.1, .ref l]) -> H' l = some (.lst (r.2.map V.int)) -> BL el gl w r -> Q (.ref t) H') : wL [.ref p, .ref g, .int w] H Q E := ⟨p, g, xs, w, el, gl, rfl, h1, ⟨H0, h2⟩, h3, h4, h5, h6, q⟩
structure Kf (el : List (Int × List Int)) (gl : List Int) (i : Nat) (r : Int × List Int) : Prop where
 get : ∃ (j : Nat) (e : Int × List Int) (g : Int), j < i /\ el[j]? = some e /\ gl[j]? = some g /\ r = (e.1 + g, e.2) /\ ∀ (j' : Nat) (e' : Int × List Int) (g' : Int), j' < j -> el[j']? = some e' -> gl[j']? = some g' -> e'.1 + g' < e.1 + g
 max : ∀ (j : Nat) (e : Int × List Int) (g : Int), j < i -> el[j]? = some e -> gl[j]? = some g -> e.1 + g <= r.1
theorem Kf.fin {el : List (Int × List Int)} {gl : List Int} {r : Int × List Int} {t : Int} (h : Kf el gl (min el.length gl.length) r) : BL el gl t (r.1, r.2 ++ [t]) := by
 obtain ⟨j, e, g, _, h1, h2, rfl, hf⟩ := h.get
 refine ⟨⟨j, e, g, h1, h2, rfl⟩, fun j' e' g' k1 k2 => h.max j' e' g' ?_ k1 k2, ⟨j, e, g, h1, h2, rfl, hf⟩⟩
 have a1 := (List.getElem?_eq_some_iff.mp k1).1
 have a2 := (List.getElem?_eq_some_iff.mp k2).1
 omega
theorem FR (T : Txt K mg a) : bQ P w K mg base iV 1 a.bJ a.ja ["chains", "gains", "waking"] wL := by
 refine T.gG.ok cE (fun vs H Q E h => ?_) (fun df A outer s H vs Q E hr h => ?_)
 . obtain ⟨_, _, _, _, _, _, rfl, _⟩ := h; rfl
 . obtain ⟨p, g, xs, w, el, gl, rfl, h1, ⟨H0, h2⟩, h3, h4, h5, h6, q⟩ := h
   refine ⟨_, (ag (av (i := 3) cE.nd rfl (Or.inl rfl) kT)
    (ag (cQ PassesOwn.never rfl (Bv rfl T.m9 (ae (pv 0) (ae (pv 1) ai))) (fu (n := 2) rfl (au (ao (i := 4) cE.nd rfl (Or.inl rfl)) (au (ao (i := 5) cE.nd rfl (Or.inl rfl)) b6)))
     (ak (bZ (PW.pt (ib (aN vP (pv 3) kT (aS _)) (gm (aN iZ (aj bh (aL bT (pv 4) af (fun _ _ => rfl)) (pv 5)) (aL bT (pv 3) af (fun _ _ => rfl)) (aS _)))))
      (ak (av (i := 3) cE.nd rfl (Or.inl rfl) (du (ae (aj bh (aL bT (pv 4) af (fun _ _ => rfl)) (pv 5)) (ae (aL bT (pv 4) af (fun _ _ => rfl)) ai)))))
      bo)))
    (ak (aI (du (ae (aL bT (pv 3) af (fun _ _ => rfl)) (ae (aj qH (aL bT (pv 3) af (fun _ _ => rfl)) (bR (ae (pv 2) ai))) ai))))))), ?_⟩
   repeat' (walk_at "rd1")
   refine Dp ?_
   repeat' (walk_at "rd1")
   refine Kh (bF.of h1) (bF.of h3) (fun i σ' H' => ah H H' /\ ∃ z4 z5 b, σ' = [some (.ref p), some (.ref g), some (.int w), some b, z4, z5] /\ ((i = 0 /\ b = .bz) \/ ∃ r, 0 < i /\ ki H0 H' b r /\ Kf el gl i r)) ⟨ah.refl _, _, _, _, rfl, .inl ⟨rfl, rfl⟩⟩ (fun i σ' H' h => h.1) ?_ ?_
   . rintro i x y t σ' H' hx hy ⟨sm, z4, z5, b, rfl, hb⟩ ht
     have hi : i < el.length := by rw [<- h2.1]; exact (List.getElem?_eq_some_iff.mp hx).1
     have hg : i < gl.length := by have := (List.getElem?_eq_some_iff.mp hy).1; rwa [List.length_map] at this
     have AZ : el[i]? = some el[i] := List.getElem?_eq_getElem hi
     have xG : gl[i]? = some gl[i] := List.getElem?_eq_getElem hg
     obtain ⟨t1, l1, rfl, n1, e1, e2⟩ := h2.2 i x _ hx AZ
     rw [List.getElem?_map, xG] at hy
     cases hy
     generalize el[i] = e at *
     generalize gl[i] = gn at *
     refine nJ aA ?_
     have ez : ah H' (upd H' t (.tup [.ref t1, .int gn])) := aM ht
     generalize upd H' t (.tup [.ref t1, .int gn]) = H1 at *
     have cA := sm.trans ez
     have GV := cA.at e1
     have Hg := cA.at e2
     rcases hb with ⟨rfl, rfl⟩ | ⟨r, k8, ⟨tb, lb, rfl, nb, b1, b2⟩, hB⟩
     . repeat' (walk_at "rd1")
       . refine iz (ds := [.int (e.1 + gn), .list (e.2.map PyData.int)]) (gu rfl) (.cons (.int _) (.cons (Dv.lst (.inl Hg) (dS _)) .nil)) (fun tn H2 sm3 um zj => ?_)
         repeat' (walk_at "rd1")
         refine ⟨cA.trans sm3, _, _, _, rfl, .inr ⟨(e.1 + gn, e.2), by omega, .mk n1 zj (sm3.at Hg), ⟨⟨0, e, gn, by omega, AZ, xG, rfl, fun j' _ _ hj => by omega⟩, fun j e' g' hj k1 k2 => ?_⟩⟩⟩
         have : j = 0 := by omega
         subst this
         rw [AZ] at k1; rw [xG] at k2
         cases k1; cases k2
         exact Int.le_refl _
       all_goals (rename_i hb; exact absurd rfl hb)
     . have Lq := ez.at b1
       have Ms := ez.at b2
       repeat' (walk_at "rd1")
       . rename_i DR
         refine iz (ds := [.int (e.1 + gn), .list (e.2.map PyData.int)]) (gu rfl) (.cons (.int _) (.cons (Dv.lst (.inl Hg) (dS _)) .nil)) (fun tn H2 sm3 um zj => ?_)
         repeat' (walk_at "rd1")
         refine ⟨cA.trans sm3, _, _, _, rfl, .inr ⟨(e.1 + gn, e.2), by omega, .mk n1 zj (sm3.at Hg), ⟨⟨i, e, gn, by omega, AZ, xG, rfl, fun j' e' g' hj k1 k2 => by have := hB.max j' e' g' hj k1 k2; omega⟩, fun j e' g' hj k1 k2 => ?_⟩⟩⟩
         by_cases DB : j = i
         . subst DB
           rw [AZ] at k1; rw [xG] at k2
           cases k1; cases k2
           exact Int.le_refl _
         . have := hB.max j e' g' (by omega) k1 k2
           have := DR
           show _ <= e.1 + gn
           omega
       . rename_i DR
         refine ⟨cA, _, _, _, rfl, .inr ⟨r, by omega, ⟨tb, lb, rfl, nb, Lq, Ms⟩, ⟨?_, fun j e' g' hj k1 k2 => ?_⟩⟩⟩
         . obtain ⟨j, e', g', hj, h⟩ := hB.get
           exact ⟨j, e', g', by omega, h⟩
         . by_cases DB : j = i
           . subst DB
             rw [AZ] at k1; rw [xG] at k2
             cases k1; cases k2
             have := DR
             omega
           . exact hB.max j e' g' (by omega) k1 k2
   . rintro σ' H' ⟨sm, z4, z5, b, rfl, hb⟩
     have OY : 0 < min xs.length (List.map V.int gl).length := by rw [List.length_map, h2.1]; omega
     rcases hb with ⟨h0, rfl⟩ | ⟨r, k8, ⟨tb, lb, rfl, nb, b1, b2⟩, hB⟩
     . omega
     . rw [List.length_map, h2.1] at hB
       repeat' (walk_at "rd1")
       rename_i q1 H1 ez sN oA
       have oi : H1 q1 = some (.lst ([w].map V.int)) := bG.ints (ns := [w]) oA
       have Qi : r.2.length <= 100 := by
        obtain ⟨j, e, gg, _, k1, _, rfl, _⟩ := hB.get
        exact h6 e (List.mem_of_getElem? k1)
       refine Bl (ez.at b2) oi (by simp; omega) (fun lc H2 cA oB D7 => ?_)
       rw [<- List.map_append] at D7
       repeat' (walk_at "rd1")
       refine iz (ds := [.int r.1, .list ((r.2 ++ [w]).map PyData.int)]) (gu rfl) (.cons (.int _) (.cons (Dv.lst (.inl D7) (dS _)) .nil)) (fun tn H3 sm3 um zj => ?_)
       repeat' (walk_at "rd1")
       exact q tn lc H3 (r.1, r.2 ++ [w]) (((sm.trans ez).trans cA).trans sm3) (((sm.trans ez).trans cA).none um) ((sm.trans ez).none oB) zj (sm3.at D7) hB.fin
theorem DJ (T : Txt K mg a) : lg P w K mg base 1 a.bJ ["chains", "gains", "waking"] [] wL :=
 ⟨⟨_, _, FR T, T.gG.binds fun _ _ _ _ _ _ => .all fun us hl => match us, hl with | [_, _, _], _ => rfl, .nil⟩⟩
def vm : Sp := fun vs H Q _ => ∃ (v : V) (o : Option Int) (t : Int) (cs : List C4), vs = [v, ow o, .int t] /\ Dv H v (.list (cs.map b7)) /\ cs.length <= 60 /\ ∀ H', ah H H' -> Q (.int (jt cs o t)) H'
theorem IY {H : Hp} {Q : VK} {E : XK} {v : V} {o : Option Int} {t : Int} {cs : List C4} (h : Dv H v (.list (cs.map b7))) (hl : cs.length <= 60) (q : ∀ H', ah H H' -> Q (.int (jt cs o t)) H') : vm [v, ow o, .int t] H Q E := ⟨v, o, t, cs, rfl, h, hl, q⟩
theorem Fv (T : Txt K mg a) : bQ P w K mg base iV 1 a.bE a.ie ["claims", "ahead", "waking"] vm := by
 refine T.eX.ok lP (fun vs H Q E h => ?_) (fun df A outer s H vs Q E hr h => ?_)
 . obtain ⟨_, _, _, _, rfl, _⟩ := h; rfl
 . obtain ⟨v, o, t, cs, rfl, hv, hl, q⟩ := h
   refine ⟨_, (ak (aI (aQ (ju rfl) rfl T.ik PyProof.Rows.boot_sum (ae (fS (T := ["name", "first", "last", "weight"]) (M := ["claims", "ahead", "waking"]) (sQ (aq dt) ["claims", "ahead", "waking"] rfl rfl (by decide +kernel)) rfl (bf (pv 0)) (fun _ _ _ _ _ => (iT (K := K) (n := 4) rfl rfl (au (ao (i := 0) (show List.Nodup (["name", "first", "last", "weight", "claims", "ahead", "waking"] : List Str) by decide +kernel) rfl (Or.inl rfl)) (au (ao (i := 1) (show List.Nodup (["name", "first", "last", "weight", "claims", "ahead", "waking"] : List Str) by decide +kernel) rfl (Or.inl rfl)) (au (ao (i := 2) (show List.Nodup (["name", "first", "last", "weight", "claims", "ahead", "waking"] : List Str) by decide +kernel) rfl (Or.inl rfl)) (au (ao (i := 3) (show List.Nodup (["name", "first", "last", "weight", "claims", "ahead", "waking"] : List Str) by decide +kernel) rfl (Or.inl rfl)) b6)))))) (f9 (aE (by decide) (aE (by decide) (aE (by decide) (aE (by decide) eL))))) (fun _ _ _ _ _ => (kh (PW.pt (xt (gI gF gF (pv 1) (pv 6) (pv 2)) (rF (PW.pt (ib (aN vP (pv 5) kT (aS _)) (gm (aN kB (pv 5) (pv 1) (aS _)))))))))) (fun _ _ _ _ _ => (pv 3))) ai)))), ?_⟩
   repeat' (walk_at "rd1")
   refine j0 (cs := cs) (gd := b7) (fun c => con t c && zi o c) (fun c => .int (wt c)) hv (by omega) (fun _ => rfl) (fun x c H2 N hc cA hx yes no => ?_) (fun q1 H1 ez sN oA => ?_)
   . have jb : Dv H2 x (.tuple [.str c.1, .int c.2.1, .int c.2.2.1, .int c.2.2.2]) := hx
     refine iu jb (fun v1 v2 v3 v4 e1 e2 e3 e4 => ?_)
     obtain rfl := e1.str_inv
     obtain rfl := e2.int_inv
     obtain rfl := e3.int_inv
     obtain rfl := e4.int_inv
     cases o with
     | none =>
       unfold ow
       repeat' (walk_at "rd1")
       . rename_i h1 h2 _
         refine b9 (fun _ => ?_) (fun hb => by cases hb)
         repeat' (walk_at "rd1")
         exact yes (by simp [con, zi, h1, h2]) _ _ (ah.refl _) (.int _)
       . rename_i h1 h2
         exact b9 (fun hb => by cases hb) (fun _ => no (by simp [con, h1, h2]) _ (ah.refl _))
       . rename_i h1
         exact b9 (fun hb => by cases hb) (fun _ => no (by simp [con, h1]) _ (ah.refl _))
     | some n =>
       unfold ow
       repeat' (walk_at "rd1")
       . rename_i h1 h2 _
         refine b9 (fun hb => ?_) (fun hb => no (by simp [con, zi, h1, h2, of_decide_eq_false hb]) _ (ah.refl _))
         repeat' (walk_at "rd1")
         exact yes (by simp [con, zi, h1, h2, of_decide_eq_true hb]) _ _ (ah.refl _) (.int _)
       . rename_i h1 h2
         exact b9 (fun hb => by cases hb) (fun _ => no (by simp [con, h1, h2]) _ (ah.refl _))
       . rename_i h1
         exact b9 (fun hb => by cases hb) (fun _ => no (by simp [con, h1]) _ (ah.refl _))
   have oi : bG H1 q1 (((cs.filter fun c => con t c && zi o c).map wt).map PyData.int) := by rw [List.map_map]; exact oA
   repeat' (walk_at "rd1")
   exact q _ (by walk_at "same")
theorem CV (T : Txt K mg a) : lg P w K mg base 1 a.bE ["claims", "ahead", "waking"] [] vm :=
 ⟨⟨_, _, Fv T, T.eX.binds fun _ _ _ _ _ _ => .all fun us hl => match us, hl with | [_, _, _], _ => rfl, .nil⟩⟩
def sk (H : Hp) (x : V) (ns : List Int) : Prop := ∃ q, x = .ref q /\ H q = some (.lst (ns.map V.int)) /\ 0 < ns.length
theorem sk.keeps {H H' : Hp} {x : V} {ns : List Int} (s : ah H H') (h : sk H x ns) : sk H' x ns := let ⟨q, e1, e2, e3⟩ := h; ⟨q, e1, s _ _ e2, e3⟩
theorem sk.app {H : Hp} {x : V} {ns : List Int} {p : Addr} {xs ys : List V} {rows : List (List Int)} (hp : H p = some (.lst xs)) (hr : RL (sk H) xs rows) (h : sk H x ns) : sk (upd H p (.lst ys)) x ns := by
 obtain ⟨q, e1, e2, e3⟩ := h
 refine ⟨q, e1, ?_, e3⟩
 rw [aw (fun z => by
  rw [z, hp] at e2
  have := Option.some.inj e2
  injection this with h1
  cases ns with
  | nil => simp at e3
  | cons n ns =>
    have h0 : xs[0]? = some (.int n) := by rw [h1]; rfl
    have b4 : 0 < rows.length := by rw [<- hr.1]; exact (List.getElem?_eq_some_iff.mp h0).1
    obtain ⟨_, e, _⟩ := hr.2 0 _ _ h0 (List.getElem?_eq_getElem b4)
    cases e)]
 exact e2
theorem yw {H : Hp} {x : V} {o : Option Int} (h : Dv H x (G8 o)) : x = ow o := by
 cases o with
 | none => exact h.zm
 | some n => exact h.int_inv
theorem u3 (ps : List Int) (i : Nat) : (eE ps i).map G8 = [PyData.none] ++ (ps.map PyData.int).take i := by
 unfold eE
 rw [List.map_cons, List.map_map, List.map_take]
 rfl
def cD (cs : List C4) (ps : List Int) : Nat -> List (List Int)
 | 0 => []
 | n + 1 => cD cs ps n ++ [bM cs ps n (ps.getD n 0)]
def kU : Sp := fun vs H Q _ => ∃ (v : V) (p : Addr) (cs : List C4) (ps : List Int), vs = [v, .ref p] /\ Dv H v (.list (cs.map b7)) /\ cs.length <= 60 /\ bG H p (ps.map PyData.int) /\ ps.length <= 60 /\ ∀ g H' xs, ah H H' -> H g = none -> H' g = some (.lst xs) -> RL (sk H') xs (cD cs ps ps.length) -> Q (.ref g) H'
theorem xW {H : Hp} {Q : VK} {E : XK} {v : V} {p : Addr} {cs : List C4} {ps : List Int} (h : Dv H v (.list (cs.map b7))) (hl : cs.length <= 60) (hp : bG H p (ps.map PyData.int)) (xm : ps.length <= 60) (q : ∀ g H' xs, ah H H' -> H g = none -> H' g = some (.lst xs) -> RL (sk H') xs (cD cs ps ps.length) -> Q (.ref g) H') : kU [v, .ref p] H Q E := ⟨v, p, cs, ps, rfl, h, hl, hp, xm, q⟩
theorem uI (T : Txt K mg a) : bQ P w K mg base iV 2 a.bX a.jW ["claims", "points"] kU := by
 have nO := CV (P := P) (w := w) (base := base) T
 refine T.iA.ok dY (fun vs H Q E h => ?_) (fun df A outer s H vs Q E hr h => ?_)
 . obtain ⟨_, _, _, _, rfl, _⟩ := h; rfl
 . obtain ⟨v, p, cs, ps, rfl, hv, hl, hp, xm, q⟩ := h
   refine ⟨_, (ag (av (i := 2) dY.nd rfl (Or.inl rfl) (bR ai))
    (ag (cQ PassesOwn.never rfl (oh rfl T.b5 (ae (pv 1) ai)) (fu (n := 2) rfl (au (ao (i := 3) dY.nd rfl (Or.inl rfl)) (au (ao (i := 4) dY.nd rfl (Or.inr rfl)) b6)))
     (ak (iP (pq PySem.F.plainAttrs_list PySem.F.slot_list_append PySem.F.type_list_append eR (pv 2) (ae (fS (T := ["ahead"]) (M := ["claims", "points", "gains", "place", "waking"]) (sQ (aq ft) ["claims", "points", "gains", "place", "waking"] rfl rfl (by decide +kernel)) rfl (bf (aj qH (bR (ae kT ai)) (cH nT (pv 1) d6 (cT (pv 3))))) (fun _ _ _ _ _ => (ao (i := 0) (show List.Nodup (["ahead", "claims", "points", "gains", "place", "waking"] : List Str) by decide +kernel) rfl (Or.inl rfl))) (cq (by decide)) (fun _ _ _ _ _ => di) (fun _ _ _ _ _ => (aC nO (hr.mono (by decide)) rfl T.gZ T.hJ (ae (pv 1) (ae (pv 0) (ae (pv 5) ai)))))) ai)))))
    (ak (aI (pv 2))))), ?_⟩
   repeat' (walk_at "rd1")
   rename_i g H1 ez sN Lx
   have JT : H1 g = some (.lst []) := bG.ints (ns := []) Lx
   clear Lx
   have PF : p ≠ g := hp.ne sN
   refine AH (Hb := H) (cs := ps) hp.dv (fun i σ' H' => ∃ z3 z4 xs, σ' = [some v, some (.ref p), some (.ref g), z3, z4] /\ ah H H' /\ H' g = some (.lst xs) /\ RL (sk H') xs (cD cs ps i)) ⟨_, _, _, rfl, ez, JT, .nil⟩ (fun i σ' H' _ ⟨_, _, _, _, sm, _⟩ a' xs e hx => ah.seq sm hx) ?_ ?_
   . rintro i c t σ' H' hc ⟨z3, z4, xs, rfl, sm, hg, hR⟩ ht
     have yl : i < ps.length := (List.getElem?_eq_some_iff.mp hc).1
     have Gf : xs.length <= 60 := by
      have : ∀ n, (cD cs ps n).length = n := fun n => by
       induction n with
       | zero => rfl
       | succ n ih => rw [cD, List.length_append, ih]; rfl
      rw [hR.1, this]; omega
     refine nJ aA ?_
     have ez : ah H' (upd H' t (.tup [.int (i : Int), .int c])) := aM ht
     generalize upd H' t (.tup [.int (i : Int), .int c]) = H2 at *
     have cA := sm.trans ez
     have sT : Dv H2 v (.list (cs.map b7)) := hv.keeps cA
     have uC : bG H2 p (ps.map PyData.int) := hp.keeps cA
     have Jp := ez.at hg
     have zC := hR.mono (R' := sk H2) fun x c h => h.keeps ez
     repeat' (walk_at "rd1")
     rename_i q4 H4 lS xE Ek q5 H5 m8 Bh Hy
     refine uQ (Ek.keeps m8) Hy (by simp; omega) (fun q6 H6 q9 Av Hq => ?_)
     have A2 : Dv H6 (.ref q6) (.list ((eE ps i).map G8)) := by rw [u3]; exact Hq.dv
     have C2 := (lS.trans m8).trans q9
     have Je : Dv H6 v (.list (cs.map b7)) := sT.keeps C2
     repeat' (walk_at "rd1")
     refine j0 (cs := eE ps i) (gd := G8) (fun _ => true) (fun o => .int (jt cs o c)) A2 (by unfold eE; simp; omega) (fun _ => rfl) (fun x o H7 N ho lF hx yes no => ?_) (fun q7 H7 lF D2 Le => ?_)
     . obtain rfl := yw hx
       have IQ : Dv H7 v (.list (cs.map b7)) := Je.keeps lF
       repeat' (walk_at "rd1")
       refine b9 (fun hb => ?_) (fun hb => by cases hb)
       repeat' (walk_at "rd1")
       refine IY IQ hl (fun H8 uz => ?_)
       repeat' (walk_at "rd1")
       exact yes rfl _ _ uz (.int _)
     . rw [cF] at Le
       have Kv : bG H7 q7 ((bM cs ps i c).map PyData.int) := by unfold bM; rw [List.map_map]; exact Le
       have Di := C2.trans lF
       have Jz := Di.at Jp
       have Jb := zC.mono (R' := sk H7) fun x c h => h.keeps Di
       repeat' (walk_at "rd1")
       refine wW Jz (by omega) ?_
       have J6 : sk H7 (.ref q7) (bM cs ps i c) := ⟨q7, rfl, bG.ints Kv, by unfold bM eE; simp⟩
       have xG : ps.getD i 0 = c := by rw [List.getD_eq_getElem?_getD, hc]; rfl
       refine ⟨_, _, _, rfl, fun b u e => ?_, aA, ?_⟩
       . rw [aw (aH e sN)]; exact (cA.trans Di) b u e
       . rw [cD, xG]
         exact (Jb.mono fun x c h => h.app Jz Jb).snoc (J6.app Jz Jb)
   . rintro σ' H' ⟨z3, z4, xs, rfl, sm, hg, hR⟩
     repeat' (walk_at "rd1")
     exact q g H' xs sm sN hg hR
theorem t5 (T : Txt K mg a) : lg P w K mg base 2 a.bX ["claims", "points"] [] kU :=
 ⟨⟨_, _, uI T, T.iA.binds fun _ _ _ _ _ _ => .all fun us hl => match us, hl with | [_, _], _ => rfl, .nil⟩⟩
theorem vB.Kc {cs : List C4} {ps : List Int} {k : Nat} {cl : List (Int × List Int)} (h : vB cs ps k cl) : ∀ e ∈ cl, e.2.length <= k := by
 intro e he
 obtain ⟨j, hj, ej⟩ := List.getElem_of_mem he
 have wI : cl[j]? = some e := by rw [List.getElem?_eq_getElem hj, ej]
 cases j with
 | zero => rw [h.nil] at wI; cases wI; exact Nat.zero_le _
 | succ j =>
   have hk : 0 < k := by
    rcases Nat.eq_zero_or_pos k with rfl | hk
    . rw [h.len, if_pos rfl] at hj; omega
    . exact hk
   have pQ : j < ps.length := by rw [h.len, if_neg (by omega)] at hj; omega
   obtain ⟨e', Ds, hE⟩ := h.ent hk j _ (List.getElem?_eq_getElem pQ)
   rw [wI] at Ds
   cases Ds
   exact hE.len
structure z0 (cs : List C4) (ps : List Int) (cl : List (Int × List Int)) (i : Nat) (el : List (Int × List Int)) : Prop where
 nil : el[0]? = some (0, [])
 len : el.length = i + 1
 ent : ∀ j p, j < i -> ps[j]? = some p -> ∃ e, el[j + 1]? = some e /\ BL (cl.take (j + 1)) (bM cs ps j p) p e
theorem z0.LD {cs : List C4} {ps : List Int} {k : Nat} {cl el : List (Int × List Int)} (h : z0 cs ps cl ps.length el) (hC : vB cs ps k cl) (lH : fB ps) : vB cs ps (k + 1) el :=
 ⟨h.nil, by rw [h.len, if_neg (by omega)], fun _ i p hp => let ⟨e, he, hb⟩ := h.ent i p (List.getElem?_eq_some_iff.mp hp).1 hp; ⟨e, he, hC.step lH hp hb⟩⟩
theorem z0.run {cs : List C4} {ps : List Int} {k : Nat} {cl el : List (Int × List Int)} {b : Int × List Int} (h : z0 cs ps cl ps.length el) (hR : Run cs ps k cl b) : Run cs ps (k + 1) el (el.foldl pick b) :=
 Run.succ hR h.nil h.len fun i p hp => h.ent i p (List.getElem?_eq_some_iff.mp hp).1 hp
theorem z0.snoc {cs : List C4} {ps : List Int} {i : Nat} {cl el : List (Int × List Int)} {p : Int} {r : Int × List Int} (h : z0 cs ps cl i el) (hi : ps[i]? = some p) (hr : BL (cl.take (i + 1)) (bM cs ps i p) p r) : z0 cs ps cl (i + 1) (el ++ [r]) := by
 refine ⟨?_, by rw [List.length_append, h.len]; rfl, fun j q hj hq => ?_⟩
 . rw [List.getElem?_append_left (by rw [h.len]; omega)]; exact h.nil
 . by_cases DB : j < i
   . obtain ⟨e, he, hE⟩ := h.ent j q DB hq
     exact ⟨e, by rw [List.getElem?_append_left (by rw [h.len]; omega)]; exact he, hE⟩
   . have : j = i := by omega
     subst this
     rw [hi] at hq
     cases hq
     exact ⟨r, by rw [List.getElem?_append_right (by rw [h.len]; omega), h.len]; simp, hr⟩
def BQ (cs : List C4) (m : Int) (W : List Int) : Prop := ∃ (ps : List Int) (k : Nat) (cl : List (Int × List Int)) (b : Int), fB ps /\ (∀ x, x ∈ ps ↔ x ∈ cs.map (·.2.2.1)) /\ Run cs ps k cl (b, W) /\ (k : Int) <= m /\ k <= ps.length /\ ((k : Int) = m \/ k = ps.length)
theorem BQ.det {cs : List C4} {m : Int} {W W' : List Int} (h : BQ cs m W) (h' : BQ cs m W') : W = W' := by
 obtain ⟨ps, k, cl, b, h1, h2, h3, h4, h5, h6⟩ := h
 obtain ⟨NM, k', D6, b', g1, g2, g3, g4, g5, g6⟩ := h'
 have e : ps = NM := kR h1 g1 fun x => (h2 x).trans (g2 x).symm
 subst e
 have e : k = k' := by omega
 subst e
 have := (h3.det g3).2
 exact congrArg Prod.snd this
theorem mM (cs : List C4) (ps : List Int) {i : Nat} {p : Int} (hp : ps[i]? = some p) : ∀ n, i < n -> (cD cs ps n)[i]? = some (bM cs ps i p)
 | 0, h => by omega
 | n + 1, h => by
   have hl : ∀ n, (cD cs ps n).length = n := fun n => by
    induction n with
    | zero => rfl
    | succ n ih => rw [cD, List.length_append, ih]; rfl
   rw [cD]
   by_cases hi : i < n
   . rw [List.getElem?_append_left (by rw [hl]; exact hi)]; exact mM cs ps hp n hi
   . have : i = n := by omega
     subst this
     rw [List.getElem?_append_right (by rw [hl]; exact Nat.le_refl _), hl, Nat.sub_self, List.getD_eq_getElem?_getD, hp]
     rfl
theorem Gn {K : PySem.W.Frag} {H : Hp} {Q : VK} {p : Addr} {xs : List V} {i : Nat} {v : V} (h : H p = some (.lst xs)) (hi : xs[i]? = some v) (g : Q v H) : lL K (.ref p) (.int (i : Int)) H Q := Ay (bF.of h) (gY hi) g
theorem DL {H : Hp} {Q : VK} {n : Int} {l : Addr} (h : bG H l []) (k : ∀ p H2, ah H H2 -> H p = none -> H2 p = some (.tup [.int n, .ref l]) -> H2 l = some (.lst []) -> Q (.ref p) H2) : tT [.int n, .ref l] H Q :=
 iz (ds := [.int n, .list []]) (gu rfl) (.cons (.int _) (.cons h.dv .nil)) fun p H2 sm hn hp => k p H2 sm hn hp (sm.at (bG.ints (ns := []) h))
theorem DQ {H : Hp} {Q : VK} {n : Int} {t l : Addr} (h1 : H t = some (.tup [.int n, .ref l])) (h2 : H l = some (.lst [])) (k : ∀ p H2, ah H H2 -> H p = none -> H2 p = some (.lst [.ref t]) -> Q (.ref p) H2) : vA [.ref t] H Q :=
 wD (ds := [.tuple [.int n, .list []]]) (gu rfl) (.cons (.tup h1 (.cons (.int _) (.cons (.lst (.inl h2) .nil) .nil))) .nil) fun p H2 sm hn hp _ _ => k p H2 sm hn hp
local macro_rules | `(tactic| walk_at "rd1") => `(tactic| first
 | ((with_reducible refine' DQ ?e1 ?e2 (fun _ _ _ _ _ => ?_)); (case e1 => assumption); (case e2 => assumption))
 | ((with_reducible refine' DL ?e (fun _ _ _ _ _ _ => ?_)); case e => walk_at "lat")
 | fail)
def wN : Sp := fun vs H Q _ => ∃ (v : V) (m : Int) (cs : List C4), vs = [v, .int m] /\ Dv H v (.list (cs.map b7)) /\ gP cs /\ cs.length <= 60 /\ 0 <= m /\ ∀ l H' W, ah H H' -> H l = none -> H' l = some (.lst (W.map V.int)) -> Bf cs m W -> W.length <= 60 -> BQ cs m W -> Q (.ref l) H'
theorem IE {H : Hp} {Q : VK} {E : XK} {v : V} {m : Int} {cs : List C4} (h : Dv H v (.list (cs.map b7))) (ho : gP cs) (hl : cs.length <= 60) (h0 : 0 <= m) (q : ∀ l H' W, ah H H' -> H l = none -> H' l = some (.lst (W.map V.int)) -> Bf cs m W -> W.length <= 60 -> BQ cs m W -> Q (.ref l) H') : wN [v, .int m] H Q E := ⟨v, m, cs, rfl, h, ho, hl, h0, q⟩
theorem Fz (T : Txt K mg a) : bQ P w K mg base iV 3 a.a0 a.fJ ["claims", "most"] wN := by
 have qb := t5 (P := P) (w := w) (base := base) T
 have px := DJ (P := P) (w := w) (base := base) T
 refine T.dP.ok ay (fun vs H Q E h => ?_) (fun df A outer s H vs Q E hr h => ?_)
 . obtain ⟨_, _, _, rfl, _⟩ := h; rfl
 . obtain ⟨v, m, cs, rfl, hv, aK, hl, m0, q⟩ := h
   refine ⟨_, (ag (av (i := 2) ay.nd rfl (Or.inl rfl) (kY (fS (T := ["name", "first", "last", "weight"]) (M := ["claims", "most", "points", "gains", "best", "chains", "turn", "longer", "place", "waking", "010", "wakings"]) (sQ (aq cJ) ["claims", "most", "points", "gains", "best", "chains", "turn", "longer", "place", "waking", "weight", "wakings"] rfl rfl (by decide +kernel)) rfl (bf (pv 0)) (fun _ _ _ _ _ => (iT (K := K) (n := 4) rfl rfl (au (ao (i := 0) (show List.Nodup (["name", "first", "last", "weight", "claims", "most", "points", "gains", "best", "chains", "turn", "longer", "place", "waking", "010", "wakings"] : List Str) by decide +kernel) rfl (Or.inl rfl)) (au (ao (i := 1) (show List.Nodup (["name", "first", "last", "weight", "claims", "most", "points", "gains", "best", "chains", "turn", "longer", "place", "waking", "010", "wakings"] : List Str) by decide +kernel) rfl (Or.inl rfl)) (au (ao (i := 2) (show List.Nodup (["name", "first", "last", "weight", "claims", "most", "points", "gains", "best", "chains", "turn", "longer", "place", "waking", "010", "wakings"] : List Str) by decide +kernel) rfl (Or.inl rfl)) (au (ao (i := 3) (show List.Nodup (["name", "first", "last", "weight", "claims", "most", "points", "gains", "best", "chains", "turn", "longer", "place", "waking", "010", "wakings"] : List Str) by decide +kernel) rfl (Or.inl rfl)) b6)))))) (f9 (aE (by decide) (aE (by decide) (aE (by decide) (aE (by decide) eL))))) (fun _ _ _ _ _ => di) (fun _ _ _ _ _ => (pv 2))) rfl rfl T.cn rfl T.kJ))
    (ag (av (i := 3) ay.nd rfl (Or.inl rfl) (aC qb (hr.mono (by decide)) rfl T.jJ T.jP (ae (pv 0) (ae (pv 2) ai))))
    (ag (av (i := 4) ay.nd rfl (Or.inl rfl) (du (ae af (ae (bR ai) ai))))
    (ag (av (i := 5) ay.nd rfl (Or.inl rfl) (bR (ae (pv 4) ai)))
    (ag (cQ PassesOwn.never rfl (jq rfl T.eP (ae (aQ (me rfl) rfl T.kA PyProof.Rows.boot_min (ae (pv 1) (ae (aQ cB rfl T.dE PySem.boot_len (ae (pv 2) ai)) ai))) ai)) (ao (i := 6) ay.nd rfl (Or.inl rfl))
     (ag (av (i := 7) ay.nd rfl (Or.inl rfl) (bR (ae (du (ae af (ae (bR ai) ai))) ai)))
     (ag (cQ PassesOwn.never rfl (oh rfl T.b5 (ae (pv 2) ai)) (fu (n := 2) rfl (au (ao (i := 8) ay.nd rfl (Or.inl rfl)) (au (ao (i := 9) ay.nd rfl (Or.inl rfl)) b6)))
      (ak (iP (pq PySem.F.plainAttrs_list PySem.F.slot_list_append PySem.F.type_list_append eR (pv 7) (ae (aC px (hr.mono (by decide)) rfl T.iH T.iU (ae (cH nT (pv 5) d6 (cT (aj bh (pv 8) af))) (ae (aL eu (pv 3) (pv 8) (fun _ _ => rfl)) (ae (pv 9) ai)))) ai)))))
     (ag (av (i := 5) ay.nd rfl (Or.inl rfl) (pv 7))
     (ak (cQ PassesOwn.never rfl (bf (pv 5)) (fu (n := 2) rfl (au (ao (i := 10) ay.nd rfl (Or.inl rfl)) (au (ao (i := 11) ay.nd rfl (Or.inl rfl)) b6)))
      (ak (bZ (aN iZ (pv 10) (aL bT (pv 4) af (fun _ _ => rfl)) (aS _))
       (ak (av (i := 4) ay.nd rfl (Or.inl rfl) (du (ae (pv 10) (ae (pv 11) ai)))))
       bo))))))))
    (ak (aI (aL bT (pv 4) af (fun _ _ => rfl))))))))), ?_⟩
   repeat' (walk_at "rd1")
   refine k9 ?_
   repeat' (walk_at "rd1")
   refine j0 (cs := cs) (gd := b7) (fun _ => true) (fun c => .int c.2.2.1) hv (by omega) (fun _ => rfl) (fun x c H2 N hc cA hx yes no => ?_) (fun q1 H1 ez sN oA => ?_)
   . have jb : Dv H2 x (.tuple [.str c.1, .int c.2.1, .int c.2.2.1, .int c.2.2.2]) := hx
     refine iu jb (fun v1 v2 v3 v4 e1 e2 e3 e4 => ?_)
     obtain rfl := e1.str_inv
     obtain rfl := e2.int_inv
     obtain rfl := e3.int_inv
     obtain rfl := e4.int_inv
     refine b9 (fun hb => ?_) (fun hb => by cases hb)
     repeat' (walk_at "rd1")
     exact yes rfl _ _ (ah.refl _) (.int _)
   have oi : Dv H1 (.ref q1) (.list ((cs.map (·.2.2.1)).map PyData.int)) := by
    have := oA.dv
    rw [cF] at this
    rw [List.map_map]; exact this
   refine lZ oi (by rw [List.length_map]; omega) (fun q2 H2 ps cA oB b4 jh jX => ?_)
   have mB : ps.length <= 60 := by
    have := jk (b4.imp fun h => Int.ne_of_lt h) (fun x hx => (jh x).mp hx)
    rw [List.length_map] at this
    omega
   have C2 := ez.trans cA
   have sT : Dv H2 v (.list (cs.map b7)) := hv.keeps C2
   clear oA oi
   repeat' (walk_at "rd1")
   refine xW sT hl jX mB (fun g H3 gs sm3 um Ox Mf => ?_)
   have Aw := jX.keeps sm3
   have Di := C2.trans sm3
   repeat' (walk_at "rd1")
   rename_i l0 H4 lS xE PX t0 H5 m8 Bh JW NI Pz H6 q9 Av JX N hN PL PZ
   have wo : ah H3 H6 := (lS.trans m8).trans q9
   have Ot : 0 <= N := by omega
   obtain ⟨n, rfl⟩ := Int.eq_ofNat_of_zero_le Ot
   have KS : ki H H6 (.ref t0) (0, []) := .mk (Di.none xE) (q9.at JW) (q9.at NI)
   refine jg (fun k σ' H' => ∃ (b : V) (ch : Addr) (z6 z7 z8 z9 iN lT : Option V) (xs : List V) (cl : List (Int × List Int)) (bs : Int × List Int), σ' = [some v, some (.int m), some (.ref q2), some (.ref g), some b, some (.ref ch), z6, z7, z8, z9, iN, lT] /\ ah H3 H' /\ ki H H' b bs /\ H' ch = some (.lst xs) /\ RL (ki H H') xs cl /\ vB cs ps k cl /\ xI cs ps k bs /\ Run cs ps k cl bs) ⟨_, _, _, _, _, _, _, _, _, [(0, [])], (0, []), rfl, wo, KS, JX, RL.snoc RL.nil KS, vB.zero cs ps, xI.zero cs ps, .zero⟩ ?_ ?_
   . rintro k σ' H' hk ⟨b, ch, z6, z7, z8, z9, iN, lT, xs, cl, bs, rfl, pG, hb, uf, K3, hC, hB, A7⟩
     have xB : k < n := by simpa using hk
     have Cq := Aw.keeps pG
     have Nn := pG.at Ox
     have Nu := Mf.mono (R' := sk H') fun x c h => h.keeps pG
     have G9 := Di.trans pG
     obtain ⟨tb, lb, rfl, nb, b1, b2⟩ := hb
     repeat' (walk_at "rd1")
     rename_i l1 H7 lF D2 P8 t1 H8 uz KU Oa M4 p H9 Ig OX Pa
     have HR : ah H' H9 := (lF.trans uz).trans Ig
     have Il : H' p = none := (lF.trans uz).none OX
     have O3 : ki H H9 (.ref t1) (0, []) := .mk (G9.none D2) (Ig.at Oa) (Ig.at M4)
     refine AH (Hb := H') (cs := ps) Cq.dv (fun i σ' H2 => ∃ (z8 z9 : Option V) (ys : List V) (el : List (Int × List Int)), σ' = [some v, some (.int m), some (.ref q2), some (.ref g), some (.ref tb), some (.ref ch), some (.int (0 + (k : Int))), some (.ref p), z8, z9, iN, lT] /\ ah H' H2 /\ H2 p = some (.lst (.ref t1 :: ys)) /\ RL (ki H H2) (.ref t1 :: ys) el /\ z0 cs ps cl i el) ⟨_, _, _, [(0, [])], rfl, HR, Pa, RL.snoc RL.nil O3, ⟨rfl, rfl, fun j _ hj => by omega⟩⟩ (fun i σ' H' _ ⟨_, _, _, _, _, sm, _⟩ a' xs e hx => ah.seq sm hx) ?_ ?_
     . rintro i c t σ' H2 hc ⟨z8, z9, ys, el, rfl, cA, uC, zC, hL⟩ ht
       have yl : i < ps.length := (List.getElem?_eq_some_iff.mp hc).1
       refine nJ aA ?_
       have JM : ah H2 (upd H2 t (.tup [.int (i : Int), .int c])) := aM ht
       generalize upd H2 t (.tup [.int (i : Int), .int c]) = Ha at *
       have Ju := cA.trans JM
       have IM := Ju.at uf
       have Mw := Ju.at Nn
       have Pw := JM.at uC
       repeat' (walk_at "rd1")
       rw [show ((i : Int) + 1) = ((i + 1 : Nat) : Int) from by omega]
       refine Bt (i + 1) IM (fun cu Hb G6 PN O7 => ?_)
       repeat' (walk_at "rd1")
       obtain ⟨gx, Mr, gq, rfl, MC, xG⟩ := Nu.get (mM cs ps hc _ yl)
       refine Gn (G6.at Mw) Mr ?_
       repeat' (walk_at "rd1")
       have ye := Ju.trans G6
       have MJ : 0 < cl.length := (List.getElem?_eq_some_iff.mp hC.nil).1
       refine IB (H0 := H) (el := cl.take (i + 1)) O7 ((K3.mono fun x c h => h.keeps ye).take (i + 1)) (ye.at MC) (by rw [List.length_take]; omega) xG (fun e he => by have := hC.Kc e (List.mem_of_mem_take he); omega) (fun t2 l2 Hc r Hz Qh Ee NX xm MO => ?_)
       repeat' (walk_at "rd1")
       have Iv := ye.trans Hz
       have Cp := (G6.trans Hz).at Pw
       have KN : (V.ref t1 :: ys).length <= 100 := by rw [zC.1, hL.len]; omega
       refine wW Cp (by omega) ?_
       have NA : RL (ki H Hc) (.ref t1 :: ys) el := zC.mono fun x c h => h.keeps (JM.trans (G6.trans Hz))
       have om : ki H Hc (.ref t2) r := ⟨t2, l2, rfl, (G9.trans ye).none Ee, NX, xm⟩
       refine ⟨_, _, ys ++ [.ref t2], el ++ [r], rfl, fun b u e => ?_, aA, ?_, hL.snoc hc MO⟩
       . rw [aw (aH e Il)]; exact Iv b u e
       . exact (NA.mono fun x c h => h.app Cp).snoc (om.app Cp)
     . rintro σ' H2 ⟨z8, z9, ys, el, rfl, cA, uC, zC, hL⟩
       repeat' (walk_at "rd1")
       refine forL (bF.of uC) (fun j σ' H3 => ∃ (b : V) (iN lT : Option V), σ' = [some v, some (.int m), some (.ref q2), some (.ref g), some b, some (.ref p), some (.int (0 + (k : Int))), some (.ref p), z8, z9, iN, lT] /\ ah H2 H3 /\ ki H H3 b ((el.take j).foldl pick bs)) ⟨_, _, _, rfl, ah.refl _, tb, lb, rfl, nb, cA.at b1, cA.at b2⟩ (fun j σ' H3 _ ⟨_, _, _, _, sm, _⟩ => bF.of (sm.at uC)) ?_ ?_
       . rintro j x σ' H3 hx ⟨b, iN, lT, rfl, sm3, hb⟩
         have pQ : j < el.length := by rw [<- zC.1]; exact (List.getElem?_eq_some_iff.mp hx).1
         have LV : el[j]? = some el[j] := List.getElem?_eq_getElem pQ
         obtain ⟨tx, lx, rfl, nx, x1, x2⟩ := (zC.2 j x _ hx LV).keeps sm3
         rw [take_snoc LV, List.foldl_append]
         generalize el[j] = e at *
         generalize (el.take j).foldl pick bs = bj at *
         obtain ⟨tc, lc, rfl, nc, c1, c2⟩ := hb
         refine nJ x1 ?_
         repeat' (walk_at "rd1")
         . rename_i DR
           refine iz (ds := [.int e.1, .list (e.2.map PyData.int)]) (gu rfl) (.cons (.int _) (.cons (Dv.lst (.inl x2) (dS _)) .nil)) (fun tn H4 lS xE zj => ?_)
           repeat' (walk_at "rd1")
           refine ⟨_, _, _, rfl, sm3.trans lS, ?_⟩
           have : [e].foldl pick bj = e := by show (if e.1 > bj.1 then e else bj) = e; rw [if_pos DR]
           rw [this]
           exact ⟨tn, lx, rfl, nx, zj, lS.at x2⟩
         . rename_i DR
           refine ⟨_, _, _, rfl, sm3, ?_⟩
           have : [e].foldl pick bj = bj := by show (if e.1 > bj.1 then e else bj) = bj; rw [if_neg DR]
           rw [this]
           exact ⟨tc, lc, rfl, nc, c1, c2⟩
       . rintro σ' H3 ⟨b, iN, lT, rfl, sm3, hb⟩
         rw [zC.1, List.take_length] at hb
         refine ⟨_, _, _, _, _, _, _, _, _, el, el.foldl pick bs, rfl, (pG.trans cA).trans sm3, hb, sm3.at uC, zC.mono fun x c h => h.keeps sm3, hL.LD hC b4, hB.step (hL.LD hC b4), hL.run A7⟩
   . rintro σ' H' ⟨b, ch, z6, z7, z8, z9, iN, lT, xs, cl, bs, rfl, pG, hb, uf, K3, hC, hB, A7⟩
     obtain ⟨tb, lb, rfl, nb, b1, b2⟩ := hb
     have G9 := Di.trans pG
     repeat' (walk_at "rd1")
     have hO : Bf cs m bs.2 := hB.Kn b4 (fun c hc => (jh _).mpr (List.mem_map_of_mem hc)) (fun c hc => by have := (aK.w1 c hc).1; show 0 <= c.2.2.2; omega) (by simp; omega) (by simp; omega)
     exact q lb H' bs.2 G9 nb b2 hO (by have := hB.len; simp at this; omega) ⟨ps, n, cl, bs.1, b4, jh, by simpa using A7, by omega, by omega, by omega⟩
theorem Cd (T : Txt K mg a) : lg P w K mg base 3 a.a0 ["claims", "most"] [] wN :=
 ⟨⟨_, _, Fz T, T.dP.binds fun _ _ _ _ _ _ => .all fun us hl => match us, hl with | [_, _], _ => rfl, .nil⟩⟩
theorem mY : ∀ {cs : List C4}, (∀ c ∈ cs, 1 <= c.2.2.2 /\ c.2.2.2 <= 10 ^ 12) -> 0 <= (cs.map wt).sum /\ (cs.map wt).sum <= 10 ^ 12 * cs.length
 | [], _ => by simp
 | c :: cs, h => by
   have ih := mY (cs := cs) fun d hd => h d (List.mem_cons_of_mem _ hd)
   have hc := h c List.mem_cons_self
   rw [List.map_cons, List.sum_cons, List.length_cons]
   unfold wt at ih ⊢
   omega
def oo (cs : List C4) (pr s : Int) : Prop := ∃ f, vG pr cs f /\ Exact pr cs f /\ s = (cs.map fun c => f c.1).sum
def Dn (cs : List C4) (m p : Int) : Prop := p = 0 \/ ∃ s0 s1, oo cs (p - 1) s0 /\ oo cs p s1 /\ m < s1 - s0
def Up (cs : List C4) (m p : Int) : Prop := p = (cs.map wt).sum \/ ∃ s0 s1, oo cs p s0 /\ oo cs (p + 1) s1 /\ s1 - s0 <= m
def m6 : Sp := fun vs H Q _ => ∃ (v : V) (pr : Int) (cs : List C4), vs = [v, .int pr] /\ Dv H v (.list (cs.map b7)) /\ gP cs /\ cs.length <= 60 /\ 0 <= pr /\ ∀ H' s, ah H H' -> oo cs pr s -> Q (.int s) H'
theorem u9 {H : Hp} {Q : VK} {E : XK} {v : V} {pr : Int} {cs : List C4} (h : Dv H v (.list (cs.map b7))) (ho : gP cs) (hl : cs.length <= 60) (h0 : 0 <= pr) (q : ∀ H' s, ah H H' -> oo cs pr s -> Q (.int s) H') : m6 [v, .int pr] H Q E := ⟨v, pr, cs, rfl, h, ho, hl, h0, q⟩
theorem yX (T : Txt K mg a) : bQ P w K mg base iV 6 a.bI a.i9 ["claims", "price"] m6 := by
 have gy := kE (P := P) (w := w) (base := base) T
 refine T.gA.ok nE (fun vs H Q E h => ?_) (fun df A outer s H vs Q E hr h => ?_)
 . obtain ⟨_, _, _, rfl, _⟩ := h; rfl
 . obtain ⟨v, pr, cs, rfl, hv, aK, hl, p0, q⟩ := h
   refine ⟨_, (ak (aI (y6 (aC gy (hr.mono (by decide)) rfl T.fD T.fz (ae (pv 1) (ae (pv 0) ai))) rfl rfl T.ik))), ?_⟩
   repeat' (walk_at "rd1")
   refine pL hv aK hl p0 (fun pd H5 f m8 Bh hd nR hx => ?_)
   repeat' (walk_at "rd1")
   refine BP (ns := cs.map fun c => f c.1) hd (by unfold dU; rw [List.map_map, List.map_map]; rfl) ?_
   repeat' (walk_at "rd1")
   exact q _ _ m8 ⟨f, nR, hx, rfl⟩
theorem vO (T : Txt K mg a) : lg P w K mg base 6 a.bI ["claims", "price"] [] m6 :=
 ⟨⟨_, _, yX T, T.gA.binds fun _ _ _ _ _ _ => .all fun us hl => match us, hl with | [_, _], _ => rfl, .nil⟩⟩
def qA : Sp := fun vs H Q _ => ∃ (v : V) (m : Int) (cs : List C4), vs = [v, .int m] /\ Dv H v (.list (cs.map b7)) /\ gP cs /\ cs.length <= 60 /\ ∀ H' p, ah H H' -> 0 <= p -> p <= (cs.map wt).sum -> Dn cs m p -> Up cs m p -> Q (.int p) H'
theorem FP {H : Hp} {Q : VK} {E : XK} {v : V} {m : Int} {cs : List C4} (h : Dv H v (.list (cs.map b7))) (ho : gP cs) (hl : cs.length <= 60) (q : ∀ H' p, ah H H' -> 0 <= p -> p <= (cs.map wt).sum -> Dn cs m p -> Up cs m p -> Q (.int p) H') : qA [v, .int m] H Q E := ⟨v, m, cs, rfl, h, ho, hl, q⟩
theorem A8 (T : Txt K mg a) : bQ P w K mg base iV 7 a.bV a.jD ["claims", "most"] qA := by
 have jB := vO (P := P) (w := w) (base := base) T
 refine T.il.ok cz (fun vs H Q E h => ?_) (fun df A outer s H vs Q E hr h => ?_)
 . obtain ⟨_, _, _, rfl, _⟩ := h; rfl
 . obtain ⟨v, m, cs, rfl, hv, aK, hl, q⟩ := h
   refine ⟨_, (ag (av (i := 2) cz.nd rfl (Or.inl rfl) af)
    (ag (av (i := 3) cz.nd rfl (Or.inl rfl) (aQ (ju rfl) rfl T.ik PyProof.Rows.boot_sum (ae (fS (T := ["name", "first", "last", "weight"]) (M := ["claims", "most", "low", "high", "middle"]) (sQ (aq fb) ["claims", "most", "low", "high", "middle"] rfl rfl (by decide +kernel)) rfl (bf (pv 0)) (fun _ _ _ _ _ => (iT (K := K) (n := 4) rfl rfl (au (ao (i := 0) (show List.Nodup (["name", "first", "last", "weight", "claims", "most", "low", "high", "middle"] : List Str) by decide +kernel) rfl (Or.inl rfl)) (au (ao (i := 1) (show List.Nodup (["name", "first", "last", "weight", "claims", "most", "low", "high", "middle"] : List Str) by decide +kernel) rfl (Or.inl rfl)) (au (ao (i := 2) (show List.Nodup (["name", "first", "last", "weight", "claims", "most", "low", "high", "middle"] : List Str) by decide +kernel) rfl (Or.inl rfl)) (au (ao (i := 3) (show List.Nodup (["name", "first", "last", "weight", "claims", "most", "low", "high", "middle"] : List Str) by decide +kernel) rfl (Or.inl rfl)) b6)))))) (f9 (aE (by decide) (aE (by decide) (aE (by decide) (aE (by decide) eL))))) (fun _ _ _ _ _ => di) (fun _ _ _ _ _ => (pv 3))) ai)))
    (ag (pD PassesOwn.never (aN kB (pv 2) (pv 3) (aS _))
     (ag (av (i := 4) cz.nd rfl (Or.inl rfl) (aj aF (aj bh (pv 2) (pv 3)) af))
     (ak (bZ (aN gF (aj fV (aC jB (hr.mono (by decide)) rfl T.fw T.fh (ae (pv 0) (ae (aj bh (pv 4) af) ai))) (aC jB (hr.mono (by decide)) rfl T.fw T.fh (ae (pv 0) (ae (pv 4) ai)))) (pv 1) (aS _))
      (ak (av (i := 3) cz.nd rfl (Or.inl rfl) (pv 4)))
      (ak (av (i := 2) cz.nd rfl (Or.inl rfl) (aj bh (pv 4) af)))))))
    (ak (aI (pv 2)))))), ?_⟩
   repeat' (walk_at "rd1")
   refine j0 (cs := cs) (gd := b7) (fun _ => true) (fun c => .int (wt c)) hv (by omega) (fun _ => rfl) (fun x c H2 N hc cA hx yes no => ?_) (fun q1 H1 ez sN oA => ?_)
   . have jb : Dv H2 x (.tuple [.str c.1, .int c.2.1, .int c.2.2.1, .int c.2.2.2]) := hx
     refine iu jb (fun v1 v2 v3 v4 e1 e2 e3 e4 => ?_)
     obtain rfl := e1.str_inv
     obtain rfl := e2.int_inv
     obtain rfl := e3.int_inv
     obtain rfl := e4.int_inv
     refine b9 (fun hb => ?_) (fun hb => by cases hb)
     repeat' (walk_at "rd1")
     exact yes rfl _ _ (ah.refl _) (.int _)
   rw [cF] at oA
   have oi : Dv H1 (.ref q1) (.list ((cs.map wt).map PyData.int)) := by rw [List.map_map]; exact oA.dv
   have hb := mY aK.w1
   repeat' (walk_at "rd1")
   clear oA oi
   have hU : Up cs m (cs.map wt).sum := .inl rfl
   generalize (cs.map wt).sum = tw at *
   refine rN (fun r σ' H' => ∃ (lo hi : Int) (z4 : Option V), σ' = [some v, some (.int m), some (.int lo), some (.int hi), z4] /\ ah H H' /\ 0 <= lo /\ lo <= hi /\ hi <= tw /\ Dn cs m lo /\ Up cs m hi /\ r = (hi - lo).toNat) ⟨_, 0, tw, _, rfl, ez, Int.le_refl _, hb.1, Int.le_refl _, .inl rfl, hU, rfl⟩ ?_
   rintro r σ' H' ⟨lo, hi, z4, rfl, sm, h0, h1, h2, hD, KL, rfl⟩
   have Fd : Dv H' v (.list (cs.map b7)) := hv.keeps sm
   repeat' (walk_at "rd1")
   . rename_i b4
     refine u9 Fd aK hl (by omega) (fun H2 s1 cA KC => ?_)
     have sT : Dv H2 v (.list (cs.map b7)) := Fd.keeps cA
     repeat' (walk_at "rd1")
     refine u9 sT aK hl (by omega) (fun H3 s0 sm3 G7 => ?_)
     repeat' (walk_at "rd1")
     . rename_i hle
       refine ⟨_, ?_, lo, (lo + hi) / 2, _, rfl, (sm.trans cA).trans sm3, h0, by omega, by omega, hD, .inr ⟨s0, s1, G7, KC, hle⟩, rfl⟩
       omega
     . rename_i hle
       refine ⟨_, ?_, (lo + hi) / 2 + 1, hi, _, rfl, (sm.trans cA).trans sm3, by omega, by omega, by omega, .inr ⟨s0, s1, ?_, KC, by omega⟩, KL, rfl⟩
       . omega
       . rw [show (lo + hi) / 2 + 1 - 1 = (lo + hi) / 2 by omega]; exact G7
   . rename_i b4
     have : lo = hi := by omega
     subst this
     exact q H' lo sm h0 h2 hD KL
theorem yt (T : Txt K mg a) : lg P w K mg base 7 a.bV ["claims", "most"] [] qA :=
 ⟨⟨_, _, A8 T, T.il.binds fun _ _ _ _ _ _ => .all fun us hl => match us, hl with | [_, _], _ => rfl, .nil⟩⟩
def m5 : Sp := fun vs H Q _ => ∃ (v : V) (m : Int) (cs : List C4), vs = [v, .int m] /\ Dv H v (.list (cs.map b7)) /\ gP cs /\ cs.length <= 60 /\ 0 <= m /\ ∀ t l d H' W p f, ah H H' -> H l = none -> H d = none -> H' t = some (.tup [.ref l, .int p, .ref d]) -> H' l = some (.lst (W.map V.int)) -> eG H' d (dU f cs) -> Bf cs m W -> W.length <= 60 -> 0 <= p -> p <= (cs.map wt).sum -> Dn cs m p -> Up cs m p -> vG p cs f -> Exact p cs f -> l ≠ d -> BQ cs m W -> Q (.ref t) H'
theorem xf {H : Hp} {Q : VK} {E : XK} {v : V} {m : Int} {cs : List C4} (h : Dv H v (.list (cs.map b7))) (ho : gP cs) (hl : cs.length <= 60) (h0 : 0 <= m) (q : ∀ t l d H' W p f, ah H H' -> H l = none -> H d = none -> H' t = some (.tup [.ref l, .int p, .ref d]) -> H' l = some (.lst (W.map V.int)) -> eG H' d (dU f cs) -> Bf cs m W -> W.length <= 60 -> 0 <= p -> p <= (cs.map wt).sum -> Dn cs m p -> Up cs m p -> vG p cs f -> Exact p cs f -> l ≠ d -> BQ cs m W -> Q (.ref t) H') : m5 [v, .int m] H Q E := ⟨v, m, cs, rfl, h, ho, hl, h0, q⟩
theorem zx (T : Txt K mg a) : bQ P w K mg base iV 8 a.gE a.sd ["claims", "most"] m5 := by
 have qE := yt (P := P) (w := w) (base := base) T
 have lA := Cd (P := P) (w := w) (base := base) T
 have gy := kE (P := P) (w := w) (base := base) T
 refine T.qg.ok rV (fun vs H Q E h => ?_) (fun df A outer s H vs Q E hr h => ?_)
 . obtain ⟨_, _, _, rfl, _⟩ := h; rfl
 . obtain ⟨v, m, cs, rfl, hv, aK, hl, m0, q⟩ := h
   refine ⟨_, (ag (av (i := 2) rV.nd rfl (Or.inl rfl) (aC qE (hr.mono (by decide)) rfl T.jO T.jQ (ae (pv 0) (ae (pv 1) ai))))
    (ak (aI (du (ae (aC lA (hr.mono (by decide)) rfl T.fF T.fP (ae (pv 0) (ae (pv 1) ai))) (ae (pv 2) (ae (aC gy (hr.mono (by decide)) rfl T.fD T.fz (ae (pv 2) (ae (pv 0) ai))) ai))))))), ?_⟩
   repeat' (walk_at "rd1")
   refine FP hv aK hl (fun H1 p ez p0 p1 hD hU => ?_)
   have yy : Dv H1 v (.list (cs.map b7)) := hv.keeps ez
   repeat' (walk_at "rd1")
   refine IE yy aK hl m0 (fun l H2 W cA oB xm hO hW Hv => ?_)
   have sT : Dv H2 v (.list (cs.map b7)) := yy.keeps cA
   repeat' (walk_at "rd1")
   refine pL sT aK hl p0 (fun d H3 f sm3 um hd nR hx => ?_)
   repeat' (walk_at "rd1")
   have L1 := sm3.at xm
   refine iz (ds := [.list (W.map PyData.int), .int p, _]) (gu rfl) (.cons (.lst (.inl L1) (dS _)) (.cons (.int _) (.cons hd.dv .nil))) (fun tn H4 lS xE zj => ?_)
   repeat' (walk_at "rd1")
   exact q tn l d H4 W p f (((ez.trans cA).trans sm3).trans lS) (ez.none oB) ((ez.trans cA).none um) zj (lS.at L1) (hd.keeps lS) hO hW p0 p1 hD hU nR hx (aH xm um) Hv
theorem uR (T : Txt K mg a) : lg P w K mg base 8 a.gE ["claims", "most"] [] m5 :=
 ⟨⟨_, _, zx T, T.qg.binds fun _ _ _ _ _ _ => .all fun us hl => match us, hl with | [_, _], _ => rfl, .nil⟩⟩
theorem nk {p q : Int -> Bool} : ∀ {A : List Int}, (∀ a ∈ A, p a = true -> q a = true) -> (A.filter p).length <= (A.filter q).length /\ ((A.filter q).length <= (A.filter p).length -> ∀ a ∈ A, q a = true -> p a = true)
 | [], _ => ⟨Nat.le_refl _, fun _ a h => by simp at h⟩
 | x :: A, h => by
   obtain ⟨h1, h2⟩ := nk (A := A) fun a ha => h a (List.mem_cons_of_mem _ ha)
   have hx := h x List.mem_cons_self
   rw [List.filter_cons, List.filter_cons]
   cases hp : p x with
   | true =>
     have hq := hx hp
     rw [hq, if_pos rfl, if_pos rfl, List.length_cons, List.length_cons]
     refine ⟨by omega, fun hle a ha Ga => ?_⟩
     rcases List.mem_cons.mp ha with rfl | ha
     . exact hp
     . exact h2 (by omega) a ha Ga
   | false =>
     cases hq : q x with
     | true =>
       rw [if_neg (by simp), if_pos rfl, List.length_cons]
       exact ⟨by omega, fun hle => by omega⟩
     | false =>
       rw [if_neg (by simp), if_neg (by simp)]
       refine ⟨h1, fun hle a ha Ga => ?_⟩
       rcases List.mem_cons.mp ha with rfl | ha
       . rw [hq] at Ga; cases Ga
       . exact h2 hle a ha Ga
def aO (A : List Int) : List Int -> Nat
 | [] => A.length
 | b :: _ => (A.filter fun a => decide (a < b)).length
def nV (x : Int) : Int -> Bool := fun a => decide (a <= x)
def xR (x : Int) : Int -> Bool := fun a => decide (x < a)
theorem rR (x : Int) : ∀ A : List Int, (A.filter (nV x)).length + (A.filter (xR x)).length = A.length
 | [] => rfl
 | a :: A => by
   have ih := rR x A
   rw [List.filter_cons, List.filter_cons]
   unfold nV xR at ih ⊢
   by_cases h : a <= x
   . rw [decide_eq_true h, decide_eq_false (by omega), if_pos rfl, if_neg (by simp), List.length_cons, List.length_cons]; omega
   . rw [decide_eq_false h, decide_eq_true (by omega), if_neg (by simp), if_pos rfl, List.length_cons, List.length_cons]; omega
theorem cross {A B : List Int} {d : Int} : ∀ (Bs Bp : List Int), B = Bp ++ Bs -> fB B -> (Bp.length : Int) - aO A Bs < d -> d <= (B.length : Int) - A.length -> ∃ x, x ∈ B /\ (∀ a ∈ A, x < a -> ∃ b ∈ B, x < b /\ b <= a) /\ ((B.filter (nV x)).length : Int) - (A.filter (nV x)).length = d
 | [], Bp, hB, hI, h1, h2 => by
   rw [List.append_nil] at hB
   subst hB
   have e : aO A [] = A.length := rfl
   rw [e] at h1
   omega
 | b :: Bs, Bp, hB, hI, h1, h2 => by
   by_cases h3 : ((Bp ++ [b]).length : Int) - aO A Bs < d
   . exact cross Bs (Bp ++ [b]) (by rw [hB]; simp) hI h3 h2
   . rw [List.length_append, List.length_singleton] at h3
     subst hB
     obtain ⟨i1, i2, i3⟩ := List.pairwise_append.mp hI
     obtain ⟨j1, j2⟩ := List.pairwise_cons.mp i2
     have KP : b ∈ Bp ++ b :: Bs := by simp
     have K1 : ((Bp ++ b :: Bs).filter (nV b)).length = Bp.length + 1 := by
      have f1 : Bp.filter (nV b) = Bp := List.filter_eq_self.mpr fun y hy => decide_eq_true (Int.le_of_lt (i3 y hy b List.mem_cons_self))
      have f2 : Bs.filter (nV b) = [] := List.filter_eq_nil_iff.mpr fun y hy => by have := j1 y hy; simp [nV]; omega
      have f3 : nV b b = true := decide_eq_true (Int.le_refl b)
      rw [List.filter_append, List.length_append, f1, List.filter_cons, if_pos f3, f2]
      rfl
     have g1 := nk (A := A) (p := fun a => decide (a < b)) (q := nV b) (fun a _ h => decide_eq_true (Int.le_of_lt (of_decide_eq_true h)))
     have e0 : aO A (b :: Bs) = (A.filter fun a => decide (a < b)).length := rfl
     cases Bs with
     | nil =>
       have e1 : aO A [] = A.length := rfl
       have g2 := rR b A
       refine ⟨b, KP, fun a ha b4 => ?_, ?_⟩
       . have JU : A.filter (xR b) = [] := List.length_eq_zero_iff.mp (by omega)
         have := List.filter_eq_nil_iff.mp JU a ha
         exact absurd (decide_eq_true b4) this
       . rw [K1]; omega
     | cons b' Bs =>
       have JV := j1 b' List.mem_cons_self
       have e1 : aO A (b' :: Bs) = (A.filter fun a => decide (a < b')).length := rfl
       have g2 := nk (A := A) (p := nV b) (q := fun a => decide (a < b')) (fun a _ h => decide_eq_true (by have := of_decide_eq_true h; omega))
       refine ⟨b, KP, fun a ha b4 => ⟨b', by simp, JV, ?_⟩, ?_⟩
       . by_cases Dm : b' <= a
         . exact Dm
         . have := g2.2 (by omega) a ha (decide_eq_true (by omega))
           have := of_decide_eq_true this
           omega
       . rw [K1]; omega
theorem Dj {A B : List Int} {x w : Int} {c : C4} (hx : x ∈ B) (h2 : ∀ a ∈ A, x < a -> ∃ b ∈ B, x < b /\ b <= a) (hw : 0 <= w) : (if hit A c = true then w else 0) + (if hit B c = true then w else 0) <= (if hit (A.filter (nV x) ++ B.filter (xR x)) c = true then w else 0) + (if hit (B.filter (nV x) ++ A.filter (xR x)) c = true then w else 0) := by
 have Ej : ∀ {U W : List Int} {u : Int}, u ∈ U -> u <= x -> c.2.1 <= u -> u <= c.2.2.1 -> hit (U.filter (nV x) ++ W) c = true := fun hu h3 h4 h5 => (aJ _ c).mpr ⟨_, List.mem_append_left _ (List.mem_filter.mpr ⟨hu, decide_eq_true h3⟩), h4, h5⟩
 have Gv : ∀ {U W : List Int} {u : Int}, u ∈ W -> x < u -> c.2.1 <= u -> u <= c.2.2.1 -> hit (U ++ W.filter (xR x)) c = true := fun hu h3 h4 h5 => (aJ _ c).mpr ⟨_, List.mem_append_right _ (List.mem_filter.mpr ⟨hu, decide_eq_true h3⟩), h4, h5⟩
 by_cases hA : hit A c = true
 . obtain ⟨u, hu, u1, u2⟩ := (aJ A c).mp hA
   by_cases hB : hit B c = true
   . obtain ⟨v, hv, v1, v2⟩ := (aJ B c).mp hB
     have k : hit (A.filter (nV x) ++ B.filter (xR x)) c = true /\ hit (B.filter (nV x) ++ A.filter (xR x)) c = true := by
      by_cases h3 : u <= x
      . refine ⟨Ej hu h3 u1 u2, ?_⟩
        by_cases h4 : v <= x
        . exact Ej hv h4 v1 v2
        . exact Ej hx (Int.le_refl _) (by omega) (by omega)
      . by_cases h4 : v <= x
        . obtain ⟨b, hb, b1, b2⟩ := h2 u hu (by omega)
          exact ⟨Gv hb b1 (by omega) (by omega), Ej hv h4 v1 v2⟩
        . exact ⟨Gv hv (by omega) v1 v2, Gv hu (by omega) u1 u2⟩
     rw [if_pos hA, if_pos hB, if_pos k.1, if_pos k.2]
     exact Int.le_refl _
   . rw [if_pos hA, if_neg hB]
     by_cases h3 : u <= x
     . rw [if_pos (Ej hu h3 u1 u2)]; split <;> omega
     . rw [if_pos (Gv (U := B.filter (nV x)) hu (by omega) u1 u2)]; split <;> omega
 . rw [if_neg hA]
   by_cases hB : hit B c = true
   . obtain ⟨v, hv, v1, v2⟩ := (aJ B c).mp hB
     rw [if_pos hB]
     by_cases h4 : v <= x
     . rw [if_pos (Ej (W := A.filter (xR x)) hv h4 v1 v2)]; split <;> omega
     . rw [if_pos (Gv (U := A.filter (nV x)) hv (by omega) v1 v2)]; split <;> omega
   . rw [if_neg hB]; split <;> split <;> omega
theorem JR {A B : List Int} (hA : fB A) (hB : fB B) (hl : A.length + 2 <= B.length) {cs : List C4} (hw : ∀ c ∈ cs, 0 <= wt c) : ∃ A' B' : List Int, fB A' /\ fB B' /\ A'.length = A.length + 1 /\ B'.length + 1 = B.length /\ fT A cs + fT B cs <= fT A' cs + fT B' cs := by
 have xM : (([] : List Int).length : Int) - aO A B < (B.length : Int) - A.length - 1 := by
  have h0 : (([] : List Int).length : Int) = 0 := rfl
  rw [h0]; omega
 obtain ⟨x, hx, h2, hd⟩ := cross (A := A) (B := B) (d := (B.length : Int) - A.length - 1) B [] rfl hB xM (by omega)
 have l1 := rR x A
 have l2 := rR x B
 have mix : ∀ {U W : List Int}, fB U -> fB W -> fB (U.filter (nV x) ++ W.filter (xR x)) := fun hU hW => List.pairwise_append.mpr ⟨hU.filter _, hW.filter _, fun u hu v hv => by
  have h3 := of_decide_eq_true (List.mem_filter.mp hu).2
  have h4 := of_decide_eq_true (List.mem_filter.mp hv).2
  omega⟩
 refine ⟨_, _, mix hA hB, mix hB hA, by rw [List.length_append]; omega, by rw [List.length_append]; omega, ?_⟩
 rw [dI, dI, dI, dI]
 clear hd l1 l2 mix xM
 induction cs with
 | nil => exact Int.le_refl _
 | cons c cs ih =>
   have ih := ih fun d hd => hw d (List.mem_cons_of_mem _ hd)
   have := Dj (c := c) hx h2 (hw c List.mem_cons_self)
   rw [a8, a8, a8, a8]
   omega
theorem bA (W : List Int) : ∀ cs : List C4, fT W cs + dc W cs = (cs.map wt).sum
 | [] => rfl
 | c :: cs => by
   have ih := bA W cs
   unfold dc at ih ⊢
   rw [dI] at ih ⊢
   rw [a8, List.map_cons, List.map_cons, List.sum_cons, List.sum_cons]
   by_cases h : hit W c = true
   . simp only [h, if_true]; omega
   . simp only [h, if_false, Bool.false_eq_true]; unfold wt at *; omega
theorem kH {W : List Int} : ∀ {cs : List C4}, (∀ c ∈ cs, 1 <= c.2.2.2) -> ((Ki W cs).length : Int) <= dc W cs
 | [], _ => Int.le_refl _
 | c :: cs, h => by
   have ih := kH (W := W) (cs := cs) fun d hd => h d (List.mem_cons_of_mem _ hd)
   have hc := h c List.mem_cons_self
   unfold Ki dc at ih ⊢
   rw [List.map_cons, List.sum_cons, List.filter_cons]
   by_cases hh : hit W c = true
   . simp only [hh, if_true, Bool.not_true, Bool.false_eq_true, if_false]; omega
   . have hf : hit W c = false := by simpa using hh
     simp only [hf, Bool.not_false, if_true, Bool.false_eq_true, if_false, List.map_cons, List.length_cons]
     omega
theorem oo.jz {cs : List C4} {p s : Int} (h : oo cs p s) : ∃ W : List Int, s = W.length * p + dc W cs := by
 obtain ⟨f, nR, hx, rfl⟩ := h
 obtain ⟨W, _, e⟩ := yJ nR hx
 exact ⟨W, e⟩
theorem oo.weak {cs : List C4} {p s : Int} (p0 : 0 <= p) (h : oo cs p s) (W : List Int) : s <= W.length * p + dc W cs := by
 obtain ⟨f, nR, hx, rfl⟩ := h
 exact tq (g := fun c => f c.1) nR.nn nR.le (fun t => kL p0 nR.nn nR.ld t) W
theorem oo.det {cs : List C4} {p s s' : Int} (p0 : 0 <= p) (h : oo cs p s) (h' : oo cs p s') : s = s' := by
 obtain ⟨W, e⟩ := h.jz
 obtain ⟨W', e'⟩ := h'.jz
 have h1 := h.weak p0 W'
 have h2 := h'.weak p0 W
 omega
theorem oo.inc {cs : List C4} {ps : List Int} {p s : Int} (p0 : 0 <= p) (h : oo cs p s) (lH : fB ps) (hm : ∀ c ∈ cs, c.2.2.1 ∈ ps) (hw : ∀ c ∈ cs, 0 <= wt c) : ∃ W : List Int, fB W /\ s = W.length * p + dc W cs := by
 obtain ⟨W, e⟩ := h.jz
 obtain ⟨V, v1, _, v3, v4⟩ := F0 lH hm hw W
 refine ⟨V, v1, ?_⟩
 have h1 := h.weak p0 V
 have h2 := bA W cs
 have h3 := bA V cs
 have h4 : (V.length : Int) * p <= W.length * p := Int.mul_le_mul_of_nonneg_right (by omega) p0
 omega
theorem vQ {W : List Int} {cs : List C4} (hw : ∀ c ∈ cs, 1 <= c.2.2.2) : 0 <= dc W cs := Int.le_trans (Int.natCast_nonneg _) (kH (W := W) hw)
theorem lV {cs : List C4} : dc [] cs = (cs.map wt).sum := by
 have := bA [] cs
 rw [fC] at this
 omega
def gap (cs : List C4) (p s : Int) (V : List Int) : Int := V.length * p + dc V cs - s
theorem pH {cs : List C4} {p s : Int} {A B : List Int} (hw : ∀ c ∈ cs, 0 <= wt c) (hA : fB A) (hB : fB B) (hl : A.length + 2 <= B.length) : ∃ A' B' : List Int, fB A' /\ fB B' /\ A'.length = A.length + 1 /\ B'.length + 1 = B.length /\ gap cs p s A' + gap cs p s B' <= gap cs p s A + gap cs p s B := by
 obtain ⟨A', B', h1, h2, h3, h4, h5⟩ := JR hA hB hl hw
 refine ⟨A', B', h1, h2, h3, h4, ?_⟩
 have e1 := bA A cs
 have e2 := bA B cs
 have e3 := bA A' cs
 have e4 := bA B' cs
 unfold gap
 have l1 : (A'.length : Int) * p = A.length * p + p := by rw [h3, Int.natCast_add, Int.add_mul]; simp
 have l2 : (B.length : Int) * p = B'.length * p + p := by rw [<- h4, Int.natCast_add, Int.add_mul]; simp
 omega
theorem walk1 {cs : List C4} {p s m : Int} (hw : ∀ c ∈ cs, 0 <= wt c) (hn : ∀ V, 0 <= gap cs p s V) : ∀ (n : Nat) {A B : List Int}, fB A -> fB B -> B.length - A.length <= n -> (A.length : Int) <= m -> m < B.length -> gap cs p s A <= 0 -> gap cs p s B <= B.length - m - 1 -> ∃ V : List Int, (V.length : Int) = m /\ gap cs p s V <= 0
 | 0, A, B, hA, hB, hl, h1, h2, h3, h4 => by omega
 | n + 1, A, B, hA, hB, hl, h1, h2, h3, h4 => by
   by_cases hm : (A.length : Int) = m
   . exact ⟨A, hm, h3⟩
   . obtain ⟨A', B', a1, b1, a2, b2, hg⟩ := pH (p := p) (s := s) hw hA hB (by omega)
     have n1 := hn A'
     have n2 := hn B'
     by_cases hz : gap cs p s A' <= 0
     . exact walk1 hw hn n a1 hB (by omega) (by omega) h2 hz h4
     . by_cases hb : (B'.length : Int) = m
       . omega
       . exact walk1 hw hn n hA b1 (by omega) h1 (by omega) h3 (by omega)
theorem walk2 {cs : List C4} {p s m : Int} (hw : ∀ c ∈ cs, 0 <= wt c) (hn : ∀ V, 0 <= gap cs p s V) : ∀ (n : Nat) {A B : List Int}, fB A -> fB B -> B.length - A.length <= n -> (A.length : Int) <= m -> m < B.length -> gap cs p s B <= 0 -> gap cs p s A <= m - A.length -> ∃ V : List Int, (V.length : Int) = m /\ gap cs p s V <= 0
 | 0, A, B, hA, hB, hl, h1, h2, h3, h4 => by omega
 | n + 1, A, B, hA, hB, hl, h1, h2, h3, h4 => by
   by_cases hm : (A.length : Int) = m
   . exact ⟨A, hm, by omega⟩
   . obtain ⟨A', B', a1, b1, a2, b2, hg⟩ := pH (p := p) (s := s) hw hA hB (by omega)
     have n1 := hn A'
     have n2 := hn B'
     by_cases hz : gap cs p s B' <= 0
     . by_cases hb : (B'.length : Int) = m
       . exact ⟨B', hb, hz⟩
       . exact walk2 hw hn n hA b1 (by omega) h1 (by omega) hz h4
     . exact walk2 hw hn n a1 hB (by omega) (by omega) h2 h3 (by omega)
theorem Up.low {cs : List C4} {ps : List Int} {m p s : Int} (Ai : ∀ c ∈ cs, 1 <= c.2.2.2) (m0 : 0 <= m) (p0 : 0 <= p) (hS : oo cs p s) (hU : Up cs m p) (lH : fB ps) (hm : ∀ c ∈ cs, c.2.2.1 ∈ ps) : ∃ A : List Int, fB A /\ (A.length : Int) <= m /\ gap cs p s A <= m - A.length := by
 have hw : ∀ c ∈ cs, 0 <= wt c := fun c hc => by have := Ai c hc; show 0 <= c.2.2.2; omega
 rcases hU with e | ⟨s0, s1, h0, h1, hle⟩
 . refine ⟨[], .nil, by simpa using m0, ?_⟩
   obtain ⟨V, eV⟩ := hS.jz
   have hV := vQ (W := V) Ai
   unfold gap
   rw [lV, <- e]
   have : p <= s := by
    cases V with
    | nil => rw [lV, <- e] at eV; simp at eV; omega
    | cons x V =>
      have h1 : (1 : Int) * p <= (x :: V).length * p := Int.mul_le_mul_of_nonneg_right (by simp only [List.length_cons]; omega) p0
      omega
   have z : (([] : List Int).length : Int) * p = 0 := by simp
   have z2 : (([] : List Int).length : Int) = 0 := rfl
   omega
 . have e := h0.det p0 hS
   subst e
   obtain ⟨A, hA, eA⟩ := h1.inc (by omega) lH hm hw
   have h2 := hS.weak p0 A
   have l1 : (A.length : Int) * (p + 1) = A.length * p + A.length := by rw [Int.mul_add]; simp
   refine ⟨A, hA, by omega, ?_⟩
   unfold gap
   omega
theorem n8 {cs : List C4} (A : List Int) (JB : ∀ c ∈ cs, c.2.1 <= c.2.2.1) : fT (A ++ ((cs.filter fun c => !hit A c).map (·.2.2.1))) cs = (cs.map wt).sum := by
 unfold fT
 rw [List.filter_eq_self.mpr]
 . rfl
 . intro c hc
   refine (aJ _ c).mpr ?_
   by_cases h : hit A c = true
   . obtain ⟨t, ht, h2⟩ := (aJ A c).mp h
     exact ⟨t, List.mem_append_left _ ht, h2⟩
   . exact ⟨c.2.2.1, List.mem_append_right _ (List.mem_map.mpr ⟨c, List.mem_filter.mpr ⟨hc, by simp [h]⟩, rfl⟩), JB c hc, Int.le_refl _⟩
theorem pY {cs : List C4} {ps W : List Int} {m p s : Int} (aK : gP cs) (m0 : 0 <= m) (p0 : 0 <= p) (hS : oo cs p s) (hD : Dn cs m p) (hU : Up cs m p) (hO : Bf cs m W) (lH : fB ps) (hm : ∀ c ∈ cs, c.2.2.1 ∈ ps) : fT W cs = m * p + (cs.map wt).sum - s := by
 have Ai : ∀ c ∈ cs, 1 <= c.2.2.2 := fun c hc => (aK.w1 c hc).1
 have hw : ∀ c ∈ cs, 0 <= wt c := fun c hc => by have := Ai c hc; show 0 <= c.2.2.2; omega
 have hn : ∀ V, 0 <= gap cs p s V := fun V => by have := hS.weak p0 V; unfold gap; omega
 have key : ∃ V : List Int, (V.length : Int) <= m /\ V.length * p <= m * p /\ m * p + (cs.map wt).sum - s <= fT V cs := by
  obtain ⟨A, hA, NB, Jm⟩ := hU.low Ai m0 p0 hS lH hm
  rcases hD with e | ⟨s0, s1, h0, h1, b4⟩
  . subst e
    have hu := kH (W := A) Ai
    refine ⟨A ++ ((cs.filter fun c => !hit A c).map (·.2.2.1)), ?_, by simp, ?_⟩
    . unfold gap at Jm
      unfold Ki at hu
      rw [List.length_map] at hu
      rw [List.length_append, List.length_map]
      have G7 : s <= 0 := by
       have := hS.weak p0 (([] : List Int) ++ ((cs.filter fun c => !hit [] c).map (·.2.2.1)))
       have h3 := bA (([] : List Int) ++ ((cs.filter fun c => !hit [] c).map (·.2.2.1))) cs
       rw [n8 [] aK.ok.wd] at h3
       simp at this
       simp at h3
       omega
      simp at Jm
      omega
    . rw [n8 A aK.ok.wd]
      obtain ⟨f, nR, hx, rfl⟩ := hS
      have : 0 <= (cs.map fun c => f c.1).sum := by
       have z := jF (P := fun _ => false) (R := fun _ => true) (g := fun _ => 0) (h := fun c => f c.1) (cs := cs) (fun c _ z => by cases z) (fun c hc _ => nR.nn c hc)
       have e1 : sf (fun _ => false) (fun _ => 0) cs = 0 := by unfold sf; rw [List.filter_eq_nil_iff.mpr (fun _ _ z => by cases z)]; rfl
       have e2 : sf (fun _ => true) (fun c => f c.1) cs = (cs.map fun c => f c.1).sum := by unfold sf; rw [cF]
       omega
      simp
      omega
  . have e := h1.det p0 hS
    subst e
    by_cases hp : 0 < p
    . obtain ⟨B, hB, eB⟩ := h0.inc (by omega) lH hm hw
      have h2 := hS.weak p0 B
      have l1 : (B.length : Int) * (p - 1) = B.length * p - B.length := by rw [Int.mul_sub]; simp
      have MA : gap cs p s1 B <= B.length - m - 1 := by unfold gap; omega
      obtain ⟨C, hC, eC⟩ := hS.inc p0 lH hm hw
      have KW : gap cs p s1 C <= 0 := by unfold gap; omega
      have fin : (∃ V : List Int, (V.length : Int) = m /\ gap cs p s1 V <= 0) -> ∃ V : List Int, (V.length : Int) <= m /\ V.length * p <= m * p /\ m * p + (cs.map wt).sum - s1 <= fT V cs := by
       rintro ⟨V, hV, hg⟩
       refine ⟨V, by omega, by rw [hV]; exact Int.le_refl _, ?_⟩
       have := bA V cs
       unfold gap at hg
       rw [hV] at hg
       omega
      by_cases OO : (C.length : Int) <= m
      . exact fin (walk1 hw hn _ hC hB (Nat.le_refl _) OO (by omega) KW MA)
      . exact fin (walk2 hw hn _ hA hC (Nat.le_refl _) NB (by omega) KW Jm)
    . have e : p = 0 := by omega
      subst e
      exfalso
      obtain ⟨f, nR, hx, rfl⟩ := h0
      obtain ⟨f1, NK, P0, e1⟩ := h1
      have G7 : s1 <= 0 := by
       have := hS.weak p0 (([] : List Int) ++ ((cs.filter fun c => !hit [] c).map (·.2.2.1)))
       have h3 := bA (([] : List Int) ++ ((cs.filter fun c => !hit [] c).map (·.2.2.1))) cs
       rw [n8 [] aK.ok.wd] at h3
       simp at this
       simp at h3
       omega
      have : 0 <= (cs.map fun c => f c.1).sum := by
       have z := jF (P := fun _ => false) (R := fun _ => true) (g := fun _ => 0) (h := fun c => f c.1) (cs := cs) (fun c _ z => by cases z) (fun c hc _ => nR.nn c hc)
       have e1 : sf (fun _ => false) (fun _ => 0) cs = 0 := by unfold sf; rw [List.filter_eq_nil_iff.mpr (fun _ _ z => by cases z)]; rfl
       have e2 : sf (fun _ => true) (fun c => f c.1) cs = (cs.map fun c => f c.1).sum := by unfold sf; rw [cF]
       omega
      omega
 obtain ⟨V, hV, PU, PC⟩ := key
 have h1 := hO.opt V hV
 have h2 := hS.weak p0 W
 have h3 := bA W cs
 have h4 : (W.length : Int) * p <= m * p := Int.mul_le_mul_of_nonneg_right hO.len p0
 omega
theorem pK {cs : List C4} {m p q : Int} (p0 : 0 <= p) (hq : q <= (cs.map wt).sum) (hU : Up cs m p) (hD : Dn cs m q) (h : p < q) : False := by
 rcases hU with e | ⟨s0, s1, h0, h1, hle⟩
 . omega
 rcases hD with e | ⟨t0, t1, g0, g1, b4⟩
 . omega
 by_cases e : q = p + 1
 . subst e
   have a1 := h1.det (by omega) g1
   rw [show p + 1 - 1 = p by omega] at g0
   have a2 := h0.det p0 g0
   omega
 . obtain ⟨W', Qp⟩ := h1.jz
   obtain ⟨W, eW⟩ := g0.jz
   have a1 := h0.weak p0 W'
   have a2 := g1.weak (by omega) W
   have a3 := h1.weak (by omega) W
   have a4 := g0.weak (by omega) W'
   have l1 : (W'.length : Int) * (p + 1) = W'.length * p + W'.length := by rw [Int.mul_add]; simp
   have l2 : (W.length : Int) * (q - 1) = W.length * q - W.length := by rw [Int.mul_sub]; simp
   by_cases e2 : q - 1 = p + 1
   . rw [e2] at g0 a4 eW
     have a5 := h1.det (by omega) g0
     have a6 := g1.weak (by omega) W'
     have l3 : (W'.length : Int) * q = W'.length * (p + 1) + W'.length := by
      have : q = p + 1 + 1 := by omega
      rw [this, Int.mul_add _ (p + 1)]; simp
     omega
   . have hlen : (W'.length : Int) < W.length := by omega
     have k8 : 0 < ((W.length : Int) - W'.length) * (q - 1 - (p + 1)) := Int.mul_pos (by omega) (by omega)
     rw [Int.sub_mul, Int.mul_sub (W.length : Int), Int.mul_sub (W'.length : Int)] at k8
     omega
def lB : Sp := fun vs H Q _ => ∃ n, vs = [.int n] /\ Q (.bl true) H
theorem yN {H : Hp} {Q : VK} {E : XK} {n : Int} (q : Q (.bl true) H) : lB [.int n] H Q E := ⟨n, rfl, q⟩
theorem vW (T : Txt K mg a) : bQ P w K mg base iV 1 a.bD a.ic ["_law_found"] lB := by
 refine T.fA.ok lR (fun vs H Q E h => ?_) (fun df A outer s H vs Q E hr h => ?_)
 . obtain ⟨_, rfl, _⟩ := h; rfl
 . obtain ⟨n, rfl, q⟩ := h
   have hn : Dv H (.int n) (.int n) := .int n
   refine ⟨_, (ak (aI (w6 (aQ gk rfl T.bw PyProof.Rows.boot_isinstance (ae (pv 0) (ae (iM (v := .ty "int") rfl T.nP PyProof.Rows.boot_int rfl) ai))) (qy (Bn (aQ gk rfl T.bw PyProof.Rows.boot_isinstance (ae (pv 0) (ae (iM (v := .ty "bool") rfl T.kl PyProof.Rows.boot_bool rfl) ai)))))))), ?_⟩
   repeat' (walk_at "rd1")
   all_goals first | exact q | (rename_i hb; exact absurd rfl hb)
theorem mR (T : Txt K mg a) : lg P w K mg base 1 a.bD ["_law_found"] [] lB :=
 ⟨⟨_, _, vW T, T.fA.binds fun _ _ _ _ _ _ => .all fun us hl => match us, hl with | [_], _ => rfl, .nil⟩⟩
set_option hygiene false in
local macro_rules | `(tactic| walk_at "use") => `(tactic| first
 | with_reducible refine yN ?_
 | fail)
def mW : Sp := fun vs H Q _ => ∃ n, vs = [.int n] /\ ∀ r, 0 <= r -> r < 10 ^ 39 -> Q (.int r) H
theorem BW {H : Hp} {Q : VK} {E : XK} {n : Int} (q : ∀ r, 0 <= r -> r < 10 ^ 39 -> Q (.int r) H) : mW [.int n] H Q E := ⟨n, rfl, q⟩
theorem x5 (T : Txt K mg a) : bQ P w K mg base iV 1 a.bH a.iO ["_law_cell"] mW := by
 refine T.gf.ok nX (fun vs H Q E h => ?_) (fun df A outer s H vs Q E hr h => ?_)
 . obtain ⟨_, rfl, _⟩ := h; rfl
 . obtain ⟨n, rfl, q⟩ := h
   refine ⟨_, (ag (bZ (aN kB (aj aB (pv 0) af) af (aS _))
    (ak (aI (aj aB (aj aF (pv 0) af) af)))
    bo)
    (ag (bZ (aN kB (aj aB (pv 0) af) af (aS _))
     (ak (aI (aj aB (aj aF (pv 0) af) af)))
     bo)
    (ak (aI (aj aB (aj aF (pv 0) af) (aj jv af af)))))), ?_⟩
   repeat' (walk_at "rd1")
   all_goals exact q _ (by omega) (by omega)
theorem w4 (T : Txt K mg a) : lg P w K mg base 1 a.bH ["_law_cell"] [] mW :=
 ⟨⟨_, _, x5 T, T.gf.binds fun _ _ _ _ _ _ => .all fun us hl => match us, hl with | [_], _ => rfl, .nil⟩⟩
def nG : Sp := fun vs H Q _ => ∃ (l : Addr) (W : List Int) (m : Int), vs = [.ref l, .int m] /\ bG H l (W.map PyData.int) /\ fB W /\ (W.length : Int) <= m /\ W.length <= 60 /\ Q (.bl true) H
theorem A3 {H : Hp} {Q : VK} {E : XK} {l : Addr} {W : List Int} {m : Int} (h : bG H l (W.map PyData.int)) (hi : fB W) (hl : (W.length : Int) <= m) (h6 : W.length <= 60) (q : Q (.bl true) H) : nG [.ref l, .int m] H Q E := ⟨l, W, m, rfl, h, hi, hl, h6, q⟩
theorem zy (T : Txt K mg a) : bQ P w K mg base iV 2 a.aZ a.fL ["_law_found", "_law_most_here"] nG := by
 have dn := mR (P := P) (w := w) (base := base) T
 refine T.dM.ok fN (fun vs H Q E h => ?_) (fun df A outer s H vs Q E hr h => ?_)
 . obtain ⟨_, _, _, rfl, _⟩ := h; rfl
 . obtain ⟨l, W, m, rfl, hl, hi, hm, h6, q⟩ := h
   have hd := hl.dv
   refine ⟨_, (ag (bZ (PW.pt (ib (er (bU (aQ gk rfl T.bw PyProof.Rows.boot_isinstance (ae (pv 0) (ae (iM (v := .ty "list") rfl T.gS PyProof.Rows.boot_list rfl) ai))) (fun _ => rfl))) (gm (aN iZ (aQ cB rfl T.dE PySem.boot_len (ae (pv 0) ai)) (pv 1) (aS _)))))
    (ak (aI fG))
    bo)
    (ag (cQ PassesOwn.never rfl (jq rfl T.eP (ae (aQ cB rfl T.dE PySem.boot_len (ae (pv 0) ai)) ai)) (ao (i := 2) fN.nd rfl (Or.inl rfl))
     (ak (bZ (PW.pt (ib (er (bU (aC dn (hr.mono (by decide)) rfl T.cS T.cX (ae (aL eu (pv 0) (pv 2) (fun _ _ => rfl)) ai)) (fun _ => rfl))) (gm (PW.pt (xt (aN iZ (pv 2) af (aS _)) (rF (aN FU (aL eu (pv 0) (aj fV (pv 2) af) (fun _ _ => rfl)) (aL eu (pv 0) (pv 2) (fun _ _ => rfl)) (aS _))))))))
      (ak (aI fG))
      bo)))
    (ak (aI fG)))), ?_⟩
   repeat' (walk_at "rd1")
   refine jg (fun j σ' H' => H = H' /\ ∃ z2, σ' = [some (.ref l), some (.int m), z2]) ⟨rfl, _, rfl⟩ ?_ ?_
   . rintro j σ' H' hj ⟨rfl, z2, rfl⟩
     have J0 : j < W.length := by simpa using hj
     have xM : 0 < j -> W.getD (0 + (j : Int) - 1).toNat default < W.getD (0 + (j : Int)).toNat default := fun h => by
      have e1 : (0 + (j : Int) - 1).toNat = j - 1 := by omega
      have e2 : (0 + (j : Int)).toNat = j := by omega
      have Hu : j - 1 < W.length := by omega
      rw [e1, e2, List.getD_eq_getElem?_getD, List.getD_eq_getElem?_getD, List.getElem?_eq_getElem Hu, List.getElem?_eq_getElem J0]
      exact (List.pairwise_iff_getElem.mp hi) (j - 1) j Hu J0 (by omega)
     repeat' (walk_at "rd1")
     all_goals first | exact ⟨rfl, _, rfl⟩ | (exfalso; have := xM (by omega); omega)
   . rintro σ' H' ⟨rfl, z2, rfl⟩
     repeat' (walk_at "rd1")
     exact q
theorem uV (T : Txt K mg a) : lg P w K mg base 2 a.aZ ["_law_found", "_law_most_here"] [] nG :=
 ⟨⟨_, _, zy T, T.dM.binds fun _ _ _ _ _ _ => .all fun us hl => match us, hl with | [_, _], _ => rfl, .nil⟩⟩
theorem uP {s : Str} (h : C9 s) : PyData.canLay0 (.str s) = true := by
 show s.cps.all (· < 0x110000) = true
 rw [Array.all_eq_true']
 intro c hc
 exact decide_eq_true (h.2 c (by simpa using hc))
theorem uO : ∀ {cs : List C4}, (∀ c ∈ cs, C9 c.1) -> PyData.canLayAll0 (cs.map b7) = true
 | [], _ => rfl
 | c :: r, h => by
   have h1 := uP (h c List.mem_cons_self)
   simp only [List.map_cons, PyData.canLayAll0, b7, PyData.canLay0, Bool.and_true, Bool.true_and] at h1 ⊢
   rw [h1, Bool.true_and]
   exact uO fun y hy => h y (List.mem_cons_of_mem _ hy)
theorem xg : ∀ cs : List C4, PyData.depthAll (cs.map b7) <= 3
 | [] => by simp [PyData.depthAll]
 | _ :: r => by have := xg r; simp only [List.map_cons, PyData.depthAll, b7, PyData.depth]; omega
theorem oU : ∀ {ss : List Str}, (∀ x ∈ ss, C9 x) -> PyData.canLayAll0 (ss.map PyData.str) = true
 | [], _ => rfl
 | x :: r, h => by
   simp only [List.map_cons, PyData.canLayAll0, uP (h x List.mem_cons_self), Bool.true_and]
   exact oU fun y hy => h y (List.mem_cons_of_mem _ hy)
theorem mD : ∀ ws : List Str, PyData.depthAll (ws.map PyData.str) <= 1
 | [] => by simp [PyData.depthAll]
 | _ :: r => by have := mD r; simp only [List.map_cons, PyData.depthAll, PyData.depth]; omega
theorem Dr {H : Hp} {Q : VK} {f : Bool -> Bool} {x y : V} {ss : List Str} (h1 : Dv H x (.list (ss.map PyData.str))) (h2 : Dv H y (.list (ss.map PyData.str))) (hs : ∀ x ∈ ss, C9 x) (h : Q (.bl (f true)) H) : pW K f x y H Q := by
 have hl : PyData.canLay0 (.list (ss.map PyData.str)) = true := by rw [PyData.canLay0]; exact oU hs
 refine sA h1 h2 hl hl ?_ (by rw [PySem.SeqAt.eqv_refl _ hl]; exact h)
 have := mD ss
 rw [PyData.depth]; omega
def ql : Sp := fun vs H Q _ => ∃ (d : Addr) (v : V) (p : Int) (cs : List C4) (f : Str -> Int), vs = [.ref d, v, .int p] /\ eG H d (dU f cs) /\ Dv H v (.list (cs.map b7)) /\ gP cs /\ cs.length <= 40 /\ vG p cs f /\ 0 <= p /\ ∀ H', ah H H' -> Q (.bl true) H'
theorem F5 {H : Hp} {Q : VK} {E : XK} {d : Addr} {v : V} {p : Int} {cs : List C4} {f : Str -> Int} (h : eG H d (dU f cs)) (hv : Dv H v (.list (cs.map b7))) (ho : gP cs) (hl : cs.length <= 40) (hs : vG p cs f) (p0 : 0 <= p) (q : ∀ H', ah H H' -> Q (.bl true) H') : ql [.ref d, v, .int p] H Q E := ⟨d, v, p, cs, f, rfl, h, hv, ho, hl, hs, p0, q⟩
theorem Cg (T : Txt K mg a) : bQ P w K mg base iV 2 a.bW a.jK ["_law_shares", "_law_claims_here", "_law_price"] ql := by
 have dn := mR (P := P) (w := w) (base := base) T
 refine T.iD.ok gO (fun vs H Q E h => ?_) (fun df A outer s H vs Q E hr h => ?_)
 . obtain ⟨_, _, _, _, _, rfl, _⟩ := h; rfl
 . obtain ⟨d, v, p, cs, f, rfl, hd, hv, aK, hl, hs, p0, q⟩ := h
   have J9 := hd.dv
   refine ⟨_, (ag (bZ (PW.pt (ib (er (bU (aC dn (hr.mono (by decide)) rfl T.cS T.cX (ae (pv 2) ai)) (fun _ => rfl))) (ib (aN kB (pv 2) af (aS _)) (gm (er (bU (aQ gk rfl T.bw PyProof.Rows.boot_isinstance (ae (pv 0) (ae (iM (v := .ty "dict") rfl T.no_dict PyProof.Rows.boot_dict rfl) ai))) (fun _ => rfl)))))))
    (ak (aI fG))
    bo)
    (ag (bZ (aN (n6 hr.xD) (t6 (pv 0) rfl rfl T.cn) (aQ qZ rfl T.cn PyProof.Rows.boot_sorted (ae (fS (T := ["_law_one"]) (M := ["_law_shares", "_law_claims_here", "_law_price", "03", "_law_time"]) (sQ (aq cm) ["_law_shares", "_law_claims_here", "_law_price", "_law_one", "_law_time"] rfl rfl (by decide +kernel)) rfl (bf (pv 1)) (fun _ _ _ _ _ => (ao (i := 0) (show List.Nodup (["_law_one", "_law_shares", "_law_claims_here", "_law_price", "03", "_law_time"] : List Str) by decide +kernel) rfl (Or.inl rfl))) (cq (by decide)) (fun _ _ _ _ _ => di) (fun _ _ _ _ _ => (aL (k7 (K := K) rfl) (pv 0) af (fun _ _ => rfl)))) ai)) (aS _))
     (ak (aI fG))
     bo)
    (ag (cQ PassesOwn.never rfl (bf (pv 1)) (ao (i := 3) gO.nd rfl (Or.inl rfl))
     (ak (bZ (PW.pt (ib (er (bU (aC dn (hr.mono (by decide)) rfl T.cS T.cX (ae (iK (jG hr) (pv 0) (aL eu (pv 3) af (fun _ _ => rfl)) (fun _ _ => rfl)) ai)) (fun _ => rfl))) (gm (er (gI gF gF af (iK (jG hr) (pv 0) (aL eu (pv 3) af (fun _ _ => rfl)) (fun _ _ => rfl)) (aL eu (pv 3) af (fun _ _ => rfl)))))))
      (ak (aI fG))
      bo)))
    (ag (cQ PassesOwn.never rfl (bf (aj qH (fS (T := ["_law_one"]) (M := ["_law_shares", "_law_claims_here", "_law_price", "03", "_law_time"]) (sQ (aq cm) ["_law_shares", "_law_claims_here", "_law_price", "_law_one", "_law_time"] rfl rfl (by decide +kernel)) rfl (bf (pv 1)) (fun _ _ _ _ _ => (ao (i := 0) (show List.Nodup (["_law_one", "_law_shares", "_law_claims_here", "_law_price", "03", "_law_time"] : List Str) by decide +kernel) rfl (Or.inl rfl))) (cq (by decide)) (fun _ _ _ _ _ => di) (fun _ _ _ _ _ => (aL (k7 (K := K) rfl) (pv 0) af (fun _ _ => rfl)))) (fS (T := ["_law_one"]) (M := ["_law_shares", "_law_claims_here", "_law_price", "03", "_law_time"]) (sQ (aq cm) ["_law_shares", "_law_claims_here", "_law_price", "_law_one", "_law_time"] rfl rfl (by decide +kernel)) rfl (bf (pv 1)) (fun _ _ _ _ _ => (ao (i := 0) (show List.Nodup (["_law_one", "_law_shares", "_law_claims_here", "_law_price", "03", "_law_time"] : List Str) by decide +kernel) rfl (Or.inl rfl))) (cq (by decide)) (fun _ _ _ _ _ => di) (fun _ _ _ _ _ => (aL (k7 (K := K) rfl) (pv 0) af (fun _ _ => rfl)))))) (ao (i := 4) gO.nd rfl (Or.inr rfl))
     (ak (bZ (aN iZ (aQ (ju rfl) rfl T.ik PyProof.Rows.boot_sum (ae (fS (T := ["_law_one"]) (M := ["_law_shares", "_law_claims_here", "_law_price", "03", "_law_time"]) (sQ (aq cm) ["_law_shares", "_law_claims_here", "_law_price", "_law_one", "_law_time"] rfl rfl (by decide +kernel)) rfl (bf (pv 1)) (fun _ _ _ _ _ => (ao (i := 0) (show List.Nodup (["_law_one", "_law_shares", "_law_claims_here", "_law_price", "03", "_law_time"] : List Str) by decide +kernel) rfl (Or.inl rfl))) (cq (by decide)) (fun _ _ _ _ _ => (kh (gI gF gF (aL (k7 (K := K) rfl) (pv 0) af (fun _ _ => rfl)) (pv 5) (aL (k7 (K := K) rfl) (pv 0) af (fun _ _ => rfl))))) (fun _ _ _ _ _ => (iK (jG hr) (pv 1) (aL (k7 (K := K) rfl) (pv 0) af (fun _ _ => rfl)) (fun _ _ => rfl)))) ai)) (pv 2) (aS _))
      (ak (aI fG))
      bo)))
    (ak (aI fG)))))), ?_⟩
   repeat' (walk_at "rd1")
   refine sS ?_
   repeat' (walk_at "rd1")
   refine yL hd (by rw [j9]; omega) (fun q1 H1 ss ez sN KY Mb oA => ?_)
   have yy : Dv H1 v (.list (cs.map b7)) := hv.keeps ez
   have LA := hd.keeps ez
   repeat' (walk_at "rd1")
   refine j0 (cs := cs) (gd := b7) (fun _ => true) (fun c => .str c.1) yy (by omega) (fun _ => rfl) (fun x c H2 N hc cA hx yes no => ?_) (fun q2 H2 cA oB jX => ?_)
   . have jb : Dv H2 x (.tuple [.str c.1, .int c.2.1, .int c.2.2.1, .int c.2.2.2]) := hx
     repeat' (walk_at "rd1")
     refine b9 (fun hb => ?_) (fun hb => by cases hb)
     repeat' (walk_at "rd1")
     exact yes rfl _ _ (ah.refl _) (.str _)
   rw [cF] at jX
   have GU : bG H2 q2 ((cs.map (·.1)).map PyData.str) := by rw [List.map_map]; exact jX
   have ud : (cs.map (·.1)).length < 64 := by rw [List.length_map]; omega
   clear jX
   repeat' (walk_at "rd1")
   rename_i q3 H3 Px sm3 um GX NF Aw
   have O0 : ss = Px := by
    refine mj (KY.trans ?_) Mb NF
    have : (dU f cs).map (·.1) = cs.map (·.1) := by unfold dU; rw [List.map_map]; rfl
    rw [this]
    exact GX.symm
   subst O0
   have Es : ∀ x ∈ ss, C9 x := fun x hx => by
    obtain ⟨c, hc, rfl⟩ := List.mem_map.mp (GX.mem_iff.mp hx)
    exact aK.ok.nm c hc
   refine Dr (oA.keeps (cA.trans sm3)).dv Aw.dv Es ?_
   have CG := cA.trans sm3
   have Hj : Dv H3 v (.list (cs.map b7)) := yy.keeps CG
   have Mu := LA.keeps CG
   have C2 := ez.trans CG
   clear oA GU Aw J9
   have El : ∀ c ∈ cs, oq (dU f cs) c.1 = some (.int (f c.1)) := fun c hc => kj (List.mem_map_of_mem hc)
   repeat' (walk_at "rd1")
   refine mr (Hb := H3) (cs := cs) (gd := b7) Hj (fun j σ' H' => H3 = H' /\ ∃ z3, σ' = [some (.ref d), some v, some (.int p), z3, none]) ⟨rfl, _, rfl⟩ (fun i σ' H' _ ⟨e, _⟩ a' xs _ hx => e ▸ hx) ?_ ?_
   . rintro j c x σ' H' hc ⟨rfl, z3, rfl⟩ _ Fs
     have hx : Dv H3 x (.tuple [.str c.1, .int c.2.1, .int c.2.2.1, .int c.2.2.2]) := Fs (ah.refl _)
     have uj : c ∈ cs := List.mem_of_getElem? hc
     have D7 := El c uj
     have h1 := hs.nn c uj
     have h2 := hs.le c uj
     repeat' (walk_at "rd1")
     all_goals first | exact ⟨rfl, _, rfl⟩ | (exfalso; omega) | trace_state
   . rintro σ' H' ⟨rfl, z3, rfl⟩
     repeat' (walk_at "rd1")
     refine j0 (cs := cs) (gd := b7) (fun _ => true) (fun c => .int c.2.1) Hj (by omega) (fun _ => rfl) (fun x c Hx N hc Pm hx yes no => ?_) (fun q4 H4 lS xE Ek => ?_)
     . have jb : Dv Hx x (.tuple [.str c.1, .int c.2.1, .int c.2.2.1, .int c.2.2.2]) := hx
       repeat' (walk_at "rd1")
       refine b9 (fun hb => ?_) (fun hb => by cases hb)
       repeat' (walk_at "rd1")
       exact yes rfl _ _ (ah.refl _) (.int _)
     rw [cF] at Ek
     have Oj : Dv H4 v (.list (cs.map b7)) := Hj.keeps lS
     repeat' (walk_at "rd1")
     refine j0 (cs := cs) (gd := b7) (fun _ => true) (fun c => .int c.2.2.1) Oj (by omega) (fun _ => rfl) (fun x c Hx N hc Pm hx yes no => ?_) (fun q5 H5 m8 Bh Hy => ?_)
     . have jb : Dv Hx x (.tuple [.str c.1, .int c.2.1, .int c.2.2.1, .int c.2.2.2]) := hx
       repeat' (walk_at "rd1")
       refine b9 (fun hb => ?_) (fun hb => by cases hb)
       repeat' (walk_at "rd1")
       exact yes rfl _ _ (ah.refl _) (.int _)
     rw [cF] at Hy
     repeat' (walk_at "rd1")
     rename_i q6 H6 q9 Av Hq
     have A2 : Dv H6 (.ref q6) (.list ((cs.map (·.2.1) ++ cs.map (·.2.2.1)).map PyData.int)) := by
      rw [List.map_append, List.map_map, List.map_map]; exact Hq.dv
     have wo := (lS.trans m8).trans q9
     have Je : Dv H6 v (.list (cs.map b7)) := Hj.keeps wo
     have Ko := Mu.keeps wo
     clear Ek Hy Hq
     generalize cs.map (·.2.1) ++ cs.map (·.2.2.1) = ts at *
     refine mr (Hb := H6) (cs := ts) (gd := PyData.int) A2 (fun j σ' H' => ah H6 H' /\ ∃ z4, σ' = [some (.ref d), some v, some (.int p), z3, z4]) ⟨ah.refl _, _, rfl⟩ (fun i σ' H' _ ⟨sm, _⟩ a' xs _ hx => ah.seq sm hx) ?_ ?_
     . rintro j t x σ' H7 hc ⟨lF, z4, rfl⟩ _ Fs
       obtain rfl := (Fs lF).int_inv
       have IQ : Dv H7 v (.list (cs.map b7)) := Je.keeps lF
       have KD := Ko.keeps lF
       have wy : load f cs t <= p := kL p0 hs.nn hs.ld t
       repeat' (walk_at "rd1")
       refine j0 (cs := cs) (gd := b7) (con t) (fun c => .int (f c.1)) IQ (by omega) (fun _ => rfl) (fun x c H8 N hc uz hx yes no => ?_) (fun q8 H8 uz KU Ni => ?_)
       . have jb : Dv H8 x (.tuple [.str c.1, .int c.2.1, .int c.2.2.1, .int c.2.2.2]) := hx
         have G3 := KD.keeps uz
         have D7 := El c hc
         repeat' (walk_at "rd1")
         . rename_i h1
           refine b9 (fun hb => ?_) (fun hb => no (by simp [con, h1, of_decide_eq_false hb]) _ (ah.refl _))
           repeat' (walk_at "rd1")
           exact yes (by simp [con, h1, of_decide_eq_true hb]) _ _ (ah.refl _) (.int _)
         . rename_i h1
           exact b9 (fun hb => by cases hb) (fun _ => no (by simp [con, h1]) _ (ah.refl _))
       have MS : Dv H8 (.ref q8) (.list (((cs.filter (con t)).map fun c => f c.1).map PyData.int)) := by rw [List.map_map]; exact Ni.dv
       unfold load sf at wy
       repeat' (walk_at "rd1")
       all_goals first | exact ⟨lF.trans uz, _, rfl⟩ | (exfalso; omega) | trace_state
     . rintro σ' H7 ⟨lF, z4, rfl⟩
       repeat' (walk_at "rd1")
       exact q _ ((C2.trans wo).trans lF)
theorem zH (T : Txt K mg a) : lg P w K mg base 2 a.bW ["_law_shares", "_law_claims_here", "_law_price"] [] ql :=
 ⟨⟨_, _, Cg T, T.iD.binds fun _ _ _ _ _ _ => .all fun us hl => match us, hl with | [_, _, _], _ => rfl, .nil⟩⟩
theorem uU (ts : List Int) (cs : List C4) (c : C4) : fT ts (cs ++ [c]) = fT ts cs + (if hit ts c = true then wt c else 0) := by
 rw [dI, dI, n5, a8, gH]; omega
theorem zO (ts : List Int) (c : C4) : (ts.filter fun t => con t c).isEmpty = !hit ts c := by
 rw [Bool.eq_iff_iff, Bool.not_eq_true', List.isEmpty_iff, List.filter_eq_nil_iff]
 constructor
 . intro h
   cases hh : hit ts c with
   | false => rfl
   | true =>
     obtain ⟨t, ht, h2⟩ := (aJ ts c).mp hh
     exact absurd (bx.mpr h2) (h t ht)
 . intro h t ht hc
   rw [(aJ ts c).mpr ⟨t, ht, bx.mp hc⟩] at h
   cases h
def ni : Sp := fun vs H Q _ => ∃ (t l d : Addr) (v : V) (m p : Int) (W : List Int) (cs : List C4) (f : Str -> Int), vs = [.ref t, v, .int m] /\ H t = some (.tup [.ref l, .int p, .ref d]) /\ bG H l (W.map PyData.int) /\ eG H d (dU f cs) /\ Dv H v (.list (cs.map b7)) /\ gP cs /\ cs.length <= 40 /\ W.length <= 60 /\ (0 <= m /\ m < 10 ^ 39) /\ (0 <= p /\ p <= 10 ^ 14) /\ fT W cs = m * p + (cs.map wt).sum - (cs.map fun c => f c.1).sum /\ ∀ H', ah H H' -> Q (.bl true) H'
theorem DP {H : Hp} {Q : VK} {E : XK} {t l d : Addr} {v : V} {m p : Int} {W : List Int} {cs : List C4} {f : Str -> Int} (h1 : H t = some (.tup [.ref l, .int p, .ref d])) (h2 : bG H l (W.map PyData.int)) (h3 : eG H d (dU f cs)) (h4 : Dv H v (.list (cs.map b7))) (h5 : gP cs) (h6 : cs.length <= 40) (h7 : W.length <= 60) (h8 : 0 <= m /\ m < 10 ^ 39) (h9 : 0 <= p /\ p <= 10 ^ 14) (h10 : fT W cs = m * p + (cs.map wt).sum - (cs.map fun c => f c.1).sum) (q : ∀ H', ah H H' -> Q (.bl true) H') : ni [.ref t, v, .int m] H Q E := ⟨t, l, d, v, m, p, W, cs, f, rfl, h1, h2, h3, h4, h5, h6, h7, h8, h9, h10, q⟩
theorem yh {K : PySem.W.Frag} {σ : St} {H : Hp} {t : Addr} {v1 v2 v3 : V} {i j k : Nat} {R : St -> Hp -> Prop} (ha : H t = some (.tup [v1, v2, v3])) (h : R (((σ.set i (some v1)).set j (some v2)).set k (some v3)) H) : pU K 3 (eM (cO i) (eM (cO j) (eM (cO k) ur))) (.ref t) σ H R :=
 ⟨_, _, rfl, .of ha, rfl, _, _, rfl, _, _, rfl, _, _, rfl, rfl, h⟩
theorem Br {te : TE} {g : TG} {D : Ends} {σ : St} {H : Hp} (h : te σ H fun x H1 => g x σ H1 D.nx) : tF te g D σ H := h
theorem yV (T : Txt K mg a) : bQ P w K mg base iV 2 a.aX a.eJ ["_law_found", "_law_claims_here", "_law_most_here"] ni := by
 refine T.c7.ok ax (fun vs H Q E h => ?_) (fun df A outer s H vs Q E hr h => ?_)
 . obtain ⟨_, _, _, _, _, _, _, _, _, rfl, _⟩ := h; rfl
 . obtain ⟨t, l, d, v, m, p, W, cs, f, rfl, ht, hl, hd, hv, aK, ud, JI, hm, hp, heq, q⟩ := h
   refine ⟨_, (ag (wm (pv 0) (fu (n := 3) rfl (au (ao (i := 3) ax.nd rfl (Or.inl rfl)) (au (ao (i := 4) ax.nd rfl (Or.inl rfl)) (au (ao (i := 5) ax.nd rfl (Or.inl rfl)) b6)))))
    (ag (av (i := 6) ax.nd rfl (Or.inl rfl) af)
    (ag (av (i := 7) ax.nd rfl (Or.inl rfl) (aj cg (pv 2) (pv 4)))
    (ag (cQ PassesOwn.never rfl (bf (pv 1)) (fu (n := 4) rfl (au (ao (i := 8) ax.nd rfl (Or.inl rfl)) (au (ao (i := 9) ax.nd rfl (Or.inr rfl)) (au (ao (i := 10) ax.nd rfl (Or.inr rfl)) (au (ao (i := 11) ax.nd rfl (Or.inl rfl)) b6)))))
     (ag (av (i := 7) ax.nd rfl (Or.inl rfl) (aj fV (aj bh (pv 7) (pv 11)) (iK (jG hr) (pv 5) (pv 8) (fun _ _ => rfl))))
     (ak (bZ (aN (n6 hr.xD) (fS (T := ["_law_time"]) (M := ["_law_found", "_law_claims_here", "_law_most_here", "_law_wakings_here", "_law_price", "_law_shares", "_law_weight", "_law_bound", "_law_name_here", "_law_first", "_law_last", "_law_heavy"]) (sQ (aq ck) ["_law_found", "_law_claims_here", "_law_most_here", "_law_wakings_here", "_law_price", "_law_shares", "_law_weight", "_law_bound", "_law_name_here", "_law_first", "_law_last", "_law_heavy"] rfl rfl (by decide +kernel)) rfl (bf (pv 3)) (fun _ _ _ _ _ => (ao (i := 0) (show List.Nodup (["_law_time", "_law_found", "_law_claims_here", "_law_most_here", "_law_wakings_here", "_law_price", "_law_shares", "_law_weight", "_law_bound", "_law_name_here", "_law_first", "_law_last", "_law_heavy"] : List Str) by decide +kernel) rfl (Or.inl rfl))) (cq (by decide)) (fun _ _ _ _ _ => (kh (gI gF gF (pv 10) (pv 0) (pv 11)))) (fun _ _ _ _ _ => (pv 0))) (bR ai) (aS _))
      (ak (av (i := 6) ax.nd rfl (Or.inl rfl) (aj bh (pv 6) (pv 11))))
      bo))))
    (ak (aI (jd (km hr.xD) (pv 6) (pv 7) (aS _)))))))), ?_⟩
   repeat' (walk_at "rd1")
   refine Br (An rfl (yh ht ?_))
   repeat' (walk_at "rd1")
   have El : ∀ c ∈ cs, oq (dU f cs) c.1 = some (.int (f c.1)) := fun c hc => kj (List.mem_map_of_mem hc)
   refine mr (Hb := H) (cs := cs) (gd := b7) hv (fun j σ' H' => ah H H' /\ ∃ (z8 z9 iN lT : Option V) (wv bv : Int), σ' = [some (.ref t), some v, some (.int m), some (.ref l), some (.int p), some (.ref d), some (.int wv), some (.int bv), z8, z9, iN, lT] /\ wv = fT W (cs.take j) /\ bv = m * p + ((cs.take j).map wt).sum - ((cs.take j).map fun c => f c.1).sum) ⟨ah.refl _, _, _, _, _, _, _, rfl, by rw [List.take_zero]; exact (rfl : (0 : Int) = fT W []), by simp⟩ (fun i σ' H' _ ⟨sm, _⟩ a' xs _ hx => ah.seq sm hx) ?_ ?_
   . rintro j c x σ' H1 hc ⟨ez, z8, z9, iN, lT, wv, bv, rfl, GL, GZ⟩ _ Fs
     have hx : Dv H1 x (.tuple [.str c.1, .int c.2.1, .int c.2.2.1, .int c.2.2.2]) := Fs ez
     have uj : c ∈ cs := List.mem_of_getElem? hc
     have D7 := El c uj
     have LA := hd.keeps ez
     have Ep := hl.keeps ez
     have ew := uU W (cs.take j) c
     rw [<- take_snoc hc] at ew
     have eb : m * p + ((cs.take (j + 1)).map wt).sum - ((cs.take (j + 1)).map fun c => f c.1).sum = bv + c.2.2.2 - f c.1 := by
      rw [take_snoc hc, List.map_append, List.map_append, nH, nH, GZ]
      simp only [List.map_cons, List.map_nil, List.sum_cons, List.sum_nil, wt]
      omega
     refine iu hx (fun v1 v2 v3 v4 e1 e2 e3 e4 => ?_)
     obtain rfl := e1.str_inv
     obtain rfl := e2.int_inv
     obtain rfl := e3.int_inv
     obtain rfl := e4.int_inv
     repeat' (walk_at "rd1")
     refine j0 (cs := W) (gd := PyData.int) (fun t => con t c) (fun t => .int t) Ep.dv (by omega) (fun _ => rfl) (fun x y H2 N hy cA hx yes no => ?_) (fun q2 H2 cA oB jX => ?_)
     . obtain rfl := hx.int_inv
       repeat' (walk_at "rd1")
       . rename_i h1
         refine b9 (fun hb => ?_) (fun hb => no (by simp [con, h1, of_decide_eq_false hb]) _ (ah.refl _))
         repeat' (walk_at "rd1")
         exact yes (by simp [con, h1, of_decide_eq_true hb]) _ _ (ah.refl _) (.int _)
       . rename_i h1
         exact b9 (fun hb => by cases hb) (fun _ => no (by simp [con, h1]) _ (ah.refl _))
     have hf := zO W c
     generalize W.filter (fun t => con t c) = ts at *
     have GU : bG H2 q2 (ts.map PyData.int) := jX
     clear jX
     repeat' (walk_at "rd1")
     . rename_i pz H3 sm3 um Mm hb
       rw [hb] at hf
       have hh : hit W c = true := by cases h : hit W c with | true => rfl | false => rw [h] at hf; cases hf
       rw [if_pos hh, <- GL] at ew
       exact ⟨(ez.trans cA).trans sm3, _, _, _, _, _, _, rfl, ew.symm, eb.symm⟩
     . rename_i pz H3 sm3 um Mm hb
       rw [hb] at hf
       have hh : ¬ hit W c = true := fun h => by rw [h] at hf; cases hf
       rw [if_neg hh, <- GL, Int.add_zero] at ew
       exact ⟨(ez.trans cA).trans sm3, _, _, _, _, _, _, rfl, ew.symm, eb.symm⟩
   . rintro σ' H1 ⟨ez, z8, z9, iN, lT, wv, bv, rfl, GL, GZ⟩
     rw [List.take_length] at GL GZ
     repeat' (walk_at "rd1")
     show Q (.bl (decide _)) _
     rw [decide_eq_true (by rw [GL, GZ, heq])]
     exact q _ ez
theorem u6 (T : Txt K mg a) : lg P w K mg base 2 a.aX ["_law_found", "_law_claims_here", "_law_most_here"] [] ni :=
 ⟨⟨_, _, yV T, T.c7.binds fun _ _ _ _ _ _ => .all fun us hl => match us, hl with | [_, _, _], _ => rfl, .nil⟩⟩
theorem jS {cs : List C4} (hn : (cs.map (·.1)).Nodup) : ∀ {xs ys : List C4}, xs.Perm ys -> (∀ x ∈ xs, x ∈ cs) -> xs.Pairwise (fun c d => cb (dC d) (dC c) = false) -> ys.Pairwise (fun c d => cb (dC d) (dC c) = false) -> xs = ys
 | [], _, hp, _, _, _ => List.Perm.nil_eq hp
 | x :: xs, [], hp, _, _, _ => by have := hp.length_eq; simp at this
 | x :: xs, y :: ys, hp, hm, h1, h2 => by
   have hx := List.pairwise_cons.mp h1
   have hy := List.pairwise_cons.mp h2
   have Eg : x = y := by
    have m1 : y ∈ x :: xs := hp.mem_iff.mpr List.mem_cons_self
    have m2 : x ∈ y :: ys := hp.mem_iff.mp List.mem_cons_self
    rcases List.mem_cons.mp m1 with e | IV
    . exact e.symm
    rcases List.mem_cons.mp m2 with e | Jk
    . exact e
    have e := uK (hy.1 x Jk) (hx.1 y IV)
    have e1 : x.1 = y.1 := by unfold dC at e; exact (Prod.mk.inj e).2
    obtain ⟨i, hi, ei⟩ := List.getElem_of_mem (hm x List.mem_cons_self)
    obtain ⟨j, hj, ej⟩ := List.getElem_of_mem (hm y m1)
    rw [List.nodup_iff_pairwise_ne, List.pairwise_map] at hn
    rcases Nat.lt_trichotomy i j with h | h | h
    . exact absurd (by rw [ei, ej]; exact e1) ((List.pairwise_iff_getElem.mp hn) i j hi hj h)
    . subst h; rw [<- ei, <- ej]
    . exact absurd (by rw [ei, ej]; exact e1.symm) ((List.pairwise_iff_getElem.mp hn) j i hj hi h)
   subst Eg
   rw [jS hn (List.Perm.cons_inv hp) (fun z hz => hm z (List.mem_cons_of_mem _ hz)) hx.2 hy.2]
theorem kP {f g : Str -> Int} {G : List C4} {p : Int} (h : ∀ d ∈ G, f d.1 = g d.1) : load f G p = load g G p := by
 unfold load sf
 congr 1
 exact List.map_congr_left fun d hd => h d (List.mem_filter.mp hd).1
theorem uk {pr : Int} {cs Lj : List C4} {f g : Str -> Int} (hn : (cs.map (·.1)).Nodup) (hp : Lj.Perm cs) (h1 : Exact pr cs f) (h2 : Exact pr Lj g) : ∀ c ∈ cs, f c.1 = g c.1 := by
 obtain ⟨ls, ps, p1, o1, m1, g1⟩ := h1
 obtain ⟨Qc, ps2, p2, o2, m2, g2⟩ := h2
 obtain rfl := jS hn (p1.trans (hp.symm.trans p2.symm)) (fun x hx => p1.mem_iff.mp hx) o1 o2
 have mm : ∀ x, x ∈ ps ↔ x ∈ ps2 := fun x => by rw [m1, m2]; exact (hp.map (·.2.1)).mem_iff.symm
 have key : ∀ i : Nat, ∀ d ∈ ls.take i, f d.1 = g d.1 := by
  intro i
  induction i with
  | zero => intro d hd; simp at hd
  | succ i ih =>
    intro d hd
    cases hc : ls[i]? with
    | none =>
      rw [List.take_add_one, hc] at hd
      exact ih d (by simpa using hd)
    | some c =>
      rw [take_snoc hc] at hd
      rcases List.mem_append.mp hd with hd | hd
      . exact ih d hd
      . have : d = c := by simpa using hd
        subst this
        obtain ⟨p, hp, c1, k1, a1, b1, e1⟩ := g1 i d hc
        obtain ⟨p', xT, OS, MG, PQ, Lq, GV⟩ := g2 i d hc
        have l1 : load f (ls.take i) p = load g (ls.take i) p' := by
         refine Int.le_antisymm ?_ ?_
         . rw [kP ih]; exact MG p ((mm p).mp hp) c1
         . rw [<- kP ih]; exact k1 p' ((mm p').mpr xT) OS
        rw [l1] at b1 e1
        omega
 intro c hc
 exact key ls.length c (by rw [List.take_length]; exact p1.mem_iff.mpr hc)
theorem wj {H : Hp} {Q : VK} {f : Bool -> Bool} {x y : V} {cs : List C4} (h1 : Dv H x (.list (cs.map b7))) (h2 : Dv H y (.list (cs.map b7))) (hs : yF cs) (h : Q (.bl (f true)) H) : pW K f x y H Q := by
 have hl : PyData.canLay0 (.list (cs.map b7)) = true := by rw [PyData.canLay0]; exact uO hs.nm
 refine sA h1 h2 hl hl ?_ (by rw [PySem.SeqAt.eqv_refl _ hl]; exact h)
 have := xg cs
 rw [PyData.depth]; omega
theorem wF (f : Str -> Int) (cs : List C4) : rX (dU f cs) := fun x hx => by
 obtain ⟨c, _, rfl⟩ := List.mem_map.mp hx
 exact ⟨_, rfl⟩
theorem DN (f : Str -> Int) (cs : List C4) : ∀ z ∈ dU f cs, oq (dU f cs) z.1 = some z.2 := fun z hz => by
 obtain ⟨c, hc, rfl⟩ := List.mem_map.mp hz
 exact kj (List.mem_map_of_mem hc)
theorem Dq {H : Hp} {Q : VK} {pl pd : Addr} {p : Int} {ds : List PyData} {m : List (Str × PyData)} (h1 : bG H pl ds) (h2 : eG H pd m) (k : ∀ t H2, ah H H2 -> H t = none -> H2 t = some (.tup [.ref pl, .int p, .ref pd]) -> Q (.ref t) H2) : tT [.ref pl, .int p, .ref pd] H Q :=
 iz (ds := [.list ds, .int p, _]) (gu rfl) (.cons h1.dv (.cons (.int _) (.cons h2.dv .nil))) k
local macro_rules | `(tactic| walk_at "rd1") => `(tactic| first
 | ((with_reducible refine' Dq ?e1 ?e2 (fun _ _ _ _ _ => ?_)); (case e1 => walk_at "lat"); (case e2 => walk_at "dla"))
 | ((with_reducible refine' yc ?e1 (fun _ _ _ _ _ => ?_)); (case e1 => walk_at "dla"))
 | fail)
theorem BX (T : Txt K mg a) : bQ P w K mg base iV 10 a.g7 a.nF ["_law_script"] (wz K) := by
 have aT := c9 (P := P) (w := w) (base := base) T
 have lJ := pM (P := P) (w := w) (base := base) T
 have oW := w4 (P := P) (w := w) (base := base) T
 have kG := uV (P := P) (w := w) (base := base) T
 have pS := zH (P := P) (w := w) (base := base) T
 have j6 := u6 (P := P) (w := w) (base := base) T
 have wk := uR (P := P) (w := w) (base := base) T
 refine T.uF.ok d8 (fun vs H Q E h => ?_) (fun df A outer s H vs Q E hr h => ?_)
 . obtain ⟨_, _, rfl, _⟩ := h; rfl
 . obtain ⟨l, ns, rfl, hl, hn, q⟩ := h
   refine ⟨_, (ag (av (i := 1) d8.nd rfl (Or.inl rfl) (aj aB (aC aT (hr.mono (by decide)) rfl T.aW T.aV (ae (pv 0) (ae af ai))) af))
    (ag (av (i := 2) d8.nd rfl (Or.inl rfl) (jd (km hr.xD) (aj aB (aj aF (aC aT (hr.mono (by decide)) rfl T.aW T.aV (ae (pv 0) (ae af ai))) af) af) af (aS _)))
    (kN (bZ (bU (pv 2) (fun _ => rfl))
     (ak (av (i := 1) d8.nd rfl (Or.inl rfl) af))
     (ak (bZ (aN (km hr.xD) (aj aB (aj aF (aC aT (hr.mono (by decide)) rfl T.aW T.aV (ae (pv 0) (ae af ai))) af) af) af (aS _))
      (ak (av (i := 1) d8.nd rfl (Or.inl rfl) (aj bh af (aj aB (aj aF (aC aT (hr.mono (by decide)) rfl T.aW T.aV (ae (pv 0) (ae af ai))) af) af))))
      bo)))
    (ag (av (i := 3) d8.nd rfl (Or.inl rfl) (aC lJ (hr.mono (by decide)) rfl T.gC T.fY (ae (pv 0) (ae (pv 1) (ae (pv 2) ai)))))
    (ag (av (i := 4) d8.nd rfl (Or.inl rfl) (aC oW (hr.mono (by decide)) rfl T.iQ T.iG (ae (aC aT (hr.mono (by decide)) rfl T.aW T.aV (ae (pv 0) (ae af ai))) ai)))
    (ag (av (i := 5) d8.nd rfl (Or.inl rfl) (jA jC rfl T.gS PyProof.Rows.boot_list (ae (pv 3) ai)))
    (ag (av (i := 6) d8.nd rfl (Or.inl rfl) (aC wk (hr.mono (by decide)) rfl T.nN T.nW (ae (pv 5) (ae (pv 4) ai))))
    (ag (bZ (PW.pt (ib (er (bU (aQ gk rfl T.bw PyProof.Rows.boot_isinstance (ae (pv 6) (ae (iM (v := .ty "tuple") rfl T.iX PyProof.Rows.boot_tuple rfl) ai))) (fun _ => rfl))) (ib (aN (n6 hr.xD) (aQ cB rfl T.dE PySem.boot_len (ae (pv 6) ai)) af (aS _)) (gm (er (bU (aC kG (hr.mono (by decide)) rfl T.fM T.fO (ae (aL bT (pv 6) af (fun _ _ => rfl)) (ae (pv 4) ai))) (fun _ => rfl)))))))
     (ak (aI fG))
     bo)
    (ag (bZ (PW.pt (ib (er (bU (aC pS (hr.mono (by decide)) rfl T.jR T.jM (ae (aL bT (pv 6) af (fun _ _ => rfl)) (ae (pv 3) (ae (aL bT (pv 6) af (fun _ _ => rfl)) ai)))) (fun _ => rfl))) (gm (er (bU (aC j6 (hr.mono (by decide)) rfl T.eQ T.eS (ae (pv 6) (ae (pv 3) (ae (pv 4) ai)))) (fun _ => rfl))))))
     (ak (aI fG))
     bo)
    (ag (av (i := 7) d8.nd rfl (Or.inl rfl) (du (ae (jA jC rfl T.gS PyProof.Rows.boot_list (ae (aL bT (pv 6) af (fun _ _ => rfl)) ai)) (ae (aL bT (pv 6) af (fun _ _ => rfl)) (ae (jA qx rfl T.no_dict PyProof.Rows.boot_dict (ae (aL bT (pv 6) af (fun _ _ => rfl)) ai)) ai)))))
    (ag (iP (pq PySem.F.plainAttrs_list PySem.F.slot_list_append PySem.F.type_list_append eR (aL bT (pv 6) af (fun _ _ => rfl)) (ae af ai)))
    (ag (mZ (jG hr) (aL bT (pv 6) af (fun _ _ => rfl)) qo (aj fV af af) rfl)
    (ag (bZ (aN (n6 hr.xD) (pv 5) (pv 3) (aS _))
     (ak (aI fG))
     bo)
    (ak (aI (Gu (jd iZ (pv 1) af (aS _)) (qy (w6 (jd (yY hr.xD) (aC wk (hr.mono (by decide)) rfl T.nN T.nW (ae (pv 5) (ae (pv 4) ai))) (pv 7) (aS _)) (qy (jd (km hr.xD) (pv 5) (pv 3) (aS _))))))))))))))))))))), ?_⟩
   repeat' (walk_at "rd1")
   refine q0 (fun σ' H' => H = H' /\ ∃ (m : Int) (hv : Bool), σ' = [some (.ref l), some (.int m), some (.bl hv), none, none, none, none, none] /\ 0 <= m /\ m <= 40) ?_ ?_
   . repeat' (walk_at "rd1")
     all_goals exact ⟨rfl, _, _, rfl, by omega, by omega⟩
   rintro σ' H' ⟨rfl, mn, hv, rfl, Od, Pl⟩
   repeat' (walk_at "rd1")
   refine tZ hl Od Pl (fun pc H1 cs ez sN ud aK Cp => ?_)
   have Gq : cs.length <= 40 := by omega
   have Ep : bF K H1 l (ns.map V.int) := ah.seq ez hl
   repeat' (walk_at "rd1")
   refine BW (fun m m0 m1 => ?_)
   repeat' (walk_at "rd1")
   rename_i ph H2 cA oB EX
   refine xf EX.dv aK (by omega) m0 (fun t lw d H3 W p f sm3 Ee xC LR OA hd Kd JI p0 p1 hD hU nR hx wy Hv => ?_)
   have MP : ph ≠ lw := EX.ne Ee
   have Om : ph ≠ d := EX.ne xC
   have yU := Cp.keeps cA
   have Ja : pc ≠ lw := yU.ne Ee
   have Kb : pc ≠ d := yU.ne xC
   have Gb := EX.keeps sm3
   have CK := yU.keeps sm3
   have G0 : bG H3 lw (W.map PyData.int) := oV OA
   have MU : Dv H3 (.ref t) (.tuple [.list (W.map PyData.int), .int p, _]) := .tup LR (.cons G0.dv (.cons (.int _) (.cons hd.dv .nil)))
   clear EX Cp yU
   repeat' (walk_at "rd1")
   refine A3 G0 Kd.inc Kd.len JI ?_
   clear MU
   repeat' (walk_at "rd1")
   refine F5 hd CK.dv aK Gq nR p0 (fun H4 lS => ?_)
   have Fc := Gb.keeps lS
   have BR := CK.keeps lS
   have Cj := G0.keeps lS
   have HG := hd.keeps lS
   have Jy := lS.at LR
   have hS : oo cs p (cs.map fun c => f c.1).sum := ⟨f, nR, hx, rfl⟩
   have E9 : fT W cs = m * p + (cs.map wt).sum - (cs.map fun c => f c.1).sum := by
    obtain ⟨ps, k, cl, b, J7, jh, _⟩ := Hv
    exact pY aK m0 p0 hS hD hU Kd J7 fun c hc => (jh _).mpr (List.mem_map_of_mem hc)
   have P7 := mY aK.w1
   clear G0 hd Gb CK
   repeat' (walk_at "rd1")
   refine DP Jy Cj HG BR.dv aK Gq JI ⟨m0, m1⟩ ⟨p0, by omega⟩ E9 (fun H5 m8 => ?_)
   have GK := Fc.keeps m8
   have Fl := BR.keeps m8
   have BF := Cj.keeps m8
   have zK := HG.keeps m8
   have JW := m8.at Jy
   clear Cj HG Fc BR Jy
   repeat' (walk_at "rd1")
   rename_i pl H6 q9 Av mB pd H7 lF D2 Fu tb H8 uz KU N7 H9 rC Km
   have yK := (q9.trans lF).trans uz
   have Oy := rC.tp _ _ (yK.at JW)
   have Ji : eG H9 d (dU f cs) := (zK.keeps yK).mv rC (by simp [Ne.symm wy])
   have FX : bG H9 ph (cs.map b7) := (GK.keeps yK).mv rC (by simp [MP])
   have EB : bG H9 pc (cs.map b7) := (Fl.keeps yK).mv rC (by simp [Ja])
   have O6 : lw ≠ pl := BF.ne Av
   have Mh : lw ≠ pd := (BF.keeps q9).ne D2
   have Pg : d ≠ pl := zK.ne Av
   have OU : d ≠ pd := (zK.keeps q9).ne D2
   have EJ : bG H9 pl (W.map PyData.int) := ((mB.keeps lF).keeps uz).mv rC (by simp [Ne.symm O6])
   have E5 : eG H9 pd (dU f cs) := (Fu.keeps uz).mv rC (by simp [Ne.symm Mh])
   have IT := rC.tp _ _ N7
   have Ce : (dU f cs).length <= 60 := by rw [j9]; omega
   clear zK GK Fl BF mB Fu Km
   refine vU Oy rfl ?_
   repeat' (walk_at "rd1")
   rename_i G2 pR JL
   have ve : bG G2 ph (cs.map b7) := FX.mv pR (by simp [Om])
   have AF : bG G2 pc (cs.map b7) := EB.mv pR (by simp [Kb])
   have Af : bG G2 pl (W.map PyData.int) := EJ.mv pR (by simp [Ne.symm Pg])
   have zZ : eG G2 pd (dU f cs) := E5.mv pR (by simp [Ne.symm OU])
   have FQ := pR.tp _ _ IT
   refine wj ve.dv AF.dv aK.ok ?_
   clear Ji JL FX EB EJ E5
   repeat' (walk_at "rd1")
   . exact q _
   . refine xf ve.dv aK (by omega) m0 (fun t2 l2 d2 L9 W2 p2 f2 xq Mz MK IH Jg hd2 Nx Nq MD ND Oc OH Oo zc MH Ir => ?_)
     have eW : W = W2 := Hv.det Ir
     subst eW
     have ep : p = p2 := by
      rcases Int.lt_trichotomy p p2 with h | h | h
      . exact (pK p0 ND hU Oc h).elim
      . exact h
      . exact (pK MD p1 OH hD h).elim
     subst ep
     have ef : dU f2 cs = dU f cs := by
      unfold dU
      refine List.map_congr_left fun c hc => ?_
      rw [uk aK.nd (List.Perm.refl _) hx zc c hc]
     rw [ef] at hd2
     have GF := ve.keeps xq
     have Gr := AF.keeps xq
     have a1 : T3 L9 t2 l2 d2 p W (dU f cs) := ⟨IH, (oV Jg).dv, hd2⟩
     have a2 : T3 L9 tb pl pd p W (dU f cs) := ⟨xq.at FQ, (Af.keeps xq).dv, zZ.keeps xq⟩
     clear hd2 zZ Af
     repeat' (walk_at "rd1")
     refine Bo a1 a2 (wF f cs) (DN f cs) ?_
     repeat' (walk_at "rd1")
     refine wj GF.dv Gr.dv aK.ok ?_
     repeat' (walk_at "rd1")
     exact q _
end
end My
open PySem PySem.W PyProof.Rows
local macro_rules | `(tactic| walk_at "k_dg") => `(tactic| (refine' ⟨?a, ⟨_, L2.x6 ?l ?c⟩, ?k⟩; (case a => k_is); (case l => k_is); (case c => k_is); (case k => k_is)))
theorem PySem.W.Fast.tw15841377392765550033 : True := trivial
theorem PySem.W.Fast.tw12075971501373853538 : True := trivial
theorem PySem.W.Fast.tw17626318306501208876 : True := trivial
theorem PySem.W.Fast.tw7124864010887409967 : True := trivial
theorem PySem.W.Fast.tw11514152075363777809 : True := trivial
theorem PySem.W.Fast.tw13551532690463655656 : True := trivial
theorem PySem.W.Fast.tw1523286963643874981 : True := trivial
set_option maxRecDepth 100000 in
set_option maxHeartbeats 0 in
theorem PySem.Challenge.cw_wakefew_k47_whole_thin_shown_holds : PySem.Challenge.rw_wakefew_k47_whole_thin_shown.Holds := by
 w_on; o_law; k_head; (case hw => w_witness2)
 k_fill
 refine L2.vV (l := PySem.Challenge.rw_wakefew_k47_whole_thin_shown) (n := 63) (k := 14) (x := "_law_script") (CX := L2.iV) (sp := My.wz) rfl (by decide) rfl ⟨rfl, by decide, by decide⟩ (fun w h Y => PySem.W.kIn_of Y) ?F ?S ?C
 case F =>
  intro w mg fa h KX G Fp
  have T : ∃ a : My.Ad, a.g7 = a.g7 /\ My.Txt (L2.Li KX) mg a := by
   dsimp only [L2.Li]
   refine' My.DS KX G ?h2 ?h3 ?h4 ?h5 ?h6 ?h7 ?h8 ?h9 ?h10 ?h11 ?h12 ?h13 ?h14 ?h15 ?h16 ?h17 ?h18 ?h19 ?h20 ?h21 ?h22 ?h23 ?h24 ?h25 ?h26 ?h27 ?h28 ?h29 ?h30 ?h31 ?h32 ?h33 ?h34 ?h35 ?h36 ?h37
   (case h2 => walk_at "k_dg")
   (case h3 => walk_at "k_dg")
   (case h4 => walk_at "k_dg")
   (case h5 => walk_at "k_dg")
   (case h6 => walk_at "k_dg")
   (case h7 => walk_at "k_dg")
   (case h8 => walk_at "k_dg")
   (case h9 => walk_at "k_dg")
   (case h10 => walk_at "k_dg")
   (case h11 => walk_at "k_dg")
   (case h12 => walk_at "k_dg")
   (case h13 => walk_at "k_dg")
   (case h14 => walk_at "k_dg")
   (case h15 => walk_at "k_dg")
   (case h16 => walk_at "k_dg")
   (case h17 => walk_at "k_dg")
   (case h18 => walk_at "k_dg")
   (case h19 => walk_at "k_dg")
   (case h20 => walk_at "k_dg")
   (case h21 => walk_at "k_dg")
   (case h22 => walk_at "k_dg")
   (case h23 => k_is)
   (case h24 => k_is)
   (case h25 => k_is)
   (case h26 => k_is)
   (case h27 => k_is)
   (case h28 => k_is)
   (case h29 => k_is)
   (case h30 => k_is)
   (case h31 => k_is)
   (case h32 => k_is)
   (case h33 => k_is)
   (case h34 => k_is)
   (case h35 => k_is)
   (case h36 => k_is)
   (case h37 => k_is)
  obtain ⟨a, _, T⟩ := T
  have e0 := Fp.symm.trans T.vF
  cases e0
  exact ⟨a.nF, fun s u => My.t9 T s u, fun base kb nb => (My.BX T).mono (by decide)⟩
 case S => exact fun K H l ns hl hO hS => ⟨l, ns, rfl, hS, hl, fun _ => rfl⟩
 case C => exact fun H s e s' h => h
