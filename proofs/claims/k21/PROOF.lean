import PyProof.Rows.All
import Wide.All
import OpenK.AllK
import Wide.FinOn
import Lean
import PyProof.EqAt
import PyProof.EqKinds
import PyProof.TupleCall
import PyProof.StrLawsRepr
import PySem.Challenge.RW_wakefew_k21_groups_in_chains
set_option compiler.extract_closed false
set_option Elab.async false
set_option linter.all false
set_option maxRecDepth 100000
namespace L2
open PySem PySem.Spec PyProof.Rows
abbrev Key := Sum Int Str
def jK : Key -> Value -> Bool
 | .inl k, v => Value.isInt k v
 | .inr x, v => Value.isStrOf x v
def Dj (w : World) : Key -> Int
 | .inl k => hashInt k
 | .inr x => hashStr w x
theorem aZ : ∀ {k : Key} {v : Value}, jK k v = true -> (∃ i t, k = Sum.inl i /\ v = Value.int i t) \/ (∃ x t, k = Sum.inr x /\ v = Value.str x t)
 | .inl i, v, h => by
   obtain ⟨t, e⟩ := Value.isInt_shape (k := i) (v := v) h
   exact .inl ⟨i, t, rfl, e⟩
 | .inr x, v, h => by
   obtain ⟨t, e⟩ := Value.isStrOf_shape (x := x) (v := v) h
   exact .inr ⟨x, t, rfl, e⟩
theorem pU (i : Int) (t : Tok) : jK (.inl i) (.int i t) = true := by simp [jK, Value.isInt]
theorem pj (x : Str) (t : Tok) : jK (.inr x) (.str x t) = true := by simp [jK, Value.isStrOf]
theorem xU (a b : Int) : decide ((Sum.inl a : Key) = Sum.inl b) = (a == b) := by
 by_cases e : a = b
 . subst e; simp
 . have h : ¬ (Sum.inl a : Key) = Sum.inl b := fun q => e (Sum.inl.inj q)
   rw [decide_eq_false h]
   exact (beq_eq_false_iff_ne.mpr e).symm
theorem w6 (a b : Str) : decide ((Sum.inr a : Key) = Sum.inr b) = decide (a = b) := by
 by_cases e : a = b
 . subst e; simp
 . have h : ¬ (Sum.inr a : Key) = Sum.inr b := fun q => e (Sum.inr.inj q)
   rw [decide_eq_false h, decide_eq_false e]
theorem yC (a : Int) (b : Str) : decide ((Sum.inl a : Key) = Sum.inr b) = false := decide_eq_false (fun q => nomatch q)
theorem xR (a : Str) (b : Int) : decide ((Sum.inr a : Key) = Sum.inl b) = false := decide_eq_false (fun q => nomatch q)
def aL (prog : Program) (w : World) : PySem.KeyKind prog w Key where
 is := jK
 hash := Dj w
 inj := fun v a b ha hb => by
  rcases aZ ha with ⟨i, t, rfl, rfl⟩ | ⟨x, t, rfl, rfl⟩
  . rcases aZ hb with ⟨j, u, rfl, e⟩ | ⟨y, u, rfl, e⟩
    . injection e with e1 _; rw [e1]
    . exact nomatch e
  . rcases aZ hb with ⟨j, u, rfl, e⟩ | ⟨y, u, rfl, e⟩
    . exact nomatch e
    . injection e with e1 _; rw [e1]
 byValue := fun k v h => by
  rcases aZ h with ⟨i, t, rfl, rfl⟩ | ⟨x, t, rfl, rfl⟩ <;> rfl
 pyHash := fun hv h => by
  rcases aZ hv with ⟨i, t, rfl, rfl⟩ | ⟨x, t, rfl, rfl⟩
  . exact wpAny_pyHash_int h
  . exact wpAny_pyHash_str h
 eqBool := fun hu hv h => by
  rcases aZ hu with ⟨i, t, rfl, rfl⟩ | ⟨x, t, rfl, rfl⟩
  . rcases aZ hv with ⟨j, u, rfl, rfl⟩ | ⟨y, u, rfl, rfl⟩
    . rw [xU] at h; exact wpAny_eqBool_int h
    . rw [yC] at h; exact SeqAt.EqAt.int_str i t y u _ _ _ _ h
  . rcases aZ hv with ⟨j, u, rfl, rfl⟩ | ⟨y, u, rfl, rfl⟩
    . rw [xR] at h; exact SeqAt.EqAt.str_int x t j u _ _ _ _ h
    . rw [w6] at h; exact wpAny_eqBool_str h
 «strs» := fun k x t v h => by
  rcases aZ h with ⟨i, u, rfl, e⟩ | ⟨y, u, rfl, e⟩
  . exact nomatch e
  . injection e with e1 _
    subst e1
    cases v <;> rfl
theorem lG (prog : Program) (w : World) (i : Int) (t : Tok) : (aL prog w).is (.inl i) (.int i t) = true := pU i t
theorem mB (prog : Program) (w : World) (x : Str) (t : Tok) : (aL prog w).is (.inr x) (.str x t) = true := pj x t
inductive V where
 | aO | bl (b : Bool) | int (i : Int) | str (x : Str) | oS (b : Array UInt8) | xK (b : UInt64) | ref (a : Addr) | ty (n : String)
 deriving DecidableEq
def RelV : V -> Value -> Prop
 | .aO, u => u = Value.none
 | .bl b, u => u = Value.bool b
 | .int i, u => ∃ t, u = Value.int i t
 | .str x, u => ∃ t, u = Value.str x t
 | .oS b, u => ∃ t, u = Value.bytes b t
 | .xK b, u => ∃ t, u = Value.float b t
 | .ref a, u => u = Value.ref a
 | .ty n, u => u = Value.type n
abbrev Vals : List V -> List Value -> Prop := Paired RelV
theorem Vals.length {xs : List V} {us : List Value} (r : Vals xs us) : xs.length = us.length := Paired.length r
theorem Vals.get : ∀ {xs : List V} {us : List Value} {i : Nat} {x : V}, Vals xs us -> xs[i]? = some x -> ∃ u, us[i]? = some u /\ RelV x u
 | _, _, _, _, .nil, e => by simp at e
 | _, _, 0, _, .cons r _, e => by simp at e; subst e; exact ⟨_, rfl, r⟩
 | _, _, i + 1, x, .cons _ t, e => by
   obtain ⟨u, h1, h2⟩ := Vals.get (i := i) (x := x) t (by simpa using e)
   exact ⟨u, by simpa using h1, h2⟩
theorem Vals.append : ∀ {xs ys : List V} {us ws : List Value}, Vals xs us -> Vals ys ws -> Vals (xs ++ ys) (us ++ ws)
 | _, _, _, _, .nil, s => s
 | _, _, _, _, .cons r t, s => .cons r (Vals.append t s)
theorem Vals.take : ∀ {xs : List V} {us : List Value} (n : Nat), Vals xs us -> Vals (xs.take n) (us.take n)
 | _, _, 0, _ => .nil
 | _, _, _ + 1, .nil => .nil
 | _, _, n + 1, .cons r t => .cons r (Vals.take n t)
theorem Vals.drop : ∀ {xs : List V} {us : List Value} (n : Nat), Vals xs us -> Vals (xs.drop n) (us.drop n)
 | _, _, 0, r => r
 | _, _, _ + 1, .nil => .nil
 | _, _, n + 1, .cons _ t => Vals.drop n t
def gk : Option V -> Option Value -> Prop
 | some v, some u => RelV v u
 | none, none => True
 | _, _ => False
def KV {κ : Type} : List (κ × V) -> List (κ × Value) -> Prop := Paired fun (p : κ × V) (q : κ × Value) => p.1 = q.1 /\ RelV p.2 q.2
def kV : Key -> V
 | .inl i => .int i
 | .inr x => .str x
inductive HO where
 | lst (xs : List V)
 | tup (xs : List V)
 | dK (kvs : List (Key × V)) | dT (kvs : List (List Key × V))
 | set (S : Int -> Bool) (n : Nat)
 | ins (C dx : Addr) (fs : List (Str × V))
 | own (x : Addr)
 | xd (fs : List (Str × V))
 | met (f x : Addr)
 | Ck (lo hi : Int)
 | cg (o : Obj) (u : HO)
 | gg (ps : Array Value)
 | ext (φ : Heap -> Prop)
abbrev Hp := Addr -> Option HO
def upd (H : Hp) (a : Addr) (o : HO) : Hp := fun b => if b = a then some o else H b
theorem aj {H : Hp} {a : Addr} {o : HO} : upd H a o a = some o := by unfold upd; rw [if_pos rfl]
theorem ag {H : Hp} {a b : Addr} {o : HO} (h : b ≠ a) : upd H a o b = H b := by unfold upd; rw [if_neg h]
theorem dQ {H : Hp} {a b : Addr} {o u : HO} (h : H a = some o) (h' : H b = some u) (d : o ≠ u) : a ≠ b := by
 intro e; subst e; rw [h] at h'; exact d (Option.some.inj h')
theorem av {H : Hp} {a b : Addr} {o : HO} (h : H a = some o) (h' : H b = none) : a ≠ b := by
 intro e; subst e; rw [h] at h'; cases h'
section
variable (P : Program) (w : World)
def bh (H : Hp) (h : Heap) (a : Addr) : HO -> Prop
 | .lst xs => xs.length <= sizeLine /\ ∃ (aR : List Value) (n : Nat), Vals xs aR /\ h.get? a = some { cls := .type "list", data := .seq aR.toArray n }
 | .tup xs => xs.length <= sizeLine /\ ∃ aR : List Value, Vals xs aR /\ IsTup h a aR.toArray
 | .dK kvs => kvs.length <= sizeLine /\ (a == sysModules) = false /\ ∃ vs, KV kvs vs /\ h.DictOf (aL P w) a vs
 | .dT kvs => kvs.length <= sizeLine /\ (a == sysModules) = false /\ ∃ xs : List (List Key × Addr × Value),
  Paired (fun (p : List Key × V) (q : List Key × Addr × Value) => p.1 = q.1 /\ H q.2.1 = some (.tup (p.1.map kV)) /\ RelV p.2 q.2.2) kvs xs /\
  ∃ o es ep, h.get? a = some o /\ o.ExactDict /\ o.data = .dict es ep /\ es.toList = xs.map (entryOfKey (tupleKind (aL P w))) /\ (xs.map (·.1)).Nodup
 | .set S n => h.SetOf (intKind P w) a S n
 | .ins C dx fs => H dx = some (.own a) /\ fs.length <= 1000 /\ dx ≠ a /\ h.get? a = some (PySem.W.instObj C dx) /\
  ∃ mA, h.Ns1 dx mA /\ (∀ f, gk (fs.lookup f) (mA f)) /\ PySem.Within mA (fs.map (·.1))
 | .own _ => ∃ o, h.get? a = some o
 | .xd fs => ∃ mA, h.Ns1 a mA /\ ∀ f, gk (fs.lookup f) (mA f)
 | .Ck lo hi => ∃ t u v, h.get? a = some { cls := .type "range", data := .fields #[.int lo t, .int hi u, .int 1 v] }
 | .cg o u => h.get? a = some o /\ bh H h a u
 | .gg ps => h.get? a = some { cls := .none, data := .fields ps }
 | .met f x => h.get? a = some (PySem.W.methodObj (.ref f) (.ref x))
 | .ext φ => φ h /\ (∃ o, h.get? a = some o) /\ ∀ h1 h2 : Heap, φ h1 -> (∀ o, h1.get? a = some o -> h2.get? a = some o) -> φ h2
def e7 (H : Hp) (h : Heap) : Prop := ∀ a o, H a = some o -> bh P w H h a o
end
section
variable {P : Program} {w : World} {H H' : Hp} {h h' : Heap} {a : Addr} {o : HO}
theorem bh.lt (x : bh P w H h a o) : a < h.objs.size := by
 cases o with
 | lst xs => obtain ⟨_, _, _, _, e⟩ := x; exact Heap.lt_size e
 | tup xs => obtain ⟨_, _, _, p⟩ := x; exact p.lt
 | dK kvs => obtain ⟨_, _, _, _, o, _, _, e, _⟩ := x; exact Heap.lt_size e
 | dT kvs => obtain ⟨_, _, _, _, o, _, _, e, _⟩ := x; exact Heap.lt_size e
 | set S n => obtain ⟨o, _, _, _, e, _⟩ := x; exact Heap.lt_size e
 | ins C dx fs => obtain ⟨_, _, _, e, _⟩ := x; exact Heap.lt_size e
 | own y => obtain ⟨_, e⟩ := x; exact Heap.lt_size e
 | xd fs => obtain ⟨_, ⟨_, _, _, e, _⟩, _⟩ := x; exact Heap.lt_size e
 | Ck lo hi => obtain ⟨_, _, _, e⟩ := x; exact Heap.lt_size e
 | cg ob u => obtain ⟨e, _⟩ := x; exact Heap.lt_size e
 | gg ps => exact Heap.lt_size (show h.get? a = some _ from x)
 | met f y => exact Heap.lt_size (show h.get? a = some _ from x)
 | ext φ => obtain ⟨_, ⟨_, e⟩, _⟩ := x; exact Heap.lt_size e
theorem Paired.xf {α β : Type} {F G : α -> β -> Prop} : ∀ {l₁ : List α} {l₂ : List β}, Paired F l₁ l₂ -> (∀ a b, F a b -> G a b) -> Paired G l₁ l₂
 | _, _, .nil, _ => .nil
 | _, _, .cons r t, f => .cons (f _ _ r) (Paired.xf t f)
theorem bh.jA (x : bh P w H h a o) (k : ∀ b u, (b = a \/ H b = some (.own a)) -> h.get? b = some u -> h'.get? b = some u)
 (ho : ∀ b, H b = some (.own a) -> H' b = some (.own a)) (ht : ∀ b xs, H b = some (.tup xs) -> H' b = some (.tup xs)) : bh P w H' h' a o := by
 induction o with
 | lst xs => obtain ⟨z, aR, n, r, e⟩ := x; exact ⟨z, aR, n, r, k _ _ (.inl rfl) e⟩
 | tup xs => obtain ⟨z, aR, r, ob, e, c⟩ := x; exact ⟨z, aR, r, ob, k _ _ (.inl rfl) e, c⟩
 | dK kvs => obtain ⟨z, y, vs, r, ob, es, ep, e, c⟩ := x; exact ⟨z, y, vs, r, ob, es, ep, k _ _ (.inl rfl) e, c⟩
 | dT kvs =>
   obtain ⟨z, y, xs, r, ob, es, ep, e, c⟩ := x
   exact ⟨z, y, xs, Paired.xf r fun p q z => ⟨z.1, ht _ _ z.2.1, z.2.2⟩, ob, es, ep, k _ _ (.inl rfl) e, c⟩
 | set S n => obtain ⟨ob, es, ep, t, e, c⟩ := x; exact ⟨ob, es, ep, t, k _ _ (.inl rfl) e, c⟩
 | ins C dx fs =>
   obtain ⟨d, z, ne, e, mA, ⟨od, es, ep, e2, c⟩, r⟩ := x
   exact ⟨ho _ d, z, ne, k _ _ (.inl rfl) e, mA, ⟨od, es, ep, k _ _ (.inr d) e2, c⟩, r⟩
 | own y => obtain ⟨ob, e⟩ := x; exact ⟨ob, k _ _ (.inl rfl) e⟩
 | xd fs => obtain ⟨mA, ⟨od, es, ep, e, c⟩, r⟩ := x; exact ⟨mA, ⟨od, es, ep, k _ _ (.inl rfl) e, c⟩, r⟩
 | Ck lo hi => obtain ⟨t, u, v, e⟩ := x; exact ⟨t, u, v, k _ _ (.inl rfl) e⟩
 | cg ob u ih => obtain ⟨e, q⟩ := x; exact ⟨k _ _ (.inl rfl) e, ih q⟩
 | gg ps =>
   have e : h.get? a = some { cls := .none, data := .fields ps } := x
   show h'.get? a = some { cls := .none, data := .fields ps }
   exact k a _ (.inl rfl) e
 | met f y =>
   have e : h.get? a = some (PySem.W.methodObj (.ref f) (.ref y)) := x
   show h'.get? a = some (PySem.W.methodObj (.ref f) (.ref y))
   exact k a _ (.inl rfl) e
 | ext φ => obtain ⟨p, ⟨o, e⟩, st⟩ := x; exact ⟨st _ _ p fun o q => k _ _ (.inl rfl) q, ⟨o, k _ _ (.inl rfl) e⟩, st⟩
theorem e7.lt (x : e7 P w H h) (e : H a = some o) : a < h.objs.size := (x a o e).lt
theorem e7.fresh (x : e7 P w H h) (e : h.objs.size <= a) : H a = none := by
 cases q : H a with
 | none => rfl
 | some u => exact absurd (Nat.lt_of_lt_of_le (x.lt q) e) (Nat.lt_irrefl _)
theorem e7.kept (x : e7 P w H h) (k : ∀ b u, h.get? b = some u -> h'.get? b = some u) : e7 P w H h' := fun a o e =>
 (x a o e).jA (fun b u _ q => k b u q) (fun _ q => q) fun _ _ q => q
theorem e7.laid (x : e7 P w H h) (k : ∀ b u, h.get? b = some u -> h'.get? b = some u) (hp : h.objs.size <= a) (new : bh P w (upd H a o) h' a o) : e7 P w (upd H a o) h' := fun b u e => by
 have hn := x.fresh hp
 by_cases hb : b = a
 . subst hb; rw [aj] at e; cases e; exact new
 . rw [ag hb] at e
   exact (x b u e).jA (fun c v _ q => k c v q) (fun c q => by rw [ag (av q hn)]; exact q) fun c xs q => by rw [ag (av q hn)]; exact q
end
def Rd (H : Hp) (a : Addr) (u : HO) : Prop := H a = some u \/ ∃ o, H a = some (.cg o u)
theorem Rd.of {H : Hp} {a : Addr} {u : HO} (h : H a = some u) : Rd H a u := .inl h
theorem Rd.ok {P : Program} {w : World} {H : Hp} {h : Heap} {a : Addr} {u : HO} (r : Rd H a u) (x : e7 P w H h) : bh P w H h a u := by
 rcases r with r | ⟨o, r⟩
 . exact x a u r
 . obtain ⟨_, q⟩ := x a _ r
   exact q
def zU : Option HO -> Prop
 | some (.lst _) => True
 | some (.dK _) => True
 | some (.dT _) => True
 | some (.set _ _) => True
 | some (.ins _ _ _) => True
 | some (.ext _) => True
 | _ => False
section
variable {P : Program} {w : World} {H : Hp} {h h' : Heap} {x e : Addr} {o' : HO}
theorem e7.write (ok : e7 P w H h) (mu : zU (H x)) (he : e = x \/ H e = some (.own x)) (k : ∀ b u, b ≠ e -> h.get? b = some u -> h'.get? b = some u) (vQ : ∃ u, h'.get? e = some u)
 (new : bh P w (upd H x o') h' x o') : e7 P w (upd H x o') h' := fun b u q => by
 have zD : ∀ c y, H c = some (.own y) -> c ≠ x := fun c y r z => by subst z; rw [r] at mu; exact mu
 have Em : ∀ c xs, H c = some (.tup xs) -> c ≠ x := fun c xs r z => by subst z; rw [r] at mu; exact mu
 by_cases hb : b = x
 . subst hb; rw [aj] at q; cases q; exact new
 . rw [ag hb] at q
   by_cases xF : b = e
   . have q' : H b = some (.own x) := by
      rcases he with z | z
      . exact absurd (xF.trans z) hb
      . rw [xF]; exact z
     rw [q] at q'; cases q'
     obtain ⟨v, hv⟩ := vQ
     exact ⟨v, by rw [xF]; exact hv⟩
   . refine (ok b u q).jA (fun c v hc r => k c v ?_ r) (fun c r => by rw [ag (zD c b r)]; exact r) fun c xs r => by rw [ag (Em c xs r)]; exact r
     rcases hc with rfl | hc
     . exact xF
     . rintro rfl
       rcases he with z | z
       . exact zD c b hc z
       . rw [hc] at z; cases z; exact hb rfl
end
structure Un (fs ex : List Addr) (H H' : Hp) (h h' : Heap) : Prop where
 keep : ∀ b o, h.get? b = some o -> H b = none -> b ∉ fs -> b ∉ ex -> h'.get? b = some o
 slot : ∀ b o, h.get? b = some o -> H b = none -> b ∈ fs -> b ∉ ex -> ∃ sl, h'.get? b = some { o with slots := sl }
 free : ∀ b o, h.get? b = some o -> H b = none -> b ∉ ex -> H' b = none
 there : ∀ b o, h.get? b = some o -> b ∉ ex -> ∃ o', h'.get? b = some o'
 gT : ∀ b xs, H b = some (.tup xs) -> H' b = some (.tup xs)
 gf : ∀ b o u, H b = some (.cg o u) -> H' b = some (.cg o u)
 iy : ∀ b ps, H b = some (.gg ps) -> ∃ more, H' b = some (.gg (ps ++ more))
section
variable {fs B1 ex Iu : List Addr} {H H1 H2 : Hp} {h h1 h2 h' : Heap} {a x e : Addr} {o : HO}
theorem Un.any (u : Un fs ex H H1 h h1) {b : Addr} {ob : Obj} (q : h.get? b = some ob) (n : H b = none) (hx : b ∉ ex) : ∃ sl, h1.get? b = some { ob with slots := sl } := by
 by_cases hb : b ∈ fs
 . exact u.slot b ob q n hb hx
 . exact ⟨ob.slots, u.keep b ob q n hb hx⟩
theorem Un.kept (k : ∀ b u, h.get? b = some u -> h'.get? b = some u) : Un fs ex H H h h' :=
 ⟨fun b ob q _ _ _ => k b ob q, fun b ob q _ _ _ => ⟨ob.slots, k b ob q⟩, fun _ _ _ n _ => n, fun b ob q _ => ⟨ob, k b ob q⟩, fun _ _ q => q, fun _ _ _ q => q, fun _ ps q => ⟨#[], by rw [q]; simp⟩⟩
theorem Un.refl : Un fs ex H H h h := Un.kept fun _ _ q => q
theorem Un.laid (k : ∀ b u, h.get? b = some u -> h'.get? b = some u) (hp : h.objs.size <= a) (hn : H a = none) : Un fs ex H (upd H a o) h h' where
 keep := fun b u q _ _ _ => k b u q
 slot := fun b u q _ _ _ => ⟨u.slots, k b u q⟩
 free := fun b u q n _ => by rw [ag (Nat.ne_of_lt (Nat.lt_of_lt_of_le (Heap.lt_size q) hp))]; exact n
 there := fun b u q _ => ⟨u, k b u q⟩
 gT := fun b xs q => by rw [ag (av q hn)]; exact q
 gf := fun b u xs q => by rw [ag (av q hn)]; exact q
 iy := fun b ps q => ⟨#[], by rw [ag (av q hn), q]; simp⟩
theorem Un.write (mu : zU (H x)) (he : e = x \/ H e = some (.own x)) (k : ∀ b u, b ≠ e -> h.get? b = some u -> h'.get? b = some u) (vQ : ∃ u, h'.get? e = some u) : Un fs ex H (upd H x o) h h' := by
 have hx : ∀ b, H b = none -> b ≠ x := fun b n z => by subst z; rw [n] at mu; exact mu
 have hb : ∀ b, H b = none -> b ≠ e := fun b n z => by
  subst z
  rcases he with r | r
  . exact hx b n r
  . rw [n] at r; cases r
 have hm : ∀ b u, H b = some u -> ¬ zU (some u) -> b ≠ x := fun b u q nm z => by subst z; rw [q] at mu; exact nm mu
 refine ⟨fun b u q n _ _ => k b u (hb b n) q, fun b u q n _ _ => ⟨u.slots, k b u (hb b n) q⟩, fun b u q n _ => by rw [ag (hx b n)]; exact n, fun b u q _ => ?_,
  fun b xs q => by rw [ag (hm b _ q fun z => z)]; exact q, fun b u xs q => by rw [ag (hm b _ q fun z => z)]; exact q, fun b ps q => ⟨#[], by rw [ag (hm b _ q fun z => z), q]; simp⟩⟩
 by_cases xF : b = e
 . subst xF; exact vQ
 . exact ⟨u, k b u xF q⟩
end
def Bw (h : Heap) (H : Hp) : List Addr := (List.range h.objs.size).filter fun a => (H a).isSome
def jX (h : Heap) (H : Hp) : Heap := PySem.W.hideAll h (Bw h H)
theorem pC (h : Heap) (H : Hp) : (jX h H).objs.size = h.objs.size := PySem.W.hideAll_size _ _
theorem qM {h : Heap} {H : Hp} {b : Addr} {o : Obj} (e : h.get? b = some o) (n : H b = none) : (jX h H).get? b = some o :=
 PySem.W.hideAll_get _ e fun hm => by
  have q : (H b).isSome = true := (List.mem_filter.mp hm).2
  rw [n] at q; simp at q
theorem uK {h : Heap} {H : Hp} {b : Addr} {o : Obj} (e : (jX h H).get? b = some o) : h.get? b = some o /\ H b = none := by
 have e' : h.get? b = some o := PySem.W.of_hideAll (Bw h H) e
 refine ⟨e', ?_⟩
 cases q : H b with
 | none => rfl
 | some x =>
   have hm : b ∈ Bw h H := List.mem_filter.mpr ⟨List.mem_range.mpr (Heap.lt_size e'), by simp [q]⟩
   have z : (jX h H).get? b = none := PySem.W.hideAll_none (Bw h H) hm
   rw [z] at e; cases e
def vx (g h : Heap) (L : Addr) : List (Addr × Obj) := (List.range h.objs.size).filterMap fun a => if a = L \/ (g.get? a).isSome = true then none else (h.get? a).map fun o => (a, o)
def rest (g h : Heap) (L d : Addr) : List (Addr × Obj) := (vx g h L).filter fun p => decide (p.1 ≠ d)
structure Mod (K : PySem.W.Frag) (mg : Str -> Option Value) (base : Heap) : Prop where
 Cb : K.In base
 glob : base.Ns mainGlobals mg
 blt : ∃ mb, base.Ns builtinsNs mb /\ ∀ x : Str, x ≠ "__name__" -> mb x = bootBuiltins x
 nolimit : base.NoLimit
structure Cx where
 prog : Program
 w : World
 K : PySem.W.Frag
 mg : Str -> Option Value
 base : Heap
 A : Around
 N : List Str
 ck : Shared
 lR : Hp
 env : Env
 outer : List Env
 stack : List Env
 ex : List Addr
 fn : Str -> Bool
 calm : Bool
 pn : List (Addr × Obj)
 xe : Value -> Shared -> Prop
def mq (l : List Env) : List Addr := l.filterMap (·.frame)
abbrev Cx.fs (X : Cx) : List Addr := mq X.outer
def y7 (sc : Scope) (x : Str) : Prop := sc.names.lookup x = some .local \/ sc.names.lookup x = some .cell \/ sc.names.lookup x = some .free
def Loc (sc : Scope) (x : Str) : Prop := sc.names.lookup x = some .local \/ sc.names.lookup x = some .cell
def Look (env : Env) (h : Heap) (m : Str -> Option Value) (x : Str) (u : Value) : Prop :=
 (env.kindOf x = some .local /\ m x = some u) \/ ((env.kindOf x = some .cell \/ env.kindOf x = some .free) /\ ∃ c, env.cells.lookup x = some c /\ h.IsCell c (some u))
structure Cx.Ok (X : Cx) : Prop where
 mod : Mod X.K X.mg X.base
 kind : X.env.scope.kind = .function
 glob : X.env.globals = mainGlobals
 blt : X.env.builtins = builtinsNs
 above : X.ck.heap.objs.size <= X.env.locals
 inj : ∀ x y c, X.env.cells.lookup x = some c -> X.env.cells.lookup y = some c -> x = y
 has : ∀ x, (X.env.kindOf x = some .cell \/ X.env.kindOf x = some .free) -> ∃ c, X.env.cells.lookup x = some c
 y0 : ∀ x c, X.fn x = true -> X.env.cells.lookup x = some c -> X.ck.heap.objs.size <= c
 hd : X.calm = true -> X.A.handled = none
 frames : X.A.frames = some X.stack
 zp : X.stack = X.outer \/ (X.stack = X.env :: X.outer /\ X.env.frame = some X.env.locals)
 A1 : ∀ b ∈ X.ex, b ≠ X.env.locals /\ ∀ x c, X.env.cells.lookup x = some c -> c ≠ b
 bs : ∀ b o, X.base.get? b = some o -> X.ck.heap.get? b = some o /\ X.lR b = none
 qx : X.base.objs.size <= X.ck.heap.objs.size
 pH : ∀ b o, X.base.get? b = some o -> b ∉ X.ex
 p9 : ∀ b ∈ X.ex, b ∉ X.fs
 gH : X.ck.heap.FunFrames X.base X.outer
 tK : ∀ b ∈ X.fs, X.lR b = none
structure Inv (X : Cx) (pins : List (Addr × Obj)) (σ : List (Option V)) (H : Hp) (s : Shared) : Prop where
 ok : X.Ok
 os : s.os = X.ck.os
 bare : AllBare s.gens
 base : Un X.fs X.ex X.lR H X.ck.heap s.heap
 loc : ∃ m, s.heap.Ns X.env.locals m /\ ∀ (i : Nat) (x : Str) (v : V), X.N[i]? = some x -> σ[i]? = some (some v) -> y7 X.env.scope x -> ∃ u, RelV v u /\ Look X.env s.heap m x u
 cell : ∀ x c, X.env.cells.lookup x = some c -> ∃ v, s.heap.IsCell c v
 free : H X.env.locals = none
 dP : ∀ x c, X.env.cells.lookup x = some c -> H c = none
 pin : ∀ p ∈ X.pn ++ pins, s.heap.get? p.1 = some p.2 /\ H p.1 = none /\ p.1 ≠ X.env.locals /\ p.1 ∉ X.fs /\ ∀ v, p.2.data ≠ .cell v
 aH : e7 X.prog X.w H s.heap
 len : σ.length = X.N.length
section
variable {X : Cx} {pins : List (Addr × Obj)} {σ : List (Option V)} {H H' : Hp} {s : Shared} {h' : Heap}
theorem Cx.Ok.Ej (ok : X.Ok) {b : Addr} {o : Obj} (e : X.base.get? b = some o) : b ∉ X.fs := fun hb => by
 have := (ok.gH.mem hb).1
 rw [e] at this; cases this
theorem Inv.bs (I : Inv X pins σ H s) : ∀ b o, X.base.get? b = some o -> s.heap.get? b = some o /\ H b = none := fun b o e =>
 ⟨I.base.keep b o (I.ok.bs b o e).1 (I.ok.bs b o e).2 (I.ok.Ej e) (I.ok.pH b o e), I.base.free b o (I.ok.bs b o e).1 (I.ok.bs b o e).2 (I.ok.pH b o e)⟩
theorem Inv.bk (I : Inv X pins σ H s) : ∀ b o, X.base.get? b = some o -> s.heap.get? b = some o := fun b o e => (I.bs b o e).1
theorem Inv.mod (I : Inv X pins σ H s) : Mod X.K X.mg X.base := I.ok.mod
theorem Inv.iN (I : Inv X pins σ H s) : X.K.In s.heap := I.ok.mod.Cb.keeps I.bk
theorem Inv.nolimit (I : Inv X pins σ H s) : s.heap.NoLimit := I.ok.mod.nolimit.keeps I.bk
theorem Inv.lt (I : Inv X pins σ H s) : X.env.locals < s.heap.objs.size := let ⟨_, hn, _⟩ := I.loc; hn.lt
theorem Inv.sz (I : Inv X pins σ H s) : X.ck.heap.objs.size <= s.heap.objs.size := Nat.le_trans I.ok.above (Nat.le_of_lt I.lt)
theorem Inv.Aq (I : Inv X pins σ H s) {a : Addr} (h : s.heap.objs.size <= a) : a ∉ X.fs := fun hb => by
 obtain ⟨_, o, ho, _⟩ := I.ok.gH.mem hb
 exact absurd (Nat.lt_of_lt_of_le (Heap.lt_size ho) (Nat.le_trans I.sz h)) (Nat.lt_irrefl _)
theorem Inv.yg (I : Inv X pins σ H s) : ∀ x c, X.env.cells.lookup x = some c -> c ≠ X.env.locals := fun x c e z => by
 obtain ⟨v, o, ho, hd⟩ := I.cell x c e
 obtain ⟨m, ⟨o', es, ep, qB, oU, _⟩, _⟩ := I.loc
 rw [z, qB] at ho; cases ho; rw [oU] at hd; cases hd
theorem Inv.gH (I : Inv X pins σ H s) : s.heap.FunFrames X.base X.outer := by
 have all : ∀ (l : List Env), (∀ b ∈ mq l, b ∈ X.fs) -> X.ck.heap.FunFrames X.base l -> s.heap.FunFrames X.base l := by
  intro l
  induction l with
  | nil => intro _ _; trivial
  | cons env r ih =>
    intro hs hl
    obtain ⟨hk, ⟨L, o, hf, hn, ho, hd⟩, hr⟩ := hl
    have hL : L ∈ X.fs := hs L (by unfold mq; rw [List.filterMap_cons, hf]; exact List.mem_cons_self)
    obtain ⟨sl, e⟩ := I.base.slot L o ho (I.ok.tK L hL) hL fun z => I.ok.p9 L z hL
    exact ⟨hk, ⟨L, _, hf, hn, e, hd⟩, ih (fun b hb => hs b (by unfold mq; rw [List.filterMap_cons, hf]; exact List.mem_cons_of_mem _ hb)) hr⟩
 exact all X.outer (fun _ hb => hb) I.ok.gH
theorem Inv.stack (I : Inv X pins σ H s) : s.heap.FunFrames X.base X.stack := by
 rcases I.ok.zp with e | ⟨e, hf⟩
 . rw [e]; exact I.gH
 . rw [e]
   obtain ⟨m, hn, _⟩ := I.loc
   refine .cons (by rw [I.ok.kind]; decide) hf hn ?_ I.gH
   exact Heap.get?_none_of_le (Nat.le_trans I.ok.qx I.ok.above)
theorem Inv.mP (I : Inv X pins σ H s) : ∀ b ∈ mq X.stack, b ∈ X.env.locals :: X.fs := fun b hb => by
 rcases I.ok.zp with e | ⟨e, hf⟩
 . rw [e] at hb; exact List.mem_cons_of_mem _ hb
 . rw [e] at hb
   unfold mq at hb
   rw [List.filterMap_cons, hf] at hb
   exact hb
theorem Inv.oA (I : Inv X pins σ H s) : ∀ b ∈ mq X.stack, H b = none := fun b hb => by
 rcases List.mem_cons.mp (I.mP b hb) with e | hb
 . rw [e]; exact I.free
 . obtain ⟨_, o, ho, _⟩ := I.ok.gH.mem hb
   exact I.base.free b o ho (I.ok.tK b hb) fun z => I.ok.p9 b z hb
theorem Inv.step {g' : Array GenState} {t' : Nat} {d' : Drawn} {ch : List Addr} (I : Inv X pins σ H s)
 (pD : ∀ b ∈ ch, (b ∈ X.ex \/ X.ck.heap.objs.size <= b) /\ b ≠ X.env.locals /\ (∀ x c, X.env.cells.lookup x = some c -> c ≠ b) /\ ∀ p ∈ X.pn ++ pins, p.1 ≠ b)
 (keep : ∀ b o, b ≠ X.env.locals -> b ∉ X.fs -> b ∉ ch -> s.heap.get? b = some o -> H b = none -> h'.get? b = some o)
 (slot : ∀ b o, b ≠ X.env.locals -> b ∈ X.fs -> b ∉ ch -> s.heap.get? b = some o -> H b = none -> ∃ sl, h'.get? b = some { o with slots := sl }) (free : ∀ b o, b ∉ ch -> s.heap.get? b = some o -> H b = none -> H' b = none)
 (there : ∀ b o, b ∉ ch -> s.heap.get? b = some o -> ∃ o', h'.get? b = some o')
 (gT : ∀ b xs, H b = some (.tup xs) -> H' b = some (.tup xs)) (gf : ∀ b o u, H b = some (.cg o u) -> H' b = some (.cg o u)) (iy : ∀ b ps, H b = some (.gg ps) -> ∃ more, H' b = some (.gg (ps ++ more)))
 (ns : ∀ m, s.heap.Ns X.env.locals m -> h'.Ns X.env.locals m) (aH : e7 X.prog X.w H' h') (hg : AllBare g') :
 Inv X pins σ H' { s with heap := h', gens := g', drawn := d', toks := t' } := by
 have qt : ∀ b o, X.ck.heap.get? b = some o -> b ≠ X.env.locals := fun b o e => Nat.ne_of_lt (Nat.lt_of_lt_of_le (Heap.lt_size e) I.ok.above)
 have BQ : ∀ b o, X.ck.heap.get? b = some o -> b ∉ X.ex -> b ∉ ch := fun b o e hx hb => by
  rcases (pD b hb).1 with z | z
  . exact hx z
  . exact absurd (Nat.lt_of_lt_of_le (Heap.lt_size e) z) (Nat.lt_irrefl _)
 have cellK : ∀ x c, X.env.cells.lookup x = some c -> ∀ v, s.heap.IsCell c v -> h'.IsCell c v := fun x c e v ⟨o, ho, hd⟩ => by
  have zF : c ∉ ch := fun z => (pD c z).2.2.1 x c e rfl
  by_cases hc : c ∈ X.fs
  . obtain ⟨sl, q⟩ := slot c o (I.yg x c e) hc zF ho (I.dP x c e)
    exact ⟨_, q, hd⟩
  . exact ⟨o, keep c o (I.yg x c e) hc zF ho (I.dP x c e), hd⟩
 refine ⟨I.ok, I.os, hg, ⟨fun b o e n hb hx => ?_, fun b o e n hb hx => ?_, fun b o e n hx => ?_, fun b o e hx => ?_, fun b xs e => gT b xs (I.base.gT b xs e), fun b o xs e => gf b o xs (I.base.gf b o xs e), fun b ps e => ?_⟩, ?_, fun x c e => ?_, ?_, fun x c e => ?_, fun p hp => ?_, aH, I.len⟩
 . exact keep b o (qt b o e) hb (BQ b o e hx) (I.base.keep b o e n hb hx) (I.base.free b o e n hx)
 . obtain ⟨sl, e1⟩ := I.base.slot b o e n hb hx
   obtain ⟨Bx, e2⟩ := slot b _ (qt b o e) hb (BQ b o e hx) e1 (I.base.free b o e n hx)
   exact ⟨Bx, e2⟩
 . obtain ⟨o', e1⟩ := I.base.there b o e hx
   exact free b o' (BQ b o e hx) e1 (I.base.free b o e n hx)
 . obtain ⟨o', e1⟩ := I.base.there b o e hx
   exact there b o' (BQ b o e hx) e1
 . obtain ⟨m1, e1⟩ := I.base.iy b ps e
   obtain ⟨m2, e2⟩ := iy b _ e1
   exact ⟨m1 ++ m2, by rw [e2, Array.append_assoc]⟩
 . obtain ⟨m, hn, hl⟩ := I.loc
   refine ⟨m, ns m hn, fun i x v e1 e2 e3 => ?_⟩
   obtain ⟨u, r, l⟩ := hl i x v e1 e2 e3
   refine ⟨u, r, ?_⟩
   rcases l with l | ⟨k, c, e, z⟩
   . exact .inl l
   . exact .inr ⟨k, c, e, cellK x c e _ z⟩
 . obtain ⟨v, z⟩ := I.cell x c e
   exact ⟨v, cellK x c e v z⟩
 . obtain ⟨m, ⟨o, _, _, ho, _⟩, _⟩ := I.loc
   exact free _ o (fun z => (pD _ z).2.1 rfl) ho I.free
 . obtain ⟨v, o, ho, hd⟩ := I.cell x c e
   exact free c o (fun z => (pD c z).2.2.1 x c e rfl) ho (I.dP x c e)
 . obtain ⟨e, n, ne, nf, d⟩ := I.pin p hp
   have zF : p.1 ∉ ch := fun z => (pD p.1 z).2.2.2 p hp rfl
   exact ⟨keep p.1 p.2 ne nf zF e n, free p.1 p.2 zF e n, ne, nf, d⟩
theorem Inv.un {t' : Nat} (I : Inv X pins σ H s) (u : Un X.fs [] H H' s.heap h') (aH : e7 X.prog X.w H' h') : Inv X pins σ H' { s with heap := h', toks := t' } := by
 obtain ⟨m, ⟨o, es, ep, ho, r⟩, _⟩ := id I.loc
 obtain ⟨sl, hL⟩ := u.any ho I.free (by simp)
 exact I.step (g' := s.gens) (d' := s.drawn) (ch := []) (fun _ z => nomatch z) (fun b o _ hb _ e n => u.keep b o e n hb (by simp)) (fun b o _ hb _ e n => u.slot b o e n hb (by simp)) (fun b o _ e n => u.free b o e n (by simp)) (fun b o _ e => u.there b o e (by simp)) u.gT u.gf u.iy (fun m' hm => by
  obtain ⟨o', En, Du, qB, r'⟩ := hm
  rw [ho] at qB; cases qB
  exact ⟨_, En, Du, hL, r'⟩) aH I.bare
theorem Inv.call {g' : Array GenState} {t' : Nat} {d' : Drawn} {ch : List Addr} (I : Inv X pins σ H s) (u : Un (mq X.stack) ch H H' s.heap h') (aH : e7 X.prog X.w H' h') (hg : AllBare g')
 (pD : ∀ b ∈ ch, (b ∈ X.ex \/ X.ck.heap.objs.size <= b) /\ b ≠ X.env.locals /\ (∀ x c, X.env.cells.lookup x = some c -> c ≠ b) /\ ∀ p ∈ X.pn ++ pins, p.1 ≠ b) :
 Inv X pins σ H' { s with heap := h', gens := g', drawn := d', toks := t' } := by
 obtain ⟨m, ⟨o, es, ep, ho, r⟩, _⟩ := id I.loc
 obtain ⟨sl, hL⟩ := u.any ho I.free fun z => (pD _ z).2.1 rfl
 exact I.step (ch := ch) pD (fun b o hL hb hc e n => u.keep b o e n (fun z => (List.mem_cons.mp (I.mP b z)).elim hL hb) hc) (fun b o _ _ hc e n => u.any e n hc) (fun b o hc e n => u.free b o e n hc) (fun b o hc e => u.there b o e hc) u.gT u.gf u.iy (fun m' hm => by
  obtain ⟨o', En, Du, qB, r'⟩ := hm
  rw [ho] at qB; cases qB
  exact ⟨_, En, Du, hL, r'⟩) aH hg
theorem Inv.turned {t' : Nat} {it : Addr} (I : Inv X pins σ H s) (k : ∀ b o, b ≠ it -> s.heap.get? b = some o -> h'.get? b = some o) (hn : H it = none) (hL : it ≠ X.env.locals)
 (h1 : it ∈ X.ex \/ X.ck.heap.objs.size <= it) (h2 : ∀ x c, X.env.cells.lookup x = some c -> c ≠ it) (h3 : ∀ p ∈ X.pn ++ pins, p.1 ≠ it) : Inv X pins σ H { s with heap := h', toks := t' } := by
 have wM : ∀ b u, H b = some u -> b ≠ it := fun b u e z => by rw [z, hn] at e; cases e
 refine I.step (g' := s.gens) (d' := s.drawn) (ch := [it]) (fun b hb => ?_) (fun b o _ _ hc e _ => k b o (fun z => hc (by simp [z])) e) (fun b o _ _ hc e _ => ⟨o.slots, k b o (fun z => hc (by simp [z])) e⟩) (fun _ _ _ _ n => n)
  (fun b o hc e => ⟨o, k b o (fun z => hc (by simp [z])) e⟩) (fun _ _ e => e) (fun _ _ _ e => e) (fun b ps e => ⟨#[], by rw [e]; simp⟩) (fun m hm => ?_) (fun b u e => ?_) I.bare
 . have e : b = it := by simpa using hb
   subst e
   exact ⟨h1, hL, h2, h3⟩
 . obtain ⟨o, es, ep, ho, r⟩ := hm
   exact ⟨o, es, ep, k _ o (Ne.symm hL) ho, r⟩
 . refine (I.aH b u e).jA (fun c v hc q => k c v ?_ q) (fun _ q => q) fun _ _ q => q
   rcases hc with z | z
   . rw [z]; exact wM b u e
   . exact wM c _ z
theorem Inv.tok (I : Inv X pins σ H s) (t : Nat) : Inv X pins σ H { s with toks := t } := I.un (h' := s.heap) (t' := t) Un.refl I.aH
theorem Inv.kept {t' : Nat} (I : Inv X pins σ H s) (k : ∀ b u, s.heap.get? b = some u -> h'.get? b = some u) : Inv X pins σ H { s with heap := h', toks := t' } := I.un (Un.kept k) (I.aH.kept k)
theorem Inv.laid {a : Addr} {o : HO} {t' : Nat} (I : Inv X pins σ H s) (k : ∀ b u, s.heap.get? b = some u -> h'.get? b = some u) (hp : s.heap.objs.size <= a) (new : bh X.prog X.w (upd H a o) h' a o) :
 Inv X pins σ (upd H a o) { s with heap := h', toks := t' } := I.un (Un.laid k hp (I.aH.fresh hp)) (I.aH.laid k hp new)
theorem Inv.write {x e : Addr} {o : HO} {t' : Nat} (I : Inv X pins σ H s) (mu : zU (H x)) (he : e = x \/ H e = some (.own x)) (k : ∀ b u, b ≠ e -> s.heap.get? b = some u -> h'.get? b = some u) (vQ : ∃ u, h'.get? e = some u)
 (new : bh X.prog X.w (upd H x o) h' x o) : Inv X pins σ (upd H x o) { s with heap := h', toks := t' } := I.un (Un.write mu he k vQ) (I.aH.write mu he k vQ new)
theorem Inv.weak {σ' : List (Option V)} (I : Inv X pins σ H s) (hl : σ'.length = σ.length) (w : ∀ (i : Nat) v, σ'[i]? = some (some v) -> σ[i]? = some (some v)) : Inv X pins σ' H s :=
 ⟨I.ok, I.os, I.bare, I.base, let ⟨m, hn, r0⟩ := I.loc; ⟨m, hn, fun i x v e1 e2 e3 => r0 i x v e1 (w i v e2) e3⟩, I.cell, I.free, I.dP, I.pin, I.aH, hl.trans I.len⟩
theorem Inv.eZ {vL : List (Addr × Obj)} (I : Inv X pins σ H s) (h : ∀ p ∈ vL, s.heap.get? p.1 = some p.2 /\ H p.1 = none /\ p.1 ≠ X.env.locals /\ p.1 ∉ X.fs /\ ∀ v, p.2.data ≠ .cell v) : Inv X vL σ H s :=
 ⟨I.ok, I.os, I.bare, I.base, I.loc, I.cell, I.free, I.dP, fun p hp => (List.mem_append.mp hp).elim (fun z => I.pin p (List.mem_append_left _ z)) (h p), I.aH, I.len⟩
theorem mI {N : List Str} (hN : N.Nodup) {i j : Nat} {x : Str} (a : N[i]? = some x) (b : N[j]? = some x) : i = j := by
 obtain ⟨h1, e1⟩ := List.getElem?_eq_some_iff.mp a
 obtain ⟨h2, e2⟩ := List.getElem?_eq_some_iff.mp b
 exact (List.getElem_inj hN).mp (e1.trans e2.symm)
theorem qb {M : Model} {A : Around} {E : Value -> Shared -> Prop} {i : Nat} {x : Str} {v : V} {u : Value} {Q : Unit -> Shared -> Prop} (I : Inv X pins σ H s) (hN : X.N.Nodup) (hi : X.N[i]? = some x) (hx : Loc X.env.scope x) (r : RelV v u)
 (h : ∀ s', Inv X pins (σ.set i (some v)) H s' -> (∃ a, Heap.SameBut a s.heap s'.heap /\ (a = X.env.locals \/ X.env.cells.lookup x = some a)) -> Q () s') (hf : X.fn x = true \/ X.env.scope.names.lookup x = some .local := by first | exact .inl rfl | exact .inr rfl | assumption) : wpAny M A (storeName X.env x u) Q E s := by
 obtain ⟨m, hn, hl⟩ := id I.loc
 have DP : (X.env.scope.kind == .class || (X.env.scope.kind == .module && X.env.locals != X.env.globals)) = false := by rw [I.ok.kind]; rfl
 have zM : i < σ.length := by rw [I.len]; exact (List.getElem?_eq_some_iff.mp hi).1
 have yg := I.yg
 have tracked : ∀ {a : Addr} {h' : Heap}, (∃ o, s.heap.get? a = some o /\ H a = none) -> Heap.SameBut a s.heap h' -> e7 X.prog X.w H h' := fun {a h'} ha hs b ob e => by
  obtain ⟨_, _, vS⟩ := ha
  refine (I.aH b ob e).jA (fun c w' hc q => (hs.2 c ?_).trans q) (fun _ q => q) fun _ _ q => q
  rintro rfl
  rcases hc with rfl | hc
  . rw [vS] at e; cases e
  . rw [vS] at hc; cases hc
 rcases hx with hk | hk
 . refine wpAny_storeName_local hk hn (fun h' Ed hs => ?_) DP
   obtain ⟨oL, _, _, yT, _⟩ := id hn
   refine h _ ⟨I.ok, I.os, I.bare, ⟨fun b o e n hb hx => ?_, fun b o e n hb hx => ?_, I.base.free, fun b o e hx => ?_, I.base.gT, I.base.gf, I.base.iy⟩, ⟨_, Ed, fun j y v' e1 e2 e3 => ?_⟩, fun y c e => ?_, I.free, I.dP, fun p hp => ?_, tracked ⟨oL, yT, I.free⟩ hs, by simpa using I.len⟩ ⟨_, hs, .inl rfl⟩
   . exact (hs.2 b (Nat.ne_of_lt (Nat.lt_of_lt_of_le (Heap.lt_size e) I.ok.above))).trans (I.base.keep b o e n hb hx)
   . obtain ⟨sl, e1⟩ := I.base.slot b o e n hb hx
     exact ⟨sl, (hs.2 b (Nat.ne_of_lt (Nat.lt_of_lt_of_le (Heap.lt_size e) I.ok.above))).trans e1⟩
   . obtain ⟨o', e1⟩ := I.base.there b o e hx
     exact ⟨o', (hs.2 b (Nat.ne_of_lt (Nat.lt_of_lt_of_le (Heap.lt_size e) I.ok.above))).trans e1⟩
   . by_cases hj : j = i
     . subst hj
       rw [hi] at e1; cases e1
       rw [List.getElem?_set_self zM] at e2
       cases e2
       exact ⟨u, r, .inl ⟨hk, by simp⟩⟩
     . rw [List.getElem?_set_ne (Ne.symm hj)] at e2
       obtain ⟨u', r', q⟩ := hl j y v' e1 e2 e3
       refine ⟨u', r', ?_⟩
       rcases q with ⟨k, e⟩ | ⟨k, c, e, z⟩
       . refine .inl ⟨k, ?_⟩
         have : y ≠ x := fun e => hj (mI hN e1 (e ▸ hi))
         simp [this, e]
       . exact .inr ⟨k, c, e, z.sameBut hs (yg y c e)⟩
   . obtain ⟨w', z⟩ := I.cell y c e
     exact ⟨w', z.sameBut hs (yg y c e)⟩
   . obtain ⟨e, n, ne, nf, d⟩ := I.pin p hp
     exact ⟨(hs.2 p.1 ne).trans e, n, ne, nf, d⟩
 . have Dc : X.fn x = true := by
    rcases hf with z | z
    . exact z
    . rw [z] at hk; cases hk
   obtain ⟨c, hc⟩ := I.ok.has x (.inl hk)
   obtain ⟨w', z⟩ := I.cell x c hc
   refine wpAny_storeName_cell I.ok.kind hk hc z (fun h' nL hs => ?_)
   obtain ⟨oc, Ex, DA⟩ := id z
   refine h { s with heap := h' } ⟨I.ok, I.os, I.bare, ⟨fun b o e n hb hx => ?_, fun b o e n hb hx => ?_, I.base.free, fun b o e hx => ?_, I.base.gT, I.base.gf, I.base.iy⟩, ⟨m, hn.sameBut hs (Ne.symm (yg x c hc)), fun j y v' e1 e2 e3 => ?_⟩, fun y c' e => ?_, I.free, I.dP, fun p hp => ?_, tracked ⟨oc, Ex, I.dP x c hc⟩ hs, by simpa using I.len⟩ ⟨c, hs, .inr hc⟩
   . exact (hs.2 b (Nat.ne_of_lt (Nat.lt_of_lt_of_le (Heap.lt_size e) (I.ok.y0 x c Dc hc)))).trans (I.base.keep b o e n hb hx)
   . obtain ⟨sl, e1⟩ := I.base.slot b o e n hb hx
     exact ⟨sl, (hs.2 b (Nat.ne_of_lt (Nat.lt_of_lt_of_le (Heap.lt_size e) (I.ok.y0 x c Dc hc)))).trans e1⟩
   . obtain ⟨o', e1⟩ := I.base.there b o e hx
     exact ⟨o', (hs.2 b (Nat.ne_of_lt (Nat.lt_of_lt_of_le (Heap.lt_size e) (I.ok.y0 x c Dc hc)))).trans e1⟩
   . by_cases hj : j = i
     . subst hj
       rw [hi] at e1; cases e1
       rw [List.getElem?_set_self zM] at e2
       cases e2
       exact ⟨u, r, .inr ⟨.inl hk, c, hc, nL⟩⟩
     . rw [List.getElem?_set_ne (Ne.symm hj)] at e2
       obtain ⟨u', r', q⟩ := hl j y v' e1 e2 e3
       refine ⟨u', r', ?_⟩
       rcases q with q | ⟨k, c', e, z'⟩
       . exact .inl q
       . refine .inr ⟨k, c', e, z'.sameBut hs ?_⟩
         rintro rfl
         exact hj (mI hN e1 (I.ok.inj _ _ _ e hc ▸ hi))
   . by_cases oY : c' = c
     . subst oY; exact ⟨_, nL⟩
     . obtain ⟨w2, z2⟩ := I.cell y c' e
       exact ⟨w2, z2.sameBut hs oY⟩
   . obtain ⟨e, n, ne, nf, d⟩ := I.pin p hp
     refine ⟨(hs.2 p.1 ?_).trans e, n, ne, nf, d⟩
     intro q
     rw [q, Ex] at e
     have q' : oc = p.2 := Option.some.inj e
     exact d w' (by rw [<- q']; exact DA)
theorem mx {M : Model} {A : Around} {E : Value -> Shared -> Prop} {i : Nat} {x : Str} {v : V} {u : Value} {Q : Unit -> Shared -> Prop} (I : Inv X pins σ H s) (hN : X.N.Nodup) (hi : X.N[i]? = some x) (hx : Loc X.env.scope x) (r : RelV v u)
 (h : ∀ s', Inv X pins (σ.set i (some v)) H s' -> Q () s') (hf : X.fn x = true \/ X.env.scope.names.lookup x = some .local := by first | exact .inl rfl | exact .inr rfl | assumption) : wpAny M A (storeName X.env x u) Q E s :=
 qb I hN hi hx r (fun s' I' _ => h s' I') hf
theorem Inv.zm {s' : Shared} {ch : List Addr} (I : Inv X pins σ H s) (ho : s'.os = s.os) (u : Un (mq X.stack) ch H H' s.heap s'.heap) (aH : e7 X.prog X.w H' s'.heap) (hg : AllBare s'.gens)
 (pD : ∀ b ∈ ch, (b ∈ X.ex \/ X.ck.heap.objs.size <= b) /\ b ≠ X.env.locals /\ (∀ x c, X.env.cells.lookup x = some c -> c ≠ b) /\ ∀ p ∈ X.pn ++ pins, p.1 ≠ b) : Inv X pins σ H' s' := by
 obtain ⟨h', g', d', t', o'⟩ := s'
 have e : o' = s.os := ho
 subst e
 exact I.call (g' := g') (t' := t') (d' := d') u aH hg pD
end
abbrev XK := Value -> Option Addr -> Hp -> Prop
abbrev St := List (Option V)
abbrev VK := V -> Hp -> Prop
abbrev TE := St -> Hp -> VK -> Prop
abbrev TT := St -> Hp -> (Bool -> Hp -> Prop) -> Prop
abbrev TA := St -> Hp -> (List V -> Hp -> Prop) -> Prop
structure Ends where
 nx : St -> Hp -> Prop
 rt : VK
 bk : St -> Hp -> Prop := fun _ _ => False
 ct : St -> Hp -> Prop := fun _ _ => False
abbrev TS := Ends -> St -> Hp -> Prop
def EP (X : Cx) (pins : List (Addr × Obj)) (σ : St) (Q : VK) (u : Value) (s' : Shared) : Prop := ∃ v H', Inv X pins σ H' s' /\ RelV v u /\ Q v H'
def TP (X : Cx) (pins : List (Addr × Obj)) (σ : St) (Q : Bool -> Hp -> Prop) (b : Bool) (s' : Shared) : Prop := ∃ H', Inv X pins σ H' s' /\ Q b H'
def AP (X : Cx) (pins : List (Addr × Obj)) (σ : St) (Q : List V -> Hp -> Prop) (us : List Value) (s' : Shared) : Prop := ∃ vs H', Inv X pins σ H' s' /\ Vals vs us /\ Q vs H'
def SP (X : Cx) (pins : List (Addr × Obj)) (D : Ends) (f : Flow) (s' : Shared) : Prop :=
 match f with
 | .next => ∃ σ' H', Inv X pins σ' H' s' /\ D.nx σ' H'
 | .brk => ∃ σ' H', Inv X pins σ' H' s' /\ D.bk σ' H'
 | .cont => ∃ σ' H', Inv X pins σ' H' s' /\ D.ct σ' H'
 | .ret u => ∃ v σ' H', Inv X pins σ' H' s' /\ RelV v u /\ D.rt v H'
def PE (X : Cx) (e : Expr) (t : TE) : Prop :=
 ∀ (pins : List (Addr × Obj)) (s : Shared) (σ : St) (H : Hp) (Q : VK), Inv X pins σ H s -> t σ H Q -> wpAny (model X.prog X.w) X.A (eval e X.env) (EP X pins σ Q) X.xe s
def PT (X : Cx) (e : Expr) (t : TT) : Prop :=
 ∀ (pins : List (Addr × Obj)) (s : Shared) (σ : St) (H : Hp) (Q : Bool -> Hp -> Prop), Inv X pins σ H s -> t σ H Q -> wpAny (model X.prog X.w) X.A (isTrue e X.env (eval e X.env)) (TP X pins σ Q) X.xe s
def PW (X : Cx) (e : Expr) (t : TT) : Prop :=
 ∀ (whole : Sem Value) (pins : List (Addr × Obj)) (s : Shared) (σ : St) (H : Hp) (Q : Bool -> Hp -> Prop), Inv X pins σ H s -> t σ H Q -> wpAny (model X.prog X.w) X.A (isTrue e X.env whole) (TP X pins σ Q) X.xe s
theorem PW.pt {X : Cx} {e : Expr} {t : TT} (h : PW X e t) : PT X e t := h _
def PA (X : Cx) (es : List Expr) (t : TA) : Prop :=
 ∀ (pos : Pos) (pins : List (Addr × Obj)) (s : Shared) (σ : St) (H : Hp) (Q : List V -> Hp -> Prop), Inv X pins σ H s -> t σ H Q -> wpAny (model X.prog X.w) X.A (spliced (backTo pos (starEach es X.env))) (AP X pins σ Q) X.xe s
def PS (X : Cx) (st : Stmt) (t : TS) : Prop :=
 ∀ (pins : List (Addr × Obj)) (s : Shared) (σ : St) (H : Hp) (D : Ends), Inv X pins σ H s -> t D σ H -> wpAny (model X.prog X.w) X.A (exec st X.env) (SP X pins D) X.xe s
def nD (X : Cx) (st : List Stmt) (t : TS) : Prop :=
 ∀ (pins : List (Addr × Obj)) (s : Shared) (σ : St) (H : Hp) (D : Ends), Inv X pins σ H s -> t D σ H -> wpAny (model X.prog X.w) X.A (execs st X.env) (SP X pins D) X.xe s
theorem bH {α : Type} {t : Sem α} {Q Q' : α -> Shared -> Prop} {M : Model} {A : Around} {E : Value -> Shared -> Prop} {s : Shared} (h : wpAny M A t Q E s) (hQ : ∀ a s, Q a s -> Q' a s) : wpAny M A t Q' E s := wpAny_mono h hQ fun _ _ x => x
section
variable {X : Cx}
def wq (i : Nat) : TE := fun σ H Q => ∃ v, σ[i]? = some (some v) /\ Q v H
def tC (v : V) : TE := fun _ H Q => Q v H
theorem wY {i : Nat} {x : Str} {pos : Pos} (hN : X.N[i]? = some x) (hv : y7 X.env.scope x) (hd : (x == ("__debug__" : Str)) = false := by decide) (j2 : (x == ("__classdict__" : Str)) = false := by decide) : PE X (.Name x pos) (wq i) := by
 intro pins s σ H Q I h
 obtain ⟨v, e, h⟩ := h
 obtain ⟨m, hn, hl⟩ := I.loc
 obtain ⟨u, r, l⟩ := hl i x v hN e hv
 have fin : EP X pins σ Q u s := ⟨v, H, I, r, h⟩
 rcases l with ⟨hk, hm⟩ | ⟨hk, c, hc, ki⟩
 . exact wpAny_Name (wpAny_loadName_local I.ok.kind hk hn hm fin) hd
 . rcases hk with hk | hk
   . exact wpAny_Name (wpAny_loadName_cell I.ok.kind hk hc ki fin) hd
   . exact wpAny_Name (wpAny_loadName_free I.ok.kind hk hc ki fin j2) hd
theorem aE {i j pos} : PE X (.Constant (.int i) j pos) (tC (.int i)) := fun _ _ _ H _ I h => wpAny_Constant_int ⟨.int i, H, I.tok _, ⟨_, rfl⟩, h⟩
theorem dF {b j pos} : PE X (.Constant (.bool b) j pos) (tC (.bl b)) := fun _ _ _ H _ I h => Constant_bool ⟨.bl b, H, I, rfl, h⟩
theorem gG {j pos} : PE X (.Constant .none j pos) (tC .aO) := fun _ _ _ H _ I h => Constant_none ⟨.aO, H, I, rfl, h⟩
theorem kL {x j pos} : PE X (.Constant (.str x) j pos) (tC (.str x)) := fun _ _ _ H _ I h => Calls.Constant_str ⟨.str x, H, I.tok _, ⟨_, rfl⟩, h⟩
def Gl (X : Cx) (x : Str) : Prop := X.env.kindOf x = some .globalImplicit
theorem kG {E : Value -> Shared -> Prop} {pins : List (Addr × Obj)} {s : Shared} {σ : St} {H : Hp} {x : Str} {u : Value} {pos : Pos} {Q : Value -> Shared -> Prop} (I : Inv X pins σ H s) (hg : Gl X x) (hm : X.mg x = some u) (h : Q u s)
 (hd : (x == ("__debug__" : Str)) = false := by decide) : wpAny (model X.prog X.w) X.A (eval (.Name x pos) X.env) Q E s :=
 Calls.Name_function_global I.ok.kind hg (Calls.loadGlobal_global (by rw [I.ok.glob]; exact I.mod.glob.keeps I.bk) hm h) hd
theorem ip {E : Value -> Shared -> Prop} {pins : List (Addr × Obj)} {s : Shared} {σ : St} {H : Hp} {x : Str} {u : Value} {pos : Pos} {Q : Value -> Shared -> Prop} (I : Inv X pins σ H s) (hg : Gl X x) (hm : X.mg x = none) (hv : bootBuiltins x = some u) (h : Q u s)
 (hn : x ≠ "__name__" := by decide) (hd : (x == ("__debug__" : Str)) = false := by decide) : wpAny (model X.prog X.w) X.A (eval (.Name x pos) X.env) Q E s := by
 obtain ⟨mb, h1, h2⟩ := I.mod.blt
 exact Calls.Name_function_global I.ok.kind hg (Calls.loadGlobal_builtin (by rw [I.ok.glob]; exact I.mod.glob.keeps I.bk) hm (by rw [I.ok.blt]; exact h1.keeps I.bk) ((h2 x hn).trans hv) h) hd
theorem uw {x : Str} {v : V} {u : Value} {pos : Pos} (hg : Gl X x) (hm : X.mg x = some u) (r : RelV v u) (hd : (x == ("__debug__" : Str)) = false := by decide) : PE X (.Name x pos) (tC v) :=
 fun _ _ _ H _ I h => kG I hg hm ⟨v, H, I, r, h⟩ hd
theorem iW {x : Str} {v : V} {u : Value} {pos : Pos} (hg : Gl X x) (hm : X.mg x = none) (hv : bootBuiltins x = some u) (r : RelV v u) (hn : x ≠ "__name__" := by decide) (hd : (x == ("__debug__" : Str)) = false := by decide) : PE X (.Name x pos) (tC v) :=
 fun _ _ _ H _ I h => ip I hg hm hv ⟨v, H, I, r, h⟩ hn hd
variable {a b : Expr} {ta tb : TE} {pos : Pos}
def PC (X : Cx) (op : CmpOp) (a b : Expr) (t : TE) : Prop :=
 ∀ (pins : List (Addr × Obj)) (s : Shared) (σ : St) (H : Hp) (Q : VK), Inv X pins σ H s -> t σ H Q ->
   wpAny (model X.prog X.w) X.A (eval a X.env) (fun v s₁ => wpAny (model X.prog X.w) X.A (eval b X.env) (fun u s₂ => wpAny (model X.prog X.w) X.A (compareOp op v u) (EP X pins σ Q) X.xe s₂) X.xe s₁) X.xe s
def tB (t : TE) : TT := fun σ H Q => t σ H fun x H1 => ∃ c, x = .bl c /\ Q c H1
theorem qN {op : CmpOp} {t : TE} (h : PC X op a b t) (h1 : behindInMarks op b = false := by first | exact sr _ (by decide) (by decide) | rfl) : PE X (.Compare a [op] [b] pos) t := fun pins s σ H Q I hw => wpAny_Compare1 (h pins s σ H Q I hw) h1
theorem nN {op : CmpOp} {t : TE} (h : PC X op a b t) (h1 : behindInMarks op b = false := by first | exact sr _ (by decide) (by decide) | rfl) : PT X (.Compare a [op] [b] pos) (tB t) := by
 intro pins s σ H Q I hw
 refine wpAny_isTrue_Compare1 (bH (h pins s σ H _ I hw) fun v s1 h1 => bH h1 fun u s2 h2 => bH h2 fun c s3 ⟨x, H1, I1, r1, q1⟩ => ?_) h1
 obtain ⟨d, rfl, q⟩ := q1
 cases r1
 exact wpAny_truthy_bool ⟨H1, I1, q⟩
variable {tA B9 : TT} {rest : List Expr}
def zE (t u : TT) : TT := fun σ H Q => t σ H fun c H1 => if c = true then u σ H1 Q else Q false H1
def Fp (t u : TT) : TT := fun σ H Q => t σ H fun c H1 => if c = true then Q true H1 else u σ H1 Q
def zc (t : TT) : TT := fun σ H Q => t σ H fun c H1 => Q (!c) H1
theorem o7 (ha : PT X a tA) : PW X (.BoolOp .And [a] pos) tA := by
 intro wh pins s σ H Q I h
 refine isTrue_and (bH (ha pins s σ H Q I h) fun c s1 e => ?_)
 cases c with
 | true => exact isTrue_and_nil e
 | false => exact e
theorem gE (ha : PT X a tA) : PW X (.BoolOp .Or [a] pos) tA := by
 intro wh pins s σ H Q I h
 refine isTrue_or (bH (ha pins s σ H Q I h) fun c s1 e => ?_)
 cases c with
 | false => exact isTrue_or_nil e
 | true => exact e
theorem sj (ha : PT X a tA) (hb : PW X (.BoolOp .And (b :: rest) pos) B9) : PW X (.BoolOp .And (a :: b :: rest) pos) (zE tA B9) := by
 intro wh pins s σ H Q I h
 refine isTrue_and (bH (ha pins s σ H _ I h) fun c s1 ⟨H1, I1, q1⟩ => ?_)
 cases c with
 | true => exact hb wh pins s1 σ H1 Q I1 q1
 | false => exact ⟨H1, I1, q1⟩
theorem gR (ha : PT X a tA) (hb : PW X (.BoolOp .Or (b :: rest) pos) B9) : PW X (.BoolOp .Or (a :: b :: rest) pos) (Fp tA B9) := by
 intro wh pins s σ H Q I h
 refine isTrue_or (bH (ha pins s σ H _ I h) fun c s1 ⟨H1, I1, q1⟩ => ?_)
 cases c with
 | true => exact ⟨H1, I1, q1⟩
 | false => exact hb wh pins s1 σ H1 Q I1 q1
theorem gK (ha : PT X a tA) : PT X (.UnaryOp .Not a pos) (zc tA) := by
 intro pins s σ H Q I h
 exact isTrue_not (ha pins s σ H (fun c H1 => Q (!c) H1) I h)
def vR (ta tb : TE) : TE := fun σ H Q => ta σ H fun x H1 => ∃ c, x = .bl c /\ if c = true then tb σ H1 Q else Q (.bl false) H1
def wd (ta : TE) : TE := fun σ H Q => ta σ H fun x H1 => ∃ c, x = .bl c /\ Q (.bl (!c)) H1
theorem yI {op} {t : TE} (h : PE X a t) : PE X (.BoolOp op [a] pos) t := fun pins s σ H Q I hw => BoolOp_one (h pins s σ H Q I hw)
theorem wU (ha : PE X a ta) (hb : PE X (.BoolOp .And (b :: rest) pos) tb) : PE X (.BoolOp .And (a :: b :: rest) pos) (vR ta tb) := by
 intro pins s σ H Q I h
 refine BoolOp_and (bH (ha pins s σ H _ I h) fun v s1 ⟨x, H1, I1, r1, q1⟩ => ?_)
 obtain ⟨c, rfl, q1⟩ := q1
 cases r1
 refine wpAny_truthy_bool ?_
 cases c with
 | true => exact hb pins s1 σ H1 Q I1 q1
 | false => exact ⟨.bl false, H1, I1, rfl, q1⟩
theorem xZ (ha : PE X a ta) : PE X (.UnaryOp .Not a pos) (wd ta) := by
 intro pins s σ H Q I h
 refine UnaryOp_ (bH (ha pins s σ H _ I h) fun v s1 ⟨x, H1, I1, r1, q1⟩ => ?_)
 obtain ⟨c, rfl, q1⟩ := q1
 cases r1
 exact not_of (wpAny_truthy_bool ⟨.bl (!c), H1, I1, rfl, q1⟩)
end
def c6 (K : PySem.W.Frag) (H : Hp) (a : Addr) (xs : List V) : Prop :=
 Rd H a (.lst xs) \/
  ∃ (o : Obj) (aR : Array Value) (n : Nat), K.lookup a = some o /\ o.cls = .type "list" /\ o.dict = none /\ o.data = .seq aR n /\ aR.size <= sizeLine /\ Vals xs aR.toList
def oo (K : PySem.W.Frag) (H : Hp) (a : Addr) (xs : List V) : Prop :=
 Rd H a (.tup xs) \/
  ∃ (o : Obj) (aR : Array Value) (n : Nat), K.lookup a = some o /\ o.cls = .type "tuple" /\ o.data = .seq aR n /\ aR.size <= sizeLine /\ Vals xs aR.toList
def C9 : Value -> Option V
 | .none => some .aO
 | .bool b => some (.bl b)
 | .int i _ => some (.int i)
 | .str x _ => some (.str x)
 | .bytes b _ => some (.oS b)
 | .float b _ => some (.xK b)
 | .ref a => some (.ref a)
 | .type n => some (.ty n)
 | _ => none
theorem RelV.abs {x : V} {u : Value} (r : RelV x u) : C9 u = some x := by
 cases x with
 | aO => cases r; rfl
 | bl _ => cases r; rfl
 | int _ => obtain ⟨t, rfl⟩ := r; rfl
 | str _ => obtain ⟨t, rfl⟩ := r; rfl
 | oS _ => obtain ⟨t, rfl⟩ := r; rfl
 | xK _ => obtain ⟨t, rfl⟩ := r; rfl
 | ref _ => cases r; rfl
 | ty _ => cases r; rfl
theorem RelV.inj {x y : V} {u : Value} (r : RelV x u) (q : RelV y u) : x = y := Option.some.inj (r.abs.symm.trans q.abs)
theorem Vals.inj : ∀ {xs ys : List V} {us : List Value}, Vals xs us -> Vals ys us -> xs = ys
 | _, _, _, .nil, .nil => rfl
 | _, _, _, .cons r t, .cons r' t' => by rw [r.inj r', Vals.inj t t']
section
variable {X : Cx} {pins : List (Addr × Obj)} {σ : St} {H : Hp} {s : Shared} {a : Addr} {xs ys : List V}
theorem c6.of {K : PySem.W.Frag} (h : H a = some (.lst xs)) : c6 K H a xs := .inl (.inl h)
theorem oo.of {K : PySem.W.Frag} (h : H a = some (.tup xs)) : oo K H a xs := .inl (.inl h)
theorem Inv.list (I : Inv X pins σ H s) (h : c6 X.K H a xs) : ∃ aR : List Value, Vals xs aR /\ PlainL s.heap a aR.toArray /\ xs.length <= sizeLine := by
 rcases h with h | ⟨o, aR, n, hk, hc, hd, hs, hz, r⟩
 . obtain ⟨z, aR, n, r, e⟩ := h.ok I.aH
   exact ⟨aR, r, ⟨_, n, e, rfl, rfl, rfl⟩, z⟩
 . refine ⟨aR.toList, r, ⟨o, n, I.iN a o hk, hc, hd, by simpa using hs⟩, ?_⟩
   have e := r.length
   simp only [Array.length_toList] at e
   omega
theorem Inv.tuple (I : Inv X pins σ H s) (h : oo X.K H a xs) : ∃ aR : List Value, Vals xs aR /\ IsTup s.heap a aR.toArray /\ xs.length <= sizeLine := by
 rcases h with h | ⟨o, aR, n, hk, hc, hs, hz, r⟩
 . obtain ⟨z, aR, r, p⟩ := h.ok I.aH
   exact ⟨aR, r, p, z⟩
 . refine ⟨aR.toList, r, ⟨o, I.iN a o hk, hc, n, by simpa using hs⟩, ?_⟩
   have e := r.length
   simp only [Array.length_toList] at e
   omega
theorem Inv.lK (I : Inv X pins σ H s) (h : c6 X.K H a xs) (h' : c6 X.K H a ys) : xs = ys := by
 obtain ⟨aR, r, ⟨o, n, e, _, _, d⟩, _⟩ := I.list h
 obtain ⟨its', r', ⟨o', n', e', _, _, d'⟩, _⟩ := I.list h'
 rw [e] at e'; cases e'
 rw [d] at d'
 injection d' with d1 _
 have : aR = its' := by simpa using congrArg Array.toList d1
 subst this
 exact r.inj r'
end
abbrev Cx.jU (X : Cx) (E : Value -> Shared -> Prop) : Cx := { X with xe := E }
abbrev Cx.yV (X : Cx) : Cx := X.jU fun _ _ => False
theorem Cx.Ok.jU {X : Cx} (ok : X.Ok) (E : Value -> Shared -> Prop) : (X.jU E).Ok :=
 ⟨ok.mod, ok.kind, ok.glob, ok.blt, ok.above, ok.inj, ok.has, ok.y0, ok.hd, ok.frames, ok.zp, ok.A1, ok.bs, ok.qx, ok.pH, ok.p9, ok.gH, ok.tK⟩
theorem Cx.Ok.fT {X : Cx} {E : Value -> Shared -> Prop} (ok : (X.jU E).Ok) : X.Ok :=
 ⟨ok.mod, ok.kind, ok.glob, ok.blt, ok.above, ok.inj, ok.has, ok.y0, ok.hd, ok.frames, ok.zp, ok.A1, ok.bs, ok.qx, ok.pH, ok.p9, ok.gH, ok.tK⟩
section
variable {X : Cx} {pins : List (Addr × Obj)} {σ : St} {H : Hp} {s : Shared} {E : Value -> Shared -> Prop}
theorem Inv.jU (I : Inv X pins σ H s) (E : Value -> Shared -> Prop) : Inv (X.jU E) pins σ H s := ⟨I.ok.jU E, I.os, I.bare, I.base, I.loc, I.cell, I.free, I.dP, I.pin, I.aH, I.len⟩
theorem Inv.fT (I : Inv (X.jU E) pins σ H s) : Inv X pins σ H s := ⟨I.ok.fT, I.os, I.bare, I.base, I.loc, I.cell, I.free, I.dP, I.pin, I.aH, I.len⟩
theorem SP.fT {D : Ends} {f : Flow} {s' : Shared} (h : SP (X.jU E) pins D f s') : SP X pins D f s' := by
 cases f with
 | next => obtain ⟨σ', H', I, q⟩ := h; exact ⟨σ', H', I.fT, q⟩
 | brk => obtain ⟨σ', H', I, q⟩ := h; exact ⟨σ', H', I.fT, q⟩
 | cont => obtain ⟨σ', H', I, q⟩ := h; exact ⟨σ', H', I.fT, q⟩
 | ret u => obtain ⟨v, σ', H', I, r, q⟩ := h; exact ⟨v, σ', H', I.fT, r, q⟩
theorem nD.yV {st : List Stmt} {t : TS} (h : nD X.yV st t) : nD X st t := fun pins s σ H D I hw =>
 wpAny_mono (h pins s σ H D (I.jU _) hw) (fun _ _ q => q.fT) fun _ _ z => False.elim z
end
section
variable {X : Cx} {st : Stmt} {rest : List Stmt} {t u : TS} {e : Expr} {te : TE} {pos : Pos}
def wa : TS := fun D σ H => D.nx σ H
theorem aY : nD X [] wa := fun _ _ σ H _ I h => wpAny_execs_nil ⟨σ, H, I, h⟩
theorem au (h1 : PS X st t) : nD X [st] t := by
 intro pins s σ H D I h
 refine wpAny_execs_cons (bH (h1 pins s σ H D I h) fun f s1 q => ?_)
 cases f with
 | next => exact wpAny_execs_nil q
 | ret v => exact q
 | brk => exact q
 | cont => exact q
theorem Inv.quiet {pins : List (Addr × Obj)} {σ : St} {H : Hp} {s : Shared} (I : Inv X pins σ H s) : interactive X.env = false := by simp [interactive, I.ok.kind]
def vO (te : TE) : TS := fun D σ H => te σ H fun _ H1 => D.nx σ H1
theorem dC (he : PE X e te) (hs : swapsWith e none pos.line X.env = pure false := by rfl) : PS X (.Expr e pos) (vO te) := by
 intro pins s σ H D I h
 exact wpAny_Expr_any (bH (he pins s σ H _ I h) fun v s1 ⟨x, H1, I1, r1, q1⟩ => ⟨σ, H1, I1, q1⟩) I.quiet hs
def A2 (te : TE) : TS := fun D σ H => te σ H D.rt
theorem aK (he : PE X e te) : PS X (.Return (some e) pos) (A2 te) := by
 intro pins s σ H D I h
 exact wpAny_Return_some (bH (he pins s σ H _ I h) fun v s1 ⟨x, H1, I1, r1, q1⟩ => ⟨x, σ, H1, I1, r1, q1⟩)
def AG (c : TT) (t u : TS) : TS := fun D σ H => c σ H fun b H1 => if b = true then t D σ H1 else u D σ H1
theorem cb {c : Expr} {a b : List Stmt} {tc : TT} (hc : PT X c tc) (ha : nD X a t) (hb : nD X b u) : PS X (.If c a b pos) (AG tc t u) := by
 intro pins s σ H D I h
 refine wpAny_If (bH (hc pins s σ H _ I h) fun d s1 ⟨H1, I1, q1⟩ => ?_)
 cases d with
 | true => exact ha pins s1 σ H1 D I1 q1
 | false => exact hb pins s1 σ H1 D I1 q1
def wu : TS := fun _ _ _ => False
theorem jv : PS X st wu := fun _ _ _ _ _ _ h => h.elim
end
abbrev TG := V -> St -> Hp -> (St -> Hp -> Prop) -> Prop
abbrev yK := List V -> St -> Hp -> (St -> Hp -> Prop) -> Prop
def PG (X : Cx) (target : Expr) (t : TG) : Prop :=
 ∀ (pins : List (Addr × Obj)) (s : Shared) (σ : St) (H : Hp) (v : V) (u : Value) (Q : St -> Hp -> Prop), Inv X pins σ H s -> RelV v u -> t v σ H Q ->
   wpAny (model X.prog X.w) X.A (assign target X.env u) (fun _ s' => ∃ σ' H', Inv X pins σ' H' s' /\ Q σ' H') X.xe s
def BZ (X : Cx) (ts : List Expr) (t : yK) : Prop :=
 ∀ (pins : List (Addr × Obj)) (s : Shared) (σ : St) (H : Hp) (vs : List V) (us : List Value) (Q : St -> Hp -> Prop), Inv X pins σ H s -> Vals vs us -> t vs σ H Q ->
   wpAny (model X.prog X.w) X.A (assignInOrder ((assignEach ts X.env).map (·.2)) us) (fun _ s' => ∃ σ' H', Inv X pins σ' H' s' /\ Q σ' H') X.xe s
section
variable {X : Cx} {pos : Pos}
def iE (i : Nat) : TG := fun v σ H Q => Q (σ.set i (some v)) H
theorem du {i : Nat} {x : Str} (hN : X.N.Nodup) (hi : X.N[i]? = some x) (hx : Loc X.env.scope x) (hf : X.fn x = true \/ X.env.scope.names.lookup x = some .local := by first | exact .inl rfl | exact .inr rfl | assumption) : PG X (.Name x pos) (iE i) := by
 intro pins s σ H v u Q I r h
 exact wpAny_assign_Name (mx I hN hi hx r (fun s' I' => ⟨_, H, I', h⟩) hf)
def Bg : yK := fun vs σ H Q => vs = [] /\ Q σ H
def sN (t : TG) (u : yK) : yK := fun vs σ H Q => ∃ v r, vs = v :: r /\ t v σ H fun σ' H' => u r σ' H' Q
theorem uJ : BZ X [] Bg := by
 intro pins s σ H vs us Q I r h
 obtain ⟨e, h⟩ := h
 subst e
 cases r
 exact assignInOrder_nil ⟨σ, H, I, h⟩
theorem mj {e : Expr} {es : List Expr} {t : TG} {u : yK} (h1 : PG X e t) (h2 : BZ X es u)
 (hs : (assignEach (e :: es) X.env).map (·.2) = assign e X.env :: (assignEach es X.env).map (·.2) := by rfl) : BZ X (e :: es) (sN t u) := by
 intro pins s σ H vs us Q I r h
 obtain ⟨v, vr, e1, h⟩ := h
 subst e1
 cases r with
 | cons r rr =>
   rw [hs]
   refine assignInOrder_cons (bH (h1 pins s σ H _ _ _ I r h) fun _ s1 ⟨σ1, H1, I1, q1⟩ => ?_)
   exact h2 pins s1 σ1 H1 _ _ Q I1 rr q1
def zZ (K : PySem.W.Frag) (n : Nat) (t : yK) : TG := fun v σ H Q => ∃ a xs, v = .ref a /\ oo K H a xs /\ xs.length = n /\ t xs σ H Q
theorem wt {es : List Expr} {k : Nat} {t : yK} {n : Nat} (hc : X.calm = true) (h : BZ X es t)
 (hn : (assignEach es X.env).length = n := by rfl) (i5 : (assignEach es X.env).findIdx? (·.1) = none := by rfl) : PG X (.Tuple es k pos) (zZ X.K n t) := by
 intro pins s σ H v u Q I r hw
 obtain ⟨a, xs, e1, hq, hl, hw⟩ := hw
 subst e1
 cases r
 obtain ⟨aR, rv, ht, hz⟩ := I.tuple hq
 refine assign_Tuple_tuple (I.ok.hd hc) ht (by simp [hn, <- hl, rv.length]) i5 fun h' hx => ?_
 have I1 : Inv X pins σ H { s with heap := h' } := I.kept (t' := s.toks) fun b o e => hx b o (Nat.ne_of_lt (Heap.lt_size e)) e
 exact h pins _ σ H xs _ Q I1 (by simpa using rv) hw
def Bb (te : TE) (g : TG) : TS := fun D σ H => te σ H fun x H1 => g x σ H1 D.nx
theorem bA {i : Nat} {x : Str} {e : Expr} {te : TE} {pos' : Pos} (hN : X.N.Nodup) (hi : X.N[i]? = some x) (hx : Loc X.env.scope x) (he : PE X e te) (hs : swapsWith e (some (.Name x pos')) pos.line X.env = pure false := by rfl) (hf : X.fn x = true \/ X.env.scope.names.lookup x = some .local := by first | exact .inl rfl | exact .inr rfl | assumption) :
 PS X (.Assign [.Name x pos'] e pos) (Bb te (iE i)) := by
 intro pins s σ H D I h
 refine wpAny_Assign_Name (bH (he pins s σ H _ I h) fun v s1 ⟨y, H1, I1, r1, q1⟩ => ?_) hs
 exact mx I1 hN hi hx r1 (fun s2 I2 => ⟨_, H1, I2, q1⟩) hf
end
section
variable {X : Cx} {pos : Pos}
def sR (c : TT) (tb : TS) : TS := fun D σ H => ∃ W : Nat -> St -> Hp -> Prop, (∃ m, W m σ H) /\ ∀ m σ H, W m σ H ->
 c σ H fun b H1 => if b = true then ∃ N : St -> Hp -> Prop, (∀ σ' H', N σ' H' -> ∃ m', m' < m /\ W m' σ' H') /\ tb { D with nx := N, ct := N, bk := D.nx } σ H1 else D.nx σ H1
theorem lD {c : Expr} {body : List Stmt} {tc : TT} {tb : TS} (hp : PassesOwn (model X.prog X.w) X.A X.env X.xe) (hc : PT X c tc) (hb : nD X body tb) : PS X (.While c body [] pos) (sR tc tb) := by
 intro pins s σ H D I h
 obtain ⟨W, ⟨m0, w0⟩, turn⟩ := h
 refine wpAny_While (codeAny_whileLoop (fun n s' => ∃ σ' H', Inv X pins σ' H' s' /\ W n σ' H') ?_ m0 ⟨σ, H, I, w0⟩)
 rintro n s1 ⟨σ1, H1, I1, w1⟩
 refine wpAny_passesOwn hp (bH (hc pins s1 σ1 H1 _ I1 (turn n σ1 H1 w1)) fun b s2 ⟨H2, I2, q2⟩ => ?_)
 cases b with
 | true =>
   obtain ⟨N, hN, q2⟩ := q2
   rw [if_pos rfl]
   refine wpAny_passesOwn hp (bH (hb pins s2 σ1 H2 _ I2 q2) fun f s3 q3 => ?_)
   cases f with
   | next =>
     obtain ⟨σ3, H3, I3, n3⟩ := q3
     obtain ⟨m', hm, w3⟩ := hN σ3 H3 n3
     exact ⟨m', hm, σ3, H3, I3, w3⟩
   | cont =>
     obtain ⟨σ3, H3, I3, n3⟩ := q3
     obtain ⟨m', hm, w3⟩ := hN σ3 H3 n3
     exact ⟨m', hm, σ3, H3, I3, w3⟩
   | brk => exact q3
   | ret v => exact q3
 | false =>
   rw [if_neg Bool.false_ne_true]
   exact wpAny_execs_nil ⟨σ1, H2, I2, q2⟩
end
structure It where
 go : Nat -> Hp -> Prop
 uY : Nat -> Hp -> V -> Hp -> Prop
 stop : Nat -> Hp -> Prop
def cZ (X : Cx) (pins : List (Addr × Obj)) (H : Hp) (b : Addr) : Prop :=
 H b = none /\ b ≠ X.env.locals /\ b ∉ X.fs /\ (b ∈ X.ex \/ X.ck.heap.objs.size <= b) /\ (∀ x c, X.env.cells.lookup x = some c -> c ≠ b) /\ ∀ p ∈ X.pn ++ pins, p.1 ≠ b
theorem Inv.k4 {X : Cx} {pins : List (Addr × Obj)} {σ : St} {H H' : Hp} {s : Shared} {b : Addr} (I : Inv X pins σ H s) (hb : s.heap.objs.size <= b) (hn : H' b = none) : cZ X pins H' b := by
 refine ⟨hn, Nat.ne_of_gt (Nat.lt_of_lt_of_le I.lt hb), I.Aq hb, .inr (Nat.le_trans I.sz hb), fun x c e z => ?_, fun p hp z => ?_⟩
 . obtain ⟨v, q⟩ := I.cell x c e
   exact absurd (Nat.lt_of_lt_of_le q.lt (by rw [z]; exact hb)) (Nat.lt_irrefl _)
 . exact absurd (Nat.lt_of_lt_of_le (Heap.lt_size (I.pin p hp).1) (by rw [z]; exact hb)) (Nat.lt_irrefl _)
structure Turn (P : Program) (w : World) (K : PySem.W.Frag) (tg : Expr) (J : It) (fp : List Addr) (it : Addr) (tn : Nat -> Heap -> Prop) : Prop where
 mem : it ∈ fp
 obj : ∀ i h, tn i h -> ∀ b ∈ fp, ∃ o, h.get? b = some o /\ ∀ v, o.data ≠ .cell v
 keep : ∀ i h h', tn i h -> (∀ b ∈ fp, ∀ o, h.get? b = some o -> h'.get? b = some o) -> tn i h'
 item : ∀ (X : Cx), X.prog = P -> X.w = w -> X.K = K -> X.calm = true -> ∀ (i : Nat) (pins : List (Addr × Obj)) (s : Shared) (σ : St) (H : Hp) (E : Value -> Shared -> Prop), Inv X pins σ H s -> (∀ b ∈ fp, cZ X pins H b) -> tn i s.heap -> J.go i H ->
  wpAny (model P w) X.A (pyNext (.ref it)) (fun r s1 => ∃ u, r = some u /\
   wpAny (model P w) X.A (letOwnedTupleGo tg (.ref it) u) (fun _ s2 => ∃ x H', Inv X pins σ H' s2 /\ RelV x u /\ J.uY i H x H' /\ tn (i + 1) s2.heap /\ ∀ b ∈ fp, H' b = none) E s1) E s
 done : ∀ (X : Cx), X.prog = P -> X.w = w -> X.K = K -> X.calm = true -> ∀ (i : Nat) (pins : List (Addr × Obj)) (s : Shared) (σ : St) (H : Hp) (E : Value -> Shared -> Prop), Inv X pins σ H s -> (∀ b ∈ fp, cZ X pins H b) -> tn i s.heap -> J.stop i H ->
  wpAny (model P w) X.A (pyNext (.ref it)) (fun r s1 => r = none /\ Inv X pins σ H s1) E s
 self : ∀ (A : Around) (i : Nat) (s : Shared) (Q : Value -> Shared -> Prop) (E : Value -> Shared -> Prop), tn i s.heap -> Q (.ref it) s -> wpAny (model P w) A (pyIter (.ref it)) Q E s
abbrev TI := St -> Hp -> (It -> Hp -> Prop) -> Prop
def Ey (X : Cx) (pins : List (Addr × Obj)) (σ : St) (tg : Expr) (R : It -> Hp -> Prop) (CQ : Value) (s2 : Shared) : Prop :=
 ∃ (it : Addr) (fp : List Addr) (tn : Nat -> Heap -> Prop) (J : It) (H' : Hp), CQ = .ref it /\ Inv X pins σ H' s2 /\ Turn X.prog X.w X.K tg J fp it tn /\ tn 0 s2.heap /\ (∀ b ∈ fp, cZ X pins H' b) /\ R J H'
def PI (X : Cx) (tg iter : Expr) (wi : TI) : Prop :=
 ∀ (pins : List (Addr × Obj)) (s : Shared) (σ : St) (H : Hp) (R : It -> Hp -> Prop), Inv X pins σ H s -> wi σ H R ->
   wpAny (model X.prog X.w) X.A (eval iter X.env) (fun v s1 => wpAny (model X.prog X.w) X.A (pyIter v) (Ey X pins σ tg R) X.xe s1) X.xe s
theorem qR {M : Model} {A : Around} {E : Value -> Shared -> Prop} {s : Shared} {tg : Expr} {it : Addr} {u : Value} {o : Obj} {n : String} {vs : Array Value} {Q : Unit -> Shared -> Prop} (ho : s.heap.get? it = some o) (hc : o.cls = .type n) (hd : o.data = .fields vs)
 (hn : ["enumerate", "zip", "dict_itemiterator", "dict_reverseitemiterator", "odict_iterator", "itertools.zip_longest", "itertools.pairwise"].contains n = false) (hQ : Q () s) : wpAny M A (letOwnedTupleGo tg (.ref it) u) Q E s := by
 unfold letOwnedTupleGo
 cases tg <;> first
  | exact wpAny_pure hQ
  | (cases u <;> first
   | exact wpAny_pure hQ
   | (refine wpAny_bind (wpAny_load ho ?_)
      rw [hc, hd]
      show wpAny M A (if (["enumerate", "zip", "dict_itemiterator", "dict_reverseitemiterator", "odict_iterator", "itertools.zip_longest", "itertools.pairwise"].contains n && vs[0]? == some (rawInt _)) = true then _ else _) Q E s
      rw [if_neg (by intro h; rw [hn, Bool.false_and] at h; cases h)]
      exact wpAny_pure hQ))
def tJ (K : PySem.W.Frag) (a : Addr) : It :=
 ⟨fun i H => ∃ xs x, c6 K H a xs /\ xs[i]? = some x, fun i H x H' => H' = H /\ ∀ xs, c6 K H a xs -> xs[i]? = some x, fun i H => ∃ xs, c6 K H a xs /\ xs.length <= i⟩
def uf (lo : Int) (n : Nat) : It := ⟨fun i _ => i < n, fun i H x H' => H' = H /\ x = .int (lo + i), fun i _ => n <= i⟩
theorem pz {P : Program} {w : World} {K : PySem.W.Frag} {tg : Expr} (a it : Addr) : Turn P w K tg (tJ K a) [it] it (fun i h => h.IsListIter it a i) where
 mem := by simp
 obj := fun i h st b hb => by
  have e : b = it := by simpa using hb
  subst e
  obtain ⟨o, e, c, d⟩ := st
  exact ⟨o, e, fun v z => by rw [d] at z; cases z⟩
 keep := fun i h h' st k => st.at fun o e => k it (by simp) o e
 item := by
  intro X hP hw hK hc i pins s σ H E I hf st hg
  subst hP hw hK
  obtain ⟨xs, x, hq, hx⟩ := hg
  obtain ⟨aR, rv, p, hz⟩ := I.list hq
  obtain ⟨u, hu, ru⟩ := rv.get hx
  obtain ⟨f0, f1, f2, f3, f4, f5⟩ := hf it (by simp)
  refine wpAny_pyNext_list_item st p.isList (x := u) (by simpa using hu) fun h' qy sb => ?_
  have I1 : Inv X pins σ H { s with heap := h' } := I.turned (t' := s.toks) (fun b o hb e => (sb.2 b hb).trans e) f0 f1 f3 f4 f5
  obtain ⟨o, e, c, d⟩ := id qy
  exact ⟨u, rfl, qR (s := { s with heap := h' }) e c d (by decide) ⟨x, H, I1, ru, ⟨rfl, fun ys hy => by rw [I.lK hy hq]; exact hx⟩, qy, fun b hb => (hf b hb).1⟩⟩
 done := by
  intro X hP hw hK hc i pins s σ H E I hf st hg
  subst hP hw hK
  obtain ⟨xs, hq, hx⟩ := hg
  obtain ⟨aR, rv, p, hz⟩ := I.list hq
  obtain ⟨f0, f1, f2, f3, f4, f5⟩ := hf it (by simp)
  have hl := rv.length
  exact wpAny_pyNext_list_end (I.ok.hd hc) st p.isList (by simp; omega) fun h' eb => ⟨rfl, I.turned (t' := s.toks) (fun b o hb e => eb b o hb e) f0 f1 f3 f4 f5⟩
 self := fun _ _ _ _ _ st h => wpAny_pyIter_listiter st h
theorem nH {P : Program} {w : World} {K : PySem.W.Frag} {tg : Expr} (it : Addr) (lo : Int) (n : Nat) : Turn P w K tg (uf lo n) [it] it (fun i h => IsRangeIter h it (lo + (i : Nat) * 1) ((n : Int) - (i : Nat)) 1) where
 mem := by simp
 obj := fun i h st b hb => by
  have e : b = it := by simpa using hb
  subst e
  exact ⟨_, st, fun v z => by
   have z' : Data.fields _ = Data.cell v := z
   cases z'⟩
 keep := fun i h h' st k => k it (by simp) _ st
 item := by
  intro X hP hw hK hc i pins s σ H E I hf st hg
  subst hP hw hK
  obtain ⟨f0, f1, f2, f3, f4, f5⟩ := hf it (by simp)
  have W := Walks.range (prog := X.prog) (w := X.w) (I.ok.hd hc) it lo 1 n
  refine W.item i s _ _ hg st fun v h' tk hv qy kk => ?_
  obtain ⟨t, rfl⟩ := hv
  have I1 : Inv X pins σ H { s with heap := h', toks := tk } := I.turned (fun b o hb e => kk b o (by simpa using hb) e) f0 f1 f3 f4 f5
  refine ⟨_, rfl, qR (s := { s with heap := h', toks := tk }) (n := "range_iterator") qy rfl rfl (by decide) ⟨.int (lo + i), H, I1, ⟨t, ?_⟩, ⟨rfl, rfl⟩, qy, fun b hb => (hf b hb).1⟩⟩
  rw [Int.mul_one]
 done := by
  intro X hP hw hK hc i pins s σ H E I hf st hg
  subst hP hw hK
  obtain ⟨f0, f1, f2, f3, f4, f5⟩ := hf it (by simp)
  exact wpAny_pyNext_range_end (I.ok.hd hc) st (by have : n <= i := hg; omega) fun h' eb => ⟨rfl, I.turned (t' := s.toks) (fun b o hb e => eb b o hb e) f0 f1 f3 f4 f5⟩
 self := fun _ _ _ _ _ st h => wpAny_pyIter_rangeiter st h
section
variable {X : Cx} {tg : Expr}
def sP (K : PySem.W.Frag) (tl : TE) : TI := fun σ H R => tl σ H fun x H1 => ∃ a, x = .ref a /\ (∃ xs, c6 K H1 a xs) /\ R (tJ K a) H1
theorem n8 {l : Expr} {tl : TE} (hl : PE X l tl) : PI X tg l (sP X.K tl) := by
 intro pins s σ H R I h
 refine bH (hl pins s σ H _ I h) fun v s1 ⟨x, H1, I1, r1, q1⟩ => ?_
 obtain ⟨a, e, ⟨xs, hq⟩, q⟩ := q1
 subst e
 cases r1
 obtain ⟨aR, rv, p, hz⟩ := I1.list hq
 refine wpAny_pyIter_list p.isList ?_
 refine ⟨s1.heap.objs.size, [s1.heap.objs.size], _, _, H1, rfl, I1.kept (t' := s1.toks) fun b o e => Heap.get?_push_of_some _ e, pz a _, ⟨_, Heap.get?_push_size _ rfl, rfl, rfl⟩, fun b hb => ?_, q⟩
 have e : b = s1.heap.objs.size := by simpa using hb
 subst e
 exact I1.k4 (Nat.le_refl _) (I1.aH.fresh (Nat.le_refl _))
theorem rh {pins : List (Addr × Obj)} {σ : St} {H : Hp} {s : Shared} {R : It -> Hp -> Prop} {E : Value -> Shared -> Prop} {lo hi : Int} {t u v : Tok} {tk : Nat} (I : Inv X pins σ H s) (h1 : -(2 ^ 62) <= lo) (h2 : lo < 2 ^ 62) (h3 : -(2 ^ 62) <= hi) (h4 : hi < 2 ^ 62)
 (q : R (uf lo (hi - lo).toNat) H) : wpAny (model X.prog X.w) X.A (pyIter (.ref s.heap.objs.size)) (Ey X pins σ tg R) E { s with heap := s.heap.push { cls := .type "range", data := .fields #[.int lo t, .int hi u, .int 1 v] }, toks := tk } := by
 refine wpAny_pyIter_range (IsRange.new ..) (small_one h1 h2 h3 h4) ?_
 have I1 : Inv X pins σ H { s with heap := s.heap.push { cls := .type "range", data := .fields #[.int lo t, .int hi u, .int 1 v] }, toks := tk } := I.kept fun b o e => Heap.get?_push_of_some _ e
 refine ⟨(s.heap.push { cls := .type "range", data := .fields #[.int lo t, .int hi u, .int 1 v] }).objs.size, [(s.heap.push { cls := .type "range", data := .fields #[.int lo t, .int hi u, .int 1 v] }).objs.size], _, _, H, rfl,
  I1.kept (t' := tk) fun b o e => Heap.get?_push_of_some _ e, nH _ lo (hi - lo).toNat, ?_, fun b hb => ?_, q⟩
 . have e1 : lo + ((0 : Nat) : Int) * 1 = lo := by simp
   have e2 : (((hi - lo).toNat : Nat) : Int) - ((0 : Nat) : Int) = Builtin.Range.rangeSize lo hi 1 := by rw [rangeSize_one]; split <;> omega
   show IsRangeIter _ _ (lo + ((0 : Nat) : Int) * 1) ((((hi - lo).toNat : Nat) : Int) - ((0 : Nat) : Int)) 1
   rw [e1, e2]
   exact Heap.get?_push_size _ rfl
 . have e : b = (s.heap.push { cls := .type "range", data := .fields #[.int lo t, .int hi u, .int 1 v] }).objs.size := by simpa using hb
   subst e
   exact I1.k4 (Nat.le_refl _) (I1.aH.fresh (Nat.le_refl _))
def v9 (ta : TA) : TI := fun σ H R => ta σ H fun vs H1 => ∃ i j : Int, vs = [.int i, .int j] /\ (-(2 ^ 62) <= i /\ i < 2 ^ 62 /\ -(2 ^ 62) <= j /\ j < 2 ^ 62) /\ R (uf i (j - i).toNat) H1
theorem pX {a b : Expr} {ta : TA} {p pos : Pos} (hg : Gl X "range") (hm : X.mg "range" = none) (ha : PA X [a, b] ta) (hs : starEach [a, b] X.env = [(false, eval a X.env), (false, eval b X.env)] := by rfl) (sE : starEach [b] X.env = [(false, eval b X.env)] := by rfl) :
 PI X tg (.Call (.Name "range" p) [a, b] [] pos) (v9 ta) := by
 intro pins s σ H R I h
 refine Call_ (ip I hg hm boot_range (PyProof.Rows.callWith_type1 (bH (ha pos pins s σ H _ I h) fun us s1 ⟨vs, H1, I1, r1, q1⟩ => ?_) (by rw [hs, sE]) (by rw [sE]; rfl)))
 obtain ⟨i, j, e, ⟨q1, q2, q3, q4⟩, q⟩ := q1
 subst e
 cases r1 with
 | cons r rr =>
   cases rr with
   | cons r' rr =>
     cases rr
     obtain ⟨t, rfl⟩ := r
     obtain ⟨t', rfl⟩ := r'
     exact call_range_2 (rh I1 q1 q2 q3 q4 q)
def rM (wi : TI) (g : TG) (tb : TS) : TS := fun D σ H => wi σ H fun J H1 => ∃ W : Nat -> Nat -> St -> Hp -> Prop, (∃ m, W 0 m σ H1) /\ ∀ i m σ H, W i m σ H ->
 (J.stop i H /\ D.nx σ H) \/ (J.go i H /\ ∃ N : St -> Hp -> Prop, (∀ σ' H', N σ' H' -> ∃ m', m' < m /\ W (i + 1) m' σ' H') /\ ∀ x H', J.uY i H x H' -> g x σ H' fun σ2 H2 => tb { D with nx := N, ct := N, bk := D.nx } σ2 H2)
def jb (fp : List Addr) (h : Heap) : List (Addr × Obj) := fp.filterMap fun b => (h.get? b).map fun o => (b, o)
theorem fq {fp : List Addr} {h : Heap} {b : Addr} {o : Obj} (hb : b ∈ fp) (e : h.get? b = some o) : (b, o) ∈ jb fp h := List.mem_filterMap.mpr ⟨b, hb, by rw [e]; rfl⟩
theorem qc {fp : List Addr} {h : Heap} {p : Addr × Obj} (hp : p ∈ jb fp h) : p.1 ∈ fp /\ h.get? p.1 = some p.2 := by
 obtain ⟨b, hb, e⟩ := List.mem_filterMap.mp hp
 cases q : h.get? b with
 | none => rw [q] at e; cases e
 | some o =>
   rw [q] at e
   have e' : (b, o) = p := Option.some.inj e
   subst e'
   exact ⟨hb, q⟩
theorem Inv.pinned {pins : List (Addr × Obj)} {σ : St} {H : Hp} {s : Shared} {fp : List Addr} (I : Inv X pins σ H s) (hf : ∀ b ∈ fp, cZ X pins H b) (ho : ∀ b ∈ fp, ∃ o, s.heap.get? b = some o /\ ∀ v, o.data ≠ .cell v) : Inv X (pins ++ jb fp s.heap) σ H s :=
 I.eZ fun p hp => (List.mem_append.mp hp).elim (fun z => I.pin p (List.mem_append_right _ z)) fun z => by
  obtain ⟨hb, e⟩ := qc z
  obtain ⟨f0, f1, f2, _⟩ := hf p.1 hb
  obtain ⟨o, e', d⟩ := ho p.1 hb
  rw [e] at e'; cases e'
  exact ⟨e, f0, f1, f2, d⟩
theorem Inv.fR {pins pl : List (Addr × Obj)} {σ : St} {H : Hp} {s : Shared} (I : Inv X (pins ++ pl) σ H s) : Inv X pins σ H s := I.eZ fun p hp => I.pin p (List.mem_append_right _ (List.mem_append_left _ hp))
theorem jd {iter : Expr} {body : List Stmt} {wi : TI} {g : TG} {tb : TS} {pos : Pos} (hp : PassesOwn (model X.prog X.w) X.A X.env X.xe) (hc : X.calm = true) (hi : PI X tg iter wi) (hg : PG X tg g) (hb : nD X body tb)
 (hs : ∀ x, foldedSetIterable iter X.env x = pure x := by intro _; rfl) : PS X (.For tg iter body [] pos) (rM wi g tb) := by
 intro pins s σ H D I h
 refine wpAny_For (bH (hi pins s σ H _ I h) fun v s1 h1 => bH h1 fun CQ s2 h2 => ?_) hs
 obtain ⟨it, fp, tn, J, H2, e, I2, T, HC, f2, W, ⟨m0, w0⟩, turn⟩ := h2
 subst e
 have stat : ∀ {H' : Hp}, (∀ b ∈ fp, H' b = none) -> ∀ b ∈ fp, cZ X pins H' b := fun hn b hb => ⟨hn b hb, (f2 b hb).2⟩
 refine codeAny_forLoop_any (fun n s' => ∃ i σ' H', Inv X pins σ' H' s' /\ tn i s'.heap /\ (∀ b ∈ fp, H' b = none) /\ W i n σ' H') ?_ m0 ⟨0, σ, H2, I2, HC, fun b hb => (f2 b hb).1, w0⟩
 rintro n s3 ⟨i, σ3, H3, I3, AH, za, w3⟩
 rcases turn i n σ3 H3 w3 with ⟨stop, qn⟩ | ⟨go, N, hN, step⟩
 . refine wpAny_passesOwn hp (bH (T.done X rfl rfl rfl hc i pins s3 σ3 H3 X.xe I3 (stat za) AH stop) fun r s4 ⟨hr, I4⟩ => ?_)
   subst hr
   exact wpAny_execs_nil ⟨σ3, H3, I4, qn⟩
 . refine wpAny_passesOwn hp (bH (T.item X rfl rfl rfl hc i pins s3 σ3 H3 X.xe I3 (stat za) AH go) fun r s4 ⟨u, hr, h4⟩ => ?_)
   subst hr
   refine wpAny_passesOwn hp (bH h4 fun _ s5 ⟨x, H5, I5, r5, y5, yH, Cm⟩ => ?_)
   have Cj := I5.pinned (stat Cm) (T.obj _ _ yH)
   refine wpAny_passesOwn hp (bH (hg _ s5 σ3 H5 x u _ Cj r5 (step x H5 y5)) fun _ s6 ⟨σ6, H6, I6, q6⟩ => ?_)
   refine wpAny_passesOwn hp (bH (hb _ s6 σ6 H6 _ I6 q6) fun f s7 q7 => ?_)
   have again : ∀ {σ7 : St} {H7 : Hp}, Inv X (pins ++ jb fp s5.heap) σ7 H7 s7 -> N σ7 H7 -> ∃ m, m < n /\ ∃ i σ' H', Inv X pins σ' H' s7 /\ tn i s7.heap /\ (∀ b ∈ fp, H' b = none) /\ W i m σ' H' := fun {σ7 H7} I7 n7 => by
    obtain ⟨m', hm, w7⟩ := hN σ7 H7 n7
    refine ⟨m', hm, i + 1, σ7, H7, I7.fR, T.keep _ _ _ yH fun b hb o e => (I7.pin (b, o) (List.mem_append_right _ (List.mem_append_right _ (fq hb e)))).1, fun b hb => ?_, w7⟩
    obtain ⟨o, e, d⟩ := T.obj _ _ yH b hb
    exact (I7.pin (b, o) (List.mem_append_right _ (List.mem_append_right _ (fq hb e)))).2.1
   cases f with
   | next => obtain ⟨σ7, H7, I7, n7⟩ := q7; exact again I7 n7
   | cont => obtain ⟨σ7, H7, I7, n7⟩ := q7; exact again I7 n7
   | brk => obtain ⟨σ7, H7, I7, q7⟩ := q7; exact ⟨σ7, H7, I7.fR, q7⟩
   | ret v => obtain ⟨x7, σ7, H7, I7, r7, q7⟩ := q7; exact ⟨x7, σ7, H7, I7.fR, r7, q7⟩
end
theorem rp {K : PySem.W.Frag} {a : Addr} {xs : List V} {g : TG} {tb : TS} {D : Ends} {σ : St} {H : Hp} (Pv : Nat -> St -> Hp -> Prop) (h0 : Pv 0 σ H) (hl : ∀ i σ H, i <= xs.length -> Pv i σ H -> c6 K H a xs)
 (hs : ∀ i x σ H, xs[i]? = some x -> Pv i σ H -> g x σ H fun σ2 H2 => tb { D with nx := Pv (i + 1), ct := Pv (i + 1), bk := D.nx } σ2 H2) (hd : ∀ σ H, Pv xs.length σ H -> D.nx σ H) :
 ∃ W : Nat -> Nat -> St -> Hp -> Prop, (∃ m, W 0 m σ H) /\ ∀ i m σ H, W i m σ H ->
   ((tJ K a).stop i H /\ D.nx σ H) \/ ((tJ K a).go i H /\ ∃ N : St -> Hp -> Prop, (∀ σ' H', N σ' H' -> ∃ m', m' < m /\ W (i + 1) m' σ' H') /\ ∀ x H', (tJ K a).uY i H x H' -> g x σ H' fun σ2 H2 => tb { D with nx := N, ct := N, bk := D.nx } σ2 H2) := by
 refine ⟨fun i m σ H => m = xs.length - i /\ i <= xs.length /\ Pv i σ H, ⟨xs.length, by simp, Nat.zero_le _, h0⟩, ?_⟩
 rintro i m σ H ⟨rfl, hi, p⟩
 have q := hl i σ H hi p
 by_cases g6 : i < xs.length
 . refine .inr ⟨⟨xs, xs[i], q, by simp [g6]⟩, Pv (i + 1), fun σ' H' p' => ⟨xs.length - (i + 1), by omega, rfl, g6, p'⟩, fun x H' y => ?_⟩
   obtain ⟨e, y⟩ := y
   subst e
   exact hs i x σ _ (y xs q) p
 . have e : i = xs.length := by omega
   subst e
   exact .inl ⟨⟨xs, q, Nat.le_refl _⟩, hd σ H p⟩
theorem pA {lo : Int} {n : Nat} {g : TG} {tb : TS} {D : Ends} {σ : St} {H : Hp} (Pv : Nat -> St -> Hp -> Prop) (h0 : Pv 0 σ H)
 (hs : ∀ i σ H, i < n -> Pv i σ H -> g (.int (lo + i)) σ H fun σ2 H2 => tb { D with nx := Pv (i + 1), ct := Pv (i + 1), bk := D.nx } σ2 H2) (hd : ∀ σ H, Pv n σ H -> D.nx σ H) :
 ∃ W : Nat -> Nat -> St -> Hp -> Prop, (∃ m, W 0 m σ H) /\ ∀ i m σ H, W i m σ H ->
   ((uf lo n).stop i H /\ D.nx σ H) \/ ((uf lo n).go i H /\ ∃ N : St -> Hp -> Prop, (∀ σ' H', N σ' H' -> ∃ m', m' < m /\ W (i + 1) m' σ' H') /\ ∀ x H', (uf lo n).uY i H x H' -> g x σ H' fun σ2 H2 => tb { D with nx := N, ct := N, bk := D.nx } σ2 H2) := by
 refine ⟨fun i m σ H => m = n - i /\ i <= n /\ Pv i σ H, ⟨n, by simp, Nat.zero_le _, h0⟩, ?_⟩
 rintro i m σ H ⟨rfl, hi, p⟩
 by_cases g6 : i < n
 . refine .inr ⟨g6, Pv (i + 1), fun σ' H' p' => ⟨n - (i + 1), by omega, rfl, g6, p'⟩, fun x H' y => ?_⟩
   obtain ⟨e, y⟩ := y
   subst e y
   exact hs i σ _ g6 p
 . have e : i = n := by omega
   subst e
   exact .inl ⟨Nat.le_refl _, hd σ H p⟩
abbrev R2 := V -> V -> Hp -> VK -> Prop
def hX (X : Cx) (f : Value -> Value -> Sem Value) (r : R2) : Prop :=
 ∀ (pins : List (Addr × Obj)) (s : Shared) (σ : St) (H : Hp) (x y : V) (v u : Value) (Q : VK), Inv X pins σ H s -> RelV x v -> RelV y u -> r x y H Q ->
   wpAny (model X.prog X.w) X.A (f v u) (EP X pins σ Q) X.xe s
def C1 (X : Cx) (f : Value -> Sem Value) (r : V -> Hp -> VK -> Prop) : Prop :=
 ∀ (pins : List (Addr × Obj)) (s : Shared) (σ : St) (H : Hp) (x : V) (v : Value) (Q : VK), Inv X pins σ H s -> RelV x v -> r x H Q ->
   wpAny (model X.prog X.w) X.A (f v) (EP X pins σ Q) X.xe s
def eB (X : Cx) (f : Value) (r : List V -> Hp -> VK -> Prop) : Prop :=
 ∀ (pins : List (Addr × Obj)) (s : Shared) (σ : St) (H : Hp) (xs : List V) (us : List Value) (Q : VK), Inv X pins σ H s -> Vals xs us -> r xs H Q ->
   wpAny (model X.prog X.w) X.A (call f us) (EP X pins σ Q) X.xe s
def Cg (X : Cx) (r : V -> Hp -> (Bool -> Hp -> Prop) -> Prop) : Prop :=
 ∀ (pins : List (Addr × Obj)) (s : Shared) (σ : St) (H : Hp) (x : V) (v : Value) (Q : Bool -> Hp -> Prop), Inv X pins σ H s -> RelV x v -> r x H Q ->
   wpAny (model X.prog X.w) X.A (truthy v) (TP X pins σ Q) X.xe s
def AY (r : R2) (ta tb : TE) : TE := fun σ H Q => ta σ H fun x H1 => tb σ H1 fun y H2 => r x y H2 Q
def Fs (r : V -> Hp -> VK -> Prop) (ta : TE) : TE := fun σ H Q => ta σ H fun x H1 => r x H1 Q
def rI (C : Int -> Int -> Prop) (g : Int -> Int -> V) : R2 := fun x y H Q => ∃ i j, x = .int i /\ y = .int j /\ C i j /\ Q (g i j) H
def wm (g : Int -> Int -> V) : R2 := fun x y H Q => ∃ i j, x = .int i /\ y = .int j /\ Q (g i j) H
def rU (g : Int -> V) : V -> Hp -> VK -> Prop := fun x H Q => ∃ i, x = .int i /\ Q (g i) H
section
variable {X : Cx} {a b c : Expr} {ta tb tc : TE} {pos : Pos}
theorem wL (ha : PE X a ta) (hb : PE X b tb) {pins : List (Addr × Obj)} {s : Shared} {σ : St} {H : Hp} {R : V -> V -> Hp -> Prop} (I : Inv X pins σ H s)
 (h : ta σ H fun x H1 => tb σ H1 fun y H2 => R x y H2) {Q : Value -> Shared -> Prop} {f : Value -> Value -> Sem Value}
 (hf : ∀ v u s2 x y H2, Inv X pins σ H2 s2 -> RelV x v -> RelV y u -> R x y H2 -> wpAny (model X.prog X.w) X.A (f v u) Q X.xe s2) :
 wpAny (model X.prog X.w) X.A (eval a X.env) (fun v s₁ => wpAny (model X.prog X.w) X.A (eval b X.env) (fun u s₂ => wpAny (model X.prog X.w) X.A (f v u) Q X.xe s₂) X.xe s₁) X.xe s := by
 refine bH (ha pins s σ H _ I h) fun v s1 ⟨x, H1, I1, r1, q1⟩ => ?_
 refine bH (hb pins s1 σ H1 _ I1 q1) fun u s2 ⟨y, H2, I2, r2, q2⟩ => ?_
 exact hf v u s2 x y H2 I2 r1 r2 q2
theorem bO {op : Operator} {r : R2} (ho : hX X (binaryOp op) r) (ha : PE X a ta) (hb : PE X b tb) : PE X (.BinOp a op b pos) (AY r ta tb) := by
 intro pins s σ H Q I h
 exact wpAny_BinOp (wL ha hb I h fun v u s2 x y H2 I2 rx ry q => ho pins s2 σ H2 x y v u Q I2 rx ry q)
theorem we {op : UnaryOp} {r : V -> Hp -> VK -> Prop} (ho : C1 X (unaryOp op) r) (ha : PE X a ta) : PE X (.UnaryOp op a pos) (Fs r ta) := by
 intro pins s σ H Q I h
 exact UnaryOp_ (bH (ha pins s σ H _ I h) fun v s1 ⟨x, H1, I1, r1, q1⟩ => ho pins s1 σ H1 x v Q I1 r1 q1)
theorem Fj {f : Value -> Value -> Sem Value} {C : Int -> Int -> Prop} {g : Int -> Int -> Int}
 (rule : ∀ (i j : Int) (t u : Tok) (s : Shared) (Q : Value -> Shared -> Prop) (E : Value -> Shared -> Prop), C i j -> Q (.int (g i j) s.toks) { s with toks := s.toks + 1 } -> wpAny (model X.prog X.w) X.A (f (.int i t) (.int j u)) Q E s) :
 hX X f (rI C fun i j => .int (g i j)) := by
 intro pins s σ H x y v u Q I rx ry h
 obtain ⟨i, j, rfl, rfl, hc, q⟩ := h
 obtain ⟨t, rfl⟩ := rx
 obtain ⟨t', rfl⟩ := ry
 exact rule i j t t' s _ _ hc ⟨.int (g i j), H, I.tok _, ⟨_, rfl⟩, q⟩
theorem DB {f : Value -> Value -> Sem Value} {g : Int -> Int -> Int}
 (rule : ∀ (i j : Int) (t u : Tok) (s : Shared) (Q : Value -> Shared -> Prop) (E : Value -> Shared -> Prop), Q (.int (g i j) s.toks) { s with toks := s.toks + 1 } -> wpAny (model X.prog X.w) X.A (f (.int i t) (.int j u)) Q E s) :
 hX X f (wm fun i j => .int (g i j)) := by
 intro pins s σ H x y v u Q I rx ry h
 obtain ⟨i, j, rfl, rfl, q⟩ := h
 obtain ⟨t, rfl⟩ := rx
 obtain ⟨t', rfl⟩ := ry
 exact rule i j t t' s _ _ ⟨.int (g i j), H, I.tok _, ⟨_, rfl⟩, q⟩
theorem x6 {f : Value -> Value -> Sem Value} {g : Int -> Int -> Bool}
 (rule : ∀ (i j : Int) (t u : Tok) (s : Shared) (Q : Value -> Shared -> Prop) (E : Value -> Shared -> Prop), Q (.bool (g i j)) s -> wpAny (model X.prog X.w) X.A (f (.int i t) (.int j u)) Q E s) :
 hX X f (wm fun i j => .bl (g i j)) := by
 intro pins s σ H x y v u Q I rx ry h
 obtain ⟨i, j, rfl, rfl, q⟩ := h
 obtain ⟨t, rfl⟩ := rx
 obtain ⟨t', rfl⟩ := ry
 exact rule i j t t' s _ _ ⟨.bl (g i j), H, I, rfl, q⟩
theorem sY : hX X (binaryOp .Sub) (wm fun i j => .int (i - j)) := DB fun _ _ _ _ _ _ _ q => sub_int q
theorem xB : hX X (binaryOp .Mod) (rI (fun _ j => 0 < j) fun i j => .int (i % j)) := Fj fun i j _ _ _ _ _ hc q => by
 have h1 : (0 : Int) < j := hc
 exact mod_int' (by omega) (by rw [Int.fmod_eq_emod_of_nonneg i (by omega)]; exact q)
theorem F5 {f : Value -> Sem Value} {g : Int -> Int}
 (rule : ∀ (i : Int) (t : Tok) (s : Shared) (Q : Value -> Shared -> Prop) (E : Value -> Shared -> Prop), Q (.int (g i) s.toks) { s with toks := s.toks + 1 } -> wpAny (model X.prog X.w) X.A (f (.int i t)) Q E s) :
 C1 X f (rU fun i => .int (g i)) := by
 intro pins s σ H x v Q I rx h
 obtain ⟨i, rfl, q⟩ := h
 obtain ⟨t, rfl⟩ := rx
 exact rule i t s _ _ ⟨.int (g i), H, I.tok _, ⟨_, rfl⟩, q⟩
theorem rR : C1 X (unaryOp .USub) (rU fun i => .int (-i)) := F5 fun _ _ _ _ _ q => neg_int q
end
def tZ : V -> V -> Bool
 | .aO, .aO => true | .aO, .int _ => true | .int _, .aO => true | .aO, .bl _ => true | .bl _, .aO => true | .aO, .str _ => true | .str _, .aO => true
 | .int _, .int _ => true | .bl _, .bl _ => true | .str _, .str _ => true | .oS _, .oS _ => true
 | .int _, .str _ => true | .str _, .int _ => true | .bl _, .str _ => true | .str _, .bl _ => true
 | _, _ => false
def GQ : R2 := fun x y H Q => tZ x y = true /\ Q (.bl (decide (x = y))) H
def GC : R2 := fun x y H Q => tZ x y = true /\ Q (.bl (!decide (x = y))) H
theorem nX {i j : Int} : decide (V.int i = V.int j) = (i == j) := by
 rw [Bool.eq_iff_iff]
 simp
theorem rW {i j : Bool} : decide (V.bl i = V.bl j) = (i == j) := by
 rw [Bool.eq_iff_iff]
 simp
theorem oZ {i j : Str} : decide (V.str i = V.str j) = (i == j) := by
 rw [Bool.eq_iff_iff]
 simp
theorem o5 {i j : Array UInt8} : decide (V.oS i = V.oS j) = (i.toList == j.toList) := by
 rw [Bool.eq_iff_iff]
 cases i
 cases j
 simp
section
variable {X : Cx} {a b c : Expr} {ta tb tc : TE} {pos : Pos}
theorem aB {pins : List (Addr × Obj)} {σ : St} {H : Hp} {s : Shared} {Q : VK} {k k' : Bool} (I : Inv X pins σ H s) (q : Q (.bl k) H) (e : k = k') : EP X pins σ Q (.bool k') s := by
 subst e
 exact ⟨.bl k, H, I, rfl, q⟩
theorem AZ : hX X (compareOp .Eq) GQ := by
 intro pins s σ H x y v u Q I rx ry h
 obtain ⟨hs, q⟩ := h
 cases x with
 | aO =>
   cases rx
   cases y with
   | aO => cases ry; exact PySem.EqNone.eq_none_none (aB I q (by simp))
   | bl j => cases ry; exact PySem.EqNone.eq_none_bool (aB I q (by simp))
   | int j => obtain ⟨t', rfl⟩ := ry; exact PySem.EqNone.eq_none_int (aB I q (by simp))
   | str j => obtain ⟨t', rfl⟩ := ry; exact PySem.EqNone.eq_none_str (aB I q (by simp))
   | _ => exact absurd (show false = true from hs) Bool.false_ne_true
 | bl i =>
   cases rx
   cases y with
   | aO => cases ry; exact PySem.EqNone.eq_bool_none (aB I q (by simp))
   | bl j => cases ry; exact eq_bool (aB I q rW)
   | str j => obtain ⟨t', rfl⟩ := ry; exact PySem.EqMixed.eq_bool_str (aB I q (by simp))
   | _ => exact absurd (show false = true from hs) Bool.false_ne_true
 | int i =>
   obtain ⟨t, rfl⟩ := rx
   cases y with
   | aO => cases ry; exact PySem.EqNone.eq_int_none (aB I q (by simp))
   | int j => obtain ⟨t', rfl⟩ := ry; exact eq_int (aB I q nX)
   | str j => obtain ⟨t', rfl⟩ := ry; exact PySem.EqMixed.eq_int_str (aB I q (by simp))
   | _ => exact absurd (show false = true from hs) Bool.false_ne_true
 | str i =>
   obtain ⟨t, rfl⟩ := rx
   cases y with
   | aO => cases ry; exact PySem.EqNone.eq_str_none (aB I q (by simp))
   | bl j => cases ry; exact PySem.EqMixed.eq_str_bool (aB I q (by simp))
   | int j => obtain ⟨t', rfl⟩ := ry; exact PySem.EqMixed.eq_str_int (aB I q (by simp))
   | str j => obtain ⟨t', rfl⟩ := ry; exact eq_str (aB I q oZ)
   | _ => exact absurd (show false = true from hs) Bool.false_ne_true
 | oS i =>
   obtain ⟨t, rfl⟩ := rx
   cases y with
   | oS j => obtain ⟨t', rfl⟩ := ry; exact PySem.W.eq_bytes (aB I q o5)
   | _ => exact absurd (show false = true from hs) Bool.false_ne_true
 | _ => cases y <;> exact absurd (show false = true from hs) Bool.false_ne_true
theorem AQ : hX X (compareOp .NotEq) GC := by
 intro pins s σ H x y v u Q I rx ry h
 obtain ⟨hs, q⟩ := h
 cases x with
 | aO =>
   cases rx
   cases y with
   | aO => cases ry; exact PySem.EqNone.ne_none_none (aB I q (by simp))
   | bl j => cases ry; exact PySem.EqNone.ne_none_bool (aB I q (by simp))
   | int j => obtain ⟨t', rfl⟩ := ry; exact PySem.EqNone.ne_none_int (aB I q (by simp))
   | str j => obtain ⟨t', rfl⟩ := ry; exact PySem.EqNone.ne_none_str (aB I q (by simp))
   | _ => exact absurd (show false = true from hs) Bool.false_ne_true
 | bl i =>
   cases rx
   cases y with
   | aO => cases ry; exact PySem.EqNone.ne_bool_none (aB I q (by simp))
   | bl j => cases ry; exact ne_bool (aB I q (congrArg not rW))
   | str j => obtain ⟨t', rfl⟩ := ry; exact PySem.EqMixed.ne_bool_str (aB I q (by simp))
   | _ => exact absurd (show false = true from hs) Bool.false_ne_true
 | int i =>
   obtain ⟨t, rfl⟩ := rx
   cases y with
   | aO => cases ry; exact PySem.EqNone.ne_int_none (aB I q (by simp))
   | int j => obtain ⟨t', rfl⟩ := ry; exact ne_int (aB I q (congrArg not nX))
   | str j => obtain ⟨t', rfl⟩ := ry; exact PySem.EqMixed.ne_int_str (aB I q (by simp))
   | _ => exact absurd (show false = true from hs) Bool.false_ne_true
 | str i =>
   obtain ⟨t, rfl⟩ := rx
   cases y with
   | aO => cases ry; exact PySem.EqNone.ne_str_none (aB I q (by simp))
   | bl j => cases ry; exact PySem.EqMixed.ne_str_bool (aB I q (by simp))
   | int j => obtain ⟨t', rfl⟩ := ry; exact PySem.EqMixed.ne_str_int (aB I q (by simp))
   | str j => obtain ⟨t', rfl⟩ := ry; exact ne_str (aB I q (congrArg not oZ))
   | _ => exact absurd (show false = true from hs) Bool.false_ne_true
 | oS i =>
   obtain ⟨t, rfl⟩ := rx
   cases y with
   | oS j => obtain ⟨t', rfl⟩ := ry; exact PySem.W.ne_bytes (aB I q (congrArg not o5))
   | _ => exact absurd (show false = true from hs) Bool.false_ne_true
 | _ => cases y <;> exact absurd (show false = true from hs) Bool.false_ne_true
theorem vM : hX X (compareOp .Lt) (wm fun i j => .bl (decide (i < j))) := x6 fun _ _ _ _ _ _ _ q => lt_int q
theorem A0 : hX X (compareOp .Gt) (wm fun i j => .bl (decide (j < i))) := x6 fun _ _ _ _ _ _ _ q => gt_int q
theorem Au : hX X (compareOp .GtE) (wm fun i j => .bl (decide (j <= i))) := x6 fun _ _ _ _ _ _ _ q => ge_int q
theorem qJ : hX X (compareOp .Is) (fun x y H Q => y = .aO /\ Q (.bl (decide (x = .aO))) H) := by
 intro pins s σ H x y v u Q I rx ry h
 obtain ⟨rfl, q⟩ := h
 cases ry
 refine is_none_gen (aB I q ?_)
 cases x <;> first
  | (cases rx; rfl)
  | (obtain ⟨t, rfl⟩ := rx; rfl)
theorem iX : hX X (compareOp .IsNot) (fun x y H Q => y = .aO /\ Q (.bl (!decide (x = .aO))) H) := by
 intro pins s σ H x y v u Q I rx ry h
 obtain ⟨rfl, q⟩ := h
 cases ry
 refine isnot_none_gen (aB I q ?_)
 cases x <;> first
  | (cases rx; rfl)
  | (obtain ⟨t, rfl⟩ := rx; rfl)
theorem aT (b : Expr) {op : CmpOp} (h : op ≠ .In := by decide) (h2 : op ≠ .NotIn := by decide) : behindInMarks op b = false := by
 have e1 : (op == CmpOp.In) = false := by cases op <;> first | rfl | exact absurd rfl h
 have e2 : (op == CmpOp.NotIn) = false := by cases op <;> first | rfl | exact absurd rfl h2
 cases b <;> simp [behindInMarks, e1, e2]
theorem kX {op : CmpOp} {r : R2} (ho : hX X (compareOp op) r) (ha : PE X a ta) (hb : PE X b tb) (hm : behindInMarks op b = false) : PE X (.Compare a [op] [b] pos) (AY r ta tb) := by
 intro pins s σ H Q I h
 exact wpAny_Compare1 (wL ha hb I h fun v u s2 x y H2 I2 rx ry q => ho pins s2 σ H2 x y v u Q I2 rx ry q) hm
def vJ (t : TE) : TT := fun σ H Q => t σ H fun x H' => ∃ k, x = .bl k /\ Q k H'
theorem aD {op : CmpOp} {r : R2} (ho : hX X (compareOp op) r) (ha : PE X a ta) (hb : PE X b tb) (hm : behindInMarks op b = false) : PT X (.Compare a [op] [b] pos) (vJ (AY r ta tb)) := by
 intro pins s σ H Q I h
 refine wpAny_isTrue_Compare1 (bH (ha pins s σ H _ I h) fun v s1 ⟨x, H1, I1, r1, q1⟩ => bH (hb pins s1 σ H1 _ I1 q1) fun u s2 ⟨y, H2, I2, r2, q2⟩ =>
  bH (ho pins s2 σ H2 x y v u _ I2 r1 r2 q2) fun c s3 ⟨z, H3, I3, r3, k, e, q3⟩ => ?_) hm
 subst e
 cases r3
 exact wpAny_truthy_bool ⟨H3, I3, q3⟩
def yr (K : PySem.W.Frag) (x : V) (H : Hp) (k : Bool) : Prop :=
 match x with
 | .aO => k = false
 | .bl b => k = b
 | .int i => k = (i != 0)
 | .str y => y.length <= sizeLine /\ k = ((y.length : Int) != 0)
 | .oS y => y.size <= sizeLine /\ k = ((y.size : Int) != 0)
 | .ref p => (∃ xs, c6 K H p xs /\ k = !xs.isEmpty) \/ (∃ xs, oo K H p xs /\ k = !xs.isEmpty) \/ ∃ kvs, H p = some (.dK kvs) /\ k = !kvs.isEmpty
 | _ => False
theorem nB {κ : Type} {kvs : List (κ × V)} {vs : List (κ × Value)} (r : KV kvs vs) : (!vs.isEmpty) = !kvs.isEmpty := by
 cases r <;> rfl
theorem ju {xs : List V} {aR : List Value} (r : Vals xs aR) : (!aR.toArray.isEmpty) = !xs.isEmpty := by
 cases r <;> simp
theorem iu : (sizeLine : Nat) < 2 ^ 63 := by rw [sizeLine_eq]; decide
theorem x4 : Cg X (fun x H Q => ∃ k, yr X.K x H k /\ Q k H) := by
 intro pins s σ H x v Q I rx h
 obtain ⟨k, e, q⟩ := h
 have hl := iu
 have hs : sizeLine = 16777216 := sizeLine_eq
 cases x with
 | aO =>
   cases rx
   have e' : k = false := e
   subst e'
   exact truthy_none ⟨H, I, q⟩
 | bl b =>
   cases rx
   have e' : k = b := e
   subst e'
   exact wpAny_truthy_bool ⟨H, I, q⟩
 | int i =>
   obtain ⟨t, rfl⟩ := rx
   have e' : k = (i != 0) := e
   subst e'
   exact PySem.P.truthy_int ⟨H, I, q⟩
 | str y =>
   obtain ⟨t, rfl⟩ := rx
   obtain ⟨hy, e'⟩ : y.length <= sizeLine /\ k = ((y.length : Int) != 0) := e
   subst e'
   exact PySem.P.truthy_str (by omega) ⟨H, I.tok _, q⟩
 | oS y =>
   obtain ⟨t, rfl⟩ := rx
   obtain ⟨hy, e'⟩ : y.size <= sizeLine /\ k = ((y.size : Int) != 0) := e
   subst e'
   exact PySem.W.truthy_bytes (by omega) ⟨H, I.tok _, q⟩
 | ref p =>
   cases rx
   have e' : (∃ xs, c6 X.K H p xs /\ k = !xs.isEmpty) \/ (∃ xs, oo X.K H p xs /\ k = !xs.isEmpty) \/ ∃ kvs, H p = some (.dK kvs) /\ k = !kvs.isEmpty := e
   rcases e' with ⟨xs, hx, e'⟩ | ⟨xs, hx, e'⟩ | ⟨kvs, hx, e'⟩
   . subst e'
     obtain ⟨aR, r, pl, hz⟩ := I.list hx
     have hlen := r.length
     exact wpAny_truthy_list pl.isList (by simp only [List.size_toArray]; omega) ⟨H, I.tok _, by rw [ju r]; exact q⟩
   . subst e'
     obtain ⟨aR, r, pl, hz⟩ := I.tuple hx
     have hlen := r.length
     exact truthy_tuple pl (by simp only [List.size_toArray]; omega) ⟨H, I.tok _, by rw [ju r]; exact q⟩
   . subst e'
     obtain ⟨hz, hS, vs, r, m⟩ : kvs.length <= sizeLine /\ (p == sysModules) = false /\ ∃ vs, KV kvs vs /\ s.heap.DictOf (aL X.prog X.w) p vs := I.aH p _ hx
     have hlen : kvs.length = vs.length := Paired.length r
     exact wpAny_truthy_dict hS m (by omega) ⟨H, I.tok _, by rw [nB r]; exact q⟩
 | _ => exact (show False from e).elim
theorem d0 (ha : PE X a ta) (he : ∀ whole, isTrue a X.env whole = (do let v <- whole; standAt a.pos; holding [v] (truthy v))) :
 PT X a (fun σ H Q => ta σ H fun x H' => ∃ k, yr X.K x H' k /\ Q k H') := by
 intro pins s σ H Q I h
 exact isTrue_plain (bH (ha pins s σ H _ I h) fun v s1 ⟨x, H1, I1, r1, q1⟩ => x4 pins s1 σ H1 x v Q I1 r1 q1) (he _)
theorem nr : hX X (binaryOp .Add) (fun x y H Q => ∃ i j, x = .str i /\ y = .str j /\ i.length + j.length <= sizeLine /\ Q (.str (i ++ j)) H) := by
 intro pins s σ H x y v u Q I rx ry h
 obtain ⟨i, j, rfl, rfl, hz, q⟩ := h
 obtain ⟨t, rfl⟩ := rx
 obtain ⟨t', rfl⟩ := ry
 exact add_str (fun t' tk => ⟨.str (i ++ j), H, I.tok _, ⟨_, rfl⟩, q⟩) hz
theorem vals1 {x : V} {us : List Value} (r : Vals [x] us) : ∃ u, us = [u] /\ RelV x u := by
 cases r with
 | cons r1 r2 => cases r2; exact ⟨_, rfl, r1⟩
theorem vals2 {x y : V} {us : List Value} (r : Vals [x, y] us) : ∃ u w', us = [u, w'] /\ RelV x u /\ RelV y w' := by
 cases r with
 | cons r1 r2 =>
   cases r2 with
   | cons r3 r4 => cases r4; exact ⟨_, _, rfl, r1, r3⟩
end
structure nC (h : Heap) (x dx C : Addr) (mA : Str -> Option Value) : Prop where
 obj : h.get? x = some (PySem.W.instObj C dx)
 ns : h.Ns1 dx mA
 ne : dx ≠ x
theorem pJ {h : Heap} {dx : Addr} {mA : Str -> Option Value} (n : h.Ns1 dx mA) : ∃ od, h.get? dx = some od /\ ∀ name, PySem.W.lookIn name od = some (mA name) := by
 obtain ⟨o, es, ep, ho, hd, hk, _, hm⟩ := n
 refine ⟨o, ho, fun name => ?_⟩
 have e := hm name
 unfold nsFind findBy at e
 rw [<- Array.find?_toList] at e
 unfold PySem.W.lookIn
 rw [hd]
 dsimp only
 split
 . rename_i y q
   rw [q] at e
   exact congrArg some e
 . rename_i q
   rw [q] at e
   have a : es.toList.any (·.refKey) = false := by
    rw [List.any_eq_false]
    intro y hy
    obtain ⟨z, t, DV⟩ := hk y (Array.mem_toList_iff.mp hy)
    simp [DictEntry.refKey, DV]
   have a' : ¬ es.toList.any (·.refKey) = true := by rw [a]; exact Bool.false_ne_true
   rw [if_neg a']
   exact congrArg some e
theorem nC.look {h : Heap} {x dx C : Addr} {mA : Str -> Option Value} (I : nC h x dx C mA) : ∃ od, PySem.W.InstAt h x (PySem.W.instObj C dx) C (some od) /\ ∀ name, PySem.W.lookIn name od = some (mA name) :=
 let ⟨od, ho, hl⟩ := pJ I.ns
 ⟨od, ⟨I.obj, rfl, rfl, ho⟩, hl⟩
section
variable {prog : Program} {w : World} {A : Around} {E : Value -> Shared -> Prop} {s : Shared} {K : PySem.W.Frag} {x dx C f : Addr} {mA : Str -> Option Value} {name : Str} {v : Value}
theorem get_map {expr : Bool} {Q : Value -> Shared -> Prop} (X : K.In s.heap) (I : nC s.heap x dx C mA) (hg : PySem.W.plainGet K C name = true) (hh : PySem.W.hasDictIn K C = true)
 (ha : PySem.W.findIn K (.ref C) name = some none) (hv : mA name = some v) (Ge : PySem.W.handedIn v = true) (h : Q v { s with toks := s.toks + 1 }) :
 wpAny (model prog w) A (getAttr (.ref x) name expr) Q E s := by
 obtain ⟨od, J, hl⟩ := I.look
 exact PySem.W.get_value X J (PySem.W.plainGet_of hg).1 (PySem.W.findObj_own hh ha rfl (by rw [hl, hv])) Ge h
theorem ri {pl : Sem Bool} {Q : Value × List Value -> Shared -> Prop} (X : K.In s.heap) (I : nC s.heap x dx C mA) (hg : PySem.W.plainGet K C name = true)
 (hf : PySem.W.findIn K (.ref C) name = some (some (.ref f))) (ht : PySem.W.isFn K (.ref f) = true) (hv : mA name = none) (h : Q (.ref f, [.ref x]) s) :
 wpAny (model prog w) A (getMethod (.ref x) name pl) Q E s := by
 obtain ⟨od, J, hl⟩ := I.look
 exact PySem.W.method_fn X J (PySem.W.plainGet_of hg).1 (PySem.W.plainGet_of hg).2 hf (beq_iff_eq.mp ht) (by show (PySem.W.lookIn name od).map (·.isSome) = some false; rw [hl, hv]; rfl) h
theorem vo {ns : List Str} {Q : Unit -> Shared -> Prop} (X : K.In s.heap) (I : nC s.heap x dx C mA)
 (hs : PySem.W.findIn K (.ref C) "__setattr__" = some (some (.builtin "object.__setattr__"))) (hp : PySem.W.plainOver K C = true) (ht : PySem.W.takerIn K C name = some none) (hh : PySem.W.hasDictIn K C = true)
 (hw : PySem.Within mA ns) (hsz : ns.length <= sizeLine)
 (h : ∀ h', nC h' x dx C (fun y => if y = name then some v else mA y) -> Heap.SameBut dx s.heap h' -> Q () { s with heap := h', toks := s.toks + 2 }) :
 wpAny (model prog w) A (setAttr (.ref x) name v) Q E s := by
 obtain ⟨od, J, hl⟩ := I.look
 refine PySem.W.set_plain X J hs (PySem.W.osa_open (s := { s with toks := s.toks + 1 }) (r := none) X J hp ht fun b => ?_)
 obtain ⟨cd, hc, oU⟩ := PySem.W.any_some hh
 have hx : s.heap.get? x = some ⟨.ref C, some dx, .plain, #[]⟩ := I.obj
 refine wpAny_bind (wpAny_pure (wpAny_bind (wpAny_bind (wpAny_loadPart hx (wpAny_bind (PySem.W.Looks.here (s := { s with toks := s.toks + 1 }) (PySem.W.looks_clsIn X hc) ?_))))))
 rw [oU]
 refine wpAny_pure (a := some dx) (wpAny_bind (wpAny_pure (wpAny_bind ?_)))
 refine wpAny_nsSet1 (s := { s with toks := s.toks + 1 }) I.ns fun h' sQ sE => ?_
 obtain ⟨oD, IA, IC, HP, Ga, G4⟩ := sQ.count (PySem.Within.cons name v hw)
 refine wpAny_bind (wpAny_lookBehind HP (by rw [Ga]; exact pastItsLine_dict (Nat.le_trans G4 (by rw [List.length_cons]; omega))) ?_)
 exact wpAny_pure (h _ ⟨(sE.2 _ (Ne.symm I.ne)).trans I.obj, sQ, I.ne⟩ sE)
theorem qG {R : Result -> Shared -> Prop} {vs : List Value} {kw : List (Str × Value)} (X : K.In s.heap) (hm : PySem.W.makesIn K C = true)
 (hi : PySem.W.findIn K (.ref C) "__init__" = some (some (.ref f))) (hf : PySem.W.typeIn K (.ref f) = some (.type "function"))
 (h : codeAny (model prog w) (A.under (.builtin "type.__call__" ⟨.ref C :: vs, kw⟩)) (.call (.ref f) ⟨.ref (s.heap.objs.size + 1) :: vs, kw⟩) (PySem.W.InitBack (s.heap.objs.size + 1) R)
  { s with heap := (s.heap.push PySem.W.emptyDict).push (PySem.W.instObj C s.heap.objs.size) }) :
 codeAny (model prog w) A (.call (.ref C) ⟨vs, kw⟩) R s := by
 obtain ⟨hh, g, d, t, os⟩ := s
 exact PySem.W.make_core (PySem.W.makes_of X hm) (PySem.W.looks_findIn X hi) (fun self => PySem.W.bind_fn X self hf) (.inl rfl) h
end
def eC (f : Str) (v : V) : List (Str × V) -> List (Str × V)
 | [] => [(f, v)]
 | (g, x) :: r => if g = f then (g, v) :: r else (g, x) :: eC f v r
theorem iK (f g : Str) (v : V) : ∀ fs : List (Str × V), (eC f v fs).lookup g = if g = f then some v else fs.lookup g
 | [] => by
   show List.lookup g [(f, v)] = _
   by_cases h : g = f
   . have hb : (g == f) = true := beq_iff_eq.mpr h
     simp only [List.lookup, hb, if_pos h]
   . have hb : (g == f) = false := beq_eq_false_iff_ne.mpr h
     simp only [List.lookup, hb, if_neg h]
 | (k, x) :: r => by
   have ih := iK f g v r
   rw [show eC f v ((k, x) :: r) = (if k = f then (k, v) :: r else (k, x) :: eC f v r) from rfl]
   by_cases hk : k = f
   . rw [if_pos hk]
     by_cases h : g = k
     . have hb : (g == k) = true := beq_iff_eq.mpr h
       simp only [List.lookup, hb, if_pos (h.trans hk)]
     . have hb : (g == k) = false := beq_eq_false_iff_ne.mpr h
       simp only [List.lookup, hb, if_neg (fun e : g = f => h (e.trans hk.symm))]
   . rw [if_neg hk]
     by_cases h : g = k
     . have hb : (g == k) = true := beq_iff_eq.mpr h
       simp only [List.lookup, hb, if_neg (fun e : g = f => hk (h.symm.trans e))]
     . have hb : (g == k) = false := beq_eq_false_iff_ne.mpr h
       simp only [List.lookup, hb]
       exact ih
theorem ig (f : Str) (v : V) : ∀ fs : List (Str × V), f ∈ (eC f v fs).map (·.1) /\ ∀ g, g ∈ fs.map (·.1) -> g ∈ (eC f v fs).map (·.1)
 | [] => ⟨by simp [eC], fun g h => by simp at h⟩
 | (k, x) :: r => by
   obtain ⟨i1, i2⟩ := ig f v r
   rw [show eC f v ((k, x) :: r) = (if k = f then (k, v) :: r else (k, x) :: eC f v r) from rfl]
   by_cases hk : k = f
   . rw [if_pos hk]
     subst hk
     exact ⟨by simp, fun g h => by simpa using h⟩
   . rw [if_neg hk]
     refine ⟨?_, fun g h => ?_⟩
     . rw [List.map_cons]
       exact List.mem_cons_of_mem _ i1
     . rw [List.map_cons] at h ⊢
       rcases List.mem_cons.mp h with e | e
       . exact List.mem_cons.mpr (.inl e)
       . exact List.mem_cons_of_mem _ (i2 g e)
theorem iL (f : Str) (v : V) : ∀ fs : List (Str × V), (eC f v fs).length <= fs.length + 1
 | [] => by simp [eC]
 | (k, x) :: r => by
   have ih := iL f v r
   rw [show eC f v ((k, x) :: r) = (if k = f then (k, v) :: r else (k, x) :: eC f v r) from rfl]
   by_cases hk : k = f
   . rw [if_pos hk, List.length_cons, List.length_cons]; omega
   . rw [if_neg hk, List.length_cons, List.length_cons]; omega
theorem gk.some_of {v : V} {o : Option Value} (r : gk (some v) o) : ∃ u, o = some u /\ RelV v u := by
 cases o with
 | none => exact (show False from r).elim
 | some u => exact ⟨u, rfl, r⟩
theorem gk.none_of {o : Option Value} (r : gk none o) : o = none := by
 cases o with
 | none => rfl
 | some u => exact (show False from r).elim
theorem pV {v : V} {u : Value} (r : RelV v u) : PySem.W.handedIn u = true := by
 cases v with
 | aO => cases (show u = Value.none from r); rfl
 | bl b => cases (show u = Value.bool b from r); rfl
 | int i => obtain ⟨t, e⟩ := (show ∃ t, u = Value.int i t from r); cases e; rfl
 | str x => obtain ⟨t, e⟩ := (show ∃ t, u = Value.str x t from r); cases e; rfl
 | oS b => obtain ⟨t, e⟩ := (show ∃ t, u = Value.bytes b t from r); cases e; rfl
 | xK b => obtain ⟨t, e⟩ := (show ∃ t, u = Value.float b t from r); cases e; rfl
 | ref a => cases (show u = Value.ref a from r); rfl
 | ty n => cases (show u = Value.type n from r); rfl
section
variable {P : Program} {w : World} {H H' : Hp} {h h' : Heap} {a C dx : Addr} {fs B1 : List (Str × V)}
theorem iZ (aH : e7 P w H h) (e : H a = some (.ins C dx fs)) : ∃ mA, nC h a dx C mA /\ (∀ f, gk (fs.lookup f) (mA f)) /\ PySem.Within mA (fs.map (·.1)) /\ fs.length <= 1000 /\ H dx = some (.own a) := by
 obtain ⟨d, z, ne, ob, mA, n, r, q⟩ := (show bh P w H h a (.ins C dx fs) from aH a _ e)
 exact ⟨mA, ⟨ob, n, ne⟩, r, q, z, d⟩
end
structure j4 (K : PySem.W.Frag) (C : Addr) : Prop where
 pg : PySem.W.plainGet K C Str.empty = true
 hd : PySem.W.hasDictIn K C = true
 po : PySem.W.plainOver K C = true
 sa : PySem.W.findIn K (.ref C) "__setattr__" = some (some (.builtin "object.__setattr__"))
theorem j4.get {K : PySem.W.Frag} {C : Addr} (c : j4 K C) (f : Str) : PySem.W.plainGet K C f = true := c.pg
def cz (K : PySem.W.Frag) (C : Addr) (f : Str) : Prop := PySem.W.findIn K (.ref C) f = some none
theorem cz.Ah {K : PySem.W.Frag} {C : Addr} {f : Str} (n : cz K C f) : PySem.W.takerIn K C f = some none := by
 unfold PySem.W.takerIn
 rw [show PySem.W.findIn K (.ref C) f = some none from n]
 rfl
structure HZ (K : PySem.W.Frag) (C : Addr) (f : Str) (v : V) (u : Value) : Prop where
 at_ : PySem.W.findIn K (.ref C) f = some (some u)
 rel : RelV v u
 get : PySem.W.specialIn K u "__get__" = some none
 cp : PySem.W.copiedNames.contains f = false
structure Meth (K : PySem.W.Frag) (C : Addr) (m : Str) (f : Addr) : Prop where
 at_ : PySem.W.findIn K (.ref C) m = some (some (.ref f))
 fn : PySem.W.isFn K (.ref f) = true
 kp : PySem.W.keepIn K (.ref f) = true
section
variable {X : Cx} {pins : List (Addr × Obj)} {σ : St} {H : Hp} {s : Shared} {a C dx : Addr} {fs : List (Str × V)} {f : Str} {v : V} {A : Around} {E : Value -> Shared -> Prop}
theorem m8 {b : Bool} {Q : Value -> Shared -> Prop} (I : Inv X pins σ H s) (e : H a = some (.ins C dx fs)) (c : j4 X.K C) (n : cz X.K C f) (l : fs.lookup f = some v)
 (h : ∀ u s', Inv X pins σ H s' -> RelV v u -> Q u s') : wpAny (model X.prog X.w) A (getAttr (.ref a) f b) Q E s := by
 obtain ⟨mA, O, r, _, _, _⟩ := iZ I.aH e
 obtain ⟨u, hu, ru⟩ := gk.some_of (v := v) (o := mA f) (by rw [<- l]; exact r f)
 exact get_map I.iN O (c.get f) c.hd n hu (pV ru) (h u _ (I.tok _) ru)
theorem jN {m : Str} {g : Addr} {pl : Sem Bool} {Q : Value × List Value -> Shared -> Prop} (I : Inv X pins σ H s) (e : H a = some (.ins C dx fs)) (c : j4 X.K C) (k : Meth X.K C m g) (l : fs.lookup m = none)
 (h : Q (.ref g, [.ref a]) s) : wpAny (model X.prog X.w) A (getMethod (.ref a) m pl) Q E s := by
 obtain ⟨mA, O, r, _, _, _⟩ := iZ I.aH e
 have hn : mA m = none := gk.none_of (by rw [<- l]; exact r m)
 exact ri I.iN O (c.get m) k.at_ k.fn hn h
theorem nk {y : V} {u : Value} {Q : Unit -> Shared -> Prop} (I : Inv X pins σ H s) (e : H a = some (.ins C dx fs)) (c : j4 X.K C) (n : cz X.K C f) (hl : fs.length < 1000) (ry : RelV y u)
 (h : ∀ s', Inv X pins σ (upd H a (.ins C dx (eC f y fs))) s' -> Q () s') : wpAny (model X.prog X.w) A (setAttr (.ref a) f u) Q E s := by
 obtain ⟨mA, O, r, wi, _, ho⟩ := iZ I.aH e
 have hz : (fs.map (·.1)).length <= sizeLine := by rw [List.length_map, sizeLine_eq]; omega
 refine vo I.iN O c.sa c.po n.Ah c.hd wi hz fun h' O' sb => h _ ?_
 have hd : ∃ o, h'.get? dx = some o := let ⟨o, _, _, e', _⟩ := O'.ns; ⟨o, e'⟩
 refine I.write (x := a) (e := dx) (by rw [e]; exact True.intro) (.inr ho) (fun b q hb z => (sb.2 b hb).trans z) hd ?_
 refine ⟨by rw [ag O.ne]; exact ho, ?_, O.ne, O'.obj, _, O'.ns, fun g => ?_, fun g hg => ?_⟩
 . have := iL f y fs; omega
 . show gk ((eC f y fs).lookup g) (if g = f then some u else mA g)
   rw [iK]
   by_cases q : g = f
   . rw [if_pos q, if_pos q]; exact ry
   . rw [if_neg q, if_neg q]; exact r g
 . by_cases q : g = f
   . rw [q]; exact (ig f y fs).1
   . refine (ig f y fs).2 g (wi g fun z => hg ?_)
     show (if g = f then some u else mA g) = none
     rw [if_neg q]; exact z
theorem Inv.made (I : Inv X pins σ H s) : Inv X pins σ (upd (upd H s.heap.objs.size (.own (s.heap.objs.size + 1))) (s.heap.objs.size + 1) (.ins C s.heap.objs.size []))
 { s with heap := (s.heap.push PySem.W.emptyDict).push (PySem.W.instObj C s.heap.objs.size) } := by
 have e1 : (s.heap.push PySem.W.emptyDict).get? s.heap.objs.size = some PySem.W.emptyDict := Heap.get?_push_size s.heap rfl
 have e2 : ((s.heap.push PySem.W.emptyDict).push (PySem.W.instObj C s.heap.objs.size)).get? (s.heap.objs.size + 1) = some (PySem.W.instObj C s.heap.objs.size) := by
  have := Heap.get?_push_size (s.heap.push PySem.W.emptyDict) (o := PySem.W.instObj C s.heap.objs.size) rfl
  rwa [Heap.size_push] at this
 have e3 : (s.heap.push PySem.W.emptyDict).Ns s.heap.objs.size (fun _ => none) := ⟨PySem.W.emptyDict, #[], _, e1, rfl, (fun e he => absurd he (by simp)), fun _ => rfl⟩
 have I1 := I.laid (a := s.heap.objs.size) (o := .own (s.heap.objs.size + 1)) (h' := s.heap.push PySem.W.emptyDict) (t' := s.toks) (fun b u q => Heap.get?_push_of_some _ q) (Nat.le_refl _) ⟨_, e1⟩
 refine I1.laid (a := s.heap.objs.size + 1) (o := .ins C s.heap.objs.size []) (t' := s.toks) (fun b u q => Heap.get?_push_of_some _ q) (Nat.le_of_eq (Heap.size_push _ _)) ?_
 have ne : s.heap.objs.size ≠ s.heap.objs.size + 1 := Nat.ne_of_lt (Nat.lt_succ_self _)
 refine ⟨by rw [ag ne, aj], Nat.zero_le _, ne, e2, fun _ => none, (Heap.Ns1.of_empty e3).at fun o q => Heap.get?_push_of_some _ q, fun _ => True.intro, fun y hy => absurd rfl hy⟩
theorem uc {prog : Program} {w : World} {env : Env} {e : Expr} {f : Str} {pos : Pos} {s : Shared} {Q : Value -> Shared -> Prop} (hb : attributeBase e f env (eval e env) = eval e env)
 (h : wpAny (model prog w) A (eval e env) (fun o s₁ => wpAny (model prog w) A (getAttr o f true) Q E s₁) E s) : wpAny (model prog w) A (eval (.Attribute e f pos) env) Q E s :=
 Attribute_any_ h (by rw [arm_eval_Attribute, hb])
end
def zL (K : PySem.W.Frag) (ta : TE) (f : Str) : TE := fun σ H Q => ta σ H fun x H1 => ∃ a C dx fs v, x = .ref a /\ H1 a = some (.ins C dx fs) /\ j4 K C /\ cz K C f /\ fs.lookup f = some v /\ Q v H1
def A3 (K : PySem.W.Frag) (ta tv : TE) (f : Str) : TS := fun D σ H => tv σ H fun y H1 => ta σ H1 fun x H2 => ∃ a C dx fs, x = .ref a /\ H2 a = some (.ins C dx fs) /\ j4 K C /\ cz K C f /\ fs.length < 1000 /\
 D.nx σ (upd H2 a (.ins C dx (eC f y fs)))
section
variable {X : Cx} {o e value : Expr} {f : Str} {pos pos' wA : Pos} {ta tv : TE}
theorem fY (he : PE X e ta) (hb : attributeBase e f X.env (eval e X.env) = eval e X.env) : PE X (.Attribute e f pos) (zL X.K ta f) := by
 intro pins s σ H Q I h
 refine uc hb (bH (he pins s σ H _ I h) fun u s1 ⟨x, H1, I1, rx, a, C, dx, fs, v, ex, ea, c, n, l, q⟩ => ?_)
 subst ex
 obtain rfl : u = Value.ref a := rx
 exact m8 I1 ea c n l fun u' s2 I2 ru => ⟨v, H1, I2, ru, q⟩
theorem rG (ha : PE X o ta) (hv : PE X value tv) (hs : swapsWith value (some (.Attribute o f pos')) pos.line X.env = pure false) : PS X (.Assign [.Attribute o f pos'] value pos) (A3 X.K ta tv f) := by
 intro pins s σ H D I h
 refine plainObj_wpAny_Assign_Attribute (bH (hv pins s σ H _ I h) fun u s1 ⟨y, H1, I1, ry, q⟩ => bH (ha pins s1 σ H1 _ I1 q) fun ov s2 ⟨x, H2, I2, rx, a, C, dx, fs, ex, ea, c, n, l, q2⟩ => ?_) hs
 subst ex
 obtain rfl : ov = Value.ref a := rx
 exact nk I2 ea c n l ry fun s3 I3 => ⟨σ, _, I3, q2⟩
end
section
variable {X : Cx} {pins : List (Addr × Obj)} {σ : St} {H : Hp} {s : Shared} {A : Around} {E : Value -> Shared -> Prop} {Q : Value -> Shared -> Prop} {c : Value} {b : Bool}
inductive hU (K : PySem.W.Frag) (H : Hp) : V -> Value -> Prop where
 | aO : hU K H .aO (.type "NoneType")
 | bl (x : Bool) : hU K H (.bl x) (.type "bool")
 | int (i : Int) : hU K H (.int i) (.type "int")
 | str (x : Str) : hU K H (.str x) (.type "str")
 | xK (x : UInt64) : hU K H (.xK x) (.type "float")
 | lst {a : Addr} {xs : List V} (e : H a = some (.lst xs)) : hU K H (.ref a) (.type "list")
 | cg {a : Addr} {o : Obj} {xs : List V} (e : H a = some (.cg o (.lst xs))) : hU K H (.ref a) (.type "list")
 | tup {a : Addr} {xs : List V} (e : H a = some (.tup xs)) : hU K H (.ref a) (.type "tuple")
 | dK {a : Addr} {kvs : List (Key × V)} (e : H a = some (.dK kvs)) : hU K H (.ref a) (.type "dict")
 | dT {a : Addr} {kvs : List (List Key × V)} (e : H a = some (.dT kvs)) : hU K H (.ref a) (.type "dict")
 | ins {a C dx : Addr} {fs : List (Str × V)} (e : H a = some (.ins C dx fs)) (cl : j4 K C) (ha : PySem.W.findIn K (.ref C) "__class__" = some (some (.builtin "object.__class__")))
  (hn : PySem.W.specialIn K (.builtin "object.__class__") "__get__" = some (some (.builtin "getset_descriptor.__get__"))) (rj : PySem.W.takesIn K (.builtin "object.__class__") = some true)
  (hm : PySem.W.mroIn K C (.type "object") = some true) : hU K H (.ref a) (.ref C)
theorem pR {x : V} {u t : Value} (I : Inv X pins σ H s) (rx : RelV x u) (ty : hU X.K H x t) (e : PySem.W.kitOne X.K t c = some b) (h : ∀ tk, Q (.bool b) { s with toks := tk }) :
 wpAny (model X.prog X.w) A (call (.builtin "isinstance") [u, c]) Q E s := by
 cases ty with
 | aO => cases (show u = Value.none from rx); exact PySem.W.kia_one PySem.W.kitx_none I.iN True.intro e (fun z => nomatch z) h
 | bl y => cases (show u = Value.bool y from rx); exact PySem.W.kia_one PySem.W.kitx_bool I.iN True.intro e (fun z => nomatch z) h
 | int i => obtain ⟨t, q⟩ := (show ∃ t, u = Value.int i t from rx); cases q; exact PySem.W.kia_one PySem.W.kitx_int I.iN True.intro e (fun z => nomatch z) h
 | str y => obtain ⟨t, q⟩ := (show ∃ t, u = Value.str y t from rx); cases q; exact PySem.W.kia_one PySem.W.kitx_str I.iN True.intro e (fun z => nomatch z) h
 | xK y => obtain ⟨t, q⟩ := (show ∃ t, u = Value.float y t from rx); cases q; exact PySem.W.kia_one PySem.W.kitx_float I.iN True.intro e (fun z => nomatch z) h
 | @lst a xs ea =>
   cases (show u = Value.ref a from rx)
   obtain ⟨_, _, n, _, h1⟩ := (show bh X.prog X.w H s.heap a (.lst xs) from I.aH a _ ea)
   exact PySem.W.kia_one PySem.W.kitx_list I.iN ⟨_, h1, rfl⟩ e (fun z => nomatch z) h
 | @cg a ob xs ea =>
   cases (show u = Value.ref a from rx)
   obtain ⟨_, _, _, n, _, h1⟩ := (show bh X.prog X.w H s.heap a (.cg ob (.lst xs)) from I.aH a _ ea)
   exact PySem.W.kia_one PySem.W.kitx_list I.iN ⟨_, h1, rfl⟩ e (fun z => nomatch z) h
 | @tup a xs ea =>
   cases (show u = Value.ref a from rx)
   obtain ⟨_, _, _, p⟩ := (show bh X.prog X.w H s.heap a (.tup xs) from I.aH a _ ea)
   obtain ⟨o, h1, h2, _⟩ := p
   exact PySem.W.kia_one PySem.W.kitx_tuple I.iN ⟨o, h1, h2⟩ e (fun z => nomatch z) h
 | @dK a kvs ea =>
   cases (show u = Value.ref a from rx)
   obtain ⟨_, _, vs, _, p⟩ := (show bh X.prog X.w H s.heap a (.dK kvs) from I.aH a _ ea)
   obtain ⟨o, es, ep, h1, h2, _⟩ := p
   exact PySem.W.kia_one PySem.W.kitx_dict I.iN ⟨o, h1, h2.1⟩ e (fun z => nomatch z) h
 | @dT a kvs ea =>
   cases (show u = Value.ref a from rx)
   obtain ⟨_, _, xs, _, o, es, ep, h1, h2, _⟩ := (show bh X.prog X.w H s.heap a (.dT kvs) from I.aH a _ ea)
   exact PySem.W.kia_one PySem.W.kitx_dict I.iN ⟨o, h1, h2.1⟩ e (fun z => nomatch z) h
 | @ins a C dx fs ea cl ha hn rj hm =>
   cases (show u = Value.ref a from rx)
   obtain ⟨mA, O, _⟩ := iZ I.aH ea
   obtain ⟨od, J, _⟩ := O.look
   exact PySem.W.kia_one (PySem.W.kitx_own (cl.get _) cl.hd ha hn rj hm) I.iN J e (fun z => nomatch z) h
end
structure bj (k : Nat) (A : Around) : Prop where
 hd : A.handled = none
 dp : A.depth + 3 * k + 5 < recursionLimit
 un : A.units + 16 * k + 200 < cLine
theorem bj.mono {j k : Nat} {A : Around} (r : bj k A) (h : j <= k) : bj j A := ⟨r.hd, by have := r.dp; omega, by have := r.un; omega⟩
theorem bj.deeper {k : Nat} {A : Around} (r : bj (k + 1) A) (env : Env) : bj k (A.deeper env) :=
 ⟨r.hd, by have := r.dp; show A.depth + 1 + 3 * k + 5 < _; omega, by have := r.un; show A.units + 3 + 16 * k + 200 < _; omega⟩
theorem bj.in1 {k : Nat} {A : Around} (r : bj (k + 1) A) : bj k A.in1 :=
 ⟨r.hd, by have := r.dp; show A.depth + 3 * k + 5 < _; omega, by have := r.un; show A.units + 1 + 16 * k + 200 < _; omega⟩
theorem mS {A : Around} {C : Addr} {us : List Value} {kw : List (Str × Value)} : (A.under (.builtin "type.__call__" ⟨.ref C :: us, kw⟩)).depth = A.depth + 1 := by
 first | rfl | simp [Around.under, Code.weight, Code.isCreation, Code.isGuard, Code.isCaller, Code.frames, Code.isFrame, guardIds]
theorem m3 {A : Around} {C : Addr} {us : List Value} {kw : List (Str × Value)} : (A.under (.builtin "type.__call__" ⟨.ref C :: us, kw⟩)).units = A.units + 1 := by
 first | rfl | simp [Around.under, Code.cUnits, Code.frames, Code.isFrame]
theorem bj.make {k : Nat} {A : Around} (r : bj (k + 1) A) (C : Addr) (us : List Value) (kw : List (Str × Value)) : bj k (A.under (.builtin "type.__call__" ⟨.ref C :: us, kw⟩)) :=
 ⟨r.hd, by have := r.dp; rw [mS]; omega, by have := r.un; rw [m3]; omega⟩
theorem bj.depth {k : Nat} {A : Around} (r : bj k A) : A.depth < recursionLimit := by have := r.dp; omega
theorem bj.units {k : Nat} {A : Around} (r : bj k A) : A.units + 64 < cLine := by have := r.un; omega
def m5 : TA := fun _ H Q => Q [] H
def vU (ta : TE) (tr : TA) : TA := fun σ H Q => ta σ H fun x H1 => tr σ H1 fun xs H2 => Q (x :: xs) H2
section
variable {X : Cx} {e : Expr} {es : List Expr} {te : TE} {t : TA} {pos : Pos}
theorem aq : PA X [] m5 := fun _ _ _ _ H Q I h => Calls.spliced_nil ⟨[], H, I, .nil, h⟩
theorem af (ha : PE X e te) (hr : PA X es t) (hs : starEach (e :: es) X.env = (false, eval e X.env) :: starEach es X.env := by rfl) : PA X (e :: es) (vU te t) := by
 intro pos pins s σ H Q I h
 rw [hs]
 show wpAny _ _ (spliced ((false, eval e X.env) :: backTo pos (starEach es X.env))) _ _ s
 refine Calls.spliced_cons (bH (ha pins s σ H _ I h) fun u s1 ⟨x, H1, I1, r1, q1⟩ => ?_)
 exact bH (hr pos pins s1 σ H1 _ I1 q1) fun us s2 ⟨xs, H2, I2, r2, q2⟩ => ⟨x :: xs, H2, I2, .cons r1 r2, q2⟩
def CD (t : TA) : TE := fun σ H Q => t σ H fun xs H1 => xs.length <= sizeLine /\ ∀ p, H1 p = none -> Q (.ref p) (upd H1 p (.tup xs))
def Ee (t : TA) : TE := fun σ H Q => t σ H fun xs H1 => xs.length <= sizeLine /\ ∀ p, H1 p = none -> Q (.ref p) (upd H1 p (.lst xs))
theorem yE {x1} (h : PA X es t) : PE X (.Tuple es x1 pos) (CD t) := by
 intro pins s σ H Q I hq
 refine wpAny_Tuple_spliced (bH (h pos pins s σ H _ I hq) fun us s1 ⟨xs, H1, I1, r, z, q⟩ => ⟨by rw [<- r.length]; exact z, ?_⟩)
 have hf : H1 s1.heap.objs.size = none := I1.aH.fresh (Nat.le_refl _)
 refine ⟨.ref s1.heap.objs.size, upd H1 s1.heap.objs.size (.tup xs), I1.laid (t' := s1.toks) (fun b u e => Heap.get?_push_of_some _ e) (Nat.le_refl _) ?_, rfl, q _ hf⟩
 exact ⟨z, us, r, ⟨_, Heap.get?_push_size _ rfl, rfl, _, rfl⟩⟩
theorem xq (h : PA X es t) : PE X (.List es pos) (Ee t) := by
 intro pins s σ H Q I hq
 refine wpAny_List_spliced (bH (h pos pins s σ H _ I hq) fun us s1 ⟨xs, H1, I1, r, z, q⟩ => ⟨by rw [<- r.length]; exact z, ?_⟩)
 have hf : H1 s1.heap.objs.size = none := I1.aH.fresh (Nat.le_refl _)
 refine ⟨.ref s1.heap.objs.size, upd H1 s1.heap.objs.size (.lst xs), I1.laid (t' := s1.toks) (fun b u e => Heap.get?_push_of_some _ e) (Nat.le_refl _) ?_, rfl, q _ hf⟩
 exact ⟨z, us, 0, r, Heap.get?_push_size _ rfl⟩
end
abbrev Sp := List V -> Hp -> VK -> XK -> Prop
abbrev lY := List Env -> Hp -> Shared -> XK -> Value -> Shared -> Prop
structure jZ (P : Program) (w : World) (K : PySem.W.Frag) (mg : Str -> Option Value) (base : Heap) (A : Around) (outer : List Env) (s : Shared) (H : Hp) : Prop where
 frames : A.frames = some outer
 mod : Mod K mg base
 bs : ∀ b o, base.get? b = some o -> s.heap.get? b = some o /\ H b = none
 qx : base.objs.size <= s.heap.objs.size
 gH : s.heap.FunFrames base outer
 tK : ∀ b ∈ mq outer, H b = none
 aH : e7 P w H s.heap
 bare : AllBare s.gens
def CE (outer : List Env) (P : Program) (w : World) (H : Hp) (s : Shared) (Q : VK) (u : Value) (s' : Shared) : Prop :=
 ∃ v H', s'.os = s.os /\ AllBare s'.gens /\ Un (mq outer) [] H H' s.heap s'.heap /\ e7 P w H' s'.heap /\ RelV v u /\ Q v H'
def CR (CX : lY) (outer : List Env) (P : Program) (w : World) (H : Hp) (s : Shared) (Q : VK) (E : XK) (r : Result) (s' : Shared) : Prop :=
 match r with
 | .ok (.ret u) => CE outer P w H s Q u s'
 | .ok _ => False
 | .error e => CX outer H s E e s'
structure bS (P : Program) (w : World) (K : PySem.W.Frag) (mg : Str -> Option Value) (base : Heap) (CX : lY) (k : Nat) (f : Addr) (fd : FuncData) (ps : List Str) (sp : Sp) : Prop where
 len : ∀ vs H Q E, sp vs H Q E -> vs.length = ps.length
 run : ∀ (A : Around) (outer : List Env) (s : Shared) (H : Hp) (args : Args) (us : List Value) (vs : List V) (Q : VK) (E : XK), bj k A -> jZ P w K mg base A outer s H -> BindsTo s fd args (ps.zip us) -> Vals vs us -> sp vs H Q E ->
  codeAny (model P w) A (.call (.ref f) args) (CR CX outer P w H s Q E) s
theorem bS.mono {P : Program} {w : World} {K : PySem.W.Frag} {mg : Str -> Option Value} {base : Heap} {CX : lY} {j k : Nat} {f : Addr} {fd : FuncData} {ps : List Str} {sp : Sp} (F : bS P w K mg base CX j f fd ps sp) (h : j <= k) :
 bS P w K mg base CX k f fd ps sp := ⟨F.len, fun A outer s H args us vs Q E hr => F.run A outer s H args us vs Q E (hr.mono h)⟩
theorem jZ.make {P : Program} {w : World} {K : PySem.W.Frag} {mg : Str -> Option Value} {base : Heap} {A : Around} {outer : List Env} {s : Shared} {H : Hp} (e : jZ P w K mg base A outer s H) (C : Addr) (us : List Value) (kw : List (Str × Value)) :
 jZ P w K mg base (A.under (.builtin "type.__call__" ⟨.ref C :: us, kw⟩)) outer s H := ⟨by first | exact e.frames | (simpa [Around.under, Code.envs, Code.isFrame, pushEnvs] using e.frames), e.mod, e.bs, e.qx, e.gH, e.tK, e.aH, e.bare⟩
theorem jZ.in1 {P : Program} {w : World} {K : PySem.W.Frag} {mg : Str -> Option Value} {base : Heap} {A : Around} {outer : List Env} {s : Shared} {H : Hp} (e : jZ P w K mg base A outer s H) :
 jZ P w K mg base A.in1 outer s H := ⟨e.frames, e.mod, e.bs, e.qx, e.gH, e.tK, e.aH, e.bare⟩
section
variable {X : Cx} {pins : List (Addr × Obj)} {σ : St} {H : Hp} {s s' : Shared}
theorem Inv.vh (I : Inv X pins σ H s) : jZ X.prog X.w X.K X.mg X.base X.A X.stack s H :=
 ⟨I.ok.frames, I.ok.mod, I.bs, Nat.le_trans I.ok.qx I.sz, I.stack, I.oA, I.aH, I.bare⟩
theorem Inv.after {Q : VK} {u : Value} (I : Inv X pins σ H s) (h : CE X.stack X.prog X.w H s Q u s') : EP X pins σ Q u s' := by
 obtain ⟨v, H', os, bare, un, aH, r, q⟩ := h
 obtain ⟨hh, g, d, t, Ek⟩ := s'
 obtain rfl : Ek = s.os := os
 exact ⟨v, H', I.call (h' := hh) (g' := g) (d' := d) (t' := t) (ch := []) un aH bare (fun b z => absurd z (by simp)), r, q⟩
end
def oE (sp : Sp) (bP : List V) (E : XK) (t : TA) : TE := fun σ H Q => t σ H fun vs H1 => sp (vs ++ bP) H1 Q E
def kj (C : Addr) (m : Str) (sp : Sp) (bP : List V) (E : XK) (ta : TE) (t : TA) : TE := fun σ H Q => ta σ H fun x H1 => ∃ a dx fs, x = .ref a /\ H1 a = some (.ins C dx fs) /\ fs.lookup m = none /\
 t σ H1 fun vs H2 => sp (x :: (vs ++ bP)) H2 Q E
def rD (C : Addr) (sp : Sp) (bP : List V) (E : XK) (t : TA) : TE := fun σ H Q => t σ H fun vs H1 => ∀ x dx, H1 x = none -> H1 dx = none -> dx ≠ x ->
 sp (.ref x :: (vs ++ bP)) (upd (upd H1 dx (.own x)) x (.ins C dx [])) (fun v H2 => v = .aO /\ Q (.ref x) H2) E
def Binds (K : PySem.W.Frag) (fd : FuncData) (ps : List Str) (ds : List Value) : Prop :=
 ∀ (s : Shared) (us : List Value), K.In s.heap -> (us ++ ds).length = ps.length -> BindsTo s fd ⟨us, []⟩ (ps.zip (us ++ ds))
theorem Binds.all {K : PySem.W.Frag} {fd : FuncData} {ps : List Str} (h : ∀ us : List Value, us.length = ps.length -> bindArgs fd ⟨us, []⟩ = pure (ps.zip us)) : Binds K fd ps [] := fun s us _ hl => by
 rw [List.append_nil] at hl ⊢
 exact .of_eq (h us hl)
def Passes (CX : lY) (X : Cx) (E : XK) : Prop := ∀ (pins : List (Addr × Obj)) (σ : St) (H : Hp) (s : Shared) (e : Value) (s' : Shared), Inv X pins σ H s -> CX X.stack H s E e s' -> X.xe e s'
section
variable {X : Cx} {CX : lY} {k : Nat} {f C : Addr} {fd : FuncData} {ps : List Str} {sp : Sp} {bP : List V} {ds : List Value} {E : XK} {x m : Str} {p pos apos : Pos} {e o : Expr} {es : List Expr} {ta : TE} {t : TA}
theorem mZ {pins : List (Addr × Obj)} {σ : St} {H : Hp} {s : Shared} {Q : VK} {us : List Value} {vs : List V} (F : bS X.prog X.w X.K X.mg X.base CX k f fd ps sp) (hr : bj k X.A) (hb : Binds X.K fd ps ds) (hd : Vals bP ds) (hx : Passes CX X E)
 (I : Inv X pins σ H s) (r : Vals vs us) (h : sp (vs ++ bP) H Q E) : wpAny (model X.prog X.w) X.A (call (.ref f) us) (EP X pins σ Q) X.xe s := by
 have r2 : Vals (vs ++ bP) (us ++ ds) := r.append hd
 have hl : (us ++ ds).length = ps.length := by rw [<- r2.length]; exact F.len _ _ _ _ h
 refine wpAny_call (codeAny_mono (F.run X.A X.stack s H ⟨us, []⟩ (us ++ ds) (vs ++ bP) Q E hr I.vh (hb s us I.iN hl) r2 h) fun r s' hq => ?_)
 cases r with
 | error e => exact hx pins σ H s e s' I hq
 | ok fl =>
   cases fl with
   | ret u => exact I.after hq
   | next => exact False.elim hq
   | brk => exact False.elim hq
   | cont => exact False.elim hq
theorem uE (F : bS X.prog X.w X.K X.mg X.base CX k f fd ps sp) (hr : bj k X.A) (hg : Gl X x) (hm : X.mg x = some (.ref f)) (hk : PySem.W.keepIn X.K (.ref f) = true) (hb : Binds X.K fd ps ds) (hd : Vals bP ds) (hx : Passes CX X E)
 (ha : PA X (e :: es) t) (p6 : (x == ("__debug__" : Str)) = false := by decide) (he : starEach (e :: es) X.env = (false, eval e X.env) :: starEach es X.env := by rfl) (lz : (backTo pos (starEach es X.env)).any (·.1) = false := by rfl) :
 PE X (.Call (.Name x p) (e :: es) [] pos) (oE sp bP E t) := by
 intro pins s σ H Q I h
 refine wpAny_Call_Name_kw (kG I hg hm ?_ p6)
 refine PySem.W.callWith_K (h₀ := X.base) I.ok.mod.Cb hk (bH (ha pos pins s σ H _ I h) fun us s1 ⟨vs, H1, I1, r, q⟩ => ⟨I1.iN, ?_⟩) he lz
 exact mZ F hr hb hd hx I1 r q
theorem uq {pl : Sem Bool} (he : PE X o ta) (c : j4 X.K C) (hm : Meth X.K C m f) (F : bS X.prog X.w X.K X.mg X.base CX k f fd ps sp) (hr : bj k X.A) (hb : Binds X.K fd ps ds) (hd : Vals bP ds) (hx : Passes CX X E) (ha : PA X (e :: es) t)
 (i5 : starEach (e :: es) X.env = (false, eval e X.env) :: starEach es X.env := by rfl) (lz : (backTo pos (starEach es X.env)).any (·.1) = false := by rfl)
 (ht : eval (.Call (.Attribute o m apos) (e :: es) [] pos) X.env = (do
  let ov <- eval o X.env
  standAt apos.atName
  let (f, first) <- holding [ov] (getMethod ov m pl)
  callWith pos f first (backTo pos (starEach (e :: es) X.env)) (backToKw pos (keywordEach [] X.env))) := by rfl) :
 PE X (.Call (.Attribute o m apos) (e :: es) [] pos) (kj C m sp bP E ta t) := by
 intro pins s σ H Q I h
 refine PySem.W.methodCall_KW (pl := pl) (bH (he pins s σ H _ I h) fun u s1 ⟨x, H1, I1, rx, a, dx, fs, ex, ea, l, q⟩ => ?_) ht
 subst ex
 obtain rfl : u = Value.ref a := rx
 refine jN I1 ea c hm l ?_
 refine PySem.W.callWith_K (first := [.ref a]) (h₀ := X.base) I.ok.mod.Cb hm.kp (bH (ha pos pins s1 σ H1 _ I1 q) fun us s2 ⟨vs, H2, I2, r, q2⟩ => ⟨I2.iN, ?_⟩) i5 lz
 exact mZ (us := .ref a :: us) (vs := .ref a :: vs) F hr hb hd hx I2 (.cons rfl r) q2
theorem qU {pl : Sem Bool} (he : PE X o ta) (c : j4 X.K C) (hm : Meth X.K C m f) (F : bS X.prog X.w X.K X.mg X.base CX k f fd ps sp) (hr : bj k X.A) (hb : Binds X.K fd ps ds) (hd : Vals bP ds) (hx : Passes CX X E)
 (ht : eval (.Call (.Attribute o m apos) [] [] pos) X.env = (do
  let ov <- eval o X.env
  standAt apos.atName
  let (f, first) <- holding [ov] (getMethod ov m pl)
  callWith pos f first (backTo pos (starEach [] X.env)) (backToKw pos (keywordEach [] X.env))) := by rfl) :
 PE X (.Call (.Attribute o m apos) [] [] pos) (kj C m sp bP E ta m5) := by
 intro pins s σ H Q I h
 refine PySem.W.methodCall_KW (pl := pl) (bH (he pins s σ H _ I h) fun u s1 ⟨x, H1, I1, rx, a, dx, fs, ex, ea, l, q⟩ => ?_) ht
 subst ex
 obtain rfl : u = Value.ref a := rx
 refine jN I1 ea c hm l ?_
 exact PySem.W.callWith_K0 (first := [.ref a]) I1.iN hm.kp (mZ (us := [.ref a]) (vs := [.ref a]) F hr hb hd hx I1 (.cons rfl .nil) q)
structure Mk (K : PySem.W.Frag) (C f : Addr) : Prop where
 makes : PySem.W.makesIn K C = true
 init : PySem.W.findIn K (.ref C) "__init__" = some (some (.ref f))
 fn : PySem.W.isFn K (.ref f) = true
 kp : PySem.W.keepIn K (.ref C) = true
theorem r6 {pins : List (Addr × Obj)} {σ : St} {H : Hp} {s : Shared} {Q : VK} {us : List Value} {vs : List V} (M : Mk X.K C f) (F : bS X.prog X.w X.K X.mg X.base CX k f fd ps sp) (hr : bj (k + 1) X.A) (hb : Binds X.K fd ps ds) (hd : Vals bP ds)
 (hx : Passes CX X E) (I : Inv X pins σ H s) (r : Vals vs us)
 (h : ∀ x dx, H x = none -> H dx = none -> dx ≠ x -> sp (.ref x :: (vs ++ bP)) (upd (upd H dx (.own x)) x (.ins C dx [])) (fun v H2 => v = .aO /\ Q (.ref x) H2) E) :
 wpAny (model X.prog X.w) X.A (call (.ref C) us) (EP X pins σ Q) X.xe s := by
 have hq := h (s.heap.objs.size + 1) s.heap.objs.size (I.aH.fresh (Nat.le_succ _)) (I.aH.fresh (Nat.le_refl _)) (Nat.ne_of_lt (Nat.lt_succ_self _))
 have I2 := Inv.made (C := C) I
 have r2 : Vals (V.ref (s.heap.objs.size + 1) :: (vs ++ bP)) (Value.ref (s.heap.objs.size + 1) :: (us ++ ds)) := .cons rfl (r.append hd)
 have hl : (Value.ref (s.heap.objs.size + 1) :: us ++ ds).length = ps.length := by
  have e := r2.length
  rw [F.len _ _ _ _ hq] at e
  exact e.symm
 refine wpAny_call (qG (f := f) I.iN M.makes M.init (beq_iff_eq.mp M.fn) (codeAny_mono (F.run _ X.stack _ _ ⟨Value.ref (s.heap.objs.size + 1) :: us, []⟩ (Value.ref (s.heap.objs.size + 1) :: (us ++ ds)) _ _ E (hr.make C us [])
  (I2.vh.make C us []) (hb _ (Value.ref (s.heap.objs.size + 1) :: us) I2.iN hl) r2 hq) fun r s' ye => ?_))
 cases r with
 | error e => exact hx pins σ _ _ e s' I2 ye
 | ok fl =>
   cases fl with
   | ret u =>
     obtain ⟨v, H', I3, rv, ev, q3⟩ := I2.after ye
     subst ev
     exact ⟨rv, ⟨V.ref (s.heap.objs.size + 1), H', I3, rfl, q3⟩⟩
   | next => exact False.elim ye
   | brk => exact False.elim ye
   | cont => exact False.elim ye
theorem qD (M : Mk X.K C f) (F : bS X.prog X.w X.K X.mg X.base CX k f fd ps sp) (hr : bj (k + 1) X.A) (hg : Gl X x) (hm : X.mg x = some (.ref C)) (hb : Binds X.K fd ps ds) (hd : Vals bP ds) (hx : Passes CX X E)
 (p6 : (x == ("__debug__" : Str)) = false := by decide) : PE X (.Call (.Name x p) [] [] pos) (rD C sp bP E m5) := by
 intro pins s σ H Q I h
 refine wpAny_Call_Name_kw (kG I hg hm ?_ p6)
 exact PySem.W.callWith_K0 I.iN M.kp (r6 (us := []) M F hr hb hd hx I .nil h)
end
section
variable {X : Cx} {CX : lY} {k : Nat} {f C : Addr} {fd : FuncData} {ps ks : List Str} {sp : Sp} {E : XK} {x m : Str} {p pos apos xm : Pos} {e o : Expr} {es : List Expr} {Ij : List Keyword} {te ta : TE} {t tk : TA} {nm : Option Str}
structure Dm (K : PySem.W.Frag) (fd : FuncData) (ps ks : List Str) (g : List Value -> List Value -> List Value) (gV : List V -> List V -> List V) : Prop where
 to : ∀ (s : Shared) (us ws : List Value), K.In s.heap -> (g us ws).length = ps.length -> BindsTo s fd ⟨us, ks.zip ws⟩ (ps.zip (g us ws))
 rel : ∀ {vs : List V} {us : List Value} {zs : List V} {ws : List Value}, Vals vs us -> Vals zs ws -> Vals (gV vs zs) (g us ws)
variable {g : List Value -> List Value -> List Value} {gV : List V -> List V -> List V}
end
structure aP (N P : List Str) (sc : Scope) : Prop where
 kind : sc.kind = .function
 co : sc.isCoroutine = false
 gen : sc.isGenerator = false
 nd : N.Nodup
 pre : N.take P.length = P
 par : ∀ x ∈ P, sc.names.lookup x = some .local \/ sc.names.lookup x = some .cell
 yp : ∀ y ∈ sc.names, y.2 ≠ .free
theorem kF {kindOf : Str -> Option NameKind} {x : Str} : ∀ {binds : List (Str × Value)} {m : Str -> Option Value}, (∀ v, (x, v) ∉ binds) -> bindL kindOf binds m x = m x
 | [], _, _ => rfl
 | (n, v) :: r, m, h => by
   unfold bindL
   rw [kF fun w hw => h w (List.mem_cons_of_mem _ hw)]
   split
   . have : x ≠ n := by rintro rfl; exact h v List.mem_cons_self
     simp [this]
   . rfl
theorem kn {kindOf : Str -> Option NameKind} {x : Str} : ∀ {binds : List (Str × Value)} {m : Str -> Option Value}, (∀ v, (x, v) ∉ binds) -> bindC kindOf binds m x = m x
 | [], _, _ => rfl
 | (n, v) :: r, m, h => by
   unfold bindC
   rw [kn fun w hw => h w (List.mem_cons_of_mem _ hw)]
   split
   . rfl
   . have : x ≠ n := by rintro rfl; exact h v List.mem_cons_self
     simp [this]
theorem kl {kindOf : Str -> Option NameKind} {x : Str} {v : Value} : ∀ {P : List Str} {vs : List Value} {i : Nat} {m : Str -> Option Value}, P.Nodup -> P[i]? = some x -> vs[i]? = some v -> kindOf x = some .local ->
 bindL kindOf (P.zip vs) m x = some v
 | [], _, _, _, _, h, _, _ => by simp at h
 | _ :: _, [], _, _, _, _, h, _ => by simp at h
 | p :: P, w :: vs, 0, m, nd, h1, h2, hk => by
   simp at h1 h2; subst h1; subst h2
   show bindL kindOf ((p, w) :: P.zip vs) m p = _
   unfold bindL
   rw [kF fun v hv => (List.nodup_cons.mp nd).1 (List.of_mem_zip hv).1, if_pos hk]
   simp
 | p :: P, w :: vs, i + 1, m, nd, h1, h2, hk => by
   show bindL kindOf ((p, w) :: P.zip vs) m x = _
   unfold bindL
   exact kl (i := i) (List.nodup_cons.mp nd).2 (by simpa using h1) (by simpa using h2) hk
theorem ku {kindOf : Str -> Option NameKind} {x : Str} {v : Value} : ∀ {P : List Str} {vs : List Value} {i : Nat} {m : Str -> Option Value}, P.Nodup -> P[i]? = some x -> vs[i]? = some v -> kindOf x ≠ some .local ->
 bindC kindOf (P.zip vs) m x = some v
 | [], _, _, _, _, h, _, _ => by simp at h
 | _ :: _, [], _, _, _, _, h, _ => by simp at h
 | p :: P, w :: vs, 0, m, nd, h1, h2, hk => by
   simp at h1 h2; subst h1; subst h2
   show bindC kindOf ((p, w) :: P.zip vs) m p = _
   unfold bindC
   rw [kn fun v hv => (List.nodup_cons.mp nd).1 (List.of_mem_zip hv).1, if_neg hk]
   simp
 | p :: P, w :: vs, i + 1, m, nd, h1, h2, hk => by
   show bindC kindOf ((p, w) :: P.zip vs) m x = _
   unfold bindC
   exact ku (i := i) (List.nodup_cons.mp nd).2 (by simpa using h1) (by simpa using h2) hk
def start (N : List Str) (vs : List V) : St := vs.map some ++ List.replicate (N.length - vs.length) none
def nQ (CX : lY) (P : Program) (w : World) (K : PySem.W.Frag) (mg : Str -> Option Value) (base : Heap) (N : List Str) (qual : Str) (scope : Scope) (f : Addr) (cd : Value) (A : Around) (outer : List Env) (s : Shared) (H : Hp) (E : XK) : Cx where
 prog := P
 w := w
 K := K
 mg := mg
 base := base
 A := A.deeper (envOfC qual scope s.heap.objs.size f cd)
 N := N
 ck := s
 lR := H
 env := envOfC qual scope s.heap.objs.size f cd
 outer := outer
 stack := envOfC qual scope s.heap.objs.size f cd :: outer
 ex := []
 calm := true
 fn := fun _ => true
 pn := []
 xe := fun e s' => wpAny (model P w) (A.deeper (envOfC qual scope s.heap.objs.size f cd)) (leaving (envOfC qual scope s.heap.objs.size f cd) e) (fun _ D0 => CX outer H s E e D0) (fun e' D0 => CX outer H s E e' D0) s'
theorem md {sc : Scope} {n : Nat} {x : Str} (h : sc.names.lookup x = some .cell) : ∃ c, (cellsFrom n sc.names []).lookup x = some c := by
 have q := PySem.W.cellsFrom_some sc.names n [] (.inl h)
 exact Option.isSome_iff_exists.mp q
theorem pZ {CX : lY} {P : Program} {w : World} {K : PySem.W.Frag} {mg : Str -> Option Value} {base : Heap} {N ps : List Str} {qual : Str} {scope : Scope} {f : Addr} {cd : Value} {A : Around} {outer : List Env} {s s1 : Shared} {H : Hp} {E : XK} {us : List Value} {vs : List V}
 (S : aP N ps scope) (hd : A.handled = none) (e0 : jZ P w K mg base A outer s H) (hl : vs.length = ps.length) (r : Vals vs us)
 (x : InCallC s s.heap.objs.size (bindL (envOfC qual scope s.heap.objs.size f cd).kindOf (ps.zip us) fun _ => none) (cellsFrom (s.heap.objs.size + 1) scope.names []) (bindC (envOfC qual scope s.heap.objs.size f cd).kindOf (ps.zip us) fun _ => none) s1) :
 Inv (nQ CX P w K mg base N qual scope f cd A outer s H E) [] (start N vs) H s1 := by
 have lz : ps.length <= N.length := by have := congrArg List.length S.pre; rw [List.length_take] at this; omega
 obtain ⟨h1, tk, rfl, hk⟩ := x.done
 have tV : ∀ b : Addr, b ∉ (nQ CX P w K mg base N qual scope f cd A outer s H E).ex := fun b z => absurd (show b ∈ ([] : List Addr) from z) (by simp)
 refine ⟨⟨e0.mod, S.kind, rfl, rfl, Nat.le_refl _, fun y z c h1 h2 => ?_, fun y hy => ?_, fun y c _ h => ?_, fun _ => hd, Around.frames_deeper e0.frames, .inr ⟨rfl, rfl⟩, fun b z => absurd z (tV b), e0.bs, e0.qx, fun b _ _ => tV b, fun b z => absurd z (tV b), e0.gH, e0.tK⟩,
  rfl, e0.bare, Un.kept hk, ⟨_, x.toInCall.ns, fun i y v h1 h2 h3 => ?_⟩, fun y c h => ⟨_, x.cell y c h⟩, e0.aH.fresh (Nat.le_refl _), fun y c h => ?_, fun p hp => absurd (show p ∈ ([] : List (Addr × Obj)) from hp) (by simp), e0.aH.kept hk, ?_⟩
 . exact name_of_addr x.apart (PySem.mem_of_lookup h1) (PySem.mem_of_lookup h2)
 . have hy : scope.names.lookup y = some .cell \/ scope.names.lookup y = some .free := hy
   rcases hy with hy | hy
   . exact md hy
   . exact absurd rfl (S.yp _ (PySem.mem_of_lookup hy))
 . exact Nat.le_of_lt (x.above y c (PySem.mem_of_lookup h))
 . have hi : i < vs.length := by
    unfold start at h2
    by_cases hi : i < vs.length
    . exact hi
    . rw [List.getElem?_append_right (by simpa using hi)] at h2
      rw [List.getElem?_replicate] at h2
      split at h2 <;> cases h2
   have ha : vs[i]? = some v := by
    unfold start at h2
    rw [List.getElem?_append_left (by simpa using hi), List.getElem?_map] at h2
    cases e : vs[i]? with
    | none => rw [e] at h2; cases h2
    | some a => rw [e] at h2; cases h2; rfl
   obtain ⟨u, hu, rv⟩ := r.get ha
   have hp : ps[i]? = some y := by
    rw [<- S.pre, List.getElem?_take_of_lt (by omega)]; exact h1
   have EG : ps.Nodup := by rw [<- S.pre]; exact S.nd.sublist (List.take_sublist _ _)
   refine ⟨u, rv, ?_⟩
   rcases S.par y (List.mem_of_getElem? hp) with k | k
   . exact .inl ⟨k, kl EG hp hu k⟩
   . obtain ⟨c, e⟩ := md (n := s.heap.objs.size + 1) k
     refine .inr ⟨.inl k, c, e, ?_⟩
     have q := x.cell y c e
     rw [ku EG hp hu (by show scope.names.lookup y ≠ _; rw [k]; decide)] at q
     exact q
 . exact e0.aH.fresh (Nat.le_of_lt (x.above y c (PySem.mem_of_lookup h)))
 . unfold start
   show _ = N.length
   rw [List.length_append, List.length_map, List.length_replicate]
   omega
theorem vY {CX : lY} {P : Program} {w : World} {K : PySem.W.Frag} {mg : Str -> Option Value} {base : Heap} {k : Nat} {f : Addr} {name qual : Str} {params : Arguments} {body : List Stmt} {scope : Scope} {dV kV doc pm d5 ct oc : Value} {an od : Option Addr}
 {p0 : Array (Option Value)} {N ps : List Str} {sp : Sp} (lk : K.lookup f = some ⟨oc, od, .func (PySem.W.fnOf name qual params body scope dV kV doc pm an d5 ct), p0⟩) (j2 : PySem.W.codeIn K d5 qual = true) (S : aP N ps scope)
 (len : ∀ vs H Q E, sp vs H Q E -> vs.length = ps.length)
 (iG : ∀ (A : Around) (outer : List Env) (s : Shared) (H : Hp) (vs : List V) (Q : VK) (E : XK), bj k (A.deeper (envOfC qual scope s.heap.objs.size f d5)) -> sp vs H Q E ->
  ∃ t, nD (nQ CX P w K mg base N qual scope f d5 A outer s H E) body t /\ t { nx := fun _ H' => Q .aO H', rt := Q } (start N vs) H) :
 bS P w K mg base CX (k + 1) f (PySem.W.fnOf name qual params body scope dV kV doc pm an d5 ct) ps sp := by
 refine ⟨len, fun A outer s H args us vs Q E hr e0 hb r tM => ?_⟩
 have hl := len _ _ _ _ tM
 have KX : K.In s.heap := e0.mod.Cb.keeps fun b o e => (e0.bs b o e).1
 have lim : s.heap.NoLimit := e0.mod.nolimit.keeps fun b o e => (e0.bs b o e).1
 have zB : ∀ y ∈ ps.zip us, scope.names.lookup y.1 = some .local \/ (scope.names.lookup y.1 = some .cell /\ ((cellsFrom (s.heap.objs.size + 1) scope.names []).lookup y.1).isSome = true) := fun ⟨n, v⟩ hy => by
  rcases S.par n (List.of_mem_zip hy).1 with q | q
  . exact .inl q
  . exact .inr ⟨q, PySem.W.cellsFrom_some _ _ _ (.inl q)⟩
 refine codeAny_call_function hr.depth (KX _ _ lk) rfl S.co S.gen rfl (PySem.W.codeRec_of KX j2) (hb _ _ _ _ ?_)
 refine wpAny_newFunctionEnv_cells S.kind zB fun env he s1 x => ?_
 subst he
 refine ⟨lim.keeps x.toInCall.keep, codeAny_func ?_⟩
 obtain ⟨t, ht, hq⟩ := iG A outer s H vs Q E (hr.deeper _) tM
 have I : Inv (nQ CX P w K mg base N qual scope f d5 A outer s H E) [] (start N vs) H s1 := pZ S hr.hd e0 hl r x
 refine wpAny_mono (ht [] s1 (start N vs) H _ I hq) (fun fl s' hs => ?_) fun e s' hs => hs
 have fin : ∀ {σ' : St} {H' : Hp} {v : V} {u : Value}, Inv (nQ CX P w K mg base N qual scope f d5 A outer s H E) [] σ' H' s' -> RelV v u -> Q v H' -> CE outer P w H s Q u s' :=
  fun {σ' H' v u} J rv q => ⟨v, H', J.os, J.bare, J.base, J.aH, rv, q⟩
 cases fl with
 | ret u =>
   obtain ⟨v, σ', H', J, rv, q⟩ := hs
   exact fin J rv q
 | next =>
   obtain ⟨σ', H', J, q⟩ := hs
   exact fin (v := V.aO) (u := Value.none) J rfl q
 | brk =>
   obtain ⟨_, _, _, q⟩ := hs
   exact False.elim q
 | cont =>
   obtain ⟨_, _, _, q⟩ := hs
   exact False.elim q
section
variable {X : Cx} {x : Str} {p pos : Pos} {e : Expr} {es : List Expr} {t : TA} {id T : String} {r : List V -> Hp -> VK -> Prop}
def CT (r : List V -> Hp -> VK -> Prop) (t : TA) : TE := fun σ H Q => t σ H fun vs H1 => r vs H1 Q
theorem a9 (hc : eB X (.builtin id) r) (hg : Gl X x) (hm : X.mg x = none) (hv : bootBuiltins x = some (.builtin id)) (ha : PA X (e :: es) t) (hn : x ≠ "__name__" := by decide) (p6 : (x == ("__debug__" : Str)) = false := by decide)
 (he : starEach (e :: es) X.env = (false, eval e X.env) :: starEach es X.env := by rfl) (lz : (backTo pos (starEach es X.env)).any (·.1) = false := by rfl) : PE X (.Call (.Name x p) (e :: es) [] pos) (CT r t) := by
 intro pins s σ H Q I h
 refine wpAny_Call_Name_kw (ip I hg hm hv ?_ hn p6)
 exact PyProof.Rows.callWith_builtin1 (bH (ha pos pins s σ H _ I h) fun us s1 ⟨vs, H1, I1, r1, q1⟩ => hc pins s1 σ H1 vs us Q I1 r1 q1) he lz
theorem pe (hc : eB X (.type T) r) (hg : Gl X x) (hm : X.mg x = none) (hv : bootBuiltins x = some (.type T)) (ha : PA X (e :: es) t) (hn : x ≠ "__name__" := by decide) (p6 : (x == ("__debug__" : Str)) = false := by decide)
 (he : starEach (e :: es) X.env = (false, eval e X.env) :: starEach es X.env := by rfl) (lz : (backTo pos (starEach es X.env)).any (·.1) = false := by rfl) : PE X (.Call (.Name x p) (e :: es) [] pos) (CT r t) := by
 intro pins s σ H Q I h
 refine wpAny_Call_Name_kw (ip I hg hm hv ?_ hn p6)
 exact PyProof.Rows.callWith_type1 (bH (ha pos pins s σ H _ I h) fun us s1 ⟨vs, H1, I1, r1, q1⟩ => hc pins s1 σ H1 vs us Q I1 r1 q1) he lz
end
end L2
namespace HT
open PySem PyProof.Rows
section
open PySem.SeqAt
open PySem.AutoSeq1 (wpAny_loadPart')
open PySem.MeetsSeq PySem.MeetsSeq2 PySem.MeetsSeq3
end
section
variable {prog : Program} {w : World} {A : Around} {E : Value -> Shared -> Prop} {s : Shared}
def mO (n d : Nat) : Option Int -> Nat
 | none => d
 | some v => if v < 0 then (v + (n : Int)).toNat else min v.toNat n
theorem oG (n d k : Nat) : mO n d (some (k : Int)) = min k n := by
 show (if (k : Int) < 0 then ((k : Int) + (n : Int)).toNat else min (k : Int).toNat n) = min k n
 rw [if_neg (by omega), Int.toNat_natCast]
end
end HT
namespace L2
open PySem PySem.Spec PyProof.Rows
abbrev TO := St -> Hp -> (Option Int -> Hp -> Prop) -> Prop
def PO (X : Cx) (e : Option Expr) (t : TO) : Prop :=
 ∀ (pins : List (Addr × Obj)) (s : Shared) (σ : St) (H : Hp) (Q : Option Int -> Hp -> Prop), Inv X pins σ H s -> t σ H Q ->
   wpAny (model X.prog X.w) X.A (evalPart e X.env) (fun u s' => ∃ o H', Inv X pins σ H' s' /\ IsPart u o /\ Q o H') X.xe s
def vN (t : TE) : TO := fun σ H Q => t σ H fun x H1 => ∃ i, x = .int i /\ Q (some i) H1
section
variable {X : Cx} {e : Expr} {te : TE} {lo hi : Option Expr} {tl th : TO} {pos p2 : Pos}
theorem ow (h : PE X e te) : PO X (some e) (vN te) := by
 intro pins s σ H Q I hw
 rw [evalPart_some]
 refine bH (h pins s σ H _ I hw) fun u s1 ⟨x, H1, I1, r1, q1⟩ => ?_
 obtain ⟨i, rfl, q⟩ := q1
 obtain ⟨t, rfl⟩ := r1
 exact ⟨some i, H1, I1, .int i t, q⟩
def Ew (X : Cx) (r : V -> Option Int -> Option Int -> Hp -> VK -> Prop) : Prop :=
 ∀ (pins : List (Addr × Obj)) (s : Shared) (σ : St) (H : Hp) (x : V) (v vl vu : Value) (lo hi : Option Int) (sl : Addr) (Q : VK), Inv X pins σ H s -> RelV x v -> s.heap.IsSliceOf sl vl vu .none -> IsPart vl lo -> IsPart vu hi -> r x lo hi H Q ->
   ∃ T id, typeLookup (.type T) "__getitem__" = pure (some (.builtin id)) /\ s.TypeIs v T /\ wpAny (model X.prog X.w) X.A (getItem v (.ref sl)) (EP X pins σ Q) X.xe s
def E6 (r : V -> Option Int -> Option Int -> Hp -> VK -> Prop) (te : TE) (tl th : TO) : TE := fun σ H Q => te σ H fun x H1 => tl σ H1 fun l H2 => th σ H2 fun u H3 => r x l u H3 Q
theorem rP {r : V -> Option Int -> Option Int -> Hp -> VK -> Prop} (hr : Ew X r) (he : PE X e te) (hl : PO X lo tl) (hu : PO X hi th) : PE X (.Subscript e (.Slice lo hi none p2) pos) (E6 r te tl th) := by
 intro pins s σ H Q I h
 refine Subscript_ (bH (he pins s σ H _ I h) fun v s1 ⟨x, H1, I1, r1, q1⟩ => ?_)
 refine wpAny_Slice (bH (hl pins s1 σ H1 _ I1 q1) fun vl s2 ⟨l, H2, I2, pl, q2⟩ => bH (hu pins s2 σ H2 _ I2 q2) fun vu s3 ⟨u, H3, I3, pu, q3⟩ => ?_)
 rw [evalPart_none]
 refine wpAny_pure ?_
 have I4 : Inv X pins σ H3 { s3 with heap := s3.heap.push { cls := .type "slice", data := .fields #[vl, vu, .none] } } := I3.kept (t' := s3.toks) fun b ob q => Heap.get?_push_of_some _ q
 obtain ⟨T, id, hT, ht, hg⟩ := hr pins { s3 with heap := s3.heap.push { cls := .type "slice", data := .fields #[vl, vu, .none] } } σ H3 x v vl vu l u s3.heap.objs.size Q I4 r1 (Heap.IsSliceOf.new ..) pl pu q3
 show wpAny (model X.prog X.w) X.A (subscriptTail e (.Slice lo hi none p2) v (.ref s3.heap.objs.size)) (EP X pins σ Q) X.xe { s3 with heap := s3.heap.push { cls := .type "slice", data := .fields #[vl, vu, .none] } }
 exact tail_any (ops := [.ref s3.heap.objs.size, v]) ht hT hg (by with_unfolding_all rfl)
def o9 (xs : List V) (lo hi : Option Int) : List V := (xs.drop (HT.mO xs.length 0 lo)).take (HT.mO xs.length xs.length hi - HT.mO xs.length 0 lo)
theorem mF (xs : List V) (lo hi : Option Int) : (o9 xs lo hi).length <= xs.length := by
 unfold o9
 rw [List.length_take, List.length_drop]
 omega
end
def uj (n : Nat) (i : Int) : Option Nat := if 0 <= i then (if i < n then some i.toNat else none) else if -(n : Int) <= i then some (i + n).toNat else none
def ko {α : Type} (xs : List α) (i : Int) : Option α := (uj xs.length i).bind fun j => xs[j]?
theorem vj {n : Nat} {i : Int} {j : Nat} (h : uj n i = some j) : seqIndex? i n = some j /\ j < n /\ -(n : Int) <= i /\ i < n := by
 unfold uj at h
 by_cases h0 : 0 <= i
 . rw [if_pos h0] at h
   by_cases h1 : i < n
   . rw [if_pos h1] at h
     have e : i.toNat = j := Option.some.inj h
     exact ⟨by rw [seqIndex_of h0 h1, e], by omega, by omega, h1⟩
   . rw [if_neg h1] at h; cases h
 . rw [if_neg h0] at h
   by_cases h1 : -(n : Int) <= i
   . rw [if_pos h1] at h
     have e : (i + n).toNat = j := Option.some.inj h
     exact ⟨by rw [seqIndex_neg (by omega) h1, e], by omega, h1, by omega⟩
   . rw [if_neg h1] at h; cases h
theorem kK {α : Type} {xs : List α} {i : Int} {v : α} (h : ko xs i = some v) : ∃ j, seqIndex? i xs.length = some j /\ xs[j]? = some v /\ j < xs.length /\ -(xs.length : Int) <= i /\ i < xs.length := by
 unfold ko at h
 cases e : uj xs.length i with
 | none => rw [e] at h; cases h
 | some j =>
   rw [e] at h
   obtain ⟨h1, h2, h3, h4⟩ := vj e
   exact ⟨j, h1, h, h2, h3, h4⟩
theorem gZ {α : Type} {xs : List α} {j : Nat} {v : α} (h : xs[j]? = some v) : ko xs (j : Int) = some v := by
 have hj : j < xs.length := (List.getElem?_eq_some_iff.mp h).1
 have e : uj xs.length (j : Int) = some j := by
  unfold uj
  rw [if_pos (by omega), if_pos (by omega)]; simp
 unfold ko; rw [e]; exact h
theorem mn {α : Type} (xs : List α) (v : α) : ko (xs ++ [v]) (-1) = some v := by
 have hl : (xs ++ [v]).length = xs.length + 1 := by simp
 have e : uj (xs ++ [v]).length (-1) = some xs.length := by
  unfold uj
  rw [hl, if_neg (by decide), if_pos (by omega)]
  congr 1
  omega
 unfold ko
 rw [e]
 show (xs ++ [v])[xs.length]? = some v
 simp
def tX (b : Expr) : Prop := ∀ o i, subscripted b false o i = operate [o, i] (getItem o i)
def sX (X : Cx) (r : R2) : Prop :=
 ∀ (value slice : Expr) (pins : List (Addr × Obj)) (s : Shared) (σ : St) (H : Hp) (x y : V) (v u : Value) (Q : VK), Inv X pins σ H s -> RelV x v -> RelV y u -> r x y H Q ->
   subscripted slice false v u = operate [v, u] (getItem v u) -> wpAny (model X.prog X.w) X.A (subscriptTail value slice v u) (EP X pins σ Q) X.xe s
def Fb (X : Cx) (id : String) (r : V -> List V -> Hp -> VK -> Prop) : Prop :=
 ∀ (pins : List (Addr × Obj)) (s : Shared) (σ : St) (H : Hp) (x : V) (xs : List V) (v : Value) (us : List Value) (Q : VK), Inv X pins σ H s -> RelV x v -> Vals xs us -> r x xs H Q ->
   wpAny (model X.prog X.w) X.A (call (.builtin id) (v :: us)) (EP X pins σ Q) X.xe s
section
variable {X : Cx} {a b : Expr} {ta tb : TE} {pos : Pos}
theorem sX.or {r r' : R2} (h : sX X r) (h' : sX X r') : sX X (fun x y H Q => r x y H Q \/ r' x y H Q) := by
 intro value slice pins s σ H x y v u Q I rx ry q hs
 rcases q with q | q
 . exact h value slice pins s σ H x y v u Q I rx ry q hs
 . exact h' value slice pins s σ H x y v u Q I rx ry q hs
theorem fX {r : R2} (hr : sX X r) (ha : PE X a ta) (hb : PE X b tb) (hs : tX b) : PE X (.Subscript a b pos) (AY r ta tb) := by
 intro pins s σ H Q I h
 exact Subscript_ (wL ha hb I h fun v u s2 x y H2 I2 rx ry q => hr a b pins s2 σ H2 x y v u Q I2 rx ry q (hs _ _))
def wJ (K : PySem.W.Frag) : R2 := fun x y H Q => ∃ p xs i v, x = .ref p /\ y = .int i /\ c6 K H p xs /\ ko xs i = some v /\ Q v H
def Aa (K : PySem.W.Frag) : R2 := fun x y H Q => ∃ p xs i v, x = .ref p /\ y = .int i /\ oo K H p xs /\ ko xs i = some v /\ Q v H
def yh : R2 := fun x y H Q => ∃ z i c, x = .str z /\ y = .int i /\ z.length <= sizeLine /\ ko z.cps.toList i = some c /\ Q (.str ⟨#[c]⟩) H
theorem oM : sX X (wJ X.K) := by
 intro value slice pins s σ H x y v u Q I rx ry h hs
 obtain ⟨p, xs, i, z, rfl, rfl, hq, he, q⟩ := h
 cases rx
 obtain ⟨t, rfl⟩ := ry
 obtain ⟨aR, r, pl, hz⟩ := I.list hq
 obtain ⟨j, h1, h2, h3, h4, h5⟩ := kK he
 obtain ⟨w, ew, uX⟩ := r.get h2
 have hl := r.length
 have hn := iu
 have fin : EP X pins σ Q w s := ⟨z, H, I, uX, q⟩
 by_cases h0 : 0 <= i
 . have hj : i.toNat = j := by
    rw [seqIndex_of h0 h5] at h1
    exact Option.some.inj h1
   exact item_listR pl.isList h0 (by omega) (by rw [hj]; simpa using ew) fin hs
 . have hj : (i + (aR.toArray.size : Int)).toNat = j := by
    rw [seqIndex_neg (by omega) h4] at h1
    rw [List.size_toArray, <- hl]
    exact Option.some.inj h1
   exact subscriptTail_builtinR (x := w) pl.isList.typeIs slot_list_getitem.lookup
    (wpAny_getItem_list_neg (Q := fun r s' => r = w /\ EP X pins σ Q r s') pl.isList (by omega) (by rw [List.size_toArray] <;> omega) (by omega) (by rw [hj]; simpa using ew) ⟨rfl, fin⟩) hs
theorem yt : sX X (Aa X.K) := by
 intro value slice pins s σ H x y v u Q I rx ry h hs
 obtain ⟨p, xs, i, z, rfl, rfl, hq, he, q⟩ := h
 cases rx
 obtain ⟨t, rfl⟩ := ry
 obtain ⟨aR, r, pl, hz⟩ := I.tuple hq
 obtain ⟨j, h1, h2, h3, h4, h5⟩ := kK he
 obtain ⟨w, ew, uX⟩ := r.get h2
 have hl := r.length
 have hn := iu
 have fin : EP X pins σ Q w s := ⟨z, H, I, uX, q⟩
 exact subscriptTail_builtinR (x := w) pl.typeIs slot_tuple_getitem.lookup
  (getItem_tuple (j := j) (Q := fun r s' => r = w /\ EP X pins σ Q r s') pl (by omega) (by omega) (by rw [List.size_toArray, <- hl]; exact h1) (by simpa using ew) ⟨rfl, fin⟩) hs
theorem xS : sX X yh := by
 intro value slice pins s σ H x y v u Q I rx ry h hs
 obtain ⟨z, i, c, rfl, rfl, hz, he, q⟩ := h
 obtain ⟨t, rfl⟩ := rx
 obtain ⟨t', rfl⟩ := ry
 obtain ⟨j, h1, h2, h3, h4, h5⟩ := kK he
 have hl : z.cps.toList.length = z.length := by simp [Str.length]
 rw [hl] at h1 h4 h5
 have hn := iu
 exact tail_any (typeIs_str s z t) slot_str_getitem.lookup (getItem_str (c := c) (by
  have e1 : decide (i < -(2 ^ 63 : Int)) = false := decide_eq_false (by omega)
  have e2 : decide (i ≥ 2 ^ 63) = false := decide_eq_false (by omega)
  rw [e1, e2, Bool.or_false]) (by rw [h1]; simpa using h2) ⟨.str ⟨#[c]⟩, H, I.tok _, ⟨_, rfl⟩, q⟩) hs
def FD (K : PySem.W.Frag) : R2 := fun x y H Q => wJ K x y H Q \/ Aa K x y H Q \/ yh x y H Q
theorem wX : sX X (FD X.K) := oM.or (yt.or xS)
theorem kO (lo hi : Option Int) (n : Nat) : (sliceBounds lo hi none n).1 = ((HT.mO n 0 lo : Nat) : Int) /\ (sliceBounds lo hi none n).2.1 = ((HT.mO n n hi : Nat) : Int) /\ (sliceBounds lo hi none n).2.2 = 1 := by
 refine ⟨?_, ?_, rfl⟩
 . cases lo with
   | none => simp [sliceBounds, HT.mO]
   | some i =>
     simp only [sliceBounds, HT.mO, Option.getD_none, show (1 : Int) > 0 by decide, if_true]
     by_cases h : i < 0
     . simp only [h, if_true] <;> omega
     . simp only [h, if_false] <;> omega
 . cases hi with
   | none => simp [sliceBounds, HT.mO]
   | some i =>
     simp only [sliceBounds, HT.mO, Option.getD_none, show (1 : Int) > 0 by decide, if_true]
     by_cases h : i < 0
     . simp only [h, if_true] <;> omega
     . simp only [h, if_false] <;> omega
theorem jP (aR : List Value) (lo hi : Option Int) : slicePick aR.toArray lo hi none = ((aR.drop (HT.mO aR.length 0 lo)).take (HT.mO aR.length aR.length hi - HT.mO aR.length 0 lo)).toArray := by
 obtain ⟨h1, h2, h3⟩ := kO lo hi aR.toArray.size
 unfold slicePick
 rw [h1, h2, h3]
 simp only [sliceRange_one, pick_run, List.size_toArray] <;> rfl
def Ac (K : PySem.W.Frag) : V -> Option Int -> Option Int -> Hp -> VK -> Prop := fun x lo hi H Q => ∃ a xs, x = .ref a /\ c6 K H a xs /\ ∀ p, H p = none -> Q (.ref p) (upd H p (.lst (o9 xs lo hi)))
theorem uv : Ew X (Ac X.K) := by
 intro pins s σ H x v vl vu lo hi sl Q I rx hs pl pu h
 obtain ⟨a, xs, rfl, hx, q⟩ := h
 cases rx
 obtain ⟨aR, r, ht, hz⟩ := I.list hx
 have hlen := r.length
 refine ⟨"list", _, slot_list_getitem.lookup, ht.isList.typeIs, ?_⟩
 refine wpAny_getItem_list_slice ht.isList hs pl pu .none (by simp) ?_ (by rw [List.size_toArray] <;> omega)
 rw [jP, <- hlen]
 refine ⟨.ref s.heap.objs.size, _, I.laid (t' := s.toks) (o := .lst (o9 xs lo hi)) (fun b ob q => Heap.get?_push_of_some _ q) (Nat.le_refl _) ?_, rfl, q _ (I.aH.fresh (Nat.le_refl _))⟩
 exact ⟨Nat.le_trans (mF xs lo hi) hz, _, 0, (r.drop (HT.mO xs.length 0 lo)).take (HT.mO xs.length xs.length hi - HT.mO xs.length 0 lo), Heap.get?_push_size _ rfl⟩
def gs : V -> Bool
 | .aO => true
 | .bl _ => true
 | .int _ => true
 | .str _ => true
 | _ => false
def tW : V -> V -> Bool
 | .aO, .aO => true
 | .bl a, .bl b => a == b
 | .bl a, .int b => (if a then 1 else 0) == b
 | .int a, .bl b => a == (if b then 1 else 0)
 | .int a, .int b => a == b
 | .str a, .str b => a == b
 | _, _ => false
theorem wy {A : Around} {s : Shared} {y x : V} {u v : Value} (ry : RelV y u) (rx : RelV x v) (fy : gs y = true) (fx : gs x = true) : SeqAt.EqAt A s u v (tW y x) := by
 cases y with
 | aO =>
   cases ry
   cases x with
   | aO => cases rx; exact SeqAt.EqAt.same _
   | bl b => cases rx; exact SeqAt.EqAt.none_bool b
   | int b => obtain ⟨t, rfl⟩ := rx; exact SeqAt.EqAt.none_int b t
   | str b => obtain ⟨t, rfl⟩ := rx; exact SeqAt.EqAt.none_str b t
   | _ => exact absurd (show false = true from fx) Bool.false_ne_true
 | bl a =>
   cases ry
   cases x with
   | aO => cases rx; exact SeqAt.EqAt.bool_none a
   | bl b => cases rx; exact SeqAt.EqAt.bool_bool a b
   | int b => obtain ⟨t, rfl⟩ := rx; exact SeqAt.EqAt.bool_int a b t
   | str b => obtain ⟨t, rfl⟩ := rx; exact SeqAt.EqAt.bool_str a b t
   | _ => exact absurd (show false = true from fx) Bool.false_ne_true
 | int a =>
   obtain ⟨t', rfl⟩ := ry
   cases x with
   | aO => cases rx; exact SeqAt.EqAt.int_none a t'
   | bl b => cases rx; exact SeqAt.EqAt.int_bool a t' b
   | int b => obtain ⟨t, rfl⟩ := rx; exact SeqAt.EqAt.int_int a t' b t
   | str b => obtain ⟨t, rfl⟩ := rx; exact SeqAt.EqAt.int_str a t' b t
   | _ => exact absurd (show false = true from fx) Bool.false_ne_true
 | str a =>
   obtain ⟨t', rfl⟩ := ry
   cases x with
   | aO => cases rx; exact SeqAt.EqAt.str_none a t'
   | bl b => cases rx; exact SeqAt.EqAt.str_bool a t' b
   | int b => obtain ⟨t, rfl⟩ := rx; exact SeqAt.EqAt.str_int a t' b t
   | str b => obtain ⟨t, rfl⟩ := rx; exact SeqAt.EqAt.str_str a t' b t
   | _ => exact absurd (show false = true from fx) Bool.false_ne_true
 | _ => exact absurd (show false = true from fy) Bool.false_ne_true
def ua (x : V) (u : Value) : Bool := match u with
 | .none => tW .aO x
 | .bool b => tW (.bl b) x
 | .int i _ => tW (.int i) x
 | .str z _ => tW (.str z) x
 | _ => false
theorem rJ {x y : V} {u : Value} (r : RelV y u) (f : gs y = true) : ua x u = tW y x := by
 cases y with
 | aO => cases r; rfl
 | bl b => cases r; rfl
 | int i => obtain ⟨t, rfl⟩ := r; rfl
 | str z => obtain ⟨t, rfl⟩ := r; rfl
 | _ => exact absurd (show false = true from f) Bool.false_ne_true
theorem ll {x : V} : ∀ {xs : List V} {us : List Value}, Vals xs us -> xs.all gs = true -> us.any (ua x) = xs.any fun y => tW y x
 | _, _, .nil, _ => rfl
 | y :: xs, u :: us, .cons r t, f => by
   rw [List.all_cons, Bool.and_eq_true] at f
   rw [List.any_cons, List.any_cons, rJ r f.1, ll t f.2]
theorem jz {A : Around} {s : Shared} {x : V} {v : Value} (rx : RelV x v) (fx : gs x = true) : ∀ {xs : List V} {us : List Value}, Vals xs us -> xs.all gs = true -> ∀ u ∈ us, SeqAt.EqAt A s u v (ua x u)
 | _, _, .nil, _ => fun u hu => by cases hu
 | y :: xs, u :: us, .cons r t, f => fun u' hu => by
   rw [List.all_cons, Bool.and_eq_true] at f
   rcases List.mem_cons.mp hu with rfl | hu
   . rw [rJ r f.1]; exact wy r rx f.1 fx
   . exact jz rx fx t f.2 u' hu
def BK (x : V) (xs : List V) : Bool := xs.any fun y => tW y x
def C8 (K : PySem.W.Frag) (neg : Bool) : R2 := fun x y H Q => ∃ p xs, y = .ref p /\ (c6 K H p xs \/ oo K H p xs) /\ gs x = true /\ xs.all gs = true /\ Q (.bl (if neg then !BK x xs else BK x xs)) H
theorem pP : hX X (compareOp .In) (C8 X.K false) := by
 intro pins s σ H x y v u Q I rx ry h
 obtain ⟨p, xs, rfl, hq, fx, fs, q⟩ := h
 cases ry
 rcases hq with hq | hq
 . obtain ⟨aR, r, pl, hz⟩ := I.list hq
   refine SeqAt.in_listAt (ua x) pl.isList (fun w hw => jz rx fx r fs w (by simpa using hw)) ⟨.bl _, H, I, rfl, ?_⟩
   rw [show aR.toArray.any (ua x) = aR.any (ua x) by simp, ll r fs]
   exact q
 . obtain ⟨aR, r, pl, hz⟩ := I.tuple hq
   refine SeqAt.in_tupleAt (ua x) pl (fun w hw => jz rx fx r fs w (by simpa using hw)) ⟨.bl _, H, I, rfl, ?_⟩
   rw [show aR.toArray.any (ua x) = aR.any (ua x) by simp, ll r fs]
   exact q
theorem e8 : eB X (.builtin "len") (fun xs H Q => ∃ p ys, xs = [.ref p] /\ (c6 X.K H p ys \/ oo X.K H p ys) /\ Q (.int ys.length) H) := by
 intro pins s σ H xs us Q I r h
 obtain ⟨p, ys, rfl, hq, q⟩ := h
 obtain ⟨u, rfl, rx⟩ := vals1 r
 cases rx
 have hn := iu
 rcases hq with hq | hq
 . obtain ⟨aR, r', pl, hz⟩ := I.list hq
   have hlen := r'.length
   exact Calls.call_len_list pl.isList (by simp only [List.size_toArray] <;> omega) ⟨.int ys.length, H, I.tok _, ⟨s.toks + 1, by rw [List.size_toArray, hlen]⟩, q⟩
 . obtain ⟨aR, r', pl, hz⟩ := I.tuple hq
   have hlen := r'.length
   exact len_tuple pl (by simp only [List.size_toArray] <;> omega) ⟨.int ys.length, H, I.tok _, ⟨s.toks + 1, by rw [List.size_toArray, hlen]⟩, q⟩
theorem kR : eB X (.builtin "len") (fun xs H Q => ∃ z, xs = [.str z] /\ z.length <= sizeLine /\ Q (.int z.length) H) := by
 intro pins s σ H xs us Q I r h
 obtain ⟨z, rfl, hz, q⟩ := h
 obtain ⟨u, rfl, t, rfl⟩ := vals1 r
 have hn := iu
 exact len_str (by omega) ⟨.int z.length, H, I.tok _, ⟨_, rfl⟩, q⟩
def yQ (K : PySem.W.Frag) (T : String) (x : V) (H : Hp) : Prop := match x with
 | .str _ => T = "str"
 | .int _ => T = "int"
 | .ref p => (T = "list" /\ ∃ xs, c6 K H p xs) \/ (T = "tuple" /\ ∃ o, K.lookup p = some o /\ o.cls = .type "tuple" /\ o.dict = none) \/
  (T = "dict" /\ ((∃ kvs, H p = some (.dK kvs)) \/ ∃ kvs, H p = some (.dT kvs))) \/ (T = "set" /\ ∃ S n, H p = some (.set S n))
 | _ => False
theorem qK {pins : List (Addr × Obj)} {σ : St} {H : Hp} {s : Shared} {T : String} {x : V} {v : Value} (I : Inv X pins σ H s) (r : RelV x v) (ty : yQ X.K T x H) :
 s.TypeIs v T /\ ∀ a, v = .ref a -> ∃ ob, s.heap.get? a = some ob /\ ob.dict = none := by
 cases x with
 | str z =>
   obtain ⟨t, rfl⟩ := r
   cases (show T = "str" from ty)
   exact ⟨typeIs_str s z t, fun _ e => nomatch e⟩
 | int i =>
   obtain ⟨t, rfl⟩ := r
   cases (show T = "int" from ty)
   exact ⟨typeIs_int s i t, fun _ e => nomatch e⟩
 | ref p =>
   cases r
   rcases ty with ⟨rfl, xs, hq⟩ | ⟨rfl, o, hk, hc, hd⟩ | ⟨rfl, hk⟩ | ⟨rfl, S, n, hk⟩
   . obtain ⟨aR, _, pl, _⟩ := I.list hq
     refine ⟨pl.isList.typeIs, fun a e => ?_⟩
     cases e
     obtain ⟨o, n, e, c, hd, _⟩ := pl
     exact ⟨o, e, hd⟩
   . refine ⟨⟨o, I.iN p o hk, hc⟩, fun a e => ?_⟩
     cases e
     exact ⟨o, I.iN _ o hk, hd⟩
   . have z : ∃ o, s.heap.get? p = some o /\ o.ExactDict := by
      rcases hk with ⟨kvs, hk⟩ | ⟨kvs, hk⟩
      . obtain ⟨_, _, _, _, o, _, _, e, ex, _⟩ := I.aH p _ hk
        exact ⟨o, e, ex⟩
      . obtain ⟨_, _, _, _, o, _, _, e, ex, _⟩ := I.aH p _ hk
        exact ⟨o, e, ex⟩
     obtain ⟨o, e, ex⟩ := z
     refine ⟨⟨o, e, ex.1⟩, fun a e2 => ?_⟩
     cases e2
     exact ⟨o, e, ex.2.1⟩
   . obtain ⟨o, _, _, _, e, ex, _⟩ := I.aH p _ hk
     refine ⟨⟨o, e, ex.1⟩, fun a e2 => ?_⟩
     cases e2
     exact ⟨o, e, ex.2.1⟩
 | _ => exact False.elim ty
def AW (K : PySem.W.Frag) (T : String) (r : V -> List V -> Hp -> VK -> Prop) (to : TE) : TE := fun σ H Q => to σ H fun x H1 => yQ K T x H1 /\ r x [] H1 Q
def EK (K : PySem.W.Frag) (T : String) (r : V -> List V -> Hp -> VK -> Prop) (to : TE) (t : TA) : TE := fun σ H Q => to σ H fun x H1 => yQ K T x H1 /\ t σ H1 fun xs H2 => r x xs H2 Q
variable {o e : Expr} {es : List Expr} {to : TE} {t : TA} {name : Str} {apos c5 : Pos} {T id : String} {r : V -> List V -> Hp -> VK -> Prop}
theorem rg (pa : PlainAttrs T) (slot : Slot T name id) (Cv : typeOf (.builtin id) = pure (.type "method_descriptor")) (hm : Fb X id r) (ho : PE X o to)
 (sJ : attributeBase o name X.env (eval o X.env) = eval o X.env := by rfl) (hline : (apos.endLine == c5.line) = true := by rfl) : PE X (.Call (.Attribute o name apos) [] [] c5) (AW X.K T r to) := by
 intro pins s σ H Q I h
 refine wpAny_Call_method0_late sJ hline (bH (ho pins s σ H _ I h) fun v s1 ⟨x, H1, I1, r1, ty, q1⟩ => ?_)
 obtain ⟨h1, h2⟩ := qK I1 r1 ty
 exact ⟨T, id, pa, slot, Cv, h1, h2, Calls.callWith_builtin rfl (PySem.evalArgs_none (hm pins s1 σ H1 x [] v [] Q I1 r1 .nil q1))⟩
theorem rY (pa : PlainAttrs T) (slot : Slot T name id) (Cv : typeOf (.builtin id) = pure (.type "method_descriptor")) (hm : Fb X id r) (ho : PE X o to) (ha : PA X (e :: es) t)
 (sJ : attributeBase o name X.env (eval o X.env) = eval o X.env := by rfl)
 (CH : ((backTo c5 (starEach (e :: es) X.env)).all (fun x => !x.1) && (backToKw c5 (keywordEach [] X.env)).all (fun x => x.1.isSome)
  && decide ((e :: es).length + ([] : List Keyword).length + (if ([] : List Keyword).isEmpty then 0 else 1) < 30)) = true := by rfl)
 (hline : (apos.endLine == c5.line) = true := by rfl) (hs : starEach (e :: es) X.env = (false, eval e X.env) :: starEach es X.env := by rfl) (xo : (backTo c5 (starEach es X.env)).any (·.1) = false := by rfl) :
 PE X (.Call (.Attribute o name apos) (e :: es) [] c5) (EK X.K T r to t) := by
 intro pins s σ H Q I h
 refine wpAny_Call_method_late sJ CH hline rfl (bH (ho pins s σ H _ I h) fun v s1 ⟨x, H1, I1, r1, ty, q1⟩ => ?_)
 obtain ⟨h1, h2⟩ := qK I1 r1 ty
 refine ⟨T, id, pa, slot, Cv, h1, h2, ?_⟩
 have hA := ha c5 pins s1 σ H1 _ I1 q1
 rw [hs] at hA ⊢
 refine Calls.callWith_builtin (by show (false || (backTo c5 (starEach es X.env)).any (·.1)) = false; rw [xo] <;> rfl) (Calls.evalArgs_plain ?_)
 exact bH hA fun us s2 ⟨vs, H2, I2, r2, q2⟩ => hm pins s2 σ H2 x vs v us Q I2 r1 r2 q2
end
def ED (X : Cx) (id : String) (r : V -> List V -> Hp -> VK -> Prop) : Prop :=
 ∀ (pins : List (Addr × Obj)) (s : Shared) (σ : St) (H : Hp) (x : V) (xs : List V) (v : Value) (us : List Value) (Q : VK), Inv X pins σ H s -> RelV x v -> Vals xs us -> r x xs H Q ->
   wpAny (model X.prog X.w) X.A (call (.builtin id) (v :: us)) (EP X pins σ Q) X.xe s
theorem Vals.one : ∀ {x : V} {us : List Value}, Vals [x] us -> ∃ u, us = [u] /\ RelV x u
 | _, _, .cons r .nil => ⟨_, rfl, r⟩
theorem Vals.zero : ∀ {us : List Value}, Vals [] us -> us = []
 | _, .nil => rfl
section
variable {X : Cx} {pins : List (Addr × Obj)} {σ : St} {H : Hp} {s : Shared} {l b : Addr} {xs ys zs : List V}
theorem Inv.zK {aR its' : List Value} {n : Nat} {f : Array Value -> Array Value} {t' : Nat} (I : Inv X pins σ H s) (hH : H l = some (.lst xs))
 (e : s.heap.get? l = some { cls := .type "list", data := .seq aR.toArray n }) (hf : f aR.toArray = its'.toArray) (hv : Vals ys its') (hz : ys.length <= sizeLine) :
 Inv X pins σ (upd H l (.lst ys)) { s with heap := s.heap.update l (Obj.mapSeq f), toks := t' } := by
 have q := PySem.IsL.update e f
 rw [hf] at q
 refine I.write (x := l) (e := l) (by rw [hH]; exact trivial) (.inl rfl) (fun b' u hb hu => (Heap.get?_update_other s.heap (Obj.mapSeq f) (Ne.symm hb)).trans hu) ⟨_, q⟩ ?_
 exact ⟨hz, its', _, hv, q⟩
theorem Inv.Bp (I : Inv X pins σ H s) (hH : H l = some (.lst xs)) : xs.length <= sizeLine /\ ∃ (aR : List Value) (n : Nat), Vals xs aR /\ xs.length = aR.length /\ s.heap.get? l = some { cls := .type "list", data := .seq aR.toArray n } := by
 obtain ⟨z, aR, n, r, e⟩ := I.aH l _ hH
 exact ⟨z, aR, n, r, r.length, e⟩
end
section
variable {X : Cx}
def oi : V -> List V -> Hp -> VK -> Prop := fun x vs H Q => ∃ l xs y, x = .ref l /\ vs = [y] /\ H l = some (.lst xs) /\ xs.length < sizeLine /\ Q .aO (upd H l (.lst (xs ++ [y])))
theorem ik : ED X "list.append" oi := by
 intro pins s σ H x vs v us Q I rx rv h
 obtain ⟨l, xs, y, rfl, rfl, hH, hz, q⟩ := h
 cases rx
 obtain ⟨u, rfl, ru⟩ := rv.one
 obtain ⟨z, aR, n, r, hl, e⟩ := I.Bp hH
 refine call_meets F.slot_list_append ⟨_, e, rfl⟩ F.entry_list_append (F.args_list_append_2 _ _) (PySem.list_append l aR.toArray n u (by rw [List.size_toArray]; omega)) ⟨e, ?_⟩
 refine ⟨.aO, _, I.zK (its' := aR ++ [u]) hH e (by simp) (r.append (.cons ru .nil)) ?_, rfl, q⟩
 rw [List.length_append, List.length_singleton]
 omega
def qO : V -> List V -> Hp -> VK -> Prop := fun x vs H Q => ∃ l xs, x = .ref l /\ vs = [] /\ H l = some (.lst xs) /\ Q .aO (upd H l (.lst []))
theorem mG : ED X "list.clear" qO := by
 intro pins s σ H x vs v us Q I rx rv h
 obtain ⟨l, xs, rfl, rfl, hH, q⟩ := h
 cases rx
 have Hr := rv.zero
 subst Hr
 obtain ⟨z, aR, n, r, hl, e⟩ := I.Bp hH
 refine call_meets F.slot_list_clear ⟨_, e, rfl⟩ F.entry_list_clear (F.args_list_clear_1 _) (AutoSeq1.list_clear_list_0 l aR.toArray n (by rw [List.size_toArray]; omega)) ⟨e, ?_⟩
 exact ⟨.aO, _, I.zK (its' := []) (ys := []) hH e rfl .nil (Nat.zero_le _), rfl, q⟩
end
section
variable {prog : Program} {w : World} {A : Around} {E : Value -> Shared -> Prop} {s : Shared}
set_option maxRecDepth 100000 in
end
section
variable {X : Cx}
end
section
variable {κ : Type} [DecidableEq κ]
def gF (kvs : List (κ × V)) (k : κ) : Option V := (kvs.find? fun kv => decide (kv.1 = k)).map (·.2)
def putK (kvs : List (κ × V)) (k : κ) (v : V) : List (κ × V) :=
 if (kvs.any fun kv => decide (kv.1 = k)) = true then kvs.map (fun kv => if kv.1 = k then (kv.1, v) else kv) else kvs ++ [(k, v)]
theorem fO {p : κ × V} {r : List (κ × V)} {k : κ} (e : p.1 = k) : gF (p :: r) k = some p.2 := by simp [gF, List.find?_cons, e]
theorem eD {p : κ × V} {r : List (κ × V)} {k : κ} (e : ¬ p.1 = k) : gF (p :: r) k = gF r k := by simp [gF, List.find?_cons, e]
theorem lI (k : κ) : ∀ kvs : List (κ × V), (kvs.any fun kv => decide (kv.1 = k)) = (gF kvs k).isSome
 | [] => rfl
 | p :: r => by
   rw [List.any_cons]
   by_cases e : p.1 = k
   . simp only [fO e, decide_eq_true e, Bool.true_or, Option.isSome_some]
   . rw [eD e, decide_eq_false e, Bool.false_or]; exact lI k r
theorem iJ (kvs : List (κ × V)) (k : κ) (v : V) : (putK kvs k v).length <= kvs.length + 1 := by
 unfold putK
 split
 . rw [List.length_map]; omega
 . rw [List.length_append, List.length_cons, List.length_nil]; omega
theorem gk.eF {o : Option V} {u : Option Value} (r : gk o u) : o.isSome = u.isSome := by
 cases o with
 | none => cases u with
   | none => rfl
   | some _ => exact (show False from r).elim
 | some _ => cases u with
   | none => exact (show False from r).elim
   | some _ => rfl
theorem KV.val {kvs : List (κ × V)} {vs : List (κ × Value)} (r : KV kvs vs) (k : κ) : gk (gF kvs k) (valueAt vs k) := by
 unfold KV at r
 induction r with
 | nil => exact True.intro
 | @cons p q ps qs h t ih =>
   obtain ⟨h1, h2⟩ := h
   by_cases e : p.1 = k
   . have e' : q.1 = k := h1.symm.trans e
     have b : valueAt (q :: qs) k = some q.2 := by simp [valueAt, List.find?_cons, e']
     rw [fO e, b]; exact h2
   . have e' : ¬ q.1 = k := fun z => e (h1.trans z)
     have b : valueAt (q :: qs) k = valueAt qs k := by simp [valueAt, List.find?_cons, e']
     rw [eD e, b]; exact ih
theorem KV.any {kvs : List (κ × V)} {vs : List (κ × Value)} (r : KV kvs vs) (k : κ) : (kvs.any fun kv => decide (kv.1 = k)) = vs.any fun kv => decide (kv.1 = k) := by
 unfold KV at r
 induction r with
 | nil => rfl
 | cons h t ih => rw [List.any_cons, List.any_cons, ih, h.1]
theorem KV.repl {kvs : List (κ × V)} {vs : List (κ × Value)} (r : KV kvs vs) (k : κ) {y : V} {u : Value} (ry : RelV y u) :
 KV (kvs.map fun kv => if kv.1 = k then (kv.1, y) else kv) (vs.map fun kv => if kv.1 = k then (kv.1, u) else kv) := by
 unfold KV at r ⊢
 induction r with
 | nil => exact .nil
 | @cons p q ps qs h t ih =>
   rw [List.map_cons, List.map_cons]
   refine .cons ?_ ih
   obtain ⟨h1, h2⟩ := h
   by_cases e : p.1 = k
   . rw [if_pos e, if_pos (h1.symm.trans e)]; exact ⟨h1, ry⟩
   . rw [if_neg e, if_neg (fun z => e (h1.trans z))]; exact ⟨h1, h2⟩
theorem KV.put {kvs : List (κ × V)} {vs : List (κ × Value)} (r : KV kvs vs) (k : κ) {y : V} {u : Value} (ry : RelV y u) : KV (putK kvs k y) (stored vs k u) := by
 unfold putK stored
 rw [r.any k]
 by_cases e : (vs.any fun kv => decide (kv.1 = k)) = true
 . rw [if_pos e, if_pos e]; exact r.repl k ry
 . rw [if_neg e, if_neg e]; exact Paired.snoc r ⟨rfl, ry⟩
theorem KV.length {kvs : List (κ × V)} {vs : List (κ × Value)} (r : KV kvs vs) : kvs.length = vs.length := Paired.length r
end
theorem lE {P : Program} {w : World} {k : Key} {u : Value} (r : RelV (kV k) u) : (aL P w).is k u = true := by
 cases k with
 | inl i => obtain ⟨t, e⟩ := (show ∃ t, u = Value.int i t from r); subst e; exact lG P w i t
 | inr x => obtain ⟨t, e⟩ := (show ∃ t, u = Value.str x t from r); subst e; exact mB P w x t
theorem kE {P : Program} {w : World} : ∀ {ks : List Key} {us : List Value}, Vals (ks.map kV) us -> ItemsAre (aL P w) ks us
 | [], _, r => by rw [List.map_nil] at r; cases r; exact .nil
 | k :: ks, _, r => by
   rw [List.map_cons] at r
   cases r with
   | cons h t => exact .cons (lE h) (kE t)
abbrev KT (H : Hp) : List (List Key × V) -> List (List Key × Addr × Value) -> Prop := Paired fun p q => p.1 = q.1 /\ H q.2.1 = some (.tup (p.1.map kV)) /\ RelV p.2 q.2.2
theorem KT.val {H : Hp} {kvs : List (List Key × V)} {xs : List (List Key × Addr × Value)} (r : KT H kvs xs) (k : List Key) : gk (gF kvs k) ((atKey xs k).map (·.2)) := by
 induction r with
 | nil => exact True.intro
 | @cons p q ps qs h t ih =>
   obtain ⟨h1, _, h2⟩ := h
   by_cases e : p.1 = k
   . have e' : q.1 = k := h1.symm.trans e
     have b : atKey (q :: qs) k = some q.2 := by simp [atKey, List.find?_cons, e']
     rw [fO e, b]; exact h2
   . have e' : ¬ q.1 = k := fun z => e (h1.trans z)
     have b : atKey (q :: qs) k = atKey qs k := by simp [atKey, List.find?_cons, e']
     rw [eD e, b]; exact ih
theorem KT.repl {H : Hp} {kvs : List (List Key × V)} {xs : List (List Key × Addr × Value)} (r : KT H kvs xs) (k : List Key) {y : V} {u : Value} (ry : RelV y u) :
 KT H (kvs.map fun kv => if kv.1 = k then (kv.1, y) else kv) (xs.map (putAt k u)) := by
 induction r with
 | nil => exact .nil
 | @cons p q ps qs h t ih =>
   rw [List.map_cons, List.map_cons]
   refine .cons ?_ ih
   obtain ⟨h1, h2, h3⟩ := h
   unfold putAt
   by_cases e : p.1 = k
   . rw [if_pos e, if_pos (h1.symm.trans e)]; exact ⟨h1, h2, ry⟩
   . rw [if_neg e, if_neg (fun z => e (h1.trans z))]; exact ⟨h1, h2, h3⟩
theorem KT.put {H : Hp} {kvs : List (List Key × V)} {xs : List (List Key × Addr × Value)} (r : KT H kvs xs) (k : List Key) {b : Addr} {y : V} {u : Value} (hb : H b = some (.tup (k.map kV))) (ry : RelV y u) :
 KT H (putK kvs k y) (storedH xs k b u) := by
 have e : (kvs.any fun kv => decide (kv.1 = k)) = (atKey xs k).isSome := by
  rw [lI, (r.val k).eF, Option.isSome_map]
 unfold putK storedH
 rw [e]
 by_cases q : (atKey xs k).isSome = true
 . rw [if_pos q, if_pos q]; exact r.repl k ry
 . rw [if_neg q, if_neg q]; exact Paired.snoc r ⟨rfl, hb, ry⟩
theorem KT.keeps {H H' : Hp} {kvs : List (List Key × V)} {xs : List (List Key × Addr × Value)} (r : KT H kvs xs) (ht : ∀ b ys, H b = some (.tup ys) -> H' b = some (.tup ys)) : KT H' kvs xs :=
 Paired.xf r fun _ _ z => ⟨z.1, ht _ _ z.2.1, z.2.2⟩
section
variable {P : Program} {w : World} {H : Hp} {h : Heap} {a : Addr}
theorem vK {u : HO} (ok : e7 P w H h) (e : Rd H a u) : bh P w H h a u := e.ok ok
theorem j7 {kvs : List (Key × V)} (ok : e7 P w H h) (e : Rd H a (.dK kvs)) : kvs.length <= sizeLine /\ (a == sysModules) = false /\ ∃ vs, KV kvs vs /\ h.DictOf (aL P w) a vs :=
 show bh P w H h a (.dK kvs) from vK ok e
theorem zP {kvs : List (Key × V)} (ok : e7 P w H h) (e : H a = some (.dK kvs)) : kvs.length <= sizeLine /\ (a == sysModules) = false /\ ∃ vs, KV kvs vs /\ h.DictOf (aL P w) a vs := j7 ok (.inl e)
theorem jm {ks : List Key} (ok : e7 P w H h) (e : H a = some (.tup (ks.map kV))) : (tupleKind (aL P w)).is h ks a := by
 obtain ⟨_, aR, r, o, h1, h2, n, h3⟩ := (show bh P w H h a (.tup (ks.map kV)) from ok a _ e)
 exact ⟨o, aR.toArray, n, h1, h2, h3, by simpa using kE r⟩
theorem lV {kvs : List (List Key × V)} (ok : e7 P w H h) (e : Rd H a (.dT kvs)) : kvs.length <= sizeLine /\ (a == sysModules) = false /\
 ∃ xs, KT H kvs xs /\ h.DictOfH (tupleKind (aL P w)) a xs := by
 obtain ⟨z, y, xs, r, o, es, ep, h1, h2, h3, h4, h5⟩ := (show bh P w H h a (.dT kvs) from vK ok e)
 refine ⟨z, y, xs, r, o, es, ep, h1, h2, h3, h4, fun x hx => ?_, h5⟩
 have all : ∀ {l : List (List Key × V)} {m : List (List Key × Addr × Value)}, KT H l m -> ∀ x ∈ m, (tupleKind (aL P w)).is h x.1 x.2.1 := by
  intro l m q
  induction q with
  | nil => intro x hx; exact nomatch hx
  | @cons p q ps qs hq t ih =>
    intro x hx
    rcases List.mem_cons.mp hx with e | hx
    . subst e
      exact jm ok (by rw [<- hq.1]; exact hq.2.1)
    . exact ih x hx
 exact all r x hx
theorem zA {kvs : List (List Key × V)} (ok : e7 P w H h) (e : H a = some (.dT kvs)) : kvs.length <= sizeLine /\ (a == sysModules) = false /\
 ∃ xs, KT H kvs xs /\ h.DictOfH (tupleKind (aL P w)) a xs := lV ok (.inl e)
end
def gm (H : Hp) (a : Addr) (y : V) (r : Option V) : Prop :=
 (∃ kvs k, Rd H a (.dK kvs) /\ y = kV k /\ r = gF kvs k) \/ ∃ kvs k b, Rd H a (.dT kvs) /\ y = .ref b /\ H b = some (.tup (k.map kV)) /\ r = gF kvs k
def k8 (H : Hp) (a : Addr) (y v : V) (H' : Hp) : Prop :=
 (∃ kvs k, H a = some (.dK kvs) /\ y = kV k /\ kvs.length < sizeLine /\ H' = upd H a (.dK (putK kvs k v))) \/
 ∃ kvs k b, H a = some (.dT kvs) /\ y = .ref b /\ H b = some (.tup (k.map kV)) /\ kvs.length < sizeLine /\ H' = upd H a (.dT (putK kvs k v))
theorem gm.k {H : Hp} {a : Addr} {kvs : List (Key × V)} {k : Key} (e : H a = some (.dK kvs)) : gm H a (kV k) (gF kvs k) := .inl ⟨kvs, k, .inl e, rfl, rfl⟩
theorem k8.k {H : Hp} {a : Addr} {kvs : List (Key × V)} {k : Key} {v : V} (e : H a = some (.dK kvs)) (hl : kvs.length < sizeLine) : k8 H a (kV k) v (upd H a (.dK (putK kvs k v))) := .inl ⟨kvs, k, e, rfl, hl, rfl⟩
section
variable {X : Cx} {pins : List (Addr × Obj)} {σ : St} {H : Hp} {s : Shared} {a : Addr} {y v : V} {u r : Value} {o : Option V} {A : Around} {E : Value -> Shared -> Prop}
theorem Inv.big (I : Inv X pins σ H s) : sysModules < s.heap.objs.size := by
 have h : mainGlobals < s.heap.objs.size := (I.mod.glob.keeps I.bk).lt
 exact Nat.lt_trans (by decide) h
theorem qa {Q : Value -> Shared -> Prop} (hu : A.units + 1 < cLine) (I : Inv X pins σ H s) (g : gm H a y (some v)) (ry : RelV y u) (h : ∀ w' s', Inv X pins σ H s' -> RelV v w' -> Q w' s') :
 wpAny (model X.prog X.w) A (getItem (.ref a) u) Q E s := by
 rcases g with ⟨kvs, k, e, ey, l⟩ | ⟨kvs, k, b, e, ey, eb, l⟩
 . subst ey
   obtain ⟨z, hd, vs, rel, dd⟩ := j7 I.aH e
   obtain ⟨w', hw, uX⟩ := gk.some_of (v := v) (o := valueAt vs k) (by rw [l]; exact rel.val k)
   exact wpAny_getItem_of (lE ry) dd.mapOf hw (h w' _ (I.tok _) uX)
 . subst ey
   cases (show u = Value.ref b from ry)
   obtain ⟨z, hd, xs, rel, dd⟩ := lV I.aH e
   obtain ⟨w', hw, uX⟩ := gk.some_of (v := v) (o := (atKey xs k).map (·.2)) (by rw [l]; exact rel.val k)
   obtain ⟨p, hp, qz⟩ := Option.map_eq_some_iff.mp hw
   refine wpAny_getItem_heap (tupleKind_room_in1 hu) (jm I.aH eb) dd hp ?_
   rw [qz]
   exact h w' _ (I.tok _) uX
theorem DZ {Q : Value -> Shared -> Prop} (hu : A.units + 1 < cLine) (I : Inv X pins σ H s) (g : gm H a y o) (ry : RelV y u) (h : ∀ s', Inv X pins σ H s' -> Q (.bool o.isSome) s') :
 wpAny (model X.prog X.w) A (compareOp .In u (.ref a)) Q E s := by
 rcases g with ⟨kvs, k, e, ey, l⟩ | ⟨kvs, k, b, e, ey, eb, l⟩
 . subst ey
   obtain ⟨z, hd, vs, rel, dd⟩ := j7 I.aH e
   refine wpAny_in_of (lE ry) hd dd.mapOf ?_
   rw [<- (rel.val k).eF, <- l]
   exact h _ (I.tok _)
 . subst ey
   cases (show u = Value.ref b from ry)
   obtain ⟨z, hd, xs, rel, dd⟩ := lV I.aH e
   refine wpAny_in_heap (tupleKind_room_in1 hu) (jm I.aH eb) hd dd ?_
   have q := (rel.val k).eF
   rw [Option.isSome_map] at q
   rw [<- q, <- l]
   exact h _ (I.tok _)
theorem u3 {Q : Value -> Shared -> Prop} (hu : A.units + 1 < cLine) (I : Inv X pins σ H s) (g : gm H a y o) (ry : RelV y u) (h : ∀ s', Inv X pins σ H s' -> Q (.bool (!o.isSome)) s') :
 wpAny (model X.prog X.w) A (compareOp .NotIn u (.ref a)) Q E s := by
 rcases g with ⟨kvs, k, e, ey, l⟩ | ⟨kvs, k, b, e, ey, eb, l⟩
 . subst ey
   obtain ⟨z, hd, vs, rel, dd⟩ := j7 I.aH e
   refine wpAny_notIn_of (lE ry) hd dd.mapOf ?_
   rw [<- (rel.val k).eF, <- l]
   exact h _ (I.tok _)
 . subst ey
   cases (show u = Value.ref b from ry)
   obtain ⟨z, hd, xs, rel, dd⟩ := lV I.aH e
   refine wpAny_notIn_heap (tupleKind_room_in1 hu) (jm I.aH eb) hd dd ?_
   have q := (rel.val k).eF
   rw [Option.isSome_map] at q
   rw [<- q, <- l]
   exact h _ (I.tok _)
theorem nU {h' : Heap} {t' : Nat} {ob : HO} (I : Inv X pins σ H s) (mu : zU (H a)) (hs : Heap.SameBut a s.heap h') (he : ∃ q, h'.get? a = some q) (new : bh X.prog X.w (upd H a ob) h' a ob) :
 Inv X pins σ (upd H a ob) { s with heap := h', toks := t' } :=
 I.write (x := a) (e := a) mu (.inl rfl) (fun b q hb z => (hs.2 b hb).trans z) he new
theorem xN {P : Program} {w : World} {H' : Hp} {h' : Heap} {kvs : List (Key × V)} {vs : List (Key × Value)} (z : kvs.length <= sizeLine) (hd : (a == sysModules) = false) (rel : KV kvs vs) (dd : h'.DictOf (aL P w) a vs) :
 bh P w H' h' a (.dK kvs) := ⟨z, hd, vs, rel, dd⟩
theorem qg {H' : Hp} {Q : Unit -> Shared -> Prop} (hu : A.units + 1 < cLine) (I : Inv X pins σ H s) (g : k8 H a y v H') (ry : RelV y u) (rv : RelV v r) (h : ∀ s', Inv X pins σ H' s' -> Q () s') :
 wpAny (model X.prog X.w) A (setItem (.ref a) u r) Q E s := by
 rcases g with ⟨kvs, k, e, ey, l, eH⟩ | ⟨kvs, k, b, e, ey, eb, l, eH⟩
 . subst ey eH
   obtain ⟨z, hd, vs, rel, dd⟩ := zP I.aH e
   have hz : vs.length <= sizeLine := by rw [<- rel.length]; exact z
   have hl : (putK kvs k v).length <= sizeLine := by have := iJ kvs k v; omega
   refine wpAny_setItem_pairs (hsz := hz) (lE ry) dd fun h' BG hs => h _ ?_
   have he : ∃ q, h'.get? a = some q := let ⟨q, _, _, hq, _⟩ := BG; ⟨q, hq⟩
   exact nU I (by rw [e]; exact True.intro) hs he (xN hl hd (rel.put k rv) BG)
 . subst ey eH
   cases (show u = Value.ref b from ry)
   obtain ⟨z, hd, xs, rel, dd⟩ := zA I.aH e
   have hz : xs.length <= sizeLine := by rw [<- Paired.length rel]; exact z
   have hl : (putK kvs k v).length <= sizeLine := by have := iJ kvs k v; omega
   refine wpAny_setItem_heap (hsz := hz) (tupleKind_room_in1 hu) (jm I.aH eb) dd fun h' BG hs => h _ ?_
   obtain ⟨q, es, ep, hq, h2, h3, h4, _, h5⟩ := BG
   refine nU I (by rw [e]; exact True.intro) hs ⟨q, hq⟩ ⟨hl, hd, _, (rel.put k eb rv).keeps fun c ys ec => ?_, q, es, ep, hq, h2, h3, h4, h5⟩
   rw [ag (dQ ec e (fun z => nomatch z))]
   exact ec
end
section
variable {X : Cx} {pins : List (Addr × Obj)} {σ : St} {H : Hp} {s : Shared} {a : Addr} {kvs : List (Key × V)} {k : Key} {u : Value} {A : Around} {E : Value -> Shared -> Prop}
theorem AJ {Q : Value -> Shared -> Prop} (I : Inv X pins σ H s) (e : Rd H a (.dK kvs)) (h : ∀ t s', Inv X pins σ H s' -> Q (.int kvs.length t) s') : wpAny (model X.prog X.w) A (call (.builtin "len") [.ref a]) Q E s := by
 obtain ⟨z, hd, vs, rel, dd⟩ := j7 I.aH e
 refine call_len_dict hd dd (by rw [<- rel.length]; rw [sizeLine_eq] at z; omega) ?_
 rw [<- rel.length]
 exact h _ _ (I.tok _)
end
def AF (i : Expr) : Prop := ∀ ov iv, subscripted i false ov iv = operate [ov, iv] (getItem ov iv)
theorem t5 {prog : Program} {w : World} {A : Around} {E : Value -> Shared -> Prop} {s : Shared} {env : Env} {value slice : Expr} {pos : Pos} {T id : String} {Q : Value -> Shared -> Prop}
 (hl : typeLookup (.type T) "__getitem__" = pure (some (.builtin id))) (hs : AF slice)
 (h : wpAny (model prog w) A (eval value env) (fun o s₁ => wpAny (model prog w) A (eval slice env) (fun i s₂ => s₂.TypeIs o T /\ wpAny (model prog w) A (getItem o i) Q E s₂) E s₁) E s) :
 wpAny (model prog w) A (eval (.Subscript value slice pos) env) Q E s := by
 refine Subscript_ (wpAny_mono h (fun o s₁ h₁ => wpAny_mono h₁ (fun i s₂ h₂ => ?_) fun _ _ x => x) fun _ _ x => x)
 obtain ⟨hT, h₂⟩ := h₂
 unfold subscriptTail
 refine wpAny_bind ?_
 rw [getitemInPython_of_ne hT.not_modules]
 refine wpAny_bind (wpAny_specialOf hT hl ?_)
 have fin : wpAny (model prog w) A (subscripted slice false o i) (fun r s₃ => wpAny (model prog w) A (letTemporaryGo value o r >>= fun _ => pure r) Q E s₃) E s₂ := by
  rw [hs o i]
  exact wpAny_operating (wpAny_mono h₂ (fun r s₃ h₃ => wpAny_bind (wpAny_letTemporaryGo (wpAny_pure h₃))) fun _ _ x => x)
 first
  | exact wpAny_pure (wpAny_bind fin)
  | exact wpAny_bind (wpAny_pure (wpAny_bind fin))
  | exact wpAny_bind fin
theorem mz {X : Cx} {pins : List (Addr × Obj)} {σ : St} {H : Hp} {s : Shared} {a : Addr} {y : V} {o : Option V} (I : Inv X pins σ H s) (g : gm H a y o) : s.TypeIs (.ref a) "dict" := by
 rcases g with ⟨kvs, k, e, _, _⟩ | ⟨kvs, k, b, e, _, _, _⟩
 . obtain ⟨_, _, vs, _, dd⟩ := j7 I.aH e
   exact dd.typeIs
 . obtain ⟨_, _, xs, _, dd⟩ := lV I.aH e
   exact dd.typeIs
def vG (td ty : TE) : TE := fun σ H Q => td σ H fun x H1 => ty σ H1 fun y H2 => ∃ a v, x = .ref a /\ gm H2 a y (some v) /\ Q v H2
def AV (ty td : TE) : TE := fun σ H Q => ty σ H fun y H1 => td σ H1 fun x H2 => ∃ a o, x = .ref a /\ gm H2 a y o /\ Q (.bl o.isSome) H2
def oR (ty td : TE) : TE := fun σ H Q => ty σ H fun y H1 => td σ H1 fun x H2 => ∃ a o, x = .ref a /\ gm H2 a y o /\ Q (.bl (!o.isSome)) H2
def vB (td ty tv : TE) : TS := fun D σ H => tv σ H fun v H1 => td σ H1 fun x H2 => ty σ H2 fun y H3 => ∃ a H4, x = .ref a /\ k8 H3 a y v H4 /\ D.nx σ H4
section
variable {X : Cx} {o i e value : Expr} {pos pos' wA : Pos} {td ty tv : TE}
theorem eM (hu : X.A.units + 1 < cLine) (ho : PE X o td) (hi : PE X i ty) (hs : AF i) : PE X (.Subscript o i pos) (vG td ty) := by
 intro pins s σ H Q I h
 refine t5 PySem.F.slot_dict_getitem.lookup hs (bH (ho pins s σ H _ I h) fun u s1 ⟨x, H1, I1, rx, q1⟩ => bH (hi pins s1 σ H1 _ I1 q1) fun iv s2 ⟨y, H2, I2, ry, a, v, ex, g, q2⟩ => ?_)
 subst ex
 obtain rfl : u = Value.ref a := rx
 exact ⟨mz I2 g, qa hu I2 g ry fun w' s3 I3 uX => ⟨v, H2, I3, uX, q2⟩⟩
theorem mQ (hu : X.A.units + 1 < cLine) (hi : PE X i ty) (ho : PE X o td) : PC X .In i o (AV ty td) := by
 intro pins s σ H Q I h
 refine bH (hi pins s σ H _ I h) fun iv s1 ⟨y, H1, I1, ry, q1⟩ => bH (ho pins s1 σ H1 _ I1 q1) fun u s2 ⟨x, H2, I2, rx, a, ov, ex, g, q2⟩ => ?_
 subst ex
 obtain rfl : u = Value.ref a := rx
 exact DZ hu I2 g ry fun s3 I3 => ⟨.bl ov.isSome, H2, I3, rfl, q2⟩
theorem km (hu : X.A.units + 1 < cLine) (hi : PE X i ty) (ho : PE X o td) : PC X .NotIn i o (oR ty td) := by
 intro pins s σ H Q I h
 refine bH (hi pins s σ H _ I h) fun iv s1 ⟨y, H1, I1, ry, q1⟩ => bH (ho pins s1 σ H1 _ I1 q1) fun u s2 ⟨x, H2, I2, rx, a, ov, ex, g, q2⟩ => ?_
 subst ex
 obtain rfl : u = Value.ref a := rx
 exact u3 hu I2 g ry fun s3 I3 => ⟨.bl (!ov.isSome), H2, I3, rfl, q2⟩
theorem kJ (hu : X.A.units + 1 < cLine) (ho : PE X o td) (hi : PE X i ty) (hv : PE X value tv) (hs : swapsWith value (some (.Subscript o i pos')) pos.line X.env = pure false) :
 PS X (.Assign [.Subscript o i pos'] value pos) (vB td ty tv) := by
 intro pins s σ H D I h
 refine wpAny_Assign_Subscript (bH (hv pins s σ H _ I h) fun r s1 ⟨v, H1, I1, rv, q1⟩ => bH (ho pins s1 σ H1 _ I1 q1) fun u s2 ⟨x, H2, I2, rx, q2⟩ => bH (hi pins s2 σ H2 _ I2 q2) fun iv s3 ⟨y, H3, I3, ry, a, H4, ex, g, q3⟩ => ?_) hs
 subst ex
 obtain rfl : u = Value.ref a := rx
 exact qg hu I3 g ry rv fun s4 I4 => ⟨σ, H4, I4, q3⟩
end
theorem sC {P : Program} {w : World} {H : Hp} (h : Heap) (hb : sysModules < h.objs.size) : bh P w H (h.push { cls := .type "dict", data := .dict #[] }) h.objs.size (.dK []) :=
 ⟨Nat.zero_le _, beq_eq_false_iff_ne.mpr (Ne.symm (Nat.ne_of_lt hb)), [], .nil, Heap.DictOf.new h⟩
def rn : TE := fun _ H Q => ∀ p, H p = none -> Q (.ref p) (upd H p (.dK []))
section
variable {X : Cx} {pos : Pos}
theorem gO : PE X (.Dict [] [] pos) rn := fun pins s σ H Q I h =>
 wpAny_Dict_empty ⟨.ref s.heap.objs.size, _, I.laid (a := s.heap.objs.size) (o := .dK []) (t' := s.toks) (fun _ _ q => Heap.get?_push_of_some _ q) (Nat.le_refl _) (sC s.heap I.big), rfl, h _ (I.aH.fresh (Nat.le_refl _))⟩
end
structure M1 (X : Cx) (o : Expr) (m : Str) (apos : Pos) (e : Expr) (c5 : Pos) : Prop where
 base : attributeBase o m X.env (eval o X.env) = eval o X.env
 few : ((backTo c5 (starEach [e] X.env)).all (fun x => !x.1) && (backToKw c5 (keywordEach [] X.env)).all (fun x => x.1.isSome)
  && decide (([e] : List Expr).length + ([] : List Keyword).length + (if ([] : List Keyword).isEmpty then 0 else 1) < 30)) = true
 line : (apos.endLine == c5.line) = true
 trees : backTo c5 (starEach [e] X.env) = [(false, eval e X.env)]
structure M2 (X : Cx) (o : Expr) (m : Str) (apos : Pos) (e f : Expr) (c5 : Pos) : Prop where
 base : attributeBase o m X.env (eval o X.env) = eval o X.env
 few : ((backTo c5 (starEach [e, f] X.env)).all (fun x => !x.1) && (backToKw c5 (keywordEach [] X.env)).all (fun x => x.1.isSome)
  && decide (([e, f] : List Expr).length + ([] : List Keyword).length + (if ([] : List Keyword).isEmpty then 0 else 1) < 30)) = true
 line : (apos.endLine == c5.line) = true
 trees : backTo c5 (starEach [e, f] X.env) = [(false, eval e X.env), (false, eval f X.env)]
section
variable {X : Cx} {pins : List (Addr × Obj)} {σ : St} {H : Hp} {s : Shared} {a : Addr} {y d : V} {u r : Value} {o : Option V} {A : Around} {E : Value -> Shared -> Prop}
end
section
variable {X : Cx} {o e f : Expr} {apos c5 : Pos} {td ty tx : TE}
end
section
variable {X : Cx} {pins : List (Addr × Obj)} {σ : St} {H : Hp} {s : Shared} {a : Addr} {kvs : List (Key × V)} {A : Around} {E : Value -> Shared -> Prop}
end
section
variable {X : Cx} {pins : List (Addr × Obj)} {σ : St} {H : Hp} {s : Shared} {a : Addr} {y : V} {u : Value} {A : Around} {E : Value -> Shared -> Prop}
end
end L2
namespace EF
open PySem PySem.W PySem.Calls PyProof.Rows
theorem iT {P : Params} {h : Heap} : ∀ (ns : List Int) (vs : List Value), WellAll P h vs (ns.map WData.int) -> IntsAre vs ns := by
 intro ns
 induction ns with
 | nil =>
   intro vs w
   rw [List.map_nil] at w
   cases w
   exact .nil
 | cons n ns ih =>
   intro vs w
   rw [List.map_cons] at w
   cases w with
   | cons a b =>
     cases a
     exact .cons _ _ (ih _ b)
theorem pd {l : OpenLaw} {n : Nat} (hn : l.most = some n) {P : Params} {h : Heap} {args : List WData} {vals : List Value}
 (uQ : l.row.toRowW.claim.pre args = true) (yO : WellAll P h vals args) :
 ∃ a vs ns, vals = [Value.ref a] /\ args = [WData.list (ns.map WData.int)] /\ h.get? a = some { cls := .type "list", data := .seq vs.toArray } /\ IntsAre vs ns /\ ns.length <= n := by
 have GO : WShape.hasAll [] args [.list .int] = true := (pre_splitW uQ).1
 have hc : l.pre.holds [] { args := args } = true := (pre_splitW uQ).2
 obtain ⟨d, r, rfl, h1, h2⟩ := hasAllW_cons GO
 obtain rfl := hasAllW_nil h2
 obtain ⟨xs, rfl, h3⟩ := hasW_list h1
 obtain ⟨ns, rfl⟩ := items_int h3
 have hlen : ns.length <= n := by
  unfold OpenLaw.pre at hc
  have h4 : (WTm.not (.lt (.lit (.int (n : Int))) (.len (.arg 0)))).holds [] { args := [.list (ns.map .int)] } = true := by
   have h4 := (holds_andW hc).1
   rw [hn] at h4
   exact h4
  have h5 := condW_of h4 (w_not (w_lt w_lit (w_len_list (w_arg rfl))))
  rw [List.length_map] at h5
  refine Nat.le_of_not_lt fun q => ?_
  have q' : (n : Int) < ((ns.length : Nat) : Int) := by omega
  first
   | (rw [decide_eq_true q'] at h5; exact absurd h5 (by decide))
   | (simp at h5; omega)
 cases yO with
 | cons w1 w2 =>
   cases w2
   cases w1 with
   | list ho xG => exact ⟨_, _, ns, rfl, rfl, ho, iT ns _ xG, hlen⟩
theorem pI (l : OpenLaw) (args : List WData) : l.row.toRowW.claim.post args (.bool true) args = true :=
 postW_of (r := l.row.toRowW) (X := (true == true))
  (show WShape.has [] (.bool true) .bool = true by first | rfl | decide | simp [WShape.has, WShape.arms, WShape.armsAll])
  (show (WTm.eq .res (.lit (.bool true))).value [] { args := args, res := some (.bool true), after := args } = some (.bool (true == true)) from w_eq_bool (w_res rfl) w_lit) rfl
theorem lX {l : OpenLaw} {n : Nat} {q : Program} {loose : List Str} {XP : (Str -> Option Value) -> Heap -> Prop} {YP : World -> Heap -> Prop} {d : DefRec}
 (hn : l.most = some n) (C3 : d.params.defaults = [])
 (call : ∀ (w : World) (ck s₁ : Shared) (mg mb : Str -> Option Value) (fa : Addr) (o : Obj) (pm cd doc : Value) (a : Addr) (vs : List Value) (ns : List Int),
  Ground q loose [] XP w ck mg mb s₁.heap -> YP w s₁.heap ->
  s₁.heap.get? fa = some o -> o.data = .func (docDef d.name d.params d.body d.scope pm cd doc) -> s₁.heap.CodeRec cd d.name -> mg d.name = some (.ref fa) ->
  s₁.heap.get? a = some { cls := .type "list", data := .seq vs.toArray } -> IntsAre vs ns -> ns.length <= n -> s₁.gens = #[] ->
  codeAny (model l.prog w) callerA (.call (.ref fa) ⟨[.ref a], []⟩) (fun r s' => r = .ok (.ret (.bool true)) /\ OldK s₁.heap s'.heap /\ s'.os = s₁.os /\ AllBare s'.gens) s₁) :
 WalkO q loose XP YP l.row.toRowW d [] (fun f vs => PySem.call f vs) := by
 intro w ck s₁ mg mb G Y fa o pm cd doc dV kV ho hd j2 hD yL hg args vals as uQ Gr BI yO Ia
 obtain rfl : dV = .none := Dflts.none hD C3
 obtain rfl : kV = .none := Dflts.noKw hD
 obtain ⟨a, vs, ns, rfl, rfl, wR, hints, hlen⟩ := pd hn uQ yO
 refine enter_call (codeAny_mono (call w ck s₁ mg mb fa o pm cd doc a vs ns G Y ho (fd_plain hd) j2 yL wR hints hlen hg) fun r s' hq => ?_)
 obtain ⟨rfl, h2, h3, h4⟩ := hq
 exact ⟨.inl ⟨.bool true, .bool true, [], rfl, fun _ => rfl, .bool true, pI l _, fun _ => ⟨List.Pairwise.nil, fun _ hm => (nomatch hm)⟩⟩, h2, h3, h4⟩
section
variable {prog : Program} {w : World} {A : Around} {E : Value -> Shared -> Prop} {s : Shared} {K : Frag}
end
end EF
namespace L2
open PySem PySem.Spec PyProof.Rows
theorem j6 : ∀ {vs : List Value} {ns : List Int}, IntsAre vs ns -> Vals (ns.map V.int) vs
 | _, _, .nil => .nil
 | _, _, .cons n t h => .cons ⟨t, rfl⟩ (j6 h)
def inClass (s : Stmt) (j : Nat) : Stmt := match s with
 | .ClassDef _ _ _ body _ _ _ _ _ _ _ => body.getD j (.Pass ⟨0, 0, 0, 0⟩)
 | _ => .Pass ⟨0, 0, 0, 0⟩
def g9 (s : Stmt) : Arguments := match s with
 | .FunctionDef _ a _ _ _ _ _ _ _ _ => a
 | _ => { posonlyargs := [], args := [], vararg := none, kwonlyargs := [], kw_defaults := [], kwarg := none, defaults := [] }
def eP (s : Stmt) : List Stmt := match s with
 | .FunctionDef _ _ b _ _ _ _ _ _ _ => b
 | _ => []
def ax (s : Stmt) : Scope := match s with
 | .FunctionDef _ _ _ _ _ _ sc _ _ _ => sc
 | _ => { kind := .function, names := [], isGenerator := false, isCoroutine := false }
abbrev iH : lY := fun _ _ _ _ _ _ => False
abbrev E0 : XK := fun _ _ _ => False
theorem o8 {X : Cx} : Passes iH X E0 := fun _ _ _ _ _ _ _ h => h.elim
structure Im (K : PySem.W.Frag) (x qual : Str) (st : Stmt) (f : Addr) (fd : FuncData) : Prop where
 ex : ∃ (oc : Value) (od : Option Addr) (kV doc pm : Value) (an : Option Addr) (d5 ct : Value) (p0 : Array (Option Value)),
  fd = PySem.W.fnOf x qual (g9 st) (eP st) (ax st) .none kV doc pm an d5 ct /\ K.lookup f = some ⟨oc, od, .func fd, p0⟩ /\ PySem.W.codeIn K d5 qual = true
 kp : PySem.W.keepIn K (.ref f) = true
section
variable {P : Program} {w : World} {K : PySem.W.Frag} {mg : Str -> Option Value} {base : Heap}
end
theorem dX {A : Around} {k : Nat} (hr : bj k A) : A.units + 1 < cLine := Nat.lt_of_le_of_lt (Nat.add_le_add_left (by decide : 1 <= 64) _) hr.units
section
variable {X : Cx}
theorem pv (i : Nat) {x : Str} {pos : Pos} (hN : X.N[i]? = some x := by rfl) (hv : y7 X.env.scope x := by first | exact Or.inl rfl | exact Or.inr (Or.inl rfl) | exact Or.inr (Or.inr rfl)) (hd : (x == ("__debug__" : Str)) = false := by decide)
 (j2 : (x == ("__classdict__" : Str)) = false := by decide) : PE X (.Name x pos) (wq i) := wY hN hv hd j2
theorem pN : eB X (.builtin "len") (fun xs H Q => ∃ a kvs, xs = [V.ref a] /\ H a = some (.dK kvs) /\ Q (.int kvs.length) H) := by
 intro pins s σ H xs us Q I r h
 obtain ⟨a, kvs, rfl, ha, q⟩ := h
 obtain ⟨u, rfl, ru⟩ := vals1 r
 cases ru
 exact AJ I (.inl ha) fun t s' I' => ⟨.int kvs.length, H, I', ⟨t, rfl⟩, q⟩
end
theorem DL {A B : Prop} (h : B) : if false = true then A else B := by
 rw [if_neg Bool.false_ne_true]
 exact h
theorem Eb {A B : Prop} (h : A) : if true = true then A else B := by
 rw [if_pos rfl]
 exact h
def ai (H H' : Hp) : Prop := ∀ b o, H b = some o -> H' b = some o
theorem ai.refl (H : Hp) : ai H H := fun _ _ h => h
theorem ai.trans {H H1 H2 : Hp} (a : ai H H1) (b : ai H1 H2) : ai H H2 := fun c o h => b c o (a c o h)
theorem ai.seq {K : PySem.W.Frag} {H H' : Hp} {a : Addr} {xs : List V} (e : ai H H') (h : c6 K H a xs) : c6 K H' a xs := by
 rcases h with (h | ⟨o, h⟩) | h
 . exact .inl (.inl (e _ _ h))
 . exact .inl (.inr ⟨o, e _ _ h⟩)
 . exact .inr h
section
variable {κ : Type} [DecidableEq κ]
end
section
variable {X : Cx}
def wc (_ j : Int) : Prop := 0 < j /\ j.natAbs < 2 ^ 2000
theorem eG : hX X (binaryOp .FloorDiv) (rI wc fun i j => .int (i / j)) := Fj fun i j _ _ _ _ _ hc q => by
 have e : i.fdiv j = i / j := Int.fdiv_eq_ediv_of_nonneg _ (Int.le_of_lt hc.1)
 have hl : j.natAbs.log2 < 9000 := by
  have h0 : j.natAbs ≠ 0 := by have := hc.1; omega
  have h2 : j.natAbs.log2 < 2000 := (Nat.log2_lt h0).mpr hc.2
  omega
 refine floordiv_int (by have := hc.1; omega) ?_ (.inl (PyProof.noPylong_of_log2 hl))
 rw [e]; exact q
inductive yo : V -> Value -> Prop where
 | ty (n : String) : yo (.ty n) (.type n)
 | ref (C : Addr) : yo (.ref C) (.ref C)
def t8 (K : PySem.W.Frag) : List V -> Hp -> VK -> Prop := fun xs H Q => ∃ x c cv t b, xs = [x, c] /\ yo c cv /\ hU K H x t /\ PySem.W.kitOne K t cv = some b /\ Q (.bl b) H
theorem gN : eB X (.builtin "isinstance") (t8 X.K) := by
 intro pins s σ H xs us Q I r h
 obtain ⟨x, c, cv, t, b, rfl, hc, ty, e, q⟩ := h
 obtain ⟨u, w', rfl, r1, r2⟩ := vals2 r
 have ew : w' = cv := by cases hc <;> exact r2
 subst ew
 exact pR I r1 ty e fun tk => ⟨.bl b, H, I.tok tk, rfl, q⟩
structure Fq (K : PySem.W.Frag) (C : Addr) (m : Str) (f : Addr) : Prop where
 ga : PySem.W.specialIn K (.ref C) "__getattribute__" = some (some (.builtin "type.__getattribute__"))
 rd : PySem.W.readsIn K C (.type "type") = true
 fd : PySem.W.findCls K (.ref C) (.type "type") m = some (.val (.ref f))
 kp : PySem.W.keepIn K (.ref f) = true
end
mutual
inductive fZ (K : PySem.W.Frag) (H : Hp) : V -> PyData -> Prop where
 | aO : fZ K H .aO .none
 | bl (b : Bool) : fZ K H (.bl b) (.bool b)
 | int (i : Int) : fZ K H (.int i) (.int i)
 | str (x : Str) : fZ K H (.str x) (.str x)
 | tup {a : Addr} {xs : List V} {ds : List PyData} (h : oo K H a xs) (r : c4 K H xs ds) : fZ K H (.ref a) (.tuple ds)
 | lst {a : Addr} {xs : List V} {ds : List PyData} (h : c6 K H a xs) (r : c4 K H xs ds) : fZ K H (.ref a) (.list ds)
inductive c4 (K : PySem.W.Frag) (H : Hp) : List V -> List PyData -> Prop where
 | nil : c4 K H [] []
 | cons {x : V} {d : PyData} {xs : List V} {ds : List PyData} (h : fZ K H x d) (r : c4 K H xs ds) : c4 K H (x :: xs) (d :: ds)
end
theorem oo.keeps {K : PySem.W.Frag} {H H' : Hp} {a : Addr} {xs : List V} (e : ai H H') (h : oo K H a xs) : oo K H' a xs := by
 rcases h with (h | ⟨o, h⟩) | h
 . exact .inl (.inl (e _ _ h))
 . exact .inl (.inr ⟨o, e _ _ h⟩)
 . exact .inr h
mutual
theorem fZ.keeps {K : PySem.W.Frag} {H H' : Hp} (e : ai H H') : ∀ {v : V} {d : PyData}, fZ K H v d -> fZ K H' v d
 | _, _, .aO => .aO
 | _, _, .bl b => .bl b
 | _, _, .int i => .int i
 | _, _, .str x => .str x
 | _, _, .tup h r => .tup (oo.keeps e h) (c4.keeps e r)
 | _, _, .lst h r => .lst (ai.seq e h) (c4.keeps e r)
theorem c4.keeps {K : PySem.W.Frag} {H H' : Hp} (e : ai H H') : ∀ {vs : List V} {ds : List PyData}, c4 K H vs ds -> c4 K H' vs ds
 | _, _, .nil => .nil
 | _, _, .cons h r => .cons (fZ.keeps e h) (c4.keeps e r)
end
section
variable {X : Cx} {pins : List (Addr × Obj)} {σ : St} {H : Hp} {s : Shared}
mutual
theorem fZ.reads (I : Inv X pins σ H s) : ∀ {v : V} {d : PyData} {u : Value}, fZ X.K H v d -> RelV v u -> ∃ as, Reads s.heap u d as
 | _, _, _, .aO, r => by cases r; exact ⟨_, .none⟩
 | _, _, _, .bl b, r => by cases r; exact ⟨_, .bool b⟩
 | _, _, _, .int i, r => by obtain ⟨t, rfl⟩ := r; exact ⟨_, .int i t⟩
 | _, _, _, .str x, r => by obtain ⟨t, rfl⟩ := r; exact ⟨_, .str x t⟩
 | _, _, _, .tup h q, r => by
   cases r
   obtain ⟨aR, rv, ⟨o, h1, h2, n, h3⟩, _⟩ := I.tuple h
   obtain ⟨as, ra⟩ := c4.reads I q rv
   exact ⟨_, .tuple h1 h2 h3 (by simpa using ra)⟩
 | _, _, _, .lst h q, r => by
   cases r
   obtain ⟨aR, rv, ⟨o, n, h1, h2, _, h3⟩, _⟩ := I.list h
   obtain ⟨as, ra⟩ := c4.reads I q rv
   exact ⟨_, .list h1 h2 h3 (by simpa using ra)⟩
theorem c4.reads (I : Inv X pins σ H s) : ∀ {vs : List V} {ds : List PyData} {us : List Value}, c4 X.K H vs ds -> Vals vs us -> ∃ as, ReadsAll s.heap us ds as
 | _, _, _, .nil, r => by cases r; exact ⟨_, .nil⟩
 | _, _, _, .cons h q, r => by
   cases r with
   | cons r1 r2 =>
     obtain ⟨as, ra⟩ := fZ.reads I h r1
     obtain ⟨bs, rb⟩ := c4.reads I q r2
     exact ⟨_, .cons ra rb⟩
end
end
section
variable {X : Cx}
def AI (K : PySem.W.Frag) (f : Bool -> Bool) : R2 := fun x y H Q => ∃ d e, fZ K H x d /\ fZ K H y e /\ d.canLay0 = true /\ e.canLay0 = true /\ d.depth <= 8 /\ Q (.bl (f (PyData.eqv d e))) H
theorem x5 (hu : X.A.units + 8 < cLine) : hX X (compareOp .Eq) (AI X.K id) := by
 intro pins s σ H x y v u Q I rx ry h
 obtain ⟨d, e, hd, he, c1, c2, hn, q⟩ := h
 obtain ⟨as, ra⟩ := hd.reads I rx
 obtain ⟨bs, rb⟩ := he.reads I ry
 exact SeqAt.compareEq_reads ra rb c1 c2 (by have := Nat.min_le_left d.depth e.depth; omega) ⟨.bl _, H, I, rfl, q⟩
theorem yF (hu : X.A.units + 8 < cLine) : hX X (compareOp .NotEq) (AI X.K not) := by
 intro pins s σ H x y v u Q I rx ry h
 obtain ⟨d, e, hd, he, c1, c2, hn, q⟩ := h
 obtain ⟨as, ra⟩ := hd.reads I rx
 obtain ⟨bs, rb⟩ := he.reads I ry
 exact SeqAt.compareNe_reads ra rb c1 c2 (by have := Nat.min_le_left d.depth e.depth; omega) ⟨.bl _, H, I, rfl, q⟩
end
structure iV (P : Program) (w : World) (K : PySem.W.Frag) (mg : Str -> Option Value) (base : Heap) (k : Nat) (f : Addr) (ps : List Str) (bP : List V) (sp : Sp) : Prop where
 ex : ∃ (fd : FuncData) (ds : List Value), bS P w K mg base iH k f fd ps sp /\ Binds K fd ps ds /\ Vals bP ds
section
variable {X : Cx} {k : Nat} {f C : Addr} {ps : List Str} {sp : Sp} {bP : List V} {x m : Str} {p pos apos : Pos} {e o : Expr} {es : List Expr} {ta : TE} {t : TA}
theorem vv (c : iV X.prog X.w X.K X.mg X.base k f ps bP sp) (hr : bj k X.A) (hg : Gl X x) (hm : X.mg x = some (.ref f)) (hk : PySem.W.keepIn X.K (.ref f) = true)
 (ha : PA X (e :: es) t) (p6 : (x == ("__debug__" : Str)) = false := by decide) (he : starEach (e :: es) X.env = (false, eval e X.env) :: starEach es X.env := by rfl) (lz : (backTo pos (starEach es X.env)).any (·.1) = false := by rfl) :
 PE X (.Call (.Name x p) (e :: es) [] pos) (oE sp bP E0 t) := by
 obtain ⟨fd, ds, F, hb, hd⟩ := c.ex
 exact uE F hr hg hm hk hb hd o8 ha p6 he lz
theorem vm {pl : Sem Bool} (he : PE X o ta) (c : j4 X.K C) (hm : Meth X.K C m f) (F : iV X.prog X.w X.K X.mg X.base k f ps bP sp) (hr : bj k X.A) (ha : PA X (e :: es) t)
 (i5 : starEach (e :: es) X.env = (false, eval e X.env) :: starEach es X.env := by rfl) (lz : (backTo pos (starEach es X.env)).any (·.1) = false := by rfl)
 (ht : eval (.Call (.Attribute o m apos) (e :: es) [] pos) X.env = (do
  let ov <- eval o X.env
  standAt apos.atName
  let (f, first) <- holding [ov] (getMethod ov m pl)
  callWith pos f first (backTo pos (starEach (e :: es) X.env)) (backToKw pos (keywordEach [] X.env))) := by rfl) :
 PE X (.Call (.Attribute o m apos) (e :: es) [] pos) (kj C m sp bP E0 ta t) := by
 obtain ⟨fd, ds, F, hb, hd⟩ := F.ex
 exact uq he c hm F hr hb hd o8 ha i5 lz ht
theorem qY {pl : Sem Bool} (he : PE X o ta) (c : j4 X.K C) (hm : Meth X.K C m f) (F : iV X.prog X.w X.K X.mg X.base k f ps bP sp) (hr : bj k X.A)
 (ht : eval (.Call (.Attribute o m apos) [] [] pos) X.env = (do
  let ov <- eval o X.env
  standAt apos.atName
  let (f, first) <- holding [ov] (getMethod ov m pl)
  callWith pos f first (backTo pos (starEach [] X.env)) (backToKw pos (keywordEach [] X.env))) := by rfl) :
 PE X (.Call (.Attribute o m apos) [] [] pos) (kj C m sp bP E0 ta m5) := by
 obtain ⟨fd, ds, F, hb, hd⟩ := F.ex
 exact qU he c hm F hr hb hd o8 ht
end
structure cQ (K : PySem.W.Frag) (x qual : Str) (st : Stmt) (f : Addr) (dV : Value) (fd : FuncData) : Prop where
 ex : ∃ (oc : Value) (od : Option Addr) (kV doc pm : Value) (an : Option Addr) (d5 ct : Value) (p0 : Array (Option Value)),
  fd = PySem.W.fnOf x qual (g9 st) (eP st) (ax st) dV kV doc pm an d5 ct /\ K.lookup f = some ⟨oc, od, .func fd, p0⟩ /\ PySem.W.codeIn K d5 qual = true
theorem oN {K : PySem.W.Frag} {x qual : Str} {st : Stmt} {f : Addr} {oc : Value} {od an : Option Addr} {p0 : Array (Option Value)} {dV kV doc pm d5 ct : Value} (l : K.lookup f = some ⟨oc, od, .func (PySem.W.fnOf x qual (g9 st) (eP st) (ax st) dV kV doc pm an d5 ct), p0⟩)
 (c : PySem.W.codeIn K d5 qual = true) : cQ K x qual st f dV (PySem.W.fnOf x qual (g9 st) (eP st) (ax st) dV kV doc pm an d5 ct) := ⟨⟨oc, od, kV, doc, pm, an, d5, ct, p0, rfl, l, c⟩⟩
section
variable {P : Program} {w : World} {K : PySem.W.Frag} {mg : Str -> Option Value} {base : Heap}
theorem cQ.ok {x qual : Str} {st : Stmt} {f : Addr} {dV : Value} {fd : FuncData} {N ps : List Str} {k : Nat} {sp : Sp} (F : cQ K x qual st f dV fd) (S : aP N ps (ax st)) (len : ∀ vs H Q E, sp vs H Q E -> vs.length = ps.length)
 (iG : ∀ (d5 : Value) (A : Around) (outer : List Env) (s : Shared) (H : Hp) (vs : List V) (Q : VK) (E : XK), bj k (A.deeper (envOfC qual (ax st) s.heap.objs.size f d5)) -> sp vs H Q E ->
  ∃ t, nD (nQ iH P w K mg base N qual (ax st) f d5 A outer s H E).yV (eP st) t /\ t { nx := fun _ H' => Q .aO H', rt := Q } (start N vs) H) : bS P w K mg base iH (k + 1) f fd ps sp := by
 obtain ⟨oc, od, kV, doc, pm, an, d5, ct, p0, rfl, lk, j2⟩ := F.ex
 refine vY lk j2 S len fun A outer s H vs Q E hr tM => ?_
 obtain ⟨t, h, q⟩ := iG d5 A outer s H vs Q E hr tM
 exact ⟨t, h.yV, q⟩
theorem cQ.binds {x qual : Str} {st : Stmt} {f : Addr} {dV : Value} {fd : FuncData} {ps : List Str} {ds : List Value} (F : cQ K x qual st f dV fd)
 (h : ∀ (kV doc pm : Value) (an : Option Addr) (d5 ct : Value), Binds K (PySem.W.fnOf x qual (g9 st) (eP st) (ax st) dV kV doc pm an d5 ct) ps ds) : Binds K fd ps ds := by
 obtain ⟨oc, od, kV, doc, pm, an, d5, ct, p0, rfl, lk, j2⟩ := F.ex
 exact h kV doc pm an d5 ct
end
structure yd (K : PySem.W.Frag) (T : Addr) (items : Array Value) : Prop where
 ex : ∃ (o : Obj) (n : Nat), K.lookup T = some o /\ o.data = .seq items n
structure AB (K : PySem.W.Frag) (C : Addr) : Prop where
 ha : PySem.W.findIn K (.ref C) "__class__" = some (some (.builtin "object.__class__"))
 hn : PySem.W.specialIn K (.builtin "object.__class__") "__get__" = some (some (.builtin "getset_descriptor.__get__"))
 ht : PySem.W.takesIn K (.builtin "object.__class__") = some true
 hm : PySem.W.mroIn K C (.type "object") = some true
section
variable {σ : St} {H : Hp} {Q : VK} {D : Ends} {K : PySem.W.Frag}
theorem yz (h : D.nx σ H) : wa D σ H := h
theorem zS {te : TE} (h : te σ H D.rt) : A2 te D σ H := h
theorem xE {te : TE} (h : te σ H fun _ H1 => D.nx σ H1) : vO te D σ H := h
theorem Bc {c : TT} {t u : TS} (h : c σ H fun b H1 => if b = true then t D σ H1 else u D σ H1) : AG c t u D σ H := h
theorem zQ {te : TE} {i : Nat} (h : te σ H fun x H1 => D.nx (σ.set i (some x)) H1) : Bb te (iE i) D σ H := h
theorem Al {i : Nat} {v : V} (e : σ[i]? = some (some v)) (h : Q v H) : wq i σ H Q := ⟨v, e, h⟩
theorem GI {v : V} (h : Q v H) : tC v σ H Q := h
theorem Dg {r : R2} {ta tb : TE} (h : ta σ H fun x H1 => tb σ H1 fun y H2 => r x y H2 Q) : AY r ta tb σ H Q := h
theorem Ec {r : V -> Hp -> VK -> Prop} {ta : TE} (h : ta σ H fun x H1 => r x H1 Q) : Fs r ta σ H Q := h
theorem C0 {g : Int -> Int -> V} {i j : Int} (h : Q (g i j) H) : wm g (.int i) (.int j) H Q := ⟨i, j, rfl, rfl, h⟩
theorem FU {C : Int -> Int -> Prop} {g : Int -> Int -> V} {i j : Int} (c : C i j) (h : Q (g i j) H) : rI C g (.int i) (.int j) H Q := ⟨i, j, rfl, rfl, c, h⟩
theorem F1 {g : Int -> V} {i : Int} (h : Q (g i) H) : rU g (.int i) H Q := ⟨i, rfl, h⟩
theorem xi {t : TE} {Q : Bool -> Hp -> Prop} (h : t σ H fun x H' => ∃ k, x = .bl k /\ Q k H') : vJ t σ H Q := h
theorem Bd {t u : TT} {Q : Bool -> Hp -> Prop} (h : t σ H fun c H1 => if c = true then u σ H1 Q else Q false H1) : zE t u σ H Q := h
theorem C7 {t u : TT} {Q : Bool -> Hp -> Prop} (h : t σ H fun c H1 => if c = true then Q true H1 else u σ H1 Q) : Fp t u σ H Q := h
theorem Bl {t : TT} {Q : Bool -> Hp -> Prop} (h : t σ H fun c H1 => Q (!c) H1) : zc t σ H Q := h
theorem wz {ta tb : TE} (h : ta σ H fun x H1 => ∃ c, x = .bl c /\ if c = true then tb σ H1 Q else Q (.bl false) H1) : vR ta tb σ H Q := h
theorem x3 {ta : TE} (h : ta σ H fun x H1 => ∃ c, x = .bl c /\ Q (.bl (!c)) H1) : wd ta σ H Q := h
theorem Dx {b : Bool} {R : Bool -> Prop} (h : R b) : ∃ k, V.bl b = .bl k /\ R k := ⟨b, rfl, h⟩
theorem zb {Q : List V -> Hp -> Prop} (h : Q [] H) : m5 σ H Q := h
theorem yj {ta : TE} {tr : TA} {Q : List V -> Hp -> Prop} (h : ta σ H fun x H1 => tr σ H1 fun xs H2 => Q (x :: xs) H2) : vU ta tr σ H Q := h
theorem D1 {r : List V -> Hp -> VK -> Prop} {t : TA} (h : t σ H fun vs H1 => r vs H1 Q) : CT r t σ H Q := h
theorem Bh {ta : TE} {f : Str} (h : ta σ H fun x H1 => ∃ a C dx fs v, x = .ref a /\ H1 a = some (.ins C dx fs) /\ j4 K C /\ cz K C f /\ fs.lookup f = some v /\ Q v H1) : zL K ta f σ H Q := h
theorem se {A B : Prop} (h : A) : if true = true then A else B := by rw [if_pos rfl]; exact h
theorem ph {A B : Prop} (h : B) : if false = true then A else B := by rw [if_neg Bool.false_ne_true]; exact h
end
section
variable {X : Cx} {e : Expr} {es : List Expr}
theorem PE.weak {t u : TE} (h1 : PE X e t) (h : ∀ σ H Q, u σ H Q -> t σ H Q) : PE X e u := fun pins s σ H Q I q => h1 pins s σ H Q I (h σ H Q q)
def mA (t : TA) : TA := fun σ H Q => ∃ Q' : List V -> Hp -> Prop, t σ H Q' /\ ∀ v H', Q' v H' -> Q v H'
theorem PA.m {t : TA} (h : PA X es t) : PA X es (mA t) := fun pos pins s σ H Q I ⟨Q', q, m⟩ => bH (h pos pins s σ H Q' I q) fun _ _ ⟨v, H', I', r, z⟩ => ⟨v, H', I', r, m v H' z⟩
end
def CV : Key -> PyData
 | .inl i => .int i
 | .inr x => .str x
mutual
inductive Dv (H : Hp) : V -> PyData -> Prop where
 | aO : Dv H .aO .none
 | bl (b : Bool) : Dv H (.bl b) (.bool b)
 | int (i : Int) : Dv H (.int i) (.int i)
 | str (x : Str) : Dv H (.str x) (.str x)
 | tup {a : Addr} {xs : List V} {ds : List PyData} (h : H a = some (.tup xs)) (r : bE H xs ds) : Dv H (.ref a) (.tuple ds)
 | lst {a : Addr} {xs : List V} {ds : List PyData} (h : Rd H a (.lst xs)) (r : bE H xs ds) : Dv H (.ref a) (.list ds)
 | dct {a : Addr} {kvs : List (Key × V)} {ds : List (PyData × PyData)} (h : H a = some (.dK kvs)) (r : vn H kvs ds) : Dv H (.ref a) (.dict ds)
inductive vn (H : Hp) : List (Key × V) -> List (PyData × PyData) -> Prop where
 | nil : vn H [] []
 | cons {k : Key} {x : V} {d : PyData} {xs : List (Key × V)} {ds : List (PyData × PyData)} (h : Dv H x d) (r : vn H xs ds) : vn H ((k, x) :: xs) ((CV k, d) :: ds)
inductive bE (H : Hp) : List V -> List PyData -> Prop where
 | nil : bE H [] []
 | cons {x : V} {d : PyData} {xs : List V} {ds : List PyData} (h : Dv H x d) (r : bE H xs ds) : bE H (x :: xs) (d :: ds)
end
mutual
theorem Dv.has {K : PySem.W.Frag} {H : Hp} : ∀ {v : V} {d : PyData}, Dv H v d -> d.canLay0 = true -> fZ K H v d
 | _, _, .aO, _ => .aO
 | _, _, .bl b, _ => .bl b
 | _, _, .int i, _ => .int i
 | _, _, .str x, _ => .str x
 | _, _, .tup h r, c => .tup (.of h) (bE.has r (by simpa [PyData.canLay0] using c))
 | _, _, .lst h r, c => .lst (.inl h) (bE.has r (by simpa [PyData.canLay0] using c))
 | _, _, .dct h r, c => by simp [PyData.canLay0] at c
theorem bE.has {K : PySem.W.Frag} {H : Hp} : ∀ {v : List V} {d : List PyData}, bE H v d -> PyData.canLayAll0 d = true -> c4 K H v d
 | _, _, .nil, _ => .nil
 | _, _, .cons h r, c => by
   have c' := c
   simp only [PyData.canLayAll0, Bool.and_eq_true] at c'
   exact .cons (Dv.has h c'.1) (bE.has r c'.2)
end
theorem ai.rd {H H' : Hp} {a : Addr} {u : HO} (e : ai H H') (h : Rd H a u) : Rd H' a u := by
 rcases h with h | ⟨o, h⟩
 . exact .inl (e _ _ h)
 . exact .inr ⟨o, e _ _ h⟩
mutual
theorem Dv.keeps {H H' : Hp} (e : ai H H') : ∀ {v : V} {d : PyData}, Dv H v d -> Dv H' v d
 | _, _, .aO => .aO
 | _, _, .bl b => .bl b
 | _, _, .int i => .int i
 | _, _, .str x => .str x
 | _, _, .tup h r => .tup (e _ _ h) (bE.keeps e r)
 | _, _, .lst h r => .lst (e.rd h) (bE.keeps e r)
 | _, _, .dct h r => .dct (e _ _ h) (vn.keeps e r)
theorem vn.keeps {H H' : Hp} (e : ai H H') : ∀ {v : List (Key × V)} {d : List (PyData × PyData)}, vn H v d -> vn H' v d
 | _, _, .nil => .nil
 | _, _, .cons h r => .cons (Dv.keeps e h) (vn.keeps e r)
theorem bE.keeps {H H' : Hp} (e : ai H H') : ∀ {v : List V} {d : List PyData}, bE H v d -> bE H' v d
 | _, _, .nil => .nil
 | _, _, .cons h r => .cons (Dv.keeps e h) (bE.keeps e r)
end
theorem bE.length {H : Hp} : ∀ {xs : List V} {ds : List PyData}, bE H xs ds -> xs.length = ds.length
 | _, _, .nil => rfl
 | _, _, .cons _ r => by simp [bE.length r]
theorem bE.get {H : Hp} : ∀ {xs : List V} {ds : List PyData} {i : Nat} {d : PyData}, bE H xs ds -> ds[i]? = some d -> ∃ x, xs[i]? = some x /\ Dv H x d
 | _, _, _, _, .nil, e => by simp at e
 | _, _, 0, _, .cons h _, e => by simp at e; subst e; exact ⟨_, rfl, h⟩
 | _, _, i + 1, x, .cons _ r, e => by
   obtain ⟨d, h1, h2⟩ := bE.get (i := i) (d := x) r (by simpa using e)
   exact ⟨d, by simpa using h1, h2⟩
theorem bE.append {H : Hp} : ∀ {xs ys : List V} {ds es : List PyData}, bE H xs ds -> bE H ys es -> bE H (xs ++ ys) (ds ++ es)
 | _, _, _, _, .nil, s => s
 | _, _, _, _, .cons r t, s => .cons r (bE.append t s)
theorem bE.ints {H : Hp} : ∀ (ns : List Int), bE H (ns.map V.int) (ns.map PyData.int)
 | [] => .nil
 | n :: ns => .cons (.int n) (bE.ints ns)
theorem Dv.int_inv {H : Hp} {v : V} {i : Int} (h : Dv H v (.int i)) : v = .int i := by cases h; rfl
theorem Dv.str_inv {H : Hp} {v : V} {i : Str} (h : Dv H v (.str i)) : v = .str i := by cases h; rfl
def lC (H : Hp) (d : PyData) (Q : VK) : Prop := match d with
 | .none => Q .aO H
 | .bool b => Q (.bl b) H
 | .int i => Q (.int i) H
 | .str x => Q (.str x) H
 | d => ∀ v, Dv H v d -> Q v H
theorem lC.use {H : Hp} {d : PyData} {Q : VK} (g : lC H d Q) {v : V} (h : Dv H v d) : Q v H := by
 cases h with
 | aO => exact g
 | bl b => exact g
 | int i => exact g
 | str x => exact g
 | tup h r => exact g _ (.tup h r)
 | lst h r => exact g _ (.lst h r)
 | dct h r => exact g _ (.dct h r)
theorem oC {H : Hp} {xs : List V} {ds : List PyData} {i : Int} {d : PyData} (r : bE H xs ds) (h : ko ds i = some d) : ∃ x, ko xs i = some x /\ Dv H x d := by
 unfold ko at h ⊢
 rw [r.length]
 cases e : uj ds.length i with
 | none => rw [e] at h; simp at h
 | some j =>
   rw [e] at h
   have h' : ds[j]? = some d := by simpa using h
   obtain ⟨x, h1, h2⟩ := r.get h'
   exact ⟨x, by simpa using h1, h2⟩
def kz (H : Hp) (v : V) (ds : List PyData) : Prop := Dv H v (.tuple ds) \/ Dv H v (.list ds)
def Bm : R2 := fun x y H Q => ∃ ds i d, y = .int i /\ kz H x ds /\ ko ds i = some d /\ lC H d Q
theorem ub {K : PySem.W.Frag} {x y : V} {H : Hp} {Q : VK} (h : Bm x y H Q) : FD K x y H Q := by
 obtain ⟨ds, i, d, rfl, hs, hi, g⟩ := h
 rcases hs with hs | hs
 . cases hs with
   | tup h r =>
     obtain ⟨v, h1, h2⟩ := oC r hi
     exact .inr (.inl ⟨_, _, i, v, rfl, rfl, .of h, h1, g.use h2⟩)
 . cases hs with
   | lst h r =>
     obtain ⟨v, h1, h2⟩ := oC r hi
     exact .inl ⟨_, _, i, v, rfl, rfl, .inl h, h1, g.use h2⟩
section
variable {X : Cx}
def wk : R2 := fun x y H Q => Bm x y H Q \/ yh x y H Q
theorem DI : sX X wk := fun value slice pins s σ H x y v u Q I r1 r2 h => wX value slice pins s σ H x y v u Q I r1 r2 (h.elim ub fun z => .inr (.inr z))
def tE : List V -> Hp -> VK -> Prop := fun xs H Q => (∃ v ds, xs = [v] /\ kz H v ds /\ Q (.int (ds.length : Nat)) H) \/ ∃ z, xs = [.str z] /\ z.length <= sizeLine /\ Q (.int (z.length : Nat)) H
theorem qk : eB X (.builtin "len") tE := fun pins s σ H xs us Q I r h => by
 rcases h with ⟨v, ds, rfl, hs, q⟩ | h
 . rcases hs with hs | hs
   . cases hs with
     | tup h t => exact e8 pins s σ H _ us Q I r ⟨_, _, rfl, .inr (.of h), by rw [t.length]; exact q⟩
   . cases hs with
     | lst h t => exact e8 pins s σ H _ us Q I r ⟨_, _, rfl, .inl (.inl h), by rw [t.length]; exact q⟩
 . exact kR pins s σ H _ us Q I r h
def BO : PyData -> String
 | .none => "NoneType" | .bool _ => "bool" | .int _ => "int" | .str _ => "str" | .list _ => "list" | .tuple _ => "tuple" | .dict _ => "dict"
def rV (t n : String) : Option Bool := if ((Value.type t) == (Value.type n)) = true then some true else if PySem.W.kitMeta n = true then (PySem.fastBuiltinMro t).map (·.contains (.type n)) else none
theorem qL {K : PySem.W.Frag} {t n : String} {b : Bool} (h : rV t n = some b) : PySem.W.kitOne K (.type t) (.type n) = some b := h
def xg (t n : String) : Bool := t == n || (t == "bool" && n == "int")
theorem qq : (["NoneType", "bool", "int", "str", "list", "tuple", "dict"].all fun t => ["int", "bool", "str", "list", "tuple", "dict"].all fun n => rV t n == some (xg t n)) = true := by decide +kernel
theorem sF {t n : String} (ht : t ∈ ["NoneType", "bool", "int", "str", "list", "tuple", "dict"]) (hn : n ∈ ["int", "bool", "str", "list", "tuple", "dict"]) : rV t n = some (xg t n) := by
 have h := List.all_eq_true.mp (List.all_eq_true.mp qq t ht) n hn
 exact beq_iff_eq.mp h
theorem tS (d : PyData) : BO d ∈ ["NoneType", "bool", "int", "str", "list", "tuple", "dict"] := by
 cases d <;> simp [BO]
theorem Dv.ty {K : PySem.W.Frag} {H : Hp} {v : V} {d : PyData} (h : Dv H v d) : hU K H v (.type (BO d)) := by
 cases h with
 | aO => exact .aO
 | bl b => exact .bl b
 | int i => exact .int i
 | str x => exact .str x
 | tup h r => exact .tup h
 | lst h r =>
   rcases h with h | ⟨o, h⟩
   . exact .lst h
   . exact .cg h
 | dct h r => exact .dK h
theorem sA {K : PySem.W.Frag} {H : Hp} {v : V} {d : PyData} {n : String} {Q : VK} (h : Dv H v d) (hn : n ∈ ["int", "bool", "str", "list", "tuple", "dict"]) (q : Q (.bl (xg (BO d) n)) H) : t8 K [v, .ty n] H Q :=
 ⟨v, .ty n, .type n, _, _, rfl, .ty n, h.ty, qL (sF (tS d) hn), q⟩
def mr (K : PySem.W.Frag) (f : Bool -> Bool) : R2 := fun x y H Q => (tZ x y = true /\ Q (.bl (f (decide (x = y)))) H) \/ ∃ d e, Dv H x d /\ Dv H y e /\ d.canLay0 = true /\ e.canLay0 = true /\ d.depth <= 8 /\ Q (.bl (f (PyData.eqv d e))) H
theorem gI (hu : X.A.units + 8 < cLine) : hX X (compareOp .Eq) (mr X.K id) := fun pins s σ H x y v u Q I rx ry h => by
 rcases h with h | ⟨d, e, h1, h2, h3, h4, h5, h6⟩
 . exact AZ pins s σ H x y v u Q I rx ry h
 . exact x5 hu pins s σ H x y v u Q I rx ry ⟨d, e, h1.has h3, h2.has h4, h3, h4, h5, h6⟩
theorem kH (hu : X.A.units + 8 < cLine) : hX X (compareOp .NotEq) (mr X.K not) := fun pins s σ H x y v u Q I rx ry h => by
 rcases h with h | ⟨d, e, h1, h2, h3, h4, h5, h6⟩
 . exact AQ pins s σ H x y v u Q I rx ry h
 . exact yF hu pins s σ H x y v u Q I rx ry ⟨d, e, h1.has h3, h2.has h4, h3, h4, h5, h6⟩
variable {es : List Expr} {t : TA} {pos : Pos}
def yb (xs : List V) (H1 : Hp) (Q : VK) : Prop := xs.length <= sizeLine /\ ∃ ds, bE H1 xs ds /\ ∀ p H2, ai H1 H2 -> H1 p = none -> H2 p = some (.tup xs) -> Dv H2 (.ref p) (.tuple ds) -> Q (.ref p) H2
def xY (xs : List V) (H1 : Hp) (Q : VK) : Prop := xs.length <= sizeLine /\ ∃ ds, bE H1 xs ds /\ ∀ p H2, ai H1 H2 -> H1 p = none -> H2 p = some (.lst xs) -> bE H2 xs ds -> Dv H2 (.ref p) (.list ds) -> Q (.ref p) H2
def vZ (t : TA) : TE := fun σ H Q => t σ H fun xs H1 => yb xs H1 Q
theorem n0 {x1} (h : PA X es t) : PE X (.Tuple es x1 pos) (vZ t) := PE.weak (yE h.m) fun σ H Q q => ⟨_, q, fun xs H1 ⟨hl, ds, hd, k⟩ => ⟨hl, fun p hp => by
 have sm : ai H1 (upd H1 p (.tup xs)) := fun b u e => by rw [ag (av e hp)]; exact e
 exact k p _ sm hp aj (.tup aj (hd.keeps sm))⟩⟩
def vA (t : TA) : TE := fun σ H Q => t σ H fun xs H1 => xY xs H1 Q
theorem i6 (h : PA X es t) : PE X (.List es pos) (vA t) := PE.weak (xq h.m) fun σ H Q q => ⟨_, q, fun xs H1 ⟨hl, ds, hd, k⟩ => ⟨hl, fun p hp => by
 have sm : ai H1 (upd H1 p (.lst xs)) := fun b u e => by rw [ag (av e hp)]; exact e
 exact k p _ sm hp aj (hd.keeps sm) (.lst (.of aj) (hd.keeps sm))⟩⟩
variable {st : Stmt} {rest : List Stmt}
def zN (t u : TS) : TS := fun D σ H => ∃ R : St -> Hp -> Prop, t { D with nx := R } σ H /\ ∀ σ' H', R σ' H' -> u D σ' H'
theorem ak {t u : TS} (h1 : PS X st t) (h2 : nD X rest u) : nD X (st :: rest) (zN t u) := by
 intro pins s σ H D I ⟨R, h, k⟩
 refine wpAny_execs_cons (bH (h1 pins s σ H { D with nx := R } I h) fun f s1 q => ?_)
 cases f with
 | next =>
   obtain ⟨σ', H', I', q⟩ := q
   exact h2 pins s1 σ' H' D I' (k _ _ q)
 | ret v => exact q
 | brk => exact q
 | cont => exact q
end
section
variable {σ : St} {H : Hp} {Q : VK} {D : Ends} {K : PySem.W.Frag}
theorem xI {t u : TS} (h : t { D with nx := u D } σ H) : zN t u D σ H := ⟨u D, h, fun _ _ z => z⟩
theorem yG {t : TA} (h : t σ H fun xs H1 => yb xs H1 Q) : vZ t σ H Q := h
theorem wG {xs : List V} {ds : List PyData} (hl : xs.length <= sizeLine) (hd : bE H xs ds) (k : ∀ v H2, ai H H2 -> Dv H2 v (.tuple ds) -> Q v H2) : yb xs H Q := ⟨hl, ds, hd, fun p H2 s _ _ d => k (.ref p) H2 s d⟩
theorem yu {t : TA} (h : t σ H fun xs H1 => xY xs H1 Q) : vA t σ H Q := h
theorem zk {f : Bool -> Bool} {x y : V} (e : tZ x y = true) (h : Q (.bl (f (decide (x = y)))) H) : mr K f x y H Q := .inl ⟨e, h⟩
theorem qZ {f : Bool -> Bool} {x y : V} {d e : PyData} (h1 : Dv H x d) (h2 : Dv H y e) (h3 : d.canLay0 = true) (h4 : e.canLay0 = true) (h5 : d.depth <= 8) (h : Q (.bl (f (PyData.eqv d e))) H) : mr K f x y H Q := .inr ⟨d, e, h1, h2, h3, h4, h5, h⟩
theorem Ay {x : V} {ds : List PyData} {i : Int} {d : PyData} (hs : kz H x ds) (hi : ko ds i = some d) (g : lC H d Q) : wk x (.int i) H Q := .inl ⟨ds, i, d, rfl, hs, hi, g⟩
theorem xa {v : V} {ds : List PyData} (hs : kz H v ds) (h : Q (.int (ds.length : Nat)) H) : tE [v] H Q := .inl ⟨v, ds, rfl, hs, h⟩
theorem tQ (h : Q .aO H) : lC H .none Q := h
theorem eU {i : Str} (h : Q (.str i) H) : lC H (.str i) Q := h
theorem Av {b : Bool} {A B : Prop} (h1 : b = true -> A) (h2 : b = false -> B) : if b = true then A else B := by
 cases b
 . exact DL (h2 rfl)
 . exact Eb (h1 rfl)
end
theorem bj.qv {k : Nat} {A : Around} (r : bj k A) : A.units + 8 < cLine := Nat.lt_of_le_of_lt (by omega) r.units
theorem ai.at {H H' : Hp} {a : Addr} {o : HO} (s : ai H H') (h : H a = some o) : H' a = some o := s a o h
theorem bY {H : Hp} {t : Addr} {o : HO} (h : H t = none) : ai H (upd H t o) := fun b u e => by rw [ag (av e h)]; exact e
section
variable {σ : St} {H : Hp} {Q : VK} {D : Ends} {K : PySem.W.Frag}
end
def isInt : PyData -> Bool | .int _ => true | .bool _ => true | _ => false
def isBool : PyData -> Bool | .bool _ => true | _ => false
def isStr : PyData -> Bool | .str _ => true | _ => false
def v5 : PyData -> Bool | .list _ => true | _ => false
def isTup : PyData -> Bool | .tuple _ => true | _ => false
def zX : PyData -> Bool | .dict _ => true | _ => false
section
variable {K : PySem.W.Frag} {H : Hp} {v : V} {d : PyData} {Q : VK}
theorem pW (h : Dv H v d) (q : Q (.bl (isStr d)) H) : t8 K [v, .ty "str"] H Q := sA h (by decide) (by cases d <;> exact q)
theorem pF (h : Dv H v d) (q : Q (.bl (v5 d)) H) : t8 K [v, .ty "list"] H Q := sA h (by decide) (by cases d <;> exact q)
def pM (H : Hp) (v : V) (C : Addr) (fs : List (Str × V)) : Prop := ∃ p dx, v = .ref p /\ H p = some (.ins C dx fs)
theorem pM.keeps {H H' : Hp} {C : Addr} {fs : List (Str × V)} (s : ai H H') (h : pM H v C fs) : pM H' v C fs := by
 obtain ⟨p, dx, rfl, e⟩ := h; exact ⟨p, dx, rfl, s _ _ e⟩
theorem yi {R : V -> Prop} {C : Addr} {fs : List (Str × V)} {f : Str} {x : V} (hp : pM H v C fs) (c : j4 K C) (n : cz K C f) (l : fs.lookup f = some x) (h : R x) :
 ∃ a C dx fs x, v = .ref a /\ H a = some (.ins C dx fs) /\ j4 K C /\ cz K C f /\ fs.lookup f = some x /\ R x := by
 obtain ⟨p, dx, rfl, e⟩ := hp
 exact ⟨p, C, dx, fs, x, rfl, e, c, n, l, h⟩
theorem t6 {C : Addr} {m : Str} {fs : List (Str × V)} {R : Prop} (hp : pM H v C fs) (hl : fs.lookup m = none) (h : R) : ∃ a dx fs, v = .ref a /\ H a = some (.ins C dx fs) /\ fs.lookup m = none /\ R := by
 obtain ⟨p, dx, rfl, e⟩ := hp
 exact ⟨p, dx, fs, rfl, e, hl, h⟩
end
def look (f : Str) : List (Str × V) -> Option V
 | [] => none
 | (g, v) :: r => if f = g then some v else look f r
theorem iD (f : Str) : ∀ fs : List (Str × V), fs.lookup f = look f fs
 | [] => rfl
 | (g, v) :: r => by
   show (match f == g with | true => some v | false => r.lookup f) = if f = g then some v else look f r
   by_cases h : f = g
   . subst h; rw [if_pos rfl, beq_self_eq_true]
   . rw [if_neg h, beq_eq_false_iff_ne.mpr h]; exact iD f r
section
variable {X : Cx}
def lN (K : PySem.W.Frag) : R2 := fun x y H Q => wk x y H Q \/ wJ K x y H Q
theorem ja : sX X (lN X.K) := fun value slice pins s σ H x y v u Q I r1 r2 h => h.elim (DI value slice pins s σ H x y v u Q I r1 r2) (oM value slice pins s σ H x y v u Q I r1 r2)
def lH (K : PySem.W.Frag) : List V -> Hp -> VK -> Prop := fun xs H Q => tE xs H Q \/ ∃ p ys, xs = [.ref p] /\ c6 K H p ys /\ Q (.int ys.length) H
theorem cN : eB X (.builtin "len") (lH X.K) := fun pins s σ H xs us Q I r h => by
 rcases h with h | ⟨p, ys, e, hl, q⟩
 . exact qk pins s σ H xs us Q I r h
 . exact e8 pins s σ H xs us Q I r ⟨p, ys, e, .inl hl, q⟩
end
section
variable {σ : St} {H : Hp} {Q : VK} {D : Ends} {K : PySem.W.Frag}
theorem kg {x : V} {ds : List PyData} {i : Int} {d : PyData} (hs : kz H x ds) (hi : ko ds i = some d) (g : lC H d Q) : lN K x (.int i) H Q := .inl (Ay hs hi g)
theorem A8 {p : Addr} {xs : List V} {i : Int} {v : V} (hs : c6 K H p xs) (hi : ko xs i = some v) (g : Q v H) : lN K (.ref p) (.int i) H Q := .inr ⟨p, xs, i, v, rfl, rfl, hs, hi, g⟩
theorem rK {v : V} {ds : List PyData} (hs : kz H v ds) (h : Q (.int (ds.length : Nat)) H) : lH K [v] H Q := .inl (xa hs h)
theorem xA {p : Addr} {xs : List V} (hs : c6 K H p xs) (h : Q (.int xs.length) H) : lH K [.ref p] H Q := .inr ⟨p, xs, rfl, hs, h⟩
theorem xj {ta tv : TE} {f : Str} (h : tv σ H fun y H1 => ta σ H1 fun x H2 => ∃ a C dx fs, x = .ref a /\ H2 a = some (.ins C dx fs) /\ j4 K C /\ cz K C f /\ fs.length < 1000 /\ D.nx σ (upd H2 a (.ins C dx (eC f y fs)))) : A3 K ta tv f D σ H := h
theorem uh {p C dx : Addr} {fs B1 : List (Str × V)} {f : Str} {y : V} (hp : H p = some (.ins C dx fs)) (c : j4 K C) (n : cz K C f) (hl : fs.length < 1000) (e : eC f y fs = B1) (h : D.nx σ (upd H p (.ins C dx B1))) :
 ∃ a C dx fs, V.ref p = .ref a /\ H a = some (.ins C dx fs) /\ j4 K C /\ cz K C f /\ fs.length < 1000 /\ D.nx σ (upd H a (.ins C dx (eC f y fs))) := ⟨p, C, dx, fs, rfl, hp, c, n, hl, by rw [e]; exact h⟩
theorem D8 {R : Prop} (h : R) : V.aO = V.aO /\ R := ⟨rfl, h⟩
end
theorem bg {i : Int} (h1 : -(10 ^ 200) < i) (h2 : i < 10 ^ 200) : i.natAbs < 2 ^ 2000 := by
 have : (10 : Nat) ^ 200 < 2 ^ 2000 := by decide +kernel
 have h3 : i.natAbs < 10 ^ 200 := by
  have e : ((10 : Nat) ^ 200 : Nat) = ((10 : Int) ^ 200).toNat := by decide +kernel
  rw [e]
  generalize (10 : Int) ^ 200 = m at h1 h2 ⊢
  omega
 exact Nat.lt_trans h3 this
theorem Am {i j : Int} (h1 : 0 < j) (h2 : j < 10 ^ 200) : wc i j := ⟨h1, bg (Int.lt_trans (by decide) h1) h2⟩
def cell (ns : List Int) (k : Nat) : Int := ns.getD k 0
def m6 (K : PySem.W.Frag) : Sp := fun vs H Q _ => ∃ l ns k, vs = [.ref l, .int k] /\ c6 K H l (ns.map V.int) /\ 0 <= k /\ Q (.int (cell ns k.toNat)) H
theorem w4 {K : PySem.W.Frag} {H : Hp} {Q : VK} {E : XK} {l : Addr} {ns : List Int} {k : Int} (h : c6 K H l (ns.map V.int)) (hk : 0 <= k) (q : Q (.int (cell ns k.toNat)) H) : m6 K [.ref l, .int k] H Q E := ⟨l, ns, k, rfl, h, hk, q⟩
theorem uy {ns : List Int} {k : Int} (h0 : 0 <= k) (h : k < (ns.map V.int).length) : ko (ns.map V.int) k = some (.int (cell ns k.toNat)) := by
 obtain ⟨n, rfl⟩ := Int.eq_ofNat_of_zero_le h0
 refine gZ ?_
 have hn : n < ns.length := by simpa using h
 simp [cell, hn, List.getD_eq_getElem?_getD]
theorem uH {ns : List Int} {k : Int} (h0 : 0 <= k) (h : ¬ k < (ns.map V.int).length) : cell ns k.toNat = 0 := by
 have : ns.length <= k.toNat := by simp at h; omega
 simp [cell, List.getD_eq_getElem?_getD, this]
def jB (sp : Sp) (vs : List V) (H : Hp) (Q : VK) (E : XK) : Prop := ∃ ws, vs = ws /\ sp ws H Q E
theorem mH (sp : Sp) (vs : List V) (H : Hp) (Q : VK) (E : XK) : jB sp vs H Q E = sp vs H Q E := propext ⟨fun ⟨_, e, h⟩ => e ▸ h, fun h => ⟨vs, rfl, h⟩⟩
def kI (sp : Sp) (bP : List V) (E : XK) (t : TA) : TE := fun σ H Q => t σ H fun vs H1 => jB sp (vs ++ bP) H1 Q E
theorem pO (sp : Sp) (bP : List V) (E : XK) (t : TA) : kI sp bP E t = oE sp bP E t := by
 funext σ H Q; unfold kI oE; congr 1; funext vs H1; exact mH _ _ _ _ _
def jj (C : Addr) (m : Str) (sp : Sp) (bP : List V) (E : XK) (ta : TE) (t : TA) : TE := fun σ H Q => ta σ H fun x H1 => ∃ a dx fs, x = .ref a /\ H1 a = some (.ins C dx fs) /\ fs.lookup m = none /\
 t σ H1 fun vs H2 => jB sp (x :: (vs ++ bP)) H2 Q E
theorem ka (C : Addr) (m : Str) (sp : Sp) (bP : List V) (E : XK) (ta : TE) (t : TA) : jj C m sp bP E ta t = kj C m sp bP E ta t := by
 funext σ H Q; unfold jj kj; congr 1; funext x H1
 have : ∀ H2 : Hp, (fun vs H2 => jB sp (x :: (vs ++ bP)) H2 Q E) = fun vs H2 => sp (x :: (vs ++ bP)) H2 Q E := fun _ => by funext vs H2; exact mH _ _ _ _ _
 rw [this H1]
def mh (C : Addr) (sp : Sp) (vs : List V) (H1 : Hp) (Q : VK) (E : XK) : Prop := ∃ ws, vs = ws /\ ∀ x dx, H1 x = none -> H1 dx = none -> dx ≠ x ->
 sp (.ref x :: ws) (upd (upd H1 dx (.own x)) x (.ins C dx [])) (fun v H2 => v = .aO /\ Q (.ref x) H2) E
def k7 (C : Addr) (sp : Sp) (bP : List V) (E : XK) (t : TA) : TE := fun σ H Q => t σ H fun vs H1 => mh C sp (vs ++ bP) H1 Q E
theorem qm (C : Addr) (sp : Sp) (bP : List V) (E : XK) (t : TA) : k7 C sp bP E t = rD C sp bP E t := by
 funext σ H Q; unfold k7 rD mh; congr 1; funext vs H1
 exact propext ⟨fun ⟨_, e, h⟩ => by subst e; exact h, fun h => ⟨_, rfl, h⟩⟩
section
variable {X : Cx} {k : Nat} {f C : Addr} {ps : List Str} {sp : Sp} {bP : List V} {x m : Str} {p pos apos : Pos} {e o : Expr} {es : List Expr} {ta : TE} {t : TA}
theorem cV (c : iV X.prog X.w X.K X.mg X.base k f ps bP sp) (hr : bj k X.A) (hg : Gl X x) (hm : X.mg x = some (.ref f)) (hk : PySem.W.keepIn X.K (.ref f) = true)
 (ha : PA X (e :: es) t) (p6 : (x == ("__debug__" : Str)) = false := by decide) (he : starEach (e :: es) X.env = (false, eval e X.env) :: starEach es X.env := by rfl) (lz : (backTo pos (starEach es X.env)).any (·.1) = false := by rfl) :
 PE X (.Call (.Name x p) (e :: es) [] pos) (kI sp bP E0 t) := by rw [pO]; exact vv c hr hg hm hk ha p6 he lz
theorem aX {pl : Sem Bool} (he : PE X o ta) (c : j4 X.K C) (hm : Meth X.K C m f) (F : iV X.prog X.w X.K X.mg X.base k f ps bP sp) (hr : bj k X.A) (ha : PA X (e :: es) t)
 (i5 : starEach (e :: es) X.env = (false, eval e X.env) :: starEach es X.env := by rfl) (lz : (backTo pos (starEach es X.env)).any (·.1) = false := by rfl)
 (ht : eval (.Call (.Attribute o m apos) (e :: es) [] pos) X.env = (do
  let ov <- eval o X.env
  standAt apos.atName
  let (f, first) <- holding [ov] (getMethod ov m pl)
  callWith pos f first (backTo pos (starEach (e :: es) X.env)) (backToKw pos (keywordEach [] X.env))) := by rfl) :
 PE X (.Call (.Attribute o m apos) (e :: es) [] pos) (jj C m sp bP E0 ta t) := by rw [ka]; exact vm he c hm F hr ha i5 lz ht
theorem mE {pl : Sem Bool} (he : PE X o ta) (c : j4 X.K C) (hm : Meth X.K C m f) (F : iV X.prog X.w X.K X.mg X.base k f ps bP sp) (hr : bj k X.A)
 (ht : eval (.Call (.Attribute o m apos) [] [] pos) X.env = (do
  let ov <- eval o X.env
  standAt apos.atName
  let (f, first) <- holding [ov] (getMethod ov m pl)
  callWith pos f first (backTo pos (starEach [] X.env)) (backToKw pos (keywordEach [] X.env))) := by rfl) :
 PE X (.Call (.Attribute o m apos) [] [] pos) (jj C m sp bP E0 ta m5) := by rw [ka]; exact qY he c hm F hr ht
end
section
variable {σ : St} {H : Hp} {Q : VK} {D : Ends} {K : PySem.W.Frag}
theorem t4 {sp : Sp} {bP : List V} {E : XK} {t : TA} (h : t σ H fun vs H1 => jB sp (vs ++ bP) H1 Q E) : kI sp bP E t σ H Q := h
theorem nh {sp : Sp} {vs ws : List V} {E : XK} (e : vs = ws) (h : sp ws H Q E) : jB sp vs H Q E := ⟨ws, e, h⟩
theorem uT {C : Addr} {m : Str} {sp : Sp} {bP : List V} {E : XK} {ta : TE} {t : TA} (h : ta σ H fun x H1 => ∃ a dx fs, x = .ref a /\ H1 a = some (.ins C dx fs) /\ fs.lookup m = none /\ t σ H1 fun vs H2 => jB sp (x :: (vs ++ bP)) H2 Q E) : jj C m sp bP E ta t σ H Q := h
theorem uB {C : Addr} {sp : Sp} {bP : List V} {E : XK} {t : TA} (h : t σ H fun vs H1 => mh C sp (vs ++ bP) H1 Q E) : k7 C sp bP E t σ H Q := h
theorem yM {b : Bool} {R : Bool -> Prop} (h : R b) : ∃ k, yr K (.bl b) H k /\ R k := ⟨b, rfl, h⟩
end
theorem vP {n : Nat} (h : Nat.ble n 64 = true) : n <= sizeLine := Nat.le_trans (Nat.le_of_ble_eq_true h) (by decide)
section
variable {X : Cx} {st : Stmt} {rest : List Stmt}
end
section
variable {σ : St} {H : Hp} {Q : VK} {D : Ends} {K : PySem.W.Frag}
def x8 (K : PySem.W.Frag) (x : V) (g : TG) (tb : TS) (D : Ends) (σ : St) (H1 : Hp) : Prop := ∃ a, x = .ref a /\ (∃ xs, c6 K H1 a xs) /\ ∃ W : Nat -> Nat -> St -> Hp -> Prop, (∃ m, W 0 m σ H1) /\ ∀ i m σ H, W i m σ H ->
 ((tJ K a).stop i H /\ D.nx σ H) \/ ((tJ K a).go i H /\ ∃ N : St -> Hp -> Prop, (∀ σ' H', N σ' H' -> ∃ m', m' < m /\ W (i + 1) m' σ' H') /\ ∀ x H', (tJ K a).uY i H x H' -> g x σ H' fun σ2 H2 => tb { D with nx := N, ct := N, bk := D.nx } σ2 H2)
theorem zf {tl : TE} {g : TG} {tb : TS} (h : tl σ H fun x H1 => x8 K x g tb D σ H1) : rM (sP K tl) g tb D σ H := h
theorem forL {a : Addr} {xs : List V} {g : TG} {tb : TS} (hl : c6 K H a xs) (Pv : Nat -> St -> Hp -> Prop) (h0 : Pv 0 σ H) (hk : ∀ i σ H, i <= xs.length -> Pv i σ H -> c6 K H a xs)
 (hs : ∀ i x σ H, xs[i]? = some x -> Pv i σ H -> g x σ H fun σ2 H2 => tb { D with nx := Pv (i + 1), ct := Pv (i + 1), bk := D.nx } σ2 H2) (hd : ∀ σ H, Pv xs.length σ H -> D.nx σ H) : x8 K (.ref a) g tb D σ H :=
 ⟨a, rfl, ⟨xs, hl⟩, rp Pv h0 hk hs hd⟩
def A5 (lo : Int) (n : Nat) (g : TG) (tb : TS) (D : Ends) (σ : St) (H1 : Hp) : Prop := ∃ W : Nat -> Nat -> St -> Hp -> Prop, (∃ m, W 0 m σ H1) /\ ∀ i m σ H, W i m σ H ->
 ((uf lo n).stop i H /\ D.nx σ H) \/ ((uf lo n).go i H /\ ∃ N : St -> Hp -> Prop, (∀ σ' H', N σ' H' -> ∃ m', m' < m /\ W (i + 1) m' σ' H') /\ ∀ x H', (uf lo n).uY i H x H' -> g x σ H' fun σ2 H2 => tb { D with nx := N, ct := N, bk := D.nx } σ2 H2)
theorem uO {ta : TA} {g : TG} {tb : TS} (h : ta σ H fun vs H1 => ∃ i j : Int, vs = [.int i, .int j] /\ (-(2 ^ 62) <= i /\ i < 2 ^ 62 /\ -(2 ^ 62) <= j /\ j < 2 ^ 62) /\ A5 i (j - i).toNat g tb D σ H1) : rM (v9 ta) g tb D σ H := h
theorem pE {lo : Int} {n i : Nat} {tb : TS} (S : Nat -> St -> Prop) (h0 : S 0 σ)
 (hs : ∀ j σ' H', j < n -> S j σ' -> ai H H' -> tb { D with nx := fun s h => S (j + 1) s /\ ai H h, ct := fun s h => S (j + 1) s /\ ai H h, bk := D.nx } (σ'.set i (some (.int (lo + j)))) H') (hd : ∀ σ' H', S n σ' -> ai H H' -> D.nx σ' H') : A5 lo n (iE i) tb D σ H :=
 pA (fun j s h => S j s /\ ai H h) ⟨h0, ai.refl _⟩ (fun j σ' H' hj p => hs j σ' H' hj p.1 p.2) fun σ' H' p => hd σ' H' p.1 p.2
end
section
variable {X : Cx}
def vH : R2 := fun x y H Q => ∃ i j, x = .int i /\ y = .int j /\ 0 < j /\ (0 <= i % j -> i % j < j -> Q (.int (i % j)) H)
theorem cW : hX X (binaryOp .Mod) vH := fun pins s σ H x y v u Q I rx ry ⟨i, j, e1, e2, hj, h⟩ => xB pins s σ H x y v u Q I rx ry ⟨i, j, e1, e2, hj, h (Int.emod_nonneg _ (by omega)) (Int.emod_lt_of_pos _ hj)⟩
end
section
variable {σ : St} {H : Hp} {Q : VK} {D : Ends} {K : PySem.W.Frag}
theorem wH {i j : Int} (hj : 0 < j) (h : 0 <= i % j -> i % j < j -> Q (.int (i % j)) H) : vH (.int i) (.int j) H Q := ⟨i, j, rfl, rfl, hj, h⟩
end
section
variable {σ : St} {H : Hp} {Q : VK} {D : Ends} {K : PySem.W.Frag}
def v8 (Pv : Nat -> St -> Hp -> Prop) (m : Nat) (tb : TS) (D : Ends) (σ : St) (H1 : Hp) : Prop := ∃ N : St -> Hp -> Prop, (∀ σ' H', N σ' H' -> ∃ m', m' < m /\ Pv m' σ' H') /\ tb { D with nx := N, ct := N, bk := D.nx } σ H1
theorem xh {Pv : Nat -> St -> Hp -> Prop} {m : Nat} {tb : TS} (h : tb { D with nx := fun σ' H' => ∃ m', m' < m /\ Pv m' σ' H', ct := fun σ' H' => ∃ m', m' < m /\ Pv m' σ' H', bk := D.nx } σ H) : v8 Pv m tb D σ H := ⟨_, fun _ _ h => h, h⟩
theorem oh {c : TT} {tb : TS} (Pv : Nat -> St -> Hp -> Prop) (h0 : ∃ m, Pv m σ H) (hs : ∀ m σ H, Pv m σ H -> c σ H fun b H1 => if b = true then v8 Pv m tb D σ H1 else D.nx σ H1) : sR c tb D σ H := ⟨Pv, h0, hs⟩
end
end L2
namespace L2
theorem uU {n : Nat} (h : Nat.blt n 1000 = true) : n < 1000 := by
 unfold Nat.blt at h
 exact Nat.le_of_ble_eq_true h
end L2
namespace L2
open PySem PySem.Spec PyProof.Rows
section
variable {X : Cx}
def yk (f : Bool -> Bool) : R2 := fun x y H Q => ∃ b c, x = .bl b /\ y = .bl c /\ Q (.bl (f (b == c))) H
theorem yA : hX X (compareOp .Is) (yk id) := by
 intro pins s σ H x y v u Q I rx ry h
 obtain ⟨b, c, rfl, rfl, q⟩ := h
 cases rx; cases ry
 exact is_bool (aB I q rfl)
theorem f9 : hX X (compareOp .IsNot) (yk not) := by
 intro pins s σ H x y v u Q I rx ry h
 obtain ⟨b, c, rfl, rfl, q⟩ := h
 cases rx; cases ry
 exact isnot_bool (aB I q rfl)
end
section
variable {σ : St} {H : Hp} {Q : VK} {D : Ends} {K : PySem.W.Frag}
theorem wQ {f : Bool -> Bool} {b c : Bool} (h : Q (.bl (f (b == c))) H) : yk f (.bl b) (.bl c) H Q := ⟨b, c, rfl, rfl, h⟩
end
section
variable {X : Cx} {e : Expr}
end
section
variable {σ : St} {H : Hp} {Q : VK} {D : Ends} {K : PySem.W.Frag}
end
end L2
namespace L2
end L2
namespace L2
open PySem PySem.Spec PyProof.Rows PySem.W
structure Gk (lt : Nat -> Nat -> Bool) : Prop where
 zJ : ∀ a, lt a a = false
 Ab : ∀ a b, lt a b = true -> lt b a = false
 tL : ∀ a b c, lt a b = false -> lt b c = false -> lt a c = false
section
variable {lt : Nat -> Nat -> Bool} {n : Nat} {S : Shared -> Prop} {cmp : Nat -> Nat -> (Bool -> Shared -> Prop) -> Shared -> Prop}
def Up (lt : Nat -> Nat -> Bool) (p : Array Nat) (k : Nat) : Prop := ∀ i j, i < j -> j < k -> lt (p.getD j 0) (p.getD i 0) = false
def Down (lt : Nat -> Nat -> Bool) (p : Array Nat) (k : Nat) : Prop := ∀ i j, i < j -> j < k -> lt (p.getD i 0) (p.getD j 0) = false
def Alike (lt : Nat -> Nat -> Bool) (p : Array Nat) (a b : Nat) : Prop := ∀ i j, a <= i -> i < b -> a <= j -> j < b -> lt (p.getD i 0) (p.getD j 0) = false
structure Ix (n : Nat) (p : Array Nat) : Prop where
 sz : p.size = n
 pm : p.toList.Perm (List.range n)
theorem Ix.low {p : Array Nat} (h : Ix n p) {i : Nat} (hi : i < n) : p.getD i 0 < n := by
 have ud : i < p.size := by rw [h.sz]; exact hi
 have e : p.getD i 0 = p[i] := by simp [Array.getD, ud]
 rw [e]
 have : p[i] ∈ p.toList := by simp
 exact List.mem_range.mp (h.pm.mem_iff.mp this)
theorem Ix.perm {p q : Array Nat} (h : Ix n p) (hq : q.Perm p) : Ix n q := ⟨hq.size_eq.trans h.sz, (Array.perm_iff_toList_perm.mp hq).trans h.pm⟩
theorem c3 {p : Array Nat} {i j : Nat} (hj : j <= p.size) (k : Nat) : (kas_rev p i j).getD k 0 = if i <= k /\ k < j then p.getD (i + j - 1 - k) 0 else p.getD k 0 := by
 unfold kas_rev
 rw [Array.getD_eq_getD_getElem?, getElem?_mirror_all hj k]
 by_cases h : i <= k /\ k < j
 . rw [if_pos h, if_pos h, Array.getD_eq_getD_getElem?]
 . rw [if_neg h, if_neg h, Array.getD_eq_getD_getElem?]
theorem je {p : Array Nat} (h : Ix n p) (i j : Nat) : Ix n (kas_rev p i j) := h.perm (mirror_perm _ _ _ _)
theorem lW {p : Array Nat} {k d : Nat} (hk : k < p.size) (hd : d <= k) (i : Nat) : (bubble p k d).getD i 0 = if i = k - d then p.getD k 0 else if k - d < i /\ i <= k then p.getD (i - 1) 0 else p.getD i 0 := by
 rw [Array.getD_eq_getD_getElem?, getElem?_bubble hk d hd i]
 by_cases h : i = k - d
 . rw [if_pos h, if_pos h, Array.getD_eq_getD_getElem?]
 . rw [if_neg h, if_neg h]
   by_cases h2 : k - d < i /\ i <= k
   . rw [if_pos h2, if_pos h2, Array.getD_eq_getD_getElem?]
   . rw [if_neg h2, if_neg h2, Array.getD_eq_getD_getElem?]
def Az (n : Nat) (lt : Nat -> Nat -> Bool) (S : Shared -> Prop) (cmp : Nat -> Nat -> (Bool -> Shared -> Prop) -> Shared -> Prop) : Prop :=
 ∀ i j C s, i < n -> j < n -> S s -> (∀ s', S s' -> C (lt i j) s') -> cmp i j C s
variable (w : Gk lt) (ha : Az n lt S cmp)
include w ha
theorem nE {p : Array Nat} (hp : Ix n p) {Q : Nat -> Shared -> Prop} : ∀ (f k : Nat), 1 <= k -> k + f <= n -> Up lt p k -> (∀ m s, S s -> k <= m -> m <= k + f -> Up lt p m -> (m = k + f \/ (m < k + f /\ lt (p.getD m 0) (p.getD (m - 1) 0) = true)) -> Q m s) -> ∀ s, S s -> (kas_asc p f k).kasWp cmp Q s
 | 0, k, _, _, hu, hq, s, hs => hq k s hs (Nat.le_refl _) (Nat.le_refl _) hu (.inl rfl)
 | f + 1, k, h1, hf, hu, hq, s, hs => by
   refine ha _ _ _ _ (hp.low (by omega)) (hp.low (by omega)) hs fun s' pG => ?_
   cases e : lt (p.getD k 0) (p.getD (k - 1) 0) with
   | true => exact hq k s' pG (Nat.le_refl _) (by omega) hu (.inr ⟨by omega, e⟩)
   | false =>
     refine nE hp f (k + 1) (by omega) (by omega) (fun i j jW hj => ?_) (fun m s hs a b c d => hq m s hs (by omega) (by omega) c (by rcases d with d | d; exact .inl (by omega); exact .inr ⟨by omega, d.2⟩)) s' pG
     by_cases wj : j < k
     . exact hu i j jW wj
     . have : j = k := by omega
       subst this
       by_cases hi : i = j - 1
       . rw [hi]; exact e
       . exact w.tL _ _ _ e (hu i (j - 1) (by omega) (by omega))
theorem iY {Q : Array Nat × Nat × Nat -> Shared -> Prop} : ∀ (f : Nat) (p : Array Nat) (k q : Nat), Ix n p -> k + f <= n -> q + 1 <= k -> Down lt p k -> Alike lt p (k - (q + 1)) k ->
 (∀ p' k' q' s, S s -> Ix n p' -> k <= k' -> k' <= k + f -> q' + 1 <= k' -> Down lt p' k' -> Alike lt p' (k' - (q' + 1)) k' -> Q (p', k', q') s) -> ∀ s, S s -> (kas_desc f p k q).kasWp cmp Q s
 | 0, p, k, q, hp, _, h1, hd, hl, hq, s, hs => hq p k q s hs hp (Nat.le_refl _) (Nat.le_refl _) h1 hd hl
 | f + 1, p, k, q, hp, hf, h1, hd, hl, hq, s, hs => by
   refine ha _ _ _ _ (hp.low (by omega)) (hp.low (by omega)) hs fun s' pG => ?_
   cases e : lt (p.getD k 0) (p.getD (k - 1) 0) with
   | true =>
     have nR : ∀ i, i < k -> lt (p.getD i 0) (p.getD k 0) = false := fun i hi => by
      by_cases h : i = k - 1
      . rw [h]; exact w.Ab _ _ e
      . exact w.tL _ _ _ (hd i (k - 1) (by omega) (by omega)) (w.Ab _ _ e)
     by_cases h0 : q > 0
     . simp only [if_true, if_pos h0]
       have hk : k <= p.size := by rw [hp.sz]; omega
       refine iY f _ (k + 1) 0 (je hp _ _) (by omega) (by omega) (fun i j jW hj => ?_) (fun i j a b c d => ?_) (fun p' k' q' s hs a b c d e f => hq p' k' q' s hs a (by omega) (by omega) d e f) s' pG
       . rw [c3 hk, c3 hk]
         by_cases wj : j = k
         . subst wj
           rw [if_neg (show ¬ (j - (q + 1) <= j /\ j < j) by omega)]
           by_cases hi : j - (q + 1) <= i /\ i < j
           . rw [if_pos hi]; exact nR _ (by omega)
           . rw [if_neg hi]; exact nR _ jW
         . by_cases hi : k - (q + 1) <= i /\ i < k
           . rw [if_pos hi, if_pos (show k - (q + 1) <= j /\ j < k by omega)]
             exact hl _ _ (by omega) (by omega) (by omega) (by omega)
           . rw [if_neg hi]
             by_cases tI : k - (q + 1) <= j /\ j < k
             . rw [if_pos tI]; exact hd _ _ (by omega) (by omega)
             . rw [if_neg tI]; exact hd _ _ jW (by omega)
       . have : i = k := by omega
         have : j = k := by omega
         subst_vars
         exact w.zJ _
     . simp only [if_true, if_neg h0]
       refine iY f _ (k + 1) 0 hp (by omega) (by omega) (fun i j jW hj => ?_) (fun i j a b c d => ?_) (fun p' k' q' s hs a b c d e f => hq p' k' q' s hs a (by omega) (by omega) d e f) s' pG
       . by_cases wj : j = k
         . subst wj; exact nR _ jW
         . exact hd _ _ jW (by omega)
       . have : i = k := by omega
         have : j = k := by omega
         subst_vars
         exact w.zJ _
   | false =>
     simp only [Bool.false_eq_true, if_false]
     refine ha _ _ _ _ (hp.low (by omega)) (hp.low (by omega)) pG fun s2 sE => ?_
     cases e2 : lt (p.getD (k - 1) 0) (p.getD k 0) with
     | true => simp only [if_true]; exact hq p k q s2 sE hp (Nat.le_refl _) (by omega) h1 hd hl
     | false =>
       simp only [Bool.false_eq_true, if_false]
       refine iY f _ (k + 1) (q + 1) hp (by omega) (by omega) (fun i j jW hj => ?_) (fun i j a b c d => ?_) (fun p' k' q' s hs a b c d e f => hq p' k' q' s hs a (by omega) (by omega) d e f) s2 sE
       . by_cases wj : j = k
         . subst wj
           by_cases h : i = j - 1
           . rw [h]; exact e2
           . exact w.tL _ _ _ (hd i (j - 1) (by omega) (by omega)) e2
         . exact hd _ _ jW (by omega)
       . by_cases hi : i = k
         . by_cases hj : j = k
           . rw [hi, hj]; exact w.zJ _
           . rw [hi]; exact w.tL _ _ _ e (hl _ _ (by omega) (by omega) (by omega) (by omega))
         . by_cases hj : j = k
           . rw [hj]; exact w.tL _ _ _ (hl _ _ (by omega) (by omega) (by omega) (by omega)) e2
           . exact hl _ _ (by omega) (by omega) (by omega) (by omega)
theorem lA {Q : Nat × Array Nat -> Shared -> Prop} {p : Array Nat} {k : Nat} (hp : Ix n p) (h1 : 1 <= k) (hk : k <= n) (hd : Down lt p k) (hq : ∀ m p' s, S s -> Ix n p' -> 1 <= m -> m <= n -> Up lt p' m -> Q (m, p') s) (s : Shared) (hs : S s) : (kas_tail3 k n p).kasWp cmp Q s := by
 unfold kas_tail3
 rw [KasT.kasWp_bind]
 have oH : k <= p.size := by rw [hp.sz]; exact hk
 refine nE w ha (je hp 0 k) (n - k) k h1 (by omega) (fun i j jW hj => ?_) (fun m s hs a b c _ => hq m _ s hs (je hp _ _) (by omega) (by omega) c) s hs
 rw [c3 oH, c3 oH, if_pos (by omega), if_pos (by omega)]
 exact hd _ _ (by omega) (by omega)
theorem iF {Q : Nat × Array Nat -> Shared -> Prop} {p : Array Nat} {k : Nat} (hp : Ix n p) (h1 : 1 <= k) (hk : k + 1 <= n) (hd : Down lt p (k + 1)) (hq : ∀ m p' s, S s -> Ix n p' -> 1 <= m -> m <= n -> Up lt p' m -> Q (m, p') s) (s : Shared) (hs : S s) : (kas_descPart k n p).kasWp cmp Q s := by
 unfold kas_descPart
 rw [KasT.kasWp_bind]
 refine iY w ha _ p (k + 1) 0 hp (by omega) (by omega) hd (fun i j a b c d => ?_) (fun p' k' q' s hs xn a b c oU hl => ?_) s hs
 . have : i = k := by omega
   have : j = k := by omega
   subst_vars
   exact w.zJ _
 . by_cases h0 : q' > 0
   . simp only [if_pos h0]
     have oH : k' <= p'.size := by rw [xn.sz]; omega
     refine lA w ha (je xn _ _) (by omega) (by omega) (fun i j jW hj => ?_) hq s hs
     rw [c3 oH, c3 oH]
     by_cases hi : k' - (q' + 1) <= i /\ i < k'
     . rw [if_pos hi, if_pos (by omega)]; exact hl _ _ (by omega) (by omega) (by omega) (by omega)
     . rw [if_neg hi]
       by_cases tI : k' - (q' + 1) <= j /\ j < k'
       . rw [if_pos tI]; exact oU _ _ (by omega) (by omega)
       . rw [if_neg tI]; exact oU _ _ jW (by omega)
   . simp only [if_neg h0]
     exact lA w ha xn (by omega) (by omega) oU hq s hs
theorem qV {Q : Nat × Array Nat -> Shared -> Prop} {p : Array Nat} (hn : 1 <= n) (hp : Ix n p) (hq : ∀ m p' s, S s -> Ix n p' -> 1 <= m -> m <= n -> Up lt p' m -> Q (m, p') s) (s : Shared) (hs : S s) : (kas_count n p).kasWp cmp Q s := by
 unfold kas_count
 rw [KasT.kasWp_bind]
 refine nE w ha hp (n - 1) 1 (Nat.le_refl _) (by omega) (fun i j _ _ => by omega) (fun m s hs a b hu hc => ?_) s hs
 by_cases hm : (m == n) = true
 . simp only [if_pos hm]; exact hq m p s hs hp a (by have := beq_iff_eq.mp hm; omega) hu
 . simp only [if_neg hm]
   have Iz : m ≠ n := fun z => hm (beq_iff_eq.mpr z)
   have g6 : m < n := by omega
   have nL : lt (p.getD m 0) (p.getD (m - 1) 0) = true := by
    rcases hc with hc | hc
    . omega
    . exact hc.2
   by_cases h1 : m > 1
   . simp only [if_pos h1]
     refine ha _ _ _ _ (hp.low (by omega)) (hp.low (by omega)) hs fun s2 sE => ?_
     cases e : lt (p.getD 0 0) (p.getD (m - 1) 0) with
     | true => simp only [if_true]; exact hq m p s2 sE hp a (by omega) hu
     | false =>
       simp only [Bool.false_eq_true, if_false]
       have hk : m <= p.size := by rw [hp.sz]; omega
       have al : ∀ i j, i < m -> j < m -> lt (p.getD i 0) (p.getD j 0) = false := fun i j hi hj => by
        have h1 : lt (p.getD i 0) (p.getD 0 0) = false := by
         by_cases h : i = 0
         . rw [h]; exact w.zJ _
         . exact hu 0 i (by omega) hi
        have h2 : lt (p.getD i 0) (p.getD (m - 1) 0) = false := w.tL _ _ _ h1 e
        by_cases h : j = m - 1
        . rw [h]; exact h2
        . exact w.tL _ _ _ h2 (hu j (m - 1) (by omega) (by omega))
       refine iF w ha (je hp _ _) a (by omega) (fun i j jW hj => ?_) hq s2 sE
       rw [c3 hk, c3 hk, if_pos (by omega)]
       by_cases Cz : j < m
       . rw [if_pos (by omega)]; exact al _ _ (by omega) (by omega)
       . rw [if_neg (by omega)]
         have : j = m := by omega
         subst this
         exact w.tL _ _ _ (al _ (j - 1) (by omega) (by omega)) (w.Ab _ _ nL)
   . simp only [if_neg h1]
     refine iF w ha hp a (by omega) (fun i j jW hj => ?_) hq s hs
     have h1 : m = 1 := by omega
     have hi : i = m - 1 := by omega
     have hj : j = m := by omega
     rw [hi, hj]
     exact w.Ab _ _ nL
theorem jt {p : Array Nat} {k : Nat} (hp : Ix n p) (hk : k < n) (hu : Up lt p k) {Q : Nat -> Shared -> Prop} : ∀ (f l r : Nat), l <= r -> r <= k -> r - l <= f -> (∀ i, i < l -> lt (p.getD k 0) (p.getD i 0) = false) -> (∀ i, r <= i -> i < k -> lt (p.getD k 0) (p.getD i 0) = true) ->
 (∀ l s, S s -> l <= k -> (∀ i, i < l -> lt (p.getD k 0) (p.getD i 0) = false) -> (∀ i, l <= i -> i < k -> lt (p.getD k 0) (p.getD i 0) = true) -> Q l s) -> ∀ s, S s -> (kas_place p k f l r).kasWp cmp Q s
 | 0, l, r, F2, hr, hf, h1, h2, hq, s, hs => hq l s hs (by omega) h1 (fun i a b => h2 i (by omega) b)
 | f + 1, l, r, F2, hr, hf, h1, h2, hq, s, hs => by
   unfold kas_place
   by_cases h : l ≥ r
   . rw [if_pos h]; exact hq l s hs (by omega) h1 (fun i a b => h2 i (by omega) b)
   . rw [if_neg h]
     refine ha _ _ _ _ (hp.low hk) (hp.low (by omega)) hs fun s' pG => ?_
     cases e : lt (p.getD k 0) (p.getD ((l + r) / 2) 0) with
     | true =>
       simp only [if_true]
       refine jt hp hk hu f l ((l + r) / 2) (by omega) (by omega) (by omega) h1 (fun i a b => ?_) hq s' pG
       by_cases hi : i = (l + r) / 2
       . rw [hi]; exact e
       . cases e3 : lt (p.getD k 0) (p.getD i 0) with
         | true => rfl
         | false => rw [w.tL _ _ _ e3 (hu ((l + r) / 2) i (by omega) b)] at e; exact e
     | false =>
       simp only [Bool.false_eq_true, if_false]
       refine jt hp hk hu f ((l + r) / 2 + 1) r (by omega) (by omega) (by omega) (fun i a => ?_) h2 hq s' pG
       by_cases hi : i = (l + r) / 2
       . rw [hi]; exact e
       . exact w.tL _ _ _ e (hu i ((l + r) / 2) (by omega) (by omega))
theorem sd {Q : Array Nat -> Shared -> Prop} : ∀ (f : Nat) (p : Array Nat) (k : Nat), Ix n p -> k + f = n -> Up lt p k -> (∀ p' s, S s -> Ix n p' -> Up lt p' n -> Q p' s) -> ∀ s, S s -> (kas_bin f p k).kasWp cmp Q s
 | 0, p, k, hp, hf, hu, hq, s, hs => by
   have : k = n := by omega
   subst this
   exact hq p s hs hp hu
 | f + 1, p, k, hp, hf, hu, hq, s, hs => by
   unfold kas_bin
   rw [KasT.kasWp_bind]
   refine jt w ha hp (by omega) hu k 0 k (by omega) (Nat.le_refl _) (by omega) (fun i h => by omega) (fun i a b => by omega) (fun l s hs hl h1 h2 => ?_) s hs
   have hk : k < p.size := by rw [hp.sz]; omega
   refine sd f _ (k + 1) (hp.perm (bubble_perm _ _ _)) (by omega) (fun i j jW hj => ?_) hq s hs
   rw [lW hk (by omega), lW hk (by omega)]
   have el : k - (k - l) = l := by omega
   rw [el]
   by_cases B7 : j = l
   . rw [if_pos B7, if_neg (by omega), if_neg (by omega)]; exact h1 i (by omega)
   . rw [if_neg B7]
     by_cases BX : i = l
     . rw [if_pos BX, if_pos (by omega)]; exact w.Ab _ _ (h2 _ (by omega) (by omega))
     . rw [if_neg BX]
       by_cases BW : l < i /\ i <= k
       . rw [if_pos BW, if_pos (by omega)]; exact hu _ _ (by omega) (by omega)
       . rw [if_neg BW]
         by_cases tI : l < j /\ j <= k
         . rw [if_pos tI]; exact hu _ _ (by omega) (by omega)
         . rw [if_neg tI]; exact hu _ _ jW (by omega)
theorem vb {Q : Array Nat -> Shared -> Prop} (hn : 1 <= n) (hq : ∀ p' s, S s -> Ix n p' -> Up lt p' n -> Q p' s) (s : Shared) (hs : S s) : (kas_sort n).kasWp cmp Q s := by
 unfold kas_sort
 rw [KasT.kasWp_bind]
 refine qV w ha hn ⟨by simp, by simp⟩ (fun m p' s hs hp h1 hm hu => ?_) s hs
 by_cases h : m < n
 . simp only [if_pos h]
   have : max m 1 = m := by omega
   rw [this]
   exact sd w ha _ p' m hp (by omega) hu hq s hs
 . simp only [if_neg h]
   have : m = n := by omega
   subst this
   exact hq p' s hs hp hu
end
section
variable {X : Cx} {pins : List (Addr × Obj)} {σ : St} {H H' : Hp} {s : Shared} {a : Addr}
theorem Inv.uL {f : Obj -> Obj} (I : Inv X pins σ H s) (fa : cZ X pins H a) : Inv X pins σ H { s with heap := s.heap.update a f } :=
 I.turned (t' := s.toks) (fun b o hb e => by rw [Heap.get?_update_ne _ _ _ _ hb]; exact e) fa.1 fa.2.1 fa.2.2.2.1 fa.2.2.2.2.1 fa.2.2.2.2.2
theorem Inv.n9 {o : Obj} (I : Inv X pins σ H s) : Inv X pins σ H { s with heap := s.heap.push o } := I.kept (t' := s.toks) fun b u e => Heap.get?_push_of_some _ e
theorem cZ.keep (fa : cZ X pins H a) (h : H' a = none) : cZ X pins H' a := ⟨h, fa.2⟩
theorem Inv.AA {acc : List V} {aR : List Value} {n : Nat} (I : Inv X pins σ H s) (fa : cZ X pins H a) (va : X.ck.heap.objs.size <= a) (hl : acc.length <= sizeLine) (r : Vals acc aR) (hd : s.heap.get? a = some { cls := .type "list", data := .seq aR.toArray n }) :
 Inv X pins σ (upd H a (.lst acc)) s := by
 have ne : ∀ b u, H b = some u -> b ≠ a := fun b u e => av e fa.1
 have old : ∀ b o, X.ck.heap.get? b = some o -> b ≠ a := fun b o e => Nat.ne_of_lt (Nat.lt_of_lt_of_le (Heap.lt_size e) va)
 have U := I.base
 refine ⟨I.ok, I.os, I.bare, ⟨U.keep, U.slot, fun b o e n hx => ?_, U.there, fun b xs e => ?_, fun b o u e => ?_, fun b ps e => ?_⟩, I.loc, I.cell, ?_, fun x c e => ?_, fun p hp => ?_, fun b u e => ?_, I.len⟩
 . rw [ag (old b o e)]; exact U.free b o e n hx
 . rw [ag (ne b _ (U.gT b xs e))]; exact U.gT b xs e
 . rw [ag (ne b _ (U.gf b o u e))]; exact U.gf b o u e
 . obtain ⟨more, q⟩ := U.iy b ps e
   exact ⟨more, by rw [ag (ne b _ q)]; exact q⟩
 . rw [ag (Ne.symm fa.2.1)]; exact I.free
 . rw [ag (fa.2.2.2.2.1 x c e)]; exact I.dP x c e
 . obtain ⟨e1, e2, e3⟩ := I.pin p hp
   exact ⟨e1, by rw [ag (fa.2.2.2.2.2 p hp)]; exact e2, e3⟩
 . by_cases hb : b = a
   . subst hb
     rw [aj] at e
     cases e
     exact ⟨hl, aR, n, r, hd⟩
   . rw [ag hb] at e
     exact (I.aH b u e).jA (fun c v _ q => q) (fun c q => by rw [ag (ne c _ q)]; exact q) fun c xs q => by rw [ag (ne c _ q)]; exact q
end
def lZ (a b : Str) : Bool := decide (a.cps.toList < b.cps.toList)
def cn (a b : Int × Str) : Bool := decide (a.1 < b.1) || (decide (a.1 = b.1) && lZ a.2 b.2)
theorem uF (a : Str) : lZ a a = false := decide_eq_false (List.lt_irrefl _)
theorem u0 {a b : Str} (h : lZ a b = true) : lZ b a = false := decide_eq_false (List.lt_asymm (of_decide_eq_true h))
theorem nT {a b c : Str} (h : lZ a b = false) (h2 : lZ b c = false) : lZ a c = false := by
 unfold lZ at *
 have qH : b.cps.toList <= a.cps.toList := List.not_lt.mp (of_decide_eq_false h)
 have A6 : c.cps.toList <= b.cps.toList := List.not_lt.mp (of_decide_eq_false h2)
 exact decide_eq_false (List.not_lt.mpr (List.le_trans A6 qH))
theorem oP {a b : Str} (h : a.cps.toList = b.cps.toList) : a = b := by
 cases a; cases b
 simp only at h
 rw [Array.toList_inj.mp h]
theorem oX {a b : Str} (h : lZ a b = false) (h2 : lZ b a = false) : a = b := by
 unfold lZ at *
 have qH : b.cps.toList <= a.cps.toList := List.not_lt.mp (of_decide_eq_false h)
 have A6 : a.cps.toList <= b.cps.toList := List.not_lt.mp (of_decide_eq_false h2)
 exact oP (List.le_antisymm A6 qH)
theorem rl {a b : Int × Str} : cn a b = true ↔ a.1 < b.1 \/ (a.1 = b.1 /\ lZ a.2 b.2 = true) := by
 unfold cn; simp
theorem cf {a b : Int × Str} : cn a b = false ↔ ¬ a.1 < b.1 /\ (a.1 = b.1 -> lZ a.2 b.2 = false) := by
 unfold cn; simp
theorem mJ (a : Int × Str) : cn a a = false := cf.mpr ⟨by omega, fun _ => uF _⟩
theorem sZ {a b : Int × Str} (h : cn a b = true) : cn b a = false := by
 rcases rl.mp h with h | ⟨h, h2⟩
 . exact cf.mpr ⟨by omega, fun _ => by omega⟩
 . exact cf.mpr ⟨by omega, fun _ => u0 h2⟩
theorem tF {a b c : Int × Str} (h : cn a b = false) (h2 : cn b c = false) : cn a c = false := by
 obtain ⟨h1, h3⟩ := cf.mp h
 obtain ⟨h4, h5⟩ := cf.mp h2
 refine cf.mpr ⟨by omega, fun e => ?_⟩
 exact nT (h3 (by omega)) (h5 (by omega))
theorem sO {a b : Int × Str} (h : cn a b = false) (h2 : cn b a = false) : a = b := by
 obtain ⟨h1, h3⟩ := cf.mp h
 obtain ⟨h4, h5⟩ := cf.mp h2
 have e : a.1 = b.1 := by omega
 exact Prod.ext e (oX (h3 e) (h5 e.symm))
section
variable {prog : Program} {w : World} {A : Around} {E : Value -> Shared -> Prop} {s : Shared}
theorem vw {x y : Addr} {i j : Int} {t u t2 u2 : Tok} {c d : Str} {Q : Bool -> Shared -> Prop} (hx : IsTup s.heap x #[.int i t, .str c t2]) (hy : IsTup s.heap y #[.int j u, .str d u2]) (h : Q (cn (i, c) (j, d)) s) :
 wpAny (model prog w) A (keyLt' (tuples' true) (.ref x) (.ref y)) Q E s := by
 obtain ⟨ox, GH, cx, nx, dx⟩ := hx
 obtain ⟨oy, GJ, cy, ny, dy⟩ := hy
 refine kat_lt GH dx GJ dy ?_
 refine kat_cons (wpAny_eqBool_int ?_)
 by_cases e : i = j
 . rw [show (i == j) = true from beq_iff_eq.mpr e]
   refine kat_yes (kat_cons (wpAny_eqBool_str ?_))
   by_cases e2 : c = d
   . rw [decide_eq_true e2]
     refine kat_yes (kat_nil ?_)
     have : cn (i, c) (j, d) = false := by rw [e, e2]; exact mJ _
     rw [this] at h
     exact h
   . rw [decide_eq_false e2]
     refine kat_no (kat_one _ _ (lt_str ?_))
     have : cn (i, c) (j, d) = lZ c d := by unfold cn; simp [e]
     rw [this] at h
     exact h
 . rw [show (i == j) = false from beq_eq_false_iff_ne.mpr e]
   refine kat_no (oneLt_int ?_)
   have : cn (i, c) (j, d) = decide (i < j) := by unfold cn; simp [e]
   rw [this] at h
   exact h
end
def nJ (sp : Sp) (kf : V -> Int × Str) (H : Hp) (xs : List V) : Prop := ∀ v ∈ xs, ∀ H', ai H H' -> sp [v] H' (fun y H2 => ai H' H2 /\ Dv H2 y (.tuple [.int (kf v).1, .str (kf v).2])) E0
def kT {α : Type} (lt : α -> α -> Bool) (kf : V -> α) (ys xs : List V) : Prop := ys.Perm xs /\ ys.Pairwise fun x y => lt (kf y) (kf x) = false
section
variable {X : Cx} {pins : List (Addr × Obj)} {σ : St} {H : Hp} {s : Shared} {k : Nat} {f : Addr} {fd : FuncData} {ps : List Str} {sp : Sp} {kf : V -> Int × Str} {A : Around}
structure yf (X : Cx) (pins : List (Addr × Obj)) (σ : St) (H : Hp) (kf : V -> Int × Str) (a kS : Addr) (oa : Obj) (xs : List V) (s' : Shared) : Prop where
 mk ::
 ex : ∃ H' us e ys, Inv X pins σ H' s' /\ ai H H' /\ H' a = none /\ H' kS = none /\ s'.heap.get? a = some oa /\ s'.heap.get? kS = some (seqObj "list" (List.toArray us) e) /\ Vals ys us /\ bE H' ys (xs.map fun v => .tuple [.int (kf v).1, .str (kf v).2])
theorem sf {xs : List V} {p : Array Nat} {α : Type} {lt : α -> α -> Bool} {kf : V -> α} (hp : Ix xs.length p) (hu : Up (fun i j => lt (kf (xs.getD i .aO)) (kf (xs.getD j .aO))) p xs.length) : kT lt kf (p.toList.map fun i => xs.getD i .aO) xs := by
 refine ⟨?_, ?_⟩
 . have h := hp.pm.map fun i => xs.getD i .aO
   have e : (List.range xs.length).map (fun i => xs.getD i .aO) = xs := by
    refine List.ext_getElem? fun i => ?_
    rw [List.getElem?_map]
    by_cases hi : i < xs.length
    . rw [List.getElem?_range hi]; simp [hi]
    . rw [List.getElem?_eq_none (by simpa using hi), List.getElem?_eq_none (by simpa using hi)]; rfl
   rw [e] at h
   exact h
 . rw [List.pairwise_map, List.pairwise_iff_getElem]
   intro i j hi hj jW
   have hsz : p.toList.length = xs.length := by simp [hp.sz]
   have := hu i j jW (by omega)
   have gi : p.getD i 0 = p.toList[i] := by simp [Array.getD, show i < p.size by rw [hp.sz]; omega]
   have gj : p.getD j 0 = p.toList[j] := by simp [Array.getD, show j < p.size by rw [hp.sz]; omega]
   rw [gi, gj] at this
   exact this
theorem il : ∀ {xs : List V} {us : List Value} (i : Nat), Vals xs us -> RelV (xs.getD i .aO) (us.getD i Value.none)
 | _, _, _, .nil => rfl
 | _, _, 0, .cons r _ => r
 | _, _, i + 1, .cons _ t => by simpa using il i t
theorem kc {xs : List V} {us : List Value} (r : Vals xs us) : ∀ l : List Nat, Vals (l.map fun i => xs.getD i .aO) (l.map fun i => us.getD i Value.none)
 | [] => .nil
 | i :: l => .cons (il i r) (kc r l)
theorem lL {H : Hp} {g : V -> PyData} : ∀ {ys : List V} {xs : List V} {i : Nat}, bE H ys (xs.map g) -> i < xs.length -> Dv H (ys.getD i .aO) (g (xs.getD i .aO))
 | _, [], _, _, h => by simp at h
 | _, _ :: _, 0, .cons h _, _ => h
 | _, _ :: _, i + 1, .cons _ t, hi => by simpa using lL (i := i) t (by simpa using hi)
def og (X : Cx) (pins : List (Addr × Obj)) (σ : St) (H : Hp) {α : Type} (lt : α -> α -> Bool) (kf : V -> α) (xs : List V) (Q : VK) : Prop :=
 ∀ a ys H', ai H H' -> H a = none -> H' a = none -> kT lt kf ys xs -> Q (.ref a) (upd H' a (.lst ys))
theorem qf {H' : Hp} {s' : Shared} {xs ys : List V} {us : List Value} {A : Around} (I : Inv X pins σ H' s') (rv : Vals ys us) (dv : bE H' ys (xs.map fun v => .tuple [.int (kf v).1, .str (kf v).2])) :
 Az xs.length (fun i j => cn (kf (xs.getD i .aO)) (kf (xs.getD j .aO))) (fun z => z = s') (kas_ask X.prog X.w A (tuples' true) us) := by
 intro i j C z hi hj hz hC
 subst hz
 have one : ∀ i, i < xs.length -> ∃ x t t2, us.getD i Value.none = .ref x /\ IsTup z.heap x #[.int (kf (xs.getD i .aO)).1 t, .str (kf (xs.getD i .aO)).2 t2] := fun i hi => by
  have d := lL dv hi
  have r := il i rv
  generalize ys.getD i .aO = y at d r
  generalize us.getD i Value.none = u at r
  cases d with
  | tup h q =>
    have r' : u = .ref _ := r
    obtain ⟨aR, rr, tt, _⟩ := I.tuple (.of h)
    cases q with
    | cons h1 q =>
      cases q with
      | cons h2 q =>
        cases q
        cases h1; cases h2
        cases rr with
        | cons r1 rr =>
          cases rr with
          | cons r2 rr =>
            cases rr
            obtain ⟨t1, rfl⟩ := r1
            obtain ⟨t2, rfl⟩ := r2
            exact ⟨_, t1, t2, r', tt⟩
 obtain ⟨x, t, t2, e1, hx⟩ := one i hi
 obtain ⟨y, u, u2, e2, hy⟩ := one j hj
 show wpAny (model X.prog X.w) A (keyLt' (tuples' true) (us.getD i Value.none) (us.getD j Value.none)) C (fun _ _ => False) z
 rw [e1, e2]
 exact vw hx hy (hC _ rfl)
theorem jM {H' : Hp} {s' : Shared} : ∀ {xs ys : List V} {us : List Value}, Inv X pins σ H' s' -> Vals ys us -> bE H' ys (xs.map fun v => .tuple [.int (kf v).1, .str (kf v).2]) ->
 ∃ fs, KatTups s'.heap us fs /\ fs.length = us.length /\ ∀ v ∈ fs, Looks (model X.prog X.w) s'.heap (typeOf v) (.type "int")
 | [], _, _, I, rv, dv => by
   cases dv
   cases rv
   exact ⟨[], trivial, rfl, fun _ z => nomatch z⟩
 | x :: xs, _, _, I, rv, dv => by
   cases dv with
   | cons d dv =>
     cases rv with
     | cons r rv =>
       obtain ⟨fs, h1, h2, h3⟩ := jM I rv dv
       cases d with
       | tup h q =>
         obtain ⟨aR, rr, tt, _⟩ := I.tuple (.of h)
         cases q with
         | cons q1 q =>
           cases q with
           | cons q2 q =>
             cases q
             cases q1; cases q2
             cases rr with
             | cons r1 rr =>
               cases rr with
               | cons r2 rr =>
                 cases rr
                 obtain ⟨t1, rfl⟩ := r1
                 obtain ⟨t2, rfl⟩ := r2
                 cases r
                 obtain ⟨o, ho, hc, n, hd⟩ := tt
                 refine ⟨_ :: fs, KatTups.cons ho hc hd rfl h1, by simp [h2], fun v hv => ?_⟩
                 rcases List.mem_cons.mp hv with rfl | hv
                 . exact .now
                 . exact h3 v hv
end
section
variable {X : Cx} {pins : List (Addr × Obj)} {σ : St} {H : Hp} {s : Shared} {k : Nat} {f : Addr} {fd : FuncData} {ps : List Str} {sp : Sp} {kf : V -> Int × Str} {A : Around}
theorem kd {H' : Hp} {s' : Shared} {a kS : Addr} {e e1 : Nat} {us out : List Value} {ys : List V} {st : SortSt} {E : Value -> Shared -> Prop} {P : PySem.Fin -> Shared -> Prop} (I : Inv X pins σ H' s') (fa : cZ X pins H' a) (fk : cZ X pins H' kS) (tP : a ≠ kS) (va : X.ck.heap.objs.size <= a)
 (oa : s'.heap.get? a = some (seqObj "list" #[] e1)) (ok : s'.heap.get? kS = some (seqObj "list" (List.toArray us) e)) (hz : us.length < 64) (Dz : (arrOf st).map (·.2) = List.toArray out) (ho : out.length < 64) (hf : failedOf st = none) (rv : Vals ys out)
 (h : ∀ s2, Inv X pins σ (upd H' a (.lst ys)) s2 -> P (.done (.ret .none)) s2) : wpAny (model X.prog X.w) A (ksk_tail a false e1 (.ref kS) st) P E s' := by
 have Gg : (64 : Nat) <= sizeLine := by decide
 unfold ksk_tail
 dsimp only
 rw [Dz]
 refine wpAny_bind (listUpdate_at ok rfl ?_ (by rw [List.size_toArray]; omega) (Nat.zero_le _))
 refine wpAny_bind (wpAny_letGo ?_)
 have Df : (s'.heap.update kS (Obj.mapSeq fun _ => (#[] : Array Value))).get? a = some (seqObj "list" #[] e1) := by rw [Heap.get?_update_ne _ _ _ _ tP]; exact oa
 have I1 : Inv X pins σ H' { s' with heap := s'.heap.update kS (Obj.mapSeq fun _ => (#[] : Array Value)) } := I.uL fk
 refine wpAny_bind (seqEpoch_at Df rfl ?_)
 refine wpAny_bind (listUpdate_at Df rfl ?_ (Nat.zero_le _) (by show (List.toArray out).size <= _; rw [List.size_toArray]; omega))
 rw [hf]
 simp only [bne_self_eq_false, Bool.false_eq_true, if_false]
 refine wpAny_pure (h _ ?_)
 have I2 := I1.uL (f := Obj.mapSeq fun _ => List.toArray out) fa
 exact I2.AA fa va (by rw [rv.length]; omega) rv (get?_update_seq Df fun _ => List.toArray out)
theorem q0 {H' : Hp} {s' : Shared} {a kS : Addr} {e e1 : Nat} {us vs : List Value} {xs ys : List V} {Q : VK} {E : Value -> Shared -> Prop} {P : PySem.Fin -> Shared -> Prop} (sm : ai H H') (Ez : H a = none) (I : Inv X pins σ H' s') (fa : cZ X pins H' a) (fk : cZ X pins H' kS) (tP : a ≠ kS) (va : X.ck.heap.objs.size <= a)
 (oa : s'.heap.get? a = some (seqObj "list" #[] e1)) (ok : s'.heap.get? kS = some (seqObj "list" (List.toArray us) e)) (wB : xs.length < 64) (rx : Vals xs vs) (ry : Vals ys us) (dv : bE H' ys (xs.map fun v => .tuple [.int (kf v).1, .str (kf v).2]))
 (fin : og X pins σ H cn kf xs Q) (h : ∀ s2, EP X pins σ Q (.ref a) s2 -> P (.done (.ret .none)) s2) : wpAny (model X.prog X.w) A (ksk_end a false vs.toArray e1 (.ref kS) (List.toArray us)) P E s' := by
 have lx := rx.length
 have ly := ry.length
 have ld := dv.length
 rw [List.length_map] at ld
 unfold ksk_end
 simp only [Bool.false_eq_true, if_false]
 by_cases h2 : vs.toArray.size < 2
 . rw [if_pos h2, if_pos h2]
   refine wpAny_bind (wpAny_pure ?_)
   rw [StateT.run_pure]
   refine wpAny_bind (wpAny_pure ?_)
   refine kd (out := vs) (ys := xs) I fa fk tP va oa ok (by omega) ?_ (by omega) rfl rx (fun s2 I2 => h s2 ⟨.ref a, _, I2, rfl, fin a xs H' sm Ez fa.1 ⟨List.Perm.refl _, ?_⟩⟩)
   . show ((List.toArray us).zip vs.toArray).map (·.2) = List.toArray vs
     apply Array.toList_inj.mp
     have : us.length = vs.length := by omega
     simp [List.map_snd_zip, this]
   . rw [List.size_toArray] at h2
     match xs, lx with
     | [], _ => exact .nil
     | [_], _ => exact List.pairwise_singleton _ _
     | _ :: _ :: _, lx => simp at lx; omega
 . rw [if_neg h2, if_neg h2]
   rw [List.size_toArray] at h2
   obtain ⟨fs, k1, k2, k3⟩ := jM I ry dv
   refine wpAny_bind (kat_kind k1 (by omega) k3 (by decide) ?_)
   have yP : us.length = vs.length := by omega
   refine wpAny_bind (wpAny_mono (kat_run (Q := fun qy s2 => s2 = s' /\ ∃ p : Array Nat, Ix xs.length p /\ arrOf qy = p.map (kas_item ((List.toArray us).zip (List.toArray vs))) /\ failedOf qy = none /\ Up (fun i j => cn (kf (xs.getD i .aO)) (kf (xs.getD j .aO))) p xs.length)
    (G := fun p s2 => s2 = s' /\ Ix xs.length p /\ Up (fun i j => cn (kf (xs.getD i .aO)) (kf (xs.getD j .aO))) p xs.length) yP (by omega) (by omega) (fun p qy s2 a1 a2 a3 ⟨a4, a5, a6⟩ => ⟨a4, p, a5, a2, a3, a6⟩) ?_) ?_ fun _ _ z => z)
   . rw [show vs.length = xs.length by omega]
     refine vb (lt := fun i j => cn (kf (xs.getD i .aO)) (kf (xs.getD j .aO))) (S := fun z => z = s') ⟨fun _ => mJ _, fun _ _ => sZ, fun _ _ _ => tF⟩ (qf I ry dv) (by omega) (fun p s2 hs hp hu => ⟨hs, hp, hu⟩) s' rfl
   . rintro ⟨⟨⟩, qy⟩ s2 ⟨rfl, p, hp, Gv, hf, hu⟩
     dsimp only
     refine kd (out := p.toList.map fun i => vs.getD i Value.none) (ys := p.toList.map fun i => xs.getD i .aO) I fa fk tP va oa ok (by omega) (kat_snds yP Gv) (by simp [hp.sz]; omega) hf (kc rx _) (fun s3 I3 => h s3 ⟨.ref a, _, I3, rfl, fin a _ H' sm Ez fa.1 (sf hp hu)⟩)
end
section
variable {X : Cx} {k : Nat} {f : Addr} {ps : List Str} {sp : Sp} {e : Expr} {t : TA} {x : Str} {p p2 pos xm : Pos}
end
end L2
namespace L2
open PySem PySem.Spec PyProof.Rows
theorem ng {scope : Scope} {env : Env} (h : ∀ x ∈ scope.names, x.2 = .free -> ∃ c, env.cells.lookup x.1 = some c) :
 ∃ cl, closureFor scope env = pure cl /\ (∀ x c, cl.lookup x = some c -> env.cells.lookup x = some c) /\ ∀ x ∈ scope.names, x.2 = .free -> ∃ c, cl.lookup x.1 = some c := by
 have key : ∀ (l : List (Str × NameKind)) (acc : List (Str × Addr)), (∀ x ∈ l, x.2 = .free -> ∃ c, env.cells.lookup x.1 = some c) -> (∀ x c, acc.lookup x = some c -> env.cells.lookup x = some c) ->
  ∃ cl, (forIn l acc (fun (x : Str × NameKind) (r : List (Str × Addr)) => (match x with
    | (name, kind) => if (kind == NameKind.free) = true then (do let c <- cellOf env name; pure (ForInStep.yield ((name, c) :: r))) else pure (ForInStep.yield r) : Sem (ForInStep (List (Str × Addr))))) : Sem _) = pure cl /\
    (∀ x c, cl.lookup x = some c -> env.cells.lookup x = some c) /\ (∀ x ∈ l, x.2 = .free -> ∃ c, cl.lookup x.1 = some c) /\ ∀ x, (∃ c, acc.lookup x = some c) -> ∃ c, cl.lookup x = some c := by
  intro l
  induction l with
  | nil => intro acc _ ha; exact ⟨acc, rfl, ha, fun _ z => (nomatch z), fun _ z => z⟩
  | cons p r ih =>
    intro acc hl ha
    obtain ⟨n, k⟩ := p
    rw [List.forIn_cons]
    by_cases hk : k = .free
    . subst hk
      obtain ⟨c, hc⟩ := hl (n, .free) List.mem_cons_self rfl
      have ki : cellOf env n = pure c := by unfold cellOf; rw [hc]
      obtain ⟨cl, e, h1, h2, h3⟩ := ih ((n, c) :: acc) (fun x hx => hl x (List.mem_cons_of_mem _ hx)) (fun x d hd => by
       rw [List.lookup_cons] at hd
       by_cases hx : x = n
       . subst hx; rw [beq_self_eq_true] at hd; cases hd; exact hc
       . rw [beq_eq_false_iff_ne.mpr hx] at hd; exact ha x d hd)
      refine ⟨cl, ?_, h1, fun x hx hf => ?_, fun x ⟨d, hd⟩ => h3 x ?_⟩
      . simp only [beq_self_eq_true, if_true, ki]
        exact e
      . rcases List.mem_cons.mp hx with rfl | hx
        . exact h3 n ⟨c, by rw [List.lookup_cons, beq_self_eq_true]⟩
        . exact h2 x hx hf
      . rw [List.lookup_cons]
        by_cases hx : x = n
        . subst hx; rw [beq_self_eq_true]; exact ⟨c, rfl⟩
        . rw [beq_eq_false_iff_ne.mpr hx]; exact ⟨d, hd⟩
    . obtain ⟨cl, e, h1, h2, h3⟩ := ih acc (fun x hx => hl x (List.mem_cons_of_mem _ hx)) ha
      refine ⟨cl, ?_, h1, fun x hx hf => ?_, h3⟩
      . have : (k == NameKind.free) = false := by simpa using hk
        simp only [this, Bool.false_eq_true, if_false]
        exact e
      . rcases List.mem_cons.mp hx with rfl | hx
        . exact absurd hf hk
        . exact h2 x hx hf
 obtain ⟨cl, e, h1, h2, _⟩ := key scope.names [] h (fun _ _ z => by simp at z)
 refine ⟨cl, ?_, h1, h2⟩
 unfold closureFor
 show (forIn scope.names [] _ >>= fun cs => pure cs) = _
 refine Eq.trans (congrArg (· >>= _) e) rfl
theorem fh {env : Env} {scope : Scope} {x : Str} : (relabel scope env).names.lookup x = (scope.names.lookup x).map fun k => if (k == NameKind.free && env.scope.kind == .function && env.kindOf x == some .cell) = true then .cell else k := by
 unfold relabel
 show List.lookup x (List.map _ scope.names) = _
 generalize scope.names = l
 induction l with
 | nil => rfl
 | cons p r ih =>
   obtain ⟨n, k⟩ := p
   rw [List.map_cons]
   dsimp only
   by_cases hx : x = n
   . subst hx
     by_cases hc : (k == NameKind.free && env.scope.kind == .function && env.kindOf x == some .cell) = true
     . rw [if_pos hc, List.lookup_cons, List.lookup_cons, beq_self_eq_true]; simp only [Option.map_some, if_pos hc]
     . rw [if_neg hc, List.lookup_cons, List.lookup_cons, beq_self_eq_true]; simp only [Option.map_some, if_neg hc]
   . have hb : (x == n) = false := beq_eq_false_iff_ne.mpr hx
     by_cases hc : (k == NameKind.free && env.scope.kind == .function && env.kindOf n == some .cell) = true
     . rw [if_pos hc, List.lookup_cons, List.lookup_cons, hb]; exact ih
     . rw [if_neg hc, List.lookup_cons, List.lookup_cons, hb]; exact ih
theorem mem_lookup {α : Type} {x : Str} {k : α} : ∀ {l : List (Str × α)}, l.lookup x = some k -> (x, k) ∈ l
 | [], h => by simp at h
 | (n, j) :: r, h => by
   rw [List.lookup_cons] at h
   by_cases hx : x = n
   . subst hx; rw [beq_self_eq_true] at h; cases h; exact List.mem_cons_self
   . rw [beq_eq_false_iff_ne.mpr hx] at h; exact List.mem_cons_of_mem _ (mem_lookup h)
def eR (X : Cx) (N : List Str) (scope : Scope) (cl : List (Str × Addr)) (C : Addr) (s : Shared) (H : Hp) (fp : List Addr) : Cx :=
 { X with N := N, ck := s, lR := H, env := compEnvC scope cl C X.env, outer := X.stack, stack := X.stack, ex := fp, fn := fun _ => false, pn := [], xe := fun _ _ => False }
structure gU (X : Cx) (T M : List Str) (scope : Scope) : Prop where
 kind : scope.kind = .function
 cell : ∀ y ∈ scope.names, y.2 ≠ .cell
 names : ∀ y ∈ scope.names, y.2 = .local -> scope.names.lookup y.1 = some .local
 free : ∀ y ∈ scope.names, y.2 = .free -> X.env.scope.names.lookup y.1 = some .cell \/ X.env.scope.names.lookup y.1 = some .free
 len : M.length = X.N.length
 old : ∀ (i : Nat) x, M[i]? = some x -> X.N[i]? = some x /\ scope.names.lookup x = some .free \/ scope.names.lookup x = none
section
variable {X : Cx} {pins : List (Addr × Obj)} {σ : St} {H : Hp} {s : Shared} {T M : List Str} {scope : Scope} {cl : List (Str × Addr)} {fp : List Addr}
theorem As {C : Addr} (I : Inv X pins σ H s) (hN : gU X T M scope) (h1 : ∀ x c, cl.lookup x = some c -> X.env.cells.lookup x = some c) (h2 : ∀ x ∈ scope.names, x.2 = .free -> ∃ c, cl.lookup x.1 = some c)
 (hC : s.heap.objs.size <= C) (hf : ∀ b ∈ fp, cZ X pins H b) (y3 : ∀ b ∈ fp, b < s.heap.objs.size) : (eR X (T ++ M) scope cl C s H fp).Ok where
 mod := I.ok.mod
 kind := hN.kind
 glob := I.ok.glob
 blt := I.ok.blt
 above := hC
 inj := fun x y c e1 e2 => I.ok.inj x y c (h1 x c e1) (h1 y c e2)
 has := fun x hx => by
  have lT : (relabel scope X.env).names.lookup x = some .cell \/ (relabel scope X.env).names.lookup x = some .free := hx
  rw [fh] at lT
  cases e : scope.names.lookup x with
  | none => rw [e] at lT; simp at lT
  | some k =>
    have hm := mem_lookup e
    have hk : k = .free := by
     rw [e] at lT
     simp only [Option.map_some, Option.some.injEq] at lT
     by_cases hf : k = .free
     . exact hf
     . have : (k == NameKind.free) = false := by simpa using hf
       simp only [this, Bool.false_and, Bool.false_eq_true, if_false] at lT
       rcases lT with lT | lT
       . exact absurd lT (hN.cell _ hm)
       . exact lT
    exact h2 (x, k) hm hk
 y0 := fun _ _ z => by cases z
 hd := I.ok.hd
 frames := I.ok.frames
 zp := .inl rfl
 A1 := fun b hb => ⟨Nat.ne_of_lt (Nat.lt_of_lt_of_le (y3 b hb) hC), fun x c e => (hf b hb).2.2.2.2.1 x c (h1 x c e)⟩
 bs := I.bs
 qx := Nat.le_trans I.ok.qx I.sz
 pH := fun b o e hb => by
  rcases (hf b hb).2.2.2.1 with z | z
  . exact I.ok.pH b o e z
  . exact absurd (Nat.lt_of_lt_of_le (Heap.lt_size e) (Nat.le_trans I.ok.qx z)) (Nat.lt_irrefl _)
 p9 := fun b hb z => by
  rcases List.mem_cons.mp (I.mP b z) with e | e
  . exact (hf b hb).2.1 e
  . exact (hf b hb).2.2.1 e
 gH := I.stack
 tK := I.oA
theorem rC {C : Addr} {h₁ : Heap} {tk : Nat} (I : Inv X pins σ H s) (hN : gU X T M scope) (h1 : ∀ x c, cl.lookup x = some c -> X.env.cells.lookup x = some c) (h2 : ∀ x ∈ scope.names, x.2 = .free -> ∃ c, cl.lookup x.1 = some c)
 (hC : s.heap.objs.size <= C) (hf : ∀ b ∈ fp, cZ X pins H b) (y3 : ∀ b ∈ fp, b < s.heap.objs.size)
 {m : Str -> Option Value} (hn : h₁.Ns C m) (old : ∀ b o, s.heap.get? b = some o -> h₁.get? b = some o) :
 Inv (eR X (T ++ M) scope cl C s H fp) [] (List.replicate T.length none ++ σ) H { s with heap := h₁, toks := tk } where
 ok := As I hN h1 h2 hC hf y3
 os := rfl
 bare := I.bare
 base := Un.kept old
 loc := by
  refine ⟨m, hn, fun i x v e1 e2 e3 => ?_⟩
  have EV : (T ++ M)[i]? = some x := e1
  by_cases hi : i < T.length
  . rw [List.getElem?_append_left (by simpa using hi), List.getElem?_replicate, if_pos hi] at e2
    cases e2
  . have ud : T.length <= i := Nat.le_of_not_lt hi
    rw [List.getElem?_append_right ud] at EV
    rw [List.getElem?_append_right (by simpa using ud), List.length_replicate] at e2
    have CW : y7 (relabel scope X.env) x := e3
    rcases hN.old _ x EV with ⟨hx, k6⟩ | Hc
    . obtain ⟨m0, va, B6⟩ := I.loc
      have hk := hN.free _ (mem_lookup k6) rfl
      have oH : X.env.scope.names.lookup x = some .cell \/ X.env.scope.names.lookup x = some .free := hk
      obtain ⟨u, r, l⟩ := B6 _ x v hx e2 (.inr oH)
      refine ⟨u, r, .inr ?_⟩
      rcases l with ⟨z, _⟩ | ⟨_, c, hc, ki⟩
      . have z' : X.env.scope.names.lookup x = some .local := z
        rw [z'] at oH; rcases oH with q | q <;> cases q
      . obtain ⟨c', nL⟩ := h2 _ (mem_lookup k6) rfl
        have : c' = c := by have := h1 _ _ nL; rw [hc] at this; exact (Option.some.inj this).symm
        subst this
        refine ⟨?_, c', nL, ?_⟩
        . show (relabel scope X.env).names.lookup x = some .cell \/ (relabel scope X.env).names.lookup x = some .free
          rw [fh, k6]
          simp only [Option.map_some, Option.some.injEq]
          by_cases hc : (NameKind.free == NameKind.free && X.env.scope.kind == .function && X.env.kindOf x == some .cell) = true
          . left; rw [if_pos hc]
          . right; rw [if_neg hc]
        . obtain ⟨o, ho, hd⟩ := ki
          exact ⟨o, old _ _ ho, hd⟩
    . unfold y7 at CW
      rw [fh, Hc] at CW
      simp at CW
 cell := fun x c e => by
  obtain ⟨v, o, ho, hd⟩ := I.cell x c (h1 x c e)
  exact ⟨v, o, old _ _ ho, hd⟩
 free := I.aH.fresh hC
 dP := fun x c e => I.dP x c (h1 x c e)
 pin := fun p hp => nomatch hp
 aH := I.aH.kept old
 len := by
  show (List.replicate T.length none ++ σ).length = (T ++ M).length
  rw [List.length_append, List.length_append, List.length_replicate, hN.len, I.len]
theorem uG {C D : Addr} {s' : Shared} {σ' : St} {H' : Hp} {acc : List V} {aR : List Value} {n : Nat} (I : Inv X pins σ H s) (I' : Inv (eR X (T ++ M) scope cl C s H fp) [] σ' H' s')
 (hf : ∀ b ∈ fp, cZ X pins H b) (hD : s.heap.objs.size <= D) (hn : H' D = none) (hl : acc.length <= sizeLine) (r : Vals acc aR) (hd : s'.heap.get? D = some { cls := .type "list", data := .seq aR.toArray n }) :
 Inv X pins σ (upd H' D (.lst acc)) s' := by
 have U : Un (mq X.stack) fp H H' s.heap s'.heap := I'.base
 have Bk : ∀ b o, s.heap.get? b = some o -> b ≠ D := fun b o e => Nat.ne_of_lt (Nat.lt_of_lt_of_le (Heap.lt_size e) hD)
 have neT : ∀ b u, H' b = some u -> b ≠ D := fun b u e => av e hn
 refine I.zm (ch := fp) I'.os ⟨U.keep, U.slot, fun b o e1 e2 e3 => ?_, U.there, fun b xs e => ?_, fun b o u e => ?_, fun b ps e => ?_⟩ (fun b u e => ?_) I'.bare (fun b hb => ⟨(hf b hb).2.2.2.1, (hf b hb).2.1, (hf b hb).2.2.2.2.1, (hf b hb).2.2.2.2.2⟩)
 . rw [ag (Bk b o e1)]; exact U.free b o e1 e2 e3
 . rw [ag (neT b _ (U.gT b xs e))]; exact U.gT b xs e
 . rw [ag (neT b _ (U.gf b o u e))]; exact U.gf b o u e
 . obtain ⟨more, q⟩ := U.iy b ps e
   exact ⟨more, by rw [ag (neT b _ q)]; exact q⟩
 . by_cases hb : b = D
   . subst hb
     rw [aj] at e
     cases e
     exact ⟨hl, aR, n, r, hd⟩
   . rw [ag hb] at e
     exact (I'.aH b u e).jA (fun c v _ q => q) (fun c q => by rw [ag (neT c _ q)]; exact q) fun c xs q => by rw [ag (neT c _ q)]; exact q
end
theorem mV {prog : Program} {w : World} {A : Around} {R : Result -> Shared -> Prop} {s : Shared} {elt target iter : Expr} {ifs : List Expr} {scope : Scope} {pos : Pos} {it acc : Value} {env : Env} (I : Nat -> Shared -> Prop)
 (turn : ∀ n s, I n s -> wpAny (model prog w) A (pyNext it) (fun r s₁ => match r with
  | none => R (.ok .next) s₁
  | some v => wpAny (model prog w) A (letOwnedTupleGo target it v) (fun _ v7 => wpAny (model prog w) A (assign target env v) (fun _ s₂ =>
   wpAny (model prog w) A (forIn ifs true fun c r => if r = true then do let ok <- isTrue c env (eval c env); pure (ForInStep.yield ok) else pure (ForInStep.yield r)) (fun ok s₃ =>
    if ok = true then wpAny (model prog w) A (eval elt env) (fun x s₄ =>
     wpAny (model prog w) A (call (.builtin "list.append") [acc, x]) (fun _ s₅ => ∃ m, m < n /\ I m s₅) (fun _ _ => False) s₄) (fun _ _ => False) s₃
    else ∃ m, m < n /\ I m s₃) (fun _ _ => False) s₂) (fun _ _ => False) v7) (fun _ _ => False) s₁) (fun _ _ => False) s)
 (n : Nat) (h : I n s) :
 codeAny (model prog w) A (.compLoop (.ListComp elt [⟨target, iter, ifs, 0⟩] scope pos) 0 it acc env) R s := by
 refine codeAny_loop rfl I (fun n s hI => ?_) n h
 show wpAny _ A ((compTurn (.ListComp elt [⟨target, iter, ifs, 0⟩] scope pos) 0 it acc env).onRaise (fun x => do noteFrame x env; theTreesLotGoes x)) _ _ s
 refine wpAny_noted ?_
 rw [compTurn_list]
 refine wpAny_bind (wpAny_standAt (wpAny_bind (wpAny_mono (turn n s hI) (fun r s₁ h₁ => ?_) fun _ _ h' => h'.elim)))
 cases r with
 | none => exact wpAny_pure h₁
 | some v =>
   refine wpAny_bind (wpAny_mono h₁ (fun _ v7 Bn => ?_) fun _ _ h' => h'.elim)
   refine wpAny_bind (wpAny_mono Bn (fun _ s₂ h₂ => wpAny_bind (wpAny_mono h₂ (fun ok s₃ h₃ => ?_) fun _ _ h' => h'.elim)) fun _ _ h' => h'.elim)
   cases ok with
   | false => exact wpAny_pure ⟨rfl, h₃⟩
   | true =>
     exact wpAny_bind (wpAny_bind (wpAny_mono h₃ (fun x s₄ h₄ => wpAny_bind (wpAny_mono h₄ (fun _ s₅ h₅ => wpAny_pure (wpAny_pure ⟨rfl, h₅⟩)) fun _ _ h' => h'.elim)) fun _ _ h' => h'.elim))
def B3 (X : Cx) (ifs : List Expr) (t : TT) : Prop :=
 ∀ (pins : List (Addr × Obj)) (s : Shared) (σ : St) (H : Hp) (Q : Bool -> Hp -> Prop), Inv X pins σ H s -> t σ H Q ->
   wpAny (model X.prog X.w) X.A (forIn ifs true fun c r => if r = true then do let ok <- isTrue c X.env (eval c X.env); pure (ForInStep.yield ok) else pure (ForInStep.yield r)) (TP X pins σ Q) X.xe s
def DX : TT := fun _ H Q => Q true H
theorem vq {X : Cx} : B3 X [] DX := fun _ _ _ H _ I h => wpAny_tests_nil ⟨H, I, h⟩
theorem oV {X : Cx} {c : Expr} {t : TT} (h : PT X c t) : B3 X [c] t := fun pins s σ H Q I q => wpAny_tests_one (h pins s σ H Q I q)
def BA (k : Nat) (g : TG) (tc : TT) (te : TE) (Fin : List V -> Hp -> Prop) (σ : St) (J : It) (H1 : Hp) : Prop :=
 ∃ W : Nat -> Nat -> List V -> Hp -> Prop, (∃ m, W 0 m [] H1) /\ ∀ i m acc H, W i m acc H ->
   (J.stop i H /\ Fin acc H) \/ (J.go i H /\ acc.length < sizeLine /\ ∀ x H', J.uY i H x H' -> g x (List.replicate k none ++ σ) H' fun σ2 H2 => tc σ2 H2 fun b H3 =>
    if b = true then te σ2 H3 fun y H4 => ∃ m', m' < m /\ W (i + 1) m' (acc ++ [y]) H4 else ∃ m', m' < m /\ W (i + 1) m' acc H3)
section
variable {X : Cx} {pins : List (Addr × Obj)} {σ : St} {H : Hp} {s : Shared} {T M : List Str} {scope : Scope} {cl : List (Str × Addr)} {fp : List Addr} {g : TG} {tc : TT} {te : TE} {tg elt iter : Expr} {ifs : List Expr} {pos : Pos}
theorem Inv.forget {X : Cx} {pins : List (Addr × Obj)} {σ σ' : St} {H : Hp} {s : Shared} (I : Inv X pins σ' H s) (k : Nat) (hk : k + σ.length = σ'.length) (h : σ'.drop k = σ) : Inv X pins (List.replicate k none ++ σ) H s := by
 refine I.weak (by simp [hk]) (fun i v e => ?_)
 by_cases hi : i < k
 . rw [List.getElem?_append_left (by simpa using hi), List.getElem?_replicate, if_pos hi] at e; cases e
 . rw [List.getElem?_append_right (by simpa using hi), List.length_replicate, <- h, List.getElem?_drop] at e
   have : k + (i - k) = i := by omega
   rw [this] at e; exact e
theorem xQ {it : Addr} {tn : Nat -> Heap -> Prop} {J : It} {RR : Value -> Addr -> Result -> Shared -> Prop} {Fin : List V -> Hp -> Prop} {E : Value -> Shared -> Prop}
 (hN : gU X T M scope) (j5 : X.calm = true) (h1 : ∀ x c, cl.lookup x = some c -> X.env.cells.lookup x = some c) (h2 : ∀ x ∈ scope.names, x.2 = .free -> ∃ c, cl.lookup x.1 = some c)
 (hg : ∀ cl C s H fp, PG (eR X (T ++ M) scope cl C s H fp) tg g) (Hu : ∀ v H Q, g v (List.replicate T.length none ++ σ) H Q -> g v (List.replicate T.length none ++ σ) H fun σ2 H2 => Q σ2 H2 /\ T.length + σ.length = σ2.length /\ σ2.drop T.length = σ)
 (hc : ∀ cl C s H fp, B3 (eR X (T ++ M) scope cl C s H fp) ifs tc) (he : ∀ cl C s H fp, PE (eR X (T ++ M) scope cl C s H fp) elt te)
 (I : Inv X pins σ H s) (Tn : Turn X.prog X.w X.K tg J fp it tn) (st : tn 0 s.heap) (hf : ∀ b ∈ fp, cZ X pins H b) (hW : BA T.length g tc te Fin σ J H)
 (hR : ∀ D C s' H' acc m, s.heap.objs.size <= D -> s.heap.objs.size <= C -> C ≠ D -> s'.heap.Ns C m -> H' C = none -> H' D = none -> Inv X pins σ (upd H' D (.lst acc)) s' -> Fin acc H' -> RR (.ref D) C (.ok .next) s') :
 wpAny (model X.prog X.w) X.A (newList []) (fun acc s₃ => wpAny (model X.prog X.w) X.A (newFunctionEnv scope X.env.globals cl [] X.env.qual none .none (some X.env)) (fun zx s₄ =>
  codeAny (model X.prog X.w) X.A (.compStart (.ListComp elt [⟨tg, iter, ifs, 0⟩] scope pos) 0 (.ref it) acc { zx with scope := relabel scope X.env }) (RR acc zx.locals) s₄) E s₃) E s := by
 refine wpAny_newObj_type (wpAny_newFunctionEnv hN.cell (by intro y hy; simp at hy) (fun h₁ m7 lj => ?_) hN.kind)
 dsimp only at m7 lj ⊢
 generalize CF : s.heap.push { cls := .type "list", dict := none, data := .seq ([] : List Value).toArray } = H2 at m7 lj ⊢
 have hC : H2.objs.size = s.heap.objs.size + 1 := by rw [<- CF, Heap.size_push]
 have BH : s.heap.objs.size ≠ H2.objs.size := by rw [hC]; exact Nat.ne_of_lt (Nat.lt_succ_self _)
 have xl : s.heap.objs.size <= H2.objs.size := by rw [hC]; exact Nat.le_succ _
 have y3 : ∀ b ∈ fp, b < s.heap.objs.size := fun b hb => by obtain ⟨o, ho, _⟩ := Tn.obj _ _ st b hb; exact Heap.lt_size ho
 have old : ∀ b o, s.heap.get? b = some o -> h₁.get? b = some o := fun b o e => lj.extBut b o (Nat.ne_of_lt (Nat.lt_of_lt_of_le (Heap.lt_size e) xl)) (Heap.get?_push_of_some _ (CF ▸ Heap.get?_push_of_some _ e))
 have cO : h₁.PlainList s.heap.objs.size #[] := ⟨_, lj.extBut _ _ BH (Heap.get?_push_of_some _ (CF ▸ Heap.get?_push_size _ rfl))⟩
 generalize yN : s.heap.objs.size = D at *
 generalize Iq : H2.objs.size = C at *
 have I0 : Inv (eR X (T ++ M) scope cl C s H fp) [] (List.replicate T.length none ++ σ) H { s with heap := h₁, toks := s.toks + ([] : List (Str × Value)).length } :=
  rC I hN h1 h2 (by rw [yN]; exact xl) hf (by rw [yN]; exact y3) m7 old
 have Fz : tn 0 h₁ := Tn.keep _ _ _ st fun b _ o e => old b o e
 obtain ⟨W, ⟨m0, w0⟩, turn⟩ := hW
 have FH : ∀ b ∈ fp, b ≠ D := fun b hb => Nat.ne_of_lt (y3 b hb)
 have stat : ∀ {H' : Hp} {pl : List (Addr × Obj)}, (∀ b ∈ fp, H' b = none) -> (∀ p ∈ pl, p.1 = D) -> ∀ b ∈ fp, cZ (eR X (T ++ M) scope cl C s H fp) pl H' b := fun {H' pl} hn hp b hb => by
  have ok := I0.ok
  refine ⟨hn b hb, (ok.A1 b hb).1, ok.p9 b hb, .inl hb, (ok.A1 b hb).2, fun p hq => ?_⟩
  have ye : p ∈ pl := hq
  rw [hp p ye]; exact Ne.symm (FH b hb)
 have loop : codeAny (model X.prog X.w) X.A (.compLoop (.ListComp elt [⟨tg, iter, ifs, 0⟩] scope pos) 0 (.ref it) (.ref D) (compEnvC scope cl C X.env)) (RR (.ref D) C) { s with heap := h₁, toks := s.toks + ([] : List (Str × Value)).length } := by
  refine mV (fun n s' => ∃ i acc H' aR, Inv (eR X (T ++ M) scope cl C s H fp) [] (List.replicate T.length none ++ σ) H' s' /\ tn i s'.heap /\ (∀ b ∈ fp, H' b = none) /\ s'.heap.PlainList D aR /\ H' D = none /\ Vals acc aR.toList /\ acc.length <= sizeLine /\ W i n acc H') ?_ m0
   ⟨0, [], H, #[], I0, Fz, fun b hb => (hf b hb).1, cO, I.aH.fresh (by rw [yN]; exact Nat.le_refl _), .nil, Nat.zero_le _, w0⟩
  rintro n s3 ⟨i, acc, H3, aR, I3, AH, za, ⟨nn, ho⟩, DQ, hv, hlen, w3⟩
  have DN : ∀ {H'} {s'} {σ'} {o : Obj}, Inv (eR X (T ++ M) scope cl C s H fp) [] σ' H' s' -> s'.heap.get? D = some o -> (∀ v, o.data ≠ .cell v) -> H' D = none -> Inv (eR X (T ++ M) scope cl C s H fp) [(D, o)] σ' H' s' := fun {H' s' σ' o} I' e d hn => by
   refine I'.eZ fun p hp => ?_
   have e' : p = (D, o) := by simpa using hp
   subst e'
   refine ⟨e, hn, BH, fun z => ?_, d⟩
   have z' : D ∈ mq X.stack := z
   obtain ⟨_, o', qB, _⟩ := I.stack.mem z'
   exact absurd (Heap.lt_size qB) (by rw [yN]; exact Nat.lt_irrefl _)
  have EI := DN I3 ho (fun v z => by cases z) DQ
  rcases turn i n acc H3 w3 with ⟨stop, fin⟩ | ⟨go, hl, step⟩
  . refine bH (Tn.done (eR X (T ++ M) scope cl C s H fp) rfl rfl rfl j5 i _ s3 _ H3 _ EI (stat za (by simp)) AH stop) fun r s4 ⟨hr, I4⟩ => ?_
    subst hr
    have e4 := (I4.pin (D, _) (List.mem_append_right _ List.mem_cons_self)).1
    have D5 : Inv (eR X (T ++ M) scope cl C s H fp) [] (List.replicate T.length none ++ σ) H3 s4 := I4.eZ fun p hp => nomatch hp
    obtain ⟨m4, n4, _⟩ := D5.loc
    exact hR D C s4 H3 acc m4 (Nat.le_refl _) xl (Ne.symm BH) n4 D5.free DQ (uG I D5 hf (by rw [yN]; exact Nat.le_refl _) DQ hlen hv (by simpa using e4)) fin
  . refine bH (Tn.item (eR X (T ++ M) scope cl C s H fp) rfl rfl rfl j5 i _ s3 _ H3 _ EI (stat za (by simp)) AH go) fun r s4 ⟨u, hr, h4⟩ => ?_
    subst hr
    refine bH h4 fun _ s5 ⟨x, H5, I5, r5, y5, yH, Cm⟩ => ?_
    have Cj := I5.pinned (stat Cm (by simp)) (Tn.obj _ _ yH)
    refine bH (hg _ _ _ _ _ _ s5 _ H5 x u _ Cj r5 (Hu _ _ _ (step x H5 y5))) fun _ s6 ⟨σ6, H6, I6, q6, Gu, Gz⟩ => ?_
    refine bH (hc _ _ _ _ _ _ s6 σ6 H6 _ I6 q6) fun b s7 ⟨H7, I7, q7⟩ => ?_
    have rest : ∀ {s8 : Shared} {H8 : Hp}, Inv (eR X (T ++ M) scope cl C s H fp) ([(D, _)] ++ jb fp s5.heap) σ6 H8 s8 -> tn (i + 1) s8.heap /\ (∀ b ∈ fp, H8 b = none) /\ s8.heap.PlainList D aR /\ H8 D = none /\ Inv (eR X (T ++ M) scope cl C s H fp) [] (List.replicate T.length none ++ σ) H8 s8 := fun {s8 H8} I8 => by
     refine ⟨Tn.keep _ _ _ yH fun b hb o e => (I8.pin (b, o) (List.mem_append_right _ (List.mem_append_right _ (fq hb e)))).1, fun b hb => ?_, ⟨nn, (I8.pin (D, _) (List.mem_append_right _ (List.mem_append_left _ List.mem_cons_self))).1⟩, (I8.pin (D, _) (List.mem_append_right _ (List.mem_append_left _ List.mem_cons_self))).2.1, (I8.forget T.length Gu Gz).eZ fun p hp => nomatch hp⟩
     obtain ⟨o, e, d⟩ := Tn.obj _ _ yH b hb
     exact (I8.pin (b, o) (List.mem_append_right _ (List.mem_append_right _ (fq hb e)))).2.1
    cases b with
    | false =>
      obtain ⟨m', hm, w7⟩ := q7
      obtain ⟨a1, a2, a3, a4, a5⟩ := rest I7
      exact ⟨m', hm, i + 1, acc, H7, aR, a5, a1, a2, a3, a4, hv, hlen, w7⟩
    | true =>
      refine bH (he _ _ _ _ _ _ s7 σ6 H7 _ I7 q7) fun y s8 ⟨yv, H8, I8, r8, m', hm, w8⟩ => ?_
      obtain ⟨a1, a2, a3, a4, a5⟩ := rest I8
      have hsz : aR.size <= sizeLine := by have := hv.length; simp at this; omega
      refine wpAny_list_append_plain (hsz := hsz) a3 fun h9 DC ER => ?_
      refine ⟨m', hm, i + 1, acc ++ [yv], H8, aR.push y, ?_, ?_, a2, DC, a4, ?_, by simp; omega, w8⟩
      . exact a5.turned (t' := s8.toks) (it := D) (fun b o hb e => (ER.2 b hb).trans e) a4 BH (.inr (by show s.heap.objs.size <= D; rw [yN]; exact Nat.le_refl _)) (fun x c e z => by
         obtain ⟨v, o, ho, _⟩ := I.cell x c (h1 x c e)
         exact absurd (Heap.lt_size ho) (by rw [yN, z]; exact Nat.lt_irrefl _)) (fun p hp => nomatch hp)
      . exact Tn.keep _ _ _ a1 fun b hb o e => (ER.2 b (FH b hb)).trans e
      . simpa using Vals.append hv (.cons r8 .nil)
 exact codeAny_compStart_list loop (Tn.self _ _ _ _ _ Fz loop)
end
def zY (k : Nat) (g : TG) : Prop := ∀ v (τ σ : St) H Q, τ.length = k -> g v (τ ++ σ) H Q -> g v (τ ++ σ) H fun σ2 H2 => Q σ2 H2 /\ ∃ τ', τ'.length = k /\ σ2 = τ' ++ σ
theorem ia {k i : Nat} (h : i < k) : zY k (iE i) := fun v τ σ H Q hl q => by
 have e : (τ ++ σ).set i (some v) = τ.set i (some v) ++ σ := List.set_append_left _ _ (by omega)
 exact ⟨q, τ.set i (some v), by simp [hl], e⟩
def qI (Q : VK) (acc : List V) (H : Hp) : Prop := ∀ p, H p = none -> Q (.ref p) (upd H p (.lst acc))
def BF (k : Nat) (wi : TI) (g : TG) (tc : TT) (te : TE) : TE := fun σ H Q => wi σ H fun J H1 => BA k g tc te (qI Q) σ J H1
section
variable {X : Cx} {T M : List Str} {scope : Scope} {g : TG} {tc : TT} {te : TE} {wi : TI} {tg elt iter : Expr} {ifs : List Expr} {pos : Pos}
theorem rO (hN : gU X T M scope) (j5 : X.calm = true) (hi : PI X tg iter wi) (hg : ∀ cl C s H fp, PG (eR X (T ++ M) scope cl C s H fp) tg g) (GA : zY T.length g)
 (hc : ∀ cl C s H fp, B3 (eR X (T ++ M) scope cl C s H fp) ifs tc) (he : ∀ cl C s H fp, PE (eR X (T ++ M) scope cl C s H fp) elt te)
 (hs : ∀ x, foldedSetIterable iter X.env x = pure x := by intro _; rfl) : PE X (.ListComp elt [⟨tg, iter, ifs, 0⟩] scope pos) (BF T.length wi g tc te) := by
 intro pins s σ H Q I h
 obtain ⟨cl, gb, h1, h2⟩ := ng (scope := scope) (env := X.env) fun x hx hf => I.ok.has x.1 (hN.free x hx hf)
 rw [eval_ListComp]
 refine wpAny_comprehension_free (use := none) rfl hs gb hN.kind hN.names (bH (hi pins s σ H _ I h) fun xv s1 qH => bH qH fun CQ s2 A6 => ?_)
 obtain ⟨it, fp, tn, J, H2, e, I2, Tn, st, hf, hW⟩ := A6
 subst e
 refine xQ (RR := fun acc C => compPost (model X.prog X.w) X.A X.xe none (EP X pins σ Q) acc C) hN j5 h1 h2 hg (fun v H Q q => ?_) hc he I2 Tn st hf hW ?_
 . have := GA v (List.replicate T.length none) σ H Q (by simp) q
   refine (by
    have e : (fun (σ2 : St) (H2 : Hp) => Q σ2 H2 /\ T.length + σ.length = σ2.length /\ σ2.drop T.length = σ) = fun σ2 H2 => Q σ2 H2 /\ ∃ τ' : St, τ'.length = T.length /\ σ2 = τ' ++ σ := by
     funext σ2 H2
     refine propext ⟨fun ⟨a, b, c⟩ => ⟨a, σ2.take T.length, by rw [List.length_take]; omega, by rw [<- c, List.take_append_drop]⟩, fun ⟨a, τ', b, c⟩ => ⟨a, by rw [c, List.length_append, b], by rw [c, <- b, List.drop_left]⟩⟩
    rw [e]; exact this)
 . intro D C s' H' acc m hD hC qw hn F4 Ho Ib fin
   refine ⟨m, hn, fun h' pG => ⟨.ref D, _, ?_, rfl, fin D Ho⟩⟩
   exact Ib.turned (t' := s'.toks) (it := C) (fun b o hb e => (pG.2 b hb).trans e) (by rw [ag qw]; exact F4) (Nat.ne_of_gt (Nat.lt_of_lt_of_le I2.lt hC)) (.inr (Nat.le_trans I2.sz hC)) (fun x c e z => by
    obtain ⟨v, q⟩ := I2.cell x c e
    exact absurd (Nat.lt_of_lt_of_le q.lt (by rw [z]; exact hC)) (Nat.lt_irrefl _)) (fun p hp z => absurd (Nat.lt_of_lt_of_le (Heap.lt_size (I2.pin p hp).1) (by rw [z]; exact hC)) (Nat.lt_irrefl _))
end
end L2
namespace L2
open PySem PySem.Spec PyProof.Rows PySem.W
mutual
def kA : PyData -> Bool
 | .none => true
 | .bool _ => true
 | .int _ => true
 | .str _ => true
 | .tuple ds => bo ds
 | .list _ => false
 | .dict _ => false
def bo : List PyData -> Bool
 | [] => true
 | d :: ds => kA d && bo ds
end
theorem gC : ∀ {ds : List PyData}, bo ds = true ↔ ∀ d ∈ ds, kA d = true
 | [] => by simp [bo]
 | d :: ds => by simp [bo, gC (ds := ds)]
theorem gA {ds es : List PyData} (h1 : bo ds = true) (h2 : bo es = true) : bo (ds ++ es) = true := by
 rw [gC] at *
 intro d hd
 rcases List.mem_append.mp hd with h | h
 . exact h1 d h
 . exact h2 d h
theorem bU {α : Type} {f : α -> PyData} (h : ∀ x, kA (f x) = true) (xs : List α) : bo (xs.map f) = true := by
 rw [gC]
 intro d hd
 obtain ⟨x, _, rfl⟩ := List.mem_map.mp hd
 exact h x
structure Mv (S : List Addr) (H H' : Hp) : Prop where
 kp : ∀ a o, a ∉ S -> H a = some o -> H' a = some o
 tp : ∀ a xs, H a = some (.tup xs) -> H' a = some (.tup xs)
 dm : ∀ a, H' a = none -> H a = none
theorem Mv.refl {S : List Addr} {H : Hp} : Mv S H H := ⟨fun _ _ _ h => h, fun _ _ h => h, fun _ h => h⟩
theorem ai.mv {S : List Addr} {H H' : Hp} (s : ai H H') : Mv S H H' := ⟨fun a o _ h => s a o h, fun a xs h => s a _ h, fun a h => by
 cases e : H a with
 | none => rfl
 | some o => rw [s a o e] at h; cases h⟩
theorem Mv.trans {S : List Addr} {H H1 H2 : Hp} (m : Mv S H H1) (m2 : Mv S H1 H2) : Mv S H H2 := ⟨fun a o n h => m2.kp a o n (m.kp a o n h), fun a xs h => m2.tp a xs (m.tp a xs h), fun a h => m.dm a (m2.dm a h)⟩
theorem Mv.step {S S1 : List Addr} {H H1 H2 : Hp} (m : Mv S H H1) (m2 : Mv S1 H1 H2) (hs : ∀ a ∈ S1, a ∈ S \/ H a = none) : Mv S H H2 := by
 refine ⟨fun a o n h => ?_, fun a xs h => m2.tp a xs (m.tp a xs h), fun a h => m.dm a (m2.dm a h)⟩
 refine m2.kp a o (fun z => ?_) (m.kp a o n h)
 rcases hs a z with q | q
 . exact n q
 . rw [q] at h; cases h
theorem Mv.jw {S : List Addr} {H H1 H2 : Hp} (m : Mv S H H1) (s : ai H1 H2) : Mv S H H2 := m.trans s.mv
theorem Mv.at {S : List Addr} {H H' : Hp} {a : Addr} {o : HO} (m : Mv S H H') (n : a ∉ S) (h : H a = some o) : H' a = some o := m.kp a o n h
theorem Mv.none {S : List Addr} {H H' : Hp} {a : Addr} (m : Mv S H H') (h : H' a = none) : H a = none := m.dm a h
theorem ai.none {H H' : Hp} {a : Addr} (m : ai H H') (h : H' a = none) : H a = none := (m.mv (S := [])).dm a h
theorem Mv.dN {H : Hp} {p : Addr} {o u : HO} (h : H p = some u) (nt : ∀ xs, u ≠ .tup xs) : Mv [p] H (upd H p o) := ⟨fun a v n e => by
 rw [ag (fun z => n (by simp [z]))]; exact e, fun a xs e => by
 rw [ag (fun z => by subst z; rw [h] at e; exact nt xs (Option.some.inj e))]; exact e, fun a e => by
 by_cases z : a = p
 . subst z; rw [aj] at e; cases e
 . rw [ag z] at e; exact e⟩
mutual
theorem Dv.jO {H H' : Hp} (t : ∀ a xs, H a = some (.tup xs) -> H' a = some (.tup xs)) : ∀ {v : V} {d : PyData}, Dv H v d -> kA d = true -> Dv H' v d
 | _, _, .aO, _ => .aO
 | _, _, .bl b, _ => .bl b
 | _, _, .int i, _ => .int i
 | _, _, .str x, _ => .str x
 | _, _, .tup h r, c => .tup (t _ _ h) (bE.jO t r (by simpa [kA] using c))
 | _, _, .lst h r, c => by simp [kA] at c
 | _, _, .dct h r, c => by simp [kA] at c
theorem bE.jO {H H' : Hp} (t : ∀ a xs, H a = some (.tup xs) -> H' a = some (.tup xs)) : ∀ {v : List V} {d : List PyData}, bE H v d -> bo d = true -> bE H' v d
 | _, _, .nil, _ => .nil
 | _, _, .cons h r, c => by
   have c' := c
   simp only [bo, Bool.and_eq_true] at c'
   exact .cons (Dv.jO t h c'.1) (bE.jO t r c'.2)
end
theorem Mv.xO {S : List Addr} {H H' : Hp} {v : List V} {d : List PyData} (m : Mv S H H') (i : bo d = true) (h : bE H v d) : bE H' v d := h.jO m.tp i
def cj (H : Hp) (p : Addr) (ds : List PyData) : Prop := ∃ xs, H p = some (.lst xs) /\ bE H xs ds /\ bo ds = true
theorem cj.dv {H : Hp} {p : Addr} {ds : List PyData} (h : cj H p ds) : Dv H (.ref p) (.list ds) := let ⟨_, e, d, _⟩ := h; .lst (.of e) d
theorem cj.keeps {H H' : Hp} {p : Addr} {ds : List PyData} (s : ai H H') (h : cj H p ds) : cj H' p ds := let ⟨xs, e, d, i⟩ := h; ⟨xs, s _ _ e, d.keeps s, i⟩
theorem cj.mv {S : List Addr} {H H' : Hp} {p : Addr} {ds : List PyData} (m : Mv S H H') (n : p ∉ S) (h : cj H p ds) : cj H' p ds := let ⟨xs, e, d, i⟩ := h; ⟨xs, m.at n e, m.xO i d, i⟩
theorem om {H : Hp} {p : Addr} {xs : List V} {ds : List PyData} (hn : H p = none) (d : bE H xs ds) (i : bo ds = true) : cj (upd H p (.lst xs)) p ds := ⟨xs, aj, d.keeps (bY hn), i⟩
theorem ro {p q : Addr} (h : p ≠ q) : p ∉ [q] := by simpa using h
theorem small {n m : Nat} (h : n <= m) (hm : m <= 4000 := by decide) : n <= sizeLine := Nat.le_trans h (Nat.le_trans hm (by decide))
theorem cT {n : Nat} (h : n <= 4000) : n < sizeLine := Nat.lt_of_le_of_lt h (by decide)
section
variable {σ : St} {H : Hp} {Q : VK} {D : Ends} {K : PySem.W.Frag} {p : Addr} {ds : List PyData}
theorem DF {T : String} {r : V -> List V -> Hp -> VK -> Prop} {to : TE} {t : TA} (h : to σ H fun x H1 => yQ K T x H1 /\ t σ H1 fun xs H2 => r x xs H2 Q) : EK K T r to t σ H Q := h
theorem Ak {T : String} {r : V -> List V -> Hp -> VK -> Prop} {to : TE} (h : to σ H fun x H1 => yQ K T x H1 /\ r x [] H1 Q) : AW K T r to σ H Q := h
theorem zR {R : Prop} (hp : cj H p ds) (h : R) : yQ K "list" (.ref p) H /\ R := let ⟨xs, e, _, _⟩ := hp; ⟨.inl ⟨rfl, xs, c6.of e⟩, h⟩
theorem zt {y : V} {d : PyData} (hp : cj H p ds) (hl : ds.length <= 4000) (hy : Dv H y d) (hi : kA d = true) (h : ∀ H2, Mv [p] H H2 -> cj H2 p (ds ++ [d]) -> Q .aO H2) : oi (.ref p) [y] H Q := by
 obtain ⟨xs, e, dv, i⟩ := hp
 have m : Mv [p] H (upd H p (.lst (xs ++ [y]))) := .dN e (by intro _ z; cases z)
 refine ⟨p, xs, y, rfl, rfl, e, by rw [dv.length]; exact cT hl, h _ m ⟨_, aj, m.xO (gA i (by simp [bo, hi])) (dv.append (.cons hy .nil)), gA i (by simp [bo, hi])⟩⟩
theorem Bo (hp : cj H p ds) (h : ∀ H2, Mv [p] H H2 -> cj H2 p [] -> Q .aO H2) : qO (.ref p) [] H Q := by
 obtain ⟨xs, e, dv, i⟩ := hp
 have m : Mv [p] H (upd H p (.lst [])) := .dN e (by intro _ z; cases z)
 exact ⟨p, xs, rfl, rfl, e, h _ m ⟨_, aj, .nil, rfl⟩⟩
theorem wO {xs : List V} (hl : xs.length <= sizeLine) (hd : bE H xs ds) (hi : bo ds = true) (k : ∀ p H2, ai H H2 -> H p = none -> cj H2 p ds -> Q (.ref p) H2) : xY xs H Q :=
 ⟨hl, ds, hd, fun p H2 s n e d _ => k p H2 s n ⟨xs, e, d, hi⟩⟩
end
mutual
theorem Dv.fn {H : Hp} : ∀ {v : V} {d e : PyData}, Dv H v d -> Dv H v e -> kA d = true -> d = e
 | _, _, _, .aO, h, _ => by cases h; rfl
 | _, _, _, .bl b, h, _ => by cases h; rfl
 | _, _, _, .int i, h, _ => by cases h; rfl
 | _, _, _, .str x, h, _ => by cases h; rfl
 | _, _, _, .tup h r, h2, c => by
   cases h2 with
   | tup h' r' =>
     have c' := (by simpa [kA] using c : bo _ = true)
     rw [h] at h'
     cases h'
     rw [bE.fn r r' c']
   | lst h' r' =>
     rcases h' with h' | ⟨o, h'⟩ <;> rw [h] at h' <;> cases h'
   | dct h' r' => rw [h] at h'; cases h'
 | _, _, _, .lst h r, _, c => by simp [kA] at c
 | _, _, _, .dct h r, _, c => by simp [kA] at c
theorem bE.fn {H : Hp} : ∀ {v : List V} {d e : List PyData}, bE H v d -> bE H v e -> bo d = true -> d = e
 | _, _, _, .nil, h, _ => by cases h; rfl
 | _, _, _, .cons h r, h2, c => by
   have c' := c
   simp only [bo, Bool.and_eq_true] at c'
   cases h2 with
   | cons h' r' => rw [Dv.fn h h' c'.1, bE.fn r r' c'.2]
end
theorem Dv.lst_inv {H : Hp} {v : V} {ds : List PyData} (h : Dv H v (.list ds)) : ∃ a xs, v = .ref a /\ (∀ K : PySem.W.Frag, c6 K H a xs) /\ bE H xs ds := by
 cases h with
 | lst h r => exact ⟨_, _, rfl, fun _ => .inl h, r⟩
section
variable {σ : St} {H : Hp} {Q : VK} {D : Ends} {K : PySem.W.Frag} {p : Addr} {v : V} {ds : List PyData}
def y9 (te : TE) (N : Option V -> Hp -> Prop) (σ2 : St) (b : Bool) (H3 : Hp) : Prop := if b = true then te σ2 H3 (fun y H4 => N (some y) H4) else N none H3
theorem Aj {k : Nat} {tl : TE} {g : TG} {tc : TT} {te : TE} (h : tl σ H fun x H1 => ∃ a, x = .ref a /\ (∃ xs, c6 K H1 a xs) /\ BA k g tc te (qI Q) σ (tJ K a) H1) : BF k (sP K tl) g tc te σ H Q := h
theorem Dt {k : Nat} {g : TG} {tc : TT} {te : TE} {α : Type} {cs : List α} {gd : α -> PyData} (pf : α -> Bool) (fd : α -> PyData) (hl : Dv H v (.list (cs.map gd))) (hlen : cs.length <= 4000) (hi : ∀ c, kA (fd c) = true)
 (turn : ∀ x c H' (N : Option V -> Hp -> Prop), c ∈ cs -> ai H H' -> Dv H' x (gd c) -> (pf c = true -> ∀ y H4, ai H' H4 -> Dv H4 y (fd c) -> N (some y) H4) -> (pf c = false -> ∀ H3, ai H' H3 -> N none H3) ->
  g x (List.replicate k none ++ σ) H' fun σ2 H2 => tc σ2 H2 fun b H3 => y9 te N σ2 b H3)
 (kk : ∀ q H', ai H H' -> H q = none -> cj H' q ((cs.filter pf).map fd) -> Q (.ref q) H') : ∃ a, v = .ref a /\ (∃ xs, c6 K H a xs) /\ BA k g tc te (qI Q) σ (tJ K a) H := by
 obtain ⟨p, xs, rfl, e, dv⟩ := hl.lst_inv
 have B6 : c6 K H p xs := e K
 have D6 : xs.length = cs.length := by rw [dv.length, List.length_map]
 refine ⟨p, rfl, ⟨xs, B6⟩, fun i m acc H' => i <= cs.length /\ m = cs.length - i /\ ai H H' /\ bE H' acc (((cs.take i).filter pf).map fd), ⟨cs.length, Nat.zero_le _, rfl, ai.refl _, by simpa using bE.nil⟩, ?_⟩
 rintro i m acc H' ⟨FJ, hm, sm, cO⟩
 have r0 : c6 K H' p xs := ai.seq sm B6
 have Br : acc.length <= cs.length := by
  rw [cO.length, List.length_map]
  exact Nat.le_trans (List.length_filter_le _ _) (by rw [List.length_take]; omega)
 by_cases hc : i = cs.length
 . left
   refine ⟨⟨xs, r0, by omega⟩, fun q hq => ?_⟩
   rw [hc, List.take_length] at cO
   have iU : ai H (upd H' q (.lst acc)) := sm.trans (bY hq)
   exact kk q _ iU (sm.none hq) ⟨acc, aj, cO.keeps (bY hq), bU hi _⟩
 . right
   have g6 : i < cs.length := by omega
   have C5 : i < xs.length := by omega
   refine ⟨⟨xs, xs[i], r0, List.getElem?_eq_getElem C5⟩, cT (by omega), fun x H2 hy => ?_⟩
   obtain ⟨rfl, hy⟩ := hy
   have hx := hy xs r0
   have qA : cs[i]? = some cs[i] := List.getElem?_eq_getElem g6
   obtain ⟨x', lT, hd⟩ := dv.get (i := i) (d := gd cs[i]) (by rw [List.getElem?_map, qA]; rfl)
   rw [hx] at lT
   cases lT
   have rj : cs.take (i + 1) = cs.take i ++ [cs[i]] := by rw [List.take_add_one, qA]; rfl
   exact turn x cs[i] H2 (fun o H4 => match o with | some y => ∃ m', m' < m /\ i + 1 <= cs.length /\ m' = cs.length - (i + 1) /\ ai H H4 /\ bE H4 (acc ++ [y]) (((cs.take (i + 1)).filter pf).map fd) | none => ∃ m', m' < m /\ i + 1 <= cs.length /\ m' = cs.length - (i + 1) /\ ai H H4 /\ bE H4 acc (((cs.take (i + 1)).filter pf).map fd))
    (List.getElem_mem g6) sm (hd.keeps sm)
    (fun hp y H4 s4 d4 => ⟨cs.length - (i + 1), by omega, g6, rfl, sm.trans s4, by
     rw [rj, List.filter_append, List.map_append]
     simp only [List.filter_cons, hp, if_true, List.filter_nil, List.map_cons, List.map_nil]
     exact bE.append (cO.keeps s4) (.cons d4 .nil)⟩)
    (fun hp H3 s3 => ⟨cs.length - (i + 1), by omega, g6, rfl, sm.trans s3, by
     rw [rj, List.filter_append, List.map_append]
     simp only [List.filter_cons, hp, Bool.false_eq_true, if_false, List.filter_nil, List.map_nil, List.append_nil]
     exact cO.keeps s3⟩)
end
def ou (scope sc : Scope) (N M : List Str) : Bool :=
 (scope.kind == .function) && scope.names.all (fun y => y.2 != .cell) && scope.names.all (fun y => y.2 != .local || scope.names.lookup y.1 == some .local) &&
  scope.names.all (fun y => y.2 != .free || (sc.names.lookup y.1 == some .cell || sc.names.lookup y.1 == some .free)) && (M.length == N.length) &&
  (M.zip N).all fun p => (p.1 == p.2 && scope.names.lookup p.1 == some .free) || scope.names.lookup p.1 == none
theorem D4 {X : Cx} {T M : List Str} {scope : Scope} (sc : Scope) (N : List Str) (hs : X.env.scope = sc) (hN : X.N = N) (h : ou scope sc N M = true) : gU X T M scope := by
 unfold ou at h
 simp only [Bool.and_eq_true, List.all_eq_true, Bool.or_eq_true, bne_iff_ne, beq_iff_eq, ne_eq] at h
 obtain ⟨⟨⟨⟨⟨h1, h2⟩, h3⟩, h4⟩, h5⟩, h6⟩ := h
 refine ⟨h1, h2, fun y hy e => ?_, fun y hy e => ?_, by rw [hN]; exact h5, fun i x hx => ?_⟩
 . rcases h3 y hy with z | z
   . exact absurd e z
   . exact z
 . rw [hs]
   rcases h4 y hy with z | z
   . exact absurd e z
   . exact z
 . have hi : i < M.length := (List.getElem?_eq_some_iff.mp hx).1
   have E8 : i < N.length := by omega
   have hz : (M.zip N)[i]? = some (x, N[i]) := by
    rw [List.getElem?_zip_eq_some]
    exact ⟨hx, List.getElem?_eq_getElem E8⟩
   rcases h6 _ (List.mem_of_getElem? hz) with ⟨a, b⟩ | a
   . left
     refine ⟨?_, b⟩
     rw [hN, List.getElem?_eq_getElem E8]
     have a' : x = N[i] := a
     rw [a']
   . exact .inr a
section
variable {σ : St} {H : Hp} {Q : VK} {D : Ends} {K : PySem.W.Frag} {p : Addr} {v : V} {ds : List PyData}
theorem wN {z : Str} {i : Int} {c : Nat} (hl : z.length <= sizeLine) (hi : ko z.cps.toList i = some c) (h : Q (.str ⟨#[c]⟩) H) : lN K (.str z) (.int i) H Q := .inl (.inr ⟨z, i, c, rfl, rfl, hl, hi, h⟩)
def sS : R2 := fun x y H Q => ∃ i j, x = .str i /\ y = .str j /\ i.length + j.length <= sizeLine /\ Q (.str (i ++ j)) H
theorem i3 {X : Cx} : hX X (binaryOp .Add) sS := nr
theorem qE {i j : Str} (hl : i.length + j.length <= 4000) (h : Q (.str (i ++ j)) H) : sS (.str i) (.str j) H Q := ⟨i, j, rfl, rfl, small hl, h⟩
theorem uI (xs : List V) (i j : Nat) : o9 xs (some (i : Int)) (some (j : Int)) = (xs.drop i).take (j - i) := by
 unfold o9
 rw [HT.oG, HT.oG]
 by_cases h : i <= xs.length
 . rw [Nat.min_eq_left h]
   by_cases h2 : j <= xs.length
   . rw [Nat.min_eq_left h2]
   . rw [Nat.min_eq_right (by omega)]
     rw [List.take_of_length_le (by rw [List.length_drop]; omega), List.take_of_length_le (by rw [List.length_drop]; omega)]
 . rw [List.drop_of_length_le (show xs.length <= min i xs.length by omega), List.drop_of_length_le (show xs.length <= i by omega), List.take_nil, List.take_nil]
theorem Ci {te : TE} {tl th : TO} {r : V -> Option Int -> Option Int -> Hp -> VK -> Prop} (h : te σ H fun x H1 => tl σ H1 fun l H2 => th σ H2 fun u H3 => r x l u H3 Q) : E6 r te tl th σ H Q := h
theorem wD {t : TE} {R : Option Int -> Hp -> Prop} (h : t σ H fun x H1 => ∃ i, x = .int i /\ R (some i) H1) : vN t σ H R := h
theorem uN {i : Int} {R : Int -> Prop} (h : R i) : ∃ j, V.int i = .int j /\ R j := ⟨i, rfl, h⟩
theorem xV {ns : List Int} (i j : Nat) (hp : c6 K H p (ns.map V.int)) (k : ∀ q H', ai H H' -> H q = none -> cj H' q (((ns.drop i).take (j - i)).map PyData.int) -> Q (.ref q) H') : Ac K (.ref p) (some (i : Int)) (some (j : Int)) H Q := by
 refine ⟨p, _, rfl, hp, fun q hq => ?_⟩
 rw [uI, <- List.map_drop, <- List.map_take]
 exact k q _ (bY hq) hq ⟨_, aj, bE.ints _, bU (fun _ => rfl) _⟩
theorem mw {H : Hp} {x : Str} : ∀ {xs : List V} {ss : List Str}, bE H xs (ss.map PyData.str) -> xs.all gs = true /\ BK (.str x) xs = ss.contains x
 | _, [], .nil => ⟨rfl, rfl⟩
 | _, s :: ss, .cons h r => by
   cases h
   obtain ⟨a, b⟩ := mw (x := x) r
   refine ⟨by simpa [gs] using a, ?_⟩
   show (tW (.str s) (.str x) || BK (.str x) _) = _
   rw [b]
   show ((s == x) || ss.contains x) = _
   rw [List.contains_cons, show (s == x) = (x == s) from by rw [Bool.eq_iff_iff, beq_iff_eq, beq_iff_eq]; exact eq_comm]
theorem Aw {ss : List Str} {x : Str} (hp : Dv H v (.list (ss.map PyData.str))) (h : Q (.bl (ss.contains x)) H) : C8 K false (.str x) v H Q := by
 obtain ⟨p, xs, rfl, e, dv⟩ := hp.lst_inv
 obtain ⟨a, b⟩ := mw (x := x) dv
 refine ⟨p, xs, rfl, .inl (e K), rfl, a, ?_⟩
 rw [b]; exact h
end
end L2
namespace L2
theorem tm {H H1 H2 : Hp} (a : ∀ x, H1 x = none -> H x = none) (b : ∀ x, H2 x = none -> H1 x = none) : ∀ x, H2 x = none -> H x = none := fun x h => a x (b x h)
theorem wg {H H' : Hp} {p : PySem.Addr} (s : ∀ x, H' x = none -> H x = none) (h : H' p = none) : H p = none := s p h
theorem ai.Hk {H H' : Hp} (s : ai H H') : ∀ x, H' x = Option.none -> H x = Option.none := (s.mv (S := [])).dm
end L2
namespace L2
open PySem
theorem ti {α β : Type} [Inhabited α] {f : α -> β} {xs : List α} {i : Int} (h0 : 0 <= i) (h1 : i < xs.length) : ko (xs.map f) i = some (f (xs.getD i.toNat default)) := by
 obtain ⟨m, rfl⟩ := Int.eq_ofNat_of_zero_le h0
 have hm : m < xs.length := by omega
 refine gZ ?_
 rw [List.getElem?_map, List.getElem?_eq_getElem hm]
 simp [hm]
theorem wV {α : Type} {g : α -> PyData} {xs : List α} {K : PySem.W.Frag} {H : Hp} {Q : VK} {v : V} (hs : Dv H v (.list (xs.map g))) (h : Q (.int (xs.length : Nat)) H) : lH K [v] H Q := rK (.inr hs) (by rw [List.length_map]; exact h)
theorem tY {i : Nat} {v : V} {σ : St} {H : Hp} {R : St -> Hp -> Prop} (h : R (σ.set i (some v)) H) : iE i v σ H R := h
theorem Mv.zi {p : Addr} {H H1 H2 : Hp} (s : ai H H1) (m : Mv [p] H1 H2) (n : H p = Option.none) : ai H H2 := fun a o e => m.kp a o (ro (av e n)) (s a o e)
theorem Mv.sq {K : PySem.W.Frag} {S : List Addr} {H H' : Hp} {a : Addr} {xs : List V} (m : Mv S H H') (n : a ∉ S) (h : c6 K H a xs) : c6 K H' a xs := by
 rcases h with (h | ⟨o, h⟩) | h
 . exact .inl (.inl (m.at n h))
 . exact .inl (.inr ⟨o, m.at n h⟩)
 . exact .inr h
theorem sL {te : TE} {N : Option V -> Hp -> Prop} {σ2 : St} {b : Bool} {H3 : Hp} (h1 : b = true -> te σ2 H3 (fun y H4 => N (some y) H4)) (h2 : b = false -> N none H3) : y9 te N σ2 b H3 := by
 unfold y9
 cases b with
 | true => rw [if_pos rfl]; exact h1 rfl
 | false => rw [if_neg (by simp)]; exact h2 rfl
end L2
namespace L2
open PySem PySem.Spec PyProof.Rows
section
variable {X : Cx} {K : PySem.W.Frag} {a b e : Expr} {es : List Expr} {ta : TE} {pos : Pos}
theorem rS (h : X.K = K) : hX X (compareOp .In) (C8 K false) := by rw [<- h]; exact pP
theorem mY (h : X.K = K) : eB X (.builtin "len") (lH K) := by rw [<- h]; exact cN
end
end L2
namespace L2
open PySem PySem.Spec PyProof.Rows PySem.W
inductive ez (H : Hp) : List (Key × V) -> List (Str × PyData) -> Prop where
 | nil : ez H [] []
 | cons {k : Str} {v : V} {d : PyData} {kvs : List (Key × V)} {m : List (Str × PyData)} (h : Dv H v d) (i : kA d = true) (r : ez H kvs m) : ez H ((.inr k, v) :: kvs) ((k, d) :: m)
theorem ez.jO {H H' : Hp} (t : ∀ a xs, H a = some (.tup xs) -> H' a = some (.tup xs)) : ∀ {kvs : List (Key × V)} {m : List (Str × PyData)}, ez H kvs m -> ez H' kvs m
 | _, _, .nil => .nil
 | _, _, .cons h i r => .cons (h.jO t i) i (ez.jO t r)
theorem ez.length {H : Hp} : ∀ {kvs : List (Key × V)} {m : List (Str × PyData)}, ez H kvs m -> kvs.length = m.length
 | _, _, .nil => rfl
 | _, _, .cons _ _ r => by simp [ez.length r]
def c7 (m : List (Str × PyData)) (k : Str) : Option PyData := (m.find? fun kv => decide (kv.1 = k)).map (·.2)
def putD (m : List (Str × PyData)) (k : Str) (d : PyData) : List (Str × PyData) := if (m.any fun kv => decide (kv.1 = k)) = true then m.map (fun kv => if kv.1 = k then (kv.1, d) else kv) else m ++ [(k, d)]
theorem oI {a b : Str} : ((Sum.inr a : Key) = Sum.inr b) = (a = b) := propext ⟨fun h => Sum.inr.inj h, fun h => by rw [h]⟩
theorem ez.val {H : Hp} {k : Str} : ∀ {kvs : List (Key × V)} {m : List (Str × PyData)}, ez H kvs m -> (∀ d, c7 m k = some d -> ∃ v, gF kvs (.inr k) = some v /\ Dv H v d) /\ (c7 m k = none -> gF kvs (.inr k) = none)
 | _, _, .nil => ⟨fun d h => by simp [c7] at h, fun _ => rfl⟩
 | _, _, .cons (k := j) h i r => by
   obtain ⟨h1, h2⟩ := ez.val (k := k) r
   by_cases e : j = k
   . subst e
     refine ⟨fun d hd => ⟨_, fO rfl, ?_⟩, fun hd => by simp [c7] at hd⟩
     simp [c7] at hd
     subst hd; exact h
   . have e' : (Sum.inr j : Key) ≠ .inr k := fun z => e (Sum.inr.inj z)
     have el : ∀ (d : PyData) (m : List (Str × PyData)), c7 ((j, d) :: m) k = c7 m k := fun d m => by simp [c7, List.find?_cons, e]
     refine ⟨fun d hd => ?_, fun hd => ?_⟩
     . rw [el] at hd
       obtain ⟨v, hv, oU⟩ := h1 d hd
       exact ⟨v, by rw [eD e']; exact hv, oU⟩
     . rw [el] at hd
       rw [eD e']; exact h2 hd
theorem ez.any {H : Hp} {k : Str} : ∀ {kvs : List (Key × V)} {m : List (Str × PyData)}, ez H kvs m -> (kvs.any fun kv => decide (kv.1 = .inr k)) = m.any fun kv => decide (kv.1 = k)
 | _, _, .nil => rfl
 | _, _, .cons h i r => by
   simp only [List.any_cons, ez.any r, oI]
theorem ez.append {H : Hp} : ∀ {kvs A9 : List (Key × V)} {m m' : List (Str × PyData)}, ez H kvs m -> ez H A9 m' -> ez H (kvs ++ A9) (m ++ m')
 | _, _, _, _, .nil, s => s
 | _, _, _, _, .cons h i r, s => .cons h i (ez.append r s)
theorem ez.repl {H : Hp} {k : Str} {v : V} {d : PyData} (hv : Dv H v d) (hi : kA d = true) : ∀ {kvs : List (Key × V)} {m : List (Str × PyData)}, ez H kvs m -> ez H (kvs.map fun kv => if kv.1 = .inr k then (kv.1, v) else kv) (m.map fun kv => if kv.1 = k then (kv.1, d) else kv)
 | _, _, .nil => .nil
 | _, _, .cons (k := j) h i r => by
   rw [List.map_cons, List.map_cons]
   by_cases e : j = k
   . subst e
     rw [if_pos rfl, if_pos rfl]
     exact .cons hv hi (ez.repl hv hi r)
   . rw [if_neg (fun z => e (Sum.inr.inj z)), if_neg e]
     exact .cons h i (ez.repl hv hi r)
theorem ez.put {H : Hp} {k : Str} {v : V} {d : PyData} {kvs : List (Key × V)} {m : List (Str × PyData)} (r : ez H kvs m) (hv : Dv H v d) (hi : kA d = true) : ez H (putK kvs (.inr k) v) (putD m k d) := by
 unfold putK putD
 rw [r.any]
 by_cases h : (m.any fun kv => decide (kv.1 = k)) = true
 . rw [if_pos h, if_pos h]; exact r.repl hv hi
 . rw [if_neg h, if_neg h]; exact r.append (.cons hv hi .nil)
def eW (H : Hp) (p : Addr) (m : List (Str × PyData)) : Prop := ∃ kvs, H p = some (.dK kvs) /\ ez H kvs m
theorem eW.keeps {H H' : Hp} {p : Addr} {m : List (Str × PyData)} (s : ai H H') (h : eW H p m) : eW H' p m := let ⟨kvs, e, d⟩ := h; ⟨kvs, s _ _ e, d.jO fun a xs e => s _ _ e⟩
theorem eW.mv {S : List Addr} {H H' : Hp} {p : Addr} {m : List (Str × PyData)} (v : Mv S H H') (n : p ∉ S) (h : eW H p m) : eW H' p m := let ⟨kvs, e, d⟩ := h; ⟨kvs, v.at n e, d.jO v.tp⟩
theorem eW.ne {H : Hp} {p q : Addr} {m : List (Str × PyData)} (h : eW H p m) (hn : H q = none) : p ≠ q := let ⟨_, e, _⟩ := h; av e hn
theorem eW.qt {H : Hp} {p q : Addr} {m : List (Str × PyData)} {ds : List PyData} (h : eW H p m) (h2 : cj H q ds) : p ≠ q := let ⟨_, e, _⟩ := h; let ⟨_, e2, _, _⟩ := h2; dQ e e2 (by intro z; cases z)
section
variable {σ : St} {H : Hp} {Q : VK} {D : Ends} {K : PySem.W.Frag} {p : Addr} {m : List (Str × PyData)} {k : Str}
theorem w9 (h : ∀ p H2, ai H H2 -> H p = none -> eW H2 p [] -> Q (.ref p) H2) : rn σ H Q := fun p hp => h p _ (bY hp) hp ⟨[], aj, .nil⟩
theorem uP {td ty tv : TE} (h : tv σ H fun v H1 => td σ H1 fun x H2 => ty σ H2 fun y H3 => ∃ a H4, x = .ref a /\ k8 H3 a y v H4 /\ D.nx σ H4) : vB td ty tv D σ H := h
theorem xr {v : V} {d : PyData} {R : Hp -> Prop} (hp : eW H p m) (hl : m.length <= 4000) (hv : Dv H v d) (hi : kA d = true) (h : ∀ H2, Mv [p] H H2 -> eW H2 p (putD m k d) -> R H2) : ∃ a H4, V.ref p = .ref a /\ k8 H a (.str k) v H4 /\ R H4 := by
 obtain ⟨kvs, e, dk⟩ := hp
 have mv : Mv [p] H (upd H p (.dK (putK kvs (.inr k) v))) := .dN e (by intro _ z; cases z)
 exact ⟨p, _, rfl, k8.k (k := .inr k) e (by rw [dk.length]; exact cT hl), h _ mv ⟨_, aj, (dk.put hv hi).jO mv.tp⟩⟩
theorem u5 {td ty : TE} (h : td σ H fun x H1 => ty σ H1 fun y H2 => ∃ a v, x = .ref a /\ gm H2 a y (some v) /\ Q v H2) : vG td ty σ H Q := h
theorem yx {td ty : TE} (h : ty σ H fun y H1 => td σ H1 fun x H2 => ∃ a o, x = .ref a /\ gm H2 a y o /\ Q (.bl o.isSome) H2) : AV ty td σ H Q := h
theorem vk {td ty : TE} (h : ty σ H fun y H1 => td σ H1 fun x H2 => ∃ a o, x = .ref a /\ gm H2 a y o /\ Q (.bl (!o.isSome)) H2) : oR ty td σ H Q := h
def vC : List V -> Hp -> VK -> Prop := fun xs H Q => ∃ a kvs, xs = [V.ref a] /\ H a = some (.dK kvs) /\ Q (.int kvs.length) H
theorem nz {X : Cx} : eB X (.builtin "len") vC := pN
theorem um (hp : eW H p m) (h : Q (.int (m.length : Nat)) H) : vC [.ref p] H Q := by
 obtain ⟨kvs, e, dk⟩ := hp
 exact ⟨p, kvs, rfl, e, by rw [dk.length]; exact h⟩
end
end L2
namespace L2
theorem C4 {t : TE} {σ : St} {H : Hp} {Q : Bool -> Hp -> Prop} (h : t σ H fun x H' => ∃ k, x = .bl k /\ Q k H') : tB t σ H Q := h
end L2
namespace L2
open PySem
theorem z0 {Hb : Hp} {σ : St} {H : Hp} {D : Ends} {K : PySem.W.Frag} {v : V} {α : Type} {cs : List α} {gd : α -> PyData} {g : TG} {tb : TS} (hl : Dv Hb v (.list (cs.map gd))) (Pv : Nat -> St -> Hp -> Prop) (h0 : Pv 0 σ H) (hk : ∀ i σ H', i <= cs.length -> Pv i σ H' -> ∀ a xs, v = .ref a -> c6 K Hb a xs -> c6 K H' a xs)
 (hs : ∀ i c x σ H', cs[i]? = some c -> Pv i σ H' -> (kA (gd c) = true -> (∀ a xs, Hb a = some (.tup xs) -> H' a = some (.tup xs)) -> Dv H' x (gd c)) -> (ai Hb H' -> Dv H' x (gd c)) -> g x σ H' fun σ2 H2 => tb { D with nx := Pv (i + 1), ct := Pv (i + 1), bk := D.nx } σ2 H2) (hd : ∀ σ H', Pv cs.length σ H' -> D.nx σ H') : x8 K v g tb D σ H := by
 obtain ⟨p, xs, rfl, e, dv⟩ := hl.lst_inv
 have D6 : xs.length = cs.length := by rw [dv.length, List.length_map]
 refine forL (hk 0 σ H (Nat.zero_le _) h0 p xs rfl (e K)) Pv h0 (fun i σ H' hi hp => hk i σ H' (by omega) hp p xs rfl (e K)) (fun i x σ H' hx hp => ?_) (fun σ H' hp => hd σ H' (by rw [<- D6]; exact hp))
 have hi : i < cs.length := by have := (List.getElem?_eq_some_iff.mp hx).1; omega
 obtain ⟨x', lT, oU⟩ := dv.get (i := i) (d := gd cs[i]) (by rw [List.getElem?_map, List.getElem?_eq_getElem hi]; rfl)
 rw [hx] at lT
 cases lT
 exact hs i cs[i] x σ H' (List.getElem?_eq_getElem hi) hp (fun im t => oU.jO t im) (fun s => oU.keeps s)
end L2
namespace L2
open PySem PySem.Spec PyProof.Rows PySem.W
section
variable {X : Cx} {tg : Expr}
def Ap : List V -> Hp -> VK -> Prop := fun xs H Q => ∃ (v : V) (bs : List Bool), xs = [v] /\ Dv H v (.list (bs.map PyData.bool)) /\ Q (.bl (bs.any id)) H
theorem lU {H : Hp} : ∀ {xs : List V} {bs : List Bool} {us : List Value}, bE H xs (bs.map PyData.bool) -> Vals xs us -> us = bs.map Value.bool
 | _, [], _, .nil, .nil => rfl
 | _, b :: bs, _, .cons h r, .cons q t => by
   cases h
   cases q
   rw [lU r t]; rfl
theorem nu {H : Hp} {pins : List (Addr × Obj)} {σ : St} {s : Shared} {v : V} {u : Value} {bs : List Bool} {A : Around} {E : Value -> Shared -> Prop} {Q : (Nat -> Bool) -> Shared -> Prop} (hA : A.handled = none) (I : Inv X pins σ H s) (rv : RelV v u) (hd : Dv H v (.list (bs.map PyData.bool)))
 (fin : ∀ h' tk, Inv X pins σ H { s with heap := h', toks := tk } -> Q (fun i => bs.getD i false) { s with heap := h', toks := tk }) :
 wpAny (model X.prog X.w) A (pyIter u) (fun it s2 => ∃ J fp wr n P St tr, it = .ref J /\ Walks X.prog X.w A J fp wr n P St /\ St 0 s2.heap /\ TruthOf X.prog X.w A P tr /\ n = bs.length /\ (tr = fun i => bs.getD i false) /\
  ∀ h' tk, (∀ b o, b ∉ wr -> s2.heap.get? b = some o -> h'.get? b = some o) -> Q tr { s2 with heap := h', toks := tk }) E s := by
 obtain ⟨p, xs, rfl, e, dv⟩ := hd.lst_inv
 obtain ⟨aR, B8, pl, _⟩ := I.list (e X.K)
 have hits := lU dv B8
 have hu : u = .ref p := rv
 subst hu
 refine wpAny_pyIter_list pl.isList ?_
 have g6 : p < s.heap.objs.size := by obtain ⟨o, n, e1, _⟩ := pl; exact Heap.lt_size e1
 refine ⟨s.heap.objs.size, _, _, _, _, _, fun i => bs.getD i false, rfl, Walks.list hA _ p (Nat.ne_of_lt g6) aR.toArray, ⟨⟨_, Heap.get?_push_size _ rfl, rfl, rfl⟩, pl.isList.at fun o e => Heap.get?_push_of_some _ e⟩, ?_, ?_, rfl, fun h' tk kk => ?_⟩
 . intro i w' s3 Q3 E3 hP q
   subst hits
   have hi : (bs.map Value.bool)[i]? = some w' := by simpa using hP
   rw [List.getElem?_map] at hi
   cases hb : bs[i]? with
   | none => rw [hb] at hi; cases hi
   | some b =>
     rw [hb] at hi
     have : w' = .bool b := (Option.some.inj hi).symm
     subst this
     refine wpAny_truthy_bool ?_
     have : bs.getD i false = b := by simp [hb]
     have q' : Q3 (bs.getD i false) s3 := q
     rw [this] at q'
     exact q'
 . subst hits; simp
 . have I1 := I.kept (t' := s.toks) (h' := s.heap.push { cls := Value.type "list_iterator", data := Data.fields #[Value.ref p, Value.int 0 0] }) fun b o e => Heap.get?_push_of_some _ e
   have fp := I.k4 (H' := H) (Nat.le_refl _) (I.aH.fresh (Nat.le_refl _))
   have I2 := I1.turned (t' := tk) (h' := h') (it := s.heap.objs.size) (fun b o hb e => kk b o (by simpa using hb) e) fp.1 fp.2.1 fp.2.2.2.1 fp.2.2.2.2.1 fp.2.2.2.2.2
   exact fin h' tk I2
theorem range_any (bs : List Bool) : (List.range bs.length).any (fun i => bs.getD i false) = bs.any id := by
 rw [Bool.eq_iff_iff]
 simp only [List.any_eq_true, List.mem_range, id]
 constructor
 . rintro ⟨i, hi, e⟩
   simp [hi] at e
   exact ⟨_, List.getElem_mem hi, e⟩
 . rintro ⟨b, hb, e⟩
   obtain ⟨i, hi, e2⟩ := List.getElem_of_mem hb
   exact ⟨i, hi, by simp [hi, e2, e]⟩
theorem qi (hc : X.calm = true) : eB X (.builtin "any") Ap := by
 intro pins s σ H xs us Q I r h
 obtain ⟨v, bs, rfl, hd, q⟩ := h
 obtain ⟨u, rfl, ru⟩ := vals1 r
 refine call_any_walk (bH (nu (Q := fun g s' => EP X pins σ Q (.bool ((List.range bs.length).any g)) s') (show X.A.in1.handled = none from I.ok.hd hc) I ru hd (fun h' tk I' => ⟨.bl _, H, I', rfl, ?_⟩)) fun it s2 hq => ?_)
 . rw [range_any]; exact q
 . obtain ⟨J, fp, wr, n, P, St, tr, e1, W, st, tt, hn, Io, k⟩ := hq
   subst hn
   exact ⟨J, fp, wr, _, P, St, tr, e1, W, st, tt, k⟩
section
variable {σ : St} {H : Hp} {Q : VK} {D : Ends} {K : PySem.W.Frag}
theorem zI {v : V} {bs : List Bool} (hd : Dv H v (.list (bs.map PyData.bool))) (h : Q (.bl (bs.any id)) H) : Ap [v] H Q := ⟨v, bs, rfl, hd, h⟩
end
end
end L2
namespace L2
open PySem
section
variable {H : Hp} {Q : VK} {K : PySem.W.Frag}
end
end L2
namespace L2
open PySem PySem.Spec PyProof.Rows PySem.W
section
variable {X : Cx}
theorem oq {H : Hp} : ∀ {xs : List V} {ss : List Str} {us : List Value}, bE H xs (ss.map PyData.str) -> Vals xs us -> StrsAre us ss
 | _, [], _, .nil, .nil => .nil
 | _, b :: bs, _, .cons h r, .cons q t => by
   cases h
   obtain ⟨tk, rfl⟩ := q
   exact .cons _ _ (oq r t)
end
section
variable {σ : St} {H : Hp} {Q : VK} {D : Ends} {K : PySem.W.Frag} {p : Addr} {ds : List PyData}
end
end L2
namespace L2
open PySem PySem.Calls PyProof.Rows
section
variable {X : Cx} {e k : Expr} {te tk : TE} {pos p2 : Pos}
end
section
variable {X : Cx}
end
section
variable {K : PySem.W.Frag} {σ : St} {H : Hp} {Q : VK} {p : Addr} {ds : List PyData}
end
end L2
namespace L2
open PySem PySem.Spec PyProof.Rows PySem.W
section
variable {X : Cx}
def vD (ss : List Str) : Prop := ss.Pairwise fun a b => lZ b a = false
theorem hV : ∀ (r : List Str) (p : Str), risingS p r = true -> (∀ x ∈ r, lZ x p = false) /\ vD r
 | [], _, _ => ⟨fun x hx => (by cases hx), List.Pairwise.nil⟩
 | y :: r, p, h => by
   unfold risingS at h
   rw [Bool.and_eq_true] at h
   obtain ⟨h1, h2⟩ := h
   have qH : lZ y p = false := by
    have : ltCps y.cps.toList p.cps.toList = false := by simpa using h1
    rw [ltCps_eq] at this
    exact this
   obtain ⟨a, b⟩ := hV r y h2
   refine ⟨fun x hx => ?_, List.pairwise_cons.mpr ⟨a, b⟩⟩
   rcases List.mem_cons.mp hx with rfl | hx
   . exact qH
   . exact nT (a x hx) qH
theorem kZ {ss : List Str} (h : sortedS ss = true) : vD ss := by
 cases ss with
 | nil => exact List.Pairwise.nil
 | cons x r => obtain ⟨a, b⟩ := hV r x h; exact List.pairwise_cons.mpr ⟨a, b⟩
theorem kC : ∀ {xs ys : List Str}, xs.Perm ys -> vD xs -> vD ys -> xs = ys
 | [], _, hp, _, _ => List.Perm.nil_eq hp
 | x :: xs, [], hp, _, _ => by have := hp.length_eq; simp at this
 | x :: xs, y :: ys, hp, h1, h2 => by
   have hx := List.pairwise_cons.mp h1
   have hy := List.pairwise_cons.mp h2
   have yP : x = y := by
    have m1 : y ∈ x :: xs := hp.mem_iff.mpr List.mem_cons_self
    have m2 : x ∈ y :: ys := hp.mem_iff.mp List.mem_cons_self
    rcases List.mem_cons.mp m1 with e | CZ
    . exact e.symm
    rcases List.mem_cons.mp m2 with e | Dq
    . exact e
    exact oX (hy.1 x Dq) (hx.1 y CZ)
   subst yP
   rw [kC (List.Perm.cons_inv hp) hx.2 hy.2]
def rL : List V -> Hp -> VK -> Prop := fun xs H Q => ∃ (v : V) (ss : List Str), xs = [v] /\ Dv H v (.list (ss.map PyData.str)) /\ ss.length < 64 /\ ∀ (q : Addr) (H' : Hp) (sI : List Str), ai H H' -> H q = none -> sI.Perm ss -> vD sI -> cj H' q (sI.map PyData.str) -> Q (.ref q) H'
theorem kB : ∀ {us : List Value} {ss : List Str}, StrsAre us ss -> Vals (ss.map V.str) us
 | _, _, .nil => .nil
 | _, _, .cons _ t r => .cons ⟨t, rfl⟩ (kB r)
theorem i9 {H : Hp} : ∀ (ss : List Str), bE H (ss.map V.str) (ss.map PyData.str)
 | [] => .nil
 | x :: r => .cons (.str x) (i9 r)
theorem jL : eB X (.builtin "sorted") rL := by
 intro pins s σ H xs us Q I r h
 obtain ⟨v, ss, rfl, hd, hl, q⟩ := h
 obtain ⟨u, rfl, ru⟩ := vals1 r
 obtain ⟨p, ys, rfl, e, dv⟩ := hd.lst_inv
 obtain ⟨aR, B8, pl, _⟩ := I.list (e X.K)
 cases ru
 have hS := oq dv B8
 refine sorted_strs pl.isList hS (by rw [<- B8.length, dv.length, List.length_map]; exact hl) fun out sI h1 h2 h3 => ?_
 obtain ⟨ep, he⟩ := sortedAll_at s.heap aR out
 have hq : H (s.heap.objs.size + 1) = none := I.aH.fresh (Nat.le_succ _)
 refine ⟨.ref (s.heap.objs.size + 1), upd H (s.heap.objs.size + 1) (.lst (sI.map V.str)), I.laid (t' := s.toks) (fun b ob q => sortedAll_old q) (Nat.le_succ _) ?_, rfl, q _ _ sI (bY hq) hq h2 (kZ h3) (om hq (i9 sI) (bU (fun _ => rfl) _))⟩
 exact ⟨by rw [List.length_map, h2.length_eq]; exact Nat.le_of_lt (cT (by omega)), out.toList, ep, kB h1, by simpa [seqObj] using he⟩
end
section
variable {prog : Program} {w : World} {A : Around} {E : Value -> Shared -> Prop} {s : Shared} {it l : Addr} {aR : Array Value}
end
section
variable {X : Cx} {e : Expr} {te : TE} {p p2 pos CO : Pos}
end
section
variable {K : PySem.W.Frag} {σ : St} {H : Hp} {Q : VK} {p : Addr} {ds : List PyData} {v : V}
theorem tR {ss : List Str} (hp : Dv H v (.list (ss.map PyData.str))) (hl : ss.length < 64) (k : ∀ q H' sI, ai H H' -> H q = none -> sI.Perm ss -> vD sI -> cj H' q (sI.map PyData.str) -> Q (.ref q) H') : rL [v] H Q := ⟨v, ss, rfl, hp, hl, k⟩
end
section
variable {P : Program} {w : World} {H : Hp} {h : Heap} {d : Addr} {o : Obj} {kvs : List (Key × V)}
theorem e7.cg (ok : e7 P w H h) (hd : H d = some (.dK kvs)) (ho : h.get? d = some o) : e7 P w (upd H d (.cg o (.dK kvs))) h := by
 intro b u q
 by_cases hb : b = d
 . subst hb
   rw [aj] at q
   cases q
   exact ⟨ho, ok b _ hd⟩
 . rw [ag hb] at q
   refine (ok b u q).jA (fun c v _ r => r) (fun c r => ?_) fun c xs r => ?_
   . rw [ag (dQ r hd (by intro z; cases z))]; exact r
   . rw [ag (dQ r hd (by intro z; cases z))]; exact r
theorem e7.jR (ok : e7 P w H h) (hd : H d = some (.cg o (.dK kvs))) : e7 P w (upd H d (.dK kvs)) h := by
 intro b u q
 by_cases hb : b = d
 . subst hb
   rw [aj] at q
   cases q
   exact (ok b _ hd).2
 . rw [ag hb] at q
   refine (ok b u q).jA (fun c v _ r => r) (fun c r => ?_) fun c xs r => ?_
   . rw [ag (dQ r hd (by intro z; cases z))]; exact r
   . rw [ag (dQ r hd (by intro z; cases z))]; exact r
end
section
variable {X : Cx} {pins : List (Addr × Obj)} {σ : St} {H : Hp} {s : Shared} {d : Addr} {o : Obj} {kvs : List (Key × V)}
theorem Inv.freeze (I : Inv X pins σ H s) (hd : H d = some (.dK kvs)) (ho : s.heap.get? d = some o) : Inv X pins σ (upd H d (.cg o (.dK kvs))) s := by
 have u : Un X.fs [] H (upd H d (.cg o (.dK kvs))) s.heap s.heap := {
  keep := fun b u e n _ _ => e
  slot := fun b u e n _ _ => ⟨u.slots, e⟩
  free := fun b u e n _ => by rw [ag (Ne.symm (av hd n))]; exact n
  there := fun b u e _ => ⟨u, e⟩
  gT := fun b xs e => by rw [ag (dQ e hd (by intro z; cases z))]; exact e
  gf := fun b u v e => by rw [ag (dQ e hd (by intro z; cases z))]; exact e
  iy := fun b ps e => ⟨#[], by rw [ag (dQ e hd (by intro z; cases z)), e]; simp⟩ }
 exact I.un (h' := s.heap) (t' := s.toks) u (I.aH.cg hd ho)
theorem Inv.jR (I : Inv X pins σ H s) (hd : H d = some (.cg o (.dK kvs))) (h0 : ∀ u v, X.lR d ≠ some (.cg u v)) : Inv X pins σ (upd H d (.dK kvs)) s := by
 have nn : ∀ b, H b = none -> upd H d (.dK kvs) b = none := fun b n => by rw [ag (Ne.symm (av hd n))]; exact n
 refine ⟨I.ok, I.os, I.bare, ⟨I.base.keep, I.base.slot, fun b u e n x => nn b (I.base.free b u e n x), I.base.there, fun b xs e => ?_, fun b u v e => ?_, fun b ps e => ?_⟩, I.loc, I.cell, nn _ I.free, fun x c e => nn c (I.dP x c e), fun p hp => ?_, I.aH.jR hd, I.len⟩
 . have z := I.base.gT b xs e
   rw [ag (dQ z hd (by intro q; cases q))]; exact z
 . have z := I.base.gf b u v e
   have hb : b ≠ d := fun q => h0 u v (q ▸ e)
   rw [ag hb]; exact z
 . obtain ⟨m, z⟩ := I.base.iy b ps e
   exact ⟨m, by rw [ag (dQ z hd (by intro q; cases q))]; exact z⟩
 . obtain ⟨a1, a2, a3⟩ := I.pin p hp
   exact ⟨a1, nn _ a2, a3⟩
theorem Inv.vT (I : Inv X pins σ H s) (hd : H d = some (.dK kvs)) : ∀ u v, X.lR d ≠ some (.cg u v) := fun u v z => by
 have := I.base.gf d u v z
 rw [hd] at this
 cases this
def vV (t : TE) : TE := fun σ H Q => ∃ d kvs, H d = some (.dK kvs) /\ t σ H fun v H' => (∃ o, H' d = some (.cg o (.dK kvs))) /\ Q v (upd H' d (.dK kvs))
theorem ur {e : Expr} {t : TE} (h : PE X e t) : PE X e (vV t) := by
 intro pins s σ H Q I ⟨d, kvs, hd, ht⟩
 have h0 := I.vT hd
 exact bH (h pins s σ H _ I ht) fun v s1 ⟨x, H1, I1, r, ⟨o, ho⟩, q⟩ => ⟨x, _, I1.jR ho h0, r, q⟩
def nW (d : Addr) (kvs : List (Key × V)) (R : Hp -> Prop) : Hp -> Prop := fun H' => (∃ o, H' d = some (.cg o (.dK kvs))) /\ R (upd H' d (.dK kvs))
def lM (d : Addr) (kvs : List (Key × V)) (D : Ends) : Ends := { nx := fun z => nW d kvs (D.nx z), rt := fun z => nW d kvs (D.rt z), bk := fun z => nW d kvs (D.bk z), ct := fun z => nW d kvs (D.ct z) }
def su (t : TS) : TS := fun D σ H => ∃ d kvs, H d = some (.dK kvs) /\ t (lM d kvs D) σ H
theorem o3 {st : Stmt} {t : TS} (h : PS X st t) : PS X st (su t) := by
 intro pins s σ H D I ⟨d, kvs, hd, ht⟩
 have h0 := I.vT hd
 refine bH (h pins s σ H _ I ht) fun f s1 q => ?_
 cases f with
 | next => obtain ⟨σ', H', I1, ⟨o, ho⟩, q⟩ := q; exact ⟨σ', _, I1.jR ho h0, q⟩
 | brk => obtain ⟨σ', H', I1, ⟨o, ho⟩, q⟩ := q; exact ⟨σ', _, I1.jR ho h0, q⟩
 | cont => obtain ⟨σ', H', I1, ⟨o, ho⟩, q⟩ := q; exact ⟨σ', _, I1.jR ho h0, q⟩
 | ret u => obtain ⟨v, σ', H', I1, r, ⟨o, ho⟩, q⟩ := q; exact ⟨v, σ', _, I1.jR ho h0, r, q⟩
end
def yW (d : Addr) (o : Obj) (kvs : List (Key × V)) : It := ⟨fun i H => i < kvs.length /\ H d = some (.cg o (.dK kvs)), fun i H v H' => H' = H /\ ∃ kv, kvs[i]? = some kv /\ v = kV kv.1, fun i H => i = kvs.length /\ H d = some (.cg o (.dK kvs))⟩
theorem oW {P : Program} {w : World} {H : Hp} {h : Heap} {d : Addr} {o : Obj} {kvs : List (Key × V)} {es : Array DictEntry} {ep : Nat} (ok : e7 P w H h) (hd : H d = some (.cg o (.dK kvs))) (he : o.data = .dict es ep) : (d == sysModules) = false /\ ∃ vs, KV kvs vs /\ h.DictAt (aL P w) d vs ep := by
 obtain ⟨ho, _, hs, vs, kv, o2, Iy, IE, a1, a2, a3, a4⟩ := ok d _ hd
 rw [ho] at a1
 cases a1
 rw [he] at a3
 cases a3
 exact ⟨hs, vs, kv, _, _, ho, a2, he, a4⟩
theorem jJ {α β : Type} {F : α -> β -> Prop} : ∀ {xs : List α} {ys : List β}, Paired F xs ys -> ∀ {i : Nat} {x : α}, xs[i]? = some x -> ∃ y, ys[i]? = some y /\ F x y
 | _, _, .nil, i, x, h => by simp at h
 | _, _, .cons r t, 0, x, h => by
   have e := Option.some.inj h
   exact ⟨_, rfl, e ▸ r⟩
 | _, _, .cons r t, i + 1, x, h => by
   obtain ⟨y, e, q⟩ := jJ t (i := i) (by simpa using h)
   exact ⟨y, by simpa using e, q⟩
theorem lO {k : Key} {v : Value} (h : jK k v = true) : RelV (kV k) v := by
 rcases aZ h with ⟨i, t, rfl, rfl⟩ | ⟨x, t, rfl, rfl⟩
 . exact ⟨t, rfl⟩
 . exact ⟨t, rfl⟩
theorem kq {P : Program} {w : World} {K : PySem.W.Frag} {tg : Expr} {it d : Addr} {o : Obj} {kvs : List (Key × V)} {es : Array DictEntry} {ep : Nat} (he : o.data = .dict es ep) (qw : d ≠ it) :
 Turn P w K tg (yW d o kvs) [it] it (fun i h => h.IsKeyIter it d i kvs.length ep) where
 mem := by simp
 obj := fun i h st b hb => by
  have e : b = it := by simpa using hb
  subst e
  obtain ⟨o, e, c, d⟩ := st
  exact ⟨o, e, fun v z => by rw [d] at z; cases z⟩
 keep := fun i h h' st k => let ⟨o, e, r⟩ := st; ⟨o, k it (by simp) o e, r⟩
 item := by
  intro X hP hw hK hc i pins s σ H E I hf st hg
  subst hP hw hK
  obtain ⟨f0, f1, f2, f3, f4, f5⟩ := hf it (by simp)
  obtain ⟨hi, hd⟩ := hg
  obtain ⟨_, vs, kv, da⟩ := oW I.aH hd he
  have hl : vs.length = kvs.length := kv.length.symm
  refine (Walks.dictKeys (knd := aL X.prog X.w) (I.ok.hd hc) it d qw vs ep).item i s _ _ (by rw [hl]; exact hi) ⟨by rw [hl]; exact st, da⟩ fun v h' tk hv qy kk => ?_
  obtain ⟨k, x, hx, hk⟩ := hv
  have I1 : Inv X pins σ H { s with heap := h', toks := tk } := I.turned (fun b u hb e => kk b u (by simpa using hb) e) f0 f1 f3 f4 f5
  have EY : h'.IsKeyIter it d (i + 1) kvs.length ep := by rw [<- hl]; exact qy.1
  obtain ⟨o1, e1, c1, d1⟩ := id EY
  refine ⟨_, rfl, qR (s := { s with heap := h', toks := tk }) e1 c1 d1 (by decide) ⟨kV k, H, I1, lO hk, ⟨rfl, ?_⟩, EY, fun b hb => (hf b hb).1⟩⟩
  obtain ⟨q, hq⟩ : ∃ q, kvs[i]? = some q := ⟨_, List.getElem?_eq_getElem hi⟩
  obtain ⟨y, hy, BU⟩ := jJ kv hq
  rw [hx] at hy
  cases hy
  exact ⟨q, hq, by rw [BU.1]⟩
 done := by
  intro X hP hw hK hc i pins s σ H E I hf st hg
  subst hP hw hK
  obtain ⟨f0, f1, f2, f3, f4, f5⟩ := hf it (by simp)
  obtain ⟨hi, hd⟩ := hg
  obtain ⟨_, vs, kv, da⟩ := oW I.aH hd he
  have hl : vs.length = kvs.length := kv.length.symm
  subst hi
  refine (Walks.dictKeys (knd := aL X.prog X.w) (I.ok.hd hc) it d qw vs ep).done s _ _ ⟨by rw [hl]; exact st, da⟩ fun h' tk kk => ⟨rfl, I.turned (fun b u hb e => kk b u (by simpa using hb) e) f0 f1 f3 f4 f5⟩
 self := fun A i s Q E st q => wpAny_pyIter_keyiter st q
def tG (tl : TE) : TI := fun σ H R => tl σ H fun v H1 => ∃ d kvs, v = .ref d /\ H1 d = some (.dK kvs) /\ ∀ o, R (yW d o kvs) (upd H1 d (.cg o (.dK kvs)))
theorem lb {X : Cx} {tg l : Expr} {tl : TE} (hl : PE X l tl) : PI X tg l (tG tl) := by
 intro pins s σ H R I h
 refine bH (hl pins s σ H _ I h) fun v s1 ⟨y, H1, I1, r1, q1⟩ => ?_
 obtain ⟨d, kvs, rfl, hd, q⟩ := q1
 cases r1
 obtain ⟨_, hs, vs, kv, o, es, ep, ho, a2, a3, a4⟩ := (show bh X.prog X.w H1 s1.heap d (.dK kvs) from I1.aH d _ hd)
 have da : s1.heap.DictAt (aL X.prog X.w) d vs ep := ⟨o, es, ho, a2, a3, a4⟩
 refine wpAny_pyIter_dict hs da ?_
 have I2 := I1.freeze hd ho
 have g6 : d < s1.heap.objs.size := Heap.lt_size ho
 have hlen : vs.length = kvs.length := kv.length.symm
 refine ⟨s1.heap.objs.size, [s1.heap.objs.size], _, _, _, rfl, I2.kept (t' := s1.toks) fun b u e => Heap.get?_push_of_some _ e, kq a3 (Nat.ne_of_lt g6), ⟨_, Heap.get?_push_size _ rfl, rfl, by rw [hlen]; rfl⟩, fun b hb => ?_, q o⟩
 have e : b = s1.heap.objs.size := by simpa using hb
 subst e
 exact I2.k4 (Nat.le_refl _) (I2.aH.fresh (Nat.le_refl _))
def jQ (H : Hp) (p : Addr) (m : List (Str × PyData)) : Prop := ∃ kvs, Rd H p (.dK kvs) /\ ez H kvs m
theorem eW.rd {H : Hp} {p : Addr} {m : List (Str × PyData)} (h : eW H p m) : jQ H p m := let ⟨kvs, e, d⟩ := h; ⟨kvs, .inl e, d⟩
theorem jQ.keeps {H H' : Hp} {p : Addr} {m : List (Str × PyData)} (s : ai H H') (h : jQ H p m) : jQ H' p m := by
 obtain ⟨kvs, r, d⟩ := h
 refine ⟨kvs, ?_, d.jO fun a xs e => s _ _ e⟩
 rcases r with r | ⟨o, r⟩
 . exact .inl (s _ _ r)
 . exact .inr ⟨o, s _ _ r⟩
theorem jQ.mv {S : List Addr} {H H' : Hp} {p : Addr} {m : List (Str × PyData)} (v : Mv S H H') (n : p ∉ S) (h : jQ H p m) : jQ H' p m := by
 obtain ⟨kvs, r, d⟩ := h
 refine ⟨kvs, ?_, d.jO v.tp⟩
 rcases r with r | ⟨o, r⟩
 . exact .inl (v.at n r)
 . exact .inr ⟨o, v.at n r⟩
theorem ez.uo {H : Hp} : ∀ {kvs : List (Key × V)} {m : List (Str × PyData)}, ez H kvs m -> ∀ {i : Nat} {kv : Key × V}, kvs[i]? = some kv -> ∃ k d, m[i]? = some (k, d) /\ kv.1 = .inr k /\ Dv H kv.2 d
 | _, _, .nil, i, kv, h => by simp at h
 | _, _, .cons (k := k) (d := d) hv _ r, 0, kv, h => by
   have e := (Option.some.inj h).symm
   subst e
   exact ⟨k, d, rfl, rfl, hv⟩
 | _, _, .cons _ _ r, i + 1, kv, h => by
   obtain ⟨k, d, e, q⟩ := ez.uo r (i := i) (by simpa using h)
   exact ⟨k, d, by simpa using e, q⟩
section
variable {σ : St} {H : Hp} {Q : VK} {K : PySem.W.Frag} {p : Addr} {m : List (Str × PyData)} {k : Str}
theorem kP {d : PyData} {R : V -> Prop} (hp : jQ H p m) (hk : c7 m k = some d) (h : lC H d fun v _ => R v) : ∃ a v, V.ref p = .ref a /\ gm H a (.str k) (some v) /\ R v := by
 obtain ⟨kvs, e, dk⟩ := hp
 obtain ⟨v, hv, hd⟩ := (dk.val (k := k)).1 d hk
 exact ⟨p, v, rfl, .inl ⟨kvs, .inr k, e, rfl, hv.symm⟩, h.use hd⟩
theorem yB {R : Option V -> Prop} (hp : jQ H p m) (h : ∀ o : Option V, o.isSome = (c7 m k).isSome -> R o) : ∃ a o, V.ref p = .ref a /\ gm H a (.str k) o /\ R o := by
 obtain ⟨kvs, e, dk⟩ := hp
 refine ⟨p, gF kvs (.inr k), rfl, .inl ⟨kvs, .inr k, e, rfl, rfl⟩, h _ ?_⟩
 obtain ⟨h1, h2⟩ := dk.val (k := k)
 cases hl : c7 m k with
 | none => rw [h2 hl]; rfl
 | some d => obtain ⟨v, hv, _⟩ := h1 d hl; rw [hv]; rfl
theorem zu {n : Nat} {tl : TE} {g : TG} {tc : TT} {te : TE} (hp : eW H p m) (zG : ∀ R : V -> Hp -> Prop, R (.ref p) H -> tl σ H R) (pf : Str -> Bool) (fd : Str -> PyData) (hlen : m.length <= 4000) (hi : ∀ c, kA (fd c) = true)
 (turn : ∀ c Hf H' (N : Option V -> Hp -> Prop), c ∈ m.map (·.1) -> Mv [p] H Hf -> jQ Hf p m -> ai Hf H' -> (pf c = true -> ∀ y H4, ai H' H4 -> Dv H4 y (fd c) -> N (some y) H4) -> (pf c = false -> ∀ H3, ai H' H3 -> N none H3) ->
  g (.str c) (List.replicate n none ++ σ) H' fun σ2 H2 => tc σ2 H2 fun b H3 => y9 te N σ2 b H3)
 (kk : ∀ q H', ai H H' -> H q = none -> cj H' q (((m.map (·.1)).filter pf).map fd) -> Q (.ref q) H') : vV (BF n (tG tl) g tc te) σ H Q := by
 obtain ⟨kvs, e, dk⟩ := hp
 refine ⟨p, kvs, e, zG _ ⟨p, kvs, rfl, e, fun o => ?_⟩⟩
 have mv : Mv [p] H (upd H p (.cg o (.dK kvs))) := .dN e (by intro _ z; cases z)
 have rd : jQ (upd H p (.cg o (.dK kvs))) p m := ⟨kvs, .inr ⟨o, aj⟩, dk.jO mv.tp⟩
 have hl : kvs.length = m.length := dk.length
 refine ⟨fun i j acc H' => i <= m.length /\ j = m.length - i /\ ai (upd H p (.cg o (.dK kvs))) H' /\ bE H' acc ((((m.map (·.1)).take i).filter pf).map fd), ⟨m.length, Nat.zero_le _, rfl, ai.refl _, by simpa using bE.nil⟩, ?_⟩
 rintro i j acc H' ⟨FJ, rfl, sm, cO⟩
 have kh : H' p = some (.cg o (.dK kvs)) := sm _ _ aj
 have Br : acc.length <= m.length := by
  rw [cO.length, List.length_map]
  refine Nat.le_trans (List.length_filter_le _ _) ?_
  rw [List.length_take, List.length_map]
  omega
 by_cases hc : i = m.length
 . left
   refine ⟨⟨by omega, kh⟩, fun q hq => ?_⟩
   have Ef : p ≠ q := av kh hq
   have tk : (m.map (·.1)).take i = m.map (·.1) := List.take_of_length_le (by rw [List.length_map]; omega)
   rw [tk] at cO
   have ups : upd (upd H' q (.lst acc)) p (.dK kvs) q = some (.lst acc) := by rw [ag (Ne.symm Ef), aj]
   refine ⟨⟨o, by rw [ag Ef]; exact kh⟩, kk q _ (fun a u z => ?_) ?_ ⟨acc, ups, cO.jO (fun a xs z => ?_) (bU hi _), bU hi _⟩⟩
   . by_cases ha : a = p
     . subst ha; rw [e] at z; cases z; exact aj
     . have z1 : H' a = some u := sm _ _ (by rw [ag ha]; exact z)
       rw [ag ha, ag (av z1 hq)]; exact z1
   . cases hz : H q with
     | none => rfl
     | some u =>
       have : H' q = some u := sm _ _ (by rw [ag (Ne.symm Ef)]; exact hz)
       rw [hq] at this; cases this
   . rw [ag (dQ z kh (by intro y; cases y)), ag (av z hq)]; exact z
 . right
   have g6 : i < m.length := by omega
   refine ⟨⟨by omega, kh⟩, cT (by omega), fun x H2 hy => ?_⟩
   obtain ⟨rfl, kv, zj, rfl⟩ := hy
   obtain ⟨c, d, hm, zq, _⟩ := dk.uo zj
   have qA : (m.map (·.1))[i]? = some c := by rw [List.getElem?_map, hm]; rfl
   have rj : (m.map (·.1)).take (i + 1) = (m.map (·.1)).take i ++ [c] := by rw [List.take_add_one, qA]; rfl
   rw [show kV kv.1 = .str c by rw [zq]; rfl]
   refine turn c _ H2 (fun r H4 => match r with | some y => ∃ j', j' < m.length - i /\ i + 1 <= m.length /\ j' = m.length - (i + 1) /\ ai (upd H p (.cg o (.dK kvs))) H4 /\ bE H4 (acc ++ [y]) ((((m.map (·.1)).take (i + 1)).filter pf).map fd) | none => ∃ j', j' < m.length - i /\ i + 1 <= m.length /\ j' = m.length - (i + 1) /\ ai (upd H p (.cg o (.dK kvs))) H4 /\ bE H4 acc ((((m.map (·.1)).take (i + 1)).filter pf).map fd))
    (List.mem_of_getElem? qA) mv rd sm (fun hb y H4 s4 d4 => ⟨m.length - (i + 1), by omega, g6, rfl, sm.trans s4, ?_⟩) (fun hb H3 s3 => ⟨m.length - (i + 1), by omega, g6, rfl, sm.trans s3, ?_⟩)
   . rw [rj, List.filter_append, List.map_append]
     simp only [List.filter_cons, hb, if_true, List.filter_nil, List.map_cons, List.map_nil]
     exact bE.append (cO.keeps s4) (.cons d4 .nil)
   . rw [rj, List.filter_append, List.map_append]
     simp only [List.filter_cons, hb, Bool.false_eq_true, if_false, List.filter_nil, List.map_nil, List.append_nil]
     exact cO.keeps s3
end
section
variable {X : Cx}
def gQ (i : Str) (n : Int) : Str := if n < 1 then Str.empty else if (n == 1 || i.length == 0) = true then i else ⟨(List.replicate n.toNat i.cps).foldl (· ++ ·) #[]⟩
def sD : R2 := fun x y H Q => ∃ i n, x = .str i /\ y = .int n /\ 0 <= n /\ n <= 10 /\ i.length <= 10 /\ (gQ i n).length <= 4000 /\ Q (.str (gQ i n)) H
theorem oB : hX X (binaryOp .Mult) sD := by
 intro pins s σ H x y v u Q I rx ry h
 obtain ⟨i, n, rfl, rfl, h0, h1, hl, hm, q⟩ := h
 obtain ⟨t, rfl⟩ := rx
 obtain ⟨t', rfl⟩ := ry
 have pT : ((i.length : Nat) : Int) <= 10 := by omega
 refine PySem.P.mul_str (by simp; omega) (fun a _ => ?_) (fun a _ => ?_) ?_
 . have c : n = 1 \/ n = 2 \/ n = 3 \/ n = 4 \/ n = 5 \/ n = 6 \/ n = 7 \/ n = 8 \/ n = 9 \/ n = 10 := by omega
   rcases c with rfl | rfl | rfl | rfl | rfl | rfl | rfl | rfl | rfl | rfl <;> omega
 . have : i.length * n.toNat <= 10 * 10 := Nat.mul_le_mul hl (by omega)
   exact decide_eq_false (Nat.not_lt.mpr (Nat.le_trans this (Nat.le_of_lt (cT (by decide)))))
 . unfold gQ at hm q
   split
   . rename_i c
     rw [if_pos c] at hm q
     exact ⟨Nat.le_of_lt (cT hm), .str _, H, I.tok _, ⟨_, rfl⟩, q⟩
   . rename_i c
     rw [if_neg c] at hm q
     split
     . rename_i c2
       rw [if_pos c2] at hm q
       exact ⟨.str _, H, I, ⟨_, rfl⟩, q⟩
     . rename_i c2
       rw [if_neg c2] at hm q
       exact ⟨Nat.le_of_lt (cT hm), .str _, H, I.tok _, ⟨_, rfl⟩, q⟩
end
section
variable {σ : St} {H : Hp} {Q : VK} {K : PySem.W.Frag} {p : Addr} {m : List (Str × PyData)} {k : Str}
theorem ya {i : Str} {n : Int} (h0 : 0 <= n) (h1 : n <= 10) (hl : i.length <= 10) (hm : (gQ i n).length <= 4000) (h : Q (.str (gQ i n)) H) : sD (.str i) (.int n) H Q := ⟨i, n, rfl, rfl, h0, h1, hl, hm, h⟩
end
section
variable {σ : St} {H : Hp} {Q : VK} {K : PySem.W.Frag} {p : Addr}
end
section
variable {X : Cx}
end
theorem nI {h : Heap} {o u : Obj} {b : Addr} (e : (h.push o).get? b = some u) (n : b ≠ h.objs.size) : h.get? b = some u := by
 obtain ⟨e1, e2⟩ := Heap.get?_some_iff.mp e
 refine Heap.get?_some_iff.mpr ⟨?_, e2⟩
 cases h
 simpa [Heap.push, Array.getElem?_push, n] using e1
section
variable {prog : Program} {w : World} {K : Type} [DecidableEq K] {knd : KeyKind prog w K} {A : Around} {E : Value -> Shared -> Prop} {s : Shared} {d : Addr} {kvs : List (K × Value)} {ep : Nat}
theorem qC {R : Result -> Shared -> Prop} (hh : A.handled = none) (hd : (d == sysModules) = false) (y : Addr) (c0 : Nat) (hz : kvs.length <= sizeLine) (hm : s.heap.DictAt knd d kvs ep)
 (hy : s.heap.get? y = some { cls := .type "list", data := .seq #[] c0 }) (DS : y ≠ d)
 (hR : ∀ s' acc c, s'.gens = s.gens -> s'.drawn = s.drawn -> s'.os = s.os -> (∀ b o, b ≠ y -> s.heap.get? b = some o -> s'.heap.get? b = some o) -> s'.heap.get? y = some { cls := .type "list", data := .seq acc c } -> ItemsOf (fun i v => ∃ k x, kvs[i]? = some (k, x) /\ knd.is k v = true) acc kvs.length -> R (.ok (.ret .none)) s') :
 wpAny (model prog w) A.in1 (Builtin.List.listExtendWith (.ref y) (.ref d) .none)
  (fun f s' => match f with | .done g => R (.ok g) s' | .again c => c.quiet = true /\ codeAny (model prog w) A c R s') (fun e s' => R (.error e) s') s := by
 have hT : s.TypeIs (.ref d) "dict" := hm.dictOf.typeIs
 have Fl : y < s.heap.objs.size := Heap.lt_size hy
 have Bu : d < s.heap.objs.size := hm.lt_size
 have W := (Walks.dictKeys (knd := knd) (A := A.in1) hh s.heap.objs.size d (Nat.ne_of_lt Bu) kvs ep).toS
 have nf : y ∉ [s.heap.objs.size, d] := by simp [DS, Nat.ne_of_lt Fl]
 unfold Builtin.List.listExtendWith
 refine wpAny_bind (wpAny_typeOf hT ?_)
 have a1 : Builtin.List.listSameRef (.ref y) (.ref d) = false := by simp [Builtin.List.listSameRef, DS]
 have a2 : (Value.type "dict" == Value.type "list") = false := by decide
 have a3 : (Value.type "dict" == Value.type "tuple") = false := by decide
 simp only [a1, a2, a3, Bool.or_self, Bool.false_eq_true, if_false]
 refine wpAny_bind (wpAny_pyIter_dict hd hm ?_)
 refine wpAny_bind (wpAny_holding ?_)
 have DY : Shared.TypeIs { s with heap := s.heap.push { cls := .type "dict_keyiterator", data := .fields #[.ref d, .int 0 0, .int kvs.length 0, .int ep 0] } } (.ref d) "dict" := by
  obtain ⟨o, es, e, c, _⟩ := id hm
  exact ⟨o, Heap.get?_push_of_some _ e, c.1⟩
 unfold Builtin.List.listLengthHint
 refine wpAny_bind (wpAny_specialOf DY F.slot_dict_len.lookup ?_)
 generalize Fm : ("dict.__len__" : String) = Ht
 wp_delta
 rw [show splitId Ht = some ("dict", "__len__") from by subst Fm; decide +kernel]
 subst Fm
 refine wpAny_bind (wpAny_isInstance (T := "dict") (b := true) DY (by rw [isSubtype_type]; kernel_rfl) ?_)
 refine wpAny_ite_split (fun yY => absurd yY (by decide)) (fun _ => ?_)
 refine wpAny_ite_split (fun _ => ?_) (fun yY => absurd (by decide +kernel) yY)
 refine wpAny_bind (wpAny_typeOf DY (wpAny_pure ?_))
 show wpAny _ A.in1 (rule "list.extend.makes-room" >>= fun _ => Builtin.List.listTouch (.ref y) >>= fun _ =>
  again (.builtin "list.extend.loop" ⟨[.ref y, .ref s.heap.objs.size, .none], []⟩)) _ _ _
 refine wpAny_bind (wpAny_rule ?_)
 have Et := Heap.get?_push_of_some { cls := .type "dict_keyiterator", data := .fields #[.ref d, .int 0 0, .int kvs.length 0, .int ep 0] } hy
 refine wpAny_bind ?_
 show wpAny _ A.in1 (updateSeq y (·.push .none) >>= fun _ => updateSeq y (·.pop)) _ _ _
 refine wpAny_bind (wpAny_updateSeq Et rfl ?_)
 have BU := Heap.get?_update_self (Obj.mapSeq (·.push Value.none)) Et rfl
 refine wpAny_updateSeq (hz := by seq_fits) BU rfl ?_
 have FY := Heap.get?_update_self (Obj.mapSeq (·.pop)) BU rfl
 have ot : ∀ b o, b ≠ y -> (s.heap.push { cls := .type "dict_keyiterator", data := .fields #[.ref d, .int 0 0, .int kvs.length 0, .int ep 0] }).get? b = some o -> (((s.heap.push { cls := .type "dict_keyiterator", data := .fields #[.ref d, .int 0 0, .int kvs.length 0, .int ep 0] }).update y (Obj.mapSeq (·.push Value.none))).update y (Obj.mapSeq (·.pop))).get? b = some o :=
  fun b o hb e => (Heap.get?_update_other _ _ (Ne.symm hb)).trans ((Heap.get?_update_other _ _ (Ne.symm hb)).trans e)
 have He : Heap.IsKeyIter (s.heap.push { cls := .type "dict_keyiterator", data := .fields #[.ref d, .int 0 0, .int kvs.length 0, .int ep 0] }) s.heap.objs.size d 0 kvs.length ep := ⟨_, Heap.get?_push_size _ rfl, rfl, rfl⟩
 refine wpAny_pure ⟨plainId_quiet F.plain_extend_loop _, codeAny_extend_loopS W hz _ nf _ kvs.length 0 _ _ _ rfl (Nat.zero_le _) ⟨He.at fun o e => ot _ o (Ne.symm (Nat.ne_of_lt Fl)) e, (hm.push _).at' fun o e => ot _ o (Ne.symm DS) e⟩ FY (ItemsOf.nil _) fun s' acc c B2 hs cO => ?_⟩
 refine hR s' acc c B2.gens B2.drawn B2.os (fun b o hb e => B2.heap b o ?_ (ot b o hb (Heap.get?_push_of_some _ e))) hs cO
 simp [hb, Nat.ne_of_lt (Heap.lt_size e)]
theorem jo {Q : Value -> Shared -> Prop} (hh : A.handled = none) (hd : (d == sysModules) = false) (hz : kvs.length <= sizeLine) (hm : s.heap.DictAt knd d kvs ep)
 (hQ : ∀ s' acc c, s'.gens = s.gens -> s'.drawn = s.drawn -> s'.os = s.os -> (∀ b o, s.heap.get? b = some o -> s'.heap.get? b = some o) -> s'.heap.get? s.heap.objs.size = some { cls := .type "list", data := .seq acc c } -> ItemsOf (fun i v => ∃ k x, kvs[i]? = some (k, x) /\ knd.is k v = true) acc kvs.length -> Q (.ref s.heap.objs.size) s') :
 wpAny (model prog w) A (call (.type "list") [.ref d]) Q E s := by
 have Bu : d < s.heap.objs.size := hm.lt_size
 refine callType_codes (Q₁ := fun u s1 => u = .ref s.heap.objs.size /\ s1 = { s with heap := s.heap.push { cls := .type "list", data := .seq #[] } }) F.called_list (F.typeCall_list_1 _) F.entry_list_init (code_list_new _ ⟨rfl, rfl⟩) fun u s1 hu => ?_
 obtain ⟨rfl, rfl⟩ := hu
 have h0 : (s.heap.push { cls := .type "list", data := .seq #[] }).get? s.heap.objs.size = some { cls := .type "list", data := .seq #[] } := Heap.get?_push_size _ rfl
 refine ⟨⟨_, h0, rfl⟩, F.args_list_init_2 _ _, ?_⟩
 show wpAny _ _ (Builtin.List.listItems (.ref s.heap.objs.size) >>= fun old => Builtin.List.listUpdate (.ref s.heap.objs.size) (fun _ => #[]) >>= fun _ => letGo old.toList.reverse >>= fun _ => Builtin.List.listExtendWith (.ref s.heap.objs.size) (.ref d) .none) _ _ _
 refine wpAny_bind ?_
 unfold Builtin.List.listItems
 refine wpAny_bind (wpAny_seqItems h0 rfl (wpAny_pure (wpAny_bind ?_)))
 refine wpAny_updateSeq h0 rfl (wpAny_bind (wpAny_letGo ?_))
 have h2 := Heap.get?_update_self (Obj.mapSeq (fun _ => (#[] : Array Value))) h0 rfl
 have ot : ∀ b o, b ≠ s.heap.objs.size -> s.heap.get? b = some o -> ((s.heap.push { cls := .type "list", data := .seq #[] }).update s.heap.objs.size (Obj.mapSeq (fun _ => (#[] : Array Value)))).get? b = some o := fun b o hb e => by
  rw [Heap.get?_update_other _ _ (Ne.symm hb)]
  exact Heap.get?_push_of_some _ e
 refine qC (A := A.in1) hh hd _ _ hz (hm.at' fun o e => ot d o (Nat.ne_of_lt Bu) e) h2 (Ne.symm (Nat.ne_of_lt Bu)) fun s' acc c e1 e2 e3 Hn hs cO => ?_
 exact ⟨rfl, hQ s' acc c e1 e2 e3 (fun b o e => Hn b o (Nat.ne_of_lt (Heap.lt_size e)) (ot b o (Nat.ne_of_lt (Heap.lt_size e)) e)) hs cO⟩
end
section
variable {X : Cx}
def mU : List V -> Hp -> VK -> Prop := fun xs H Q => ∃ p kvs, xs = [.ref p] /\ Rd H p (.dK kvs) /\ ∀ q, H q = none -> Q (.ref q) (upd H q (.lst (kvs.map fun kv => kV kv.1)))
theorem jq {P : Program} {w : World} {kvs : List (Key × V)} {vs : List (Key × Value)} {acc : Array Value} (kv : KV kvs vs) (h : ItemsOf (fun i v => ∃ k x, vs[i]? = some (k, x) /\ (aL P w).is k v = true) acc vs.length) : Vals (kvs.map fun kv => kV kv.1) acc.toList := by
 obtain ⟨h0, h1⟩ := h
 have key : ∀ (kvs : List (Key × V)) (vs : List (Key × Value)), KV kvs vs -> ∀ l : List Value, l.length = vs.length -> (∀ (i : Nat) (v : Value), l[i]? = some v -> ∃ k x, vs[i]? = some (k, x) /\ (aL P w).is k v = true) -> Vals (kvs.map fun kv => kV kv.1) l := by
  intro kvs vs r
  induction r with
  | nil =>
    intro l hl _
    cases l with
    | nil => exact .nil
    | cons => simp at hl
  | cons r t ih =>
    intro l hl hi
    cases l with
    | nil => simp at hl
    | cons v l =>
      refine .cons ?_ (ih l (by simpa using hl) fun i v e => ?_)
      . obtain ⟨k, x, e, hk⟩ := hi 0 v rfl
        have e' := Option.some.inj e
        dsimp only
        rw [r.1, e']
        exact lO hk
      . exact hi (i + 1) v (by simpa using e)
 exact key kvs vs kv acc.toList (by simpa using h0) fun i v e => h1 i v (by simpa using e)
theorem nK (hc : X.calm = true) : eB X (.type "list") mU := by
 intro pins s σ H xs us Q I rv h
 obtain ⟨p, kvs, rfl, hH, q⟩ := h
 obtain ⟨u, rfl, ru⟩ := rv.one
 cases ru
 have ob : bh X.prog X.w H s.heap p (.dK kvs) := by
  rcases hH with e | ⟨o, e⟩
  . exact I.aH p _ e
  . exact (I.aH p _ e).2
 obtain ⟨hz, hs, vs, kv, Dk⟩ := ob
 obtain ⟨ep, da⟩ := Dk.dictAt
 have hlen : vs.length = kvs.length := kv.length.symm
 refine jo (I.ok.hd hc) hs (by rw [hlen]; exact hz) da fun s' acc c eg ed eo hk pG cO => ?_
 obtain ⟨h', g', d', Gy, Ek⟩ := s'
 have eg : g' = s.gens := eg
 have ed : d' = s.drawn := ed
 have eo : Ek = s.os := eo
 subst eg; subst ed; subst eo
 refine ⟨.ref s.heap.objs.size, _, I.laid (t' := Gy) (o := .lst (kvs.map fun kv => kV kv.1)) (fun b ob e => hk b ob e) (Nat.le_refl _) ?_, rfl, q _ (I.aH.fresh (Nat.le_refl _))⟩
 exact ⟨by rw [List.length_map]; exact hz, acc.toList, c, jq kv cO, by simpa using pG⟩
end
section
variable {σ : St} {H : Hp} {Q : VK} {p : Addr} {m : List (Str × PyData)}
theorem ez.keys {H H' : Hp} : ∀ {kvs : List (Key × V)} {m : List (Str × PyData)}, ez H kvs m -> bE H' (kvs.map fun kv => kV kv.1) ((m.map (·.1)).map PyData.str)
 | _, _, .nil => .nil
 | _, _, .cons _ _ r => .cons (.str _) (ez.keys r)
theorem fN : ∀ ss : List Str, bo (ss.map PyData.str) = true
 | [] => rfl
 | _ :: r => by rw [List.map_cons, bo, fN r]; rfl
theorem uZ (hp : jQ H p m) (k : ∀ q H', ai H H' -> H q = none -> cj H' q ((m.map (·.1)).map PyData.str) -> Q (.ref q) H') : mU [.ref p] H Q := by
 obtain ⟨kvs, e, dk⟩ := hp
 exact ⟨p, kvs, rfl, e, fun q hq => k q _ (bY hq) hq (om hq dk.keys (fN _))⟩
end
section
variable {σ : St} {H : Hp} {D : Ends} {p : Addr} {m : List (Str × PyData)} {g : TG} {tb : TS}
theorem Mv.jR {S : List Addr} {H H' : Hp} {p : Addr} {o : Obj} {kvs : List (Key × V)} (hp : p ∉ S) (e : H p = some (.dK kvs)) (m : Mv S (upd H p (.cg o (.dK kvs))) H') : Mv S H (upd H' p (.dK kvs)) := by
 have hf : H' p = some (.cg o (.dK kvs)) := m.at hp aj
 refine ⟨fun b u n hb => ?_, fun b xs hb => ?_, fun b hb => ?_⟩
 . by_cases z : b = p
   . subst z; rw [e] at hb; cases hb; exact aj
   . rw [ag z]; exact m.at n (by rw [ag z]; exact hb)
 . have z : b ≠ p := dQ hb e (by intro y; cases y)
   rw [ag z]; exact m.tp b xs (by rw [ag z]; exact hb)
 . by_cases z : b = p
   . subst z; rw [aj] at hb; cases hb
   . rw [ag z] at hb
     have := m.dm b hb
     rw [ag z] at this; exact this
end
section
variable {σ : St} {H : Hp} {K : PySem.W.Frag}
theorem xk {x : V} {i j : Nat} {d1 d2 : PyData} {R : St -> Hp -> Prop} (hd : Dv H x (.tuple [d1, d2])) (h : ∀ v1 v2, Dv H v1 d1 -> Dv H v2 d2 -> R ((σ.set i (some v1)).set j (some v2)) H) :
 zZ K 2 (sN (iE i) (sN (iE j) Bg)) x σ H R := by
 cases hd with
 | tup ha r =>
   cases r with
   | cons h1 r =>
     cases r with
     | cons h2 r =>
       cases r
       exact ⟨_, _, rfl, .of ha, rfl, _, _, rfl, _, _, rfl, rfl, h _ _ h1 h2⟩
end
end L2
namespace L2
open PySem
def Gj (xs : Array Nat) : Prop := ∀ i j, (hi : i < xs.size) -> (hj : j < xs.size) -> i < j -> xs[i] < xs[j]
structure Good (t : SetTable) : Prop where
 up : Gj t.place
 nd : t.dummies = #[]
section
variable {prog : Program} {w : World} {A : Around} {E : Value -> Shared -> Prop} {s : Shared}
end
section
variable {prog : Program} {w : World} {A : Around} {E : Value -> Shared -> Prop} {s : Shared}
end
set_option maxRecDepth 100000
section
variable {prog : Program} {w : World} {A : Around} {E : Value -> Shared -> Prop} {s : Shared} {it a : Addr} {o : Obj} {es : Array (Int × Value)} {ep : Nat} {t : SetTable}
end
section
variable {prog : Program} {w : World} {A : Around} {E : Value -> Shared -> Prop} {s : Shared} {it a : Addr} {o : Obj} {es : Array (Int × Value)} {ep : Nat} {t : SetTable}
end
section
variable {prog : Program} {w : World} {A : Around} {E : Value -> Shared -> Prop} {s : Shared} {it a : Addr} {o : Obj} {es : Array (Int × Value)} {ep : Nat} {t : SetTable}
end
end L2
namespace L2
open PySem PySem.Spec PyProof.Rows
section
variable {prog : Program} {w : World} {A : Around} {R : Result -> Shared -> Prop} {it y : Addr} {fp wr : List Addr} {G : Array GenState -> Array GenState -> Prop} {n : Nat} {Pv : Nat -> Value -> Prop} {St : Nat -> Shared -> Prop}
end
section
variable {prog : Program} {w : World} {A : Around} {E : Value -> Shared -> Prop} {s : Shared}
set_option maxRecDepth 100000 in
set_option maxHeartbeats 3200000 in
end
section
variable {prog : Program} {w : World} {A : Around} {E : Value -> Shared -> Prop} {s : Shared} {a : Addr} {S : Int -> Bool} {n : Nat}
end
end L2
namespace L2
open PySem PySem.Spec PyProof.Rows PySem.W
section
variable {X : Cx} {e : Expr} {te : TE} {p p2 pos CO : Pos}
end
section
variable {σ : St} {H : Hp} {Q : VK} {v : V}
end
section
variable {X : Cx}
end
section
variable {σ : St} {H : Hp} {Q : VK} {K : PySem.W.Frag} {p : Addr} {m : List (Str × PyData)}
end
def Tr (h : Heap) (a T : Addr) (c : Value) : Prop := ∃ oe vs oT ts, h.get? a = some oe /\ oe.cls = c /\ oe.dict = none /\ oe.data = .fields vs /\ vs[1]? = some (.ref T) /\ T ≠ a /\ h.get? T = some oT /\ oT.data = .fields ts /\ ts[3]? = some .none /\ vs[2]? = some .none
structure Lv (l : List Env) (S : List Addr) (h h' : Heap) : Prop where
 keep : ∀ b o, b ∉ mq l -> b ∉ S -> h.get? b = some o -> h'.get? b = some o
 slot : ∀ b o, b ∈ mq l -> h.get? b = some o -> ∃ sl, h'.get? b = some { o with slots := sl }
section
variable {M : Model} {A : Around} {E : Value -> Shared -> Prop} {s : Shared} {env : Env} {outer : List Env} {L a T : Addr} {c : Value} {base : Heap} {Q : Unit -> Shared -> Prop}
end
def GX (P : Program) (w : World) : lY := fun outer H s E e s' => ∃ a T C H', e = .ref a /\ s'.os = s.os /\ AllBare s'.gens /\ Un (mq outer) [] H H' s.heap s'.heap /\ e7 P w H' s'.heap /\ Tr s'.heap a T (.ref C) /\ s.heap.get? a = none /\ s.heap.get? T = none /\ H' a = none /\ H' T = none /\ E (.ref C) none H'
section
variable {P : Program} {w : World} {K : PySem.W.Frag} {mg : Str -> Option Value} {base : Heap} {N : List Str} {qual : Str} {scope : Scope} {f : Addr} {cd : Value} {A : Around} {outer : List Env} {s0 : Shared} {H0 : Hp} {E : XK} {CX : lY} {pins : List (Addr × Obj)} {σ : St} {H : Hp} {s : Shared}
end
section
variable {K : PySem.W.Frag} {h : Heap} {C : Addr} {yS : List Value} {newId : String}
def wF (h : Heap) (C : Addr) (yS : List Value) (newId : String) : Prop := ∃ (bm : List Value) (N : Addr) (nm q : Str) (bs : List Value) (hd : Bool) (sn : List Str) (sub : List Value) (ab : Bool) (col : Option Bool) (dd : Option Addr) (k0 k1 k2 k3 k5 : Option Value) (mN : Str -> Option Value),
 h.get? C = some (excClassObj nm q C N bs bm hd sn sub ab col dd k0 k1 k2 k3 k5 newId) /\ h.Ns N mN /\ mN "__init__" = none /\ OwnTail h yS bm
theorem xH (X : K.In h) (q : excIn K C yS newId = true) : wF h C yS newId := by
 unfold excIn at q
 split at q
 . rename_i dd cd sl ho
   split at q
   . rename_i C' bm k0 k1 k2 k3 n k5 hm hs
     simp only [Bool.and_eq_true, beq_iff_eq, Bool.not_eq_true'] at q
     obtain ⟨⟨⟨⟨⟨rfl, rfl⟩, Ag⟩, ht⟩, aH⟩, EB⟩ := q
     obtain ⟨nm, bs, mro, ns, qn, hd, sn, sub, ab, col, del⟩ := cd
     dsimp only at hm Ag aH EB
     subst hm Ag
     obtain ⟨l⟩ := sl
     dsimp only at hs
     subst hs
     exact ⟨bm, ns, nm, qn, bs, hd, sn, sub, ab, col, dd, k0, k1, k2, k3, k5, _, X _ _ ho, .of_isNs (isNs_of_in X aH), nsMap_none_of_in X aH EB, tail_of_in X ht⟩
   . cases q
 . cases q
end
abbrev DK : List Value := [.type "ValueError", .type "Exception", .type "BaseException", .type "object"]
def wx (K : PySem.W.Frag) (C : Addr) : Prop := excIn K C DK "ValueError.__new__" = true
section
variable {X : Cx} {pins : List (Addr × Obj)} {σ : St} {H : Hp} {s : Shared}
abbrev Cx.hand (X : Cx) (a : Addr) : Cx := { X with A := X.A.mark (some (.ref a)), calm := false, xe := fun _ _ => False }
end
section
variable {M : Model} {A : Around} {E : Value -> Shared -> Prop}
end
structure GK (K : PySem.W.Frag) (C : Addr) : Prop where
 ga : PySem.W.findIn K (.ref C) "__getattribute__" = some (some (.builtin "BaseException.__getattribute__"))
 gn : PySem.W.findIn K (.ref C) "__getattr__" = some none
 mb : PySem.W.mroIn K C (.type "BaseException") = some true
 hd : PySem.W.hasDictIn K C = true
 ty : AB K C
section
variable {X : Cx}
end
section
variable {P : Program} {w : World} {K : PySem.W.Frag} {mg : Str -> Option Value} {base : Heap}
structure HB (P : Program) (w : World) (K : PySem.W.Frag) (mg : Str -> Option Value) (base : Heap) (k : Nat) (f : Addr) (ps : List Str) (bP : List V) (sp : Sp) : Prop where
 ex : ∃ (fd : FuncData) (ds : List Value), bS P w K mg base (GX P w) k f fd ps sp /\ Binds K fd ps ds /\ Vals bP ds
end
section
variable {X : Cx} {k : Nat} {f : Addr} {ps : List Str} {sp : Sp} {bP : List V} {E : XK} {x : Str} {p pos : Pos} {e : Expr} {es : List Expr} {t : TA}
end
section
variable {σ : St} {H : Hp} {Q : VK} {D : Ends} {K : PySem.W.Frag} {E : XK} {C : Addr} {ta : TA}
end
section
variable {X : Cx}
end
section
variable {σ : St} {H : Hp} {Q : VK} {D : Ends} {K : PySem.W.Frag}
end
section
variable {X : Cx} {k : Nat} {f C : Addr} {ps : List Str} {sp : Sp} {bP : List V} {E : XK} {x m : Str} {p pos apos : Pos} {e : Expr} {es : List Expr} {t : TA}
end
section
variable {prog : Program} {w : World} {A : Around} {E : Value -> Shared -> Prop} {s : Shared}
end
section
variable {σ : St} {H : Hp} {Q : VK} {D : Ends}
end
section
variable {X : Cx} {pins : List (Addr × Obj)} {σ : St} {H : Hp} {s : Shared} {h' : Heap}
theorem Inv.ug {t' : Nat} {i1 i2 : Addr} (I : Inv X pins σ H s) (k : ∀ b o, b ≠ i1 -> b ≠ i2 -> s.heap.get? b = some o -> h'.get? b = some o) (f1 : cZ X pins H i1) (f2 : cZ X pins H i2) : Inv X pins σ H { s with heap := h', toks := t' } := by
 have wM : ∀ b u, H b = some u -> b ≠ i1 /\ b ≠ i2 := fun b u e => ⟨fun z => (by rw [z, f1.1] at e; cases e), fun z => (by rw [z, f2.1] at e; cases e)⟩
 have nc : ∀ {b : Addr}, b ∉ [i1, i2] -> b ≠ i1 /\ b ≠ i2 := fun {b} h => by simpa using h
 refine I.step (g' := s.gens) (d' := s.drawn) (ch := [i1, i2]) (fun b hb => ?_) (fun b o _ _ hc e _ => k b o (nc hc).1 (nc hc).2 e) (fun b o _ _ hc e _ => ⟨o.slots, k b o (nc hc).1 (nc hc).2 e⟩) (fun _ _ _ _ n => n)
  (fun b o hc e => ⟨o, k b o (nc hc).1 (nc hc).2 e⟩) (fun _ _ e => e) (fun _ _ _ e => e) (fun b ps e => ⟨#[], by rw [e]; simp⟩) (fun m hm => ?_) (fun b u e => ?_) I.bare
 . have e : b = i1 \/ b = i2 := by simpa using hb
   rcases e with rfl | rfl
   . exact ⟨f1.2.2.2.1, f1.2.1, f1.2.2.2.2.1, f1.2.2.2.2.2⟩
   . exact ⟨f2.2.2.2.1, f2.2.1, f2.2.2.2.2.1, f2.2.2.2.2.2⟩
 . obtain ⟨o, es, ep, ho, r⟩ := hm
   exact ⟨o, es, ep, k _ o (Ne.symm f1.2.1) (Ne.symm f2.2.1) ho, r⟩
 . refine (I.aH b u e).jA (fun c v hc q => k c v ?_ ?_ q) (fun _ q => q) fun _ _ q => q
   . rcases hc with z | z
     . rw [z]; exact (wM b u e).1
     . exact (wM c _ z).1
   . rcases hc with z | z
     . rw [z]; exact (wM b u e).2
     . exact (wM c _ z).2
end
theorem fC : entryFor table "enumerate.__iter__" = some Builtin.«dict_keyiterator.__iter__» :=
 entryFor_alias (id' := "dict_keyiterator.__iter__") (by kernel_rfl) rfl (by decide +kernel) (by kernel_rfl)
def zC (K : PySem.W.Frag) (a : Addr) : It := ⟨fun i H => ∃ xs x, c6 K H a xs /\ xs[i]? = some x, fun i H v H' => ∃ t x, (∀ xs, c6 K H a xs -> xs[i]? = some x) /\ v = .ref t /\ H t = none /\ H' = upd H t (.tup [.int i, x]), fun i H => ∃ xs, c6 K H a xs /\ xs.length <= i⟩
theorem px {P : Program} {w : World} {K : PySem.W.Frag} {elts : List Expr} {x1} {pos : Pos} {e it a : Addr} (qw : e ≠ it) :
 Turn P w K (.Tuple elts x1 pos) (zC K a) [e, it] e (fun i h => (∃ old, IsEnum h e it (i : Nat) old) /\ h.IsListIter it a i) where
 mem := by simp
 obj := fun i h st b hb => by
  have e' : b = e \/ b = it := by simpa using hb
  obtain ⟨⟨old, q⟩, o, e1, c, d⟩ := st
  rcases e' with rfl | rfl
  . exact ⟨_, q, fun v z => by cases z⟩
  . exact ⟨o, e1, fun v z => by rw [d] at z; cases z⟩
 keep := fun i h h' st k => ⟨let ⟨old, q⟩ := st.1; ⟨old, k e (by simp) _ q⟩, st.2.at fun o q => k it (by simp) o q⟩
 item := by
  intro X hP hw hK hc i pins s σ H E I hf st hg
  subst hP hw hK
  have fe := hf e (by simp)
  have fi := hf it (by simp)
  obtain ⟨xs, x, hq, hx⟩ := hg
  obtain ⟨aR, rv, p, hz⟩ := I.list hq
  obtain ⟨u, hu, ru⟩ := rv.get hx
  obtain ⟨⟨old, he⟩, hit⟩ := st
  have G2 : e < s.heap.objs.size := Heap.lt_size he
  have BX : it < s.heap.objs.size := by obtain ⟨o, ho, _⟩ := id hit; exact Heap.lt_size ho
  have hn : H s.heap.objs.size = none := I.aH.fresh (Nat.le_refl _)
  refine wpAny_pyNext_enum_item he hit p.isList (x := u) (by simpa using hu) qw fun h' vQ Cy ht HR kk => ?_
  refine ⟨_, rfl, wpAny_letOwnedTupleGo_enum (s := { s with heap := h', toks := s.toks + 1 }) vQ fun h2 F8 sb => ?_⟩
  replace sb : Heap.SameBut e h' h2 := sb
  let tb : Obj := { cls := .type "tuple", data := .seq #[.int i s.toks, u] }
  have I1 : Inv X pins σ (upd H s.heap.objs.size (.tup [.int i, x])) { s with heap := s.heap.push tb } :=
   I.laid (t' := s.toks) (fun b u e => Heap.get?_push_of_some _ e) (Nat.le_refl _) (show bh X.prog X.w _ _ _ (.tup [.int i, x]) from ⟨by rw [sizeLine_eq]; simp, [.int i s.toks, u], .cons ⟨_, rfl⟩ (.cons ru .nil), IsTup.new _ _⟩)
  have zh : upd H s.heap.objs.size (.tup [.int i, x]) e = none := by rw [ag (Nat.ne_of_lt G2)]; exact fe.1
  have A4 : upd H s.heap.objs.size (.tup [.int i, x]) it = none := by rw [ag (Nat.ne_of_lt BX)]; exact fi.1
  have I2 : Inv X pins σ (upd H s.heap.objs.size (.tup [.int i, x])) { s with heap := h2, toks := s.toks + 1 } := by
   refine Inv.ug (s := { s with heap := s.heap.push tb }) (h' := h2) (t' := s.toks + 1) (i1 := e) (i2 := it) I1 (fun b u' zg lu q => ?_) ⟨zh, fe.2⟩ ⟨A4, fi.2⟩
   by_cases Fn : b = s.heap.objs.size
   . subst Fn
     have e0 : (s.heap.push tb).get? s.heap.objs.size = some tb := Heap.get?_push_size _ rfl
     have e1 := e0.symm.trans q
     cases e1
     exact (sb.2 _ zg).trans ht
   . exact (sb.2 _ zg).trans (kk b u' zg lu (nI q Fn))
  refine ⟨.ref s.heap.objs.size, _, I2, rfl, ⟨_, x, fun ys hy => by rw [I.lK hy hq]; exact hx, rfl, hn, rfl⟩, ⟨⟨_, F8⟩, Cy.at fun o q => (sb.2 it (Ne.symm qw)).trans q⟩, fun b hb => ?_⟩
  have e' : b = e \/ b = it := by simpa using hb
  rcases e' with rfl | rfl
  . exact zh
  . exact A4
 done := by
  intro X hP hw hK hc i pins s σ H E I hf st hg
  subst hP hw hK
  obtain ⟨f0, f1, f2, f3, f4, f5⟩ := hf it (by simp)
  obtain ⟨xs, hq, hx⟩ := hg
  obtain ⟨aR, rv, p, hz⟩ := I.list hq
  have hl := rv.length
  obtain ⟨⟨old, he⟩, hit⟩ := st
  exact wpAny_pyNext_enum_end (I.ok.hd hc) he hit p.isList (by simp; omega) fun h' eb => ⟨rfl, I.turned (t' := s.toks) (fun b o hb e => eb b o hb e) f0 f1 f3 f4 f5⟩
 self := fun A i s Q E st q => by
  obtain ⟨⟨old, he⟩, hit⟩ := st
  have hT : s.TypeIs (.ref e) "enumerate" := ⟨_, he, rfl⟩
  refine wpAny_pyIter_slot hT F.slot_enumerate_iter (wpAny_call_entry F.slot_enumerate_iter hT fC ?_ (F.args_enumerate_iter_1 _))
  show wpAny _ _ (ret (.ref e)) _ _ s
  exact wpAny_pure ⟨_, rfl, "enumerate", _, hT, F.slot_enumerate_next.lookup, q⟩
def vW (K : PySem.W.Frag) (ta : TA) : TI := fun σ H R => ta σ H fun vs H1 => ∃ a, vs = [.ref a] /\ (∃ xs, c6 K H1 a xs) /\ R (zC K a) H1
theorem uW {X : Cx} {elts : List Expr} {x1} {wA : Pos} {a : Expr} {ta : TA} {p pos : Pos} (hg : Gl X "enumerate") (hm : X.mg "enumerate" = none) (ha : PA X [a] ta) (hs : starEach [a] X.env = [(false, eval a X.env)] := by rfl) :
 PI X (.Tuple elts x1 wA) (.Call (.Name "enumerate" p) [a] [] pos) (vW X.K ta) := by
 intro pins s σ H R I h
 refine Call_ (ip I hg hm boot_enumerate (PyProof.Rows.callWith_type1 (bH (ha pos pins s σ H _ I h) fun us s1 ⟨vs, H1, I1, r1, q1⟩ => ?_) hs rfl))
 obtain ⟨l, e, ⟨xs, hq⟩, q⟩ := q1
 subst e
 cases r1 with
 | cons r rr =>
   cases rr
   cases r
   obtain ⟨aR, rv, p, hz⟩ := I1.list hq
   refine call_enumerate_list p.isList fun h' he hit hsz hk => ?_
   have hT : (⟨h', s1.gens, s1.drawn, s1.toks, s1.os⟩ : Shared).TypeIs (.ref (s1.heap.objs.size + 1)) "enumerate" := ⟨_, he, rfl⟩
   refine wpAny_pyIter_slot hT F.slot_enumerate_iter (wpAny_call_entry F.slot_enumerate_iter hT fC ?_ (F.args_enumerate_iter_1 _))
   show wpAny _ _ (ret (.ref (s1.heap.objs.size + 1))) _ _ _
   refine wpAny_pure ⟨_, rfl, "enumerate", _, hT, F.slot_enumerate_next.lookup, ?_⟩
   refine ⟨s1.heap.objs.size + 1, [s1.heap.objs.size + 1, s1.heap.objs.size], _, _, H1, rfl, I1.kept (t' := s1.toks) hk, px (a := l) (Nat.succ_ne_self _), ⟨⟨_, he⟩, hit⟩, fun b hb => ?_, q⟩
   have e : b = s1.heap.objs.size + 1 \/ b = s1.heap.objs.size := by simpa using hb
   rcases e with rfl | rfl
   . exact I1.k4 (Nat.le_succ _) (I1.aH.fresh (Nat.le_succ _))
   . exact I1.k4 (Nat.le_refl _) (I1.aH.fresh (Nat.le_refl _))
section
variable {X : Cx}
end
section
variable {σ : St} {H : Hp} {Q : VK}
end
section
variable {σ : St} {H : Hp} {Q : VK} {K : PySem.W.Frag} {v : V}
end
end L2
namespace L2
open PySem
section
variable {H : Hp} {Q : VK} {K : PySem.W.Frag}
end
end L2
namespace L2
open PySem PySem.Spec PyProof.Rows PySem.W
section
variable {X : Cx}
end
section
variable {σ : St} {H : Hp} {Q : VK}
end
section
variable {X : Cx} {pins : List (Addr × Obj)} {σ : St} {H : Hp} {s : Shared}
end
section
variable {σ : St} {H : Hp} {Q : VK}
end
section
variable {σ : St} {H : Hp} {Q : VK} {K : PySem.W.Frag} {p : Addr} {m : List (Str × PyData)} {k : Str}
end
def Fu (h : Heap) (a T : Addr) (c : Value) (od : Option Addr) : Prop := ∃ oe vs oT ts, h.get? a = some oe /\ oe.cls = c /\ oe.dict = od /\ oe.data = .fields vs /\ vs[1]? = some (.ref T) /\ T ≠ a /\ h.get? T = some oT /\ oT.data = .fields ts /\ ts[3]? = some .none /\ vs[2]? = some .none
section
variable {M : Model} {A : Around} {E : Value -> Shared -> Prop} {s : Shared} {env : Env} {outer : List Env} {L a T : Addr} {c : Value} {od : Option Addr} {base : Heap} {Q : Unit -> Shared -> Prop}
end
def Hm (P : Program) (w : World) : lY := fun outer H s E e s' => ∃ a T C od H', e = .ref a /\ s'.os = s.os /\ AllBare s'.gens /\ Un (mq outer) [] H H' s.heap s'.heap /\ e7 P w H' s'.heap /\ Fu s'.heap a T (.ref C) od /\ s.heap.get? a = none /\ s.heap.get? T = none /\ H' a = none /\ H' T = none /\ E (.ref C) od H'
section
variable {P : Program} {w : World} {K : PySem.W.Frag} {mg : Str -> Option Value} {base : Heap} {N : List Str} {qual : Str} {scope : Scope} {f : Addr} {cd : Value} {A : Around} {outer : List Env} {s0 : Shared} {H0 : Hp} {E : XK} {CX : lY} {pins : List (Addr × Obj)} {σ : St} {H : Hp} {s : Shared}
end
structure FV (P : Program) (w : World) (K : PySem.W.Frag) (mg : Str -> Option Value) (base : Heap) (k : Nat) (f : Addr) (ps : List Str) (bP : List V) (sp : Sp) : Prop where
 ex : ∃ (fd : FuncData) (ds : List Value), bS P w K mg base (Hm P w) k f fd ps sp /\ Binds K fd ps ds /\ Vals bP ds
section
variable {X : Cx} {CX : lY} {k : Nat} {f C : Addr} {fd : FuncData} {ps : List Str} {sp : Sp} {bP : List V} {ds : List Value} {E : St -> XK} {x m : Str} {p pos apos : Pos} {e o : Expr} {es : List Expr} {ta : TE} {t : TA}
end
section
variable {P : Program} {w : World} {K : PySem.W.Frag} {mg : Str -> Option Value} {base : Heap}
end
section
variable {prog : Program} {w : World} {A : Around} {E : Value -> Shared -> Prop} {s : Shared} {K : PySem.W.Frag} {x C : Addr} {ox : Obj} {name : Str} {v : Value} {cd : ClassData}
open Builtin.ObjectAttr in
open Builtin.ObjectAttr in
end
structure Ii (K : PySem.W.Frag) (C W fI : Addr) : Prop where
 cls : ∃ (nm q : Str) (N : Addr) (bs : List Value) (sn : List Str) (sub : List Value) (ab : Bool) (col : Option Bool) (dd : Option Addr) (k0 k1 k2 k3 k5 : Option Value), K.lookup C = some (excClassObj nm q C N bs (.ref W :: DK) true sn sub ab col dd k0 k1 k2 k3 k5 "ValueError.__new__")
 up : wx K W
 init : PySem.W.findIn K (.ref C) "__init__" = some (some (.ref fI))
 fn : PySem.W.isFn K (.ref fI) = true
 te : GK K C
 sa : PySem.W.findIn K (.ref C) "__setattr__" = some (some (.builtin "object.__setattr__"))
 tk : PySem.W.takerIn K C "name" = some none
 nm : PySem.W.findIn K (.ref C) "name" = some none
def Ei (K : PySem.W.Frag) (C : Addr) : Prop := ∀ h : Heap, K.In h -> ∃ (bm : List Value) (N : Addr) (nm q : Str) (bs : List Value) (hd : Bool) (sn : List Str) (sub : List Value) (ab : Bool) (col : Option Bool) (dd : Option Addr) (k0 k1 k2 k3 k5 : Option Value),
 h.get? C = some (excClassObj nm q C N bs bm hd sn sub ab col dd k0 k1 k2 k3 k5 "ValueError.__new__") /\ OwnTail h DK bm
theorem wx.o {K : PySem.W.Frag} {C : Addr} (h : wx K C) : Ei K C := fun hp X => by
 obtain ⟨bm, N, nm, q, bs, hd, sn, sub, ab, col, dd, k0, k1, k2, k3, k5, mN, hC, _, _, T⟩ := xH X h
 exact ⟨bm, N, nm, q, bs, hd, sn, sub, ab, col, dd, k0, k1, k2, k3, k5, hC, T⟩
section
variable {prog : Program} {w : World} {A : Around} {E : Value -> Shared -> Prop} {h : Heap} {g : Array GenState} {d : Drawn} {t : Nat} {os : OsState}
variable {nm q : Str} {C N : Addr} {bs bm yS : List Value} {Ea : Bool} {sn : List Str} {sub : List Value} {ab : Bool} {col : Option Bool} {dd : Option Addr} {k0 k1 k2 k3 k5 : Option Value} {B newId DU : String}
end
structure E5 (K : PySem.W.Frag) (W : Addr) : Prop where
 ga : PySem.W.specialIn K (.ref W) "__getattribute__" = some (some (.builtin "type.__getattribute__"))
 rd : PySem.W.readsIn K W (.type "type") = true
 fd : PySem.W.findCls K (.ref W) (.type "type") "__init__" = some (.val (.builtin "ValueError.__init__"))
section
variable {X : Cx} {W : Addr} {x : Str} {p pos apos : Pos} {e : Expr} {es : List Expr} {t : TA} {pl : Sem Bool}
end
def del (H : Hp) (a : Addr) : Hp := fun b => if b = a then none else H b
section
variable {prog : Program} {w : World} {A : Around} {E : Value -> Shared -> Prop} {s : Shared} {env : Env}
variable {nm q : Str} {C N : Addr} {bs bm yS : List Value} {Ea : Bool} {sn : List Str} {sub : List Value} {ab : Bool} {col : Option Bool} {dd : Option Addr} {k0 k1 k2 k3 k5 : Option Value} {newId : String}
end
def G7 (X : Cx) (cl : Expr) (hit : Addr -> Bool -> Prop) : Prop := ∀ (a C T : Addr) (od : Option Addr) (pins : List (Addr × Obj)) (σ : St) (H : Hp) (s : Shared) (Q : Bool -> Shared -> Prop) (E : Value -> Shared -> Prop) (b : Bool), Inv X pins σ H s -> Fu s.heap a T (.ref C) od -> hit C b ->
 (∀ h', (∀ b o, s.heap.get? b = some o -> h'.get? b = some o) -> Q b { s with heap := h' }) ->
 wpAny (model X.prog X.w) (X.hand a).A (eval cl X.env) (fun c s1 => wpAny (model X.prog X.w) (X.hand a).A (excMatches (.ref a) c) Q E s1) E s
structure FG where
 hit : Addr -> Bool -> Prop
 i : Option Nat
 ts : Addr -> TS
def xC (X : Cx) : Option Str -> Option Nat -> Prop
 | some n, some i => X.N[i]? = some n /\ X.env.scope.names.lookup n = some .local
 | none, none => True
 | _, _ => False
inductive sV (X : Cx) : List ExceptHandler -> List FG -> Prop
 | nil : sV X [] []
 | cons {cl : Expr} {n : Option Str} {b0 : Stmt} {vX : List Stmt} {pos : Pos} {hs : List ExceptHandler} {hit : Addr -> Bool -> Prop} {i : Option Nat} {ts : Addr -> TS} {rs : List FG} (hc : G7 X cl hit) (hb : ∀ a, nD (X.hand a) (b0 :: vX) (ts a)) (hn : xC X n i) (r : sV X hs rs) :
  sV X (.ExceptHandler (some cl) n (b0 :: vX) pos :: hs) (⟨hit, i, ts⟩ :: rs)
section
variable {X : Cx} {pins : List (Addr × Obj)} {σ : St} {H : Hp} {a C : Addr} {od : Option Addr} {Dn : Ends}
end
section
variable {X : Cx} {e : Expr} {te : TE} {y y2 : Str} {k k2 : Nat} {p1 p2 p3 pos : Pos}
end
section
variable {σ : St} {H : Hp} {Q : VK} {D : Ends} {K : PySem.W.Frag} {C : Addr} {E : St -> XK}
end
section
variable {prog : Program} {w : World} {A : Around} {R : Result -> Shared -> Prop} {I S : Addr} {fp wr : List Addr} {n : Nat} {P : Nat -> Value -> Prop} {St : Nat -> Heap -> Prop} {bt : Nat -> Nat -> Bool}
end
section
variable {prog : Program} {w : World} {A : Around} {E : Value -> Shared -> Prop} {s : Shared}
end
section
variable {X : Cx}
end
section
variable {σ : St} {H : Hp} {Q : VK} {D : Ends} {K : PySem.W.Frag}
def Ba (K : PySem.W.Frag) (vs : List V) (g : TG) (tb : TS) (D : Ends) (σ : St) (H1 : Hp) : Prop := ∃ a, vs = [.ref a] /\ (∃ xs, c6 K H1 a xs) /\ ∃ W : Nat -> Nat -> St -> Hp -> Prop, (∃ m, W 0 m σ H1) /\ ∀ i m σ H, W i m σ H ->
 ((zC K a).stop i H /\ D.nx σ H) \/ ((zC K a).go i H /\ ∃ N : St -> Hp -> Prop, (∀ σ' H', N σ' H' -> ∃ m', m' < m /\ W (i + 1) m' σ' H') /\ ∀ x H', (zC K a).uY i H x H' -> g x σ H' fun σ2 H2 => tb { D with nx := N, ct := N, bk := D.nx } σ2 H2)
theorem yy {ta : TA} {g : TG} {tb : TS} (h : ta σ H fun vs H1 => Ba K vs g tb D σ H1) : rM (vW K ta) g tb D σ H := h
theorem zy {Hb : Hp} {v : V} {cs : List Int} {g : TG} {tb : TS} (hl : Dv Hb v (.list (cs.map PyData.int))) (Pv : Nat -> St -> Hp -> Prop) (h0 : Pv 0 σ H) (hk : ∀ i σ H', i <= cs.length -> Pv i σ H' -> ∀ a xs, v = .ref a -> c6 K Hb a xs -> c6 K H' a xs)
 (hs : ∀ i c t σ H', cs[i]? = some c -> Pv i σ H' -> H' t = none -> g (.ref t) σ (upd H' t (.tup [.int (i : Int), .int c])) fun σ2 H2 => tb { D with nx := Pv (i + 1), ct := Pv (i + 1), bk := D.nx } σ2 H2) (hd : ∀ σ H', Pv cs.length σ H' -> D.nx σ H') : Ba K [v] g tb D σ H := by
 obtain ⟨p, xs, rfl, e, dv⟩ := hl.lst_inv
 have D6 : xs.length = cs.length := by rw [dv.length, List.length_map]
 have at' : ∀ i σ H', i <= cs.length -> Pv i σ H' -> c6 K H' p xs := fun i σ H' hi hp => hk i σ H' hi hp p xs rfl (e K)
 refine ⟨p, rfl, ⟨xs, at' 0 σ H (Nat.zero_le _) h0⟩, fun i m σ H => i <= cs.length /\ m = cs.length - i /\ Pv i σ H, ⟨_, Nat.zero_le _, rfl, h0⟩, ?_⟩
 rintro i m σ H' ⟨hi, hm, hp⟩
 have r0 := at' i σ H' hi hp
 by_cases hc : i = cs.length
 . subst hc
   exact .inl ⟨⟨xs, r0, by omega⟩, hd σ H' hp⟩
 . have C5 : i < xs.length := by omega
   refine .inr ⟨⟨xs, xs[i], r0, List.getElem?_eq_getElem C5⟩, Pv (i + 1), fun σ' H2 qz => ⟨cs.length - (i + 1), by omega, by omega, rfl, qz⟩, fun x H2 hy => ?_⟩
   obtain ⟨t, x', hy, rfl, ht, rfl⟩ := hy
   have hx := hy xs r0
   have qA : cs[i]? = some cs[i] := List.getElem?_eq_getElem (by omega)
   obtain ⟨x2, Ds, hd⟩ := dv.get (i := i) (d := .int cs[i]) (by rw [List.getElem?_map, qA]; rfl)
   rw [hx] at Ds
   cases Ds
   obtain rfl := hd.int_inv
   exact hs i cs[i] t σ H' qA hp ht
end
section
variable {X : Cx}
end
section
open PySem.SeqAt
open PySem.AutoSeq1 (wpAny_loadPart')
open PySem.MeetsSeq PySem.MeetsSeq2 PySem.MeetsSeq3
end
section
variable {X : Cx}
end
section
variable {σ : St} {H : Hp} {Q : VK} {D : Ends} {K : PySem.W.Frag}
theorem n6 {S : List Addr} {H0 H1 H2 : Hp} (s : ai H0 H1) (m : Mv S H1 H2) (h : ∀ b ∈ S, H0 b = none) : ai H0 H2 := fun b u e => m.kp b u (fun z => by rw [h b z] at e; cases e) (s b u e)
end
def BM (mg : Str -> Option Value) (h : Heap) : Prop := ∃ bm ob, mg "__builtins__" = some (.ref bm) /\ bm ≠ builtinsNs /\ h.get? bm = some ob /\ ob.cls = .type "module" /\ ob.dict = some builtinsNs /\ ob.data = .plain
def jh (c : Addr) (q : Str) : HO := .ext fun h => h.CodeRec (.ref c) q
def TabAt (H : Hp) (P : Addr) (pos : Pos) (q : Str) : Prop := H P = some (.gg #[]) \/ ∃ c, c ≠ P /\ H P = some (.gg #[rawInt pos.line, rawInt pos.col, .ref c]) /\ H c = some (jh c q)
theorem TabAt.keeps {H H' : Hp} {P : Addr} {pos : Pos} {q : Str} (sm : ai H H') (h : TabAt H P pos q) : TabAt H' P pos q := by
 rcases h with h | ⟨c, h0, h1, h2⟩
 . exact .inl (sm _ _ h)
 . exact .inr ⟨c, h0, sm _ _ h1, sm _ _ h2⟩
theorem TabAt.mv {H H' : Hp} {S : List Addr} {P : Addr} {pos : Pos} {q : Str} (mv : Mv S H H') (hS : ∀ b ∈ S, b ≠ P /\ ∀ φ, H b ≠ some (.ext φ)) (h : TabAt H P pos q) : TabAt H' P pos q := by
 rcases h with h | ⟨c, h0, h1, h2⟩
 . exact .inl (mv.at (fun z => (hS _ z).1 rfl) h)
 . exact .inr ⟨c, h0, mv.at (fun z => (hS _ z).1 rfl) h1, mv.at (fun z => (hS _ z).2 _ h2) h2⟩
theorem rq {P : Program} {w : World} {H : Hp} {h : Heap} {c : Addr} {q : Str} (e : h.CodeRec (.ref c) q) : bh P w H h c (jh c q) := by
 refine ⟨e, ?_, fun h1 h2 x k => ?_⟩
 . obtain ⟨c', o, vs, t, e1, e2, _⟩ := e
   cases e1
   exact ⟨o, e2⟩
 . obtain ⟨c', o, vs, t, e1, e2, r⟩ := x
   cases e1
   exact ⟨c, o, vs, t, rfl, k _ e2, r⟩
theorem lJ {env : Env} {x : Str} {c : Addr} (hc : env.cells.lookup x = some c) : ∀ (names : List (Str × NameKind)) (acc : List (Str × Addr)), (names.filter fun y => y.2 == .free).map (·.1) = [x] ->
 (forIn names acc fun (y : Str × NameKind) (cs : List (Str × Addr)) => (if (y.2 == NameKind.free) = true then (do let a <- cellOf env y.1; pure (ForInStep.yield ((y.1, a) :: cs))) else pure (ForInStep.yield cs) : Sem _)) = pure ((x, c) :: acc)
 | [], _, h => by cases h
 | (n, k) :: r, acc, h => by
   rw [List.forIn_cons]
   by_cases hk : (k == NameKind.free) = true
   . simp only [hk, if_true]
     rw [List.filter_cons, if_pos hk, List.map_cons] at h
     obtain ⟨e1, e2⟩ := List.cons.inj h
     have e1 : n = x := e1
     subst e1
     have Dd : cellOf env n = pure c := by unfold cellOf; rw [hc]
     rw [Dd]
     simp only [pure_bind]
     have e3 : r.filter (fun y => y.2 == .free) = [] := List.map_eq_nil_iff.mp e2
     clear h
     induction r generalizing acc with
     | nil => rfl
     | cons y r ih =>
       rw [List.forIn_cons]
       have hy : (y.2 == NameKind.free) = false := by
        cases z : (y.2 == NameKind.free) with
        | false => rfl
        | true => rw [List.filter_cons, if_pos z] at e3; cases e3
       have e4 : r.filter (fun y => y.2 == .free) = [] := by rw [List.filter_cons, if_neg (by rw [hy]; decide)] at e3; exact e3
       simp only [hy, Bool.false_eq_true, if_false, pure_bind]
       exact ih acc (by rw [e4]; rfl) e4
   . have oH : (k == NameKind.free) = false := by simpa using hk
     rw [List.filter_cons, if_neg (by rw [oH]; decide)] at h
     simp only [oH, Bool.false_eq_true, if_false, pure_bind]
     exact lJ hc r acc h
theorem lS {scope : Scope} {env : Env} {x : Str} {c : Addr} (h : (scope.names.filter fun y => y.2 == .free).map (·.1) = [x]) (hc : env.cells.lookup x = some c) : closureFor scope env = pure [(x, c)] := by
 unfold closureFor
 have := lJ hc scope.names [] h
 simp only [bind_pure_comp] at this ⊢
 rw [this, pure_bind]
section
variable {X : Cx} {pins : List (Addr × Obj)} {σ : St} {H : Hp} {s : Shared} {c P : Addr} {params : Arguments} {body : Expr} {scope : Scope} {pos : Pos} {bz : List (Str × Addr)} {E : Value -> Shared -> Prop}
theorem Inv.grow {h' : Heap} {c' P : Addr} {ps more : Array Value} {q : Str} {tk : Nat} (I : Inv X pins σ H s) (hT : H P = some (.gg ps)) (hx : Heap.ExtBut P s.heap h') (y6 : s.heap.objs.size <= c') (wW : h'.CodeRec (.ref c') q) (hP : h'.get? P = some (tabObj (ps ++ more))) :
 Inv X pins σ (upd (upd H P (.gg (ps ++ more))) c' (jh c' q)) { s with heap := h', toks := tk } := by
 have xM : H c' = none := I.aH.fresh y6
 have Bv : P ≠ c' := av hT xM
 have nP : ∀ b, H b = none -> b ≠ P := fun b n z => by rw [z, hT] at n; cases n
 have kp : ∀ b u, b ≠ P -> H b = some u -> upd (upd H P (.gg (ps ++ more))) c' (jh c' q) b = some u := fun b u hb e => by rw [ag (av e xM), ag hb]; exact e
 have G1 : upd (upd H P (.gg (ps ++ more))) c' (jh c' q) P = some (.gg (ps ++ more)) := by rw [ag Bv, aj]
 refine I.step (g' := s.gens) (d' := s.drawn) (ch := []) (fun _ z => nomatch z) (fun b o _ _ _ e n => hx b o (nP b n) e) (fun b o _ _ _ e n => ⟨o.slots, hx b o (nP b n) e⟩) (fun b o _ e n => ?_) (fun b o _ e => ?_) (fun b xs e => kp b _ (fun z => by rw [z, hT] at e; cases e) e)
  (fun b o u e => kp b _ (fun z => by rw [z, hT] at e; cases e) e) (fun b Ip e => ?_) (fun m hm => ?_) (fun b u e => ?_) I.bare
 . rw [ag (Nat.ne_of_lt (Nat.lt_of_lt_of_le (Heap.lt_size e) y6)), ag (nP b n)]; exact n
 . by_cases hb : b = P
   . exact ⟨_, hb ▸ hP⟩
   . exact ⟨o, hx b o hb e⟩
 . by_cases hb : b = P
   . subst hb
     rw [hT] at e; cases e
     exact ⟨more, G1⟩
   . exact ⟨#[], by rw [kp b _ hb e]; simp⟩
 . obtain ⟨o, es, ep, ho, r⟩ := hm
   exact ⟨o, es, ep, hx _ o (nP _ I.free) ho, r⟩
 . by_cases hb : b = c'
   . subst hb
     rw [aj] at e; cases e
     exact rq wW
   . rw [ag hb] at e
     by_cases lu : b = P
     . subst lu
       rw [aj] at e; cases e
       exact hP
     . rw [ag lu] at e
       refine (I.aH b u e).jA (fun d v hd z => hx d v (fun y => ?_) z) (fun d z => kp d _ (fun y => by rw [y, hT] at z; cases z) z) fun d xs z => kp d _ (fun y => by rw [y, hT] at z; cases z) z
       rcases hd with rfl | hd
       . exact lu y
       . rw [y, hT] at hd; cases hd
theorem sH {Q : Value -> Shared -> Prop} (I : Inv X pins σ H s) (j2 : X.env.code = .ref c) (C : CodeHd X.base c P) (hB : BM X.mg X.base) (hT : TabAt H P pos (X.env.qual ++ "<lambda>")) (Dl : defaultsOf params X.env = ([], [])) (gb : closureFor scope X.env = pure bz)
 (h : ∀ g c' pm mm H' s', Inv X (pins ++ [(g, kla_obj "<lambda>" (X.env.qual ++ "<lambda>") params body scope bz pm c' mm)]) σ H' s' -> H' c' = some (jh c' (X.env.qual ++ "<lambda>")) -> Mv [P] H H' -> TabAt H' P pos (X.env.qual ++ "<lambda>") -> Q (.ref g) s') :
 wpAny (model X.prog X.w) X.A (eval (.Lambda params body scope pos) X.env) Q E s := by
 obtain ⟨bm, ob, b1, b2, b3, b4, b5, b6⟩ := hB
 have Fi : s.heap.Ns mainGlobals X.mg := I.mod.glob.keeps I.bk
 have Cs := C.keeps I.bk
 have zl : ∀ {h' : Heap} {H' : Hp} {o : Obj} {tk : Nat}, Inv X pins σ H' { s with heap := h'.push o, toks := tk } -> s.heap.objs.size <= h'.objs.size -> H' h'.objs.size = none -> (∀ v, o.data ≠ .cell v) -> o.isFreed = false -> Inv X (pins ++ [(h'.objs.size, o)]) σ H' { s with heap := h'.push o, toks := tk } := fun {h' H' o tk} J hsz hn hv k6 => J.eZ fun p hp => by
  rcases List.mem_append.mp hp with hp | hp
  . exact J.pin p (List.mem_append_right _ hp)
  . rw [List.mem_singleton.mp hp]
    exact ⟨Heap.get?_push_size _ k6, hn, Nat.ne_of_gt (Nat.lt_of_lt_of_le I.lt hsz), I.Aq hsz, hv⟩
 have EA : ∀ ps, H P = some (.gg ps) -> bm ≠ P := fun ps e z => by
  have := (I.bs bm ob b3).2
  rw [z, e] at this; cases this
 have Fy : bm ≠ mainGlobals := fun z => by
  obtain ⟨o, es, ep, e, hd, _⟩ := I.mod.glob
  rw [z, e] at b3; cases b3; rw [hd] at b6; cases b6
 have HF : ∀ ps, H P = some (.gg ps) -> mainGlobals ≠ P := fun ps e z => by
  obtain ⟨o, es, ep, e1, hd, _⟩ := I.mod.glob
  have := (I.bs _ o e1).2
  rw [z, e] at this; cases this
 refine kla_eval Dl ?_
 rcases hT with hT | ⟨c', GZ, hT, nL⟩
 . have DM : s.heap.get? P = some (tabObj #[]) := I.aH P _ hT
   refine kla_makeFunction (mg := X.mg) gb I.ok.glob Fi j2 Cs DM trivial rfl (HF _ hT) ⟨bm, ob, b1, b2, Fy, EA _ hT, (I.bs _ _ b3).1, b4, b5, b6⟩ fun c' mm h' tk hx y6 g6 wW G6 => ?_
   have J := I.grow (tk := tk) hT hx y6 wW G6
   have xM : H c' = none := I.aH.fresh y6
   have Bv : P ≠ c' := av hT xM
   have J2 := J.n9 (o := kla_obj "<lambda>" (X.env.qual ++ "<lambda>") params body scope bz ((X.mg "__name__").getD .none) c' mm)
   have hsz : s.heap.objs.size <= h'.objs.size := Nat.le_trans y6 (Nat.le_of_lt g6)
   refine h h'.objs.size c' _ mm _ _ (zl J2 hsz (J.aH.fresh (Nat.le_refl _)) (fun v z => by cases z) rfl) aj ⟨fun b o hb e => ?_, fun b xs e => ?_, fun b e => ?_⟩ (.inr ⟨c', Ne.symm Bv, by rw [ag Bv, aj]; rfl, aj⟩)
   . rw [ag (av e xM), ag (by simpa using hb)]; exact e
   . rw [ag (av e xM), ag (fun z => by rw [z, hT] at e; cases e)]; exact e
   . by_cases hb : b = c'
     . rw [hb]; exact xM
     . rw [ag hb] at e
       by_cases lu : b = P
       . rw [lu, aj] at e; cases e
       . rw [ag lu] at e; exact e
 . have DM : s.heap.get? P = some (tabObj #[rawInt pos.line, rawInt pos.col, .ref c']) := I.aH P _ hT
   refine kla_makeFunctionHit (mg := X.mg) gb I.ok.glob Fi j2 Cs DM ?_ (cv := .ref c') ?_ ⟨bm, ob, b1, b2, Fy, EA _ hT, (I.bs _ _ b3).1, b4, b5, b6⟩ fun mm h' tk hk hsz => ?_
   . simp [TriplesOk, rawInt]
   . exact codeAmong_snoc [] trivial rfl
   have J2 : Inv X pins σ H { s with heap := h'.push (kla_obj "<lambda>" (X.env.qual ++ "<lambda>") params body scope bz ((X.mg "__name__").getD .none) c' mm), toks := tk } := I.kept fun b u e => Heap.get?_push_of_some _ (hk b u e)
   exact h h'.objs.size c' _ mm _ _ (zl J2 hsz (I.aH.fresh hsz) (fun v z => by cases z) rfl) nL Mv.refl (.inr ⟨c', GZ, hT, nL⟩)
end
def jf (qual : Str) (scope : Scope) (L g : Addr) (cd : Value) (bz : List (Str × Addr)) : Env := newEnv scope L mainGlobals bz (qual ++ ".<locals>.") (some g) cd none builtinsNs
def ml (X : Cx) (A : Around) (N : List Str) (qual : Str) (scope : Scope) (g : Addr) (cd : Value) (bz : List (Str × Addr)) (s : Shared) (H : Hp) : Cx where
 prog := X.prog
 w := X.w
 K := X.K
 mg := X.mg
 base := X.base
 A := A.deeper (jf qual scope s.heap.objs.size g cd bz)
 N := N
 ck := s
 lR := H
 env := jf qual scope s.heap.objs.size g cd bz
 outer := X.stack
 stack := jf qual scope s.heap.objs.size g cd bz :: X.stack
 ex := []
 fn := fun _ => false
 calm := true
 pn := []
 xe := fun _ _ => False
structure g4 (N : List Str) (p : Str) (scope : Scope) : Prop where
 kind : scope.kind = .function
 co : scope.isCoroutine = false
 gen : scope.isGenerator = false
 nd : N.Nodup
 pre : N[0]? = some p
 par : scope.names.lookup p = some .local
 rN : ∀ y ∈ scope.names, y.2 ≠ .cell
def sx (X : Cx) (σ : St) (N : List Str) (scope : Scope) (v : V) (σ' : St) : Prop := σ'.length = N.length /\ σ'[0]? = some (some v) /\ ∀ (i : Nat) (x : Str) (w : V), 0 < i -> N[i]? = some x -> σ'[i]? = some (some w) -> scope.names.lookup x = some .free /\ ∃ j : Nat, X.N[j]? = some x /\ σ[j]? = some (some w) /\ (X.env.kindOf x = some .cell \/ X.env.kindOf x = some .free)
section
variable {X : Cx} {pins : List (Addr × Obj)} {σ σ' : St} {H : Hp} {s : Shared} {A : Around} {N : List Str} {p name qual : Str} {params : Arguments} {body : Expr} {scope : Scope} {bz : List (Str × Addr)} {g c' : Addr} {pm mm : Value} {v : V} {u : Value} {k : Nat} {Q : VK} {te : TE}
theorem pK {h1 : Heap} {tk : Nat} {cd : Value} (I : Inv X pins σ H s) (hA : A.frames = some X.stack) (hh : A.handled = none) (S : g4 N p scope) (gb : ∀ x c, bz.lookup x = some c -> X.env.cells.lookup x = some c) (k6 : ∀ x, scope.names.lookup x = some .free -> ∃ c, bz.lookup x = some c)
 (i5 : sx X σ N scope v σ') (rv : RelV v u) (vE : h1.Ns s.heap.objs.size fun x => [(p, u)].reverse.lookup x) (hk : ∀ b o, s.heap.get? b = some o -> h1.get? b = some o) : Inv (ml X A N qual scope g cd bz s H) [] σ' H { s with heap := h1, toks := tk } := by
 obtain ⟨hlen, h0, El⟩ := i5
 have e0 := I.vh
 have tV : ∀ b : Addr, b ∉ (ml X A N qual scope g cd bz s H).ex := fun b z => absurd (show b ∈ ([] : List Addr) from z) (by simp)
 refine ⟨⟨e0.mod, S.kind, rfl, rfl, Nat.le_refl _, fun y z c h1 h2 => I.ok.inj y z c (gb _ _ h1) (gb _ _ h2), fun y hy => ?_, fun y c h => (nomatch (show false = true from h)), fun _ => hh, Around.frames_deeper hA, .inr ⟨rfl, rfl⟩, fun b z => absurd z (tV b), e0.bs, e0.qx, fun b _ _ => tV b, fun b z => absurd z (tV b), e0.gH, e0.tK⟩,
  rfl, I.bare, Un.kept hk, ⟨_, vE, fun i y w qH h2 h3 => ?_⟩, fun y c h => ?_, e0.aH.fresh (Nat.le_refl _), fun y c h => I.dP y c (gb y c h), fun p hp => absurd (show p ∈ ([] : List (Addr × Obj)) from hp) (by simp), e0.aH.kept hk, hlen⟩
 . have hy : scope.names.lookup y = some .cell \/ scope.names.lookup y = some .free := hy
   rcases hy with hy | hy
   . exact absurd rfl (S.rN _ (PySem.mem_of_lookup hy))
   . exact k6 y hy
 . by_cases hi : i = 0
   . subst hi
     have e1 : N[0]? = some y := qH
     rw [S.pre] at e1; cases e1
     rw [h0] at h2; cases h2
     exact ⟨u, rv, .inl ⟨S.par, by simp⟩⟩
   . obtain ⟨hf, j, hj, Hg, EX⟩ := El i y w (by omega) qH h2
     obtain ⟨c, hc⟩ := k6 y hf
     have Dr : y7 X.env.scope y := by
      rcases EX with z | z
      . exact .inr (.inl z)
      . exact .inr (.inr z)
     obtain ⟨m, _, hl⟩ := I.loc
     obtain ⟨u', ru, l⟩ := hl j y w hj Hg Dr
     rcases l with ⟨z, _⟩ | ⟨_, c2, e2, e3⟩
     . rcases EX with y' | y' <;> (rw [z] at y'; cases y')
     . have e4 := gb y c hc
       rw [e2] at e4; cases e4
       refine ⟨u', ru, .inr ⟨.inr hf, _, hc, ?_⟩⟩
       obtain ⟨o, ho, hd⟩ := e3
       exact ⟨o, hk _ _ ho, hd⟩
 . obtain ⟨w, o, ho, hd⟩ := I.cell y c (gb y c h)
   exact ⟨w, o, hk _ _ ho, hd⟩
theorem uk (I : Inv X pins σ H s) (hA : A.frames = some X.stack) (hr : bj (k + 1) A) (S : g4 N p scope) (gb : ∀ x c, bz.lookup x = some c -> X.env.cells.lookup x = some c) (k6 : ∀ x, scope.names.lookup x = some .free -> ∃ c, bz.lookup x = some c)
 (hp : (g, kla_obj name qual params body scope bz pm c' mm) ∈ pins) (j2 : s.heap.CodeRec (.ref c') qual) (qW : bindArgs (kla_fn name qual params body scope bz pm (.ref c') mm) ⟨[u], []⟩ = pure [(p, u)]) (i5 : sx X σ N scope v σ') (rv : RelV v u)
 (ht : PE (ml X A N qual scope g (.ref c') bz s H) body te) (hq : te σ' H Q) : codeAny (model X.prog X.w) A (.call (.ref g) ⟨[u], []⟩) (CR iH X.stack X.prog X.w H s Q E0) s := by
 have hg := (I.pin _ (List.mem_append_right _ hp)).1
 refine kla_callFunE hr.depth hg rfl S.co S.gen rfl j2 ?_
 rw [qW]
 refine wpAny_pure (wpAny_newFunctionEnv S.rN (fun y hy => ?_) (fun h1 vE GP => ?_) S.kind)
 . rw [List.mem_singleton.mp hy]; exact S.par
 have hk : ∀ b o, s.heap.get? b = some o -> h1.get? b = some o := fun b o e => GP.extBut b o (Nat.ne_of_lt (Heap.lt_size e)) (Heap.get?_push_of_some _ e)
 refine ⟨I.nolimit.keeps hk, kla_codeExpr ?_⟩
 have J := pK (qual := qual) (g := g) (cd := .ref c') (tk := s.toks + 1) I hA hr.hd S gb k6 i5 rv vE hk
 refine wpAny_mono (ht [] _ σ' H Q J hq) (fun w s' h => ?_) fun _ _ h => h.elim
 obtain ⟨v', H', J', r', q'⟩ := h
 exact ⟨v', H', J'.os, J'.bare, J'.base, J'.aH, r', q'⟩
end
section
variable {X : Cx} {pins : List (Addr × Obj)} {σ : St} {H : Hp} {s : Shared} {f a : Addr} {sp : Sp} {kf : V -> Int × Str} {A : Around}
def la (X : Cx) (pins : List (Addr × Obj)) (σ : St) (H : Hp) (f : Addr) (sp : Sp) : Prop := ∀ (pl : List (Addr × Obj)) (s' : Shared) (H' : Hp) (v : V) (u : Value) (Q : VK), Inv X pl σ H' s' -> (∀ p ∈ pins, p ∈ pl) -> ai H H' -> RelV v u -> sp [v] H' Q E0 ->
 wpAny (model X.prog X.w) X.A.in1.in1 (call (.ref f) [u]) (EP X pl σ Q) (fun _ _ => False) s'
theorem jx {kS : Addr} {oa : Obj} {body : Value -> PUnit -> Sem (ForInStep PUnit)} {E : Value -> Shared -> Prop} (KC : la X pins σ H f sp) (Eu : ∀ v, oa.data ≠ .cell v)
 (iG : ∀ x (s' : Shared) (R : Shared -> Prop), wpAny (model X.prog X.w) X.A.in1.in1 (call (.ref f) [x]) (fun k s2 => ∃ us e, s2.heap.get? kS = some (seqObj "list" (List.toArray us) e) /\ us.length < 64 /\ R { s2 with heap := s2.heap.update kS (Obj.mapSeq (·.push k)) }) (fun _ _ => False) s' ->
  wpAny (model X.prog X.w) X.A.in1.in1 (body x ⟨⟩) (fun r s2 => r = .yield ⟨⟩ /\ R s2) E s')
 (fa : cZ X pins H a) (fk : cZ X pins H kS) (tP : a ≠ kS) : ∀ (rx : List V) (r : List Value) (xs : List V) (s' : Shared), Vals rx r -> nJ sp kf H rx -> xs.length + rx.length < 64 -> yf X pins σ H kf a kS oa xs s' ->
  wpAny (model X.prog X.w) X.A.in1.in1 (forIn r PUnit.unit body) (fun _ s2 => yf X pins σ H kf a kS oa (xs ++ rx) s2) E s'
 | [], _, xs, s', hv, _, _, hK => by
   cases hv
   rw [List.forIn_nil, List.append_nil]
   exact wpAny_pure hK
 | v :: rx, _, xs, s', .cons (b := u) (l₂ := r) hu hv, Ff, hlen, ⟨H', us, e, ys, I, sm, ha, hk, FN, Hv, rv, dv⟩ => by
   rw [List.forIn_cons]
   have Iw := fa.keep (H' := H') ha
   have IG := fk.keep (H' := H') hk
   have I' : Inv X (pins ++ [(a, oa), (kS, seqObj "list" (List.toArray us) e)]) σ H' s' := by
    refine I.eZ fun p hp => ?_
    rcases List.mem_append.mp hp with hp | hp
    . exact I.pin p (List.mem_append_right _ hp)
    . rcases List.mem_cons.mp hp with rfl | hp
      . exact ⟨FN, ha, fa.2.1, fa.2.2.1, Eu⟩
      . have : p = (kS, seqObj "list" (List.toArray us) e) := by simpa using hp
        subst this
        exact ⟨Hv, hk, fk.2.1, fk.2.2.1, fun v z => by cases z⟩
   have Iv : us.length = xs.length := by rw [<- rv.length, dv.length, List.length_map]
   refine wpAny_bind (wpAny_mono (iG u s' (fun s2 => yf X pins σ H kf a kS oa (xs ++ [v]) s2) (wpAny_mono (KC _ s' H' v u _ I' (fun p hp => List.mem_append_left _ hp) sm hu (Ff v List.mem_cons_self H' sm)) (fun kv s2 hq => ?_) fun _ _ z => z)) (fun q s2 hq => ?_) fun _ _ z => z)
   . obtain ⟨y, H2, I2, ry, iU, dy⟩ := hq
     have p1 := I2.pin (a, oa) (List.mem_append_right _ (List.mem_append_right _ List.mem_cons_self))
     have p2 := I2.pin (kS, seqObj "list" (List.toArray us) e) (List.mem_append_right _ (List.mem_append_right _ (List.mem_cons_of_mem _ List.mem_cons_self)))
     have I3 : Inv X pins σ H2 s2 := I2.fR
     refine ⟨us, e, p2.1, by simp at hlen; omega, ?_⟩
     obtain ⟨c, hc⟩ : ∃ c, (s2.heap.update kS (Obj.mapSeq (·.push kv))).get? kS = some (seqObj "list" (List.toArray (us ++ [kv])) c) := by
      have ea : (List.toArray us).push kv = List.toArray (us ++ [kv]) := by simp
      rw [<- ea]
      exact ⟨_, get?_update_seq p2.1 (·.push kv)⟩
     refine ⟨H2, us ++ [kv], c, ys ++ [y], I3.uL (fk.keep p2.2.1), sm.trans iU, p1.2.1, p2.2.1, ?_, hc, rv.append (.cons ry .nil), ?_⟩
     . show (s2.heap.update kS _).get? a = some oa
       rw [Heap.get?_update_ne _ _ _ _ tP]; exact p1.1
     . rw [List.map_append]
       exact (dv.keeps iU).append (.cons dy .nil)
   . obtain ⟨rfl, hq⟩ := hq
     have := jx KC Eu iG fa fk tP rx r (xs ++ [v]) s2 hv (fun z hz => Ff z (List.mem_cons_of_mem _ hz)) (by simp at hlen ⊢; omega) hq
     rw [List.append_assoc] at this
     exact this
theorem mC {l : Addr} {xs : List V} {Q : VK} {E : Value -> Shared -> Prop} (I : Inv X pins σ H s) (wB : xs.length < 64) (D2 : ∀ (R : List Value -> Shared -> Prop) (E' : Value -> Shared -> Prop), (∀ vs s2, Vals xs vs -> Inv X pins σ H s2 -> R vs s2) -> wpAny (model X.prog X.w) X.A.in1 (collect (.ref l)) R E' s) (KC : la X pins σ H f sp)
 (hk : nJ sp kf H xs) (fin : og X pins σ H cn kf xs Q) : wpAny (model X.prog X.w) X.A (call (.builtin "sorted") [.ref l] [(Str.ofString "key", .ref f)]) (EP X pins σ Q) E s := by
 have Gg : (64 : Nat) <= sizeLine := by decide
 refine call_function_entry_kw kind_sorted plain_sorted entry_sorted (ksk_s1 _ _) ?_
 unfold Builtin.«sorted»
 refine wpAny_bind (m := checkCount "sorted" 1 1 _) (wpAny_pure ?_)
 refine wpAny_bind (D2 _ _ fun vs s2 rv I2 => ?_)
 have lx := rv.length
 refine wpAny_bind (wpAny_newList ?_ (by omega))
 obtain ⟨h2, g2, d2, t2, o2⟩ := s2
 have yT : (h2.push (seqObj "list" vs.toArray 0)).get? h2.objs.size = some (seqObj "list" vs.toArray 0) := Heap.get?_push_size _ rfl
 have I3 : Inv X pins σ H (⟨h2.push (seqObj "list" vs.toArray 0), g2, d2, t2, o2⟩ : Shared) := I2.n9
 have fa : cZ X pins H h2.objs.size := I2.k4 (Nat.le_refl _) (I2.aH.fresh (Nat.le_refl _))
 have va : X.ck.heap.objs.size <= h2.objs.size := I2.sz
 show wpAny _ _ _ _ _ (⟨h2.push (seqObj "list" vs.toArray 0), g2, d2, t2, o2⟩ : Shared)
 generalize h2.objs.size = a at *
 refine wpAny_bind (wpAny_holding (wpAny_call_entry_kw slot_list_sort ⟨_, yT, rfl⟩ entry_list_sort ?body (ksk_l1 _ _)))
 case body =>
  show wpAny (model X.prog X.w) X.A.in1.in1 (Builtin.«list.sort» ⟨[.ref a], [(Str.ofString "key", .ref f)]⟩) _ _ _
  rw [ksk_t1]
  generalize h2.push (seqObj "list" vs.toArray 0) = h3 at *
  unfold ksk_tree
  refine wpAny_bind (listItems_at yT rfl ?_)
  refine wpAny_bind (listUpdate_at yT rfl ?_ (by rw [List.size_toArray]; omega) (Nat.zero_le _))
  have I4 : Inv X pins σ H (⟨h3.update a (Obj.mapSeq fun _ => (#[] : Array Value)), g2, d2, t2, o2⟩ : Shared) := I3.uL fa
  obtain ⟨e1, oa⟩ : ∃ e1, (h3.update a (Obj.mapSeq fun _ => (#[] : Array Value))).get? a = some (seqObj "list" #[] e1) := ⟨_, get?_update_seq yT fun _ => #[]⟩
  generalize h3.update a (Obj.mapSeq fun _ => (#[] : Array Value)) = h4 at *
  refine wpAny_bind (seqEpoch_at oa rfl ?_)
  refine wpAny_bind (wpAny_newTuple ?_ (by show vs.length <= _; omega))
  have I5 : Inv X pins σ H (⟨h4.push (seqObj "tuple" vs.toArray 0), g2, d2, t2, o2⟩ : Shared) := I4.n9
  have Ft : (h4.push (seqObj "tuple" vs.toArray 0)).get? a = some (seqObj "list" #[] e1) := Heap.get?_push_of_some _ oa
  show wpAny _ _ _ _ _ (⟨h4.push (seqObj "tuple" vs.toArray 0), g2, d2, t2, o2⟩ : Shared)
  generalize h4.push (seqObj "tuple" vs.toArray 0) = h5 at *
  refine wpAny_bind (wpAny_newList ?_ (Nat.zero_le _))
  have I6 : Inv X pins σ H (⟨h5.push (seqObj "list" #[] 0), g2, d2, t2, o2⟩ : Shared) := I5.n9
  have fk : cZ X pins H h5.objs.size := I5.k4 (Nat.le_refl _) (I5.aH.fresh (Nat.le_refl _))
  have Ha : (h5.push (seqObj "list" #[] 0)).get? a = some (seqObj "list" #[] e1) := Heap.get?_push_of_some _ Ft
  have HH : (h5.push (seqObj "list" #[] 0)).get? h5.objs.size = some (seqObj "list" #[] 0) := Heap.get?_push_size _ rfl
  have tP : a ≠ h5.objs.size := Nat.ne_of_lt (Heap.lt_size Ft)
  show wpAny _ _ _ _ _ (⟨h5.push (seqObj "list" #[] 0), g2, d2, t2, o2⟩ : Shared)
  show wpAny _ _ (holding [_, .ref h5.objs.size] (ksk_rest a (.ref f) false vs.toArray e1 (.ref h5.objs.size))) _ _ _
  generalize h5.objs.size = kS at *
  generalize h5.push (seqObj "list" #[] 0) = h6 at *
  refine wpAny_holding ?_
  unfold ksk_rest
  refine wpAny_bind (wpAny_rule ?_)
  first
   | rw [List.forIn_toArray]
   | (rw [<- Array.forIn_toList]; simp only [List.toList_toArray])
  refine wpAny_bind (wpAny_mono (jx (kf := kf) KC (oa := seqObj "list" #[] e1) (fun v z => by cases z) (fun x s' R hx => ?_) fa fk tP xs vs [] (⟨h6, g2, d2, t2, o2⟩ : Shared) rv hk (by simpa using wB) ⟨H, [], 0, [], I6, ai.refl _, fa.1, fk.1, Ha, HH, .nil, .nil⟩) (fun _ s7 hK => ?_) fun _ _ z => z)
  . refine wpAny_bind (wpAny_attempt (wpAny_mono hx (fun kv s2 hq => ?_) fun _ _ z => z.elim))
    obtain ⟨us, e, ok, g6, hR⟩ := hq
    dsimp only
    refine wpAny_bind (listUpdate_at ok rfl ?_ (by rw [List.size_toArray]; omega) (by rw [Array.size_push, List.size_toArray]; omega))
    exact wpAny_pure ⟨rfl, hR⟩
  . obtain ⟨H', us, e, ys, I7, sm, Hh, Hq, Gd, EL, ry, dv⟩ := hK
    try dsimp only
    refine wpAny_bind (listItems_at EL rfl ?_)
    refine q0 sm fa.1 I7 (fa.keep Hh) (fk.keep Hq) tP va Gd EL wB rv ry (by simpa using dv) fin (fun s8 h8 => ⟨_, rfl, wpAny_pure ⟨_, rfl, h8⟩⟩)
end
def o6 (te : TE) (js : List Nat) (σ : St) : Sp := fun vs H Q _ => ∃ v, vs = [v] /\ te (some v :: js.map fun j => σ.getD j none) H Q
structure me (X : Cx) (P : Addr) (params : Arguments) (scope : Scope) (p : Str) (xs : List Str) (js : List Nat) : Prop where
 sc : g4 (p :: xs) p scope
 cd : ∃ c, X.env.code = .ref c /\ CodeHd X.base c P
 bm : BM X.mg X.base
 df : defaultsOf params X.env = ([], [])
 bd : ∀ (name qual : Str) (body : Expr) (bz : List (Str × Addr)) (pm cv mm u : Value), bindArgs (kla_fn name qual params body scope bz pm cv mm) ⟨[u], []⟩ = pure [(p, u)]
 cl : X.Ok -> ∃ bz, closureFor scope X.env = pure bz /\ (∀ x c, bz.lookup x = some c -> X.env.cells.lookup x = some c) /\ ∀ x, scope.names.lookup x = some .free -> ∃ c, bz.lookup x = some c
 st : ∀ (i : Nat) (x : Str), xs[i]? = some x -> scope.names.lookup x = some .free /\ ∃ j : Nat, js[i]? = some j /\ X.N[j]? = some x /\ (X.env.kindOf x = some .cell \/ X.env.kindOf x = some .free)
 ln : js.length = xs.length
section
variable {X : Cx} {pins : List (Addr × Obj)} {σ : St} {H : Hp} {s : Shared} {P : Addr} {params : Arguments} {body : Expr} {scope : Scope} {p : Str} {xs : List Str} {js : List Nat} {te : TE} {k : Nat} {pos : Pos}
theorem me.zo (L : me X P params scope p xs js) (v : V) : sx X σ (p :: xs) scope v (some v :: js.map fun j => σ.getD j none) := by
 refine ⟨by simp [L.ln], rfl, fun i x w hi hx hw => ?_⟩
 obtain ⟨i, rfl⟩ : ∃ i', i = i' + 1 := ⟨i - 1, by omega⟩
 obtain ⟨h1, j, h2, h3, h4⟩ := L.st i x (by simpa using hx)
 refine ⟨h1, j, h3, ?_, h4⟩
 have hw : (js.map fun j => σ.getD j none)[i]? = some (some w) := by simpa using hw
 rw [List.getElem?_map, h2] at hw
 have hw : σ.getD j none = some w := by simpa using hw
 rw [List.getD_eq_getElem?_getD] at hw
 cases e : σ[j]? with
 | none => rw [e] at hw; cases hw
 | some o => rw [e] at hw; rw [show o = some w from hw]
theorem uS {pl : List (Addr × Obj)} {H1 : Hp} {g c' : Addr} {pm mm : Value} {bz : List (Str × Addr)} (L : me X P params scope p xs js) (hr : bj (k + 3) X.A) (gb : ∀ x c, bz.lookup x = some c -> X.env.cells.lookup x = some c) (k6 : ∀ x, scope.names.lookup x = some .free -> ∃ c, bz.lookup x = some c)
 (hp : (g, kla_obj "<lambda>" (X.env.qual ++ "<lambda>") params body scope bz pm c' mm) ∈ pl) (hc : H1 c' = some (jh c' (X.env.qual ++ "<lambda>")))
 (hb : ∀ (A : Around) (g : Addr) (cd : Value) (bz : List (Str × Addr)) (s : Shared) (H : Hp), bj k (A.deeper (jf (X.env.qual ++ "<lambda>") scope s.heap.objs.size g cd bz)) -> PE (ml X A (p :: xs) (X.env.qual ++ "<lambda>") scope g cd bz s H) body te) : la X pl σ H1 g (o6 te js σ) := by
 intro Il s' H' v u Q I' El sm rv hs
 obtain ⟨_, e, hq⟩ := hs
 obtain rfl := (List.cons.inj e).1
 have Fd : bj (k + 1) X.A.in1.in1 := bj.in1 (bj.in1 hr)
 have GL : s'.heap.CodeRec (.ref c') (X.env.qual ++ "<lambda>") := (I'.aH c' _ (sm _ _ hc)).1
 have Eo : X.A.in1.in1.frames = some X.stack := I'.vh.in1.in1.frames
 refine wpAny_call (codeAny_mono (uk (k := k) I' Eo Fd L.sc gb k6 (El _ hp) GL (L.bd _ _ _ _ _ _ _ u) (L.zo v) rv (hb _ _ _ _ _ _ (Fd.deeper _)) hq) fun r s2 hq => ?_)
 cases r with
 | error e => exact hq.elim
 | ok fl =>
   cases fl with
   | ret u => exact I'.after hq
   | next => exact False.elim hq
   | brk => exact False.elim hq
   | cont => exact False.elim hq
def kQ (sp : Sp) (vs : List V) (H : Hp) (Q : VK) : Prop := ∃ p kvs kf, vs = [.ref p] /\ Rd H p (.dK kvs) /\ kvs.length < 64 /\ nJ sp kf H (kvs.map fun kv => kV kv.1) /\ ∀ l ys H', ai H H' -> H l = none -> H' l = none -> kT cn kf ys (kvs.map fun kv => kV kv.1) -> Q (.ref l) (upd H' l (.lst ys))
def oQ (P : Addr) (pos : Pos) (q : Str) (te : TE) (js : List Nat) (t : TA) : TE := fun σ H Q => t σ H fun vs H1 => TabAt H1 P pos q /\ ∀ H2, Mv [P] H1 H2 -> TabAt H2 P pos q -> kQ (o6 te js σ) vs H2 Q
variable {e : Expr} {t : TA} {pn p2 c5 xm : Pos}
theorem j9 (j5 : X.calm = true) (L : me X P params scope p xs js) (hr : bj (k + 3) X.A) (hg : Gl X "sorted") (hm : X.mg "sorted" = none) (ha : PA X [e] t)
 (hb : ∀ (A : Around) (g : Addr) (cd : Value) (bz : List (Str × Addr)) (s : Shared) (H : Hp), bj k (A.deeper (jf (X.env.qual ++ "<lambda>") scope s.heap.objs.size g cd bz)) -> PE (ml X A (p :: xs) (X.env.qual ++ "<lambda>") scope g cd bz s H) body te)
 (i5 : backTo c5 (starEach [e] X.env) = (false, eval e X.env) :: backTo c5 (starEach [] X.env) := by rfl) (lz : (backTo c5 (starEach [e] X.env)).any (·.1) = false := by rfl) :
 PE X (.Call (.Name "sorted" pn) [e] [⟨some "key", .Lambda params body scope pos, xm⟩] c5) (oQ P pos (X.env.qual ++ "<lambda>") te js t) := by
 intro pins s σ H Q I h
 obtain ⟨c, j2, hC⟩ := L.cd
 obtain ⟨bz, CJ, gb, k6⟩ := L.cl I.ok
 refine wpAny_Call_Name_kw (ip I hg hm boot_sorted ?_)
 refine callWith_kw (bH (ha c5 pins s σ H _ I h) fun us s1 ⟨vs, H1, I1, r1, hT, q1⟩ => ?_) i5 lz
 refine wpAny_evalAll_cons (wpAny_bind (sH I1 j2 hC L.bm hT L.df CJ fun g c' pm mm H2 s2 I2 hc mv Hl => wpAny_bind (wpAny_standAt (wpAny_pure (wpAny_evalAll_nil ?_)))))
 obtain ⟨d, kvs, kf, e1, hd, wB, hk, fin⟩ := q1 H2 mv Hl
 subst e1
 obtain ⟨u, rfl, ru⟩ := vals1 r1
 have e1 : u = .ref d := ru
 subst e1
 have ob : bh X.prog X.w H2 s2.heap d (.dK kvs) := by
  rcases hd with e | ⟨o, e⟩
  . exact I2.aH d _ e
  . exact (I2.aH d _ e).2
 obtain ⟨hz, hs, vs, kv, Dk⟩ := ob
 obtain ⟨ep, da⟩ := Dk.dictAt
 have hlen : vs.length = kvs.length := kv.length.symm
 refine wpAny_mono (mC (E := X.xe) (xs := kvs.map fun kv => kV kv.1) I2 (by rw [List.length_map]; exact wB) (fun R E' hR => ?_) (uS (P := P) (k := k) L hr gb k6 (List.mem_append_right _ (List.mem_singleton.mpr rfl)) hc hb) hk (fun a ys H' => fin a ys H')) (fun w s3 hq => ?_) fun _ _ z => z
 . refine kdu_collect (kdl_dict (knd := aL X.prog X.w) (kvs := vs) (ep := ep) hs) ?_ da (by rw [hlen]; exact hz) fun h' tk acc oH cO => hR acc.toList _ (jq kv cO) (I2.kept oH)
   exact I2.ok.hd j5
 . obtain ⟨v, H3, I3, r3, q3⟩ := hq
   exact ⟨v, H3, I3.fR, r3, q3⟩
end
theorem p7 {P : Program} {w : World} {K : PySem.W.Frag} {mg mb : Str -> Option Value} {CX : lY} {k : Nat} {fa a : Addr} {fd : FuncData} {x : Str} {sp : Sp} {s₁ : Shared} {vs : List Value} {ns : List Int} {ts : List Addr}
 (KX : K.In s₁.heap) (vE : s₁.heap.Ns mainGlobals mg) (hb : s₁.heap.Ns builtinsNs mb) (GR : ∀ x : Str, x ≠ "__name__" -> mb x = bootBuiltins x) (CM : s₁.heap.NoLimit) (FL : BM mg s₁.heap) (nA : ∀ b ∈ ts, s₁.heap.get? b = some (tabObj #[]) /\ K.lookup b = none /\ ∃ c, CodeHd s₁.heap c b) (hg : s₁.gens = #[])
 (ha : s₁.heap.get? a = some { cls := .type "list", data := .seq vs.toArray }) (hi : IntsAre vs ns) (hl : ns.length <= sizeLine) (hr : bj k callerA)
 (F : ∀ base : Heap, K.In base -> base.Ns mainGlobals mg -> BM mg base -> bS P w K mg base CX k fa fd [x] sp) (qW : ∀ (s : Shared) (u : Value), BindsTo s fd ⟨[u], []⟩ [(x, u)])
 (tM : ∀ H : Hp, c6 K H a (ns.map V.int) -> (∀ b ∈ ts, H b = some (.gg #[])) -> sp [.ref a] H (fun v _ => v = .bl true) fun _ _ _ => False)
 (CY : ∀ H e s', CX [] H s₁ (fun _ _ _ => False) e s' -> False) :
 codeAny (model P w) callerA (.call (.ref fa) ⟨[.ref a], []⟩) (fun r s' => r = .ok (.ret (.bool true)) /\ OldK s₁.heap s'.heap /\ s'.os = s₁.os /\ AllBare s'.gens) s₁ := by
 have rv := j6 hi
 have C2 := hi.length
 have core : ∀ H : Hp, c6 K H a (ns.map V.int) -> e7 P w H s₁.heap -> (∀ b, H b = none \/ (b = a /\ ∃ o xs, H b = some (.cg o (.lst xs))) \/ (b ∈ ts /\ H b = some (.gg #[]))) -> (∀ b ∈ ts, H b = some (.gg #[])) -> (H a ≠ none -> K.lookup a = none) ->
  codeAny (model P w) callerA (.call (.ref fa) ⟨[.ref a], []⟩) (fun r s' => r = .ok (.ret (.bool true)) /\ OldK s₁.heap s'.heap /\ s'.os = s₁.os /\ AllBare s'.gens) s₁ := by
  intro H hS aH hA HJ hK
  have kY : ∀ {b : Addr} {o : Obj}, s₁.heap.get? b = some o -> H b = none -> (jX s₁.heap H).get? b = some o := fun e n => qM e n
  have tV : ∀ {b : Addr} {o : Obj} {es : Array DictEntry} {ep : Nat}, s₁.heap.get? b = some o -> o.data = .dict es ep -> H b = none := fun {b o es ep} e d => by
   cases q : H b with
   | none => rfl
   | some u =>
     rcases hA b with z | ⟨e', _⟩ | ⟨hb, _⟩
     . rw [q] at z; cases z
     . subst e'
       rw [ha] at e; cases e
       have d' : Data.seq vs.toArray _ = Data.dict es ep := d
       cases d'
     . rw [(nA b hb).1] at e; cases e
       have d' : Data.fields #[] = Data.dict es ep := d
       cases d'
  have BR : ∀ {b : Addr} {m : Str -> Option Value}, s₁.heap.Ns b m -> (jX s₁.heap H).Ns b m := fun {b m} ⟨o, es, ep, e, d, r⟩ => ⟨o, es, ep, kY e (tV e d), d, r⟩
  have FE : K.In (jX s₁.heap H) := fun b o e => kY (KX b o e) (by
   cases q : H b with
   | none => rfl
   | some u =>
     rcases hA b with z | ⟨e', _⟩ | ⟨hb, _⟩
     . rw [q] at z; cases z
     . subst e'
       rw [hK (by rw [q]; simp)] at e; cases e
     . rw [(nA b hb).2.1] at e; cases e)
  have Hy : BM mg (jX s₁.heap H) := by
   obtain ⟨bm, ob, b1, b2, b3, b4, b5, b6⟩ := FL
   refine ⟨bm, ob, b1, b2, kY b3 ?_, b4, b5, b6⟩
   rcases hA bm with z | ⟨e', _⟩ | ⟨hb, _⟩
   . exact z
   . rw [e', ha] at b3; cases b3; exact absurd (Value.type.inj b4) (by decide)
   . rw [(nA bm hb).1] at b3; cases b3; cases b4
  have hM : Mod K mg (jX s₁.heap H) := ⟨FE, BR vE, ⟨mb, BR hb, GR⟩, let ⟨mc, h1, h2⟩ := CM; ⟨mc, BR h1, h2⟩⟩
  have e0 : jZ P w K mg (jX s₁.heap H) callerA [] s₁ H := ⟨rfl, hM, fun b o e => uK e, Nat.le_of_eq (pC _ _), trivial, fun b hb => absurd (show b ∈ ([] : List Addr) from hb) (by simp), aH, .of_eq hg⟩
  refine codeAny_mono ((F _ FE (BR vE) Hy).run callerA [] s₁ H ⟨[.ref a], []⟩ [.ref a] [.ref a] _ _ hr e0 (qW s₁ (.ref a)) (.cons rfl .nil) (tM H hS HJ)) fun r s' h => ?_
  cases r with
  | error e => exact (CY H e s' h).elim
  | ok fl =>
    cases fl with
    | next => exact False.elim h
    | brk => exact False.elim h
    | cont => exact False.elim h
    | ret u =>
      obtain ⟨v, H', os, bare, un, uV, r', q⟩ := h
      have q' : v = .bl true := q
      subst q'
      obtain rfl : u = Value.bool true := r'
      have key : ∀ b o, s₁.heap.get? b = some o -> s'.heap.get? b = some o \/ (b ∈ ts /\ o = tabObj #[] /\ ∃ more, s'.heap.get? b = some (tabObj (#[] ++ more))) := fun b o e => by
       rcases hA b with q | ⟨_, ob, xs, z⟩ | ⟨hb, z⟩
       . exact .inl (un.keep b o e q (by intro z; exact absurd (show b ∈ ([] : List Addr) from z) (by simp)) (by simp))
       . have z2 := un.gf b ob _ z
         obtain ⟨e1, _⟩ := aH b _ z
         obtain ⟨e2, _⟩ := uV b _ z2
         rw [e] at e1; cases e1
         exact .inl e2
       . obtain ⟨more, z2⟩ := un.iy b _ z
         have e1 := (nA b hb).1
         rw [e] at e1; cases e1
         exact .inr ⟨hb, rfl, more, uV b _ z2⟩
      refine ⟨rfl, ⟨fun b o e => ?_, fun b o e => ?_⟩, os, bare⟩
      . rcases key b o e with z | ⟨hb, rfl, more, z⟩
        . exact .inl z
        . obtain ⟨h1, _, c, hC⟩ := nA b hb
          exact .inr (.inl ⟨(hC.tab h1).isCodeTable, rfl, #[], more, rfl, z⟩)
      . rcases key b o e with z | ⟨_, _, more, z⟩
        . exact ⟨_, z⟩
        . exact ⟨_, z⟩
 have nat : ∀ b ∈ ts, b ≠ a := fun b hb z => by
  have := (nA b hb).1
  rw [z, ha] at this; cases this
 have Fv : ∀ (H : Hp) (b : Addr), b ∈ ts -> bh P w H s₁.heap b (.gg #[]) := fun H b hb => (nA b hb).1
 cases hk : K.lookup a with
 | some o =>
   have e := KX a o hk
   rw [ha] at e
   cases e
   refine core (fun b => if b ∈ ts then some (.gg #[]) else none) (.inr ⟨_, vs.toArray, _, hk, rfl, rfl, rfl, by rw [List.size_toArray, C2]; exact hl, by simpa using rv⟩) (fun b u z => ?_) (fun b => ?_) (fun b hb => if_pos hb) (fun z => absurd (if_neg fun y => nat a y rfl) z)
   . by_cases hb : b ∈ ts
     . have z' := (if_pos hb).symm.trans z
       cases z'
       exact Fv _ b hb
     . have z' := (if_neg hb).symm.trans z
       cases z'
   . by_cases hb : b ∈ ts
     . exact .inr (.inr ⟨hb, if_pos hb⟩)
     . exact .inl (if_neg hb)
 | none =>
   have e1 : ∀ b, b ≠ a -> b ∈ ts -> (fun b => if b = a then some (HO.cg { cls := .type "list", data := .seq vs.toArray } (.lst (ns.map V.int))) else if b ∈ ts then some (.gg #[]) else none) b = some (.gg #[]) := fun b h1 h2 => by simp [h1, h2]
   have e2 : ∀ b, b ≠ a -> b ∉ ts -> (fun b => if b = a then some (HO.cg { cls := .type "list", data := .seq vs.toArray } (.lst (ns.map V.int))) else if b ∈ ts then some (.gg #[]) else none) b = none := fun b h1 h2 => by simp [h1, h2]
   refine core (fun b => if b = a then some (.cg { cls := .type "list", data := .seq vs.toArray } (.lst (ns.map V.int))) else if b ∈ ts then some (.gg #[]) else none) (.inl (.inr ⟨{ cls := .type "list", data := .seq vs.toArray }, if_pos rfl⟩)) (fun b u z => ?_) (fun b => ?_) (fun b hb => e1 b (nat b hb) hb) fun _ => hk
   . by_cases hb : b = a
     . have z' := (if_pos hb).symm.trans z
       cases z'
       subst hb
       exact ⟨ha, by rw [List.length_map]; exact hl, vs, _, rv, ha⟩
     . by_cases lu : b ∈ ts
       . have z' := (e1 b hb lu).symm.trans z
         cases z'
         exact Fv _ b lu
       . have z' := (e2 b hb lu).symm.trans z
         cases z'
   . by_cases hb : b = a
     . exact .inr (.inl ⟨hb, _, _, if_pos hb⟩)
     . by_cases lu : b ∈ ts
       . exact .inr (.inr ⟨lu, e1 b hb lu⟩)
       . exact .inl (e2 b hb lu)
theorem tu {l : PySem.W.OpenLaw} {n k : Nat} {q : Program} {loose : List Str} {XP : (Str -> Option Value) -> Heap -> Prop} {YP : World -> Heap -> Prop} {d : DefRec} {K : Params -> PySem.W.Frag} {CX : lY} {sp : List Addr -> PySem.W.Frag -> Sp} {x : Str} {ts : List Addr}
 (hn : l.most = some n) (sQ : n <= sizeLine) (C3 : d.params.defaults = []) (hr : bj k callerA)
 (hY : ∀ (w : World) (h : Heap), YP w h -> (K w.params).In h /\ ∀ b ∈ ts, h.get? b = some (tabObj #[]))
 (F : ∀ (w : World) (mg : Str -> Option Value) (fa : Addr) (h : Heap), (K w.params).In h -> h.Ns mainGlobals mg -> mg d.name = some (.ref fa) ->
  ∃ fd : FuncData, (∀ (s : Shared) (u : Value), BindsTo s fd ⟨[u], []⟩ [(x, u)]) /\ (∀ b ∈ ts, (K w.params).lookup b = none /\ ∃ c, CodeHd h c b) /\
    ∀ base : Heap, (K w.params).In base -> base.Ns mainGlobals mg -> BM mg base -> bS l.prog w (K w.params) mg base CX k fa fd [x] (sp ts (K w.params)))
 (tM : ∀ (K : PySem.W.Frag) (H : Hp) (a : Addr) (ns : List Int), ns.length <= n -> c6 K H a (ns.map V.int) -> (∀ b ∈ ts, H b = some (.gg #[])) -> sp ts K [.ref a] H (fun v _ => v = .bl true) fun _ _ _ => False)
 (CY : ∀ (H : Hp) (s : Shared) (e : Value) (s' : Shared), CX [] H s (fun _ _ _ => False) e s' -> False) :
 PySem.W.WalkO q loose XP YP l.row.toRowW d [] (fun f vs => PySem.call f vs) := by
 refine EF.lX hn C3 fun w ck s₁ mg mb fa o pm cd doc a vs ns G Y ho hd j2 yL wR hints hlen hg => ?_
 obtain ⟨KX, hT⟩ := hY w _ Y
 obtain ⟨fd, hb, hK, hF⟩ := F w mg fa _ KX G.T.g yL
 exact p7 KX G.T.g G.T.b G.T.builtins G.T.nolimit G.T.bmain (fun b hb => ⟨hT b hb, hK b hb⟩) hg wR hints (Nat.le_trans hlen sQ) hr hF hb (fun H hS hT => tM (K w.params) H a ns hlen hS hT) fun H e s' => CY H s₁ e s'
structure vf (K : PySem.W.Frag) (f c P : Addr) : Prop where
 fn : ∃ (oc : Value) (od : Option Addr) (fd : FuncData) (sl : Array (Option Value)), K.lookup f = some ⟨oc, od, .func fd, sl⟩ /\ fd.code = .ref c
 cd : codeHdIn K c P = true
 no : K.lookup P = none
theorem tU {K : PySem.W.Frag} {f c P : Addr} {oc : Value} {od FC : Option Addr} {fd : FuncData} {sl Bx : Array (Option Value)} {vs : Array Value} (l : K.lookup f = some ⟨oc, od, .func fd, sl⟩) (e : fd.code = .ref c) (lc : K.lookup c = some ⟨.type "code", FC, .fields vs, Bx⟩) (ev : vs.getD 11 .none = .ref P)
 (cd : codeHdIn K c P = true) (no : K.lookup P = none) : vf K f c P := ⟨⟨oc, od, fd, sl, l, e⟩, cd, no⟩
structure yw (K : PySem.W.Frag) (fd : FuncData) (c P : Addr) : Prop where
 e : fd.code = .ref c
 cd : codeHdIn K c P = true
 no : K.lookup P = none
theorem nZ {K : PySem.W.Frag} {x qual : Str} {st : Stmt} {f c P : Addr} {dV : Value} {fd : FuncData} (F : cQ K x qual st f dV fd) (L : vf K f c P) : yw K fd c P := by
 obtain ⟨oc, od, kV, doc, pm, an, d5, ct, p0, rfl, lk, _⟩ := F.ex
 obtain ⟨Ir, FC, HV, Bx, l, e⟩ := L.fn
 rw [lk] at l
 cases l
 exact ⟨e, L.cd, L.no⟩
structure Bs (K : PySem.W.Frag) (mg : Str -> Option Value) (base : Heap) : Prop where
 k : K.In base
 b : BM mg base
section
variable {P : Program} {w : World} {K : PySem.W.Frag} {mg : Str -> Option Value} {base : Heap}
theorem cQ.E9 {x qual : Str} {st : Stmt} {f : Addr} {dV : Value} {fd : FuncData} {N ps : List Str} {k : Nat} {sp : Sp} (F : cQ K x qual st f dV fd) (S : aP N ps (ax st)) (len : ∀ vs H Q E, sp vs H Q E -> vs.length = ps.length)
 (iG : ∀ (A : Around) (outer : List Env) (s : Shared) (H : Hp) (vs : List V) (Q : VK) (E : XK), bj k (A.deeper (envOfC qual (ax st) s.heap.objs.size f fd.code)) -> sp vs H Q E ->
  ∃ t, nD (nQ iH P w K mg base N qual (ax st) f fd.code A outer s H E).yV (eP st) t /\ t { nx := fun _ H' => Q .aO H', rt := Q } (start N vs) H) : bS P w K mg base iH (k + 1) f fd ps sp := by
 obtain ⟨oc, od, kV, doc, pm, an, d5, ct, p0, rfl, lk, j2⟩ := F.ex
 refine vY lk j2 S len fun A outer s H vs Q E hr tM => ?_
 obtain ⟨t, h, q⟩ := iG A outer s H vs Q E hr tM
 exact ⟨t, h.yV, q⟩
end
section
variable {X : Cx} {P : Addr} {params : Arguments} {scope : Scope} {p x : Str} {j : Nat}
theorem vg (hf : (scope.names.filter fun y => y.2 == .free).map (·.1) = [x]) (hx : X.env.kindOf x = some .cell \/ X.env.kindOf x = some .free) : X.Ok -> ∃ bz, closureFor scope X.env = pure bz /\ (∀ x c, bz.lookup x = some c -> X.env.cells.lookup x = some c) /\ ∀ x, scope.names.lookup x = some .free -> ∃ c, bz.lookup x = some c := fun ok => by
 obtain ⟨c, hc⟩ := ok.has x hx
 refine ⟨[(x, c)], lS hf hc, fun y d h => ?_, fun y h => ?_⟩
 . rw [List.lookup_cons] at h
   by_cases e : y = x
   . subst e
     simp at h
     rw [<- h]; exact hc
   . have : (y == x) = false := by simpa using e
     rw [this] at h; cases h
 . have h1 := List.mem_map_of_mem (f := (·.1)) (List.mem_filter (p := fun y : Str × NameKind => y.2 == .free) |>.mpr ⟨PySem.mem_of_lookup h, (rfl : (NameKind.free == NameKind.free) = true)⟩)
   rw [hf] at h1
   have : y = x := by simpa using h1
   subst this
   exact ⟨c, by simp⟩
theorem rH (sc : g4 [p, x] p scope) (cd : ∃ c, X.env.code = .ref c /\ CodeHd X.base c P) (bm : BM X.mg X.base) (df : defaultsOf params X.env = ([], [])) (bd : ∀ (name qual : Str) (body : Expr) (bz : List (Str × Addr)) (pm cv mm u : Value), bindArgs (kla_fn name qual params body scope bz pm cv mm) ⟨[u], []⟩ = pure [(p, u)])
 (hf : (scope.names.filter fun y => y.2 == .free).map (·.1) = [x]) (hl : scope.names.lookup x = some .free) (hN : X.N[j]? = some x) (hk : X.env.kindOf x = some .cell) : me X P params scope p [x] [j] :=
 ⟨sc, cd, bm, df, bd, vg hf (.inl hk), fun i y h => by
  cases i with
  | zero =>
    have : x = y := by simpa using h
    subst this
    exact ⟨hl, j, rfl, hN, .inl hk⟩
  | succ i => simp at h, rfl⟩
end
section
variable {σ : St} {H : Hp} {Q : VK} {K : PySem.W.Frag} {p : Addr} {m : List (Str × PyData)}
theorem kD {P : Addr} {pos : Pos} {q : Str} {te : TE} {js : List Nat} {t : TA} (h : t σ H fun vs H1 => TabAt H1 P pos q /\ ∀ H2, Mv [P] H1 H2 -> TabAt H2 P pos q -> kQ (o6 te js σ) vs H2 Q) : oQ P pos q te js t σ H Q := h
theorem lF {sp : Sp} (key : Str -> Int × Str) (hp : eW H p m) (wB : m.length < 64)
 (hk : ∀ x ∈ m.map (·.1), ∀ H', ai H H' -> sp [.str x] H' (fun y H2 => ai H' H2 /\ Dv H2 y (.tuple [.int (key x).1, .str (key x).2])) E0)
 (k : ∀ q H' (ss : List Str), ai H H' -> H q = none -> ss.Perm (m.map (·.1)) -> ss.Pairwise (fun c d => cn (key d) (key c) = false) -> cj H' q (ss.map PyData.str) -> Q (.ref q) H') : kQ sp [.ref p] H Q := by
 obtain ⟨kvs, e, dk⟩ := hp
 have rk : kvs.map (fun kv => kV kv.1) = (m.map (·.1)).map V.str := by
  clear hk k wB e
  induction dk with
  | nil => rfl
  | cons h1 h2 r ih => rw [List.map_cons, ih]; rfl
 refine ⟨p, kvs, fun v => match v with | .str x => key x | _ => (0, ⟨#[]⟩), rfl, .inl e, ?_, fun v hv H' sm => ?_, fun l ys H' sm hn Ed ord => ?_⟩
 . have := congrArg List.length rk
   simp only [List.length_map] at this
   omega
 . rw [rk] at hv
   obtain ⟨x, hx, rfl⟩ := List.mem_map.mp hv
   exact hk x hx H' sm
 . rw [rk] at ord
   obtain ⟨pm, pw⟩ := ord
   obtain ⟨ss, FZ, pc⟩ : ∃ ss : List Str, ys = ss.map V.str /\ ss.Perm (m.map (·.1)) := by
    have xG : ∀ v ∈ ys, ∃ x, v = .str x := fun v hv => by
     obtain ⟨x, _, rfl⟩ := List.mem_map.mp (pm.mem_iff.mp hv)
     exact ⟨x, rfl⟩
    have h1 : (ys.map fun v => match v with | .str x => x | _ => (⟨#[]⟩ : Str)).Perm (((m.map (·.1)).map V.str).map fun v => match v with | .str x => x | _ => (⟨#[]⟩ : Str)) := pm.map _
    refine ⟨ys.map fun v => match v with | .str x => x | _ => (⟨#[]⟩ : Str), ?_, ?_⟩
    . rw [List.map_map]
      conv => lhs; rw [<- List.map_id ys]
      refine List.map_congr_left fun v hv => ?_
      obtain ⟨x, rfl⟩ := xG v hv
      rfl
    . rw [List.map_map] at h1
      have e : (m.map (·.1)).map ((fun v => match v with | V.str x => x | _ => (⟨#[]⟩ : Str)) ∘ V.str) = m.map (·.1) := by
       conv => rhs; rw [<- List.map_id (m.map (·.1))]
       exact List.map_congr_left fun x _ => rfl
      rw [e] at h1
      exact h1
   subst FZ
   have iU : ai H (upd H' l (.lst (ss.map V.str))) := sm.trans (bY Ed)
   refine k l _ ss iU hn pc ?_ ⟨_, aj, ?_, fN _⟩
   . rw [List.pairwise_map] at pw
     exact pw
   . exact i9 ss
end
def Ao (p : Addr) (o : Obj) (kvs : List (Key × V)) (g : TG) (tb : TS) (D : Ends) (σ : St) (H1 : Hp) : Prop := ∃ W : Nat -> Nat -> St -> Hp -> Prop, (∃ m, W 0 m σ H1) /\ ∀ i m σ H, W i m σ H ->
 ((yW p o kvs).stop i H /\ D.nx σ H) \/ ((yW p o kvs).go i H /\ ∃ N : St -> Hp -> Prop, (∀ σ' H', N σ' H' -> ∃ m', m' < m /\ W (i + 1) m' σ' H') /\ ∀ x H', (yW p o kvs).uY i H x H' -> g x σ H' fun σ2 H2 => tb { D with nx := N, ct := N, bk := D.nx } σ2 H2)
section
variable {σ : St} {H : Hp} {D : Ends} {p : Addr} {m : List (Str × PyData)} {g : TG} {tb : TS}
theorem j8 {tl : TE} (hp : eW H p m) (zG : ∀ R : V -> Hp -> Prop, R (.ref p) H -> tl σ H R)
 (body : ∀ o kvs, H p = some (.dK kvs) -> ez H kvs m -> Ao p o kvs g tb (lM p kvs D) σ (upd H p (.cg o (.dK kvs)))) : su (rM (tG tl) g tb) D σ H := by
 obtain ⟨kvs, e, dk⟩ := hp
 exact ⟨p, kvs, e, zG _ ⟨p, kvs, rfl, e, fun o => body o kvs e dk⟩⟩
theorem AO {o : Obj} {kvs : List (Key × V)} (e : H p = some (.dK kvs)) (dk : ez H kvs m) (S : List Addr) (hS : p ∉ S) (Pv : Nat -> St -> Hp -> Prop) (h0 : Pv 0 σ (upd H p (.cg o (.dK kvs))))
 (hk : ∀ i σ' H', Pv i σ' H' -> Mv S (upd H p (.cg o (.dK kvs))) H')
 (hs : ∀ i k d σ' H', m[i]? = some (k, d) -> Pv i σ' H' -> H' p = some (.cg o (.dK kvs)) -> jQ H' p m -> g (.str k) σ' H' fun σ2 H3 => tb { lM p kvs D with nx := Pv (i + 1), ct := Pv (i + 1), bk := (lM p kvs D).nx } σ2 H3)
 (hd : ∀ σ' H', Pv m.length σ' H' -> D.nx σ' (upd H' p (.dK kvs))) : Ao p o kvs g tb (lM p kvs D) σ (upd H p (.cg o (.dK kvs))) := by
 have mv : Mv [p] H (upd H p (.cg o (.dK kvs))) := .dN e (by intro _ z; cases z)
 have hl : kvs.length = m.length := dk.length
 refine ⟨fun i j σ' H' => i <= m.length /\ j = m.length - i /\ Pv i σ' H', ⟨m.length, Nat.zero_le _, rfl, h0⟩, ?_⟩
 rintro i j σ' H' ⟨hi, rfl, hP⟩
 have E7 := hk i σ' H' hP
 have kh : H' p = some (.cg o (.dK kvs)) := E7.at hS aj
 have Fo : ez H' kvs m := (dk.jO mv.tp).jO E7.tp
 by_cases hc : i = m.length
 . left
   subst hc
   exact ⟨⟨hl.symm, kh⟩, ⟨o, kh⟩, hd σ' H' hP⟩
 . right
   have g6 : i < m.length := by omega
   refine ⟨⟨by omega, kh⟩, Pv (i + 1), fun σ2 H2 h2 => ⟨m.length - (i + 1), by omega, g6, rfl, h2⟩, ?_⟩
   rintro x H2 ⟨rfl, kv, zj, rfl⟩
   obtain ⟨k, d, hm, zq, Ie⟩ := Fo.uo zj
   have e1 : kV kv.1 = .str k := by rw [zq]; rfl
   rw [e1]
   exact hs i k d σ' H2 hm hP kh ⟨kvs, .inr ⟨o, kh⟩, Fo⟩
end
def tj (tl : TE) : TI := fun σ H R => tl σ H fun v H1 => ∃ d o kvs, v = .ref d /\ H1 d = some (.cg o (.dK kvs)) /\ R (yW d o kvs) H1
theorem sg {X : Cx} {tg l : Expr} {tl : TE} (hl : PE X l tl) : PI X tg l (tj tl) := by
 intro pins s σ H R I h
 refine bH (hl pins s σ H _ I h) fun v s1 ⟨y, H1, I1, r1, q1⟩ => ?_
 obtain ⟨d, o, kvs, rfl, hd, q⟩ := q1
 cases r1
 obtain ⟨qB, _, hs, vs, kv, o2, es, ep, ho, a2, a3, a4⟩ := I1.aH d _ hd
 rw [qB] at ho
 cases ho
 have ho := qB
 have da : s1.heap.DictAt (aL X.prog X.w) d vs ep := ⟨o, es, ho, a2, a3, a4⟩
 refine wpAny_pyIter_dict hs da ?_
 have g6 : d < s1.heap.objs.size := Heap.lt_size ho
 have hlen : vs.length = kvs.length := kv.length.symm
 refine ⟨s1.heap.objs.size, [s1.heap.objs.size], _, _, _, rfl, I1.kept (t' := s1.toks) fun b u e => Heap.get?_push_of_some _ e, kq a3 (Nat.ne_of_lt g6), ⟨_, Heap.get?_push_size _ rfl, rfl, by rw [hlen]; rfl⟩, fun b hb => ?_, q⟩
 have e : b = s1.heap.objs.size := by simpa using hb
 subst e
 exact I1.k4 (Nat.le_refl _) (I1.aH.fresh (Nat.le_refl _))
section
variable {σ : St} {H : Hp} {Q : VK} {K : PySem.W.Frag} {p : Addr} {m : List (Str × PyData)} {k : Str}
theorem xJ {n : Nat} {tl : TE} {g : TG} {tc : TT} {te : TE} {o : Obj} {kvs : List (Key × V)} (e : H p = some (.cg o (.dK kvs))) (dk : ez H kvs m) (zG : ∀ R : V -> Hp -> Prop, R (.ref p) H -> tl σ H R) (pf : Str -> Bool) (fd : Str -> PyData) (hlen : m.length <= 4000) (hi : ∀ c, kA (fd c) = true)
 (turn : ∀ c H' (N : Option V -> Hp -> Prop), c ∈ m.map (·.1) -> ai H H' -> (pf c = true -> ∀ y H4, ai H' H4 -> Dv H4 y (fd c) -> N (some y) H4) -> (pf c = false -> ∀ H3, ai H' H3 -> N none H3) ->
  g (.str c) (List.replicate n none ++ σ) H' fun σ2 H2 => tc σ2 H2 fun b H3 => y9 te N σ2 b H3)
 (kk : ∀ q H', ai H H' -> H q = none -> cj H' q (((m.map (·.1)).filter pf).map fd) -> Q (.ref q) H') : BF n (tj tl) g tc te σ H Q := by
 refine zG _ ⟨p, o, kvs, rfl, e, ?_⟩
 have hl : kvs.length = m.length := dk.length
 refine ⟨fun i j acc H' => i <= m.length /\ j = m.length - i /\ ai H H' /\ bE H' acc ((((m.map (·.1)).take i).filter pf).map fd), ⟨m.length, Nat.zero_le _, rfl, ai.refl _, by simpa using bE.nil⟩, ?_⟩
 rintro i j acc H' ⟨FJ, rfl, sm, cO⟩
 have kh : H' p = some (.cg o (.dK kvs)) := sm _ _ e
 have Br : acc.length <= m.length := by
  rw [cO.length, List.length_map]
  refine Nat.le_trans (List.length_filter_le _ _) ?_
  rw [List.length_take, List.length_map]
  omega
 by_cases hc : i = m.length
 . left
   refine ⟨⟨by omega, kh⟩, fun q hq => ?_⟩
   have tk : (m.map (·.1)).take i = m.map (·.1) := List.take_of_length_le (by rw [List.length_map]; omega)
   rw [tk] at cO
   refine kk q _ (sm.trans (bY hq)) (sm.none hq) ⟨acc, aj, cO.jO (fun a xs z => ?_) (bU hi _), bU hi _⟩
   rw [ag (av z hq)]; exact z
 . right
   have g6 : i < m.length := by omega
   refine ⟨⟨by omega, kh⟩, cT (by omega), fun x H2 hy => ?_⟩
   obtain ⟨rfl, kv, zj, rfl⟩ := hy
   obtain ⟨c, d, hm, zq, _⟩ := dk.uo zj
   have qA : (m.map (·.1))[i]? = some c := by rw [List.getElem?_map, hm]; rfl
   have rj : (m.map (·.1)).take (i + 1) = (m.map (·.1)).take i ++ [c] := by rw [List.take_add_one, qA]; rfl
   rw [show kV kv.1 = .str c by rw [zq]; rfl]
   refine turn c H2 (fun r H4 => match r with | some y => ∃ j', j' < m.length - i /\ i + 1 <= m.length /\ j' = m.length - (i + 1) /\ ai H H4 /\ bE H4 (acc ++ [y]) ((((m.map (·.1)).take (i + 1)).filter pf).map fd) | none => ∃ j', j' < m.length - i /\ i + 1 <= m.length /\ j' = m.length - (i + 1) /\ ai H H4 /\ bE H4 acc ((((m.map (·.1)).take (i + 1)).filter pf).map fd))
    (List.mem_of_getElem? qA) sm (fun hb y H4 s4 d4 => ⟨m.length - (i + 1), by omega, g6, rfl, sm.trans s4, ?_⟩) (fun hb H3 s3 => ⟨m.length - (i + 1), by omega, g6, rfl, sm.trans s3, ?_⟩)
   . rw [rj, List.filter_append, List.map_append]
     simp only [List.filter_cons, hb, if_true, List.filter_nil, List.map_cons, List.map_nil]
     exact bE.append (cO.keeps s4) (.cons d4 .nil)
   . rw [rj, List.filter_append, List.map_append]
     simp only [List.filter_cons, hb, Bool.false_eq_true, if_false, List.filter_nil, List.map_nil, List.append_nil]
     exact cO.keeps s3
end
def tH (m : List (Str × V)) : List (Key × V) := m.map fun x => (.inr x.1, x.2)
theorem n5 {k : Str} : ∀ {m : List (Str × V)}, ((tH m).any fun kv => decide (kv.1 = .inr k)) = m.any fun kv => decide (kv.1 = k)
 | [] => rfl
 | x :: r => by
   have := n5 (k := k) (m := r)
   unfold tH at *
   simp only [List.map_cons, List.any_cons, this, oI]
theorem u6 {m : List (Str × V)} {k : Str} {v : V} (h : k ∉ m.map (·.1)) : putK (tH m) (.inr k) v = tH (m ++ [(k, v)]) := by
 unfold putK
 rw [n5, if_neg]
 . unfold tH; rw [List.map_append]; rfl
 . simp only [List.any_eq_true, not_exists, not_and]
   intro x hx e
   exact h (List.mem_map.mpr ⟨x, hx, of_decide_eq_true e⟩)
theorem oK {k : Str} : ∀ {m : List (Str × V)}, k ∈ m.map (·.1) -> ∃ v, (k, v) ∈ m /\ gF (tH m) (.inr k) = some v
 | [], h => by simp at h
 | (j, v) :: r, h => by
   by_cases e : j = k
   . subst e
     exact ⟨v, List.mem_cons_self, fO rfl⟩
   . have h2 : k ∈ r.map (·.1) := by
      rcases List.mem_cons.mp h with z | z
      . exact absurd z.symm e
      . exact z
     obtain ⟨u, hu, hv⟩ := oK h2
     exact ⟨u, List.mem_cons_of_mem _ hu, by unfold tH at *; rw [List.map_cons, eD (fun z => e (Sum.inr.inj z))]; exact hv⟩
def mK (H : Hp) (p : Addr) (ns : List Str) (f : Str -> List PyData) : Prop := ∃ m, H p = some (.dK (tH m)) /\ m.map (·.1) = ns /\ ∀ x ∈ m, ∃ l, x.2 = .ref l /\ cj H l (f x.1)
section
variable {σ : St} {H H' : Hp} {Q : VK} {K : PySem.W.Frag} {p l : Addr} {ns : List Str} {f : Str -> List PyData} {k : Str}
theorem mK.keeps (s : ai H H') (h : mK H p ns f) : mK H' p ns f := by
 obtain ⟨m, e, hn, hl⟩ := h
 exact ⟨m, s _ _ e, hn, fun x hx => let ⟨l, e1, e2⟩ := hl x hx; ⟨l, e1, e2.keeps s⟩⟩
theorem mK.mv {S : List Addr} (v : Mv S H H') (n : p ∉ S) (nl : ∀ b ∈ S, ∀ ds, ¬ cj H b ds) (h : mK H p ns f) : mK H' p ns f := by
 obtain ⟨m, e, hn, hl⟩ := h
 exact ⟨m, v.at n e, hn, fun x hx => let ⟨l, e1, e2⟩ := hl x hx; ⟨l, e1, e2.mv v fun z => nl l z _ e2⟩⟩
theorem uR (h : eW H p []) : mK H p [] f := by
 obtain ⟨kvs, e, d⟩ := h
 cases d
 exact ⟨[], e, rfl, fun x hx => by simp at hx⟩
theorem vp {R : Hp -> Prop} (hp : mK H p ns f) (hl : ns.length <= 4000) (hk : k ∉ ns) (hv : cj H l (f k)) (h : ∀ H2, Mv [p] H H2 -> mK H2 p (ns ++ [k]) f -> R H2) : ∃ a H4, V.ref p = .ref a /\ k8 H a (.str k) (.ref l) H4 /\ R H4 := by
 obtain ⟨m, e, rfl, ha⟩ := hp
 have mv : Mv [p] H (upd H p (.dK (putK (tH m) (.inr k) (.ref l)))) := .dN e (by intro _ z; cases z)
 have nl : ∀ {b : Addr} {ds : List PyData}, cj H b ds -> b ∉ [p] := fun {b ds} hb z => by
  obtain ⟨xs, e2, _⟩ := hb
  rw [List.mem_singleton.mp z, e] at e2; cases e2
 refine ⟨p, _, rfl, k8.k (k := .inr k) e (by unfold tH; rw [List.length_map]; rw [List.length_map] at hl; exact cT hl), h _ mv ⟨m ++ [(k, .ref l)], by rw [aj, u6 hk], by rw [List.map_append]; rfl, fun x hx => ?_⟩⟩
 rcases List.mem_append.mp hx with hx | hx
 . obtain ⟨l', e1, e2⟩ := ha x hx
   exact ⟨l', e1, e2.mv mv (nl e2)⟩
 . rw [List.mem_singleton.mp hx]
   exact ⟨l, rfl, hv.mv mv (nl hv)⟩
theorem nY {R : V -> Prop} (hp : mK H p ns f) (hk : k ∈ ns) (h : ∀ l, cj H l (f k) -> R (.ref l)) : ∃ a v, V.ref p = .ref a /\ gm H a (.str k) (some v) /\ R v := by
 obtain ⟨m, e, rfl, ha⟩ := hp
 obtain ⟨v, hv, e2⟩ := oK hk
 obtain ⟨l, e1, hl⟩ := ha _ hv
 have e1 : v = .ref l := e1
 subst e1
 exact ⟨p, _, rfl, by rw [<- e2]; exact gm.k (k := .inr k) e, h l hl⟩
end
section
variable {H H' : Hp} {P : Addr} {pos : Pos} {q : Str}
theorem TabAt.gg (h : TabAt H P pos q) : ∃ ps, H P = some (.gg ps) := by
 rcases h with h | ⟨c, _, h, _⟩
 . exact ⟨_, h⟩
 . exact ⟨_, h⟩
theorem TabAt.ne {b : Addr} {u : HO} (h : TabAt H P pos q) (e : H b = some u) (nt : ∀ ps, u ≠ .gg ps) : b ≠ P := fun z => by
 obtain ⟨ps, hp⟩ := h.gg
 rw [z, hp] at e
 cases e
 exact nt _ rfl
theorem TabAt.r9 {b : Addr} {u : HO} (h : TabAt H P pos q) (e : H b = some u) (nt : ∀ ps, u ≠ .gg ps) (nx : ∀ φ, u ≠ .ext φ) (mv : Mv [b] H H') : TabAt H' P pos q :=
 h.mv mv fun c hc => by
  rw [List.mem_singleton.mp hc]
  exact ⟨h.ne e nt, fun φ z => by rw [e] at z; cases z; exact nx _ rfl⟩
theorem TabAt.Ce {d : Addr} {m : List (Str × PyData)} (h : TabAt H P pos q) (hd : eW H d m) (mv : Mv [d] H H') : TabAt H' P pos q := let ⟨_, e, _⟩ := hd; h.r9 e (by intro _ z; cases z) (by intro _ z; cases z) mv
theorem TabAt.Ax {d : Addr} {ds : List PyData} (h : TabAt H P pos q) (hd : cj H d ds) (mv : Mv [d] H H') : TabAt H' P pos q := let ⟨_, e, _⟩ := hd; h.r9 e (by intro _ z; cases z) (by intro _ z; cases z) mv
theorem TabAt.Bk {d : Addr} {m : List (Str × PyData)} (h : TabAt H P pos q) (hd : eW H d m) : d ≠ P := let ⟨_, e, _⟩ := hd; h.ne e (by intro _ z; cases z)
theorem TabAt.qt {d : Addr} {ds : List PyData} (h : TabAt H P pos q) (hd : cj H d ds) : d ≠ P := let ⟨_, e, _⟩ := hd; h.ne e (by intro _ z; cases z)
theorem TabAt.AK {C : Addr} {v : V} {fs : List (Str × V)} (h : TabAt H P pos q) (hi : pM H v C fs) (mv : Mv [P] H H') : pM H' v C fs := by
 obtain ⟨p, dx, rfl, e⟩ := hi
 exact ⟨p, dx, rfl, mv.at (by simpa using h.ne e (by intro _ z; cases z)) e⟩
theorem TabAt.AX {d : Addr} {m : List (Str × PyData)} (h : TabAt H P pos q) (hd : eW H d m) (mv : Mv [P] H H') : eW H' d m := hd.mv mv (by simpa using h.Bk hd)
theorem TabAt.GD {d : Addr} {ds : List PyData} (h : TabAt H P pos q) (hd : cj H d ds) (mv : Mv [P] H H') : cj H' d ds := hd.mv mv (by simpa using h.qt hd)
theorem TabAt.Fw {d : Addr} {ns : List Str} {f : Str -> List PyData} (h : TabAt H P pos q) (hd : mK H d ns f) (mv : Mv [P] H H') : mK H' d ns f := by
 obtain ⟨_, e, _⟩ := id hd
 exact hd.mv mv (by simpa using h.ne e (by intro _ z; cases z)) fun b hb ds hl => by
  rw [List.mem_singleton.mp hb] at hl
  exact h.qt hl rfl
theorem TabAt.yD {P' : Addr} {pos' : Pos} {q' : Str} (h : TabAt H P pos q) (h' : TabAt H P' pos' q') (ne : P' ≠ P) (mv : Mv [P] H H') : TabAt H' P' pos' q' := h'.mv mv fun b hb => by
 rw [List.mem_singleton.mp hb]
 refine ⟨Ne.symm ne, fun φ z => ?_⟩
 obtain ⟨ps, hp⟩ := h.gg
 rw [hp] at z; cases z
theorem nV {te : TE} {js : List Nat} {σ : St} {v : V} {Q : VK} {E : XK} (h : te (some v :: js.map fun j => σ.getD j none) H Q) : o6 te js σ [v] H Q E := ⟨v, rfl, h⟩
end
end L2
set_option maxHeartbeats 4000000
namespace My
open PySem L2
local macro_rules | `(tactic| walk_at "same") => `(tactic| first
 | exact ai.refl _
 | assumption
 | (refine' ai.trans ?m ?s; (case s => assumption); (case m => walk_at "same")))
local macro_rules | `(tactic| walk_at "at") => `(tactic| first
 | assumption
 | exact aj
 | (refine' ai.at ?s ?m; (case s => assumption); (case m => walk_at "at")))
local macro_rules | `(tactic| walk_at "dat") => `(tactic| first
 | exact Dv.int _
 | exact Dv.aO
 | exact Dv.bl _
 | exact Dv.str _
 | assumption
 | (refine' Dv.keeps ?s ?m; (case s => assumption); (case m => walk_at "dat")))
local macro_rules | `(tactic| walk_at "ins") => `(tactic| first
 | assumption
 | (refine' pM.keeps ?s ?m; (case s => assumption); (case m => walk_at "ins")))
local macro_rules | `(tactic| walk_at "dats") => `(tactic| first
 | exact bE.nil
 | (refine' bE.cons ?m ?s; (case m => walk_at "dat"); (case s => walk_at "dats"))
 | assumption
 | (refine' bE.keeps ?s ?m; (case s => assumption); (case m => walk_at "dats")))
local macro_rules | `(tactic| walk_at "sql") => `(tactic| first
 | assumption
 | (refine' ai.seq ?s ?m; (case s => assumption); (case m => walk_at "sql")))
local macro_rules | `(tactic| walk_at "isq") => `(tactic| first
 | (refine' Or.inl ?m; case m => walk_at "dat")
 | (refine' Or.inr ?m; case m => walk_at "dat"))
set_option hygiene false in
local macro_rules | `(tactic| walk_at "side") => `(tactic| first
 | omega
 | assumption
 | exact (by decide)
 | exact Am (by omega) (by omega)
 | exact ⟨by decide, by decide, by decide⟩)
set_option hygiene false in
local macro_rules | `(tactic| walk_at "use") => `(tactic| fail)
set_option hygiene false in
local macro_rules | `(tactic| walk_at "lk") => `(tactic| fail)
set_option hygiene false in
local macro_rules | `(tactic| walk_at "put") => `(tactic| fail)
set_option hygiene false in
local macro_rules | `(tactic| walk_at "fin") => `(tactic| fail)
set_option hygiene false in
local macro_rules | `(tactic| walk_at "wds") => `(tactic| first
 | with_reducible refine nh (ws := [_]) rfl ?_
 | with_reducible refine nh (ws := [_, _]) rfl ?_
 | with_reducible refine nh (ws := [_, _, _]) rfl ?_
 | with_reducible refine nh (ws := [_, _, _, _]) rfl ?_
 | with_reducible refine nh (ws := [_, _, _, _, _]) rfl ?_
 | with_reducible refine nh (ws := [_, _, _, _, _, _]) rfl ?_
 | with_reducible refine nh (ws := []) rfl ?_)
set_option hygiene false in
local macro_rules | `(tactic| walk_at "mks") => `(tactic| first
 | fail)
local macro_rules | `(tactic| walk_at "br") => `(tactic| ((with_reducible refine Av (fun hb => ?_) (fun hb => ?_)) <;> (try simp only [id, decide_eq_true_eq, decide_eq_false_iff_not, Bool.not_eq_true', Bool.not_eq_false', Bool.not_true, Bool.not_false, V.int.injEq, Bool.true_eq_false, Bool.false_eq_true, reduceCtorEq, decide_true, decide_false, not_true, not_false_iff, PyData.eqv, PyData.eqvAll, Bool.and_eq_true, Bool.and_eq_false_iff, Bool.or_eq_true, Bool.or_eq_false_iff, beq_iff_eq, beq_eq_false_iff_ne, ne_eq, bne_iff_ne, Bool.and_true, Bool.and_false, Bool.and_self, beq_self_eq_true, isInt, isBool, isStr, v5, isTup, zX, List.length_cons, List.length_nil] at hb) <;> (try (exfalso; omega)) <;> (try (exfalso; (refine' DH hb ?d); (case d => walk_at "dat")))))
local macro_rules | `(tactic| walk_at "rd1") => `(tactic| first
 | with_reducible refine xI ?_
 | with_reducible refine zQ ?_
 | with_reducible refine zS ?_
 | with_reducible refine xE ?_
 | with_reducible refine Bc ?_
 | ((with_reducible refine' Al ?e ?_); case e => exact rfl)
 | with_reducible refine GI ?_
 | with_reducible refine Dg ?_
 | with_reducible refine Ec ?_
 | with_reducible refine C0 ?_
 | ((with_reducible refine' FU ?e ?_); case e => walk_at "side")
 | with_reducible refine F1 ?_
 | with_reducible refine yj ?_
 | with_reducible refine zb ?_
 | with_reducible refine t4 ?_
 | with_reducible refine D1 ?_
 | with_reducible refine xi ?_
 | with_reducible refine Bd ?_
 | with_reducible refine C7 ?_
 | with_reducible refine Bl ?_
 | with_reducible refine wz ?_
 | with_reducible refine x3 ?_
 | with_reducible refine Dx ?_
 | with_reducible refine yM ?_
 | with_reducible refine se ?_
 | with_reducible refine ph ?_
 | walk_at "br"
 | with_reducible refine yz ?_
 | ((with_reducible refine' zk ?e ?_); case e => exact rfl)
 | ((with_reducible refine' qZ ?e1 ?e2 ?e3 ?e4 ?e5 ?_); (case e1 => walk_at "dat"); (case e2 => walk_at "dat"); (case e3 => first | rfl | assumption); (case e4 => first | rfl | assumption); (case e5 => first | exact Nat.le_of_ble_eq_true rfl | assumption))
 | ((with_reducible refine' kg ?e1 ?e2 ?_); (case e1 => walk_at "isq"); (case e2 => exact rfl))
 | ((with_reducible refine' rK ?e ?_); case e => walk_at "isq")
 | ((with_reducible refine' xA ?e ?_); case e => walk_at "sql")
 | with_reducible refine wQ ?_
 | ((with_reducible refine' wH ?e (fun _ _ => ?_)); case e => walk_at "side")
 | with_reducible refine D8 ?_
 | with_reducible refine xj ?_
 | ((with_reducible refine' uh ?e1 ?e2 ?e3 ?e4 ?e5 ?_); (case e1 => walk_at "at"); (case e2 => assumption); (case e3 => assumption); (case e4 => exact uU rfl); (case e5 => walk_at "put"))
 | ((with_reducible refine' yi ?e1 ?e2 ?e3 ?e4 ?_); (case e1 => walk_at "ins"); (case e2 => assumption); (case e3 => assumption); (case e4 => walk_at "lk"))
 | ((with_reducible refine' t6 ?e1 ?e2 ?_); (case e1 => walk_at "ins"); (case e2 => walk_at "lk"))
 | ((with_reducible refine' pW ?e ?_); case e => walk_at "dat")
 | ((with_reducible refine' pF ?e ?_); case e => walk_at "dat")
 | with_reducible refine tQ ?_
 | with_reducible refine eU ?_
 | with_reducible refine yG ?_
 | ((with_reducible refine' wG ?e1 ?e2 (fun _ _ _ _ => ?_)); (case e1 => exact vP rfl); (case e2 => walk_at "dats"))
 | with_reducible refine yu ?_
 | with_reducible refine xh ?_
 | with_reducible refine zf ?_
 | with_reducible refine Bh ?_
 | with_reducible refine uT ?_
 | with_reducible refine uB ?_
 | walk_at "wds"
 | walk_at "mks"
 | walk_at "use"
 | walk_at "fin")
local macro_rules | `(tactic| walk_at "lat") => `(tactic| first
 | assumption
 | (refine' cj.keeps ?s ?m; (case s => assumption); (case m => walk_at "lat"))
 | (refine' cj.mv ?s ?n ?m; (case s => assumption); (case n => walk_at "nin"); (case m => walk_at "lat"))
 | fail)
local macro_rules | `(tactic| walk_at "nin") => `(tactic| first
 | (refine' ro ?n1; (case n1 => walk_at "ne"))
 | fail)
local macro_rules | `(tactic| walk_at "ne") => `(tactic| first
 | assumption
 | (refine Ne.symm ?_; assumption)
 | (refine' cj.ne ?h ?n; (case n => assumption); (case h => walk_at "lat"))
 | (refine' Ne.symm (cj.ne ?h ?n); (case n => assumption); (case h => walk_at "lat"))
 | fail)
local macro_rules | `(tactic| walk_at "dla") => `(tactic| first
 | assumption
 | (refine' eW.keeps ?s ?m; (case s => assumption); (case m => walk_at "dla"))
 | (refine' eW.mv ?s ?n ?m; (case s => assumption); (case n => walk_at "nin"); (case m => walk_at "dla"))
 | fail)
local macro_rules | `(tactic| walk_at "ne") => `(tactic| first
 | (refine' eW.ne ?h ?n; (case n => assumption); (case h => walk_at "dla"))
 | (refine' Ne.symm (eW.ne ?h ?n); (case n => assumption); (case h => walk_at "dla"))
 | fail)
local macro_rules | `(tactic| walk_at "imm") => `(tactic| first
 | rfl
 | assumption
 | exact bU (fun _ => rfl) _
 | (refine' cj.jO ?h; (case h => assumption))
 | fail)
local macro_rules | `(tactic| walk_at "dm") => `(tactic| first
 | exact fun _ h => h
 | (refine' tm ?a ?b; (case b => first | (refine' ai.Hk ?c; (case c => assumption)) | (refine' Mv.dm ?c; (case c => assumption)) | fail); (case a => walk_at "dm"))
 | fail)
local macro_rules | `(tactic| walk_at "none") => `(tactic| first
 | assumption
 | (refine' wg ?s ?m; (case m => assumption); (case s => walk_at "dm"))
 | fail)
local macro_rules | `(tactic| walk_at "same") => `(tactic| first
 | (refine' Mv.zi ?s ?m ?n; (case m => assumption); (case s => walk_at "same"); (case n => walk_at "none"))
 | fail)
local macro_rules | `(tactic| walk_at "mv") => `(tactic| first
 | exact Mv.refl
 | assumption
 | (refine' Mv.jw ?m ?s; (case s => assumption); (case m => walk_at "mv"))
 | (refine' Mv.step ?m ?s ?h; (case s => assumption); (case m => walk_at "mv"); (case h => walk_at "ours"))
 | fail)
set_option hygiene false in
local macro_rules | `(tactic| walk_at "ours") => `(tactic| first
 | fail)
local macro_rules | `(tactic| walk_at "dat") => `(tactic| first
 | (refine' cj.dv ?m; (case m => walk_at "lat"))
 | fail)
local macro_rules | `(tactic| walk_at "dats") => `(tactic| first
 | (refine' Mv.xO ?s ?i ?m; (case s => assumption); (case i => walk_at "imm"); (case m => walk_at "dats"))
 | fail)
set_option hygiene false in
local macro_rules | `(tactic| walk_at "len") => `(tactic| first
 | (simp only [List.length_map, List.length_append, List.length_cons, List.length_nil]; omega)
 | omega
 | fail)
local macro_rules | `(tactic| walk_at "rd1") => `(tactic| first
 | ((with_reducible refine' zI ?e ?_); case e => walk_at "dat")
 | with_reducible refine C4 ?_
 | with_reducible refine w9 (fun _ _ _ _ _ => ?_)
 | with_reducible refine uP ?_
 | with_reducible refine u5 ?_
 | with_reducible refine yx ?_
 | with_reducible refine vk ?_
 | ((with_reducible refine' xr ?e1 ?e2 ?e3 ?e4 (fun _ _ _ => ?_)); (case e1 => walk_at "dla"); (case e3 => walk_at "dat"); (case e2 => walk_at "len"); (case e4 => walk_at "imm"))
 | ((with_reducible refine' um ?e1 ?_); (case e1 => walk_at "dla"))
 | with_reducible refine tY ?_
 | with_reducible refine DF ?_
 | with_reducible refine Ak ?_
 | ((with_reducible refine' zR ?e ?_); case e => walk_at "lat")
 | ((with_reducible refine' zt ?e1 ?e2 ?e3 ?e4 (fun _ _ _ => ?_)); (case e1 => walk_at "lat"); (case e3 => walk_at "dat"); (case e2 => walk_at "len"); (case e4 => walk_at "imm"))
 | ((with_reducible refine' Bo ?e1 (fun _ _ _ => ?_)); (case e1 => walk_at "lat"))
 | ((with_reducible refine' wO ?e1 ?e2 ?e3 (fun _ _ _ _ _ => ?_)); (case e1 => exact vP rfl); (case e2 => walk_at "dats"); (case e3 => exact rfl))
 | with_reducible refine Ci ?_
 | with_reducible refine wD ?_
 | with_reducible refine uN ?_
 | with_reducible refine Aj ?_
 | ((with_reducible refine' Aw ?e ?_); case e => walk_at "dat")
 | ((with_reducible refine' qE ?e ?_); case e => walk_at "len")
 | ((with_reducible refine' wV ?e ?_); case e => walk_at "dat")
 | ((with_reducible refine' kg ?e1 ?e2 ?_); (case e1 => walk_at "isq"); (case e2 => first | exact y1 | (refine' ti ?a ?b; (case a => omega); (case b => walk_at "len")) | fail))
 | fail)
set_option hygiene false in
local macro_rules | `(tactic| walk_at "rd1") => `(tactic| first
 | fail)
local macro_rules | `(tactic| walk_at "rd1") => `(tactic| first
 | ((with_reducible refine' tR ?e1 ?e2 (fun _ _ _ _ _ _ _ _ => ?_)); (case e1 => walk_at "dat"); (case e2 => walk_at "len"))
 | fail)
set_option hygiene false in
local macro_rules | `(tactic| walk_at "rd1") => `(tactic| first
 | fail)
set_option hygiene false in
local macro_rules | `(tactic| walk_at "rd1") => `(tactic| first
 | fail)
set_option hygiene false in
local macro_rules | `(tactic| walk_at "rd1") => `(tactic| first
 | fail)
set_option hygiene false in
local macro_rules | `(tactic| walk_at "rd1") => `(tactic| first
 | fail)
set_option hygiene false in
local macro_rules | `(tactic| walk_at "rd1") => `(tactic| first
 | fail)
set_option hygiene false in
local macro_rules | `(tactic| walk_at "rd1") => `(tactic| first
 | with_reducible refine yy ?_
 | fail)
def top (i : Nat) : Stmt := PySem.Challenge.pw_wakefew_k21_groups_in_chains.main.body.getD i (.Pass ⟨0, 0, 0, 0⟩)
set_option hygiene false in
local macro_rules | `(tactic| walk_at "scp") => `(tactic| exact ⟨rfl, rfl, rfl, by decide +kernel, rfl, by decide +kernel, by decide +kernel⟩)
abbrev cH : Stmt := inClass (top 8) 0
theorem gD : aP ["self"] ["self"] (ax cH) := by walk_at "scp"
abbrev fb : Stmt := inClass (top 8) 1
theorem jY : aP ["self", "name", "above"] ["self", "name", "above"] (ax fb) := by walk_at "scp"
abbrev eX : Stmt := inClass (top 8) 2
theorem j3 : aP ["self", "name"] ["self", "name"] (ax eX) := by walk_at "scp"
abbrev cA : Stmt := inClass (top 8) 6
theorem iO : aP ["self", "name"] ["self", "name"] (ax cA) := by walk_at "scp"
abbrev dq : Stmt := inClass (top 8) 7
theorem iA : aP ["self", "name"] ["self", "name"] (ax dq) := by walk_at "scp"
abbrev dM : Stmt := inClass (top 8) 8
theorem dh : aP ["self", "name", "names"] ["self", "name"] (ax dM) := by walk_at "scp"
abbrev b8 : Stmt := inClass (top 8) 9
theorem ib : aP ["self", "name"] ["self", "name"] (ax b8) := by walk_at "scp"
abbrev dn : Stmt := inClass (top 8) 10
theorem ie : aP ["self"] ["self"] (ax dn) := by walk_at "scp"
abbrev bL : Stmt := inClass (top 8) 11
theorem fj : aP ["self", "name"] ["self", "name"] (ax bL) := by walk_at "scp"
abbrev cu : Stmt := inClass (top 8) 12
theorem gM : aP ["self", "name"] ["self", "name"] (ax cu) := by walk_at "scp"
abbrev dY : Stmt := top 10
theorem iP : aP ["_law_script", "_law_k"] ["_law_script", "_law_k"] (ax dY) := by walk_at "scp"
abbrev fS : Stmt := top 11
theorem gY : aP ["_law_k", "_law_style", "_law_some"] ["_law_k", "_law_style"] (ax fS) := by walk_at "scp"
abbrev e9 : Stmt := top 12
theorem en : aP ["_law_uppers", "_law_name_here", "_law_found"] ["_law_uppers", "_law_name_here"] (ax e9) := by walk_at "scp"
abbrev ft : Stmt := top 13
theorem cU : aP ["_law_uppers", "_law_cell", "_law_names", "_law_name_here"] ["_law_uppers", "_law_cell"] (ax ft) := by walk_at "scp"
abbrev dj : Stmt := top 14
theorem cR : aP ["_law_found", "_law_name_here", "_law_uppers", "_law_one", "_law_k"] ["_law_found", "_law_name_here", "_law_uppers"] (ax dj) := by walk_at "scp"
abbrev cS : Stmt := top 15
theorem aS : aP ["_law_told", "_law_uppers", "_law_chains", "_law_name_here", "_law_found", "_law_inner", "_law_due"] ["_law_told", "_law_uppers"] (ax cS) := by walk_at "scp"
abbrev rX : Stmt := top 16
theorem dS : aP ["_law_script", "_law_style", "_law_told", "_law_uppers", "_law_when", "_law_k", "_law_cell", "_law_name_here", "_law_above_here", "_law_made"] ["_law_script"] (ax rX) := by walk_at "scp"
abbrev iC : Pos := ⟨71, 41, 71, 81⟩
abbrev iB : Str := ("Groups.all_of" ++ ".<locals>.") ++ "<lambda>"
abbrev i7 : Pos := ⟨138, 81, 138, 136⟩
abbrev jn : Str := ("_law_stands" ++ ".<locals>.") ++ "<lambda>"
theorem d7 : ¬ (("above_of" : Str) = "marks") := by decide +kernel
theorem ei : ¬ (("marks" : Str) = "above_of") := by decide +kernel
theorem cY : ¬ (("__init__" : Str) = "above_of") := by decide +kernel
theorem d6 : ¬ (("__init__" : Str) = "marks") := by decide +kernel
theorem fB : ¬ (("add" : Str) = "above_of") := by decide +kernel
theorem hG : ¬ (("add" : Str) = "marks") := by decide +kernel
theorem fz : ¬ (("has" : Str) = "above_of") := by decide +kernel
theorem g5 : ¬ (("has" : Str) = "marks") := by decide +kernel
theorem eh : ¬ (("sleep" : Str) = "above_of") := by decide +kernel
theorem fU : ¬ (("sleep" : Str) = "marks") := by decide +kernel
theorem eK : ¬ (("wake" : Str) = "above_of") := by decide +kernel
theorem gv : ¬ (("wake" : Str) = "marks") := by decide +kernel
theorem fM : ¬ (("end" : Str) = "above_of") := by decide +kernel
theorem g0 : ¬ (("end" : Str) = "marks") := by decide +kernel
theorem ef : ¬ (("awake" : Str) = "above_of") := by decide +kernel
theorem f6 : ¬ (("awake" : Str) = "marks") := by decide +kernel
theorem dW : ¬ (("marked" : Str) = "above_of") := by decide +kernel
theorem fG : ¬ (("marked" : Str) = "marks") := by decide +kernel
theorem ej : ¬ (("chain" : Str) = "above_of") := by decide +kernel
theorem fW : ¬ (("chain" : Str) = "marks") := by decide +kernel
theorem dJ : ¬ (("within" : Str) = "above_of") := by decide +kernel
theorem fw : ¬ (("within" : Str) = "marks") := by decide +kernel
theorem dH : ¬ (("all_of" : Str) = "above_of") := by decide +kernel
theorem fH : ¬ (("all_of" : Str) = "marks") := by decide +kernel
theorem bZ : ¬ (("check_stands" : Str) = "above_of") := by decide +kernel
theorem cK : ¬ (("check_stands" : Str) = "marks") := by decide +kernel
theorem cX : ¬ (("depth_of" : Str) = "above_of") := by decide +kernel
theorem d8 : ¬ (("depth_of" : Str) = "marks") := by decide +kernel
theorem b7 : ¬ (("awake_within" : Str) = "above_of") := by decide +kernel
theorem cL : ¬ (("awake_within" : Str) = "marks") := by decide +kernel
theorem dU : ¬ (("unmark" : Str) = "above_of") := by decide +kernel
theorem fv : ¬ (("unmark" : Str) = "marks") := by decide +kernel
set_option hygiene false in
local macro_rules | `(tactic| walk_at "lk") => `(tactic| first
 | assumption
 | (rw [iD]; ((conv => lhs; simp only [look, reduceIte, d7, ei, cY, d6, fB, hG, fz, g5, eh, fU, eK, gv, fM, g0, ef, f6, dW, fG, ej, fW, dJ, fw, dH, fH, bZ, cK, cX, d8, b7, cL, dU, fv]) <;> exact rfl)))
set_option hygiene false in
local macro_rules | `(tactic| walk_at "put") => `(tactic| ((conv => lhs; simp only [eC, reduceIte, d7, ei, cY, d6, fB, hG, fz, g5, eh, fU, eK, gv, fM, g0, ef, f6, dW, fG, ej, fW, dJ, fw, dH, fH, bZ, cK, cX, d8, b7, cL, dU, fv]) <;> exact rfl))
structure nS (K : PySem.W.Frag) (x q : Str) (s : Stmt) (d : Value) (f : Addr) : Prop where
 a : PySem.W.nsIn K mainGlobals x = some (some (.ref f))
 l : ∃ fd, cQ K x q s f d fd
 k : PySem.W.keepIn K (.ref f) = true
structure jT (K : PySem.W.Frag) (C : Addr) (x q : Str) (s : Stmt) (d : Value) (f : Addr) : Prop where
 a : PySem.W.findIn K (.ref C) x = some (some (.ref f))
 l : ∃ fd, cQ K x q s f d fd
 k : PySem.W.keepIn K (.ref f) = true
 i : PySem.W.isFn K (.ref f) = true
structure Dh (K : PySem.W.Frag) (C : Addr) : Prop where
 pg : PySem.W.plainGet K C Str.empty = true
 hd : PySem.W.hasDictIn K C = true
 po : PySem.W.plainOver K C = true
 sa : PySem.W.findIn K (.ref C) "__setattr__" = some (some (.builtin "object.__setattr__"))
 t1 : PySem.W.findIn K (.ref C) "__class__" = some (some (.builtin "object.__class__"))
 t2 : PySem.W.mroIn K C (.type "object") = some true
 t3 : PySem.W.typeIn K (.ref C) = some (.type "type")
theorem tT {K : PySem.W.Frag} {t : Addr} {xs : Array Value} {n : Nat} {d : Option Addr} {z : Array (Option Value)} {c : Value} (l : K.lookup t = some ⟨c, d, .seq xs n, z⟩) : yd K t xs := ⟨⟨_, _, l, rfl⟩⟩
set_option genSizeOf false in
set_option genInjectivity false in
structure Ad where
 aG : Addr
 dI : FuncData
 bu : Addr
 gp : FuncData
 bK : Addr
 bG : Addr
 gu : FuncData
 a8 : Addr
 fJ : FuncData
 aV : Addr
 eE : FuncData
 bf : Addr
 fK : FuncData
 aW : Addr
 eL : FuncData
 aJ : Addr
 cP : FuncData
 bD : Addr
 ah : Addr
 aA : Addr
 cG : FuncData
 aF : Addr
 dE : FuncData
 aU : Addr
 fD : FuncData
 bF : Addr
 gX : FuncData
 bw : Addr
 gq : FuncData
 bx : Addr
 gx : FuncData
 aI : Addr
 eI : FuncData
 aQ : Addr
 dG : FuncData
 bT : Addr
 ao : Addr
 kr : Addr
 lh : FuncData
 ae : Addr
 tabs : List Addr
 cw : Tok
structure Txt (K : PySem.W.Frag) (mg : Str -> Option Value) (a : Ad) : Prop where
 cJ : cQ K "__init__" "Groups.__init__" cH a.aG (.none) a.dI
 dt : cQ K "add" "Groups.add" fb a.bu (.ref a.bK) a.gp
 fc : yd K a.bK #[.none]
 eO : cQ K "has" "Groups.has" eX a.bG (.none) a.gu
 dR : cQ K "awake" "Groups.awake" cA a.a8 (.none) a.fJ
 de : cQ K "marked" "Groups.marked" dq a.aV (.none) a.eE
 dZ : cQ K "chain" "Groups.chain" dM a.bf (.none) a.fK
 c9 : cQ K "within" "Groups.within" b8 a.aW (.none) a.eL
 dg : cQ K "all_of" "Groups.all_of" dn a.aJ (.none) a.cP
 a0 : yw K a.cP a.bD a.ah
 bW : a.ah ∈ a.tabs
 bM : cQ K "check_stands" "Groups.check_stands" bL a.aA (.none) a.cG
 cq : cQ K "depth_of" "Groups.depth_of" cu a.aF (.none) a.dE
 d3 : cQ K "_law_cell_at" "_law_cell_at" dY a.aU (.none) a.fD
 fL : PySem.W.keepIn K (.ref a.aU) = true
 fA : mg "_law_cell_at" = some (.ref a.aU)
 fP : cQ K "_law_name" "_law_name" fS a.bF (.none) a.gX
 eV : PySem.W.keepIn K (.ref a.bF) = true
 fm : mg "_law_name" = some (.ref a.bF)
 eT : cQ K "_law_chain" "_law_chain" e9 a.bw (.none) a.gq
 ek : PySem.W.keepIn K (.ref a.bw) = true
 er : mg "_law_chain" = some (.ref a.bw)
 fg : cQ K "_law_above" "_law_above" ft a.bx (.none) a.gx
 gB : PySem.W.keepIn K (.ref a.bx) = true
 gy : mg "_law_above" = some (.ref a.bx)
 dr : cQ K "_law_chain_is" "_law_chain_is" dj a.aI (.none) a.eI
 eA : PySem.W.keepIn K (.ref a.aI) = true
 eJ : mg "_law_chain_is" = some (.ref a.aI)
 et : cQ K "_law_stands" "_law_stands" cS a.aQ (.none) a.dG
 cB : PySem.W.keepIn K (.ref a.aQ) = true
 cE : mg "_law_stands" = some (.ref a.aQ)
 bC : yw K a.dG a.bT a.ao
 cI : a.ao ∈ a.tabs
 qP : cQ K "law" "law" rX a.kr (.none) a.lh
 qX : mg "law" = some (.ref a.kr)
 ky : mg "Groups" = some (.ref a.ae)
 aw : j4 K a.ae
 ay : cz K a.ae "above_of"
 az : cz K a.ae "marks"
 lQ : Mk K a.ae a.aG
 eN : Meth K a.ae "add" a.bu
 dB : Meth K a.ae "has" a.bG
 fV : Meth K a.ae "awake" a.a8
 di : Meth K a.ae "marked" a.aV
 bR : Meth K a.ae "chain" a.bf
 fE : Meth K a.ae "within" a.aW
 dc : Meth K a.ae "all_of" a.aJ
 aM : Meth K a.ae "check_stands" a.aA
 cD : Meth K a.ae "depth_of" a.aF
 uD : ∀ b ∈ a.tabs, b = a.ah \/ b = a.ao
 aC : a.ah ≠ a.ao
 gw : mg "MOST_DEPTH" = some (.int 8 a.cw)
 lg : mg "any" = none
 dD : mg "enumerate" = none
 bB : mg "isinstance" = none
 dO : mg "len" = none
 eY : mg "list" = none
 hE : mg "range" = none
 cM : mg "sorted" = none
 kW : mg "str" = none
theorem yJ {K : PySem.W.Frag} {h : Heap} {mg : Str -> Option Value} {aG bu bK bG a8 aV bf aW aJ bD ah aA aF aU bF bw bx aI aQ bT ao kr ae : Addr} {cw : Tok} {tabs : List Addr}  (X : K.In h) (G : h.Ns mainGlobals mg)
 (pY : PySem.W.nsIn K mainGlobals "Groups" = some (some (.ref ae)))
 (bN : jT K ae "__init__" "Groups.__init__" cH (.none) aG)
 (cC : jT K ae "add" "Groups.add" fb (.ref bK) bu)
 (kN : yd K bK #[.none])
 (cF : jT K ae "has" "Groups.has" eX (.none) bG)
 (bQ : jT K ae "awake" "Groups.awake" cA (.none) a8)
 (bI : jT K ae "marked" "Groups.marked" dq (.none) aV)
 (bV : jT K ae "chain" "Groups.chain" dM (.none) bf)
 (bJ : jT K ae "within" "Groups.within" b8 (.none) aW)
 (bp : jT K ae "all_of" "Groups.all_of" dn (.none) aJ)
 (iz : vf K aJ bD ah)
 (bW : ah ∈ tabs)
 (aN : jT K ae "check_stands" "Groups.check_stands" bL (.none) aA)
 (bq : jT K ae "depth_of" "Groups.depth_of" cu (.none) aF)
 (cm : nS K "_law_cell_at" "_law_cell_at" dY (.none) aU)
 (d9 : nS K "_law_name" "_law_name" fS (.none) bF)
 (dz : nS K "_law_chain" "_law_chain" e9 (.none) bw)
 (dA : nS K "_law_above" "_law_above" ft (.none) bx)
 (b9 : nS K "_law_chain_is" "_law_chain_is" dj (.none) aI)
 (bX : nS K "_law_stands" "_law_stands" cS (.none) aQ)
 (jF : vf K aQ bT ao)
 (cI : ao ∈ tabs)
 (qQ : nS K "law" "law" rX (.none) kr)
 (aw : Dh K ae)
 (ay : PySem.W.findIn K (.ref ae) "above_of" = some none)
 (az : PySem.W.findIn K (.ref ae) "marks" = some none)
 (qp : PySem.W.makesIn K ae = true)
 (qd : PySem.W.keepIn K (.ref ae) = true)
 (uD : ∀ b ∈ tabs, b = ah \/ b = ao)
 (aC : (ah == ao) = false)
 (jS : PySem.W.nsIn K mainGlobals "MOST_DEPTH" = some (some (.int 8 cw)))
 (lg : PySem.W.nsIn K mainGlobals "any" = some none)
 (dD : PySem.W.nsIn K mainGlobals "enumerate" = some none)
 (bB : PySem.W.nsIn K mainGlobals "isinstance" = some none)
 (dO : PySem.W.nsIn K mainGlobals "len" = some none)
 (eY : PySem.W.nsIn K mainGlobals "list" = some none)
 (hE : PySem.W.nsIn K mainGlobals "range" = some none)
 (cM : PySem.W.nsIn K mainGlobals "sorted" = some none)
 (kW : PySem.W.nsIn K mainGlobals "str" = some none)
 : ∃ a : Ad, a.tabs = tabs /\ Txt K mg a :=
 ⟨⟨aG, bN.l.choose, bu, cC.l.choose, bK, bG, cF.l.choose, a8, bQ.l.choose, aV, bI.l.choose, bf, bV.l.choose, aW, bJ.l.choose, aJ, bp.l.choose, bD, ah, aA, aN.l.choose, aF, bq.l.choose, aU, cm.l.choose, bF, d9.l.choose, bw, dz.l.choose, bx, dA.l.choose, aI, b9.l.choose, aQ, bX.l.choose, bT, ao, kr, qQ.l.choose, ae, tabs, cw⟩, rfl, {
   cJ := bN.l.choose_spec,
   dt := cC.l.choose_spec,
   fc := kN,
   eO := cF.l.choose_spec,
   dR := bQ.l.choose_spec,
   de := bI.l.choose_spec,
   dZ := bV.l.choose_spec,
   c9 := bJ.l.choose_spec,
   dg := bp.l.choose_spec,
   a0 := nZ bp.l.choose_spec iz,
   bW := bW,
   bM := aN.l.choose_spec,
   cq := bq.l.choose_spec,
   d3 := cm.l.choose_spec,
   fL := cm.k,
   fA := PySem.W.mg_of X G cm.a,
   fP := d9.l.choose_spec,
   eV := d9.k,
   fm := PySem.W.mg_of X G d9.a,
   eT := dz.l.choose_spec,
   ek := dz.k,
   er := PySem.W.mg_of X G dz.a,
   fg := dA.l.choose_spec,
   gB := dA.k,
   gy := PySem.W.mg_of X G dA.a,
   dr := b9.l.choose_spec,
   eA := b9.k,
   eJ := PySem.W.mg_of X G b9.a,
   et := bX.l.choose_spec,
   cB := bX.k,
   cE := PySem.W.mg_of X G bX.a,
   bC := nZ bX.l.choose_spec jF,
   cI := cI,
   qP := qQ.l.choose_spec,
   qX := PySem.W.mg_of X G qQ.a,
   ky := PySem.W.mg_of X G pY,
   aw := ⟨aw.pg, aw.hd, aw.po, aw.sa⟩,
   ay := ay,
   az := az,
   lQ := ⟨qp, bN.a, bN.i, qd⟩,
   eN := ⟨cC.a, cC.i, cC.k⟩,
   dB := ⟨cF.a, cF.i, cF.k⟩,
   fV := ⟨bQ.a, bQ.i, bQ.k⟩,
   di := ⟨bI.a, bI.i, bI.k⟩,
   bR := ⟨bV.a, bV.i, bV.k⟩,
   fE := ⟨bJ.a, bJ.i, bJ.k⟩,
   dc := ⟨bp.a, bp.i, bp.k⟩,
   aM := ⟨aN.a, aN.i, aN.k⟩,
   cD := ⟨bq.a, bq.i, bq.k⟩,
   uD := uD,
   aC := ne_of_beq_false aC,
   gw := PySem.W.mg_of X G jS,
   lg := PySem.W.mg_none_of X G lg,
   dD := PySem.W.mg_none_of X G dD,
   bB := PySem.W.mg_none_of X G bB,
   dO := PySem.W.mg_none_of X G dO,
   eY := PySem.W.mg_none_of X G eY,
   hE := PySem.W.mg_none_of X G hE,
   cM := PySem.W.mg_none_of X G cM,
   kW := PySem.W.mg_none_of X G kW
 }⟩
inductive Chain (m : List (Str × PyData)) : Str -> List Str -> Prop
 | top {n : Str} : c7 m n = some .none -> Chain m n [n]
 | up {n b : Str} {c : List Str} : c7 m n = some (.str b) -> Chain m b c -> Chain m n (n :: c)
theorem Chain.has {m : List (Str × PyData)} {n : Str} {c : List Str} (h : Chain m n c) : (c7 m n).isSome = true := by
 cases h with
 | top e => rw [e]; rfl
 | up e _ => rw [e]; rfl
theorem Chain.all {m : List (Str × PyData)} {n : Str} {c : List Str} (h : Chain m n c) : ∀ o ∈ c, (c7 m o).isSome = true := by
 induction h with
 | top e =>
   intro o ho
   rw [List.mem_singleton.mp ho, e]; rfl
 | up e _ ih =>
   intro o ho
   rcases List.mem_cons.mp ho with rfl | ho
   . rw [e]; rfl
   . exact ih o ho
theorem Chain.inj {m : List (Str × PyData)} {n : Str} {c d : List Str} (h : Chain m n c) (k : Chain m n d) : c = d := by
 induction h generalizing d with
 | top e =>
   cases k with
   | top _ => rfl
   | up e2 _ => rw [e] at e2; cases e2
 | up e _ ih =>
   cases k with
   | top e2 => rw [e] at e2; cases e2
   | up e2 k2 =>
     rw [e] at e2
     cases e2
     rw [ih k2]
structure lr (C : Addr) (H : Hp) (v : V) (d1 d2 : Addr) (m ms : List (Str × PyData)) : Prop where
 ins : pM H v C [("above_of", .ref d1), ("marks", .ref d2)]
 ab : jQ H d1 m
 mM : jQ H d2 ms
theorem lr.keeps {C : Addr} {H H' : Hp} {v : V} {d1 d2 : Addr} {m ms : List (Str × PyData)} (s : ai H H') (h : lr C H v d1 d2 m ms) : lr C H' v d1 d2 m ms := ⟨h.ins.keeps s, h.ab.keeps s, h.mM.keeps s⟩
local macro_rules | `(tactic| walk_at "grd") => `(tactic| first
 | assumption
 | (refine' lr.keeps ?s ?m; (case s => assumption); (case m => walk_at "grd"))
 | fail)
local macro_rules | `(tactic| walk_at "drd") => `(tactic| first
 | assumption
 | (refine' jQ.keeps ?s ?m; (case s => assumption); (case m => walk_at "drd"))
 | (refine' eW.rd ?m; (case m => walk_at "dla"))
 | fail)
local macro_rules | `(tactic| walk_at "rd1") => `(tactic| first
 | ((with_reducible refine' yB ?e1 (fun _ _ => ?_)); (case e1 => walk_at "drd"))
 | ((with_reducible refine' kP ?e1 ?e2 ?_); (case e1 => walk_at "drd"); (case e2 => assumption))
 | fail)
section
variable {P : Program} {w : World} {K : PySem.W.Frag} {mg : Str -> Option Value} {base : Heap} {a : Ad}
def iq (C : Addr) : Sp := fun vs H Q _ => ∃ v d1 d2 m ms n, vs = [v, .str n] /\ lr C H v d1 d2 m ms /\ (c7 m n).isSome = true /\ Q .aO H
theorem rF {C : Addr} {H : Hp} {Q : VK} {E : XK} {v : V} {d1 d2 : Addr} {m ms : List (Str × PyData)} {n : Str} (h : lr C H v d1 d2 m ms) (hn : (c7 m n).isSome = true) (q : Q .aO H) : iq C [v, .str n] H Q E := ⟨v, d1, d2, m, ms, n, rfl, h, hn, q⟩
theorem p5 (T : Txt K mg a) : bS P w K mg base iH 1 a.aA a.cG ["self", "name"] (iq a.ae) := by
 have n1 := T.ay; have n2 := T.az; have cl := T.aw
 refine T.bM.ok fj (fun vs H Q E h => ?_) (fun d5 A outer s H vs Q E hr h => ?_)
 . obtain ⟨_, _, _, _, _, _, rfl, _⟩ := h; rfl
 . obtain ⟨v, d1, d2, m, ms, n, rfl, hg, hn, q⟩ := h
   have hi := hg.ins; have ha := hg.ab
   refine ⟨_, (au (cb (nN (km (dX hr) (pv 1) (fY (pv 0) rfl)) rfl)
    (au jv)
    aY)), ?_⟩
   repeat' (walk_at "rd1")
   . rename_i o e hb
     rw [e, hn] at hb
     cases hb
   . exact q
theorem fu (T : Txt K mg a) : iV P w K mg base 1 a.aA ["self", "name"] [] (iq a.ae) :=
 ⟨⟨_, _, p5 T, T.bM.binds fun _ _ _ _ _ _ => .all fun us hl => match us, hl with | [_, _], _ => rfl, .nil⟩⟩
def jr (C : Addr) : Sp := fun vs H Q _ => ∃ v d1 d2 m ms n c, vs = [v, .str n] /\ lr C H v d1 d2 m ms /\ Chain m n c /\ c.length <= 60 /\ ∀ q H', ai H H' -> H q = none -> cj H' q (c.map PyData.str) -> Q (.ref q) H'
theorem ux {C : Addr} {H : Hp} {Q : VK} {E : XK} {v : V} {d1 d2 : Addr} {m ms : List (Str × PyData)} {n : Str} {c : List Str} (h : lr C H v d1 d2 m ms) (hc : Chain m n c) (hl : c.length <= 60) (q : ∀ q H', ai H H' -> H q = none -> cj H' q (c.map PyData.str) -> Q (.ref q) H') : jr C [v, .str n] H Q E := ⟨v, d1, d2, m, ms, n, c, rfl, h, hc, hl, q⟩
local macro_rules | `(tactic| walk_at "use") => `(tactic| first
 | ((with_reducible refine' rF ?e1 ?e2 ?_); (case e1 => walk_at "grd"); (case e2 => first | assumption | exact Chain.has (by assumption)))
 | ((with_reducible refine' ux ?e1 ?e2 ?e3 (fun _ _ _ _ _ => ?_)); (case e1 => walk_at "grd"); (case e2 => assumption); (case e3 => assumption))
 | fail)
theorem qT (T : Txt K mg a) : bS P w K mg base iH 2 a.bf a.fK ["self", "name"] (jr a.ae) := by
 have n1 := T.ay; have n2 := T.az; have cl := T.aw
 have bb := T.aM
 have a7 := fu (P := P) (w := w) (base := base) T
 refine T.dZ.ok dh (fun vs H Q E h => ?_) (fun d5 A outer s H vs Q E hr h => ?_)
 . obtain ⟨_, _, _, _, _, _, _, rfl, _⟩ := h; rfl
 . obtain ⟨v, d1, d2, m, ms, n, c, rfl, hg, hc, gb, q⟩ := h
   have hi := hg.ins; have ha := hg.ab
   refine ⟨_, (ak (dC (aX (pv 0) cl bb a7 (hr.mono (by decide)) (af (pv 1) aq)))
    (ak (bA (i := 2) dh.nd rfl (Or.inl rfl) (i6 aq))
    (ak (lD PassesOwn.never (aD iX (pv 1) gG (aT _))
     (ak (dC (rY PySem.F.plainAttrs_list PySem.F.slot_list_append PySem.F.type_list_append ik (pv 2) (af (pv 1) aq)))
     (au (bA (i := 1) dh.nd rfl (Or.inl rfl) (eM (dX hr) (fY (pv 0) rfl) (pv 1) (fun _ _ => rfl))))))
    (au (aK (pv 2)))))), ?_⟩
   repeat' (walk_at "rd1")
   rename_i p H1 jV rE p4
   refine oh (fun r σ' H' => ∃ (acc rest : List Str) (x : V), σ' = [some v, some x, some (.ref p)] /\ ai H H' /\ cj H' p (acc.map PyData.str) /\ acc ++ rest = c /\ r = rest.length /\ ((x = .aO /\ rest = []) \/ ∃ n, x = .str n /\ Chain m n rest)) ⟨_, [], c, _, rfl, jV, p4, rfl, rfl, .inr ⟨n, rfl, hc⟩⟩ ?_
   rintro r σ' H' ⟨acc, rest, x, rfl, mL, xn, oY, rfl, hx⟩
   have ud := hi.keeps mL
   have HI := ha.keeps mL
   have Br : acc.length <= 60 := by rw [<- oY, List.length_append] at gb; omega
   rcases hx with ⟨rfl, rfl⟩ | ⟨n', rfl, nL⟩
   . repeat' (walk_at "rd1")
     rw [List.append_nil] at oY
     subst oY
     exact q _ _ mL rE xn
   . cases nL with
     | top e =>
       repeat' (walk_at "rd1")
       rename_i hb H3 tN vI
       have sm3 : ai H H3 := by walk_at "same"
       have DE := hi.keeps sm3
       have CP := ha.keeps sm3
       repeat' (walk_at "rd1")
       exact ⟨0, Nat.zero_lt_one, acc ++ [n'], [], .aO, rfl, sm3, by rw [List.map_append]; exact vI, by rw [List.append_nil]; exact oY, rfl, .inl ⟨rfl, rfl⟩⟩
     | @up _ b c2 e tO =>
       repeat' (walk_at "rd1")
       rename_i hb H3 tN vI
       have sm3 : ai H H3 := by walk_at "same"
       have DE := hi.keeps sm3
       have CP := ha.keeps sm3
       repeat' (walk_at "rd1")
       exact ⟨c2.length, Nat.lt_succ_self _, acc ++ [n'], c2, .str b, rfl, sm3, by rw [List.map_append]; exact vI, by rw [List.append_assoc]; exact oY, rfl, .inr ⟨b, rfl, tO⟩⟩
theorem f7 (T : Txt K mg a) : iV P w K mg base 2 a.bf ["self", "name"] [] (jr a.ae) :=
 ⟨⟨_, _, qT T, T.dZ.binds fun _ _ _ _ _ _ => .all fun us hl => match us, hl with | [_, _], _ => rfl, .nil⟩⟩
def vF (ms : List (Str × PyData)) (n : Str) : Bool := (c7 ms n).isSome
def ic (C : Addr) : Sp := fun vs H Q _ => ∃ v d1 d2 m ms n, vs = [v, .str n] /\ lr C H v d1 d2 m ms /\ (c7 m n).isSome = true /\ Q (.bl (vF ms n)) H
theorem sh {C : Addr} {H : Hp} {Q : VK} {E : XK} {v : V} {d1 d2 : Addr} {m ms : List (Str × PyData)} {n : Str} (h : lr C H v d1 d2 m ms) (hn : (c7 m n).isSome = true) (q : Q (.bl (vF ms n)) H) : ic C [v, .str n] H Q E := ⟨v, d1, d2, m, ms, n, rfl, h, hn, q⟩
theorem pk (T : Txt K mg a) : bS P w K mg base iH 2 a.aV a.eE ["self", "name"] (ic a.ae) := by
 have n1 := T.ay; have n2 := T.az; have cl := T.aw
 have bb := T.aM
 have a7 := fu (P := P) (w := w) (base := base) T
 refine T.de.ok iA (fun vs H Q E h => ?_) (fun d5 A outer s H vs Q E hr h => ?_)
 . obtain ⟨_, _, _, _, _, _, rfl, _⟩ := h; rfl
 . obtain ⟨v, d1, d2, m, ms, n, rfl, hg, hn, q⟩ := h
   have hi := hg.ins; have ha := hg.mM
   refine ⟨_, (ak (dC (aX (pv 0) cl bb a7 (hr.mono (by decide)) (af (pv 1) aq)))
    (au (aK (qN (mQ (dX hr) (pv 1) (fY (pv 0) rfl)) rfl)))), ?_⟩
   repeat' (walk_at "rd1")
   rename_i o e
   have e' : o.isSome = vF ms n := e
   rw [e']
   exact q
theorem jG (T : Txt K mg a) : iV P w K mg base 2 a.aV ["self", "name"] [] (ic a.ae) :=
 ⟨⟨_, _, pk T, T.de.binds fun _ _ _ _ _ _ => .all fun us hl => match us, hl with | [_, _], _ => rfl, .nil⟩⟩
def jE (C : Addr) : Sp := fun vs H Q _ => ∃ v d1 d2 m ms n c, vs = [v, .str n] /\ lr C H v d1 d2 m ms /\ Chain m n c /\ c.length <= 60 /\ ∀ H', ai H H' -> Q (.int (c.length : Nat)) H'
theorem t9 {C : Addr} {H : Hp} {Q : VK} {E : XK} {v : V} {d1 d2 : Addr} {m ms : List (Str × PyData)} {n : Str} {c : List Str} (h : lr C H v d1 d2 m ms) (hc : Chain m n c) (hl : c.length <= 60) (q : ∀ H', ai H H' -> Q (.int (c.length : Nat)) H') : jE C [v, .str n] H Q E := ⟨v, d1, d2, m, ms, n, c, rfl, h, hc, hl, q⟩
theorem rm (T : Txt K mg a) : bS P w K mg base iH 3 a.aF a.dE ["self", "name"] (jE a.ae) := by
 have cl := T.aw
 have hO := T.bR
 have g7 := f7 (P := P) (w := w) (base := base) T
 refine T.cq.ok gM (fun vs H Q E h => ?_) (fun d5 A outer s H vs Q E hr h => ?_)
 . obtain ⟨_, _, _, _, _, _, _, rfl, _⟩ := h; rfl
 . obtain ⟨v, d1, d2, m, ms, n, c, rfl, hg, hc, gb, q⟩ := h
   have hi := hg.ins
   refine ⟨_, (au (aK (a9 cN rfl T.dO PySem.boot_len (af (aX (pv 0) cl hO g7 (hr.mono (by decide)) (af (pv 1) aq)) aq)))), ?_⟩
   repeat' (walk_at "rd1")
   exact q _ (by walk_at "same")
theorem ke (T : Txt K mg a) : iV P w K mg base 3 a.aF ["self", "name"] [] (jE a.ae) :=
 ⟨⟨_, _, rm T, T.cq.binds fun _ _ _ _ _ _ => .all fun us hl => match us, hl with | [_, _], _ => rfl, .nil⟩⟩
def nM : Nat -> List (Str × PyData) -> Str -> List Str
 | 0, _, n => [n]
 | f + 1, m, n => match c7 m n with
   | some (.str b) => n :: nM f m b
   | _ => [n]
theorem Chain.fn {m : List (Str × PyData)} {n : Str} {c : List Str} (h : Chain m n c) : ∀ {f : Nat}, c.length <= f -> nM f m n = c := by
 induction h with
 | top e =>
   intro f hf
   cases f with
   | zero => rfl
   | succ f => simp [nM, e]
 | up e _ ih =>
   intro f hf
   cases f with
   | zero => simp at hf
   | succ f => simp only [nM, e]; rw [ih (by simpa using hf)]
def yU (m ms : List (Str × PyData)) (n : Str) : Bool := (nM 60 m n).any (vF ms)
def jI (C : Addr) : Sp := fun vs H Q _ => ∃ v d1 d2 m ms n c, vs = [v, .str n] /\ lr C H v d1 d2 m ms /\ Chain m n c /\ c.length <= 60 /\ ∀ H', ai H H' -> Q (.bl (!yU m ms n)) H'
theorem uA {C : Addr} {H : Hp} {Q : VK} {E : XK} {v : V} {d1 d2 : Addr} {m ms : List (Str × PyData)} {n : Str} {c : List Str} (h : lr C H v d1 d2 m ms) (hc : Chain m n c) (hl : c.length <= 60) (q : ∀ H', ai H H' -> Q (.bl (!yU m ms n)) H') : jI C [v, .str n] H Q E := ⟨v, d1, d2, m, ms, n, c, rfl, h, hc, hl, q⟩
local macro_rules | `(tactic| walk_at "use") => `(tactic| first
 | ((with_reducible refine' sh ?e1 ?e2 ?_); (case e1 => walk_at "grd"); (case e2 => assumption))
 | ((with_reducible refine' t9 ?e1 ?e2 ?e3 (fun _ _ => ?_)); (case e1 => walk_at "grd"); (case e2 => assumption); (case e3 => assumption))
 | ((with_reducible refine' uA ?e1 ?e2 ?e3 (fun _ _ => ?_)); (case e1 => walk_at "grd"); (case e2 => assumption); (case e3 => assumption))
 | fail)
theorem rA (T : Txt K mg a) : bS P w K mg base iH 4 a.a8 a.fJ ["self", "name"] (jI a.ae) := by
 have cl := T.aw
 have hO := T.bR; have tD := T.di
 have g7 := f7 (P := P) (w := w) (base := base) T
 have rT := jG (P := P) (w := w) (base := base) T
 refine T.dR.ok iO (fun vs H Q E h => ?_) (fun d5 A outer s H vs Q E hr h => ?_)
 . obtain ⟨_, _, _, _, _, _, _, rfl, _⟩ := h; rfl
 . obtain ⟨v, d1, d2, m, ms, n, c, rfl, hg, hc, gb, q⟩ := h
   have hi := hg.ins
   refine ⟨_, (au (aK (xZ (a9 (qi rfl) rfl T.lg PyProof.Rows.boot_any (af (rO (T := ["other"]) (M := ["self", "name"]) (D4 (ax cA) ["self", "name"] rfl rfl (by decide +kernel)) rfl (n8 (aX (pv 0) cl hO g7 (hr.mono (by decide)) (af (pv 1) aq))) (fun _ _ _ _ _ => (du (i := 0) (show List.Nodup (["other", "self", "name"] : List Str) by decide +kernel) rfl (Or.inl rfl))) (ia (by decide)) (fun _ _ _ _ _ => vq) (fun _ _ _ _ _ => (aX (pv 1) cl tD rT (hr.mono (by decide)) (af (pv 0) aq)))) aq))))), ?_⟩
   repeat' (walk_at "rd1")
   rename_i p1 H1 jV rE p4
   refine Dt (cs := c) (gd := PyData.str) (fun _ => true) (fun o => .bool (vF ms o)) p4.dv (by omega) (fun _ => rfl) (fun x o H' N ho mL oU yes no => ?_) (fun pq H5 BP DJ B4 => ?_)
   . obtain rfl := oU.str_inv
     have i5 := hc.all o ho
     have Af := (hg.keeps jV).keeps mL
     have ud := Af.ins
     repeat' (walk_at "rd1")
     show y9 _ N _ true _
     refine sL (fun _ => ?_) (fun hb => by cases hb)
     repeat' (walk_at "rd1")
     exact yes rfl _ _ (ai.refl _) (.bl _)
   . have e : c.filter (fun _ => true) = c := List.filter_eq_self.mpr (by simp)
     rw [e] at B4
     have CL : cj H5 pq ((c.map (vF ms)).map PyData.bool) := by rw [List.map_map]; exact B4
     repeat' (walk_at "rd1")
     have e2 : (c.map (vF ms)).any id = yU m ms n := by unfold yU; rw [hc.fn gb, List.any_map]; rfl
     rw [e2]
     exact q _ (by walk_at "same")
theorem pL (T : Txt K mg a) : iV P w K mg base 4 a.a8 ["self", "name"] [] (jI a.ae) :=
 ⟨⟨_, _, rA T, T.dR.binds fun _ _ _ _ _ _ => .all fun us hl => match us, hl with | [_, _], _ => rfl, .nil⟩⟩
structure gP (C : Addr) (H : Hp) (v : V) (d1 d2 : Addr) (m ms : List (Str × PyData)) : Prop where
 ins : pM H v C [("above_of", .ref d1), ("marks", .ref d2)]
 ab : eW H d1 m
 mM : eW H d2 ms
 ne : d1 ≠ d2
theorem gP.rd {C : Addr} {H : Hp} {v : V} {d1 d2 : Addr} {m ms : List (Str × PyData)} (h : gP C H v d1 d2 m ms) : lr C H v d1 d2 m ms := ⟨h.ins, h.ab.rd, h.mM.rd⟩
theorem gP.keeps {C : Addr} {H H' : Hp} {v : V} {d1 d2 : Addr} {m ms : List (Str × PyData)} (s : ai H H') (h : gP C H v d1 d2 m ms) : gP C H' v d1 d2 m ms := ⟨h.ins.keeps s, h.ab.keeps s, h.mM.keeps s, h.ne⟩
theorem hJ {C : Addr} {H H' : Hp} {v : V} {fs : List (Str × V)} {d : Addr} {m : List (Str × PyData)} (h : pM H v C fs) (hd : eW H d m) (mv : Mv [d] H H') : pM H' v C fs := by
 obtain ⟨p, dx, rfl, e⟩ := h
 obtain ⟨kvs, e2, _⟩ := hd
 exact ⟨p, dx, rfl, mv.at (by simpa using dQ e e2 (by intro z; cases z)) e⟩
structure mD (m : List (Str × PyData)) : Prop where
 ch : ∀ n, (c7 m n).isSome = true -> ∃ c, Chain m n c /\ c.length <= 60
 nd : (m.map (·.1)).Nodup
 len : m.length <= 60
theorem gS {m : List (Str × PyData)} {n : Str} (h : n ∈ m.map (·.1)) : (c7 m n).isSome = true := by
 unfold c7
 rw [Option.isSome_map, List.find?_isSome]
 obtain ⟨x, hx, e⟩ := List.mem_map.mp h
 exact ⟨x, hx, by simpa using e⟩
def fQ (m : List (Str × PyData)) (n : Str) : List Str := (m.map (·.1)).filter fun k => (nM 60 m k).contains n
def hZ (C : Addr) : Sp := fun vs H Q _ => ∃ v d1 d2 m ms n, vs = [v, .str n] /\ gP C H v d1 d2 m ms /\ mD m /\ (c7 m n).isSome = true /\ ∀ q H' ss, ai H H' -> H q = none -> ss.Perm (fQ m n) -> vD ss -> cj H' q (ss.map PyData.str) -> Q (.ref q) H'
theorem si {C : Addr} {H : Hp} {Q : VK} {E : XK} {v : V} {d1 d2 : Addr} {m ms : List (Str × PyData)} {n : Str} (h : gP C H v d1 d2 m ms) (hm : mD m) (hn : (c7 m n).isSome = true) (q : ∀ q H' ss, ai H H' -> H q = none -> ss.Perm (fQ m n) -> vD ss -> cj H' q (ss.map PyData.str) -> Q (.ref q) H') : hZ C [v, .str n] H Q E := ⟨v, d1, d2, m, ms, n, rfl, h, hm, hn, q⟩
theorem p8 (T : Txt K mg a) : bS P w K mg base iH 4 a.aW a.eL ["self", "name"] (hZ a.ae) := by
 have n1 := T.ay; have n2 := T.az; have cl := T.aw
 have hO := T.bR; have bb := T.aM
 have g7 := f7 (P := P) (w := w) (base := base) T
 have a7 := fu (P := P) (w := w) (base := base) T
 refine T.c9.ok ib (fun vs H Q E h => ?_) (fun d5 A outer s H vs Q E hr h => ?_)
 . obtain ⟨_, _, _, _, _, _, rfl, _⟩ := h; rfl
 . obtain ⟨v, d1, d2, m, ms, n, rfl, hg, hm, hn, q⟩ := h
   have hi := hg.ins; have BI := hg.rd
   have zW := hm.len
   refine ⟨_, (ak (dC (aX (pv 0) cl bb a7 (hr.mono (by decide)) (af (pv 1) aq)))
    (au (aK (a9 jL rfl T.cM PyProof.Rows.boot_sorted (af (ur (rO (T := ["other"]) (M := ["self", "name"]) (D4 (ax b8) ["self", "name"] rfl rfl (by decide +kernel)) rfl (lb (fY (pv 0) rfl)) (fun _ _ _ _ _ => (du (i := 0) (show List.Nodup (["other", "self", "name"] : List Str) by decide +kernel) rfl (Or.inl rfl))) (ia (by decide)) (fun _ _ _ _ _ => (oV (aD (rS (K := K) rfl) (pv 2) (aX (pv 1) cl hO g7 (hr.mono (by decide)) (af (pv 0) aq)) rfl))) (fun _ _ _ _ _ => (pv 0)))) aq))))), ?_⟩
   repeat' (walk_at "rd1")
   refine zu hg.ab (fun R hR => ?_) (fun k => (nM 60 m k).contains n) PyData.str (by omega) (fun _ => rfl) (fun o Hf H' N ho mv rd sm yes no => ?_) (fun pq H5 BP DJ B4 => ?_)
   . repeat' (walk_at "rd1")
     exact hR
   . obtain ⟨c, hc, gb⟩ := hm.ch o (gS ho)
     have ud : pM H' v a.ae [("above_of", .ref d1), ("marks", .ref d2)] := (hJ hi hg.ab mv).keeps sm
     have Af : lr a.ae H' v d1 d2 m ms := ⟨ud, rd.keeps sm, (hg.mM.rd.mv mv (by simpa using Ne.symm hg.ne)).keeps sm⟩
     have Dd : nM 60 m o = c := hc.fn gb
     rw [Dd] at yes no
     repeat' (walk_at "rd1")
     rename_i q6 H6 qu HE BV
     refine sL (fun hb => ?_) (fun hb => no hb _ (by walk_at "same"))
     repeat' (walk_at "rd1")
     exact yes hb _ _ (by walk_at "same") (.str _)
   . have CL : cj H5 pq ((fQ m n).map PyData.str) := B4
     have yO : (fQ m n).length < 64 := by
      have h1 := List.length_filter_le (fun k => (nM 60 m k).contains n) (m.map (·.1))
      rw [List.length_map] at h1
      unfold fQ
      omega
     repeat' (walk_at "rd1")
     rename_i q7 H7 ss Ai HX wo CG Fx
     exact q _ _ ss (by walk_at "same") (by walk_at "none") wo CG Fx
theorem nF (T : Txt K mg a) : iV P w K mg base 4 a.aW ["self", "name"] [] (hZ a.ae) :=
 ⟨⟨_, _, p8 T, T.c9.binds fun _ _ _ _ _ _ => .all fun us hl => match us, hl with | [_, _], _ => rfl, .nil⟩⟩
local macro_rules | `(tactic| walk_at "gat") => `(tactic| first
 | assumption
 | (refine' gP.keeps ?s ?m; (case s => assumption); (case m => walk_at "gat"))
 | fail)
local macro_rules | `(tactic| walk_at "use") => `(tactic| first
 | ((with_reducible refine' si ?e1 ?e2 ?e3 (fun _ _ _ _ _ _ _ _ => ?_)); (case e1 => walk_at "gat"); (case e2 => assumption); (case e3 => assumption))
 | fail)
theorem jD {m : List (Str × PyData)} {k : Str} {d : PyData} (h : c7 m k = none) : putD m k d = m ++ [(k, d)] := by
 unfold putD
 rw [if_neg]
 unfold c7 at h
 rw [Option.map_eq_none_iff, List.find?_eq_none] at h
 simp only [List.any_eq_true, not_exists, not_and]
 exact h
def sW (m : List (Str × PyData)) (x : V) (d : PyData) : Prop := (x = .aO /\ d = .none) \/ ∃ b c, x = .str b /\ d = .str b /\ Chain m b c /\ c.length <= 7
def kM (C : Addr) : Sp := fun vs H Q _ => ∃ v d1 d2 m ms n x d, vs = [v, .str n, x] /\ gP C H v d1 d2 m ms /\ m.length <= 100 /\ c7 m n = none /\ sW m x d /\ ∀ H', Mv [d1] H H' -> gP C H' v d1 d2 (m ++ [(n, d)]) ms -> Q .aO H'
theorem zH {C : Addr} {H : Hp} {Q : VK} {E : XK} {v x : V} {d1 d2 : Addr} {m ms : List (Str × PyData)} {n : Str} {d : PyData} (h : gP C H v d1 d2 m ms) (hl : m.length <= 100) (hn : c7 m n = none) (ha : sW m x d) (q : ∀ H', Mv [d1] H H' -> gP C H' v d1 d2 (m ++ [(n, d)]) ms -> Q .aO H') : kM C [v, .str n, x] H Q E := ⟨v, d1, d2, m, ms, n, x, d, rfl, h, hl, hn, ha, q⟩
theorem rz (T : Txt K mg a) : bS P w K mg base iH 4 a.bu a.gp ["self", "name", "above"] (kM a.ae) := by
 have n1 := T.ay; have n2 := T.az; have cl := T.aw
 have bb := T.aM; have gJ := T.cD
 have a7 := fu (P := P) (w := w) (base := base) T
 have gL := ke (P := P) (w := w) (base := base) T
 refine T.dt.ok jY (fun vs H Q E h => ?_) (fun d5 A outer s H vs Q E hr h => ?_)
 . obtain ⟨_, _, _, _, _, _, _, _, rfl, _⟩ := h; rfl
 . obtain ⟨v, d1, d2, m, ms, n, x, d, rfl, hg, hl, hn, ha, q⟩ := h
   have hi := hg.ins; have yc := hg.ab; have BI := hg.rd
   refine ⟨_, (ak (cb (nN (mQ (dX hr) (pv 1) (fY (pv 0) rfl)) rfl)
    (au jv)
    aY)
    (ak (cb (aD iX (pv 2) gG (aT _))
     (ak (dC (aX (pv 0) cl bb a7 (hr.mono (by decide)) (af (pv 2) aq)))
     (au (cb (aD Au (aX (pv 0) cl gJ gL (hr.mono (by decide)) (af (pv 2) aq)) (uw (v := .int 8) rfl T.gw ⟨_, rfl⟩) (aT _))
      (au jv)
      aY)))
     aY)
    (au (kJ (dX hr) (fY (pv 0) rfl) (pv 1) (pv 2) rfl)))), ?_⟩
   rcases ha with ⟨rfl, rfl⟩ | ⟨b, c, rfl, rfl, hc, gb⟩
   . repeat' (walk_at "rd1")
     . rename_i o e hb
       rw [e, hn] at hb
       cases hb
     . rename_i o e zg lu H2 ix hd
       rw [jD hn] at hd
       exact q _ ix ⟨hJ hi yc ix, hd, hg.mM.mv ix (by simpa using Ne.symm hg.ne), hg.ne⟩
   . have Eg : c.length <= 60 := by omega
     repeat' (walk_at "rd1")
     . rename_i o e hb
       rw [e, hn] at hb
       cases hb
     . rename_i o e zg lu H4 DW Ih H2 ix hd
       have AU := hg.keeps DW
       rw [jD hn] at hd
       exact q _ (DW.mv.trans ix) ⟨hJ AU.ins AU.ab ix, hd, AU.mM.mv ix (by simpa using Ne.symm hg.ne), hg.ne⟩
theorem u9 (T : Txt K mg a) : iV P w K mg base 4 a.bu ["self", "name", "above"] [] (kM a.ae) :=
 ⟨⟨_, _, rz T, T.dt.binds fun _ _ _ _ _ _ s us kx hl => by
   obtain ⟨o, n, h1, h2⟩ := T.fc.ex
   have hl : us.length = 3 := by simp at hl; omega
   match us, hl with
   | [_, _, _], _ => exact PySem.W.binds_K kx rfl h1 h2 rfl rfl, .nil⟩⟩
theorem sv {X : Cx} {k : Nat} {f C : Addr} {ps : List Str} {sp : Sp} {bP : List V} {x : Str} {p pos : Pos} (M : Mk X.K C f) (F : iV X.prog X.w X.K X.mg X.base k f ps bP sp) (hr : bj (k + 1) X.A) (hg : Gl X x) (hm : X.mg x = some (.ref C))
 (p6 : (x == ("__debug__" : Str)) = false := by decide) : PE X (.Call (.Name x p) [] [] pos) (k7 C sp bP E0 m5) := by
 rw [qm]
 obtain ⟨fd, ds, F, hb, hd⟩ := F.ex
 exact qD M F hr hg hm hb hd o8 p6
def g8 (C : Addr) : Sp := fun vs H Q _ => ∃ p dx, vs = [.ref p] /\ H p = some (.ins C dx []) /\ ∀ H' d1 d2, Mv [p] H H' -> H d1 = none -> H d2 = none -> gP C H' (.ref p) d1 d2 [] [] -> Q .aO H'
theorem sM (T : Txt K mg a) : bS P w K mg base iH 1 a.aG a.dI ["self"] (g8 a.ae) := by
 have n1 := T.ay; have n2 := T.az; have cl := T.aw
 refine T.cJ.ok gD (fun vs H Q E h => ?_) (fun d5 A outer s H vs Q E hr h => ?_)
 . obtain ⟨_, _, rfl, _⟩ := h; rfl
 . obtain ⟨p, dx, rfl, hp, q⟩ := h
   refine ⟨_, (ak (rG (pv 0) gO rfl)
    (au (rG (pv 0) gO rfl))), ?_⟩
   repeat' (walk_at "rd1")
   rename_i d1 H1 jV rE yc d2 H2 iU sQ hd2
   have e1 := jV _ _ hp
   have r9 : Mv [p] H1 (upd H1 p (.ins a.ae dx [("above_of", .ref d1)])) := .dN e1 (by intro _ z; cases z)
   have e2 := iU p _ aj
   have ix : Mv [p] H2 (upd H2 p (.ins a.ae dx [("above_of", .ref d1), ("marks", .ref d2)])) := .dN e2 (by intro _ z; cases z)
   have tN := ((jV.mv (S := [p])).trans r9).trans ((iU.mv (S := [p])).trans ix)
   have p4 : d1 ≠ p := Ne.symm (av hp rE)
   have D9 : eW H2 d1 [] := (yc.mv r9 (by simpa using p4)).keeps iU
   have Ae : H d2 = none := ((jV.mv (S := [p])).trans r9).none sQ
   have qz : d2 ≠ p := Ne.symm (av hp Ae)
   exact q _ d1 d2 tN rE Ae ⟨⟨p, dx, rfl, aj⟩, D9.mv ix (by simpa using p4), hd2.mv ix (by simpa using qz), (yc.mv r9 (by simpa using p4)).ne sQ⟩
theorem qh (T : Txt K mg a) : iV P w K mg base 1 a.aG ["self"] [] (g8 a.ae) :=
 ⟨⟨_, _, sM T, T.cJ.binds fun _ _ _ _ _ _ => .all fun us hl => match us, hl with | [_], _ => rfl, .nil⟩⟩
theorem uC {C : Addr} {H : Hp} {Q : VK} {E : XK} (k : ∀ v H2 d1 d2, ai H H2 -> H d1 = none -> H d2 = none -> gP C H2 v d1 d2 [] [] -> Q v H2) : mh C (g8 C) [] H Q E := by
 refine ⟨[], rfl, fun x dx hx hd ne => ⟨x, dx, rfl, aj, fun H' d1 d2 mv h1 h2 hg => ⟨rfl, ?_⟩⟩⟩
 have z : ∀ {d : Addr}, upd (upd H dx (.own x)) x (.ins C dx []) d = none -> H d = none := by
  intro d h
  unfold upd at h
  split at h
  . cases h
  . split at h
    . cases h
    . exact h
 refine k _ _ d1 d2 (fun b u e => ?_) (z h1) (z h2) hg
 have hb : b ≠ x := av e hx
 refine mv.kp b u (by simpa using hb) ?_
 rw [ag hb, ag (av e hd)]
 exact e
def mX (C : Addr) : Sp := fun vs H Q _ => ∃ v d1 d2 m ms n, vs = [v, .str n] /\ lr C H v d1 d2 m ms /\ Q (.bl (c7 m n).isSome) H
theorem zV {C : Addr} {H : Hp} {Q : VK} {E : XK} {v : V} {d1 d2 : Addr} {m ms : List (Str × PyData)} {n : Str} (h : lr C H v d1 d2 m ms) (q : Q (.bl (c7 m n).isSome) H) : mX C [v, .str n] H Q E := ⟨v, d1, d2, m, ms, n, rfl, h, q⟩
theorem xD (T : Txt K mg a) : bS P w K mg base iH 1 a.bG a.gu ["self", "name"] (mX a.ae) := by
 have n1 := T.ay; have n2 := T.az; have cl := T.aw
 refine T.eO.ok j3 (fun vs H Q E h => ?_) (fun d5 A outer s H vs Q E hr h => ?_)
 . obtain ⟨_, _, _, _, _, _, rfl, _⟩ := h; rfl
 . obtain ⟨v, d1, d2, m, ms, n, rfl, hg, q⟩ := h
   have hi := hg.ins; have ha := hg.ab
   refine ⟨_, (au (aK (qN (mQ (dX hr) (pv 1) (fY (pv 0) rfl)) rfl))), ?_⟩
   repeat' (walk_at "rd1")
   rename_i o e
   rw [e]
   exact q
theorem oO (T : Txt K mg a) : iV P w K mg base 1 a.bG ["self", "name"] [] (mX a.ae) :=
 ⟨⟨_, _, xD T, T.eO.binds fun _ _ _ _ _ _ => .all fun us hl => match us, hl with | [_, _], _ => rfl, .nil⟩⟩
def pQ (m : List (Str × PyData)) (k : Str) : Int := ((nM 60 m k).length : Nat)
def A7 (m : List (Str × PyData)) (ss : List Str) : Prop := ss.Perm (m.map (·.1)) /\ ss.Pairwise fun c d => cn (pQ m d, d) (pQ m c, c) = false
theorem jl {f : Str -> Int} : ∀ {xs ys : List Str}, xs.Perm ys -> xs.Pairwise (fun c d => cn (f d, d) (f c, c) = false) -> ys.Pairwise (fun c d => cn (f d, d) (f c, c) = false) -> xs = ys
 | [], _, hp, _, _ => List.Perm.nil_eq hp
 | x :: xs, [], hp, _, _ => by have := hp.length_eq; simp at this
 | x :: xs, y :: ys, hp, h1, h2 => by
   have hx := List.pairwise_cons.mp h1
   have hy := List.pairwise_cons.mp h2
   have yP : x = y := by
    have m1 : y ∈ x :: xs := hp.mem_iff.mpr List.mem_cons_self
    have m2 : x ∈ y :: ys := hp.mem_iff.mp List.mem_cons_self
    rcases List.mem_cons.mp m1 with e | CZ
    . exact e.symm
    rcases List.mem_cons.mp m2 with e | Dq
    . exact e
    exact (Prod.mk.inj (sO (hy.1 x Dq) (hx.1 y CZ))).2
   subst yP
   rw [jl (List.Perm.cons_inv hp) hx.2 hy.2]
abbrev lq (H : Hp) (P : Addr) : Prop := TabAt H P iC iB
theorem gP.yD {C P : Addr} {H H' : Hp} {v : V} {d1 d2 : Addr} {m ms : List (Str × PyData)} {pos : Pos} {q : Str} (h : gP C H v d1 d2 m ms) (t : TabAt H P pos q) (mv : Mv [P] H H') : gP C H' v d1 d2 m ms := ⟨t.AK h.ins mv, t.AX h.ab mv, t.AX h.mM mv, h.ne⟩
def mW (C P : Addr) : Sp := fun vs H Q _ => ∃ v d1 d2 m ms, vs = [v] /\ gP C H v d1 d2 m ms /\ mD m /\ lq H P /\ ∀ q H' ss, Mv [P] H H' -> lq H' P -> H q = none -> A7 m ss -> cj H' q (ss.map PyData.str) -> Q (.ref q) H'
theorem Be {C P : Addr} {H : Hp} {Q : VK} {E : XK} {v : V} {d1 d2 : Addr} {m ms : List (Str × PyData)} (h : gP C H v d1 d2 m ms) (hm : mD m) (ht : lq H P) (q : ∀ q H' ss, Mv [P] H H' -> lq H' P -> H q = none -> A7 m ss -> cj H' q (ss.map PyData.str) -> Q (.ref q) H') : mW C P [v] H Q E := ⟨v, d1, d2, m, ms, rfl, h, hm, ht, q⟩
theorem x9 (T : Txt K mg a) (hB : Bs K mg base) : bS P w K mg base iH 8 a.aJ a.cP ["self"] (mW a.ae a.ah) := by
 have n1 := T.ay; have n2 := T.az; have cl := T.aw
 have gJ := T.cD
 have gL := ke (P := P) (w := w) (base := base) T
 refine T.dg.E9 ie (fun vs H Q E h => ?_) (fun A outer s H vs Q E hr h => ?_)
 . obtain ⟨_, _, _, _, _, rfl, _⟩ := h; rfl
 . obtain ⟨v, d1, d2, m, ms, rfl, hg, hm, ht, q⟩ := h
   have hi := hg.ins
   have zW := hm.len
   refine ⟨_, (au (aK (j9 (k := 4) rfl (rH (j := 0) ⟨rfl, rfl, rfl, by decide +kernel, rfl, rfl, by decide +kernel⟩ ⟨a.bD, T.a0.e, PySem.W.codeHd_of_K hB.k T.a0.cd⟩ hB.b rfl (fun _ _ _ _ _ _ _ _ => rfl) rfl rfl rfl rfl) (hr.mono (by decide)) rfl T.cM (af (fY (pv 0) rfl) aq) (fun _ _ _ _ _ _ hr => (n0 (af (aX (pv 1) cl gJ gL (hr.mono (by decide)) (af (pv 0) aq)) (af (pv 0) aq))))))), ?_⟩
   repeat' (walk_at "rd1")
   refine kD ?_
   repeat' (walk_at "rd1")
   refine ⟨ht, fun H2 ix Ep => ?_⟩
   have EC := hg.yD ht ix
   refine lF (fun x => (pQ m x, x)) EC.ab (by omega) (fun x hx H' sm => ?_) (fun q5 H5 ss BP DJ wo Dw B5 => ?_)
   . obtain ⟨c, hc, gb⟩ := hm.ch x (gS hx)
     have BL := (EC.keeps sm).rd
     have DE := BL.ins
     have e : pQ m x = (c.length : Nat) := by unfold pQ; rw [hc.fn gb]
     refine nV ?_
     repeat' (walk_at "rd1")
     exact ⟨by walk_at "same", by rw [e]; assumption⟩
   . exact q _ _ ss (ix.jw BP) (Ep.keeps BP) (ix.none DJ) ⟨wo, Dw⟩ B5
theorem vi (T : Txt K mg a) (hB : Bs K mg base) : iV P w K mg base 8 a.aJ ["self"] [] (mW a.ae a.ah) :=
 ⟨⟨_, _, x9 T hB, T.dg.binds fun _ _ _ _ _ _ => .all fun us hl => match us, hl with | [_], _ => rfl, .nil⟩⟩
def nj (s : Str) : Prop := s.length <= 100 /\ ∀ c ∈ s.cps.toList, c < 0x110000
theorem uz {s : Str} (h : nj s) : PyData.canLay0 (.str s) = true := by
 show s.cps.all (· < 0x110000) = true
 rw [Array.all_eq_true']
 intro c hc
 exact decide_eq_true (h.2 c (by simpa using hc))
theorem jy : ∀ {ss : List Str}, (∀ x ∈ ss, nj x) -> PyData.canLayAll0 (ss.map PyData.str) = true
 | [], _ => rfl
 | x :: r, h => by
   simp only [List.map_cons, PyData.canLayAll0, uz (h x List.mem_cons_self), Bool.true_and]
   exact jy fun y hy => h y (List.mem_cons_of_mem _ hy)
theorem iw : ∀ ws : List Str, PyData.depthAll (ws.map PyData.str) <= 1
 | [] => by simp [PyData.depthAll]
 | _ :: r => by have := iw r; simp only [List.map_cons, PyData.depthAll, PyData.depth]; omega
theorem sG {K : PySem.W.Frag} {H : Hp} {Q : VK} {f : Bool -> Bool} {x y : V} {ss : List Str} (h1 : Dv H x (.list (ss.map PyData.str))) (h2 : Dv H y (.list (ss.map PyData.str))) (hs : ∀ x ∈ ss, nj x) (h : Q (.bl (f true)) H) : mr K f x y H Q := by
 have hl : PyData.canLay0 (.list (ss.map PyData.str)) = true := by rw [PyData.canLay0]; exact jy hs
 refine qZ h1 h2 hl hl ?_ (by rw [PySem.SeqAt.eqv_refl _ hl]; exact h)
 have := iw ss
 rw [PyData.depth]; omega
theorem my {K : PySem.W.Frag} {H : Hp} {Q : VK} {f : Bool -> Bool} {x y : V} {ss : List Str} (h1 : Dv H x (.list (ss.map PyData.str))) (h2 : Dv H y (.list [])) (hs : ∀ x ∈ ss, nj x) (h : Q (.bl (f ss.isEmpty)) H) : mr K f x y H Q := by
 have e : PyData.eqv (.list (ss.map PyData.str)) (.list []) = ss.isEmpty := by cases ss <;> rfl
 refine qZ h1 h2 (by rw [PyData.canLay0]; exact jy hs) rfl ?_ (by rw [e]; exact h)
 have := iw ss
 rw [PyData.depth]; omega
theorem oP {x y : Str} (h : x.cps = y.cps) : x = y := by cases x; cases y; simp at h; rw [h]
theorem eS (x y : Str) : (x ++ y).cps = x.cps ++ y.cps := rfl
theorem wK {K : PySem.W.Frag} {H : Hp} {Q : VK} {i : Int} (h0 : 0 <= i) (h1 : i < 26) (h : Q (.str ⟨#[97 + i.toNat]⟩) H) : lN K (.str "abcdefghijklmnopqrstuvwxyz") (.int i) H Q := by
 obtain ⟨m, rfl⟩ := Int.eq_ofNat_of_zero_le h0
 have hm : m < 26 := by omega
 have e : (Str.cps "abcdefghijklmnopqrstuvwxyz").toList[m]? = some (97 + m) := by
  have z : ∀ m < 26, (Str.cps "abcdefghijklmnopqrstuvwxyz").toList[m]? = some (97 + m) := by decide
  exact z m hm
 exact wN (by decide) (gZ e) h
theorem lB {z : Str} (hz : z.cps.size = 1) {n : Int} (h0 : 0 <= n) (h1 : n <= 6) : (gQ z n).length = n.toNat /\ ∀ c ∈ (gQ z n).cps.toList, c ∈ z.cps.toList := by
 obtain ⟨⟨l⟩⟩ := z
 match l, hz with
 | [c], _ =>
   have : n = 0 \/ n = 1 \/ n = 2 \/ n = 3 \/ n = 4 \/ n = 5 \/ n = 6 := by omega
   rcases this with rfl | rfl | rfl | rfl | rfl | rfl | rfl <;> exact ⟨rfl, by simp [gQ, Str.empty, Str.length]⟩
theorem w5 {z : Str} {H : Hp} {Q : VK} {n : Int} (hz : z.cps.size = 1) (h0 : 0 <= n) (h1 : n <= 6) (h : (gQ z n).length <= 20 -> Q (.str (gQ z n)) H) : sD (.str z) (.int n) H Q :=
 have e := (lB hz h0 h1).1
 ya h0 (by omega) (by show z.cps.size <= 10; omega) (by omega) (h (by omega))
theorem xW {i j : Str} {H : Hp} {Q : VK} (h1 : i.length <= 100) (h2 : j.length <= 100) (h : Q (.str (i ++ j)) H) : sS (.str i) (.str j) H Q := qE (by omega) h
theorem len_one {c : Nat} : (⟨#[c]⟩ : Str).length <= 20 := by show 1 <= 20; omega
theorem len_app {i j : Str} {n m : Nat} (h1 : i.length <= n) (h2 : j.length <= m) : (i ++ j).length <= n + m := by
 have : (i ++ j).length = i.length + j.length := by show (i ++ j).cps.size = _; rw [eS, Array.size_append]; rfl
 omega
theorem xt {i : Str} (h : i.length <= 20) : i.length <= 100 := by omega
set_option hygiene false in
local macro_rules | `(tactic| walk_at "sl1") => `(tactic| first
 | exact len_one
 | assumption
 | fail)
set_option hygiene false in
local macro_rules | `(tactic| walk_at "sl") => `(tactic| first
 | (refine xt ?_; walk_at "sl1")
 | (refine Nat.le_trans (len_app (n := 20) (m := 20) ?_ ?_) (by decide) <;> walk_at "sl1")
 | fail)
local macro_rules | `(tactic| walk_at "rd1") => `(tactic| first
 | ((with_reducible refine' wK ?e1 ?e2 ?_); (case e1 => omega); (case e2 => omega))
 | ((with_reducible refine' w5 ?e1 ?e2 ?e3 (fun _ => ?_)); (case e1 => exact rfl); (case e2 => omega); (case e3 => omega))
 | ((with_reducible refine' xW ?e1 ?e2 ?_); (case e1 => walk_at "sl"); (case e2 => walk_at "sl"))
 | fail)
def ni (ts : List Addr) (K : PySem.W.Frag) : Sp := fun vs H Q _ => ∃ (l : Addr) (ns : List Int), vs = [.ref l] /\ c6 K H l (ns.map V.int) /\ ns.length <= 63 /\ (∀ b ∈ ts, H b = some (.gg #[])) /\ ∀ H', Q (.bl true) H'
theorem qo (T : Txt K mg a) (s : Shared) (u : Value) : BindsTo s a.lh ⟨[u], []⟩ [("_law_script", u)] := by
 obtain ⟨oc, od, kV, doc, pm, an, d5, ct, p0, e, lk, j2⟩ := T.qP.ex
 rw [e]
 exact .of_eq rfl
theorem jg (T : Txt K mg a) : bS P w K mg base iH 1 a.aU a.fD ["_law_script", "_law_k"] (m6 K) := by
 refine T.d3.ok iP (fun vs H Q E h => ?_) (fun d5 A outer s H vs Q E hr h => ?_)
 . obtain ⟨_, _, _, rfl, _⟩ := h; rfl
 . obtain ⟨l, ns, i, rfl, hl, h0, k⟩ := h
   refine ⟨_, (ak (cb (aD vM (pv 1) (a9 cN rfl T.dO PySem.boot_len (af (pv 0) aq)) (aT _))
    (au (aK (fX ja (pv 0) (pv 1) (fun _ _ => rfl))))
    aY)
    (au (aK aE))), ?_⟩
   repeat' (walk_at "rd1")
   . exact A8 hl (uy h0 (by assumption)) k
   . rw [uH h0 (by assumption)] at k; exact k
theorem iQ (T : Txt K mg a) : iV P w K mg base 1 a.aU ["_law_script", "_law_k"] [] (m6 K) :=
 ⟨⟨_, _, jg T, T.d3.binds fun _ _ _ _ _ _ => .all fun us hl => match us, hl with | [_, _], _ => rfl, .nil⟩⟩
local macro_rules | `(tactic| walk_at "use") => `(tactic| first
 | ((with_reducible refine' w4 ?e1 ?e2 ?_); (case e1 => walk_at "sql"); (case e2 => omega))
 | fail)
theorem ve {K : PySem.W.Frag} {H : Hp} {Q : VK} {v : V} {ss : List Str} {i : Int} (hp : Dv H v (.list (ss.map PyData.str))) (h0 : i = -1 /\ ss ≠ [] \/ 0 <= i /\ i < ss.length) (h : ∀ n ∈ ss, Q (.str n) H) : lN K v (.int i) H Q := by
 rcases h0 with ⟨rfl, h0⟩ | ⟨h0, h1⟩
 . rw [<- List.dropLast_concat_getLast h0] at hp
   refine kg (.inr hp) (d := .str (ss.getLast h0)) (by rw [List.map_append]; exact mn _ _) (eU (h _ (List.getLast_mem h0)))
 . obtain ⟨m, rfl⟩ := Int.eq_ofNat_of_zero_le h0
   have hi : m < ss.length := by omega
   have e : ko (ss.map PyData.str) (m : Int) = some (.str ss[m]) := gZ (by rw [List.getElem?_map, List.getElem?_eq_getElem hi]; rfl)
   exact kg (.inr hp) e (eU (h _ (List.getElem_mem hi)))
theorem getD_mem {ss : List Str} {i : Nat} (h : i < ss.length) : ss.getD i default ∈ ss := by
 rw [List.getD_eq_getElem?_getD, List.getElem?_eq_getElem h]
 exact List.getElem_mem h
theorem gP.Ax {C : Addr} {H H' : Hp} {v : V} {d1 d2 q : Addr} {m ms : List (Str × PyData)} {ds : List PyData} (h : gP C H v d1 d2 m ms) (hq : cj H q ds) (mv : Mv [q] H H') : gP C H' v d1 d2 m ms := by
 refine ⟨?_, h.ab.mv mv (by simpa using h.ab.qt hq), h.mM.mv mv (by simpa using h.mM.qt hq), h.ne⟩
 obtain ⟨p, dx, rfl, e⟩ := h.ins
 obtain ⟨xs, e2, _⟩ := hq
 exact ⟨p, dx, rfl, mv.at (by simpa using dQ e e2 (by intro z; cases z)) e⟩
theorem oJ {m : List (Str × PyData)} {n k : Str} {d e : PyData} (h : c7 m n = some e) : c7 (m ++ [(k, d)]) n = some e := by
 unfold c7 at h ⊢
 rw [List.find?_append]
 cases hf : m.find? (fun kv => decide (kv.1 = n)) with
 | none => rw [hf] at h; cases h
 | some x => rw [hf] at h; exact h
theorem oz {m : List (Str × PyData)} {k : Str} {d : PyData} (h : c7 m k = none) : c7 (m ++ [(k, d)]) k = some d := by
 unfold c7 at h ⊢
 rw [List.find?_append]
 rw [Option.map_eq_none_iff] at h
 rw [h]
 simp
theorem Chain.app {m : List (Str × PyData)} {n k : Str} {d : PyData} {c : List Str} (h : Chain m n c) : Chain (m ++ [(k, d)]) n c := by
 induction h with
 | top e => exact .top (oJ e)
 | up e _ ih => exact .up (oJ e) ih
theorem gW {m : List (Str × PyData)} {n : Str} (h : n ∉ m.map (·.1)) : c7 m n = none := by
 unfold c7
 rw [Option.map_eq_none_iff, List.find?_eq_none]
 intro x hx
 have : x.1 ≠ n := fun e => h (List.mem_map.mpr ⟨x, hx, e⟩)
 simpa using this
structure lP (nm : Int -> Str) (m : List (Str × PyData)) : Prop where
 nm : ∀ (i : Nat) x, m[i]? = some x -> x.1 = nm i
 ch : ∀ n ∈ m.map (·.1), ∃ c, Chain m n c /\ c.length <= 8
 top : ∀ x, m[0]? = some x -> x.2 = .none
 len : m.length <= 40
structure qe (nm : Int -> Str) : Prop where
 inj : ∀ {k j : Int}, 0 <= k -> k < 41 -> 0 <= j -> j < 41 -> nm k = nm j -> k = j
 ok : ∀ {k : Int}, 0 <= k -> k < 41 -> nj (nm k)
theorem lP.nil {nm : Int -> Str} : lP nm [] := ⟨fun i x h => by simp at h, fun n h => by simp at h, fun x h => by simp at h, Nat.zero_le _⟩
theorem lP.De {nm : Int -> Str} {m : List (Str × PyData)} (h : lP nm m) (hn : qe nm) : ∀ x ∈ m.map (·.1), nj x := by
 intro x hx
 obtain ⟨y, hy, rfl⟩ := List.mem_map.mp hx
 obtain ⟨i, hi, e⟩ := List.getElem_of_mem hy
 have := h.nm i y (by rw [List.getElem?_eq_getElem hi, e])
 rw [this]
 exact hn.ok (by omega) (by have := h.len; omega)
theorem lP.nd {nm : Int -> Str} {m : List (Str × PyData)} (h : lP nm m) (hn : qe nm) : (m.map (·.1)).Nodup := by
 rw [List.nodup_iff_pairwise_ne, List.pairwise_iff_getElem]
 intro i j hi hj jW e
 rw [List.length_map] at hi hj
 rw [List.getElem_map, List.getElem_map, h.nm i _ (List.getElem?_eq_getElem hi), h.nm j _ (List.getElem?_eq_getElem hj)] at e
 have := h.len
 have := hn.inj (by omega) (by omega) (by omega) (by omega) e
 omega
theorem lP.FK {nm : Int -> Str} {m : List (Str × PyData)} (h : lP nm m) (hn : qe nm) : mD m := by
 refine ⟨fun n hs => ?_, h.nd hn, by have := h.len; omega⟩
 have : n ∈ m.map (·.1) := by
  rcases Classical.em (n ∈ m.map (·.1)) with z | z
  . exact z
  . rw [gW z] at hs; cases hs
 obtain ⟨c, hc, hl⟩ := h.ch n this
 exact ⟨c, hc, by omega⟩
theorem lP.fresh {nm : Int -> Str} {m : List (Str × PyData)} (h : lP nm m) (hn : qe nm) : c7 m (nm m.length) = none := by
 refine gW fun hx => ?_
 obtain ⟨y, hy, e⟩ := List.mem_map.mp hx
 obtain ⟨i, hi, e2⟩ := List.getElem_of_mem hy
 have := h.nm i y (by rw [List.getElem?_eq_getElem hi, e2])
 rw [this] at e
 have hl := h.len
 have := hn.inj (by omega) (by omega) (by omega) (by omega) e
 omega
theorem lP.snoc {nm : Int -> Str} {m : List (Str × PyData)} {x : V} {d : PyData} (h : lP nm m) (hn : qe nm) (hl : m.length < 40) (ha : sW m x d) : lP nm (m ++ [(nm m.length, d)]) := by
 have hf := h.fresh hn
 refine ⟨fun i y hy => ?_, fun n hn => ?_, fun y hy => ?_, by rw [List.length_append]; simp; omega⟩
 . by_cases hi : i < m.length
   . rw [List.getElem?_append_left hi] at hy
     exact h.nm i y hy
   . rw [List.getElem?_append_right (by omega)] at hy
     have BW : i - m.length = 0 := by
      have := (List.getElem?_eq_some_iff.mp hy).1
      simp at this
      omega
     rw [BW] at hy
     simp at hy
     subst hy
     show nm m.length = nm i
     congr 1
     omega
 . rw [List.map_append, List.mem_append] at hn
   rcases hn with hn | hn
   . obtain ⟨c, hc, hl⟩ := h.ch n hn
     exact ⟨c, hc.app, hl⟩
   . have : n = nm m.length := by simpa using hn
     subst this
     rcases ha with ⟨_, rfl⟩ | ⟨b, c, _, rfl, hc, gb⟩
     . exact ⟨_, .top (oz hf), by simp⟩
     . exact ⟨_, .up (oz hf) hc.app, by simp; omega⟩
 . cases m with
   | nil =>
     rcases ha with ⟨_, rfl⟩ | ⟨b, c, _, rfl, hc, gb⟩
     . simp at hy; rw [<- hy]
     . have := hc.has
       simp [c7] at this
   | cons z r => exact h.top y (by simpa using hy)
theorem lP.first {nm : Int -> Str} {z : Str × PyData} {r : List (Str × PyData)} (h : lP nm (z :: r)) : Chain (z :: r) z.1 [z.1] := by
 refine .top ?_
 have := h.top z (by simp)
 unfold c7
 simp [this]
theorem qS {C : Addr} {H : Hp} {Q : VK} {E : XK} {us : List V} (e : us = []) (k : ∀ v H2 d1 d2, ai H H2 -> H d1 = none -> H d2 = none -> gP C H2 v d1 d2 [] [] -> Q v H2) : mh C (g8 C) us H Q E := by subst e; exact uC k
set_option hygiene false in
local macro_rules | `(tactic| walk_at "rd1") => `(tactic| first
 | with_reducible refine qS rfl (fun _ _ _ _ _ _ _ _ => ?_)
 | fail)
local macro_rules | `(tactic| walk_at "mvS") => `(tactic| first
 | assumption
 | (refine' Mv.jw ?m ?s; (case s => assumption); (case m => walk_at "mvS"))
 | (refine' Mv.step ?m ?s ?k; (case s => assumption); (case m => walk_at "mvS"); (case k => (intro b hb; rw [List.mem_singleton.mp hb]; exact Or.inl (by simp))))
 | fail)
theorem sy {K : PySem.W.Frag} {H : Hp} {Q : VK} {f : Bool -> Bool} {x y : V} {ss : List Str} (h1 : Dv H x (.list (ss.map PyData.str))) (h2 : Dv H y (.list [])) (hs : ∀ x ∈ ss, nj x) (qw : ss ≠ []) (h : Q (.bl (f false)) H) : mr K f x y H Q := my h1 h2 hs (by cases ss with | nil => exact absurd rfl qw | cons => exact h)
theorem sk {K : PySem.W.Frag} {H : Hp} {Q : VK} {f : Bool -> Bool} {x y : V} (h1 : Dv H x (.list (([] : List Str).map PyData.str))) (h2 : Dv H y (.list [])) (h : Q (.bl (f true)) H) : mr K f x y H Q := my h1 h2 (by simp) h
theorem sT {K : PySem.W.Frag} {H : Hp} {Q : VK} {p : Addr} {ds : List PyData} {x : Str} (hp : cj H p (ds ++ [.str x])) (h : Q (.str x) H) : lN K (.ref p) (.int (-1)) H Q := kg (.inr hp.dv) (mn _ _) (eU h)
theorem zr {K : PySem.W.Frag} {H : Hp} {Q : VK} {v : V} {ss : List Str} {x : Str} (hp : Dv H v (.list ((x :: ss).map PyData.str))) (h : Q (.str x) H) : lN K v (.int 0) H Q := kg (.inr hp) (gZ (j := 0) rfl) (eU h)
local macro_rules | `(tactic| walk_at "gat") => `(tactic| first
 | (refine' gP.Ax ?m ?l ?s; (case s => assumption); (case m => walk_at "gat"); (case l => walk_at "lat"))
 | fail)
local macro_rules | `(tactic| walk_at "ins") => `(tactic| first
 | (refine' gP.ins (d1 := _) (d2 := _) (m := _) (ms := _) ?m; (case m => walk_at "gat"))
 | fail)
set_option hygiene false in
local macro_rules | `(tactic| walk_at "abok") => `(tactic| first
 | exact Or.inl ⟨rfl, rfl⟩
 | exact Or.inr ⟨_, _, rfl, rfl, by assumption, by first | omega | simp⟩
 | fail)
local macro_rules | `(tactic| walk_at "rd1") => `(tactic| first
 | ((with_reducible refine' sk ?e1 ?e2 ?_); (case e1 => walk_at "dat"); (case e2 => walk_at "dat"))
 | ((with_reducible refine' sy ?e1 ?e2 ?e3 ?e4 ?_); (case e1 => walk_at "dat"); (case e2 => walk_at "dat"); (case e3 => assumption); (case e4 => assumption))
 | ((with_reducible refine' sT ?e1 ?_); (case e1 => walk_at "lat"))
 | ((with_reducible refine' zr ?e1 ?_); (case e1 => walk_at "dat"))
 | fail)
def l0 (k s : Int) : Str := if s % 2 = 0 then (gQ "v" (s / 2 % 7) ++ ⟨#[97 + (k % 26).toNat]⟩) ++ ⟨#[97 + (k / 26).toNat]⟩ else (⟨#[97 + (k / 26).toNat]⟩ ++ gQ "v" (s / 2 % 7)) ++ ⟨#[97 + (25 - k % 26).toNat]⟩
theorem o4 {k j s : Int} (k0 : 0 <= k) (k1 : k < 41) (j0 : 0 <= j) (j1 : j < 41) (h : l0 k s = l0 j s) : k = j := by
 unfold l0 at h
 have h2 := congrArg (fun x : Str => x.cps.toList) h
 split at h2
 . simp only [eS, Array.toList_append, List.append_assoc] at h2
   have := List.append_cancel_left h2
   simp at this
   omega
 . simp only [eS, Array.toList_append, List.cons_append, List.nil_append, List.cons.injEq] at h2
   obtain ⟨h3, h4⟩ := h2
   have := List.append_cancel_left h4
   simp at this
   omega
theorem wZ {k s : Int} (k0 : 0 <= k) (k1 : k < 41) : nj (l0 k s) := by
 have h1 := Int.emod_nonneg (s / 2) (show (7 : Int) ≠ 0 by decide)
 have h2 := Int.emod_lt_of_pos (s / 2) (show (0 : Int) < 7 by decide)
 obtain ⟨hl, hm⟩ := lB (z := "v") rfl h1 (by omega)
 have pT : (gQ "v" (s / 2 % 7)).cps.size = (s / 2 % 7).toNat := hl
 have FA : ∀ c ∈ (gQ "v" (s / 2 % 7)).cps.toList, c < 0x110000 := fun c hc => by
  have := hm c hc
  have e : (Str.cps "v").toList = [118] := rfl
  rw [e] at this
  simp at this
  omega
 unfold l0
 split
 . refine ⟨?_, fun c hc => ?_⟩
   . show (_ : Str).cps.size <= _
     simp only [eS, Array.size_append, pT]
     simp
     omega
   . simp only [eS, Array.toList_append, List.mem_append] at hc
     rcases hc with (hc | hc) | hc
     . exact FA c hc
     . simp at hc; omega
     . simp at hc; omega
 . refine ⟨?_, fun c hc => ?_⟩
   . show (_ : Str).cps.size <= _
     simp only [eS, Array.size_append, pT]
     simp
     omega
   . simp only [eS, Array.toList_append, List.mem_append] at hc
     rcases hc with (hc | hc) | hc
     . simp at hc; omega
     . exact FA c hc
     . simp at hc; omega
theorem wC (s : Int) : qe (fun k => l0 k s) := ⟨o4, wZ⟩
def jH : Sp := fun vs H Q _ => ∃ k s, vs = [.int k, .int s] /\ 0 <= k /\ k < 41 /\ Q (.str (l0 k s)) H
theorem vy {H : Hp} {Q : VK} {E : XK} {k s : Int} (h0 : 0 <= k) (h1 : k < 41) (q : Q (.str (l0 k s)) H) : jH [.int k, .int s] H Q E := ⟨k, s, rfl, h0, h1, q⟩
theorem qF (T : Txt K mg a) : bS P w K mg base iH 1 a.bF a.gX ["_law_k", "_law_style"] jH := by
 refine T.fP.ok gY (fun vs H Q E h => ?_) (fun d5 A outer s H vs Q E hr h => ?_)
 . obtain ⟨_, _, rfl, _⟩ := h; rfl
 . obtain ⟨k, s, rfl, h0, h1, q⟩ := h
   refine ⟨_, (ak (bA (i := 2) gY.nd rfl (Or.inl rfl) kL)
    (ak (cb (aD (gI hr.qv) (bO cW (pv 1) aE) aE (aT _))
     (au (aK (bO i3 (bO i3 (bO oB kL (bO cW (bO eG (pv 1) aE) aE)) (fX ja (pv 2) (bO cW (pv 0) aE) (fun _ _ => rfl))) (fX ja (pv 2) (bO eG (pv 0) aE) (fun _ _ => rfl)))))
     aY)
    (au (aK (bO i3 (bO i3 (fX ja (pv 2) (bO eG (pv 0) aE) (fun _ _ => rfl)) (bO oB kL (bO cW (bO eG (pv 1) aE) aE))) (fX ja (pv 2) (bO sY aE (bO cW (pv 0) aE)) (fun _ _ => rfl))))))), ?_⟩
   repeat' (walk_at "rd1")
   . unfold l0 at q
     rw [if_pos (by assumption)] at q
     exact q
   . unfold l0 at q
     rw [if_neg (by assumption)] at q
     exact q
theorem qj (T : Txt K mg a) : iV P w K mg base 1 a.bF ["_law_k", "_law_style"] [] jH :=
 ⟨⟨_, _, qF T, T.fP.binds fun _ _ _ _ _ _ => .all fun us hl => match us, hl with | [_, _], _ => rfl, .nil⟩⟩
def nG : Sp := fun vs H Q _ => ∃ p m n c, vs = [.ref p, .str n] /\ jQ H p m /\ Chain m n c /\ c.length <= 60 /\ ∀ q H', ai H H' -> H q = none -> cj H' q (c.map PyData.str) -> Q (.ref q) H'
theorem Bf {H : Hp} {Q : VK} {E : XK} {p : Addr} {m : List (Str × PyData)} {n : Str} {c : List Str} (h : jQ H p m) (hc : Chain m n c) (hl : c.length <= 60) (q : ∀ q H', ai H H' -> H q = none -> cj H' q (c.map PyData.str) -> Q (.ref q) H') : nG [.ref p, .str n] H Q E := ⟨p, m, n, c, rfl, h, hc, hl, q⟩
theorem xu (T : Txt K mg a) : bS P w K mg base iH 1 a.bw a.gq ["_law_uppers", "_law_name_here"] nG := by
 refine T.eT.ok en (fun vs H Q E h => ?_) (fun d5 A outer s H vs Q E hr h => ?_)
 . obtain ⟨_, _, _, _, rfl, _⟩ := h; rfl
 . obtain ⟨d, m, n, c, rfl, ha, hc, gb, q⟩ := h
   refine ⟨_, (ak (bA (i := 2) en.nd rfl (Or.inl rfl) (i6 aq))
    (ak (lD PassesOwn.never (aD iX (pv 1) gG (aT _))
     (ak (dC (rY PySem.F.plainAttrs_list PySem.F.slot_list_append PySem.F.type_list_append ik (pv 2) (af (pv 1) aq)))
     (au (bA (i := 1) en.nd rfl (Or.inl rfl) (eM (dX hr) (pv 0) (pv 1) (fun _ _ => rfl))))))
    (au (aK (pv 2))))), ?_⟩
   repeat' (walk_at "rd1")
   rename_i p H1 jV rE p4
   refine oh (fun r σ' H' => ∃ (acc rest : List Str) (x : V), σ' = [some (.ref d), some x, some (.ref p)] /\ ai H H' /\ cj H' p (acc.map PyData.str) /\ acc ++ rest = c /\ r = rest.length /\ ((x = .aO /\ rest = []) \/ ∃ n, x = .str n /\ Chain m n rest)) ⟨_, [], c, _, rfl, jV, p4, rfl, rfl, .inr ⟨n, rfl, hc⟩⟩ ?_
   rintro r σ' H' ⟨acc, rest, x, rfl, mL, xn, oY, rfl, hx⟩
   have HI := ha.keeps mL
   have Br : acc.length <= 60 := by rw [<- oY, List.length_append] at gb; omega
   rcases hx with ⟨rfl, rfl⟩ | ⟨n', rfl, nL⟩
   . repeat' (walk_at "rd1")
     rw [List.append_nil] at oY
     subst oY
     exact q _ _ mL rE xn
   . cases nL with
     | top e =>
       repeat' (walk_at "rd1")
       rename_i hb H3 tN vI
       have sm3 : ai H H3 := by walk_at "same"
       have CP := ha.keeps sm3
       repeat' (walk_at "rd1")
       exact ⟨0, Nat.zero_lt_one, acc ++ [n'], [], .aO, rfl, sm3, by rw [List.map_append]; exact vI, by rw [List.append_nil]; exact oY, rfl, .inl ⟨rfl, rfl⟩⟩
     | @up _ b c2 e tO =>
       repeat' (walk_at "rd1")
       rename_i hb H3 tN vI
       have sm3 : ai H H3 := by walk_at "same"
       have CP := ha.keeps sm3
       repeat' (walk_at "rd1")
       exact ⟨c2.length, Nat.lt_succ_self _, acc ++ [n'], c2, .str b, rfl, sm3, by rw [List.map_append]; exact vI, by rw [List.append_assoc]; exact oY, rfl, .inr ⟨b, rfl, tO⟩⟩
theorem oj (T : Txt K mg a) : iV P w K mg base 1 a.bw ["_law_uppers", "_law_name_here"] [] nG :=
 ⟨⟨_, _, xu T, T.eT.binds fun _ _ _ _ _ _ => .all fun us hl => match us, hl with | [_, _], _ => rfl, .nil⟩⟩
theorem Chain.len {m : List (Str × PyData)} {n : Str} {c : List Str} (h : Chain m n c) : 0 < c.length := by cases h <;> simp
theorem uM {m : List (Str × PyData)} {n : Str} (h : (c7 m n).isSome = true) : n ∈ m.map (·.1) := by
 rcases Classical.em (n ∈ m.map (·.1)) with z | z
 . exact z
 . rw [gW z] at h; cases h
local macro_rules | `(tactic| walk_at "use") => `(tactic| first
 | ((with_reducible refine' Bf ?e1 ?e2 ?e3 (fun _ _ _ _ _ => ?_)); (case e1 => walk_at "drd"); (case e2 => assumption); (case e3 => omega))
 | fail)
theorem rQ {H : Hp} {Q : VK} {p : Addr} {m : List (Str × PyData)} (hp : jQ H p m) (k : ∀ q H', ai H H' -> H q = none -> cj H' q ((m.map (·.1)).map PyData.str) -> Q (.ref q) H') : mU [.ref p] H Q := uZ hp k
def nO : Sp := fun vs H Q _ => ∃ p m c, vs = [.ref p, .int c] /\ eW H p m /\ (∀ n ∈ m.map (·.1), ∃ c, Chain m n c /\ c.length <= 8) /\ (∀ n ∈ m.map (·.1), nj n) /\ ∀ x d H', ai H H' -> sW m x d -> Q x H'
theorem zT {H : Hp} {Q : VK} {E : XK} {p : Addr} {m : List (Str × PyData)} {c : Int} (h : eW H p m) (hc : ∀ n ∈ m.map (·.1), ∃ c, Chain m n c /\ c.length <= 8) (hs : ∀ n ∈ m.map (·.1), nj n) (q : ∀ x d H', ai H H' -> sW m x d -> Q x H') : nO [.ref p, .int c] H Q E := ⟨p, m, c, rfl, h, hc, hs, q⟩
theorem xX (T : Txt K mg a) : bS P w K mg base iH 3 a.bx a.gx ["_law_uppers", "_law_cell"] nO := by
 have eQ := oj (P := P) (w := w) (base := base) T
 refine T.fg.ok cU (fun vs H Q E h => ?_) (fun d5 A outer s H vs Q E hr h => ?_)
 . obtain ⟨_, _, _, rfl, _⟩ := h; rfl
 . obtain ⟨p, m, cl, rfl, hp, pD, Bt, q⟩ := h
   refine ⟨_, (ak (bA (i := 2) cU.nd rfl (Or.inl rfl) (pe (nK rfl) rfl T.eY PyProof.Rows.boot_list (af (pv 0) aq)))
    (ak (cb (PW.pt (gR (aD (gI hr.qv) (pv 2) (i6 aq) (aT _)) (gE (aD (gI hr.qv) (bO cW (pv 1) aE) aE (aT _)))))
     (au (aK gG))
     aY)
    (ak (bA (i := 3) cU.nd rfl (Or.inl rfl) (fX ja (pv 2) (bO cW (bO eG (pv 1) aE) (a9 cN rfl T.dO PySem.boot_len (af (pv 2) aq))) (fun _ _ => rfl)))
    (ak (cb (aD (gI hr.qv) (bO cW (pv 1) aE) aE (aT _))
     (au (bA (i := 3) cU.nd rfl (Or.inl rfl) (fX ja (pv 2) (we rR aE) (fun _ _ => rfl))))
     aY)
    (ak (cb (aD A0 (a9 cN rfl T.dO PySem.boot_len (af (cV eQ (hr.mono (by decide)) rfl T.er T.ek (af (pv 0) (af (pv 3) aq))) aq)) aE (aT _))
     (au (aK (eM (dX hr) (pv 0) (pv 3) (fun _ _ => rfl))))
     aY)
    (au (aK (pv 3)))))))), ?_⟩
   have top : ∀ n ∈ m.map (·.1), ∃ c, Chain m n c /\ c.length <= 8 /\ (7 < c.length -> ∃ b c2, c7 m n = some (.str b) /\ Chain m b c2 /\ c2.length <= 7) := fun n hn => by
    obtain ⟨c, hc, hl⟩ := pD n hn
    refine ⟨c, hc, hl, fun h7 => ?_⟩
    cases hc with
    | top e => simp at h7
    | @up _ b c2 e tO => exact ⟨b, c2, e, tO, by simp at hl; omega⟩
   repeat' (walk_at "rd1")
   refine rQ hp.rd (fun pl H1 jV rE E4 => ?_)
   generalize hN : m.map (·.1) = N at *
   rcases N with _ | ⟨z, r⟩
   . repeat' (walk_at "rd1")
     all_goals (first | exact q _ _ _ (by walk_at "same") (Or.inl ⟨rfl, rfl⟩) | done)
   . have qw : z :: r ≠ [] := by simp
     have hlen : 0 < (z :: r).length := by simp
     generalize z :: r = ss at *
     repeat' (walk_at "rd1")
     all_goals (first | exact q _ _ _ (by walk_at "same") (Or.inl ⟨rfl, rfl⟩) | skip)
     . refine ve (E4.keeps (by assumption)).dv (.inl ⟨rfl, qw⟩) (fun n1 Cq => ?_)
       obtain ⟨c1, CI, HL, CK⟩ := top n1 Cq
       repeat' (walk_at "rd1")
       all_goals (first
        | (obtain ⟨b, c2, e2, tO, pT⟩ := CK (by omega); refine kP (hp.rd.keeps (by walk_at "same")) e2 (eU ?_); exact q _ _ _ (by walk_at "same") (Or.inr ⟨_, _, rfl, rfl, tO, pT⟩))
        | exact q _ _ _ (by walk_at "same") (Or.inr ⟨_, _, rfl, rfl, CI, by omega⟩))
     . rename_i HY Ds _ _ _
       have Cq : ss.getD (cl / 6 % (ss.length : Nat)).toNat default ∈ ss := getD_mem (by omega)
       obtain ⟨c1, CI, HL, CK⟩ := top _ Cq
       repeat' (walk_at "rd1")
       all_goals (first
        | (obtain ⟨b, c2, e2, tO, pT⟩ := CK (by omega); refine kP (hp.rd.keeps (by walk_at "same")) e2 (eU ?_); exact q _ _ _ (by walk_at "same") (Or.inr ⟨_, _, rfl, rfl, tO, pT⟩))
        | exact q _ _ _ (by walk_at "same") (Or.inr ⟨_, _, rfl, rfl, CI, by omega⟩))
theorem vd (T : Txt K mg a) : iV P w K mg base 3 a.bx ["_law_uppers", "_law_cell"] [] nO :=
 ⟨⟨_, _, xX T, T.fg.binds fun _ _ _ _ _ _ => .all fun us hl => match us, hl with | [_, _], _ => rfl, .nil⟩⟩
theorem Chain.next {m : List (Str × PyData)} {n : Str} {c : List Str} (h : Chain m n c) : ∀ {i : Nat} {x y : Str}, c[i]? = some x -> c[i + 1]? = some y -> c7 m x = some (.str y) := by
 induction h with
 | top e => intro i x y h1 h2; simp at h2
 | @up n b c e hc ih =>
   intro i x y h1 h2
   cases i with
   | zero =>
     simp at h1
     subst h1
     have hb : c[0]? = some b := by cases hc <;> rfl
     rw [List.getElem?_cons_succ, hb] at h2
     cases h2
     exact e
   | succ i =>
     rw [List.getElem?_cons_succ] at h1 h2
     exact ih h1 h2
theorem Chain.Eh {m : List (Str × PyData)} {n : Str} {c : List Str} (h : Chain m n c) : ∃ r x, c = r ++ [x] /\ c7 m x = some .none := by
 induction h with
 | top e => exact ⟨[], _, rfl, e⟩
 | @up n b c e hc ih =>
   obtain ⟨r, x, rfl, hx⟩ := ih
   exact ⟨n :: r, x, rfl, hx⟩
theorem Chain.head {m : List (Str × PyData)} {n : Str} {c : List Str} (h : Chain m n c) : ∃ r, c = n :: r := by cases h <;> exact ⟨_, rfl⟩
def nq : Sp := fun vs H Q _ => ∃ p d m n c, vs = [.ref p, .str n, .ref d] /\ cj H p (c.map PyData.str) /\ jQ H d m /\ Chain m n c /\ c.length <= 60 /\ (∀ x ∈ c, nj x) /\ ∀ H', ai H H' -> Q (.bl true) H'
theorem Ar {H : Hp} {Q : VK} {E : XK} {p d : Addr} {m : List (Str × PyData)} {n : Str} {c : List Str} (hp : cj H p (c.map PyData.str)) (h : jQ H d m) (hc : Chain m n c) (hl : c.length <= 60) (hs : ∀ x ∈ c, nj x) (q : ∀ H', ai H H' -> Q (.bl true) H') : nq [.ref p, .str n, .ref d] H Q E := ⟨p, d, m, n, c, rfl, hp, h, hc, hl, hs, q⟩
theorem yl (T : Txt K mg a) : bS P w K mg base iH 1 a.aI a.eI ["_law_found", "_law_name_here", "_law_uppers"] nq := by
 refine T.dr.ok cR (fun vs H Q E h => ?_) (fun d5 A outer s H vs Q E hr h => ?_)
 . obtain ⟨_, _, _, _, _, rfl, _⟩ := h; rfl
 . obtain ⟨p, d, m, n, c, rfl, hp, hd, hc, hl, hs, q⟩ := h
   obtain ⟨r, rfl⟩ := hc.head
   have qw : n :: r ≠ [] := by simp
   refine ⟨_, (ak (cb (PW.pt (gR (gK (d0 (a9 gN rfl T.bB PyProof.Rows.boot_isinstance (af (pv 0) (af (iW (v := .ty "list") rfl T.eY PyProof.Rows.boot_list rfl) aq))) (fun _ => rfl))) (gR (aD (gI hr.qv) (pv 0) (i6 aq) (aT _)) (gE (aD (kH hr.qv) (fX ja (pv 0) aE (fun _ _ => rfl)) (pv 1) (aT _))))))
    (au (aK dF))
    aY)
    (ak (jd PassesOwn.never rfl (n8 (pv 0)) (du (i := 3) cR.nd rfl (Or.inl rfl))
     (au (cb (PW.pt (gR (gK (d0 (a9 gN rfl T.bB PyProof.Rows.boot_isinstance (af (pv 3) (af (iW (v := .ty "str") rfl T.kW PyProof.Rows.boot_str rfl) aq))) (fun _ => rfl))) (gE (nN (km (dX hr) (pv 3) (pv 2)) rfl))))
      (au (aK dF))
      aY)))
    (ak (jd PassesOwn.never rfl (pX rfl T.hE (af aE (af (a9 cN rfl T.dO PySem.boot_len (af (pv 0) aq)) aq))) (du (i := 4) cR.nd rfl (Or.inl rfl))
     (au (cb (aD (kH hr.qv) (eM (dX hr) (pv 2) (fX ja (pv 0) (bO sY (pv 4) aE) (fun _ _ => rfl)) (fun _ _ => rfl)) (fX ja (pv 0) (pv 4) (fun _ _ => rfl)) (aT _))
      (au (aK dF))
      aY)))
    (au (aK (kX qJ (eM (dX hr) (pv 2) (fX ja (pv 0) (we rR aE) (fun _ _ => rfl)) (fun _ _ => rfl)) gG (aT _))))))), ?_⟩
   repeat' (walk_at "rd1")
   rename_i _ _ H1 jV _ _ _ _
   have p4 := hp.keeps jV
   have yc := hd.keeps jV
   refine z0 (Hb := H1) (cs := n :: r) (gd := PyData.str) p4.dv (fun j σ' H' => ∃ z, σ' = [some (.ref p), some (.str n), some (.ref d), z, none] /\ H' = H1) ⟨_, rfl, rfl⟩ (fun i σ' H' _ ⟨_, _, e⟩ a' xs _ hx => by rw [e]; exact hx) ?_ ?_
   . rintro j x v σ' H' hj ⟨z, rfl, rfl⟩ hI hS
     obtain rfl := (hS (ai.refl _)).str_inv
     have hx := hc.all x (List.mem_of_getElem? hj)
     repeat' (walk_at "rd1")
     . rename_i o e hb
       rw [e, hx] at hb
       cases hb
     . exact ⟨_, rfl, rfl⟩
   . rintro σ' H7 ⟨z, rfl, rfl⟩
     repeat' (walk_at "rd1")
     refine uO ?_
     repeat' (walk_at "rd1")
     refine ⟨_, _, rfl, ⟨by decide, by decide, by omega, by omega⟩, ?_⟩
     refine pE (fun j σ' => ∃ z z', σ' = [some (.ref p), some (.str n), some (.ref d), z, z']) ⟨_, _, rfl⟩ ?_ ?_
     . rintro j σ' H' hj ⟨z, z', rfl⟩ mL
       have qz := p4.keeps mL
       have hd2 := yc.keeps mL
       have Gf : j < (n :: r).length := by simp at hj ⊢; omega
       have tI : j + 1 < (n :: r).length := by simp at hj ⊢; omega
       have e1 : (n :: r)[j]? = some (n :: r)[j] := List.getElem?_eq_getElem Gf
       have e2 : (n :: r)[j + 1]? = some (n :: r)[j + 1] := List.getElem?_eq_getElem tI
       have g1 : (n :: r).getD (1 + (j : Int) - 1).toNat default = (n :: r)[j] := by rw [show (1 + (j : Int) - 1).toNat = j by omega, List.getD_eq_getElem?_getD, e1]; rfl
       have g2 : (n :: r).getD (1 + (j : Int)).toNat default = (n :: r)[j + 1] := by rw [show (1 + (j : Int)).toNat = j + 1 by omega, List.getD_eq_getElem?_getD, e2]; rfl
       have e3 : c7 m ((n :: r).getD (1 + (j : Int) - 1).toNat default) = some (.str ((n :: r).getD (1 + (j : Int)).toNat default)) := by rw [g1, g2]; exact hc.next e1 e2
       repeat' (walk_at "rd1")
       exact ⟨⟨_, _, rfl⟩, mL⟩
     . rintro σ' H' ⟨z, z', rfl⟩ mL
       have qz := p4.keeps mL
       have hd2 := yc.keeps mL
       obtain ⟨r2, x2, e5, e6⟩ := hc.Eh
       rw [e5] at qz
       rw [List.map_append] at qz
       have vI : cj H' p (r2.map PyData.str ++ [.str x2]) := qz
       repeat' (walk_at "rd1")
       rw [show decide (V.aO = V.aO) = true from decide_eq_true rfl]
       exact q _ (jV.trans mL)
theorem t7 (T : Txt K mg a) : iV P w K mg base 1 a.aI ["_law_found", "_law_name_here", "_law_uppers"] [] nq :=
 ⟨⟨_, _, yl T, T.dr.binds fun _ _ _ _ _ _ => .all fun us hl => match us, hl with | [_, _, _], _ => rfl, .nil⟩⟩
abbrev rB (H : Hp) (P : Addr) : Prop := TabAt H P i7 jn
def yR (m : List (Str × PyData)) (n : Str) : List PyData := (nM 60 m n).map PyData.str
theorem vz {m : List (Str × PyData)} {n : Str} : yU m [] n = false := by
 unfold yU
 rw [List.any_eq_false]
 intro x _
 simp [vF, c7]
structure oF (C P1 P2 : Addr) (H : Hp) (v : V) (p d1 d2 : Addr) (m : List (Str × PyData)) : Prop where
 g : gP C H v d1 d2 m []
 u : eW H p m
 n1 : p ≠ d1
 n2 : p ≠ d2
 t1 : lq H P1
 t2 : rB H P2
local macro_rules | `(tactic| walk_at "use") => `(tactic| first
 | ((with_reducible refine' Ar ?e1 ?e2 ?e3 ?e4 ?e5 (fun _ _ => ?_)); (case e1 => walk_at "lat"); (case e2 => walk_at "drd"); (case e3 => assumption); (case e4 => assumption); (case e5 => assumption))
 | ((with_reducible refine' zV ?e1 ?_); (case e1 => walk_at "grd"))
 | ((with_reducible refine' Be ?e1 ?e2 ?e3 (fun _ _ _ _ _ _ _ _ => ?_)); (case e1 => walk_at "gat"); (case e2 => assumption); (case e3 => assumption))
 | fail)
def rZ (C P1 P2 : Addr) : Sp := fun vs H Q _ => ∃ v p d1 d2 m, vs = [v, .ref p] /\ oF C P1 P2 H v p d1 d2 m /\ P1 ≠ P2 /\ mD m /\ m.length <= 40 /\ (∀ n ∈ m.map (·.1), nj n) /\ ∀ H', Mv [P1, P2] H H' -> lq H' P1 -> rB H' P2 -> Q (.bl true) H'
theorem xP {C P1 P2 : Addr} {H : Hp} {Q : VK} {E : XK} {v : V} {p d1 d2 : Addr} {m : List (Str × PyData)} (h : oF C P1 P2 H v p d1 d2 m) (ne : P1 ≠ P2) (hm : mD m) (hl : m.length <= 40) (hs : ∀ n ∈ m.map (·.1), nj n) (q : ∀ H', Mv [P1, P2] H H' -> lq H' P1 -> rB H' P2 -> Q (.bl true) H') : rZ C P1 P2 [v, .ref p] H Q E := ⟨v, p, d1, d2, m, rfl, h, ne, hm, hl, hs, q⟩
theorem zO (T : Txt K mg a) (hB : Bs K mg base) : bS P w K mg base iH 10 a.aQ a.dG ["_law_told", "_law_uppers"] (rZ a.ae a.ah a.ao) := by
 have cl := T.aw
 have eQ := oj (P := P) (w := w) (base := base) T
 have iR := t7 (P := P) (w := w) (base := base) T
 have jk := pL (P := P) (w := w) (base := base) T
 have iM := jG (P := P) (w := w) (base := base) T
 have jC := f7 (P := P) (w := w) (base := base) T
 have dw := oO (P := P) (w := w) (base := base) T
 have iS := nF (P := P) (w := w) (base := base) T
 have fF := vi (P := P) (w := w) (base := base) T hB
 refine T.et.E9 aS (fun vs H Q E h => ?_) (fun A outer s H vs Q E hr h => ?_)
 . obtain ⟨_, _, _, _, _, rfl, _⟩ := h; rfl
 . obtain ⟨v, p, d1, d2, m, rfl, hS, hP, hm, zW, Bt, q⟩ := h
   refine ⟨_, (ak (bA (i := 2) aS.nd rfl (Or.inr rfl) gO)
    (ak (o3 (jd PassesOwn.never rfl (lb (pv 1)) (du (i := 3) aS.nd rfl (Or.inr rfl))
     (au (kJ (dX hr) (pv 2) (pv 3) (cV eQ (hr.mono (by decide)) rfl T.er T.ek (af (pv 1) (af (pv 3) aq))) rfl))))
    (ak (o3 (jd PassesOwn.never rfl (lb (pv 1)) (du (i := 3) aS.nd rfl (Or.inr rfl))
     (ak (bA (i := 4) aS.nd rfl (Or.inl rfl) (aX (pv 0) T.aw T.bR jC (hr.mono (by decide)) (af (pv 3) aq)))
     (ak (cb (gK (d0 (cV iR (hr.mono (by decide)) rfl T.eJ T.eA (af (pv 4) (af (pv 3) (af (pv 1) aq)))) (fun _ => rfl)))
      (au (aK dF))
      aY)
     (ak (dC (rg PySem.F.plainAttrs_list PySem.F.slot_list_clear PySem.F.type_list_clear mG (pv 4)))
     (ak (bA (i := 5) aS.nd rfl (Or.inl rfl) (aX (pv 0) T.aw T.fE iS (hr.mono (by decide)) (af (pv 3) aq)))
     (ak (bA (i := 6) aS.nd rfl (Or.inl rfl) (a9 jL rfl T.cM PyProof.Rows.boot_sorted (af (rO (T := ["_law_one"]) (M := ["_law_told", "_law_uppers", "_law_chains", "_law_name_here", "_law_found", "_law_inner", "_law_due"]) (D4 (ax cS) ["_law_told", "_law_uppers", "_law_chains", "_law_name_here", "_law_found", "_law_inner", "_law_due"] rfl rfl (by decide +kernel)) rfl (sg (pv 1)) (fun _ _ _ _ _ => (du (i := 0) (show List.Nodup (["_law_one", "_law_told", "_law_uppers", "_law_chains", "_law_name_here", "_law_found", "_law_inner", "_law_due"] : List Str) by decide +kernel) rfl (Or.inl rfl))) (ia (by decide)) (fun _ _ _ _ _ => (oV (aD (rS (K := K) rfl) (pv 4) (eM (dX hr) (pv 3) (pv 0) (fun _ _ => rfl)) rfl))) (fun _ _ _ _ _ => (pv 0))) aq)))
     (ak (cb (PW.pt (gR (gK (d0 (a9 gN rfl T.bB PyProof.Rows.boot_isinstance (af (pv 5) (af (iW (v := .ty "list") rfl T.eY PyProof.Rows.boot_list rfl) aq))) (fun _ => rfl))) (gE (aD (kH hr.qv) (pv 5) (pv 6) (aT _)))))
      (au (aK dF))
      aY)
     (ak (dC (rY PySem.F.plainAttrs_list PySem.F.slot_list_append PySem.F.type_list_append ik (pv 5) (af kL aq)))
     (au (cb (PW.pt (gR (aD f9 (aX (pv 0) T.aw T.dB dw (hr.mono (by decide)) (af (pv 3) aq)) dF (aT _)) (gR (aD f9 (aX (pv 0) T.aw T.fV jk (hr.mono (by decide)) (af (pv 3) aq)) dF (aT _)) (gE (aD f9 (aX (pv 0) T.aw T.di iM (hr.mono (by decide)) (af (pv 3) aq)) dF (aT _))))))
      (au (aK dF))
      aY)))))))))))
    (ak (bA (i := 4) aS.nd rfl (Or.inl rfl) (mE (pv 0) T.aw T.dc fF (hr.mono (by decide))))
    (ak (cb (PW.pt (gR (gK (d0 (a9 gN rfl T.bB PyProof.Rows.boot_isinstance (af (pv 4) (af (iW (v := .ty "list") rfl T.eY PyProof.Rows.boot_list rfl) aq))) (fun _ => rfl))) (gE (aD (kH hr.qv) (pv 4) (j9 (k := 4) rfl (rH (j := 2) ⟨rfl, rfl, rfl, by decide +kernel, rfl, rfl, by decide +kernel⟩ ⟨a.bT, T.bC.e, PySem.W.codeHd_of_K hB.k T.bC.cd⟩ hB.b rfl (fun _ _ _ _ _ _ _ _ => rfl) rfl rfl rfl rfl) (hr.mono (by decide)) rfl T.cM (af (pv 1) aq) (fun _ _ _ _ _ _ hr => (n0 (af (a9 (mY (K := K) rfl) rfl T.dO PySem.boot_len (af (eM (dX hr) (pv 1) (pv 0) (fun _ _ => rfl)) aq)) (af (pv 0) aq))))) (aT _)))))
     (au (aK dF))
     aY)
    (ak (dC (rg PySem.F.plainAttrs_list PySem.F.slot_list_clear PySem.F.type_list_clear mG (pv 4)))
    (au (aK (kX (gI hr.qv) (a9 cN rfl T.dO PySem.boot_len (af (mE (pv 0) T.aw T.dc fF (hr.mono (by decide))) aq)) (a9 nz rfl T.dO PySem.boot_len (af (pv 1) aq)) (aT _)))))))))), ?_⟩
   repeat' (walk_at "rd1")
   rename_i pc H1 jV rE CN
   have F9 := hS.u.keeps jV
   have y8 : pc ≠ p := Ne.symm (hS.u.ne rE)
   refine j8 F9 (fun R hR => ?_) (fun o kvs e dk => ?_)
   . repeat' (walk_at "rd1")
     exact hR
   . have vt : Mv [p] H1 (upd H1 p (.cg o (.dK kvs))) := .dN e (by intro _ z; cases z)
     have G8 := hm.nd
     refine AO e dk [pc] (by simpa using Ne.symm y8) (fun j σ' H' => ∃ z, σ' = [some v, some (.ref p), some (.ref pc), z, none, none, none] /\ Mv [pc] (upd H1 p (.cg o (.dK kvs))) H' /\ mK H' pc ((m.map (·.1)).take j) (yR m)) ⟨_, rfl, Mv.refl, uR (CN.mv vt (by simpa using y8))⟩ (fun j σ' H' ⟨_, _, mv, _⟩ => mv) ?_ ?_
     . rintro j n d σ' H' hj ⟨z, rfl, mv, An⟩ kh BI
       have yZ : (m.map (·.1))[j]? = some n := by rw [List.getElem?_map, hj]; rfl
       have yn : n ∈ m.map (·.1) := List.mem_of_getElem? yZ
       obtain ⟨c, hc, gb⟩ := hm.ch n (gS yn)
       have Hw : yR m n = c.map PyData.str := by unfold yR; rw [hc.fn gb]
       have GY : n ∉ (m.map (·.1)).take j := fun hh => by
        have B7 := (List.getElem?_eq_some_iff.mp yZ).1
        obtain ⟨i, hi, e⟩ := List.getElem_of_mem hh
        rw [List.getElem_take] at e
        have jW : i < j := by rw [List.length_take] at hi; omega
        have := (List.pairwise_iff_getElem.mp (List.nodup_iff_pairwise_ne.mp G8)) i j (by omega) B7 jW
        exact this (e.trans (List.getElem?_eq_some_iff.mp yZ).2.symm)
       repeat' (walk_at "rd1")
       rename_i l2 H2 iU sQ pT
       refine vp (An.keeps iU) (by rw [List.length_take, List.length_map]; omega) GY (by rw [Hw]; exact pT) (fun H3 tN D7 => ?_)
       refine ⟨_, rfl, (mv.jw iU).trans tN, ?_⟩
       rw [List.take_add_one, yZ]
       exact D7
     . rintro σ' H' ⟨z, rfl, mv, An⟩
       rw [List.take_of_length_le (by rw [List.length_map]; exact Nat.le_refl _)] at An
       have kh : H' p = some (.cg o (.dK kvs)) := mv.at (by simpa using Ne.symm y8) aj
       have ix := Mv.jR (by simpa using Ne.symm y8) e mv
       have Bj : mK (upd H' p (.dK kvs)) pc (m.map (·.1)) (yR m) := An.mv (.dN kh (by intro _ z; cases z)) (by simpa using y8) (fun b hb ds hl => by
        obtain ⟨xs, e2, _⟩ := hl
        rw [List.mem_singleton.mp hb, kh] at e2
        cases e2)
       have iU : ai H (upd H' p (.dK kvs)) := n6 jV ix (fun b hb => by rw [List.mem_singleton.mp hb]; exact rE)
       generalize upd H' p (.dK kvs) = H2 at *
       clear ix mv An kh vt e dk
       repeat' (walk_at "rd1")
       have Di := hS.u.keeps iU
       refine j8 Di (fun R hR => ?_) (fun o kvs e dk => ?_)
       . repeat' (walk_at "rd1")
         exact hR
       . have vt : Mv [p] H2 (upd H2 p (.cg o (.dK kvs))) := .dN e (by intro _ z; cases z)
         have By : gP a.ae (upd H2 p (.cg o (.dK kvs))) v d1 d2 m [] := ⟨hJ (hS.g.keeps iU).ins Di vt, (hS.g.keeps iU).ab.mv vt (by simpa using Ne.symm hS.n1), (hS.g.keeps iU).mM.mv vt (by simpa using Ne.symm hS.n2), hS.g.ne⟩
         have Fe : mK (upd H2 p (.cg o (.dK kvs))) pc (m.map (·.1)) (yR m) := Bj.mv vt (by simpa using y8) (fun b hb ds hl => by
          rw [List.mem_singleton.mp hb] at hl
          exact Di.qt hl rfl)
         have Er : ez (upd H2 p (.cg o (.dK kvs))) kvs m := dk.jO vt.tp
         have EJ : (upd H2 p (.cg o (.dK kvs))) p = some (.cg o (.dK kvs)) := aj
         refine AO e dk [] (by simp) (fun j σ' H' => ∃ z1 z2 z3 z4, σ' = [some v, some (.ref p), some (.ref pc), z1, z2, z3, z4] /\ ai (upd H2 p (.cg o (.dK kvs))) H') ⟨_, _, _, _, rfl, ai.refl _⟩ (fun j σ' H' ⟨_, _, _, _, _, sm⟩ => sm.mv) ?_ ?_
         . rintro j n d σ' H' hj ⟨z1, z2, z3, z4, rfl, sm⟩ kh BI
           generalize upd H2 p (.cg o (.dK kvs)) = Hf at *
           have yZ : (m.map (·.1))[j]? = some n := by rw [List.getElem?_map, hj]; rfl
           have yn : n ∈ m.map (·.1) := List.mem_of_getElem? yZ
           obtain ⟨c, hc, gb⟩ := hm.ch n (gS yn)
           have vE := hc.has
           have qA : ∀ x ∈ c, nj x := fun x hx => Bt x (uM (hc.all x hx))
           have Af := By.keeps sm
           have Ig := Af.rd
           have ud := Af.ins
           repeat' (walk_at "rd1")
           rename_i q1 H3 sm3 HU E4 H4 DW _ H5 ui B5 q2 H6 ss qu Ic wo CG BV
           have Bz : ai Hf H6 := by walk_at "same"
           refine xJ (Bz _ _ EJ) (Er.jO (fun b xs e => Bz _ _ e)) (fun R hR => ?_) (fun k => (nM 60 m k).contains n) PyData.str (by omega) (fun _ => rfl) (fun k H7 N hk Ai yes no => ?_) (fun q8 H8 EW G3 EH => ?_)
           . repeat' (walk_at "rd1")
             exact hR
           . repeat' (walk_at "rd1")
             refine nY ((Fe.keeps Bz).keeps Ai) hk (fun l hl => ?_)
             have r0 : cj H7 l ((nM 60 m k).map PyData.str) := hl
             repeat' (walk_at "rd1")
             refine sL (fun hb => ?_) (fun hb => no hb _ (ai.refl _))
             repeat' (walk_at "rd1")
             exact yes hb _ _ (ai.refl _) (.str _)
           . have FQ : cj H8 q8 ((fQ m n).map PyData.str) := EH
             have yO : (fQ m n).length < 64 := by
              have h1 := List.length_filter_le (fun k => (nM 60 m k).contains n) (m.map (·.1))
              rw [List.length_map] at h1
              unfold fQ
              omega
             have yX := (By.keeps Bz).keeps EW
             have GU := yX.rd
             have Gn := yX.ins
             repeat' (walk_at "rd1")
             rename_i q9 H9 s9 GV Ik wI Cu DC _
             obtain rfl := kC (wI.trans wo.symm) Cu CG
             have Dy := (BV.keeps EW).keeps GV
             refine sG Dy.dv DC.dv (fun x hx => Bt x ((List.mem_filter.mp (wI.mem_iff.mp hx)).1)) ?_
             have GB : s9.length < 64 := by rw [wI.length_eq]; exact yO
             repeat' (walk_at "rd1")
             rename_i Fh xc Gs
             have F0 : ai Hf Fh := by walk_at "same"
             have Cr := (By.keeps F0).rd
             have HW := Cr.ins
             repeat' (walk_at "rd1")
             . rename_i hb; exact absurd vE hb
             . rename_i hb; exact absurd vz hb
             . rename_i hb; exact absurd rfl hb
             . exact ⟨_, _, _, _, rfl, by walk_at "same"⟩
         . rintro σ' H' ⟨z1, z2, z3, z4, rfl, sm⟩
           have ix := Mv.jR (S := []) (by simp) e sm.mv
           have FI := n6 (ai.refl _) ix (by simp)
           have y4 : ai H (upd H' p (.dK kvs)) := iU.trans FI
           have D3 : mK (upd H' p (.dK kvs)) pc (m.map (·.1)) (yR m) := Bj.keeps FI
           generalize upd H' p (.dK kvs) = H3 at *
           clear ix sm vt e dk By Fe Er EJ
           have BL := hS.g.keeps y4
           have FT := hS.u.keeps y4
           have Ca := hS.t1.keeps y4
           have Ep := hS.t2.keeps y4
           have DE := BL.ins
           repeat' (walk_at "rd1")
           rename_i q4 H4 s4 Bi Gq HK BE FO _
           have pS := Ca.yD Ep (Ne.symm hP) Bi
           have Gh := Ca.AX FT Bi
           have Hs := Ca.Fw D3 Bi
           have AU := BL.yD Ca Bi
           refine kD ?_
           repeat' (walk_at "rd1")
           refine ⟨pS, fun H5 ui Hd => ?_⟩
           have DR := pS.AX Gh ui
           have Hi := pS.Fw Hs ui
           have G5 := AU.yD pS ui
           have Cw := pS.yD Gq hP ui
           have B5 := pS.GD FO ui
           refine lF (fun x => (pQ m x, x)) DR (by omega) (fun x hx H' sm => ?_) (fun q6 H6 ss qu HE wo Dw BV => ?_)
           . refine nV ?_
             repeat' (walk_at "rd1")
             refine nY (Hi.keeps sm) hx (fun l hl => ?_)
             have r0 : cj H' l ((nM 60 m x).map PyData.str) := hl
             repeat' (walk_at "rd1")
             exact ⟨by assumption, by assumption⟩
           . have sU := B5.keeps qu
             obtain rfl := jl (wo.trans BE.1.symm) Dw BE.2
             refine sG sU.dv BV.dv (fun x hx => Bt x (BE.1.mem_iff.mp hx)) ?_
             have EZ := G5.keeps qu
             have IH := EZ.ins
             have Dp := Cw.keeps qu
             have HS : ss.length < 64 := by rw [BE.1.length_eq, List.length_map]; omega
             repeat' (walk_at "rd1")
             rename_i H7 ym Fx
             have Es := EZ.Ax sU ym
             have HD := (DR.keeps qu).mv ym (by simpa using (DR.keeps qu).qt sU)
             have Gp := Es.ins
             have zv := Dp.Ax sU ym
             have Ct := (Hd.keeps qu).Ax sU ym
             have Gi : Mv [a.ah, a.ao] H H7 := ((((y4.mv.step Bi (by simp)).step ui (by simp)).jw qu).step ym (fun b hb => by rw [List.mem_singleton.mp hb]; exact .inr (y4.none HK)))
             repeat' (walk_at "rd1")
             rename_i q8 H8 s8 v3 HM G3 GF EH
             have FW : s8.length = m.length := by rw [GF.1.length_eq, List.length_map]
             have qv := zv.AX HD v3
             repeat' (walk_at "rd1")
             rw [FW]
             rw [show id (decide (V.int (m.length : Nat) = V.int (m.length : Nat))) = true from decide_eq_true rfl]
             exact q _ (Gi.step v3 (by simp)) HM (zv.yD Ct (Ne.symm hP) v3)
theorem yq (T : Txt K mg a) (hB : Bs K mg base) : iV P w K mg base 10 a.aQ ["_law_told", "_law_uppers"] [] (rZ a.ae a.ah a.ao) :=
 ⟨⟨_, _, zO T hB, T.et.binds fun _ _ _ _ _ _ => .all fun us hl => match us, hl with | [_, _], _ => rfl, .nil⟩⟩
local macro_rules | `(tactic| walk_at "use") => `(tactic| first
 | ((with_reducible refine' vy ?e1 ?e2 ?_); (case e1 => omega); (case e2 => omega))
 | ((with_reducible refine' zT ?e1 ?e2 ?e3 (fun _ _ _ _ _ => ?_)); (case e1 => walk_at "dla"); (case e2 => assumption); (case e3 => assumption))
 | ((with_reducible refine' zH ?e1 ?e2 ?e3 ?e4 (fun _ _ _ => ?_)); (case e1 => walk_at "gat"); (case e2 => omega); (case e3 => assumption); (case e4 => walk_at "abok"))
 | ((with_reducible refine' xP ?e1 ?e2 ?e3 ?e4 ?e5 (fun _ _ _ _ => ?_)); (case e1 => assumption); (case e2 => assumption); (case e3 => assumption); (case e4 => assumption); (case e5 => assumption))
 | fail)
theorem tf (T : Txt K mg a) : iV P w K mg base 4 a.bu ["self", "name", "above"] [.aO] (kM a.ae) :=
 ⟨⟨_, _, rz T, T.dt.binds fun _ _ _ _ _ _ s us kx hl => by
   obtain ⟨o, n, h1, h2⟩ := T.fc.ex
   have hl : us.length = 2 := by simp at hl; omega
   match us, hl with
   | [_, _], _ => exact PySem.W.binds_K kx rfl h1 h2 rfl rfl, .cons rfl .nil⟩⟩
theorem oF.mv {C P1 P2 : Addr} {H H' : Hp} {v : V} {p d1 d2 : Addr} {m : List (Str × PyData)} (h : oF C P1 P2 H v p d1 d2 m) (mv : Mv [P1, P2] H H') (t1 : lq H' P1) (t2 : rB H' P2) : oF C P1 P2 H' v p d1 d2 m := by
 have nd : ∀ {d : Addr} {x : List (Str × PyData)}, eW H d x -> d ∉ [P1, P2] := fun hd => by simpa using ⟨h.t1.Bk hd, h.t2.Bk hd⟩
 obtain ⟨q, dx, rfl, e⟩ := h.g.ins
 exact ⟨⟨⟨q, dx, rfl, mv.at (by simpa using ⟨h.t1.ne e (by intro _ z; cases z), h.t2.ne e (by intro _ z; cases z)⟩) e⟩, h.g.ab.mv mv (nd h.g.ab), h.g.mM.mv mv (nd h.g.mM), h.g.ne⟩, h.u.mv mv (nd h.u), h.n1, h.n2, t1, t2⟩
theorem oF.keeps {C P1 P2 : Addr} {H H' : Hp} {v : V} {p d1 d2 : Addr} {m : List (Str × PyData)} (s : ai H H') (h : oF C P1 P2 H v p d1 d2 m) : oF C P1 P2 H' v p d1 d2 m := ⟨h.g.keeps s, h.u.keeps s, h.n1, h.n2, h.t1.keeps s, h.t2.keeps s⟩
theorem oF.add {C P1 P2 : Addr} {H H1 H2 : Hp} {v : V} {p d1 d2 : Addr} {m m' : List (Str × PyData)} (h : oF C P1 P2 H v p d1 d2 m) (r9 : Mv [d1] H H1) (g1 : gP C H1 v d1 d2 m' []) (ix : Mv [p] H1 H2) (u2 : eW H2 p m') : oF C P1 P2 H2 v p d1 d2 m' :=
 have u1 := h.u.mv r9 (by simpa using h.n1)
 ⟨⟨hJ g1.ins u1 ix, g1.ab.mv ix (by simpa using Ne.symm h.n1), g1.mM.mv ix (by simpa using Ne.symm h.n2), g1.ne⟩, u2, h.n1, h.n2, (h.t1.Ce h.g.ab r9).Ce u1 ix, (h.t2.Ce h.g.ab r9).Ce u1 ix⟩
theorem tq {H : Hp} {P l : Addr} {pos : Pos} {q : Str} {xs : List V} (t : TabAt H P pos q) (no : K.lookup P = none) (h : c6 K H l xs) : l ≠ P := by
 rcases h with (h | ⟨o, h⟩) | ⟨o, aR, n, h, _⟩
 . exact t.ne h (by intro _ z; cases z)
 . exact t.ne h (by intro _ z; cases z)
 . intro z; rw [z, no] at h; cases h
theorem xT (T : Txt K mg a) (hB : Bs K mg base) : bS P w K mg base iH 12 a.kr a.lh ["_law_script"] (ni a.tabs K) := by
 have cl := T.aw
 have ji := iQ (P := P) (w := w) (base := base) T
 have iI := qj (P := P) (w := w) (base := base) T
 have k9 := vd (P := P) (w := w) (base := base) T
 have eu := yq (P := P) (w := w) (base := base) T hB
 have mR := qh (P := P) (w := w) (base := base) T
 have kU := u9 (P := P) (w := w) (base := base) T
 have jc := tf (P := P) (w := w) (base := base) T
 have dw := oO (P := P) (w := w) (base := base) T
 have hP := T.aC
 refine T.qP.ok dS (fun vs H Q E h => ?_) (fun d5 A outer s H vs Q E hr h => ?_)
 . obtain ⟨_, _, rfl, _⟩ := h; rfl
 . obtain ⟨l, ns, rfl, hl, hn, hT, q⟩ := h
   have t1 : lq H a.ah := .inl (hT _ T.bW)
   have t2 : rB H a.ao := .inl (hT _ T.cI)
   refine ⟨_, (ak (bA (i := 1) dS.nd rfl (Or.inl rfl) (cV ji (hr.mono (by decide)) rfl T.fA T.fL (af (pv 0) (af aE aq))))
    (ak (bA (i := 2) dS.nd rfl (Or.inl rfl) (sv T.lQ mR (hr.mono (by decide)) rfl T.ky))
    (ak (bA (i := 3) dS.nd rfl (Or.inl rfl) gO)
    (ak (bA (i := 4) dS.nd rfl (Or.inl rfl) (bO cW (bO eG (pv 1) aE) aE))
    (ak (cb (gK (d0 (cV eu (hr.mono (by decide)) rfl T.cE T.cB (af (pv 2) (af (pv 3) aq))) (fun _ => rfl)))
     (au (aK dF))
     aY)
    (ak (jd PassesOwn.never rfl (uW rfl T.dD (af (rP uv (pv 0) (ow aE) (ow aE)) aq)) (wt (n := 2) rfl (mj (du (i := 5) dS.nd rfl (Or.inl rfl)) (mj (du (i := 6) dS.nd rfl (Or.inl rfl)) uJ)))
     (ak (bA (i := 7) dS.nd rfl (Or.inl rfl) (cV iI (hr.mono (by decide)) rfl T.fm T.eV (af (pv 5) (af (pv 1) aq))))
     (ak (bA (i := 8) dS.nd rfl (Or.inl rfl) (cV k9 (hr.mono (by decide)) rfl T.gy T.gB (af (pv 3) (af (pv 6) aq))))
     (ak (cb (aD f9 (aX (pv 2) T.aw T.dB dw (hr.mono (by decide)) (af (pv 7) aq)) dF (aT _))
      (au (aK dF))
      aY)
     (ak (cb (PW.pt (sj (aD qJ (pv 8) gG (aT _)) (o7 (aD vM (bO cW (pv 6) aE) aE (aT _)))))
      (au (bA (i := 9) dS.nd rfl (Or.inl rfl) (aX (pv 2) T.aw T.eN jc (hr.mono (by decide)) (af (pv 7) aq))))
      (au (bA (i := 9) dS.nd rfl (Or.inl rfl) (aX (pv 2) T.aw T.eN kU (hr.mono (by decide)) (af (pv 7) (af (pv 8) aq))))))
     (ak (kJ (dX hr) (pv 3) (pv 7) (pv 8) rfl)
     (au (cb (PW.pt (gR (aD iX (pv 9) gG (aT _)) (gE (PW.pt (sj (aD (gI hr.qv) (pv 5) (pv 4) (aT _)) (o7 (gK (d0 (cV eu (hr.mono (by decide)) rfl T.cE T.cB (af (pv 2) (af (pv 3) aq))) (fun _ => rfl)))))))))
      (au (aK dF))
      aY))))))))
    (au (aK (wU (cV eu (hr.mono (by decide)) rfl T.cE T.cB (af (pv 2) (af (pv 3) aq))) (yI (kX yA (aX (pv 2) T.aw T.dB dw (hr.mono (by decide)) (af (cV iI (hr.mono (by decide)) rfl T.fm T.eV (af aE (af (pv 1) aq))) aq)) dF (aT _)))))))))))), ?_⟩
   repeat' (walk_at "rd1")
   rename_i v H1 d1 d2 jV Gb Gx DG pu H2 iU sQ qz w0 w1
   have ne1 : pu ≠ d1 := Ne.symm (DG.ab.ne sQ)
   have ne2 : pu ≠ d2 := Ne.symm (DG.mM.ne sQ)
   have Cd : oF a.ae a.ah a.ao H2 v pu d1 d2 [] := ⟨DG.keeps iU, qz, ne1, ne2, (t1.keeps jV).keeps iU, (t2.keeps jV).keeps iU⟩
   have FX : mD [] := ⟨fun n h => by simp [c7] at h, .nil, Nat.zero_le _⟩
   refine xP Cd hP FX (by simp) (by simp) (fun H3 tN Hj Hx => ?_)
   have CA := Cd.mv tN Hj Hx
   have pT := ai.seq (jV.trans iU) hl
   have G0 := tN.sq (by simpa using ⟨tq Cd.t1 T.a0.no pT, tq Cd.t2 T.bC.no pT⟩) pT
   repeat' (walk_at "rd1")
   refine xV 1 41 G0 (fun ql Hb HA E1 hq => ?_)
   have zW : ((ns.drop 1).take (41 - 1)).length <= 40 := by rw [List.length_take]; omega
   generalize (ns.drop 1).take (41 - 1) = cells at hq zW
   generalize F7 : cell ns (0 : Int).toNat = st at *
   generalize st / 12 % 40 = wh at *
   have xx := wC st
   have DT := CA.keeps HA
   have Gm : ql ≠ pu := Ne.symm (CA.u.ne E1)
   have FP : ql ≠ d1 := Ne.symm (CA.g.ab.ne E1)
   have GN := DT.t1.qt hq
   have GW := DT.t2.qt hq
   repeat' (walk_at "rd1")
   refine zy (Hb := Hb) hq.dv (fun j σ' H' => ∃ z5 z6 z7 z8 z9 m, σ' = [some (.ref l), some (.int st), some v, some (.ref pu), some (.int wh), z5, z6, z7, z8, z9] /\ Mv [pu, d1, a.ah, a.ao] Hb H' /\ oF a.ae a.ah a.ao H' v pu d1 d2 m /\ lP (fun k => l0 k st) m /\ m.length = j) ⟨_, _, _, _, _, [], rfl, Mv.refl, DT, lP.nil, rfl⟩ (fun i σ' H' _ ⟨_, _, _, _, _, _, _, mv, _⟩ a' xs e hx => by cases e; exact mv.sq (by simp [Gm, FP, GN, GW]) hx) ?_ ?_
   . rintro j c t0 σ' H5 hc ⟨z5, z6, z7, z8, z9, m, rfl, ui, F6, i5, BJ⟩ Gw
     have HN : j < 40 := by have := (List.getElem?_eq_some_iff.mp hc).1; omega
     have qu : ai H5 (upd H5 t0 (.tup [.int (j : Int), .int c])) := bY Gw
     have zz : Dv (upd H5 t0 (.tup [.int (j : Int), .int c])) (.ref t0) (.tuple [.int (j : Int), .int c]) := .tup aj (.cons (.int _) (.cons (.int _) .nil))
     generalize upd H5 t0 (.tup [.int (j : Int), .int c]) = H6 at *
     refine xk zz (fun w1 w2 f1 f2 => ?_)
     obtain rfl := f1.int_inv
     obtain rfl := f2.int_inv
     have Fg := F6.keeps qu
     have FR := ui.jw qu
     have IB := Fg.u
     have pD := i5.ch
     have aH := i5.De xx
     have k6 : c7 m (l0 (j : Int) st) = none := by rw [<- BJ]; exact i5.fresh xx
     repeat' (walk_at "rd1")
     rename_i x d H7 Ai yY
     have BD := Fg.keeps Ai
     have ym := FR.jw Ai
     have HG := BD.g.rd
     have Es := BD.g
     have EE : m.length <= 100 := by omega
     have Gp := BD.g.ins
     have pB := i5.snoc xx (by omega) yY
     rw [BJ] at pB
     have Bq := pB.FK xx
     have uV := pB.De xx
     have CB := pB.len
     have Cz : (m ++ [(l0 (j : Int) st, d)]).length = j + 1 := by rw [List.length_append, BJ]; rfl
     have fin : ∀ (H8 H9 : Hp) (σ : St) , Mv [d1] H7 H8 -> gP a.ae H8 v d1 d2 (m ++ [(l0 (j : Int) st, d)]) [] -> Mv [pu] H8 H9 -> eW H9 pu (putD m (l0 (j : Int) st) d) -> oF a.ae a.ah a.ao H9 v pu d1 d2 (m ++ [(l0 (j : Int) st, d)]) /\ Mv [pu, d1, a.ah, a.ao] Hb H9 := by
      intro H8 H9 σ v3 yX Fc E2
      rw [jD k6] at E2
      exact ⟨BD.add v3 yX Fc E2, (ym.step v3 (by simp)).step Fc (by simp)⟩
     rcases yY with ⟨rfl, rfl⟩ | ⟨b, c2, rfl, rfl, tO, Eg⟩
     all_goals (repeat' (walk_at "rd1"))
     all_goals (first
      | (rename_i hb; exact absurd (by rw [k6]; rfl) hb)
      | (obtain ⟨s9, m9⟩ := fin _ _ [] (by assumption) (by assumption) (by assumption) (by assumption); first
        | exact ⟨_, _, _, _, _, _, rfl, m9, s9, pB, Cz⟩
        | (refine xP s9 hP Bq CB uV (fun Fh xc C6 CU => ?_); repeat' (walk_at "rd1"); exact ⟨_, _, _, _, _, _, rfl, m9.step xc (by simp), s9.mv xc C6 CU, pB, Cz⟩)))
   . rintro σ' H' ⟨z5, z6, z7, z8, z9, m, rfl, mv, hS, i5, BJ⟩
     have F3 := i5.FK xx
     have aH := i5.De xx
     have zW := i5.len
     repeat' (walk_at "rd1")
     rename_i H8 v3 G9 Hz
     have HQ := hS.mv v3 G9 Hz
     have yX := HQ.g.rd
     have Gn := yX.ins
     have k6 : c7 m (l0 40 st) = none := gW fun hx => by
      obtain ⟨y, hy, e⟩ := List.mem_map.mp hx
      obtain ⟨i, hi, e2⟩ := List.getElem_of_mem hy
      have h1 := i5.nm i y (by rw [List.getElem?_eq_getElem hi, e2])
      rw [h1] at e
      have := o4 (by omega) (by omega) (by omega) (by omega) e
      omega
     repeat' (walk_at "rd1")
     rw [k6]
     exact q _
end
end My
open PySem PySem.W PyProof.Rows
local macro_rules | `(tactic| walk_at "k_dg") => `(tactic| (refine' ⟨?a, ⟨_, L2.oN ?l ?c⟩, ?k⟩; (case a => k_is); (case l => k_is); (case c => k_is); (case k => k_is)))
local macro_rules | `(tactic| walk_at "k_dm") => `(tactic| (refine' ⟨?a, ⟨_, L2.oN ?l ?c⟩, ?k, ?i⟩; (case a => k_is); (case l => k_is); (case c => k_is); (case k => k_is); (case i => k_is)))
local macro_rules | `(tactic| walk_at "k_dt") => `(tactic| (refine' My.tT ?l; (case l => k_is)))
local macro_rules | `(tactic| walk_at "k_ck") => `(tactic| (refine' ⟨?a, ?b, ?c, ?d, ?e, ?f, ?g⟩; (case a => k_is); (case b => k_is); (case c => k_is); (case d => k_is); (case e => k_is); (case f => k_is); (case g => k_is)))
local macro_rules | `(tactic| walk_at "k_lm") => `(tactic| (refine' L2.tU ?l ?e ?lc ?ev ?cd ?no; (case l => k_is); (case e => exact rfl); (case lc => k_is); (case ev => exact rfl); (case cd => kernel_rfl); (case no => kernel_rfl)))
theorem My.Cp {K : Frag} {mg : Str -> Option Value} {h : Heap} {fa : Addr} {ts : List Addr} {w : World} (X : K.In h) (yL : mg "law" = some (.ref fa)) (T : ∃ a : My.Ad, a.tabs = ts /\ My.Txt K mg a) :
 ∃ fd : FuncData, (∀ (s : Shared) (u : Value), BindsTo s fd ⟨[u], []⟩ [("_law_script", u)]) /\ (∀ b ∈ ts, K.lookup b = none /\ ∃ c, CodeHd h c b) /\
   ∀ base : Heap, K.In base -> base.Ns mainGlobals mg -> L2.BM mg base -> L2.bS PySem.Challenge.rw_wakefew_k21_groups_in_chains.prog w K mg base L2.iH 14 fa fd ["_law_script"] (My.ni ts K) := by
 obtain ⟨a, rfl, T⟩ := T
 have e0 := yL.symm.trans T.qX
 cases e0
 refine ⟨a.lh, fun s u => My.qo T s u, fun b hb => ?_, fun base kb nb bm => (My.xT T ⟨kb, bm⟩).mono (by decide)⟩
 rcases T.uD b hb with rfl | rfl
 . exact ⟨T.a0.no, _, codeHd_of_K X T.a0.cd⟩
 . exact ⟨T.bC.no, _, codeHd_of_K X T.bC.cd⟩
theorem PySem.W.Fast.tw3499472659831490800 : True := trivial
theorem PySem.W.Fast.tw14788562343974245256 : True := trivial
theorem PySem.W.Fast.tw14173616505593037907 : True := trivial
theorem PySem.W.Fast.tw10159782581769305274 : True := trivial
theorem PySem.W.Fast.tw2583264348308884932 : True := trivial
theorem PySem.W.Fast.tw4222000563404691661 : True := trivial
theorem PySem.W.Fast.tw15934093987388421748 : True := trivial
theorem PySem.W.Fast.tw7104980457200687140 : True := trivial
set_option maxRecDepth 100000 in
set_option maxHeartbeats 0 in
theorem PySem.Challenge.cw_wakefew_k21_groups_in_chains_holds : PySem.Challenge.rw_wakefew_k21_groups_in_chains.Holds := by
 w_on; o_law; k_head; (case hw => w_witness2)
 k_fill
 refine L2.tu (l := PySem.Challenge.rw_wakefew_k21_groups_in_chains) (n := 63) (k := 14) (x := "_law_script") (CX := L2.iH) (sp := My.ni) rfl (by decide) rfl ⟨rfl, by decide, by decide⟩ (fun w h Y => ⟨PySem.W.km_in_of Y, PySem.W.km_tabs_of Y⟩) ?F ?S ?C
 case F =>
  intro w mg fa h KX G yL
  refine My.Cp KX yL ?_
  try dsimp only
  refine' My.yJ KX G ?h0 ?h3 ?h4 ?h5 ?h6 ?h7 ?h8 ?h9 ?h10 ?h11 ?h12 ?h13 ?h14 ?h15 ?h16 ?h17 ?h18 ?h19 ?h20 ?h21 ?h22 ?h23 ?h24 ?h25 ?h26 ?h27 ?h28 ?h29 ?h30 ?h31 ?h32 ?h33 ?h34 ?h35 ?h36 ?h37 ?h38 ?h39 ?h40
  (case h0 => k_is)
  (case h3 => walk_at "k_dm")
  (case h4 => walk_at "k_dm")
  (case h5 => walk_at "k_dt")
  (case h6 => walk_at "k_dm")
  (case h7 => walk_at "k_dm")
  (case h8 => walk_at "k_dm")
  (case h9 => walk_at "k_dm")
  (case h10 => walk_at "k_dm")
  (case h11 => walk_at "k_dm")
  (case h12 => walk_at "k_lm")
  (case h13 => decide)
  (case h14 => walk_at "k_dm")
  (case h15 => walk_at "k_dm")
  (case h16 => walk_at "k_dg")
  (case h17 => walk_at "k_dg")
  (case h18 => walk_at "k_dg")
  (case h19 => walk_at "k_dg")
  (case h20 => walk_at "k_dg")
  (case h21 => walk_at "k_dg")
  (case h22 => walk_at "k_lm")
  (case h23 => decide)
  (case h24 => walk_at "k_dg")
  (case h25 => walk_at "k_ck")
  (case h26 => k_is)
  (case h27 => k_is)
  (case h28 => k_is)
  (case h29 => k_is)
  (case h30 => decide)
  (case h31 => decide)
  (case h32 => k_is)
  (case h33 => k_is)
  (case h34 => k_is)
  (case h35 => k_is)
  (case h36 => k_is)
  (case h37 => k_is)
  (case h38 => k_is)
  (case h39 => k_is)
  (case h40 => k_is)
 case S => exact fun K H l ns hl hS hT => ⟨l, ns, rfl, hS, hl, hT, fun _ => rfl⟩
 case C => exact fun H s e s' h => h
