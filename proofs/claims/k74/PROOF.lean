import PyProof.Rows.All
import Wide.All
import OpenK.AllK
import Wide.FinOn
import Lean
import PyProof.EqAt
import PyProof.EqKinds
import PyProof.TupleCall
import PyProof.StrLawsRepr
import PySem.Challenge.RW_wakefew_k74_words_that_are_no_rule
set_option compiler.extract_closed false
set_option Elab.async false
set_option linter.all false
set_option maxRecDepth 100000
namespace L2
open PySem PySem.Spec PyProof.Rows
abbrev Key := Sum Int Str
def kh : Key -> Value -> Bool
 | .inl k, v => Value.isInt k v
 | .inr x, v => Value.isStrOf x v
def K9 (w : World) : Key -> Int
 | .inl k => hashInt k
 | .inr x => hashStr w x
theorem bV : ∀ {k : Key} {v : Value}, kh k v = true -> (∃ i t, k = Sum.inl i /\ v = Value.int i t) \/ (∃ x t, k = Sum.inr x /\ v = Value.str x t)
 | .inl i, v, h => by
   obtain ⟨t, e⟩ := Value.isInt_shape (k := i) (v := v) h
   exact .inl ⟨i, t, rfl, e⟩
 | .inr x, v, h => by
   obtain ⟨t, e⟩ := Value.isStrOf_shape (x := x) (v := v) h
   exact .inr ⟨x, t, rfl, e⟩
theorem yd (i : Int) (t : Tok) : kh (.inl i) (.int i t) = true := by simp [kh, Value.isInt]
theorem xY (x : Str) (t : Tok) : kh (.inr x) (.str x t) = true := by simp [kh, Value.isStrOf]
theorem Gh (a b : Int) : decide ((Sum.inl a : Key) = Sum.inl b) = (a == b) := by
 by_cases e : a = b
 . subst e; simp
 . have h : ¬ (Sum.inl a : Key) = Sum.inl b := fun q => e (Sum.inl.inj q)
   rw [decide_eq_false h]
   exact (beq_eq_false_iff_ne.mpr e).symm
theorem Gn (a b : Str) : decide ((Sum.inr a : Key) = Sum.inr b) = decide (a = b) := by
 by_cases e : a = b
 . subst e; simp
 . have h : ¬ (Sum.inr a : Key) = Sum.inr b := fun q => e (Sum.inr.inj q)
   rw [decide_eq_false h, decide_eq_false e]
theorem Fo (a : Int) (b : Str) : decide ((Sum.inl a : Key) = Sum.inr b) = false := decide_eq_false (fun q => nomatch q)
theorem EI (a : Str) (b : Int) : decide ((Sum.inr a : Key) = Sum.inl b) = false := decide_eq_false (fun q => nomatch q)
def ek (prog : Program) (w : World) : PySem.KeyKind prog w Key where
 is := kh
 hash := K9 w
 inj := fun v a b ha hb => by
  rcases bV ha with ⟨i, t, rfl, rfl⟩ | ⟨x, t, rfl, rfl⟩
  . rcases bV hb with ⟨j, u, rfl, e⟩ | ⟨y, u, rfl, e⟩
    . injection e with e1 _; rw [e1]
    . exact nomatch e
  . rcases bV hb with ⟨j, u, rfl, e⟩ | ⟨y, u, rfl, e⟩
    . exact nomatch e
    . injection e with e1 _; rw [e1]
 byValue := fun k v h => by
  rcases bV h with ⟨i, t, rfl, rfl⟩ | ⟨x, t, rfl, rfl⟩ <;> rfl
 pyHash := fun hv h => by
  rcases bV hv with ⟨i, t, rfl, rfl⟩ | ⟨x, t, rfl, rfl⟩
  . exact wpAny_pyHash_int h
  . exact wpAny_pyHash_str h
 eqBool := fun hu hv h => by
  rcases bV hu with ⟨i, t, rfl, rfl⟩ | ⟨x, t, rfl, rfl⟩
  . rcases bV hv with ⟨j, u, rfl, rfl⟩ | ⟨y, u, rfl, rfl⟩
    . rw [Gh] at h; exact wpAny_eqBool_int h
    . rw [Fo] at h; exact SeqAt.EqAt.int_str i t y u _ _ _ _ h
  . rcases bV hv with ⟨j, u, rfl, rfl⟩ | ⟨y, u, rfl, rfl⟩
    . rw [EI] at h; exact SeqAt.EqAt.str_int x t j u _ _ _ _ h
    . rw [Gn] at h; exact wpAny_eqBool_str h
 «strs» := fun k x t v h => by
  rcases bV h with ⟨i, u, rfl, e⟩ | ⟨y, u, rfl, e⟩
  . exact nomatch e
  . injection e with e1 _
    subst e1
    cases v <;> rfl
theorem tO (prog : Program) (w : World) (i : Int) (t : Tok) : (ek prog w).is (.inl i) (.int i t) = true := yd i t
theorem tq (prog : Program) (w : World) (x : Str) (t : Tok) : (ek prog w).is (.inr x) (.str x t) = true := xY x t
inductive V where
 | cq | bl (b : Bool) | int (i : Int) | str (x : Str) | wR (b : Array UInt8) | FJ (b : UInt64) | ref (a : Addr) | ty (n : String)
 deriving DecidableEq
def RelV : V -> Value -> Prop
 | .cq, u => u = Value.none
 | .bl b, u => u = Value.bool b
 | .int i, u => ∃ t, u = Value.int i t
 | .str x, u => ∃ t, u = Value.str x t
 | .wR b, u => ∃ t, u = Value.bytes b t
 | .FJ b, u => ∃ t, u = Value.float b t
 | .ref a, u => u = Value.ref a
 | .ty n, u => u = Value.type n
abbrev Vals : List V -> List Value -> Prop := Paired RelV
theorem Vals.length {xs : List V} {us : List Value} (r : Vals xs us) : xs.length = us.length := Paired.length r
theorem Vals.get : ∀ {xs : List V} {us : List Value} {i : Nat} {x : V}, Vals xs us -> xs[i]? = some x -> ∃ u, us[i]? = some u /\ RelV x u
 | _, _, _, _, .nil, e => by simp at e
 | _, _, 0, _, .cons r _, e => by simp at e; subst e; exact ⟨_, rfl, r⟩
 | _, _, i + 1, x, .cons _ t, e => by
   obtain ⟨u, h1, h2⟩ := Vals.get (i := i) (x := x) t (by simpa using e)
   exact ⟨u, by simpa using h1, h2⟩
theorem Vals.set {x : V} {u : Value} (r : RelV x u) : ∀ {xs : List V} {us : List Value} (i : Nat), Vals xs us -> Vals (xs.set i x) (us.set i u)
 | _, _, _, .nil => .nil
 | _, _, 0, .cons _ t => .cons r t
 | _, _, i + 1, .cons q t => .cons q (Vals.set r i t)
theorem Vals.append : ∀ {xs ys : List V} {us ws : List Value}, Vals xs us -> Vals ys ws -> Vals (xs ++ ys) (us ++ ws)
 | _, _, _, _, .nil, s => s
 | _, _, _, _, .cons r t, s => .cons r (Vals.append t s)
theorem Vals.take : ∀ {xs : List V} {us : List Value} (n : Nat), Vals xs us -> Vals (xs.take n) (us.take n)
 | _, _, 0, _ => .nil
 | _, _, _ + 1, .nil => .nil
 | _, _, n + 1, .cons r t => .cons r (Vals.take n t)
theorem Vals.drop : ∀ {xs : List V} {us : List Value} (n : Nat), Vals xs us -> Vals (xs.drop n) (us.drop n)
 | _, _, 0, r => r
 | _, _, _ + 1, .nil => .nil
 | _, _, n + 1, .cons _ t => Vals.drop n t
def lV : Option V -> Option Value -> Prop
 | some v, some u => RelV v u
 | none, none => True
 | _, _ => False
def KV {κ : Type} : List (κ × V) -> List (κ × Value) -> Prop := Paired fun (p : κ × V) (q : κ × Value) => p.1 = q.1 /\ RelV p.2 q.2
def kV : Key -> V
 | .inl i => .int i
 | .inr x => .str x
inductive HO where
 | lst (xs : List V)
 | tup (xs : List V)
 | dK (dN : List (Key × V)) | dT (dN : List (List Key × V))
 | set (S : Int -> Bool) (n : Nat)
 | ins (C dx : Addr) (fs : List (Str × V))
 | own (x : Addr)
 | xd (fs : List (Str × V))
 | met (f x : Addr)
 | J1 (lo hi : Int)
 | uL (o : Obj) (u : HO)
 | DZ (ps : Array Value)
 | ext (φ : Heap -> Prop)
abbrev Hp := Addr -> Option HO
def upd (H : Hp) (a : Addr) (o : HO) : Hp := fun b => if b = a then some o else H b
theorem aO {H : Hp} {a : Addr} {o : HO} : upd H a o a = some o := by unfold upd; rw [if_pos rfl]
theorem aK {H : Hp} {a b : Addr} {o : HO} (h : b ≠ a) : upd H a o b = H b := by unfold upd; rw [if_neg h]
theorem pH {H : Hp} {a : Addr} {o u : HO} : upd (upd H a o) a u = upd H a u := by
 funext b; unfold upd; split <;> rfl
theorem cf {H : Hp} {a b : Addr} {o : HO} (h : H a = some o) (h' : H b = none) : a ≠ b := by
 intro e; subst e; rw [h] at h'; cases h'
section
variable (P : Program) (w : World)
def c6 (H : Hp) (h : Heap) (a : Addr) : HO -> Prop
 | .lst xs => xs.length <= sizeLine /\ ∃ (aV : List Value) (n : Nat), Vals xs aV /\ h.get? a = some { cls := .type "list", data := .seq aV.toArray n }
 | .tup xs => xs.length <= sizeLine /\ ∃ aV : List Value, Vals xs aV /\ IsTup h a aV.toArray
 | .dK dN => dN.length <= sizeLine /\ (a == sysModules) = false /\ ∃ vs, KV dN vs /\ h.DictOf (ek P w) a vs
 | .dT dN => dN.length <= sizeLine /\ (a == sysModules) = false /\ ∃ xs : List (List Key × Addr × Value),
  Paired (fun (p : List Key × V) (q : List Key × Addr × Value) => p.1 = q.1 /\ H q.2.1 = some (.tup (p.1.map kV)) /\ RelV p.2 q.2.2) dN xs /\
  ∃ o es ep, h.get? a = some o /\ o.ExactDict /\ o.data = .dict es ep /\ es.toList = xs.map (entryOfKey (tupleKind (ek P w))) /\ (xs.map (·.1)).Nodup
 | .set S n => h.SetOf (intKind P w) a S n
 | .ins C dx fs => H dx = some (.own a) /\ fs.length <= 1000 /\ dx ≠ a /\ h.get? a = some (PySem.W.instObj C dx) /\
  ∃ mA, h.Ns1 dx mA /\ (∀ f, lV (fs.lookup f) (mA f)) /\ PySem.Within mA (fs.map (·.1))
 | .own _ => ∃ o, h.get? a = some o
 | .xd fs => ∃ mA, h.Ns1 a mA /\ ∀ f, lV (fs.lookup f) (mA f)
 | .J1 lo hi => ∃ t u v, h.get? a = some { cls := .type "range", data := .fields #[.int lo t, .int hi u, .int 1 v] }
 | .uL o u => h.get? a = some o /\ c6 H h a u
 | .DZ ps => h.get? a = some { cls := .none, data := .fields ps }
 | .met f x => h.get? a = some (PySem.W.methodObj (.ref f) (.ref x))
 | .ext φ => φ h /\ (∃ o, h.get? a = some o) /\ ∀ h1 h2 : Heap, φ h1 -> (∀ o, h1.get? a = some o -> h2.get? a = some o) -> φ h2
def lR (H : Hp) (h : Heap) : Prop := ∀ a o, H a = some o -> c6 P w H h a o
end
section
variable {P : Program} {w : World} {H H' : Hp} {h h' : Heap} {a : Addr} {o : HO}
theorem c6.lt (x : c6 P w H h a o) : a < h.objs.size := by
 cases o with
 | lst xs => obtain ⟨_, _, _, _, e⟩ := x; exact Heap.lt_size e
 | tup xs => obtain ⟨_, _, _, p⟩ := x; exact p.lt
 | dK dN => obtain ⟨_, _, _, _, o, _, _, e, _⟩ := x; exact Heap.lt_size e
 | dT dN => obtain ⟨_, _, _, _, o, _, _, e, _⟩ := x; exact Heap.lt_size e
 | set S n => obtain ⟨o, _, _, _, e, _⟩ := x; exact Heap.lt_size e
 | ins C dx fs => obtain ⟨_, _, _, e, _⟩ := x; exact Heap.lt_size e
 | own y => obtain ⟨_, e⟩ := x; exact Heap.lt_size e
 | xd fs => obtain ⟨_, ⟨_, _, _, e, _⟩, _⟩ := x; exact Heap.lt_size e
 | J1 lo hi => obtain ⟨_, _, _, e⟩ := x; exact Heap.lt_size e
 | uL ob u => obtain ⟨e, _⟩ := x; exact Heap.lt_size e
 | DZ ps => exact Heap.lt_size (show h.get? a = some _ from x)
 | met f y => exact Heap.lt_size (show h.get? a = some _ from x)
 | ext φ => obtain ⟨_, ⟨_, e⟩, _⟩ := x; exact Heap.lt_size e
theorem Paired.Ir {α β : Type} {F G : α -> β -> Prop} : ∀ {l₁ : List α} {l₂ : List β}, Paired F l₁ l₂ -> (∀ a b, F a b -> G a b) -> Paired G l₁ l₂
 | _, _, .nil, _ => .nil
 | _, _, .cons r t, f => .cons (f _ _ r) (Paired.Ir t f)
theorem c6.pk (x : c6 P w H h a o) (k : ∀ b u, (b = a \/ H b = some (.own a)) -> h.get? b = some u -> h'.get? b = some u)
 (ho : ∀ b, H b = some (.own a) -> H' b = some (.own a)) (ht : ∀ b xs, H b = some (.tup xs) -> H' b = some (.tup xs)) : c6 P w H' h' a o := by
 induction o with
 | lst xs => obtain ⟨z, aV, n, r, e⟩ := x; exact ⟨z, aV, n, r, k _ _ (.inl rfl) e⟩
 | tup xs => obtain ⟨z, aV, r, ob, e, c⟩ := x; exact ⟨z, aV, r, ob, k _ _ (.inl rfl) e, c⟩
 | dK dN => obtain ⟨z, y, vs, r, ob, es, ep, e, c⟩ := x; exact ⟨z, y, vs, r, ob, es, ep, k _ _ (.inl rfl) e, c⟩
 | dT dN =>
   obtain ⟨z, y, xs, r, ob, es, ep, e, c⟩ := x
   exact ⟨z, y, xs, Paired.Ir r fun p q z => ⟨z.1, ht _ _ z.2.1, z.2.2⟩, ob, es, ep, k _ _ (.inl rfl) e, c⟩
 | set S n => obtain ⟨ob, es, ep, t, e, c⟩ := x; exact ⟨ob, es, ep, t, k _ _ (.inl rfl) e, c⟩
 | ins C dx fs =>
   obtain ⟨d, z, ne, e, mA, ⟨od, es, ep, e2, c⟩, r⟩ := x
   exact ⟨ho _ d, z, ne, k _ _ (.inl rfl) e, mA, ⟨od, es, ep, k _ _ (.inr d) e2, c⟩, r⟩
 | own y => obtain ⟨ob, e⟩ := x; exact ⟨ob, k _ _ (.inl rfl) e⟩
 | xd fs => obtain ⟨mA, ⟨od, es, ep, e, c⟩, r⟩ := x; exact ⟨mA, ⟨od, es, ep, k _ _ (.inl rfl) e, c⟩, r⟩
 | J1 lo hi => obtain ⟨t, u, v, e⟩ := x; exact ⟨t, u, v, k _ _ (.inl rfl) e⟩
 | uL ob u ih => obtain ⟨e, q⟩ := x; exact ⟨k _ _ (.inl rfl) e, ih q⟩
 | DZ ps =>
   have e : h.get? a = some { cls := .none, data := .fields ps } := x
   show h'.get? a = some { cls := .none, data := .fields ps }
   exact k a _ (.inl rfl) e
 | met f y =>
   have e : h.get? a = some (PySem.W.methodObj (.ref f) (.ref y)) := x
   show h'.get? a = some (PySem.W.methodObj (.ref f) (.ref y))
   exact k a _ (.inl rfl) e
 | ext φ => obtain ⟨p, ⟨o, e⟩, st⟩ := x; exact ⟨st _ _ p fun o q => k _ _ (.inl rfl) q, ⟨o, k _ _ (.inl rfl) e⟩, st⟩
theorem lR.lt (x : lR P w H h) (e : H a = some o) : a < h.objs.size := (x a o e).lt
theorem lR.fresh (x : lR P w H h) (e : h.objs.size <= a) : H a = none := by
 cases q : H a with
 | none => rfl
 | some u => exact absurd (Nat.lt_of_lt_of_le (x.lt q) e) (Nat.lt_irrefl _)
theorem lR.kept (x : lR P w H h) (k : ∀ b u, h.get? b = some u -> h'.get? b = some u) : lR P w H h' := fun a o e =>
 (x a o e).pk (fun b u _ q => k b u q) (fun _ q => q) fun _ _ q => q
theorem lR.laid (x : lR P w H h) (k : ∀ b u, h.get? b = some u -> h'.get? b = some u) (hp : h.objs.size <= a) (new : c6 P w (upd H a o) h' a o) : lR P w (upd H a o) h' := fun b u e => by
 have hn := x.fresh hp
 by_cases hb : b = a
 . subst hb; rw [aO] at e; cases e; exact new
 . rw [aK hb] at e
   exact (x b u e).pk (fun c v _ q => k c v q) (fun c q => by rw [aK (cf q hn)]; exact q) fun c xs q => by rw [aK (cf q hn)]; exact q
end
def Rd (H : Hp) (a : Addr) (u : HO) : Prop := H a = some u \/ ∃ o, H a = some (.uL o u)
theorem Rd.of {H : Hp} {a : Addr} {u : HO} (h : H a = some u) : Rd H a u := .inl h
theorem Rd.ok {P : Program} {w : World} {H : Hp} {h : Heap} {a : Addr} {u : HO} (r : Rd H a u) (x : lR P w H h) : c6 P w H h a u := by
 rcases r with r | ⟨o, r⟩
 . exact x a u r
 . obtain ⟨_, q⟩ := x a _ r
   exact q
def JP : Option HO -> Prop
 | some (.lst _) => True
 | some (.dK _) => True
 | some (.dT _) => True
 | some (.set _ _) => True
 | some (.ins _ _ _) => True
 | some (.ext _) => True
 | _ => False
section
variable {P : Program} {w : World} {H : Hp} {h h' : Heap} {x e : Addr} {o' : HO}
theorem lR.write (ok : lR P w H h) (mu : JP (H x)) (he : e = x \/ H e = some (.own x)) (k : ∀ b u, b ≠ e -> h.get? b = some u -> h'.get? b = some u) (GC : ∃ u, h'.get? e = some u)
 (new : c6 P w (upd H x o') h' x o') : lR P w (upd H x o') h' := fun b u q => by
 have Iy : ∀ c y, H c = some (.own y) -> c ≠ x := fun c y r z => by subst z; rw [r] at mu; exact mu
 have Ki : ∀ c xs, H c = some (.tup xs) -> c ≠ x := fun c xs r z => by subst z; rw [r] at mu; exact mu
 by_cases hb : b = x
 . subst hb; rw [aO] at q; cases q; exact new
 . rw [aK hb] at q
   by_cases E6 : b = e
   . have q' : H b = some (.own x) := by
      rcases he with z | z
      . exact absurd (E6.trans z) hb
      . rw [E6]; exact z
     rw [q] at q'; cases q'
     obtain ⟨v, hv⟩ := GC
     exact ⟨v, by rw [E6]; exact hv⟩
   . refine (ok b u q).pk (fun c v hc r => k c v ?_ r) (fun c r => by rw [aK (Iy c b r)]; exact r) fun c xs r => by rw [aK (Ki c xs r)]; exact r
     rcases hc with rfl | hc
     . exact E6
     . rintro rfl
       rcases he with z | z
       . exact Iy c b hc z
       . rw [hc] at z; cases z; exact hb rfl
end
structure Un (fs ex : List Addr) (H H' : Hp) (h h' : Heap) : Prop where
 keep : ∀ b o, h.get? b = some o -> H b = none -> b ∉ fs -> b ∉ ex -> h'.get? b = some o
 slot : ∀ b o, h.get? b = some o -> H b = none -> b ∈ fs -> b ∉ ex -> ∃ sl, h'.get? b = some { o with slots := sl }
 free : ∀ b o, h.get? b = some o -> H b = none -> b ∉ ex -> H' b = none
 there : ∀ b o, h.get? b = some o -> b ∉ ex -> ∃ o', h'.get? b = some o'
 j7 : ∀ b xs, H b = some (.tup xs) -> H' b = some (.tup xs)
 jk : ∀ b o u, H b = some (.uL o u) -> H' b = some (.uL o u)
 lK : ∀ b ps, H b = some (.DZ ps) -> ∃ more, H' b = some (.DZ (ps ++ more))
section
variable {fs JS ex Pj : List Addr} {H H1 H2 : Hp} {h h1 h2 h' : Heap} {a x e : Addr} {o : HO}
theorem Un.any (u : Un fs ex H H1 h h1) {b : Addr} {ob : Obj} (q : h.get? b = some ob) (n : H b = none) (hx : b ∉ ex) : ∃ sl, h1.get? b = some { ob with slots := sl } := by
 by_cases hb : b ∈ fs
 . exact u.slot b ob q n hb hx
 . exact ⟨ob.slots, u.keep b ob q n hb hx⟩
theorem Un.kept (k : ∀ b u, h.get? b = some u -> h'.get? b = some u) : Un fs ex H H h h' :=
 ⟨fun b ob q _ _ _ => k b ob q, fun b ob q _ _ _ => ⟨ob.slots, k b ob q⟩, fun _ _ _ n _ => n, fun b ob q _ => ⟨ob, k b ob q⟩, fun _ _ q => q, fun _ _ _ q => q, fun _ ps q => ⟨#[], by rw [q]; simp⟩⟩
theorem Un.refl : Un fs ex H H h h := Un.kept fun _ _ q => q
theorem Un.laid (k : ∀ b u, h.get? b = some u -> h'.get? b = some u) (hp : h.objs.size <= a) (hn : H a = none) : Un fs ex H (upd H a o) h h' where
 keep := fun b u q _ _ _ => k b u q
 slot := fun b u q _ _ _ => ⟨u.slots, k b u q⟩
 free := fun b u q n _ => by rw [aK (Nat.ne_of_lt (Nat.lt_of_lt_of_le (Heap.lt_size q) hp))]; exact n
 there := fun b u q _ => ⟨u, k b u q⟩
 j7 := fun b xs q => by rw [aK (cf q hn)]; exact q
 jk := fun b u xs q => by rw [aK (cf q hn)]; exact q
 lK := fun b ps q => ⟨#[], by rw [aK (cf q hn), q]; simp⟩
theorem Un.write (mu : JP (H x)) (he : e = x \/ H e = some (.own x)) (k : ∀ b u, b ≠ e -> h.get? b = some u -> h'.get? b = some u) (GC : ∃ u, h'.get? e = some u) : Un fs ex H (upd H x o) h h' := by
 have hx : ∀ b, H b = none -> b ≠ x := fun b n z => by subst z; rw [n] at mu; exact mu
 have hb : ∀ b, H b = none -> b ≠ e := fun b n z => by
  subst z
  rcases he with r | r
  . exact hx b n r
  . rw [n] at r; cases r
 have hm : ∀ b u, H b = some u -> ¬ JP (some u) -> b ≠ x := fun b u q nm z => by subst z; rw [q] at mu; exact nm mu
 refine ⟨fun b u q n _ _ => k b u (hb b n) q, fun b u q n _ _ => ⟨u.slots, k b u (hb b n) q⟩, fun b u q n _ => by rw [aK (hx b n)]; exact n, fun b u q _ => ?_,
  fun b xs q => by rw [aK (hm b _ q fun z => z)]; exact q, fun b u xs q => by rw [aK (hm b _ q fun z => z)]; exact q, fun b ps q => ⟨#[], by rw [aK (hm b _ q fun z => z), q]; simp⟩⟩
 by_cases E6 : b = e
 . subst E6; exact GC
 . exact ⟨u, k b u E6 q⟩
end
def JU (h : Heap) (H : Hp) : List Addr := (List.range h.objs.size).filter fun a => (H a).isSome
def sA (h : Heap) (H : Hp) : Heap := PySem.W.hideAll h (JU h H)
theorem yp (h : Heap) (H : Hp) : (sA h H).objs.size = h.objs.size := PySem.W.hideAll_size _ _
theorem zE {h : Heap} {H : Hp} {b : Addr} {o : Obj} (e : h.get? b = some o) (n : H b = none) : (sA h H).get? b = some o :=
 PySem.W.hideAll_get _ e fun hm => by
  have q : (H b).isSome = true := (List.mem_filter.mp hm).2
  rw [n] at q; simp at q
theorem CJ {h : Heap} {H : Hp} {b : Addr} {o : Obj} (e : (sA h H).get? b = some o) : h.get? b = some o /\ H b = none := by
 have e' : h.get? b = some o := PySem.W.of_hideAll (JU h H) e
 refine ⟨e', ?_⟩
 cases q : H b with
 | none => rfl
 | some x =>
   have hm : b ∈ JU h H := List.mem_filter.mpr ⟨List.mem_range.mpr (Heap.lt_size e'), by simp [q]⟩
   have z : (sA h H).get? b = none := PySem.W.hideAll_none (JU h H) hm
   rw [z] at e; cases e
def B8 (g h : Heap) (L : Addr) : List (Addr × Obj) := (List.range h.objs.size).filterMap fun a => if a = L \/ (g.get? a).isSome = true then none else (h.get? a).map fun o => (a, o)
def rest (g h : Heap) (L d : Addr) : List (Addr × Obj) := (B8 g h L).filter fun p => decide (p.1 ≠ d)
structure Mod (K : PySem.W.Frag) (mg : Str -> Option Value) (base : Heap) : Prop where
 A3 : K.In base
 glob : base.Ns mainGlobals mg
 blt : ∃ mb, base.Ns builtinsNs mb /\ ∀ x : Str, x ≠ "__name__" -> mb x = bootBuiltins x
 nolimit : base.NoLimit
structure Cx where
 prog : Program
 w : World
 K : PySem.W.Frag
 mg : Str -> Option Value
 base : Heap
 A : Around
 N : List Str
 cH : Shared
 zL : Hp
 env : Env
 outer : List Env
 stack : List Env
 ex : List Addr
 fn : Str -> Bool
 calm : Bool
 pn : List (Addr × Obj)
 xe : Value -> Shared -> Prop
def j5 (l : List Env) : List Addr := l.filterMap (·.frame)
abbrev Cx.fs (X : Cx) : List Addr := j5 X.outer
def GL (sc : Scope) (x : Str) : Prop := sc.names.lookup x = some .local \/ sc.names.lookup x = some .cell \/ sc.names.lookup x = some .free
def Loc (sc : Scope) (x : Str) : Prop := sc.names.lookup x = some .local \/ sc.names.lookup x = some .cell
def Look (env : Env) (h : Heap) (m : Str -> Option Value) (x : Str) (u : Value) : Prop :=
 (env.kindOf x = some .local /\ m x = some u) \/ ((env.kindOf x = some .cell \/ env.kindOf x = some .free) /\ ∃ c, env.cells.lookup x = some c /\ h.IsCell c (some u))
structure Cx.Ok (X : Cx) : Prop where
 mod : Mod X.K X.mg X.base
 kind : X.env.scope.kind = .function
 glob : X.env.globals = mainGlobals
 blt : X.env.builtins = builtinsNs
 above : X.cH.heap.objs.size <= X.env.locals
 inj : ∀ x y c, X.env.cells.lookup x = some c -> X.env.cells.lookup y = some c -> x = y
 has : ∀ x, (X.env.kindOf x = some .cell \/ X.env.kindOf x = some .free) -> ∃ c, X.env.cells.lookup x = some c
 C4 : ∀ x c, X.fn x = true -> X.env.cells.lookup x = some c -> X.cH.heap.objs.size <= c
 hd : X.calm = true -> X.A.handled = none
 frames : X.A.frames = some X.stack
 DA : X.stack = X.outer \/ (X.stack = X.env :: X.outer /\ X.env.frame = some X.env.locals)
 A6 : ∀ b ∈ X.ex, b ≠ X.env.locals /\ ∀ x c, X.env.cells.lookup x = some c -> c ≠ b
 bs : ∀ b o, X.base.get? b = some o -> X.cH.heap.get? b = some o /\ X.zL b = none
 wN : X.base.objs.size <= X.cH.heap.objs.size
 r6 : ∀ b o, X.base.get? b = some o -> b ∉ X.ex
 q0 : ∀ b ∈ X.ex, b ∉ X.fs
 j2 : X.cH.heap.FunFrames X.base X.outer
 yN : ∀ b ∈ X.fs, X.zL b = none
structure Inv (X : Cx) (pins : List (Addr × Obj)) (σ : List (Option V)) (H : Hp) (s : Shared) : Prop where
 ok : X.Ok
 os : s.os = X.cH.os
 bare : AllBare s.gens
 base : Un X.fs X.ex X.zL H X.cH.heap s.heap
 loc : ∃ m, s.heap.Ns X.env.locals m /\ ∀ (i : Nat) (x : Str) (v : V), X.N[i]? = some x -> σ[i]? = some (some v) -> GL X.env.scope x -> ∃ u, RelV v u /\ Look X.env s.heap m x u
 cell : ∀ x c, X.env.cells.lookup x = some c -> ∃ v, s.heap.IsCell c v
 free : H X.env.locals = none
 d8 : ∀ x c, X.env.cells.lookup x = some c -> H c = none
 pin : ∀ p ∈ X.pn ++ pins, s.heap.get? p.1 = some p.2 /\ H p.1 = none /\ p.1 ≠ X.env.locals /\ p.1 ∉ X.fs /\ ∀ v, p.2.data ≠ .cell v
 bf : lR X.prog X.w H s.heap
 len : σ.length = X.N.length
section
variable {X : Cx} {pins : List (Addr × Obj)} {σ : List (Option V)} {H H' : Hp} {s : Shared} {h' : Heap}
theorem Cx.Ok.K6 (ok : X.Ok) {b : Addr} {o : Obj} (e : X.base.get? b = some o) : b ∉ X.fs := fun hb => by
 have := (ok.j2.mem hb).1
 rw [e] at this; cases this
theorem Inv.bs (I : Inv X pins σ H s) : ∀ b o, X.base.get? b = some o -> s.heap.get? b = some o /\ H b = none := fun b o e =>
 ⟨I.base.keep b o (I.ok.bs b o e).1 (I.ok.bs b o e).2 (I.ok.K6 e) (I.ok.r6 b o e), I.base.free b o (I.ok.bs b o e).1 (I.ok.bs b o e).2 (I.ok.r6 b o e)⟩
theorem Inv.bk (I : Inv X pins σ H s) : ∀ b o, X.base.get? b = some o -> s.heap.get? b = some o := fun b o e => (I.bs b o e).1
theorem Inv.mod (I : Inv X pins σ H s) : Mod X.K X.mg X.base := I.ok.mod
theorem Inv.i7 (I : Inv X pins σ H s) : X.K.In s.heap := I.ok.mod.A3.keeps I.bk
theorem Inv.fr (I : Inv X pins σ H s) : ∃ m, Fr X.base X.env.locals s.heap m :=
 let ⟨m, hn, _⟩ := I.loc
 ⟨m, hn, I.bk, Nat.le_trans I.ok.wN I.ok.above⟩
theorem Inv.lt (I : Inv X pins σ H s) : X.env.locals < s.heap.objs.size := let ⟨_, hn, _⟩ := I.loc; hn.lt
theorem Inv.sz (I : Inv X pins σ H s) : X.cH.heap.objs.size <= s.heap.objs.size := Nat.le_trans I.ok.above (Nat.le_of_lt I.lt)
theorem Inv.Kq (I : Inv X pins σ H s) {a : Addr} (h : s.heap.objs.size <= a) : a ∉ X.fs := fun hb => by
 obtain ⟨_, o, ho, _⟩ := I.ok.j2.mem hb
 exact absurd (Nat.lt_of_lt_of_le (Heap.lt_size ho) (Nat.le_trans I.sz h)) (Nat.lt_irrefl _)
theorem Inv.Bj (I : Inv X pins σ H s) : ∀ x c, X.env.cells.lookup x = some c -> c ≠ X.env.locals := fun x c e z => by
 obtain ⟨v, o, ho, hd⟩ := I.cell x c e
 obtain ⟨m, ⟨o', es, ep, oW, uN, _⟩, _⟩ := I.loc
 rw [z, oW] at ho; cases ho; rw [uN] at hd; cases hd
theorem Inv.j2 (I : Inv X pins σ H s) : s.heap.FunFrames X.base X.outer := by
 have all : ∀ (l : List Env), (∀ b ∈ j5 l, b ∈ X.fs) -> X.cH.heap.FunFrames X.base l -> s.heap.FunFrames X.base l := by
  intro l
  induction l with
  | nil => intro _ _; trivial
  | cons env r ih =>
    intro hs hl
    obtain ⟨hk, ⟨L, o, hf, hn, ho, hd⟩, hr⟩ := hl
    have hL : L ∈ X.fs := hs L (by unfold j5; rw [List.filterMap_cons, hf]; exact List.mem_cons_self)
    obtain ⟨sl, e⟩ := I.base.slot L o ho (I.ok.yN L hL) hL fun z => I.ok.q0 L z hL
    exact ⟨hk, ⟨L, _, hf, hn, e, hd⟩, ih (fun b hb => hs b (by unfold j5; rw [List.filterMap_cons, hf]; exact List.mem_cons_of_mem _ hb)) hr⟩
 exact all X.outer (fun _ hb => hb) I.ok.j2
theorem Inv.stack (I : Inv X pins σ H s) : s.heap.FunFrames X.base X.stack := by
 rcases I.ok.DA with e | ⟨e, hf⟩
 . rw [e]; exact I.j2
 . rw [e]
   obtain ⟨m, hn, _⟩ := I.loc
   refine .cons (by rw [I.ok.kind]; decide) hf hn ?_ I.j2
   exact Heap.get?_none_of_le (Nat.le_trans I.ok.wN I.ok.above)
theorem Inv.rY (I : Inv X pins σ H s) : ∀ b ∈ j5 X.stack, b ∈ X.env.locals :: X.fs := fun b hb => by
 rcases I.ok.DA with e | ⟨e, hf⟩
 . rw [e] at hb; exact List.mem_cons_of_mem _ hb
 . rw [e] at hb
   unfold j5 at hb
   rw [List.filterMap_cons, hf] at hb
   exact hb
theorem Inv.lX (I : Inv X pins σ H s) : ∀ b ∈ j5 X.stack, H b = none := fun b hb => by
 rcases List.mem_cons.mp (I.rY b hb) with e | hb
 . rw [e]; exact I.free
 . obtain ⟨_, o, ho, _⟩ := I.ok.j2.mem hb
   exact I.base.free b o ho (I.ok.yN b hb) fun z => I.ok.q0 b z hb
theorem Inv.step {g' : Array GenState} {t' : Nat} {d' : Drawn} {ch : List Addr} (I : Inv X pins σ H s)
 (Ba : ∀ b ∈ ch, (b ∈ X.ex \/ X.cH.heap.objs.size <= b) /\ b ≠ X.env.locals /\ (∀ x c, X.env.cells.lookup x = some c -> c ≠ b) /\ ∀ p ∈ X.pn ++ pins, p.1 ≠ b)
 (keep : ∀ b o, b ≠ X.env.locals -> b ∉ X.fs -> b ∉ ch -> s.heap.get? b = some o -> H b = none -> h'.get? b = some o)
 (slot : ∀ b o, b ≠ X.env.locals -> b ∈ X.fs -> b ∉ ch -> s.heap.get? b = some o -> H b = none -> ∃ sl, h'.get? b = some { o with slots := sl }) (free : ∀ b o, b ∉ ch -> s.heap.get? b = some o -> H b = none -> H' b = none)
 (there : ∀ b o, b ∉ ch -> s.heap.get? b = some o -> ∃ o', h'.get? b = some o')
 (j7 : ∀ b xs, H b = some (.tup xs) -> H' b = some (.tup xs)) (jk : ∀ b o u, H b = some (.uL o u) -> H' b = some (.uL o u)) (lK : ∀ b ps, H b = some (.DZ ps) -> ∃ more, H' b = some (.DZ (ps ++ more)))
 (ns : ∀ m, s.heap.Ns X.env.locals m -> h'.Ns X.env.locals m) (bf : lR X.prog X.w H' h') (hg : AllBare g') :
 Inv X pins σ H' { s with heap := h', gens := g', drawn := d', toks := t' } := by
 have MN : ∀ b o, X.cH.heap.get? b = some o -> b ≠ X.env.locals := fun b o e => Nat.ne_of_lt (Nat.lt_of_lt_of_le (Heap.lt_size e) I.ok.above)
 have Im : ∀ b o, X.cH.heap.get? b = some o -> b ∉ X.ex -> b ∉ ch := fun b o e hx hb => by
  rcases (Ba b hb).1 with z | z
  . exact hx z
  . exact absurd (Nat.lt_of_lt_of_le (Heap.lt_size e) z) (Nat.lt_irrefl _)
 have cellK : ∀ x c, X.env.cells.lookup x = some c -> ∀ v, s.heap.IsCell c v -> h'.IsCell c v := fun x c e v ⟨o, ho, hd⟩ => by
  have G7 : c ∉ ch := fun z => (Ba c z).2.2.1 x c e rfl
  by_cases hc : c ∈ X.fs
  . obtain ⟨sl, q⟩ := slot c o (I.Bj x c e) hc G7 ho (I.d8 x c e)
    exact ⟨_, q, hd⟩
  . exact ⟨o, keep c o (I.Bj x c e) hc G7 ho (I.d8 x c e), hd⟩
 refine ⟨I.ok, I.os, hg, ⟨fun b o e n hb hx => ?_, fun b o e n hb hx => ?_, fun b o e n hx => ?_, fun b o e hx => ?_, fun b xs e => j7 b xs (I.base.j7 b xs e), fun b o xs e => jk b o xs (I.base.jk b o xs e), fun b ps e => ?_⟩, ?_, fun x c e => ?_, ?_, fun x c e => ?_, fun p hp => ?_, bf, I.len⟩
 . exact keep b o (MN b o e) hb (Im b o e hx) (I.base.keep b o e n hb hx) (I.base.free b o e n hx)
 . obtain ⟨sl, e1⟩ := I.base.slot b o e n hb hx
   obtain ⟨LQ, e2⟩ := slot b _ (MN b o e) hb (Im b o e hx) e1 (I.base.free b o e n hx)
   exact ⟨LQ, e2⟩
 . obtain ⟨o', e1⟩ := I.base.there b o e hx
   exact free b o' (Im b o e hx) e1 (I.base.free b o e n hx)
 . obtain ⟨o', e1⟩ := I.base.there b o e hx
   exact there b o' (Im b o e hx) e1
 . obtain ⟨m1, e1⟩ := I.base.lK b ps e
   obtain ⟨m2, e2⟩ := lK b _ e1
   exact ⟨m1 ++ m2, by rw [e2, Array.append_assoc]⟩
 . obtain ⟨m, hn, hl⟩ := I.loc
   refine ⟨m, ns m hn, fun i x v e1 e2 e3 => ?_⟩
   obtain ⟨u, r, l⟩ := hl i x v e1 e2 e3
   refine ⟨u, r, ?_⟩
   rcases l with l | ⟨k, c, e, z⟩
   . exact .inl l
   . exact .inr ⟨k, c, e, cellK x c e _ z⟩
 . obtain ⟨v, z⟩ := I.cell x c e
   exact ⟨v, cellK x c e v z⟩
 . obtain ⟨m, ⟨o, _, _, ho, _⟩, _⟩ := I.loc
   exact free _ o (fun z => (Ba _ z).2.1 rfl) ho I.free
 . obtain ⟨v, o, ho, hd⟩ := I.cell x c e
   exact free c o (fun z => (Ba c z).2.2.1 x c e rfl) ho (I.d8 x c e)
 . obtain ⟨e, n, ne, nf, d⟩ := I.pin p hp
   have G7 : p.1 ∉ ch := fun z => (Ba p.1 z).2.2.2 p hp rfl
   exact ⟨keep p.1 p.2 ne nf G7 e n, free p.1 p.2 G7 e n, ne, nf, d⟩
theorem Inv.un {t' : Nat} (I : Inv X pins σ H s) (u : Un X.fs [] H H' s.heap h') (bf : lR X.prog X.w H' h') : Inv X pins σ H' { s with heap := h', toks := t' } := by
 obtain ⟨m, ⟨o, es, ep, ho, r⟩, _⟩ := id I.loc
 obtain ⟨sl, hL⟩ := u.any ho I.free (by simp)
 exact I.step (g' := s.gens) (d' := s.drawn) (ch := []) (fun _ z => nomatch z) (fun b o _ hb _ e n => u.keep b o e n hb (by simp)) (fun b o _ hb _ e n => u.slot b o e n hb (by simp)) (fun b o _ e n => u.free b o e n (by simp)) (fun b o _ e => u.there b o e (by simp)) u.j7 u.jk u.lK (fun m' hm => by
  obtain ⟨o', KR, J2, oW, r'⟩ := hm
  rw [ho] at oW; cases oW
  exact ⟨_, KR, J2, hL, r'⟩) bf I.bare
theorem Inv.call {g' : Array GenState} {t' : Nat} {d' : Drawn} {ch : List Addr} (I : Inv X pins σ H s) (u : Un (j5 X.stack) ch H H' s.heap h') (bf : lR X.prog X.w H' h') (hg : AllBare g')
 (Ba : ∀ b ∈ ch, (b ∈ X.ex \/ X.cH.heap.objs.size <= b) /\ b ≠ X.env.locals /\ (∀ x c, X.env.cells.lookup x = some c -> c ≠ b) /\ ∀ p ∈ X.pn ++ pins, p.1 ≠ b) :
 Inv X pins σ H' { s with heap := h', gens := g', drawn := d', toks := t' } := by
 obtain ⟨m, ⟨o, es, ep, ho, r⟩, _⟩ := id I.loc
 obtain ⟨sl, hL⟩ := u.any ho I.free fun z => (Ba _ z).2.1 rfl
 exact I.step (ch := ch) Ba (fun b o hL hb hc e n => u.keep b o e n (fun z => (List.mem_cons.mp (I.rY b z)).elim hL hb) hc) (fun b o _ _ hc e n => u.any e n hc) (fun b o hc e n => u.free b o e n hc) (fun b o hc e => u.there b o e hc) u.j7 u.jk u.lK (fun m' hm => by
  obtain ⟨o', KR, J2, oW, r'⟩ := hm
  rw [ho] at oW; cases oW
  exact ⟨_, KR, J2, hL, r'⟩) bf hg
theorem Inv.turned {t' : Nat} {it : Addr} (I : Inv X pins σ H s) (k : ∀ b o, b ≠ it -> s.heap.get? b = some o -> h'.get? b = some o) (hn : H it = none) (hL : it ≠ X.env.locals)
 (h1 : it ∈ X.ex \/ X.cH.heap.objs.size <= it) (h2 : ∀ x c, X.env.cells.lookup x = some c -> c ≠ it) (h3 : ∀ p ∈ X.pn ++ pins, p.1 ≠ it) : Inv X pins σ H { s with heap := h', toks := t' } := by
 have Mt : ∀ b u, H b = some u -> b ≠ it := fun b u e z => by rw [z, hn] at e; cases e
 refine I.step (g' := s.gens) (d' := s.drawn) (ch := [it]) (fun b hb => ?_) (fun b o _ _ hc e _ => k b o (fun z => hc (by simp [z])) e) (fun b o _ _ hc e _ => ⟨o.slots, k b o (fun z => hc (by simp [z])) e⟩) (fun _ _ _ _ n => n)
  (fun b o hc e => ⟨o, k b o (fun z => hc (by simp [z])) e⟩) (fun _ _ e => e) (fun _ _ _ e => e) (fun b ps e => ⟨#[], by rw [e]; simp⟩) (fun m hm => ?_) (fun b u e => ?_) I.bare
 . have e : b = it := by simpa using hb
   subst e
   exact ⟨h1, hL, h2, h3⟩
 . obtain ⟨o, es, ep, ho, r⟩ := hm
   exact ⟨o, es, ep, k _ o (Ne.symm hL) ho, r⟩
 . refine (I.bf b u e).pk (fun c v hc q => k c v ?_ q) (fun _ q => q) fun _ _ q => q
   rcases hc with z | z
   . rw [z]; exact Mt b u e
   . exact Mt c _ z
theorem Inv.tok (I : Inv X pins σ H s) (t : Nat) : Inv X pins σ H { s with toks := t } := I.un (h' := s.heap) (t' := t) Un.refl I.bf
theorem Inv.kept {t' : Nat} (I : Inv X pins σ H s) (k : ∀ b u, s.heap.get? b = some u -> h'.get? b = some u) : Inv X pins σ H { s with heap := h', toks := t' } := I.un (Un.kept k) (I.bf.kept k)
theorem Inv.laid {a : Addr} {o : HO} {t' : Nat} (I : Inv X pins σ H s) (k : ∀ b u, s.heap.get? b = some u -> h'.get? b = some u) (hp : s.heap.objs.size <= a) (new : c6 X.prog X.w (upd H a o) h' a o) :
 Inv X pins σ (upd H a o) { s with heap := h', toks := t' } := I.un (Un.laid k hp (I.bf.fresh hp)) (I.bf.laid k hp new)
theorem Inv.write {x e : Addr} {o : HO} {t' : Nat} (I : Inv X pins σ H s) (mu : JP (H x)) (he : e = x \/ H e = some (.own x)) (k : ∀ b u, b ≠ e -> s.heap.get? b = some u -> h'.get? b = some u) (GC : ∃ u, h'.get? e = some u)
 (new : c6 X.prog X.w (upd H x o) h' x o) : Inv X pins σ (upd H x o) { s with heap := h', toks := t' } := I.un (Un.write mu he k GC) (I.bf.write mu he k GC new)
theorem Inv.weak {σ' : List (Option V)} (I : Inv X pins σ H s) (hl : σ'.length = σ.length) (w : ∀ (i : Nat) v, σ'[i]? = some (some v) -> σ[i]? = some (some v)) : Inv X pins σ' H s :=
 ⟨I.ok, I.os, I.bare, I.base, let ⟨m, hn, BA⟩ := I.loc; ⟨m, hn, fun i x v e1 e2 e3 => BA i x v e1 (w i v e2) e3⟩, I.cell, I.free, I.d8, I.pin, I.bf, hl.trans I.len⟩
theorem Inv.fS {qk : List (Addr × Obj)} (I : Inv X pins σ H s) (h : ∀ p ∈ qk, s.heap.get? p.1 = some p.2 /\ H p.1 = none /\ p.1 ≠ X.env.locals /\ p.1 ∉ X.fs /\ ∀ v, p.2.data ≠ .cell v) : Inv X qk σ H s :=
 ⟨I.ok, I.os, I.bare, I.base, I.loc, I.cell, I.free, I.d8, fun p hp => (List.mem_append.mp hp).elim (fun z => I.pin p (List.mem_append_left _ z)) (h p), I.bf, I.len⟩
theorem pQ {N : List Str} (hN : N.Nodup) {i j : Nat} {x : Str} (a : N[i]? = some x) (b : N[j]? = some x) : i = j := by
 obtain ⟨h1, e1⟩ := List.getElem?_eq_some_iff.mp a
 obtain ⟨h2, e2⟩ := List.getElem?_eq_some_iff.mp b
 exact (List.getElem_inj hN).mp (e1.trans e2.symm)
theorem rq {M : Model} {A : Around} {E : Value -> Shared -> Prop} {i : Nat} {x : Str} {v : V} {u : Value} {Q : Unit -> Shared -> Prop} (I : Inv X pins σ H s) (hN : X.N.Nodup) (hi : X.N[i]? = some x) (hx : Loc X.env.scope x) (r : RelV v u)
 (h : ∀ s', Inv X pins (σ.set i (some v)) H s' -> (∃ a, Heap.SameBut a s.heap s'.heap /\ (a = X.env.locals \/ X.env.cells.lookup x = some a)) -> Q () s') (hf : X.fn x = true \/ X.env.scope.names.lookup x = some .local := by first | exact .inl rfl | exact .inr rfl | assumption) : wpAny M A (storeName X.env x u) Q E s := by
 obtain ⟨m, hn, hl⟩ := id I.loc
 have Cy : (X.env.scope.kind == .class || (X.env.scope.kind == .module && X.env.locals != X.env.globals)) = false := by rw [I.ok.kind]; rfl
 have G4 : i < σ.length := by rw [I.len]; exact (List.getElem?_eq_some_iff.mp hi).1
 have Bj := I.Bj
 have tracked : ∀ {a : Addr} {h' : Heap}, (∃ o, s.heap.get? a = some o /\ H a = none) -> Heap.SameBut a s.heap h' -> lR X.prog X.w H h' := fun {a h'} ha hs b ob e => by
  obtain ⟨_, _, Dp⟩ := ha
  refine (I.bf b ob e).pk (fun c w' hc q => (hs.2 c ?_).trans q) (fun _ q => q) fun _ _ q => q
  rintro rfl
  rcases hc with rfl | hc
  . rw [Dp] at e; cases e
  . rw [Dp] at hc; cases hc
 rcases hx with hk | hk
 . refine wpAny_storeName_local hk hn (fun h' Oi hs => ?_) Cy
   obtain ⟨oL, _, _, Np, _⟩ := id hn
   refine h _ ⟨I.ok, I.os, I.bare, ⟨fun b o e n hb hx => ?_, fun b o e n hb hx => ?_, I.base.free, fun b o e hx => ?_, I.base.j7, I.base.jk, I.base.lK⟩, ⟨_, Oi, fun j y v' e1 e2 e3 => ?_⟩, fun y c e => ?_, I.free, I.d8, fun p hp => ?_, tracked ⟨oL, Np, I.free⟩ hs, by simpa using I.len⟩ ⟨_, hs, .inl rfl⟩
   . exact (hs.2 b (Nat.ne_of_lt (Nat.lt_of_lt_of_le (Heap.lt_size e) I.ok.above))).trans (I.base.keep b o e n hb hx)
   . obtain ⟨sl, e1⟩ := I.base.slot b o e n hb hx
     exact ⟨sl, (hs.2 b (Nat.ne_of_lt (Nat.lt_of_lt_of_le (Heap.lt_size e) I.ok.above))).trans e1⟩
   . obtain ⟨o', e1⟩ := I.base.there b o e hx
     exact ⟨o', (hs.2 b (Nat.ne_of_lt (Nat.lt_of_lt_of_le (Heap.lt_size e) I.ok.above))).trans e1⟩
   . by_cases hj : j = i
     . subst hj
       rw [hi] at e1; cases e1
       rw [List.getElem?_set_self G4] at e2
       cases e2
       exact ⟨u, r, .inl ⟨hk, by simp⟩⟩
     . rw [List.getElem?_set_ne (Ne.symm hj)] at e2
       obtain ⟨u', r', q⟩ := hl j y v' e1 e2 e3
       refine ⟨u', r', ?_⟩
       rcases q with ⟨k, e⟩ | ⟨k, c, e, z⟩
       . refine .inl ⟨k, ?_⟩
         have : y ≠ x := fun e => hj (pQ hN e1 (e ▸ hi))
         simp [this, e]
       . exact .inr ⟨k, c, e, z.sameBut hs (Bj y c e)⟩
   . obtain ⟨w', z⟩ := I.cell y c e
     exact ⟨w', z.sameBut hs (Bj y c e)⟩
   . obtain ⟨e, n, ne, nf, d⟩ := I.pin p hp
     exact ⟨(hs.2 p.1 ne).trans e, n, ne, nf, d⟩
 . have K1 : X.fn x = true := by
    rcases hf with z | z
    . exact z
    . rw [z] at hk; cases hk
   obtain ⟨c, hc⟩ := I.ok.has x (.inl hk)
   obtain ⟨w', z⟩ := I.cell x c hc
   refine wpAny_storeName_cell I.ok.kind hk hc z (fun h' rZ hs => ?_)
   obtain ⟨oc, ME, Km⟩ := id z
   refine h { s with heap := h' } ⟨I.ok, I.os, I.bare, ⟨fun b o e n hb hx => ?_, fun b o e n hb hx => ?_, I.base.free, fun b o e hx => ?_, I.base.j7, I.base.jk, I.base.lK⟩, ⟨m, hn.sameBut hs (Ne.symm (Bj x c hc)), fun j y v' e1 e2 e3 => ?_⟩, fun y c' e => ?_, I.free, I.d8, fun p hp => ?_, tracked ⟨oc, ME, I.d8 x c hc⟩ hs, by simpa using I.len⟩ ⟨c, hs, .inr hc⟩
   . exact (hs.2 b (Nat.ne_of_lt (Nat.lt_of_lt_of_le (Heap.lt_size e) (I.ok.C4 x c K1 hc)))).trans (I.base.keep b o e n hb hx)
   . obtain ⟨sl, e1⟩ := I.base.slot b o e n hb hx
     exact ⟨sl, (hs.2 b (Nat.ne_of_lt (Nat.lt_of_lt_of_le (Heap.lt_size e) (I.ok.C4 x c K1 hc)))).trans e1⟩
   . obtain ⟨o', e1⟩ := I.base.there b o e hx
     exact ⟨o', (hs.2 b (Nat.ne_of_lt (Nat.lt_of_lt_of_le (Heap.lt_size e) (I.ok.C4 x c K1 hc)))).trans e1⟩
   . by_cases hj : j = i
     . subst hj
       rw [hi] at e1; cases e1
       rw [List.getElem?_set_self G4] at e2
       cases e2
       exact ⟨u, r, .inr ⟨.inl hk, c, hc, rZ⟩⟩
     . rw [List.getElem?_set_ne (Ne.symm hj)] at e2
       obtain ⟨u', r', q⟩ := hl j y v' e1 e2 e3
       refine ⟨u', r', ?_⟩
       rcases q with q | ⟨k, c', e, z'⟩
       . exact .inl q
       . refine .inr ⟨k, c', e, z'.sameBut hs ?_⟩
         rintro rfl
         exact hj (pQ hN e1 (I.ok.inj _ _ _ e hc ▸ hi))
   . by_cases JB : c' = c
     . subst JB; exact ⟨_, rZ⟩
     . obtain ⟨w2, z2⟩ := I.cell y c' e
       exact ⟨w2, z2.sameBut hs JB⟩
   . obtain ⟨e, n, ne, nf, d⟩ := I.pin p hp
     refine ⟨(hs.2 p.1 ?_).trans e, n, ne, nf, d⟩
     intro q
     rw [q, ME] at e
     have q' : oc = p.2 := Option.some.inj e
     exact d w' (by rw [<- q']; exact Km)
theorem p8 {M : Model} {A : Around} {E : Value -> Shared -> Prop} {i : Nat} {x : Str} {v : V} {u : Value} {Q : Unit -> Shared -> Prop} (I : Inv X pins σ H s) (hN : X.N.Nodup) (hi : X.N[i]? = some x) (hx : Loc X.env.scope x) (r : RelV v u)
 (h : ∀ s', Inv X pins (σ.set i (some v)) H s' -> Q () s') (hf : X.fn x = true \/ X.env.scope.names.lookup x = some .local := by first | exact .inl rfl | exact .inr rfl | assumption) : wpAny M A (storeName X.env x u) Q E s :=
 rq I hN hi hx r (fun s' I' _ => h s' I') hf
theorem Inv.qm {s' : Shared} {ch : List Addr} (I : Inv X pins σ H s) (ho : s'.os = s.os) (u : Un (j5 X.stack) ch H H' s.heap s'.heap) (bf : lR X.prog X.w H' s'.heap) (hg : AllBare s'.gens)
 (Ba : ∀ b ∈ ch, (b ∈ X.ex \/ X.cH.heap.objs.size <= b) /\ b ≠ X.env.locals /\ (∀ x c, X.env.cells.lookup x = some c -> c ≠ b) /\ ∀ p ∈ X.pn ++ pins, p.1 ≠ b) : Inv X pins σ H' s' := by
 obtain ⟨h', g', d', t', o'⟩ := s'
 have e : o' = s.os := ho
 subst e
 exact I.call (g' := g') (t' := t') (d' := d') u bf hg Ba
end
abbrev XK := Value -> Option Addr -> Hp -> Prop
abbrev St := List (Option V)
abbrev VK := V -> Hp -> Prop
abbrev TE := St -> Hp -> VK -> Prop
abbrev TT := St -> Hp -> (Bool -> Hp -> Prop) -> Prop
abbrev TA := St -> Hp -> (List V -> Hp -> Prop) -> Prop
structure Ends where
 nx : St -> Hp -> Prop
 rt : VK
 bk : St -> Hp -> Prop := fun _ _ => False
 ct : St -> Hp -> Prop := fun _ _ => False
abbrev TS := Ends -> St -> Hp -> Prop
def EP (X : Cx) (pins : List (Addr × Obj)) (σ : St) (Q : VK) (u : Value) (s' : Shared) : Prop := ∃ v H', Inv X pins σ H' s' /\ RelV v u /\ Q v H'
def TP (X : Cx) (pins : List (Addr × Obj)) (σ : St) (Q : Bool -> Hp -> Prop) (b : Bool) (s' : Shared) : Prop := ∃ H', Inv X pins σ H' s' /\ Q b H'
def AP (X : Cx) (pins : List (Addr × Obj)) (σ : St) (Q : List V -> Hp -> Prop) (us : List Value) (s' : Shared) : Prop := ∃ vs H', Inv X pins σ H' s' /\ Vals vs us /\ Q vs H'
def SP (X : Cx) (pins : List (Addr × Obj)) (D : Ends) (f : Flow) (s' : Shared) : Prop :=
 match f with
 | .next => ∃ σ' H', Inv X pins σ' H' s' /\ D.nx σ' H'
 | .brk => ∃ σ' H', Inv X pins σ' H' s' /\ D.bk σ' H'
 | .cont => ∃ σ' H', Inv X pins σ' H' s' /\ D.ct σ' H'
 | .ret u => ∃ v σ' H', Inv X pins σ' H' s' /\ RelV v u /\ D.rt v H'
def PE (X : Cx) (e : Expr) (t : TE) : Prop :=
 ∀ (pins : List (Addr × Obj)) (s : Shared) (σ : St) (H : Hp) (Q : VK), Inv X pins σ H s -> t σ H Q -> wpAny (model X.prog X.w) X.A (eval e X.env) (EP X pins σ Q) X.xe s
def PT (X : Cx) (e : Expr) (t : TT) : Prop :=
 ∀ (pins : List (Addr × Obj)) (s : Shared) (σ : St) (H : Hp) (Q : Bool -> Hp -> Prop), Inv X pins σ H s -> t σ H Q -> wpAny (model X.prog X.w) X.A (isTrue e X.env (eval e X.env)) (TP X pins σ Q) X.xe s
def PW (X : Cx) (e : Expr) (t : TT) : Prop :=
 ∀ (whole : Sem Value) (pins : List (Addr × Obj)) (s : Shared) (σ : St) (H : Hp) (Q : Bool -> Hp -> Prop), Inv X pins σ H s -> t σ H Q -> wpAny (model X.prog X.w) X.A (isTrue e X.env whole) (TP X pins σ Q) X.xe s
theorem PW.pt {X : Cx} {e : Expr} {t : TT} (h : PW X e t) : PT X e t := h _
def PA (X : Cx) (es : List Expr) (t : TA) : Prop :=
 ∀ (pos : Pos) (pins : List (Addr × Obj)) (s : Shared) (σ : St) (H : Hp) (Q : List V -> Hp -> Prop), Inv X pins σ H s -> t σ H Q -> wpAny (model X.prog X.w) X.A (spliced (backTo pos (starEach es X.env))) (AP X pins σ Q) X.xe s
def PS (X : Cx) (st : Stmt) (t : TS) : Prop :=
 ∀ (pins : List (Addr × Obj)) (s : Shared) (σ : St) (H : Hp) (D : Ends), Inv X pins σ H s -> t D σ H -> wpAny (model X.prog X.w) X.A (exec st X.env) (SP X pins D) X.xe s
def qK (X : Cx) (st : List Stmt) (t : TS) : Prop :=
 ∀ (pins : List (Addr × Obj)) (s : Shared) (σ : St) (H : Hp) (D : Ends), Inv X pins σ H s -> t D σ H -> wpAny (model X.prog X.w) X.A (execs st X.env) (SP X pins D) X.xe s
theorem bO {α : Type} {t : Sem α} {Q Q' : α -> Shared -> Prop} {M : Model} {A : Around} {E : Value -> Shared -> Prop} {s : Shared} (h : wpAny M A t Q E s) (hQ : ∀ a s, Q a s -> Q' a s) : wpAny M A t Q' E s := wpAny_mono h hQ fun _ _ x => x
section
variable {X : Cx}
def Gr (i : Nat) : TE := fun σ H Q => ∃ v, σ[i]? = some (some v) /\ Q v H
def tC (v : V) : TE := fun _ H Q => Q v H
theorem Gu {i : Nat} {x : Str} {pos : Pos} (hN : X.N[i]? = some x) (hv : GL X.env.scope x) (hd : (x == ("__debug__" : Str)) = false := by decide) (uM : (x == ("__classdict__" : Str)) = false := by decide) : PE X (.Name x pos) (Gr i) := by
 intro pins s σ H Q I h
 obtain ⟨v, e, h⟩ := h
 obtain ⟨m, hn, hl⟩ := I.loc
 obtain ⟨u, r, l⟩ := hl i x v hN e hv
 have fin : EP X pins σ Q u s := ⟨v, H, I, r, h⟩
 rcases l with ⟨hk, hm⟩ | ⟨hk, c, hc, rn⟩
 . exact wpAny_Name (wpAny_loadName_local I.ok.kind hk hn hm fin) hd
 . rcases hk with hk | hk
   . exact wpAny_Name (wpAny_loadName_cell I.ok.kind hk hc rn fin) hd
   . exact wpAny_Name (wpAny_loadName_free I.ok.kind hk hc rn fin uM) hd
theorem ah {i j pos} : PE X (.Constant (.int i) j pos) (tC (.int i)) := fun _ _ _ H _ I h => wpAny_Constant_int ⟨.int i, H, I.tok _, ⟨_, rfl⟩, h⟩
theorem rE {b j pos} : PE X (.Constant (.bool b) j pos) (tC (.bl b)) := fun _ _ _ H _ I h => Constant_bool ⟨.bl b, H, I, rfl, h⟩
theorem p9 {j pos} : PE X (.Constant .none j pos) (tC .cq) := fun _ _ _ H _ I h => Constant_none ⟨.cq, H, I, rfl, h⟩
theorem au {x j pos} : PE X (.Constant (.str x) j pos) (tC (.str x)) := fun _ _ _ H _ I h => Calls.Constant_str ⟨.str x, H, I.tok _, ⟨_, rfl⟩, h⟩
def Gl (X : Cx) (x : Str) : Prop := X.env.kindOf x = some .globalImplicit
theorem eu {E : Value -> Shared -> Prop} {pins : List (Addr × Obj)} {s : Shared} {σ : St} {H : Hp} {x : Str} {u : Value} {pos : Pos} {Q : Value -> Shared -> Prop} (I : Inv X pins σ H s) (hg : Gl X x) (hm : X.mg x = some u) (h : Q u s)
 (hd : (x == ("__debug__" : Str)) = false := by decide) : wpAny (model X.prog X.w) X.A (eval (.Name x pos) X.env) Q E s :=
 Calls.Name_function_global I.ok.kind hg (Calls.loadGlobal_global (by rw [I.ok.glob]; exact I.mod.glob.keeps I.bk) hm h) hd
theorem uQ {E : Value -> Shared -> Prop} {pins : List (Addr × Obj)} {s : Shared} {σ : St} {H : Hp} {x : Str} {u : Value} {pos : Pos} {Q : Value -> Shared -> Prop} (I : Inv X pins σ H s) (hg : Gl X x) (hm : X.mg x = none) (hv : bootBuiltins x = some u) (h : Q u s)
 (hn : x ≠ "__name__" := by decide) (hd : (x == ("__debug__" : Str)) = false := by decide) : wpAny (model X.prog X.w) X.A (eval (.Name x pos) X.env) Q E s := by
 obtain ⟨mb, h1, h2⟩ := I.mod.blt
 exact Calls.Name_function_global I.ok.kind hg (Calls.loadGlobal_builtin (by rw [I.ok.glob]; exact I.mod.glob.keeps I.bk) hm (by rw [I.ok.blt]; exact h1.keeps I.bk) ((h2 x hn).trans hv) h) hd
theorem iM {x : Str} {v : V} {u : Value} {pos : Pos} (hg : Gl X x) (hm : X.mg x = some u) (r : RelV v u) (hd : (x == ("__debug__" : Str)) = false := by decide) : PE X (.Name x pos) (tC v) :=
 fun _ _ _ H _ I h => eu I hg hm ⟨v, H, I, r, h⟩ hd
theorem pB {x : Str} {v : V} {u : Value} {pos : Pos} (hg : Gl X x) (hm : X.mg x = none) (hv : bootBuiltins x = some u) (r : RelV v u) (hn : x ≠ "__name__" := by decide) (hd : (x == ("__debug__" : Str)) = false := by decide) : PE X (.Name x pos) (tC v) :=
 fun _ _ _ H _ I h => uQ I hg hm hv ⟨v, H, I, r, h⟩ hn hd
variable {a b : Expr} {ta tb : TE} {pos : Pos}
def PC (X : Cx) (op : CmpOp) (a b : Expr) (t : TE) : Prop :=
 ∀ (pins : List (Addr × Obj)) (s : Shared) (σ : St) (H : Hp) (Q : VK), Inv X pins σ H s -> t σ H Q ->
   wpAny (model X.prog X.w) X.A (eval a X.env) (fun v s₁ => wpAny (model X.prog X.w) X.A (eval b X.env) (fun u s₂ => wpAny (model X.prog X.w) X.A (compareOp op v u) (EP X pins σ Q) X.xe s₂) X.xe s₁) X.xe s
theorem Es {op : CmpOp} {t : TE} (h : PC X op a b t) (h1 : behindInMarks op b = false := by first | exact Hf _ (by decide) (by decide) | rfl) : PE X (.Compare a [op] [b] pos) t := fun pins s σ H Q I hw => wpAny_Compare1 (h pins s σ H Q I hw) h1
variable {tA J0 : TT} {rest : List Expr}
def Hu (t u : TT) : TT := fun σ H Q => t σ H fun c H1 => if c = true then u σ H1 Q else Q false H1
def Mb (t u : TT) : TT := fun σ H Q => t σ H fun c H1 => if c = true then Q true H1 else u σ H1 Q
def Jh (t : TT) : TT := fun σ H Q => t σ H fun c H1 => Q (!c) H1
theorem sO (ha : PT X a tA) : PW X (.BoolOp .And [a] pos) tA := by
 intro wh pins s σ H Q I h
 refine isTrue_and (bO (ha pins s σ H Q I h) fun c s1 e => ?_)
 cases c with
 | true => exact isTrue_and_nil e
 | false => exact e
theorem qG (ha : PT X a tA) : PW X (.BoolOp .Or [a] pos) tA := by
 intro wh pins s σ H Q I h
 refine isTrue_or (bO (ha pins s σ H Q I h) fun c s1 e => ?_)
 cases c with
 | false => exact isTrue_or_nil e
 | true => exact e
theorem vH (ha : PT X a tA) (hb : PW X (.BoolOp .And (b :: rest) pos) J0) : PW X (.BoolOp .And (a :: b :: rest) pos) (Hu tA J0) := by
 intro wh pins s σ H Q I h
 refine isTrue_and (bO (ha pins s σ H _ I h) fun c s1 ⟨H1, I1, q1⟩ => ?_)
 cases c with
 | true => exact hb wh pins s1 σ H1 Q I1 q1
 | false => exact ⟨H1, I1, q1⟩
theorem pR (ha : PT X a tA) (hb : PW X (.BoolOp .Or (b :: rest) pos) J0) : PW X (.BoolOp .Or (a :: b :: rest) pos) (Mb tA J0) := by
 intro wh pins s σ H Q I h
 refine isTrue_or (bO (ha pins s σ H _ I h) fun c s1 ⟨H1, I1, q1⟩ => ?_)
 cases c with
 | true => exact ⟨H1, I1, q1⟩
 | false => exact hb wh pins s1 σ H1 Q I1 q1
theorem ot (ha : PT X a tA) : PT X (.UnaryOp .Not a pos) (Jh tA) := by
 intro pins s σ H Q I h
 exact isTrue_not (ha pins s σ H (fun c H1 => Q (!c) H1) I h)
def D1 (ta tb : TE) : TE := fun σ H Q => ta σ H fun x H1 => ∃ c, x = .bl c /\ if c = true then tb σ H1 Q else Q (.bl false) H1
def Ik (ta tb : TE) : TE := fun σ H Q => ta σ H fun x H1 => ∃ c, x = .bl c /\ if c = true then Q (.bl true) H1 else tb σ H1 Q
def DS (ta : TE) : TE := fun σ H Q => ta σ H fun x H1 => ∃ c, x = .bl c /\ Q (.bl (!c)) H1
theorem jI {op} {t : TE} (h : PE X a t) : PE X (.BoolOp op [a] pos) t := fun pins s σ H Q I hw => BoolOp_one (h pins s σ H Q I hw)
theorem jH (ha : PE X a ta) (hb : PE X (.BoolOp .And (b :: rest) pos) tb) : PE X (.BoolOp .And (a :: b :: rest) pos) (D1 ta tb) := by
 intro pins s σ H Q I h
 refine BoolOp_and (bO (ha pins s σ H _ I h) fun v s1 ⟨x, H1, I1, r1, q1⟩ => ?_)
 obtain ⟨c, rfl, q1⟩ := q1
 cases r1
 refine wpAny_truthy_bool ?_
 cases c with
 | true => exact hb pins s1 σ H1 Q I1 q1
 | false => exact ⟨.bl false, H1, I1, rfl, q1⟩
theorem Iq (ha : PE X a ta) (hb : PE X (.BoolOp .Or (b :: rest) pos) tb) : PE X (.BoolOp .Or (a :: b :: rest) pos) (Ik ta tb) := by
 intro pins s σ H Q I h
 refine BoolOp_or (bO (ha pins s σ H _ I h) fun v s1 ⟨x, H1, I1, r1, q1⟩ => ?_)
 obtain ⟨c, rfl, q1⟩ := q1
 cases r1
 refine wpAny_truthy_bool ?_
 cases c with
 | false => exact hb pins s1 σ H1 Q I1 q1
 | true => exact ⟨.bl true, H1, I1, rfl, q1⟩
theorem FL (ha : PE X a ta) : PE X (.UnaryOp .Not a pos) (DS ta) := by
 intro pins s σ H Q I h
 refine UnaryOp_ (bO (ha pins s σ H _ I h) fun v s1 ⟨x, H1, I1, r1, q1⟩ => ?_)
 obtain ⟨c, rfl, q1⟩ := q1
 cases r1
 exact not_of (wpAny_truthy_bool ⟨.bl (!c), H1, I1, rfl, q1⟩)
def Mp (t : TT) (ta tb : TE) : TE := fun σ H Q => t σ H fun c H1 => if c = true then ta σ H1 Q else tb σ H1 Q
theorem ni {c : Expr} (hc : PT X c tA) (ha : PE X a ta) (hb : PE X b tb) : PE X (.IfExp c a b pos) (Mp tA ta tb) := by
 intro pins s σ H Q I h
 refine wpAny_IfExp (bO (hc pins s σ H _ I h) fun d s1 ⟨H1, I1, q1⟩ => ?_)
 cases d with
 | true => exact ha pins s1 σ H1 Q I1 q1
 | false => exact hb pins s1 σ H1 Q I1 q1
end
def gf (K : PySem.W.Frag) (H : Hp) (a : Addr) (xs : List V) : Prop :=
 Rd H a (.lst xs) \/
  ∃ (o : Obj) (aV : Array Value) (n : Nat), K.lookup a = some o /\ o.cls = .type "list" /\ o.dict = none /\ o.data = .seq aV n /\ aV.size <= sizeLine /\ Vals xs aV.toList
def yk (K : PySem.W.Frag) (H : Hp) (a : Addr) (xs : List V) : Prop :=
 Rd H a (.tup xs) \/
  ∃ (o : Obj) (aV : Array Value) (n : Nat), K.lookup a = some o /\ o.cls = .type "tuple" /\ o.data = .seq aV n /\ aV.size <= sizeLine /\ Vals xs aV.toList
def KW : Value -> Option V
 | .none => some .cq
 | .bool b => some (.bl b)
 | .int i _ => some (.int i)
 | .str x _ => some (.str x)
 | .bytes b _ => some (.wR b)
 | .float b _ => some (.FJ b)
 | .ref a => some (.ref a)
 | .type n => some (.ty n)
 | _ => none
theorem RelV.abs {x : V} {u : Value} (r : RelV x u) : KW u = some x := by
 cases x with
 | cq => cases r; rfl
 | bl _ => cases r; rfl
 | int _ => obtain ⟨t, rfl⟩ := r; rfl
 | str _ => obtain ⟨t, rfl⟩ := r; rfl
 | wR _ => obtain ⟨t, rfl⟩ := r; rfl
 | FJ _ => obtain ⟨t, rfl⟩ := r; rfl
 | ref _ => cases r; rfl
 | ty _ => cases r; rfl
theorem RelV.inj {x y : V} {u : Value} (r : RelV x u) (q : RelV y u) : x = y := Option.some.inj (r.abs.symm.trans q.abs)
theorem Vals.inj : ∀ {xs ys : List V} {us : List Value}, Vals xs us -> Vals ys us -> xs = ys
 | _, _, _, .nil, .nil => rfl
 | _, _, _, .cons r t, .cons r' t' => by rw [r.inj r', Vals.inj t t']
section
variable {X : Cx} {pins : List (Addr × Obj)} {σ : St} {H : Hp} {s : Shared} {a : Addr} {xs ys : List V}
theorem gf.of {K : PySem.W.Frag} (h : H a = some (.lst xs)) : gf K H a xs := .inl (.inl h)
theorem yk.of {K : PySem.W.Frag} (h : H a = some (.tup xs)) : yk K H a xs := .inl (.inl h)
theorem Inv.list (I : Inv X pins σ H s) (h : gf X.K H a xs) : ∃ aV : List Value, Vals xs aV /\ PlainL s.heap a aV.toArray /\ xs.length <= sizeLine := by
 rcases h with h | ⟨o, aV, n, hk, hc, hd, hs, hz, r⟩
 . obtain ⟨z, aV, n, r, e⟩ := h.ok I.bf
   exact ⟨aV, r, ⟨_, n, e, rfl, rfl, rfl⟩, z⟩
 . refine ⟨aV.toList, r, ⟨o, n, I.i7 a o hk, hc, hd, by simpa using hs⟩, ?_⟩
   have e := r.length
   simp only [Array.length_toList] at e
   omega
theorem Inv.tuple (I : Inv X pins σ H s) (h : yk X.K H a xs) : ∃ aV : List Value, Vals xs aV /\ IsTup s.heap a aV.toArray /\ xs.length <= sizeLine := by
 rcases h with h | ⟨o, aV, n, hk, hc, hs, hz, r⟩
 . obtain ⟨z, aV, r, p⟩ := h.ok I.bf
   exact ⟨aV, r, p, z⟩
 . refine ⟨aV.toList, r, ⟨o, I.i7 a o hk, hc, n, by simpa using hs⟩, ?_⟩
   have e := r.length
   simp only [Array.length_toList] at e
   omega
theorem Inv.Aa (I : Inv X pins σ H s) (h : gf X.K H a xs) (h' : gf X.K H a ys) : xs = ys := by
 obtain ⟨aV, r, ⟨o, n, e, _, _, d⟩, _⟩ := I.list h
 obtain ⟨its', r', ⟨o', n', e', _, _, d'⟩, _⟩ := I.list h'
 rw [e] at e'; cases e'
 rw [d] at d'
 injection d' with d1 _
 have : aV = its' := by simpa using congrArg Array.toList d1
 subst this
 exact r.inj r'
end
abbrev Cx.qY (X : Cx) (E : Value -> Shared -> Prop) : Cx := { X with xe := E }
abbrev Cx.JV (X : Cx) : Cx := X.qY fun _ _ => False
theorem Cx.Ok.qY {X : Cx} (ok : X.Ok) (E : Value -> Shared -> Prop) : (X.qY E).Ok :=
 ⟨ok.mod, ok.kind, ok.glob, ok.blt, ok.above, ok.inj, ok.has, ok.C4, ok.hd, ok.frames, ok.DA, ok.A6, ok.bs, ok.wN, ok.r6, ok.q0, ok.j2, ok.yN⟩
theorem Cx.Ok.jR {X : Cx} {E : Value -> Shared -> Prop} (ok : (X.qY E).Ok) : X.Ok :=
 ⟨ok.mod, ok.kind, ok.glob, ok.blt, ok.above, ok.inj, ok.has, ok.C4, ok.hd, ok.frames, ok.DA, ok.A6, ok.bs, ok.wN, ok.r6, ok.q0, ok.j2, ok.yN⟩
section
variable {X : Cx} {pins : List (Addr × Obj)} {σ : St} {H : Hp} {s : Shared} {E : Value -> Shared -> Prop}
theorem Inv.qY (I : Inv X pins σ H s) (E : Value -> Shared -> Prop) : Inv (X.qY E) pins σ H s := ⟨I.ok.qY E, I.os, I.bare, I.base, I.loc, I.cell, I.free, I.d8, I.pin, I.bf, I.len⟩
theorem Inv.jR (I : Inv (X.qY E) pins σ H s) : Inv X pins σ H s := ⟨I.ok.jR, I.os, I.bare, I.base, I.loc, I.cell, I.free, I.d8, I.pin, I.bf, I.len⟩
theorem SP.jR {D : Ends} {f : Flow} {s' : Shared} (h : SP (X.qY E) pins D f s') : SP X pins D f s' := by
 cases f with
 | next => obtain ⟨σ', H', I, q⟩ := h; exact ⟨σ', H', I.jR, q⟩
 | brk => obtain ⟨σ', H', I, q⟩ := h; exact ⟨σ', H', I.jR, q⟩
 | cont => obtain ⟨σ', H', I, q⟩ := h; exact ⟨σ', H', I.jR, q⟩
 | ret u => obtain ⟨v, σ', H', I, r, q⟩ := h; exact ⟨v, σ', H', I.jR, r, q⟩
theorem qK.JV {st : List Stmt} {t : TS} (h : qK X.JV st t) : qK X st t := fun pins s σ H D I hw =>
 wpAny_mono (h pins s σ H D (I.qY _) hw) (fun _ _ q => q.jR) fun _ _ z => False.elim z
end
section
variable {X : Cx} {st : Stmt} {rest : List Stmt} {t u : TS} {e : Expr} {te : TE} {pos : Pos}
def Dz : TS := fun D σ H => D.nx σ H
theorem aG : qK X [] Dz := fun _ _ σ H _ I h => wpAny_execs_nil ⟨σ, H, I, h⟩
theorem aj (h1 : PS X st t) : qK X [st] t := by
 intro pins s σ H D I h
 refine wpAny_execs_cons (bO (h1 pins s σ H D I h) fun f s1 q => ?_)
 cases f with
 | next => exact wpAny_execs_nil q
 | ret v => exact q
 | brk => exact q
 | cont => exact q
theorem Inv.quiet {pins : List (Addr × Obj)} {σ : St} {H : Hp} {s : Shared} (I : Inv X pins σ H s) : interactive X.env = false := by simp [interactive, I.ok.kind]
def Eb (te : TE) : TS := fun D σ H => te σ H fun _ H1 => D.nx σ H1
theorem bw (he : PE X e te) (hs : swapsWith e none pos.line X.env = pure false := by rfl) : PS X (.Expr e pos) (Eb te) := by
 intro pins s σ H D I h
 exact wpAny_Expr_any (bO (he pins s σ H _ I h) fun v s1 ⟨x, H1, I1, r1, q1⟩ => ⟨σ, H1, I1, q1⟩) I.quiet hs
def IC (te : TE) : TS := fun D σ H => te σ H D.rt
theorem aB (he : PE X e te) : PS X (.Return (some e) pos) (IC te) := by
 intro pins s σ H D I h
 exact wpAny_Return_some (bO (he pins s σ H _ I h) fun v s1 ⟨x, H1, I1, r1, q1⟩ => ⟨x, σ, H1, I1, r1, q1⟩)
def Jb (c : TT) (t u : TS) : TS := fun D σ H => c σ H fun b H1 => if b = true then t D σ H1 else u D σ H1
theorem bD {c : Expr} {a b : List Stmt} {tc : TT} (hc : PT X c tc) (ha : qK X a t) (hb : qK X b u) : PS X (.If c a b pos) (Jb tc t u) := by
 intro pins s σ H D I h
 refine wpAny_If (bO (hc pins s σ H _ I h) fun d s1 ⟨H1, I1, q1⟩ => ?_)
 cases d with
 | true => exact ha pins s1 σ H1 D I1 q1
 | false => exact hb pins s1 σ H1 D I1 q1
def Gm : TS := fun _ _ _ => False
theorem uo : PS X st Gm := fun _ _ _ _ _ _ h => h.elim
end
abbrev TG := V -> St -> Hp -> (St -> Hp -> Prop) -> Prop
abbrev Fm := List V -> St -> Hp -> (St -> Hp -> Prop) -> Prop
def PG (X : Cx) (target : Expr) (t : TG) : Prop :=
 ∀ (pins : List (Addr × Obj)) (s : Shared) (σ : St) (H : Hp) (v : V) (u : Value) (Q : St -> Hp -> Prop), Inv X pins σ H s -> RelV v u -> t v σ H Q ->
   wpAny (model X.prog X.w) X.A (assign target X.env u) (fun _ s' => ∃ σ' H', Inv X pins σ' H' s' /\ Q σ' H') X.xe s
def JW (X : Cx) (ts : List Expr) (t : Fm) : Prop :=
 ∀ (pins : List (Addr × Obj)) (s : Shared) (σ : St) (H : Hp) (vs : List V) (us : List Value) (Q : St -> Hp -> Prop), Inv X pins σ H s -> Vals vs us -> t vs σ H Q ->
   wpAny (model X.prog X.w) X.A (assignInOrder ((assignEach ts X.env).map (·.2)) us) (fun _ s' => ∃ σ' H', Inv X pins σ' H' s' /\ Q σ' H') X.xe s
abbrev Cv := V -> V -> V -> Hp -> (Hp -> Prop) -> Prop
def IY (X : Cx) (t : Cv) : Prop :=
 ∀ (pins : List (Addr × Obj)) (s : Shared) (σ : St) (H : Hp) (o i v : V) (ov iv u : Value) (Q : Hp -> Prop), Inv X pins σ H s -> RelV o ov -> RelV i iv -> RelV v u -> t o i v H Q ->
   wpAny (model X.prog X.w) X.A (setItem ov iv u) (fun _ s' => ∃ H', Inv X pins σ H' s' /\ Q H') X.xe s
section
variable {X : Cx} {pos : Pos}
def ja (i : Nat) : TG := fun v σ H Q => Q (σ.set i (some v)) H
theorem gw {i : Nat} {x : Str} (hN : X.N.Nodup) (hi : X.N[i]? = some x) (hx : Loc X.env.scope x) (hf : X.fn x = true \/ X.env.scope.names.lookup x = some .local := by first | exact .inl rfl | exact .inr rfl | assumption) : PG X (.Name x pos) (ja i) := by
 intro pins s σ H v u Q I r h
 exact wpAny_assign_Name (p8 I hN hi hx r (fun s' I' => ⟨_, H, I', h⟩) hf)
def CK : Fm := fun vs σ H Q => vs = [] /\ Q σ H
def qD (t : TG) (u : Fm) : Fm := fun vs σ H Q => ∃ v r, vs = v :: r /\ t v σ H fun σ' H' => u r σ' H' Q
theorem C3 : JW X [] CK := by
 intro pins s σ H vs us Q I r h
 obtain ⟨e, h⟩ := h
 subst e
 cases r
 exact assignInOrder_nil ⟨σ, H, I, h⟩
theorem ui {e : Expr} {es : List Expr} {t : TG} {u : Fm} (h1 : PG X e t) (h2 : JW X es u)
 (hs : (assignEach (e :: es) X.env).map (·.2) = assign e X.env :: (assignEach es X.env).map (·.2) := by rfl) : JW X (e :: es) (qD t u) := by
 intro pins s σ H vs us Q I r h
 obtain ⟨v, vr, e1, h⟩ := h
 subst e1
 cases r with
 | cons r rr =>
   rw [hs]
   refine assignInOrder_cons (bO (h1 pins s σ H _ _ _ I r h) fun _ s1 ⟨σ1, H1, I1, q1⟩ => ?_)
   exact h2 pins s1 σ1 H1 _ _ Q I1 rr q1
def CA (K : PySem.W.Frag) (n : Nat) (t : Fm) : TG := fun v σ H Q => ∃ a xs, v = .ref a /\ yk K H a xs /\ xs.length = n /\ t xs σ H Q
theorem FK {es : List Expr} {k : Nat} {t : Fm} {n : Nat} (hc : X.calm = true) (h : JW X es t)
 (hn : (assignEach es X.env).length = n := by rfl) (tm : (assignEach es X.env).findIdx? (·.1) = none := by rfl) : PG X (.Tuple es k pos) (CA X.K n t) := by
 intro pins s σ H v u Q I r hw
 obtain ⟨a, xs, e1, hq, hl, hw⟩ := hw
 subst e1
 cases r
 obtain ⟨aV, rv, ht, hz⟩ := I.tuple hq
 refine assign_Tuple_tuple (I.ok.hd hc) ht (by simp [hn, <- hl, rv.length]) tm fun h' hx => ?_
 have I1 : Inv X pins σ H { s with heap := h' } := I.kept (t' := s.toks) fun b o e => hx b o (Nat.ne_of_lt (Heap.lt_size e)) e
 exact h pins _ σ H xs _ Q I1 (by simpa using rv) hw
def HA (to ti : TE) (t : Cv) : TG := fun v σ H Q => to σ H fun o H1 => ti σ H1 fun i H2 => t o i v H2 fun H3 => Q σ H3
theorem Fd {o i : Expr} {to ti : TE} {t : Cv} (ho : PE X o to) (hi : PE X i ti) (hs : IY X t)
 (ha : ∀ v, assign (.Subscript o i pos) X.env v = (do
  let ov <- holding [v] (eval o X.env)
  let iv <- holding [v, ov] (eval i X.env)
  standAt pos
  holding [v, ov, iv] (setItem ov iv v)
  release [v, ov, iv] []) := by intro _; rfl) : PG X (.Subscript o i pos) (HA to ti t) := by
 intro pins s σ H v u Q I r h
 rw [ha]
 refine wpAny_bind (wpAny_holding (bO (ho pins s σ H _ I h) fun ov s1 ⟨x, H1, I1, r1, q1⟩ => ?_))
 refine wpAny_bind (wpAny_holding (bO (hi pins s1 σ H1 _ I1 q1) fun iv s2 ⟨y, H2, I2, r2, q2⟩ => ?_))
 refine wpAny_bind (wpAny_standAt (wpAny_bind (wpAny_holding (bO (hs pins s2 σ H2 x y v ov iv u _ I2 r1 r2 r q2) fun _ s3 ⟨H3, I3, q3⟩ => ?_))))
 exact wpAny_release ⟨σ, H3, I3, q3⟩
def yB (te : TE) (g : TG) : TS := fun D σ H => te σ H fun x H1 => g x σ H1 D.nx
theorem y8 {tg e : Expr} {te : TE} {g : TG} (he : PE X e te) (hg : PG X tg g) (hs : swapsWithSole [tg] e pos.line X.env = pure false := by rfl) (hw : swappedStores [tg] e X.env = pure none := by rfl)
 (h1 : (assignEach [tg] X.env).map (·.2) = [assign tg X.env] := by rfl) : PS X (.Assign [tg] e pos) (yB te g) := by
 intro pins s σ H D I h
 refine wpAny_Assign_stores (bO (he pins s σ H _ I h) fun v s1 ⟨x, H1, I1, r1, q1⟩ => ?_) hs hw
 rw [h1]
 exact bO (hg pins s1 σ H1 x v _ I1 r1 q1) fun _ s2 q => q
theorem cw {i : Nat} {x : Str} {e : Expr} {te : TE} {pos' : Pos} (hN : X.N.Nodup) (hi : X.N[i]? = some x) (hx : Loc X.env.scope x) (he : PE X e te) (hs : swapsWith e (some (.Name x pos')) pos.line X.env = pure false := by rfl) (hf : X.fn x = true \/ X.env.scope.names.lookup x = some .local := by first | exact .inl rfl | exact .inr rfl | assumption) :
 PS X (.Assign [.Name x pos'] e pos) (yB te (ja i)) := by
 intro pins s σ H D I h
 refine wpAny_Assign_Name (bO (he pins s σ H _ I h) fun v s1 ⟨y, H1, I1, r1, q1⟩ => ?_) hs
 exact p8 I1 hN hi hx r1 (fun s2 I2 => ⟨_, H1, I2, q1⟩) hf
end
section
variable {X : Cx} {pos : Pos}
def y9 (c : TT) (tb : TS) : TS := fun D σ H => ∃ W : Nat -> St -> Hp -> Prop, (∃ m, W m σ H) /\ ∀ m σ H, W m σ H ->
 c σ H fun b H1 => if b = true then ∃ N : St -> Hp -> Prop, (∀ σ' H', N σ' H' -> ∃ m', m' < m /\ W m' σ' H') /\ tb { D with nx := N, ct := N, bk := D.nx } σ H1 else D.nx σ H1
theorem zt {c : Expr} {body : List Stmt} {tc : TT} {tb : TS} (hp : PassesOwn (model X.prog X.w) X.A X.env X.xe) (hc : PT X c tc) (hb : qK X body tb) : PS X (.While c body [] pos) (y9 tc tb) := by
 intro pins s σ H D I h
 obtain ⟨W, ⟨m0, w0⟩, turn⟩ := h
 refine wpAny_While (codeAny_whileLoop (fun n s' => ∃ σ' H', Inv X pins σ' H' s' /\ W n σ' H') ?_ m0 ⟨σ, H, I, w0⟩)
 rintro n s1 ⟨σ1, H1, I1, w1⟩
 refine wpAny_passesOwn hp (bO (hc pins s1 σ1 H1 _ I1 (turn n σ1 H1 w1)) fun b s2 ⟨H2, I2, q2⟩ => ?_)
 cases b with
 | true =>
   obtain ⟨N, hN, q2⟩ := q2
   rw [if_pos rfl]
   refine wpAny_passesOwn hp (bO (hb pins s2 σ1 H2 _ I2 q2) fun f s3 q3 => ?_)
   cases f with
   | next =>
     obtain ⟨σ3, H3, I3, n3⟩ := q3
     obtain ⟨m', hm, w3⟩ := hN σ3 H3 n3
     exact ⟨m', hm, σ3, H3, I3, w3⟩
   | cont =>
     obtain ⟨σ3, H3, I3, n3⟩ := q3
     obtain ⟨m', hm, w3⟩ := hN σ3 H3 n3
     exact ⟨m', hm, σ3, H3, I3, w3⟩
   | brk => exact q3
   | ret v => exact q3
 | false =>
   rw [if_neg Bool.false_ne_true]
   exact wpAny_execs_nil ⟨σ1, H2, I2, q2⟩
end
structure It where
 go : Nat -> Hp -> Prop
 JT : Nat -> Hp -> V -> Hp -> Prop
 stop : Nat -> Hp -> Prop
def j3 (X : Cx) (pins : List (Addr × Obj)) (H : Hp) (b : Addr) : Prop :=
 H b = none /\ b ≠ X.env.locals /\ b ∉ X.fs /\ (b ∈ X.ex \/ X.cH.heap.objs.size <= b) /\ (∀ x c, X.env.cells.lookup x = some c -> c ≠ b) /\ ∀ p ∈ X.pn ++ pins, p.1 ≠ b
theorem Inv.Bs {X : Cx} {pins : List (Addr × Obj)} {σ : St} {H H' : Hp} {s : Shared} {b : Addr} (I : Inv X pins σ H s) (hb : s.heap.objs.size <= b) (hn : H' b = none) : j3 X pins H' b := by
 refine ⟨hn, Nat.ne_of_gt (Nat.lt_of_lt_of_le I.lt hb), I.Kq hb, .inr (Nat.le_trans I.sz hb), fun x c e z => ?_, fun p hp z => ?_⟩
 . obtain ⟨v, q⟩ := I.cell x c e
   exact absurd (Nat.lt_of_lt_of_le q.lt (by rw [z]; exact hb)) (Nat.lt_irrefl _)
 . exact absurd (Nat.lt_of_lt_of_le (Heap.lt_size (I.pin p hp).1) (by rw [z]; exact hb)) (Nat.lt_irrefl _)
structure Turn (P : Program) (w : World) (K : PySem.W.Frag) (tg : Expr) (J : It) (fp : List Addr) (it : Addr) (tn : Nat -> Heap -> Prop) : Prop where
 mem : it ∈ fp
 obj : ∀ i h, tn i h -> ∀ b ∈ fp, ∃ o, h.get? b = some o /\ ∀ v, o.data ≠ .cell v
 keep : ∀ i h h', tn i h -> (∀ b ∈ fp, ∀ o, h.get? b = some o -> h'.get? b = some o) -> tn i h'
 item : ∀ (X : Cx), X.prog = P -> X.w = w -> X.K = K -> X.calm = true -> ∀ (i : Nat) (pins : List (Addr × Obj)) (s : Shared) (σ : St) (H : Hp) (E : Value -> Shared -> Prop), Inv X pins σ H s -> (∀ b ∈ fp, j3 X pins H b) -> tn i s.heap -> J.go i H ->
  wpAny (model P w) X.A (pyNext (.ref it)) (fun r s1 => ∃ u, r = some u /\
   wpAny (model P w) X.A (letOwnedTupleGo tg (.ref it) u) (fun _ s2 => ∃ x H', Inv X pins σ H' s2 /\ RelV x u /\ J.JT i H x H' /\ tn (i + 1) s2.heap /\ ∀ b ∈ fp, H' b = none) E s1) E s
 done : ∀ (X : Cx), X.prog = P -> X.w = w -> X.K = K -> X.calm = true -> ∀ (i : Nat) (pins : List (Addr × Obj)) (s : Shared) (σ : St) (H : Hp) (E : Value -> Shared -> Prop), Inv X pins σ H s -> (∀ b ∈ fp, j3 X pins H b) -> tn i s.heap -> J.stop i H ->
  wpAny (model P w) X.A (pyNext (.ref it)) (fun r s1 => r = none /\ Inv X pins σ H s1) E s
 self : ∀ (A : Around) (i : Nat) (s : Shared) (Q : Value -> Shared -> Prop) (E : Value -> Shared -> Prop), tn i s.heap -> Q (.ref it) s -> wpAny (model P w) A (pyIter (.ref it)) Q E s
abbrev TI := St -> Hp -> (It -> Hp -> Prop) -> Prop
def M4 (X : Cx) (pins : List (Addr × Obj)) (σ : St) (tg : Expr) (R : It -> Hp -> Prop) (HR : Value) (s2 : Shared) : Prop :=
 ∃ (it : Addr) (fp : List Addr) (tn : Nat -> Heap -> Prop) (J : It) (H' : Hp), HR = .ref it /\ Inv X pins σ H' s2 /\ Turn X.prog X.w X.K tg J fp it tn /\ tn 0 s2.heap /\ (∀ b ∈ fp, j3 X pins H' b) /\ R J H'
def PI (X : Cx) (tg iter : Expr) (wi : TI) : Prop :=
 ∀ (pins : List (Addr × Obj)) (s : Shared) (σ : St) (H : Hp) (R : It -> Hp -> Prop), Inv X pins σ H s -> wi σ H R ->
   wpAny (model X.prog X.w) X.A (eval iter X.env) (fun v s1 => wpAny (model X.prog X.w) X.A (pyIter v) (M4 X pins σ tg R) X.xe s1) X.xe s
theorem Dt {M : Model} {A : Around} {E : Value -> Shared -> Prop} {s : Shared} {tg : Expr} {it : Addr} {u : Value} {o : Obj} {n : String} {vs : Array Value} {Q : Unit -> Shared -> Prop} (ho : s.heap.get? it = some o) (hc : o.cls = .type n) (hd : o.data = .fields vs)
 (hn : ["enumerate", "zip", "dict_itemiterator", "dict_reverseitemiterator", "odict_iterator", "itertools.zip_longest", "itertools.pairwise"].contains n = false) (hQ : Q () s) : wpAny M A (letOwnedTupleGo tg (.ref it) u) Q E s := by
 unfold letOwnedTupleGo
 cases tg <;> first
  | exact wpAny_pure hQ
  | (cases u <;> first
   | exact wpAny_pure hQ
   | (refine wpAny_bind (wpAny_load ho ?_)
      rw [hc, hd]
      show wpAny M A (if (["enumerate", "zip", "dict_itemiterator", "dict_reverseitemiterator", "odict_iterator", "itertools.zip_longest", "itertools.pairwise"].contains n && vs[0]? == some (rawInt _)) = true then _ else _) Q E s
      rw [if_neg (by intro h; rw [hn, Bool.false_and] at h; cases h)]
      exact wpAny_pure hQ))
def Hn (K : PySem.W.Frag) (a : Addr) : It :=
 ⟨fun i H => ∃ xs x, gf K H a xs /\ xs[i]? = some x, fun i H x H' => H' = H /\ ∀ xs, gf K H a xs -> xs[i]? = some x, fun i H => ∃ xs, gf K H a xs /\ xs.length <= i⟩
theorem yF {P : Program} {w : World} {K : PySem.W.Frag} {tg : Expr} (a it : Addr) : Turn P w K tg (Hn K a) [it] it (fun i h => h.IsListIter it a i) where
 mem := by simp
 obj := fun i h st b hb => by
  have e : b = it := by simpa using hb
  subst e
  obtain ⟨o, e, c, d⟩ := st
  exact ⟨o, e, fun v z => by rw [d] at z; cases z⟩
 keep := fun i h h' st k => st.at fun o e => k it (by simp) o e
 item := by
  intro X hP hw hK hc i pins s σ H E I hf st hg
  subst hP hw hK
  obtain ⟨xs, x, hq, hx⟩ := hg
  obtain ⟨aV, rv, p, hz⟩ := I.list hq
  obtain ⟨u, hu, ru⟩ := rv.get hx
  obtain ⟨f0, f1, f2, f3, f4, f5⟩ := hf it (by simp)
  refine wpAny_pyNext_list_item st p.isList (x := u) (by simpa using hu) fun h' G2 sb => ?_
  have I1 : Inv X pins σ H { s with heap := h' } := I.turned (t' := s.toks) (fun b o hb e => (sb.2 b hb).trans e) f0 f1 f3 f4 f5
  obtain ⟨o, e, c, d⟩ := id G2
  exact ⟨u, rfl, Dt (s := { s with heap := h' }) e c d (by decide) ⟨x, H, I1, ru, ⟨rfl, fun ys hy => by rw [I.Aa hy hq]; exact hx⟩, G2, fun b hb => (hf b hb).1⟩⟩
 done := by
  intro X hP hw hK hc i pins s σ H E I hf st hg
  subst hP hw hK
  obtain ⟨xs, hq, hx⟩ := hg
  obtain ⟨aV, rv, p, hz⟩ := I.list hq
  obtain ⟨f0, f1, f2, f3, f4, f5⟩ := hf it (by simp)
  have hl := rv.length
  exact wpAny_pyNext_list_end (I.ok.hd hc) st p.isList (by simp; omega) fun h' eb => ⟨rfl, I.turned (t' := s.toks) (fun b o hb e => eb b o hb e) f0 f1 f3 f4 f5⟩
 self := fun _ _ _ _ _ st h => wpAny_pyIter_listiter st h
section
variable {X : Cx} {tg : Expr}
def Dx (K : PySem.W.Frag) (tl : TE) : TI := fun σ H R => tl σ H fun x H1 => ∃ a, x = .ref a /\ (∃ xs, gf K H1 a xs) /\ R (Hn K a) H1
theorem pG {l : Expr} {tl : TE} (hl : PE X l tl) : PI X tg l (Dx X.K tl) := by
 intro pins s σ H R I h
 refine bO (hl pins s σ H _ I h) fun v s1 ⟨x, H1, I1, r1, q1⟩ => ?_
 obtain ⟨a, e, ⟨xs, hq⟩, q⟩ := q1
 subst e
 cases r1
 obtain ⟨aV, rv, p, hz⟩ := I1.list hq
 refine wpAny_pyIter_list p.isList ?_
 refine ⟨s1.heap.objs.size, [s1.heap.objs.size], _, _, H1, rfl, I1.kept (t' := s1.toks) fun b o e => Heap.get?_push_of_some _ e, yF a _, ⟨_, Heap.get?_push_size _ rfl, rfl, rfl⟩, fun b hb => ?_, q⟩
 have e : b = s1.heap.objs.size := by simpa using hb
 subst e
 exact I1.Bs (Nat.le_refl _) (I1.bf.fresh (Nat.le_refl _))
def G0 (wi : TI) (g : TG) (tb : TS) : TS := fun D σ H => wi σ H fun J H1 => ∃ W : Nat -> Nat -> St -> Hp -> Prop, (∃ m, W 0 m σ H1) /\ ∀ i m σ H, W i m σ H ->
 (J.stop i H /\ D.nx σ H) \/ (J.go i H /\ ∃ N : St -> Hp -> Prop, (∀ σ' H', N σ' H' -> ∃ m', m' < m /\ W (i + 1) m' σ' H') /\ ∀ x H', J.JT i H x H' -> g x σ H' fun σ2 H2 => tb { D with nx := N, ct := N, bk := D.nx } σ2 H2)
def lH (fp : List Addr) (h : Heap) : List (Addr × Obj) := fp.filterMap fun b => (h.get? b).map fun o => (b, o)
theorem dD {fp : List Addr} {h : Heap} {b : Addr} {o : Obj} (hb : b ∈ fp) (e : h.get? b = some o) : (b, o) ∈ lH fp h := List.mem_filterMap.mpr ⟨b, hb, by rw [e]; rfl⟩
theorem xV {fp : List Addr} {h : Heap} {p : Addr × Obj} (hp : p ∈ lH fp h) : p.1 ∈ fp /\ h.get? p.1 = some p.2 := by
 obtain ⟨b, hb, e⟩ := List.mem_filterMap.mp hp
 cases q : h.get? b with
 | none => rw [q] at e; cases e
 | some o =>
   rw [q] at e
   have e' : (b, o) = p := Option.some.inj e
   subst e'
   exact ⟨hb, q⟩
theorem Inv.pinned {pins : List (Addr × Obj)} {σ : St} {H : Hp} {s : Shared} {fp : List Addr} (I : Inv X pins σ H s) (hf : ∀ b ∈ fp, j3 X pins H b) (ho : ∀ b ∈ fp, ∃ o, s.heap.get? b = some o /\ ∀ v, o.data ≠ .cell v) : Inv X (pins ++ lH fp s.heap) σ H s :=
 I.fS fun p hp => (List.mem_append.mp hp).elim (fun z => I.pin p (List.mem_append_right _ z)) fun z => by
  obtain ⟨hb, e⟩ := xV z
  obtain ⟨f0, f1, f2, _⟩ := hf p.1 hb
  obtain ⟨o, e', d⟩ := ho p.1 hb
  rw [e] at e'; cases e'
  exact ⟨e, f0, f1, f2, d⟩
theorem Inv.ql {pins pl : List (Addr × Obj)} {σ : St} {H : Hp} {s : Shared} (I : Inv X (pins ++ pl) σ H s) : Inv X pins σ H s := I.fS fun p hp => I.pin p (List.mem_append_right _ (List.mem_append_left _ hp))
theorem Fy {iter : Expr} {body : List Stmt} {wi : TI} {g : TG} {tb : TS} {pos : Pos} (hp : PassesOwn (model X.prog X.w) X.A X.env X.xe) (hc : X.calm = true) (hi : PI X tg iter wi) (hg : PG X tg g) (hb : qK X body tb)
 (hs : ∀ x, foldedSetIterable iter X.env x = pure x := by intro _; rfl) : PS X (.For tg iter body [] pos) (G0 wi g tb) := by
 intro pins s σ H D I h
 refine wpAny_For (bO (hi pins s σ H _ I h) fun v s1 h1 => bO h1 fun HR s2 h2 => ?_) hs
 obtain ⟨it, fp, tn, J, H2, e, I2, T, NR, f2, W, ⟨m0, w0⟩, turn⟩ := h2
 subst e
 have stat : ∀ {H' : Hp}, (∀ b ∈ fp, H' b = none) -> ∀ b ∈ fp, j3 X pins H' b := fun hn b hb => ⟨hn b hb, (f2 b hb).2⟩
 refine codeAny_forLoop_any (fun n s' => ∃ i σ' H', Inv X pins σ' H' s' /\ tn i s'.heap /\ (∀ b ∈ fp, H' b = none) /\ W i n σ' H') ?_ m0 ⟨0, σ, H2, I2, NR, fun b hb => (f2 b hb).1, w0⟩
 rintro n s3 ⟨i, σ3, H3, I3, Ed, DK, w3⟩
 rcases turn i n σ3 H3 w3 with ⟨stop, qn⟩ | ⟨go, N, hN, step⟩
 . refine wpAny_passesOwn hp (bO (T.done X rfl rfl rfl hc i pins s3 σ3 H3 X.xe I3 (stat DK) Ed stop) fun r s4 ⟨hr, I4⟩ => ?_)
   subst hr
   exact wpAny_execs_nil ⟨σ3, H3, I4, qn⟩
 . refine wpAny_passesOwn hp (bO (T.item X rfl rfl rfl hc i pins s3 σ3 H3 X.xe I3 (stat DK) Ed go) fun r s4 ⟨u, hr, h4⟩ => ?_)
   subst hr
   refine wpAny_passesOwn hp (bO h4 fun _ s5 ⟨x, H5, I5, r5, y5, yJ, Jo⟩ => ?_)
   have Iw := I5.pinned (stat Jo) (T.obj _ _ yJ)
   refine wpAny_passesOwn hp (bO (hg _ s5 σ3 H5 x u _ Iw r5 (step x H5 y5)) fun _ s6 ⟨σ6, H6, I6, q6⟩ => ?_)
   refine wpAny_passesOwn hp (bO (hb _ s6 σ6 H6 _ I6 q6) fun f s7 q7 => ?_)
   have again : ∀ {σ7 : St} {H7 : Hp}, Inv X (pins ++ lH fp s5.heap) σ7 H7 s7 -> N σ7 H7 -> ∃ m, m < n /\ ∃ i σ' H', Inv X pins σ' H' s7 /\ tn i s7.heap /\ (∀ b ∈ fp, H' b = none) /\ W i m σ' H' := fun {σ7 H7} I7 n7 => by
    obtain ⟨m', hm, w7⟩ := hN σ7 H7 n7
    refine ⟨m', hm, i + 1, σ7, H7, I7.ql, T.keep _ _ _ yJ fun b hb o e => (I7.pin (b, o) (List.mem_append_right _ (List.mem_append_right _ (dD hb e)))).1, fun b hb => ?_, w7⟩
    obtain ⟨o, e, d⟩ := T.obj _ _ yJ b hb
    exact (I7.pin (b, o) (List.mem_append_right _ (List.mem_append_right _ (dD hb e)))).2.1
   cases f with
   | next => obtain ⟨σ7, H7, I7, n7⟩ := q7; exact again I7 n7
   | cont => obtain ⟨σ7, H7, I7, n7⟩ := q7; exact again I7 n7
   | brk => obtain ⟨σ7, H7, I7, q7⟩ := q7; exact ⟨σ7, H7, I7.ql, q7⟩
   | ret v => obtain ⟨x7, σ7, H7, I7, r7, q7⟩ := q7; exact ⟨x7, σ7, H7, I7.ql, r7, q7⟩
end
abbrev R2 := V -> V -> Hp -> VK -> Prop
def j0 (X : Cx) (f : Value -> Value -> Sem Value) (r : R2) : Prop :=
 ∀ (pins : List (Addr × Obj)) (s : Shared) (σ : St) (H : Hp) (x y : V) (v u : Value) (Q : VK), Inv X pins σ H s -> RelV x v -> RelV y u -> r x y H Q ->
   wpAny (model X.prog X.w) X.A (f v u) (EP X pins σ Q) X.xe s
def Kw (X : Cx) (f : Value -> Sem Value) (r : V -> Hp -> VK -> Prop) : Prop :=
 ∀ (pins : List (Addr × Obj)) (s : Shared) (σ : St) (H : Hp) (x : V) (v : Value) (Q : VK), Inv X pins σ H s -> RelV x v -> r x H Q ->
   wpAny (model X.prog X.w) X.A (f v) (EP X pins σ Q) X.xe s
def fN (X : Cx) (f : Value) (r : List V -> Hp -> VK -> Prop) : Prop :=
 ∀ (pins : List (Addr × Obj)) (s : Shared) (σ : St) (H : Hp) (xs : List V) (us : List Value) (Q : VK), Inv X pins σ H s -> Vals xs us -> r xs H Q ->
   wpAny (model X.prog X.w) X.A (call f us) (EP X pins σ Q) X.xe s
def Kh (X : Cx) (r : V -> Hp -> (Bool -> Hp -> Prop) -> Prop) : Prop :=
 ∀ (pins : List (Addr × Obj)) (s : Shared) (σ : St) (H : Hp) (x : V) (v : Value) (Q : Bool -> Hp -> Prop), Inv X pins σ H s -> RelV x v -> r x H Q ->
   wpAny (model X.prog X.w) X.A (truthy v) (TP X pins σ Q) X.xe s
def HM (r : R2) (ta tb : TE) : TE := fun σ H Q => ta σ H fun x H1 => tb σ H1 fun y H2 => r x y H2 Q
def L8 (r : V -> Hp -> VK -> Prop) (ta : TE) : TE := fun σ H Q => ta σ H fun x H1 => r x H1 Q
def rI (C : Int -> Int -> Prop) (g : Int -> Int -> V) : R2 := fun x y H Q => ∃ i j, x = .int i /\ y = .int j /\ C i j /\ Q (g i j) H
def BM (g : Int -> Int -> V) : R2 := fun x y H Q => ∃ i j, x = .int i /\ y = .int j /\ Q (g i j) H
def rU (g : Int -> V) : V -> Hp -> VK -> Prop := fun x H Q => ∃ i, x = .int i /\ Q (g i) H
section
variable {X : Cx} {a b c : Expr} {ta tb tc : TE} {pos : Pos}
theorem F8 (ha : PE X a ta) (hb : PE X b tb) {pins : List (Addr × Obj)} {s : Shared} {σ : St} {H : Hp} {R : V -> V -> Hp -> Prop} (I : Inv X pins σ H s)
 (h : ta σ H fun x H1 => tb σ H1 fun y H2 => R x y H2) {Q : Value -> Shared -> Prop} {f : Value -> Value -> Sem Value}
 (hf : ∀ v u s2 x y H2, Inv X pins σ H2 s2 -> RelV x v -> RelV y u -> R x y H2 -> wpAny (model X.prog X.w) X.A (f v u) Q X.xe s2) :
 wpAny (model X.prog X.w) X.A (eval a X.env) (fun v s₁ => wpAny (model X.prog X.w) X.A (eval b X.env) (fun u s₂ => wpAny (model X.prog X.w) X.A (f v u) Q X.xe s₂) X.xe s₁) X.xe s := by
 refine bO (ha pins s σ H _ I h) fun v s1 ⟨x, H1, I1, r1, q1⟩ => ?_
 refine bO (hb pins s1 σ H1 _ I1 q1) fun u s2 ⟨y, H2, I2, r2, q2⟩ => ?_
 exact hf v u s2 x y H2 I2 r1 r2 q2
theorem aM {op : Operator} {r : R2} (ho : j0 X (binaryOp op) r) (ha : PE X a ta) (hb : PE X b tb) : PE X (.BinOp a op b pos) (HM r ta tb) := by
 intro pins s σ H Q I h
 exact wpAny_BinOp (F8 ha hb I h fun v u s2 x y H2 I2 rx ry q => ho pins s2 σ H2 x y v u Q I2 rx ry q)
theorem qd {op : UnaryOp} {r : V -> Hp -> VK -> Prop} (ho : Kw X (unaryOp op) r) (ha : PE X a ta) : PE X (.UnaryOp op a pos) (L8 r ta) := by
 intro pins s σ H Q I h
 exact UnaryOp_ (bO (ha pins s σ H _ I h) fun v s1 ⟨x, H1, I1, r1, q1⟩ => ho pins s1 σ H1 x v Q I1 r1 q1)
theorem Ks {f : Value -> Value -> Sem Value} {C : Int -> Int -> Prop} {g : Int -> Int -> Int}
 (rule : ∀ (i j : Int) (t u : Tok) (s : Shared) (Q : Value -> Shared -> Prop) (E : Value -> Shared -> Prop), C i j -> Q (.int (g i j) s.toks) { s with toks := s.toks + 1 } -> wpAny (model X.prog X.w) X.A (f (.int i t) (.int j u)) Q E s) :
 j0 X f (rI C fun i j => .int (g i j)) := by
 intro pins s σ H x y v u Q I rx ry h
 obtain ⟨i, j, rfl, rfl, hc, q⟩ := h
 obtain ⟨t, rfl⟩ := rx
 obtain ⟨t', rfl⟩ := ry
 exact rule i j t t' s _ _ hc ⟨.int (g i j), H, I.tok _, ⟨_, rfl⟩, q⟩
theorem Ji {f : Value -> Value -> Sem Value} {g : Int -> Int -> Int}
 (rule : ∀ (i j : Int) (t u : Tok) (s : Shared) (Q : Value -> Shared -> Prop) (E : Value -> Shared -> Prop), Q (.int (g i j) s.toks) { s with toks := s.toks + 1 } -> wpAny (model X.prog X.w) X.A (f (.int i t) (.int j u)) Q E s) :
 j0 X f (BM fun i j => .int (g i j)) := by
 intro pins s σ H x y v u Q I rx ry h
 obtain ⟨i, j, rfl, rfl, q⟩ := h
 obtain ⟨t, rfl⟩ := rx
 obtain ⟨t', rfl⟩ := ry
 exact rule i j t t' s _ _ ⟨.int (g i j), H, I.tok _, ⟨_, rfl⟩, q⟩
theorem Ca {f : Value -> Value -> Sem Value} {g : Int -> Int -> Bool}
 (rule : ∀ (i j : Int) (t u : Tok) (s : Shared) (Q : Value -> Shared -> Prop) (E : Value -> Shared -> Prop), Q (.bool (g i j)) s -> wpAny (model X.prog X.w) X.A (f (.int i t) (.int j u)) Q E s) :
 j0 X f (BM fun i j => .bl (g i j)) := by
 intro pins s σ H x y v u Q I rx ry h
 obtain ⟨i, j, rfl, rfl, q⟩ := h
 obtain ⟨t, rfl⟩ := rx
 obtain ⟨t', rfl⟩ := ry
 exact rule i j t t' s _ _ ⟨.bl (g i j), H, I, rfl, q⟩
def E7 (i j : Int) : Prop := 0 <= j /\ j <= 1000000 /\ i.natAbs < 2 ^ 64
theorem lD : j0 X (binaryOp .Add) (BM fun i j => .int (i + j)) := Ji fun _ _ _ _ _ _ _ q => add_int q
theorem Ao : j0 X (binaryOp .Sub) (BM fun i j => .int (i - j)) := Ji fun _ _ _ _ _ _ _ q => sub_int q
theorem Fn : j0 X (binaryOp .Mod) (rI (fun _ j => 0 < j) fun i j => .int (i % j)) := Ks fun i j _ _ _ _ _ hc q => by
 have h1 : (0 : Int) < j := hc
 exact mod_int' (by omega) (by rw [Int.fmod_eq_emod_of_nonneg i (by omega)]; exact q)
theorem Az : j0 X (binaryOp .Pow) (rI E7 fun i j => .int (i ^ j.toNat)) := Ks fun _ _ _ _ _ _ _ hc q => pow_int_small hc.1 hc.2.1 hc.2.2 q
theorem MZ {f : Value -> Sem Value} {g : Int -> Int}
 (rule : ∀ (i : Int) (t : Tok) (s : Shared) (Q : Value -> Shared -> Prop) (E : Value -> Shared -> Prop), Q (.int (g i) s.toks) { s with toks := s.toks + 1 } -> wpAny (model X.prog X.w) X.A (f (.int i t)) Q E s) :
 Kw X f (rU fun i => .int (g i)) := by
 intro pins s σ H x v Q I rx h
 obtain ⟨i, rfl, q⟩ := h
 obtain ⟨t, rfl⟩ := rx
 exact rule i t s _ _ ⟨.int (g i), H, I.tok _, ⟨_, rfl⟩, q⟩
theorem lJ : Kw X (unaryOp .USub) (rU fun i => .int (-i)) := MZ fun _ _ _ _ _ q => neg_int q
end
def B5 : V -> V -> Bool
 | .cq, .cq => true | .cq, .int _ => true | .int _, .cq => true | .cq, .bl _ => true | .bl _, .cq => true | .cq, .str _ => true | .str _, .cq => true
 | .int _, .int _ => true | .bl _, .bl _ => true | .str _, .str _ => true | .wR _, .wR _ => true
 | .int _, .str _ => true | .str _, .int _ => true | .bl _, .str _ => true | .str _, .bl _ => true
 | _, _ => false
def OC : R2 := fun x y H Q => B5 x y = true /\ Q (.bl (decide (x = y))) H
def N4 : R2 := fun x y H Q => B5 x y = true /\ Q (.bl (!decide (x = y))) H
theorem wZ {i j : Int} : decide (V.int i = V.int j) = (i == j) := by
 rw [Bool.eq_iff_iff]
 simp
theorem y0 {i j : Bool} : decide (V.bl i = V.bl j) = (i == j) := by
 rw [Bool.eq_iff_iff]
 simp
theorem xt {i j : Str} : decide (V.str i = V.str j) = (i == j) := by
 rw [Bool.eq_iff_iff]
 simp
theorem wX {i j : Array UInt8} : decide (V.wR i = V.wR j) = (i.toList == j.toList) := by
 rw [Bool.eq_iff_iff]
 cases i
 cases j
 simp
section
variable {X : Cx} {a b c : Expr} {ta tb tc : TE} {pos : Pos}
theorem aN {pins : List (Addr × Obj)} {σ : St} {H : Hp} {s : Shared} {Q : VK} {k k' : Bool} (I : Inv X pins σ H s) (q : Q (.bl k) H) (e : k = k') : EP X pins σ Q (.bool k') s := by
 subst e
 exact ⟨.bl k, H, I, rfl, q⟩
theorem IH : j0 X (compareOp .Eq) OC := by
 intro pins s σ H x y v u Q I rx ry h
 obtain ⟨hs, q⟩ := h
 cases x with
 | cq =>
   cases rx
   cases y with
   | cq => cases ry; exact PySem.EqNone.eq_none_none (aN I q (by simp))
   | bl j => cases ry; exact PySem.EqNone.eq_none_bool (aN I q (by simp))
   | int j => obtain ⟨t', rfl⟩ := ry; exact PySem.EqNone.eq_none_int (aN I q (by simp))
   | str j => obtain ⟨t', rfl⟩ := ry; exact PySem.EqNone.eq_none_str (aN I q (by simp))
   | _ => exact absurd (show false = true from hs) Bool.false_ne_true
 | bl i =>
   cases rx
   cases y with
   | cq => cases ry; exact PySem.EqNone.eq_bool_none (aN I q (by simp))
   | bl j => cases ry; exact eq_bool (aN I q y0)
   | str j => obtain ⟨t', rfl⟩ := ry; exact PySem.EqMixed.eq_bool_str (aN I q (by simp))
   | _ => exact absurd (show false = true from hs) Bool.false_ne_true
 | int i =>
   obtain ⟨t, rfl⟩ := rx
   cases y with
   | cq => cases ry; exact PySem.EqNone.eq_int_none (aN I q (by simp))
   | int j => obtain ⟨t', rfl⟩ := ry; exact eq_int (aN I q wZ)
   | str j => obtain ⟨t', rfl⟩ := ry; exact PySem.EqMixed.eq_int_str (aN I q (by simp))
   | _ => exact absurd (show false = true from hs) Bool.false_ne_true
 | str i =>
   obtain ⟨t, rfl⟩ := rx
   cases y with
   | cq => cases ry; exact PySem.EqNone.eq_str_none (aN I q (by simp))
   | bl j => cases ry; exact PySem.EqMixed.eq_str_bool (aN I q (by simp))
   | int j => obtain ⟨t', rfl⟩ := ry; exact PySem.EqMixed.eq_str_int (aN I q (by simp))
   | str j => obtain ⟨t', rfl⟩ := ry; exact eq_str (aN I q xt)
   | _ => exact absurd (show false = true from hs) Bool.false_ne_true
 | wR i =>
   obtain ⟨t, rfl⟩ := rx
   cases y with
   | wR j => obtain ⟨t', rfl⟩ := ry; exact PySem.W.eq_bytes (aN I q wX)
   | _ => exact absurd (show false = true from hs) Bool.false_ne_true
 | _ => cases y <;> exact absurd (show false = true from hs) Bool.false_ne_true
theorem Jg : j0 X (compareOp .NotEq) N4 := by
 intro pins s σ H x y v u Q I rx ry h
 obtain ⟨hs, q⟩ := h
 cases x with
 | cq =>
   cases rx
   cases y with
   | cq => cases ry; exact PySem.EqNone.ne_none_none (aN I q (by simp))
   | bl j => cases ry; exact PySem.EqNone.ne_none_bool (aN I q (by simp))
   | int j => obtain ⟨t', rfl⟩ := ry; exact PySem.EqNone.ne_none_int (aN I q (by simp))
   | str j => obtain ⟨t', rfl⟩ := ry; exact PySem.EqNone.ne_none_str (aN I q (by simp))
   | _ => exact absurd (show false = true from hs) Bool.false_ne_true
 | bl i =>
   cases rx
   cases y with
   | cq => cases ry; exact PySem.EqNone.ne_bool_none (aN I q (by simp))
   | bl j => cases ry; exact ne_bool (aN I q (congrArg not y0))
   | str j => obtain ⟨t', rfl⟩ := ry; exact PySem.EqMixed.ne_bool_str (aN I q (by simp))
   | _ => exact absurd (show false = true from hs) Bool.false_ne_true
 | int i =>
   obtain ⟨t, rfl⟩ := rx
   cases y with
   | cq => cases ry; exact PySem.EqNone.ne_int_none (aN I q (by simp))
   | int j => obtain ⟨t', rfl⟩ := ry; exact ne_int (aN I q (congrArg not wZ))
   | str j => obtain ⟨t', rfl⟩ := ry; exact PySem.EqMixed.ne_int_str (aN I q (by simp))
   | _ => exact absurd (show false = true from hs) Bool.false_ne_true
 | str i =>
   obtain ⟨t, rfl⟩ := rx
   cases y with
   | cq => cases ry; exact PySem.EqNone.ne_str_none (aN I q (by simp))
   | bl j => cases ry; exact PySem.EqMixed.ne_str_bool (aN I q (by simp))
   | int j => obtain ⟨t', rfl⟩ := ry; exact PySem.EqMixed.ne_str_int (aN I q (by simp))
   | str j => obtain ⟨t', rfl⟩ := ry; exact ne_str (aN I q (congrArg not xt))
   | _ => exact absurd (show false = true from hs) Bool.false_ne_true
 | wR i =>
   obtain ⟨t, rfl⟩ := rx
   cases y with
   | wR j => obtain ⟨t', rfl⟩ := ry; exact PySem.W.ne_bytes (aN I q (congrArg not wX))
   | _ => exact absurd (show false = true from hs) Bool.false_ne_true
 | _ => cases y <;> exact absurd (show false = true from hs) Bool.false_ne_true
theorem qi : j0 X (compareOp .Lt) (BM fun i j => .bl (decide (i < j))) := Ca fun _ _ _ _ _ _ _ q => lt_int q
theorem rg : j0 X (compareOp .LtE) (BM fun i j => .bl (decide (i <= j))) := Ca fun _ _ _ _ _ _ _ q => le_int q
theorem xf : j0 X (compareOp .Gt) (BM fun i j => .bl (decide (j < i))) := Ca fun _ _ _ _ _ _ _ q => gt_int q
theorem Dy : j0 X (compareOp .GtE) (BM fun i j => .bl (decide (j <= i))) := Ca fun _ _ _ _ _ _ _ q => ge_int q
theorem xS : j0 X (compareOp .In) (fun x y H Q => ∃ i j, x = .str i /\ y = .str j /\ Q (.bl (!(Builtin.Str.occurrences j i 0 j.length 1).isEmpty)) H) := by
 intro pins s σ H x y v u Q I rx ry h
 obtain ⟨i, j, rfl, rfl, q⟩ := h
 obtain ⟨t, rfl⟩ := rx
 obtain ⟨t', rfl⟩ := ry
 exact in_str (aN I q rfl)
theorem AQ : j0 X (compareOp .Is) (fun x y H Q => y = .cq /\ Q (.bl (decide (x = .cq))) H) := by
 intro pins s σ H x y v u Q I rx ry h
 obtain ⟨rfl, q⟩ := h
 cases ry
 refine is_none_gen (aN I q ?_)
 cases x <;> first
  | (cases rx; rfl)
  | (obtain ⟨t, rfl⟩ := rx; rfl)
theorem CH : j0 X (compareOp .IsNot) (fun x y H Q => y = .cq /\ Q (.bl (!decide (x = .cq))) H) := by
 intro pins s σ H x y v u Q I rx ry h
 obtain ⟨rfl, q⟩ := h
 cases ry
 refine isnot_none_gen (aN I q ?_)
 cases x <;> first
  | (cases rx; rfl)
  | (obtain ⟨t, rfl⟩ := rx; rfl)
theorem sW : j0 X (compareOp .NotIn) (fun x y H Q => ∃ i j, x = .str i /\ y = .str j /\ Q (.bl (!(!(Builtin.Str.occurrences j i 0 j.length 1).isEmpty))) H) := by
 intro pins s σ H x y v u Q I rx ry h
 obtain ⟨i, j, rfl, rfl, q⟩ := h
 obtain ⟨t, rfl⟩ := rx
 obtain ⟨t', rfl⟩ := ry
 exact notIn_str (aN I q rfl)
theorem ax (b : Expr) {op : CmpOp} (h : op ≠ .In := by decide) (h2 : op ≠ .NotIn := by decide) : behindInMarks op b = false := by
 have e1 : (op == CmpOp.In) = false := by cases op <;> first | rfl | exact absurd rfl h
 have e2 : (op == CmpOp.NotIn) = false := by cases op <;> first | rfl | exact absurd rfl h2
 cases b <;> simp [behindInMarks, e1, e2]
theorem dt {op : CmpOp} {r : R2} (ho : j0 X (compareOp op) r) (ha : PE X a ta) (hb : PE X b tb) (hm : behindInMarks op b = false) : PE X (.Compare a [op] [b] pos) (HM r ta tb) := by
 intro pins s σ H Q I h
 exact wpAny_Compare1 (F8 ha hb I h fun v u s2 x y H2 I2 rx ry q => ho pins s2 σ H2 x y v u Q I2 rx ry q) hm
def zl (t : TE) : TT := fun σ H Q => t σ H fun x H' => ∃ k, x = .bl k /\ Q k H'
theorem ay {op : CmpOp} {r : R2} (ho : j0 X (compareOp op) r) (ha : PE X a ta) (hb : PE X b tb) (hm : behindInMarks op b = false) : PT X (.Compare a [op] [b] pos) (zl (HM r ta tb)) := by
 intro pins s σ H Q I h
 refine wpAny_isTrue_Compare1 (bO (ha pins s σ H _ I h) fun v s1 ⟨x, H1, I1, r1, q1⟩ => bO (hb pins s1 σ H1 _ I1 q1) fun u s2 ⟨y, H2, I2, r2, q2⟩ =>
  bO (ho pins s2 σ H2 x y v u _ I2 r1 r2 q2) fun c s3 ⟨z, H3, I3, r3, k, e, q3⟩ => ?_) hm
 subst e
 cases r3
 exact wpAny_truthy_bool ⟨H3, I3, q3⟩
def uT (r r' : R2) (ta tb tc : TE) : TE := fun σ H Q => ta σ H fun x H1 => tb σ H1 fun y H2 => r x y H2 fun z H3 => ∃ k, z = .bl k /\
 (if k = true then tc σ H3 fun w' H4 => r' y w' H4 Q else Q (.bl false) H3)
theorem uC {op Fx : CmpOp} {r r' : R2} (ho : j0 X (compareOp op) r) (oW : j0 X (compareOp Fx) r') (ha : PE X a ta) (hb : PE X b tb) (hc : PE X c tc)
 (hm : lastMarks [op, Fx] [b, c] = false := by with_unfolding_all rfl) : PE X (.Compare a [op, Fx] [b, c] pos) (uT r r' ta tb tc) := by
 intro pins s σ H Q I h
 refine Compare_chain (bO (ha pins s σ H _ I h) fun v s1 ⟨x, H1, I1, r1, q1⟩ => chain_link (bO (hb pins s1 σ H1 _ I1 q1) fun u s2 ⟨y, H2, I2, r2, q2⟩ =>
  bO (ho pins s2 σ H2 x y v u _ I2 r1 r2 q2) fun d s3 ⟨z, H3, I3, r3, k, e, q3⟩ => ?_)) hm
 subst e
 cases r3
 refine wpAny_truthy_bool ?_
 cases k with
 | false => exact ite_ff ⟨.bl false, H3, I3, rfl, q3⟩
 | true => exact ite_tt (chain_last (bO (hc pins s3 σ H3 _ I3 q3) fun w' s4 ⟨z', H4, I4, r4, q4⟩ => oW pins s4 σ H4 y z' u w' Q I4 r2 r4 q4))
theorem za {op Fx : CmpOp} {r r' : R2} (ho : j0 X (compareOp op) r) (oW : j0 X (compareOp Fx) r') (ha : PE X a ta) (hb : PE X b tb) (hc : PE X c tc)
 (hm : lastMarks [op, Fx] [b, c] = false := by with_unfolding_all rfl) : PT X (.Compare a [op, Fx] [b, c] pos) (zl (uT r r' ta tb tc)) := by
 intro pins s σ H Q I h
 refine isTrue_chain (bO (ha pins s σ H _ I h) fun v s1 ⟨x, H1, I1, r1, q1⟩ => test_link (bO (hb pins s1 σ H1 _ I1 q1) fun u s2 ⟨y, H2, I2, r2, q2⟩ =>
  bO (ho pins s2 σ H2 x y v u _ I2 r1 r2 q2) fun d s3 ⟨z, H3, I3, r3, k, e, q3⟩ => ?_)) hm
 subst e
 cases r3
 refine wpAny_truthy_bool ?_
 cases k with
 | false =>
   obtain ⟨k', e', q'⟩ := q3
   cases e'
   exact ite_ff ⟨H3, I3, q'⟩
 | true =>
   refine ite_tt (test_last (bO (hc pins s3 σ H3 _ I3 q3) fun w' s4 ⟨z', H4, I4, r4, q4⟩ => bO (oW pins s4 σ H4 y z' u w' _ I4 r2 r4 q4) fun d' s5 ⟨z2, H5, I5, r5, k2, e2, q5⟩ => ?_))
   subst e2
   cases r5
   exact wpAny_truthy_bool ⟨H5, I5, q5⟩
def xZ (K : PySem.W.Frag) (x : V) (H : Hp) (k : Bool) : Prop :=
 match x with
 | .cq => k = false
 | .bl b => k = b
 | .int i => k = (i != 0)
 | .str y => y.length <= sizeLine /\ k = ((y.length : Int) != 0)
 | .wR y => y.size <= sizeLine /\ k = ((y.size : Int) != 0)
 | .ref p => (∃ xs, gf K H p xs /\ k = !xs.isEmpty) \/ (∃ xs, yk K H p xs /\ k = !xs.isEmpty) \/ ∃ dN, H p = some (.dK dN) /\ k = !dN.isEmpty
 | _ => False
theorem v7 {κ : Type} {dN : List (κ × V)} {vs : List (κ × Value)} (r : KV dN vs) : (!vs.isEmpty) = !dN.isEmpty := by
 cases r <;> rfl
theorem qH {xs : List V} {aV : List Value} (r : Vals xs aV) : (!aV.toArray.isEmpty) = !xs.isEmpty := by
 cases r <;> simp
theorem lL : (sizeLine : Nat) < 2 ^ 63 := by rw [sizeLine_eq]; decide
theorem Fu : Kh X (fun x H Q => ∃ k, xZ X.K x H k /\ Q k H) := by
 intro pins s σ H x v Q I rx h
 obtain ⟨k, e, q⟩ := h
 have hl := lL
 have hs : sizeLine = 16777216 := sizeLine_eq
 cases x with
 | cq =>
   cases rx
   have e' : k = false := e
   subst e'
   exact truthy_none ⟨H, I, q⟩
 | bl b =>
   cases rx
   have e' : k = b := e
   subst e'
   exact wpAny_truthy_bool ⟨H, I, q⟩
 | int i =>
   obtain ⟨t, rfl⟩ := rx
   have e' : k = (i != 0) := e
   subst e'
   exact PySem.P.truthy_int ⟨H, I, q⟩
 | str y =>
   obtain ⟨t, rfl⟩ := rx
   obtain ⟨hy, e'⟩ : y.length <= sizeLine /\ k = ((y.length : Int) != 0) := e
   subst e'
   exact PySem.P.truthy_str (by omega) ⟨H, I.tok _, q⟩
 | wR y =>
   obtain ⟨t, rfl⟩ := rx
   obtain ⟨hy, e'⟩ : y.size <= sizeLine /\ k = ((y.size : Int) != 0) := e
   subst e'
   exact PySem.W.truthy_bytes (by omega) ⟨H, I.tok _, q⟩
 | ref p =>
   cases rx
   have e' : (∃ xs, gf X.K H p xs /\ k = !xs.isEmpty) \/ (∃ xs, yk X.K H p xs /\ k = !xs.isEmpty) \/ ∃ dN, H p = some (.dK dN) /\ k = !dN.isEmpty := e
   rcases e' with ⟨xs, hx, e'⟩ | ⟨xs, hx, e'⟩ | ⟨dN, hx, e'⟩
   . subst e'
     obtain ⟨aV, r, pl, hz⟩ := I.list hx
     have hlen := r.length
     exact wpAny_truthy_list pl.isList (by simp only [List.size_toArray]; omega) ⟨H, I.tok _, by rw [qH r]; exact q⟩
   . subst e'
     obtain ⟨aV, r, pl, hz⟩ := I.tuple hx
     have hlen := r.length
     exact truthy_tuple pl (by simp only [List.size_toArray]; omega) ⟨H, I.tok _, by rw [qH r]; exact q⟩
   . subst e'
     obtain ⟨hz, hS, vs, r, m⟩ : dN.length <= sizeLine /\ (p == sysModules) = false /\ ∃ vs, KV dN vs /\ s.heap.DictOf (ek X.prog X.w) p vs := I.bf p _ hx
     have hlen : dN.length = vs.length := Paired.length r
     exact wpAny_truthy_dict hS m (by omega) ⟨H, I.tok _, by rw [v7 r]; exact q⟩
 | _ => exact (show False from e).elim
theorem eH (ha : PE X a ta) (he : ∀ whole, isTrue a X.env whole = (do let v <- whole; standAt a.pos; holding [v] (truthy v))) :
 PT X a (fun σ H Q => ta σ H fun x H' => ∃ k, xZ X.K x H' k /\ Q k H') := by
 intro pins s σ H Q I h
 exact isTrue_plain (bO (ha pins s σ H _ I h) fun v s1 ⟨x, H1, I1, r1, q1⟩ => Fu pins s1 σ H1 x v Q I1 r1 q1) (he _)
theorem vals1 {x : V} {us : List Value} (r : Vals [x] us) : ∃ u, us = [u] /\ RelV x u := by
 cases r with
 | cons r1 r2 => cases r2; exact ⟨_, rfl, r1⟩
theorem vals2 {x y : V} {us : List Value} (r : Vals [x, y] us) : ∃ u w', us = [u, w'] /\ RelV x u /\ RelV y w' := by
 cases r with
 | cons r1 r2 =>
   cases r2 with
   | cons r3 r4 => cases r4; exact ⟨_, _, rfl, r1, r3⟩
theorem rW : fN X (.type "str") (fun xs H Q => ∃ i, xs = [.int i] /\ i.natAbs.log2 < 1920 /\ Q (.str (toString i)) H) := by
 intro pins s σ H xs us Q I r h
 obtain ⟨i, rfl, hz, q⟩ := h
 obtain ⟨u, rfl, t, rfl⟩ := vals1 r
 exact PySem.P.str_of_int hz ⟨.str _, H, I.tok _, ⟨_, rfl⟩, q⟩
end
structure vt (h : Heap) (x dx C : Addr) (mA : Str -> Option Value) : Prop where
 obj : h.get? x = some (PySem.W.instObj C dx)
 ns : h.Ns1 dx mA
 ne : dx ≠ x
theorem xC {h : Heap} {dx : Addr} {mA : Str -> Option Value} (n : h.Ns1 dx mA) : ∃ od, h.get? dx = some od /\ ∀ name, PySem.W.lookIn name od = some (mA name) := by
 obtain ⟨o, es, ep, ho, hd, hk, _, hm⟩ := n
 refine ⟨o, ho, fun name => ?_⟩
 have e := hm name
 unfold nsFind findBy at e
 rw [<- Array.find?_toList] at e
 unfold PySem.W.lookIn
 rw [hd]
 dsimp only
 split
 . rename_i y q
   rw [q] at e
   exact congrArg some e
 . rename_i q
   rw [q] at e
   have a : es.toList.any (·.refKey) = false := by
    rw [List.any_eq_false]
    intro y hy
    obtain ⟨z, t, LJ⟩ := hk y (Array.mem_toList_iff.mp hy)
    simp [DictEntry.refKey, LJ]
   have a' : ¬ es.toList.any (·.refKey) = true := by rw [a]; exact Bool.false_ne_true
   rw [if_neg a']
   exact congrArg some e
theorem vt.look {h : Heap} {x dx C : Addr} {mA : Str -> Option Value} (I : vt h x dx C mA) : ∃ od, PySem.W.InstAt h x (PySem.W.instObj C dx) C (some od) /\ ∀ name, PySem.W.lookIn name od = some (mA name) :=
 let ⟨od, ho, hl⟩ := xC I.ns
 ⟨od, ⟨I.obj, rfl, rfl, ho⟩, hl⟩
section
variable {prog : Program} {w : World} {A : Around} {E : Value -> Shared -> Prop} {s : Shared} {K : PySem.W.Frag} {x dx C f : Addr} {mA : Str -> Option Value} {name : Str} {v : Value}
theorem get_map {expr : Bool} {Q : Value -> Shared -> Prop} (X : K.In s.heap) (I : vt s.heap x dx C mA) (hg : PySem.W.plainGet K C name = true) (hh : PySem.W.hasDictIn K C = true)
 (ha : PySem.W.findIn K (.ref C) name = some none) (hv : mA name = some v) (NI : PySem.W.handedIn v = true) (h : Q v { s with toks := s.toks + 1 }) :
 wpAny (model prog w) A (getAttr (.ref x) name expr) Q E s := by
 obtain ⟨od, J, hl⟩ := I.look
 exact PySem.W.get_value X J (PySem.W.plainGet_of hg).1 (PySem.W.findObj_own hh ha rfl (by rw [hl, hv])) NI h
theorem zV {pl : Sem Bool} {Q : Value × List Value -> Shared -> Prop} (X : K.In s.heap) (I : vt s.heap x dx C mA) (hg : PySem.W.plainGet K C name = true)
 (hf : PySem.W.findIn K (.ref C) name = some (some (.ref f))) (ht : PySem.W.isFn K (.ref f) = true) (hv : mA name = none) (h : Q (.ref f, [.ref x]) s) :
 wpAny (model prog w) A (getMethod (.ref x) name pl) Q E s := by
 obtain ⟨od, J, hl⟩ := I.look
 exact PySem.W.method_fn X J (PySem.W.plainGet_of hg).1 (PySem.W.plainGet_of hg).2 hf (beq_iff_eq.mp ht) (by show (PySem.W.lookIn name od).map (·.isSome) = some false; rw [hl, hv]; rfl) h
theorem BJ {ns : List Str} {Q : Unit -> Shared -> Prop} (X : K.In s.heap) (I : vt s.heap x dx C mA)
 (hs : PySem.W.findIn K (.ref C) "__setattr__" = some (some (.builtin "object.__setattr__"))) (hp : PySem.W.plainOver K C = true) (ht : PySem.W.takerIn K C name = some none) (hh : PySem.W.hasDictIn K C = true)
 (hw : PySem.Within mA ns) (hsz : ns.length <= sizeLine)
 (h : ∀ h', vt h' x dx C (fun y => if y = name then some v else mA y) -> Heap.SameBut dx s.heap h' -> Q () { s with heap := h', toks := s.toks + 2 }) :
 wpAny (model prog w) A (setAttr (.ref x) name v) Q E s := by
 obtain ⟨od, J, hl⟩ := I.look
 refine PySem.W.set_plain X J hs (PySem.W.osa_open (s := { s with toks := s.toks + 1 }) (r := none) X J hp ht fun b => ?_)
 obtain ⟨cd, hc, uN⟩ := PySem.W.any_some hh
 have hx : s.heap.get? x = some ⟨.ref C, some dx, .plain, #[]⟩ := I.obj
 refine wpAny_bind (wpAny_pure (wpAny_bind (wpAny_bind (wpAny_loadPart hx (wpAny_bind (PySem.W.Looks.here (s := { s with toks := s.toks + 1 }) (PySem.W.looks_clsIn X hc) ?_))))))
 rw [uN]
 refine wpAny_pure (a := some dx) (wpAny_bind (wpAny_pure (wpAny_bind ?_)))
 refine wpAny_nsSet1 (s := { s with toks := s.toks + 1 }) I.ns fun h' GI JD => ?_
 obtain ⟨oD, Pr, Pn, OG, NM, Cm⟩ := GI.count (PySem.Within.cons name v hw)
 refine wpAny_bind (wpAny_lookBehind OG (by rw [NM]; exact pastItsLine_dict (Nat.le_trans Cm (by rw [List.length_cons]; omega))) ?_)
 exact wpAny_pure (h _ ⟨(JD.2 _ (Ne.symm I.ne)).trans I.obj, GI, I.ne⟩ JD)
theorem AI {R : Result -> Shared -> Prop} {vs : List Value} {kw : List (Str × Value)} (X : K.In s.heap) (hm : PySem.W.makesIn K C = true)
 (hi : PySem.W.findIn K (.ref C) "__init__" = some (some (.ref f))) (hf : PySem.W.typeIn K (.ref f) = some (.type "function"))
 (h : codeAny (model prog w) (A.under (.builtin "type.__call__" ⟨.ref C :: vs, kw⟩)) (.call (.ref f) ⟨.ref (s.heap.objs.size + 1) :: vs, kw⟩) (PySem.W.InitBack (s.heap.objs.size + 1) R)
  { s with heap := (s.heap.push PySem.W.emptyDict).push (PySem.W.instObj C s.heap.objs.size) }) :
 codeAny (model prog w) A (.call (.ref C) ⟨vs, kw⟩) R s := by
 obtain ⟨hh, g, d, t, os⟩ := s
 exact PySem.W.make_core (PySem.W.makes_of X hm) (PySem.W.looks_findIn X hi) (fun self => PySem.W.bind_fn X self hf) (.inl rfl) h
end
def gI (f : Str) (v : V) : List (Str × V) -> List (Str × V)
 | [] => [(f, v)]
 | (g, x) :: r => if g = f then (g, v) :: r else (g, x) :: gI f v r
theorem oS (f g : Str) (v : V) : ∀ fs : List (Str × V), (gI f v fs).lookup g = if g = f then some v else fs.lookup g
 | [] => by
   show List.lookup g [(f, v)] = _
   by_cases h : g = f
   . have hb : (g == f) = true := beq_iff_eq.mpr h
     simp only [List.lookup, hb, if_pos h]
   . have hb : (g == f) = false := beq_eq_false_iff_ne.mpr h
     simp only [List.lookup, hb, if_neg h]
 | (k, x) :: r => by
   have ih := oS f g v r
   rw [show gI f v ((k, x) :: r) = (if k = f then (k, v) :: r else (k, x) :: gI f v r) from rfl]
   by_cases hk : k = f
   . rw [if_pos hk]
     by_cases h : g = k
     . have hb : (g == k) = true := beq_iff_eq.mpr h
       simp only [List.lookup, hb, if_pos (h.trans hk)]
     . have hb : (g == k) = false := beq_eq_false_iff_ne.mpr h
       simp only [List.lookup, hb, if_neg (fun e : g = f => h (e.trans hk.symm))]
   . rw [if_neg hk]
     by_cases h : g = k
     . have hb : (g == k) = true := beq_iff_eq.mpr h
       simp only [List.lookup, hb, if_neg (fun e : g = f => hk (h.symm.trans e))]
     . have hb : (g == k) = false := beq_eq_false_iff_ne.mpr h
       simp only [List.lookup, hb]
       exact ih
theorem oj (f : Str) (v : V) : ∀ fs : List (Str × V), f ∈ (gI f v fs).map (·.1) /\ ∀ g, g ∈ fs.map (·.1) -> g ∈ (gI f v fs).map (·.1)
 | [] => ⟨by simp [gI], fun g h => by simp at h⟩
 | (k, x) :: r => by
   obtain ⟨i1, i2⟩ := oj f v r
   rw [show gI f v ((k, x) :: r) = (if k = f then (k, v) :: r else (k, x) :: gI f v r) from rfl]
   by_cases hk : k = f
   . rw [if_pos hk]
     subst hk
     exact ⟨by simp, fun g h => by simpa using h⟩
   . rw [if_neg hk]
     refine ⟨?_, fun g h => ?_⟩
     . rw [List.map_cons]
       exact List.mem_cons_of_mem _ i1
     . rw [List.map_cons] at h ⊢
       rcases List.mem_cons.mp h with e | e
       . exact List.mem_cons.mpr (.inl e)
       . exact List.mem_cons_of_mem _ (i2 g e)
theorem oV (f : Str) (v : V) : ∀ fs : List (Str × V), (gI f v fs).length <= fs.length + 1
 | [] => by simp [gI]
 | (k, x) :: r => by
   have ih := oV f v r
   rw [show gI f v ((k, x) :: r) = (if k = f then (k, v) :: r else (k, x) :: gI f v r) from rfl]
   by_cases hk : k = f
   . rw [if_pos hk, List.length_cons, List.length_cons]; omega
   . rw [if_neg hk, List.length_cons, List.length_cons]; omega
theorem lV.some_of {v : V} {o : Option Value} (r : lV (some v) o) : ∃ u, o = some u /\ RelV v u := by
 cases o with
 | none => exact (show False from r).elim
 | some u => exact ⟨u, rfl, r⟩
theorem lV.none_of {o : Option Value} (r : lV none o) : o = none := by
 cases o with
 | none => rfl
 | some u => exact (show False from r).elim
theorem yq {v : V} {u : Value} (r : RelV v u) : PySem.W.handedIn u = true := by
 cases v with
 | cq => cases (show u = Value.none from r); rfl
 | bl b => cases (show u = Value.bool b from r); rfl
 | int i => obtain ⟨t, e⟩ := (show ∃ t, u = Value.int i t from r); cases e; rfl
 | str x => obtain ⟨t, e⟩ := (show ∃ t, u = Value.str x t from r); cases e; rfl
 | wR b => obtain ⟨t, e⟩ := (show ∃ t, u = Value.bytes b t from r); cases e; rfl
 | FJ b => obtain ⟨t, e⟩ := (show ∃ t, u = Value.float b t from r); cases e; rfl
 | ref a => cases (show u = Value.ref a from r); rfl
 | ty n => cases (show u = Value.type n from r); rfl
section
variable {P : Program} {w : World} {H H' : Hp} {h h' : Heap} {a C dx : Addr} {fs JS : List (Str × V)}
theorem pC (bf : lR P w H h) (e : H a = some (.ins C dx fs)) : ∃ mA, vt h a dx C mA /\ (∀ f, lV (fs.lookup f) (mA f)) /\ PySem.Within mA (fs.map (·.1)) /\ fs.length <= 1000 /\ H dx = some (.own a) := by
 obtain ⟨d, z, ne, ob, mA, n, r, q⟩ := (show c6 P w H h a (.ins C dx fs) from bf a _ e)
 exact ⟨mA, ⟨ob, n, ne⟩, r, q, z, d⟩
end
structure pw (K : PySem.W.Frag) (C : Addr) : Prop where
 pg : PySem.W.plainGet K C Str.empty = true
 hd : PySem.W.hasDictIn K C = true
 po : PySem.W.plainOver K C = true
 sa : PySem.W.findIn K (.ref C) "__setattr__" = some (some (.builtin "object.__setattr__"))
theorem pw.get {K : PySem.W.Frag} {C : Addr} (c : pw K C) (f : Str) : PySem.W.plainGet K C f = true := c.pg
def aJ (K : PySem.W.Frag) (C : Addr) (f : Str) : Prop := PySem.W.findIn K (.ref C) f = some none
theorem aJ.Ic {K : PySem.W.Frag} {C : Addr} {f : Str} (n : aJ K C f) : PySem.W.takerIn K C f = some none := by
 unfold PySem.W.takerIn
 rw [show PySem.W.findIn K (.ref C) f = some none from n]
 rfl
structure OS (K : PySem.W.Frag) (C : Addr) (f : Str) (v : V) (u : Value) : Prop where
 at_ : PySem.W.findIn K (.ref C) f = some (some u)
 rel : RelV v u
 get : PySem.W.specialIn K u "__get__" = some none
 cp : PySem.W.copiedNames.contains f = false
structure Meth (K : PySem.W.Frag) (C : Addr) (m : Str) (f : Addr) : Prop where
 at_ : PySem.W.findIn K (.ref C) m = some (some (.ref f))
 fn : PySem.W.isFn K (.ref f) = true
 kp : PySem.W.keepIn K (.ref f) = true
section
variable {X : Cx} {pins : List (Addr × Obj)} {σ : St} {H : Hp} {s : Shared} {a C dx : Addr} {fs : List (Str × V)} {f : Str} {v : V} {A : Around} {E : Value -> Shared -> Prop}
theorem u9 {b : Bool} {Q : Value -> Shared -> Prop} (I : Inv X pins σ H s) (e : H a = some (.ins C dx fs)) (c : pw X.K C) (n : aJ X.K C f) (l : fs.lookup f = some v)
 (h : ∀ u s', Inv X pins σ H s' -> RelV v u -> Q u s') : wpAny (model X.prog X.w) A (getAttr (.ref a) f b) Q E s := by
 obtain ⟨mA, O, r, _, _, _⟩ := pC I.bf e
 obtain ⟨u, hu, ru⟩ := lV.some_of (v := v) (o := mA f) (by rw [<- l]; exact r f)
 exact get_map I.i7 O (c.get f) c.hd n hu (yq ru) (h u _ (I.tok _) ru)
theorem vQ {m : Str} {g : Addr} {pl : Sem Bool} {Q : Value × List Value -> Shared -> Prop} (I : Inv X pins σ H s) (e : H a = some (.ins C dx fs)) (c : pw X.K C) (k : Meth X.K C m g) (l : fs.lookup m = none)
 (h : Q (.ref g, [.ref a]) s) : wpAny (model X.prog X.w) A (getMethod (.ref a) m pl) Q E s := by
 obtain ⟨mA, O, r, _, _, _⟩ := pC I.bf e
 have hn : mA m = none := lV.none_of (by rw [<- l]; exact r m)
 exact zV I.i7 O (c.get m) k.at_ k.fn hn h
theorem vI {y : V} {u : Value} {Q : Unit -> Shared -> Prop} (I : Inv X pins σ H s) (e : H a = some (.ins C dx fs)) (c : pw X.K C) (n : aJ X.K C f) (hl : fs.length < 1000) (ry : RelV y u)
 (h : ∀ s', Inv X pins σ (upd H a (.ins C dx (gI f y fs))) s' -> Q () s') : wpAny (model X.prog X.w) A (setAttr (.ref a) f u) Q E s := by
 obtain ⟨mA, O, r, wi, _, ho⟩ := pC I.bf e
 have hz : (fs.map (·.1)).length <= sizeLine := by rw [List.length_map, sizeLine_eq]; omega
 refine BJ I.i7 O c.sa c.po n.Ic c.hd wi hz fun h' O' sb => h _ ?_
 have hd : ∃ o, h'.get? dx = some o := let ⟨o, _, _, e', _⟩ := O'.ns; ⟨o, e'⟩
 refine I.write (x := a) (e := dx) (by rw [e]; exact True.intro) (.inr ho) (fun b q hb z => (sb.2 b hb).trans z) hd ?_
 refine ⟨by rw [aK O.ne]; exact ho, ?_, O.ne, O'.obj, _, O'.ns, fun g => ?_, fun g hg => ?_⟩
 . have := oV f y fs; omega
 . show lV ((gI f y fs).lookup g) (if g = f then some u else mA g)
   rw [oS]
   by_cases q : g = f
   . rw [if_pos q, if_pos q]; exact ry
   . rw [if_neg q, if_neg q]; exact r g
 . by_cases q : g = f
   . rw [q]; exact (oj f y fs).1
   . refine (oj f y fs).2 g (wi g fun z => hg ?_)
     show (if g = f then some u else mA g) = none
     rw [if_neg q]; exact z
theorem Inv.made (I : Inv X pins σ H s) : Inv X pins σ (upd (upd H s.heap.objs.size (.own (s.heap.objs.size + 1))) (s.heap.objs.size + 1) (.ins C s.heap.objs.size []))
 { s with heap := (s.heap.push PySem.W.emptyDict).push (PySem.W.instObj C s.heap.objs.size) } := by
 have e1 : (s.heap.push PySem.W.emptyDict).get? s.heap.objs.size = some PySem.W.emptyDict := Heap.get?_push_size s.heap rfl
 have e2 : ((s.heap.push PySem.W.emptyDict).push (PySem.W.instObj C s.heap.objs.size)).get? (s.heap.objs.size + 1) = some (PySem.W.instObj C s.heap.objs.size) := by
  have := Heap.get?_push_size (s.heap.push PySem.W.emptyDict) (o := PySem.W.instObj C s.heap.objs.size) rfl
  rwa [Heap.size_push] at this
 have e3 : (s.heap.push PySem.W.emptyDict).Ns s.heap.objs.size (fun _ => none) := ⟨PySem.W.emptyDict, #[], _, e1, rfl, (fun e he => absurd he (by simp)), fun _ => rfl⟩
 have I1 := I.laid (a := s.heap.objs.size) (o := .own (s.heap.objs.size + 1)) (h' := s.heap.push PySem.W.emptyDict) (t' := s.toks) (fun b u q => Heap.get?_push_of_some _ q) (Nat.le_refl _) ⟨_, e1⟩
 refine I1.laid (a := s.heap.objs.size + 1) (o := .ins C s.heap.objs.size []) (t' := s.toks) (fun b u q => Heap.get?_push_of_some _ q) (Nat.le_of_eq (Heap.size_push _ _)) ?_
 have ne : s.heap.objs.size ≠ s.heap.objs.size + 1 := Nat.ne_of_lt (Nat.lt_succ_self _)
 refine ⟨by rw [aK ne, aO], Nat.zero_le _, ne, e2, fun _ => none, (Heap.Ns1.of_empty e3).at fun o q => Heap.get?_push_of_some _ q, fun _ => True.intro, fun y hy => absurd rfl hy⟩
theorem Ck {prog : Program} {w : World} {env : Env} {e : Expr} {f : Str} {pos : Pos} {s : Shared} {Q : Value -> Shared -> Prop} (hb : attributeBase e f env (eval e env) = eval e env)
 (h : wpAny (model prog w) A (eval e env) (fun o s₁ => wpAny (model prog w) A (getAttr o f true) Q E s₁) E s) : wpAny (model prog w) A (eval (.Attribute e f pos) env) Q E s :=
 Attribute_any_ h (by rw [arm_eval_Attribute, hb])
end
def Ha (K : PySem.W.Frag) (ta : TE) (f : Str) : TE := fun σ H Q => ta σ H fun x H1 => ∃ a C dx fs v, x = .ref a /\ H1 a = some (.ins C dx fs) /\ pw K C /\ aJ K C f /\ fs.lookup f = some v /\ Q v H1
def HE (K : PySem.W.Frag) (ta tv : TE) (f : Str) : TS := fun D σ H => tv σ H fun y H1 => ta σ H1 fun x H2 => ∃ a C dx fs, x = .ref a /\ H2 a = some (.ins C dx fs) /\ pw K C /\ aJ K C f /\ fs.length < 1000 /\
 D.nx σ (upd H2 a (.ins C dx (gI f y fs)))
section
variable {X : Cx} {o e value : Expr} {f : Str} {pos pos' Kc : Pos} {ta tv : TE}
theorem dE (he : PE X e ta) (hb : attributeBase e f X.env (eval e X.env) = eval e X.env) : PE X (.Attribute e f pos) (Ha X.K ta f) := by
 intro pins s σ H Q I h
 refine Ck hb (bO (he pins s σ H _ I h) fun u s1 ⟨x, H1, I1, rx, a, C, dx, fs, v, ex, ea, c, n, l, q⟩ => ?_)
 subst ex
 obtain rfl : u = Value.ref a := rx
 exact u9 I1 ea c n l fun u' s2 I2 ru => ⟨v, H1, I2, ru, q⟩
theorem gA (ha : PE X o ta) (hv : PE X value tv) (hs : swapsWith value (some (.Attribute o f pos')) pos.line X.env = pure false) : PS X (.Assign [.Attribute o f pos'] value pos) (HE X.K ta tv f) := by
 intro pins s σ H D I h
 refine plainObj_wpAny_Assign_Attribute (bO (hv pins s σ H _ I h) fun u s1 ⟨y, H1, I1, ry, q⟩ => bO (ha pins s1 σ H1 _ I1 q) fun ov s2 ⟨x, H2, I2, rx, a, C, dx, fs, ex, ea, c, n, l, q2⟩ => ?_) hs
 subst ex
 obtain rfl : ov = Value.ref a := rx
 exact vI I2 ea c n l ry fun s3 I3 => ⟨σ, _, I3, q2⟩
end
section
variable {X : Cx} {pins : List (Addr × Obj)} {σ : St} {H : Hp} {s : Shared} {A : Around} {E : Value -> Shared -> Prop} {Q : Value -> Shared -> Prop} {c : Value} {b : Bool}
inductive m7 (K : PySem.W.Frag) (H : Hp) : V -> Value -> Prop where
 | cq : m7 K H .cq (.type "NoneType")
 | bl (x : Bool) : m7 K H (.bl x) (.type "bool")
 | int (i : Int) : m7 K H (.int i) (.type "int")
 | str (x : Str) : m7 K H (.str x) (.type "str")
 | FJ (x : UInt64) : m7 K H (.FJ x) (.type "float")
 | lst {a : Addr} {xs : List V} (e : H a = some (.lst xs)) : m7 K H (.ref a) (.type "list")
 | uL {a : Addr} {o : Obj} {xs : List V} (e : H a = some (.uL o (.lst xs))) : m7 K H (.ref a) (.type "list")
 | tup {a : Addr} {xs : List V} (e : H a = some (.tup xs)) : m7 K H (.ref a) (.type "tuple")
 | dK {a : Addr} {dN : List (Key × V)} (e : H a = some (.dK dN)) : m7 K H (.ref a) (.type "dict")
 | dT {a : Addr} {dN : List (List Key × V)} (e : H a = some (.dT dN)) : m7 K H (.ref a) (.type "dict")
 | ins {a C dx : Addr} {fs : List (Str × V)} (e : H a = some (.ins C dx fs)) (cl : pw K C) (ha : PySem.W.findIn K (.ref C) "__class__" = some (some (.builtin "object.__class__")))
  (hn : PySem.W.specialIn K (.builtin "object.__class__") "__get__" = some (some (.builtin "getset_descriptor.__get__"))) (DE : PySem.W.takesIn K (.builtin "object.__class__") = some true)
  (hm : PySem.W.mroIn K C (.type "object") = some true) : m7 K H (.ref a) (.ref C)
theorem x3 {x : V} {u t : Value} (I : Inv X pins σ H s) (rx : RelV x u) (ty : m7 X.K H x t) (e : PySem.W.kitOne X.K t c = some b) (h : ∀ tk, Q (.bool b) { s with toks := tk }) :
 wpAny (model X.prog X.w) A (call (.builtin "isinstance") [u, c]) Q E s := by
 cases ty with
 | cq => cases (show u = Value.none from rx); exact PySem.W.kia_one PySem.W.kitx_none I.i7 True.intro e (fun z => nomatch z) h
 | bl y => cases (show u = Value.bool y from rx); exact PySem.W.kia_one PySem.W.kitx_bool I.i7 True.intro e (fun z => nomatch z) h
 | int i => obtain ⟨t, q⟩ := (show ∃ t, u = Value.int i t from rx); cases q; exact PySem.W.kia_one PySem.W.kitx_int I.i7 True.intro e (fun z => nomatch z) h
 | str y => obtain ⟨t, q⟩ := (show ∃ t, u = Value.str y t from rx); cases q; exact PySem.W.kia_one PySem.W.kitx_str I.i7 True.intro e (fun z => nomatch z) h
 | FJ y => obtain ⟨t, q⟩ := (show ∃ t, u = Value.float y t from rx); cases q; exact PySem.W.kia_one PySem.W.kitx_float I.i7 True.intro e (fun z => nomatch z) h
 | @lst a xs ea =>
   cases (show u = Value.ref a from rx)
   obtain ⟨_, _, n, _, h1⟩ := (show c6 X.prog X.w H s.heap a (.lst xs) from I.bf a _ ea)
   exact PySem.W.kia_one PySem.W.kitx_list I.i7 ⟨_, h1, rfl⟩ e (fun z => nomatch z) h
 | @uL a ob xs ea =>
   cases (show u = Value.ref a from rx)
   obtain ⟨_, _, _, n, _, h1⟩ := (show c6 X.prog X.w H s.heap a (.uL ob (.lst xs)) from I.bf a _ ea)
   exact PySem.W.kia_one PySem.W.kitx_list I.i7 ⟨_, h1, rfl⟩ e (fun z => nomatch z) h
 | @tup a xs ea =>
   cases (show u = Value.ref a from rx)
   obtain ⟨_, _, _, p⟩ := (show c6 X.prog X.w H s.heap a (.tup xs) from I.bf a _ ea)
   obtain ⟨o, h1, h2, _⟩ := p
   exact PySem.W.kia_one PySem.W.kitx_tuple I.i7 ⟨o, h1, h2⟩ e (fun z => nomatch z) h
 | @dK a dN ea =>
   cases (show u = Value.ref a from rx)
   obtain ⟨_, _, vs, _, p⟩ := (show c6 X.prog X.w H s.heap a (.dK dN) from I.bf a _ ea)
   obtain ⟨o, es, ep, h1, h2, _⟩ := p
   exact PySem.W.kia_one PySem.W.kitx_dict I.i7 ⟨o, h1, h2.1⟩ e (fun z => nomatch z) h
 | @dT a dN ea =>
   cases (show u = Value.ref a from rx)
   obtain ⟨_, _, xs, _, o, es, ep, h1, h2, _⟩ := (show c6 X.prog X.w H s.heap a (.dT dN) from I.bf a _ ea)
   exact PySem.W.kia_one PySem.W.kitx_dict I.i7 ⟨o, h1, h2.1⟩ e (fun z => nomatch z) h
 | @ins a C dx fs ea cl ha hn DE hm =>
   cases (show u = Value.ref a from rx)
   obtain ⟨mA, O, _⟩ := pC I.bf ea
   obtain ⟨od, J, _⟩ := O.look
   exact PySem.W.kia_one (PySem.W.kitx_own (cl.get _) cl.hd ha hn DE hm) I.i7 J e (fun z => nomatch z) h
end
structure c5 (k : Nat) (A : Around) : Prop where
 hd : A.handled = none
 dp : A.depth + 3 * k + 5 < recursionLimit
 un : A.units + 16 * k + 200 < cLine
theorem c5.mono {j k : Nat} {A : Around} (r : c5 k A) (h : j <= k) : c5 j A := ⟨r.hd, by have := r.dp; omega, by have := r.un; omega⟩
theorem c5.deeper {k : Nat} {A : Around} (r : c5 (k + 1) A) (env : Env) : c5 k (A.deeper env) :=
 ⟨r.hd, by have := r.dp; show A.depth + 1 + 3 * k + 5 < _; omega, by have := r.un; show A.units + 3 + 16 * k + 200 < _; omega⟩
theorem uW {A : Around} {C : Addr} {us : List Value} {kw : List (Str × Value)} : (A.under (.builtin "type.__call__" ⟨.ref C :: us, kw⟩)).depth = A.depth + 1 := by
 first | rfl | simp [Around.under, Code.weight, Code.isCreation, Code.isGuard, Code.isCaller, Code.frames, Code.isFrame, guardIds]
theorem vb {A : Around} {C : Addr} {us : List Value} {kw : List (Str × Value)} : (A.under (.builtin "type.__call__" ⟨.ref C :: us, kw⟩)).units = A.units + 1 := by
 first | rfl | simp [Around.under, Code.cUnits, Code.frames, Code.isFrame]
theorem c5.make {k : Nat} {A : Around} (r : c5 (k + 1) A) (C : Addr) (us : List Value) (kw : List (Str × Value)) : c5 k (A.under (.builtin "type.__call__" ⟨.ref C :: us, kw⟩)) :=
 ⟨r.hd, by have := r.dp; rw [uW]; omega, by have := r.un; rw [vb]; omega⟩
theorem c5.depth {k : Nat} {A : Around} (r : c5 k A) : A.depth < recursionLimit := by have := r.dp; omega
theorem c5.units {k : Nat} {A : Around} (r : c5 k A) : A.units + 64 < cLine := by have := r.un; omega
def yW : TA := fun _ H Q => Q [] H
def Dq (ta : TE) (tr : TA) : TA := fun σ H Q => ta σ H fun x H1 => tr σ H1 fun xs H2 => Q (x :: xs) H2
section
variable {X : Cx} {e : Expr} {es : List Expr} {te : TE} {t : TA} {pos : Pos}
theorem ag : PA X [] yW := fun _ _ _ _ H Q I h => Calls.spliced_nil ⟨[], H, I, .nil, h⟩
theorem af (ha : PE X e te) (hr : PA X es t) (hs : starEach (e :: es) X.env = (false, eval e X.env) :: starEach es X.env := by rfl) : PA X (e :: es) (Dq te t) := by
 intro pos pins s σ H Q I h
 rw [hs]
 show wpAny _ _ (spliced ((false, eval e X.env) :: backTo pos (starEach es X.env))) _ _ s
 refine Calls.spliced_cons (bO (ha pins s σ H _ I h) fun u s1 ⟨x, H1, I1, r1, q1⟩ => ?_)
 exact bO (hr pos pins s1 σ H1 _ I1 q1) fun us s2 ⟨xs, H2, I2, r2, q2⟩ => ⟨x :: xs, H2, I2, .cons r1 r2, q2⟩
def J9 (t : TA) : TE := fun σ H Q => t σ H fun xs H1 => xs.length <= sizeLine /\ ∀ p, H1 p = none -> Q (.ref p) (upd H1 p (.tup xs))
def Le (t : TA) : TE := fun σ H Q => t σ H fun xs H1 => xs.length <= sizeLine /\ ∀ p, H1 p = none -> Q (.ref p) (upd H1 p (.lst xs))
theorem EV {x1} (h : PA X es t) : PE X (.Tuple es x1 pos) (J9 t) := by
 intro pins s σ H Q I hq
 refine wpAny_Tuple_spliced (bO (h pos pins s σ H _ I hq) fun us s1 ⟨xs, H1, I1, r, z, q⟩ => ⟨by rw [<- r.length]; exact z, ?_⟩)
 have hf : H1 s1.heap.objs.size = none := I1.bf.fresh (Nat.le_refl _)
 refine ⟨.ref s1.heap.objs.size, upd H1 s1.heap.objs.size (.tup xs), I1.laid (t' := s1.toks) (fun b u e => Heap.get?_push_of_some _ e) (Nat.le_refl _) ?_, rfl, q _ hf⟩
 exact ⟨z, us, r, ⟨_, Heap.get?_push_size _ rfl, rfl, _, rfl⟩⟩
theorem FN (h : PA X es t) : PE X (.List es pos) (Le t) := by
 intro pins s σ H Q I hq
 refine wpAny_List_spliced (bO (h pos pins s σ H _ I hq) fun us s1 ⟨xs, H1, I1, r, z, q⟩ => ⟨by rw [<- r.length]; exact z, ?_⟩)
 have hf : H1 s1.heap.objs.size = none := I1.bf.fresh (Nat.le_refl _)
 refine ⟨.ref s1.heap.objs.size, upd H1 s1.heap.objs.size (.lst xs), I1.laid (t' := s1.toks) (fun b u e => Heap.get?_push_of_some _ e) (Nat.le_refl _) ?_, rfl, q _ hf⟩
 exact ⟨z, us, 0, r, Heap.get?_push_size _ rfl⟩
end
abbrev Sp := List V -> Hp -> VK -> XK -> Prop
abbrev qt := List Env -> Hp -> Shared -> XK -> Value -> Shared -> Prop
structure vh (P : Program) (w : World) (K : PySem.W.Frag) (mg : Str -> Option Value) (base : Heap) (A : Around) (outer : List Env) (s : Shared) (H : Hp) : Prop where
 frames : A.frames = some outer
 mod : Mod K mg base
 bs : ∀ b o, base.get? b = some o -> s.heap.get? b = some o /\ H b = none
 wN : base.objs.size <= s.heap.objs.size
 j2 : s.heap.FunFrames base outer
 yN : ∀ b ∈ j5 outer, H b = none
 bf : lR P w H s.heap
 bare : AllBare s.gens
def CE (outer : List Env) (P : Program) (w : World) (H : Hp) (s : Shared) (Q : VK) (u : Value) (s' : Shared) : Prop :=
 ∃ v H', s'.os = s.os /\ AllBare s'.gens /\ Un (j5 outer) [] H H' s.heap s'.heap /\ lR P w H' s'.heap /\ RelV v u /\ Q v H'
def CR (CX : qt) (outer : List Env) (P : Program) (w : World) (H : Hp) (s : Shared) (Q : VK) (E : XK) (r : Result) (s' : Shared) : Prop :=
 match r with
 | .ok (.ret u) => CE outer P w H s Q u s'
 | .ok _ => False
 | .error e => CX outer H s E e s'
structure bh (P : Program) (w : World) (K : PySem.W.Frag) (mg : Str -> Option Value) (base : Heap) (CX : qt) (k : Nat) (f : Addr) (fd : FuncData) (ps : List Str) (sp : Sp) : Prop where
 len : ∀ vs H Q E, sp vs H Q E -> vs.length = ps.length
 run : ∀ (A : Around) (outer : List Env) (s : Shared) (H : Hp) (args : Args) (us : List Value) (vs : List V) (Q : VK) (E : XK), c5 k A -> vh P w K mg base A outer s H -> BindsTo s fd args (ps.zip us) -> Vals vs us -> sp vs H Q E ->
  codeAny (model P w) A (.call (.ref f) args) (CR CX outer P w H s Q E) s
theorem bh.mono {P : Program} {w : World} {K : PySem.W.Frag} {mg : Str -> Option Value} {base : Heap} {CX : qt} {j k : Nat} {f : Addr} {fd : FuncData} {ps : List Str} {sp : Sp} (F : bh P w K mg base CX j f fd ps sp) (h : j <= k) :
 bh P w K mg base CX k f fd ps sp := ⟨F.len, fun A outer s H args us vs Q E hr => F.run A outer s H args us vs Q E (hr.mono h)⟩
theorem vh.make {P : Program} {w : World} {K : PySem.W.Frag} {mg : Str -> Option Value} {base : Heap} {A : Around} {outer : List Env} {s : Shared} {H : Hp} (e : vh P w K mg base A outer s H) (C : Addr) (us : List Value) (kw : List (Str × Value)) :
 vh P w K mg base (A.under (.builtin "type.__call__" ⟨.ref C :: us, kw⟩)) outer s H := ⟨by first | exact e.frames | (simpa [Around.under, Code.envs, Code.isFrame, pushEnvs] using e.frames), e.mod, e.bs, e.wN, e.j2, e.yN, e.bf, e.bare⟩
section
variable {X : Cx} {pins : List (Addr × Obj)} {σ : St} {H : Hp} {s s' : Shared}
theorem Inv.FH (I : Inv X pins σ H s) : vh X.prog X.w X.K X.mg X.base X.A X.stack s H :=
 ⟨I.ok.frames, I.ok.mod, I.bs, Nat.le_trans I.ok.wN I.sz, I.stack, I.lX, I.bf, I.bare⟩
theorem Inv.after {Q : VK} {u : Value} (I : Inv X pins σ H s) (h : CE X.stack X.prog X.w H s Q u s') : EP X pins σ Q u s' := by
 obtain ⟨v, H', os, bare, un, bf, r, q⟩ := h
 obtain ⟨hh, g, d, t, Nc⟩ := s'
 obtain rfl : Nc = s.os := os
 exact ⟨v, H', I.call (h' := hh) (g' := g) (d' := d) (t' := t) (ch := []) un bf bare (fun b z => absurd z (by simp)), r, q⟩
end
def xh (sp : Sp) (cU : List V) (E : XK) (t : TA) : TE := fun σ H Q => t σ H fun vs H1 => sp (vs ++ cU) H1 Q E
def wW (C : Addr) (m : Str) (sp : Sp) (cU : List V) (E : XK) (ta : TE) (t : TA) : TE := fun σ H Q => ta σ H fun x H1 => ∃ a dx fs, x = .ref a /\ H1 a = some (.ins C dx fs) /\ fs.lookup m = none /\
 t σ H1 fun vs H2 => sp (x :: (vs ++ cU)) H2 Q E
def Binds (K : PySem.W.Frag) (fd : FuncData) (ps : List Str) (ds : List Value) : Prop :=
 ∀ (s : Shared) (us : List Value), K.In s.heap -> (us ++ ds).length = ps.length -> BindsTo s fd ⟨us, []⟩ (ps.zip (us ++ ds))
theorem Binds.all {K : PySem.W.Frag} {fd : FuncData} {ps : List Str} (h : ∀ us : List Value, us.length = ps.length -> bindArgs fd ⟨us, []⟩ = pure (ps.zip us)) : Binds K fd ps [] := fun s us _ hl => by
 rw [List.append_nil] at hl ⊢
 exact .of_eq (h us hl)
def Passes (CX : qt) (X : Cx) (E : XK) : Prop := ∀ (pins : List (Addr × Obj)) (σ : St) (H : Hp) (s : Shared) (e : Value) (s' : Shared), Inv X pins σ H s -> CX X.stack H s E e s' -> X.xe e s'
section
variable {X : Cx} {CX : qt} {k : Nat} {f C : Addr} {fd : FuncData} {ps : List Str} {sp : Sp} {cU : List V} {ds : List Value} {E : XK} {x m : Str} {p pos apos : Pos} {e o : Expr} {es : List Expr} {ta : TE} {t : TA}
theorem yV {pins : List (Addr × Obj)} {σ : St} {H : Hp} {s : Shared} {Q : VK} {us : List Value} {vs : List V} (F : bh X.prog X.w X.K X.mg X.base CX k f fd ps sp) (hr : c5 k X.A) (hb : Binds X.K fd ps ds) (hd : Vals cU ds) (hx : Passes CX X E)
 (I : Inv X pins σ H s) (r : Vals vs us) (h : sp (vs ++ cU) H Q E) : wpAny (model X.prog X.w) X.A (call (.ref f) us) (EP X pins σ Q) X.xe s := by
 have r2 : Vals (vs ++ cU) (us ++ ds) := r.append hd
 have hl : (us ++ ds).length = ps.length := by rw [<- r2.length]; exact F.len _ _ _ _ h
 refine wpAny_call (codeAny_mono (F.run X.A X.stack s H ⟨us, []⟩ (us ++ ds) (vs ++ cU) Q E hr I.FH (hb s us I.i7 hl) r2 h) fun r s' hq => ?_)
 cases r with
 | error e => exact hx pins σ H s e s' I hq
 | ok fl =>
   cases fl with
   | ret u => exact I.after hq
   | next => exact False.elim hq
   | brk => exact False.elim hq
   | cont => exact False.elim hq
theorem BV (F : bh X.prog X.w X.K X.mg X.base CX k f fd ps sp) (hr : c5 k X.A) (hg : Gl X x) (hm : X.mg x = some (.ref f)) (hk : PySem.W.keepIn X.K (.ref f) = true) (hb : Binds X.K fd ps ds) (hd : Vals cU ds) (hx : Passes CX X E)
 (ha : PA X (e :: es) t) (ph : (x == ("__debug__" : Str)) = false := by decide) (he : starEach (e :: es) X.env = (false, eval e X.env) :: starEach es X.env := by rfl) (k8 : (backTo pos (starEach es X.env)).any (·.1) = false := by rfl) :
 PE X (.Call (.Name x p) (e :: es) [] pos) (xh sp cU E t) := by
 intro pins s σ H Q I h
 refine wpAny_Call_Name_kw (eu I hg hm ?_ ph)
 refine PySem.W.callWith_K (h₀ := X.base) I.ok.mod.A3 hk (bO (ha pos pins s σ H _ I h) fun us s1 ⟨vs, H1, I1, r, q⟩ => ⟨I1.i7, ?_⟩) he k8
 exact yV F hr hb hd hx I1 r q
theorem zO {pl : Sem Bool} (he : PE X o ta) (c : pw X.K C) (hm : Meth X.K C m f) (F : bh X.prog X.w X.K X.mg X.base CX k f fd ps sp) (hr : c5 k X.A) (hb : Binds X.K fd ps ds) (hd : Vals cU ds) (hx : Passes CX X E)
 (ht : eval (.Call (.Attribute o m apos) [] [] pos) X.env = (do
  let ov <- eval o X.env
  standAt apos.atName
  let (f, first) <- holding [ov] (getMethod ov m pl)
  callWith pos f first (backTo pos (starEach [] X.env)) (backToKw pos (keywordEach [] X.env))) := by rfl) :
 PE X (.Call (.Attribute o m apos) [] [] pos) (wW C m sp cU E ta yW) := by
 intro pins s σ H Q I h
 refine PySem.W.methodCall_KW (pl := pl) (bO (he pins s σ H _ I h) fun u s1 ⟨x, H1, I1, rx, a, dx, fs, ex, ea, l, q⟩ => ?_) ht
 subst ex
 obtain rfl : u = Value.ref a := rx
 refine vQ I1 ea c hm l ?_
 exact PySem.W.callWith_K0 (first := [.ref a]) I1.i7 hm.kp (yV (us := [.ref a]) (vs := [.ref a]) F hr hb hd hx I1 (.cons rfl .nil) q)
structure Mk (K : PySem.W.Frag) (C f : Addr) : Prop where
 makes : PySem.W.makesIn K C = true
 init : PySem.W.findIn K (.ref C) "__init__" = some (some (.ref f))
 fn : PySem.W.isFn K (.ref f) = true
 kp : PySem.W.keepIn K (.ref C) = true
end
section
variable {X : Cx} {CX : qt} {k : Nat} {f C : Addr} {fd : FuncData} {ps ks : List Str} {sp : Sp} {E : XK} {x m : Str} {p pos apos Lb : Pos} {e o : Expr} {es : List Expr} {O9 : List Keyword} {te ta : TE} {t tk : TA} {nm : Option Str}
structure Ku (K : PySem.W.Frag) (fd : FuncData) (ps ks : List Str) (g : List Value -> List Value -> List Value) (gV : List V -> List V -> List V) : Prop where
 to : ∀ (s : Shared) (us ws : List Value), K.In s.heap -> (g us ws).length = ps.length -> BindsTo s fd ⟨us, ks.zip ws⟩ (ps.zip (g us ws))
 rel : ∀ {vs : List V} {us : List Value} {zs : List V} {ws : List Value}, Vals vs us -> Vals zs ws -> Vals (gV vs zs) (g us ws)
variable {g : List Value -> List Value -> List Value} {gV : List V -> List V -> List V}
end
structure aH (N P : List Str) (sc : Scope) : Prop where
 kind : sc.kind = .function
 co : sc.isCoroutine = false
 gen : sc.isGenerator = false
 nd : N.Nodup
 pre : N.take P.length = P
 par : ∀ x ∈ P, sc.names.lookup x = some .local \/ sc.names.lookup x = some .cell
 FT : ∀ y ∈ sc.names, y.2 ≠ .free
theorem rl {kindOf : Str -> Option NameKind} {x : Str} : ∀ {binds : List (Str × Value)} {m : Str -> Option Value}, (∀ v, (x, v) ∉ binds) -> bindL kindOf binds m x = m x
 | [], _, _ => rfl
 | (n, v) :: r, m, h => by
   unfold bindL
   rw [rl fun w hw => h w (List.mem_cons_of_mem _ hw)]
   split
   . have : x ≠ n := by rintro rfl; exact h v List.mem_cons_self
     simp [this]
   . rfl
theorem rM {kindOf : Str -> Option NameKind} {x : Str} : ∀ {binds : List (Str × Value)} {m : Str -> Option Value}, (∀ v, (x, v) ∉ binds) -> bindC kindOf binds m x = m x
 | [], _, _ => rfl
 | (n, v) :: r, m, h => by
   unfold bindC
   rw [rM fun w hw => h w (List.mem_cons_of_mem _ hw)]
   split
   . rfl
   . have : x ≠ n := by rintro rfl; exact h v List.mem_cons_self
     simp [this]
theorem rH {kindOf : Str -> Option NameKind} {x : Str} {v : Value} : ∀ {P : List Str} {vs : List Value} {i : Nat} {m : Str -> Option Value}, P.Nodup -> P[i]? = some x -> vs[i]? = some v -> kindOf x = some .local ->
 bindL kindOf (P.zip vs) m x = some v
 | [], _, _, _, _, h, _, _ => by simp at h
 | _ :: _, [], _, _, _, _, h, _ => by simp at h
 | p :: P, w :: vs, 0, m, nd, h1, h2, hk => by
   simp at h1 h2; subst h1; subst h2
   show bindL kindOf ((p, w) :: P.zip vs) m p = _
   unfold bindL
   rw [rl fun v hv => (List.nodup_cons.mp nd).1 (List.of_mem_zip hv).1, if_pos hk]
   simp
 | p :: P, w :: vs, i + 1, m, nd, h1, h2, hk => by
   show bindL kindOf ((p, w) :: P.zip vs) m x = _
   unfold bindL
   exact rH (i := i) (List.nodup_cons.mp nd).2 (by simpa using h1) (by simpa using h2) hk
theorem rP {kindOf : Str -> Option NameKind} {x : Str} {v : Value} : ∀ {P : List Str} {vs : List Value} {i : Nat} {m : Str -> Option Value}, P.Nodup -> P[i]? = some x -> vs[i]? = some v -> kindOf x ≠ some .local ->
 bindC kindOf (P.zip vs) m x = some v
 | [], _, _, _, _, h, _, _ => by simp at h
 | _ :: _, [], _, _, _, _, h, _ => by simp at h
 | p :: P, w :: vs, 0, m, nd, h1, h2, hk => by
   simp at h1 h2; subst h1; subst h2
   show bindC kindOf ((p, w) :: P.zip vs) m p = _
   unfold bindC
   rw [rM fun v hv => (List.nodup_cons.mp nd).1 (List.of_mem_zip hv).1, if_neg hk]
   simp
 | p :: P, w :: vs, i + 1, m, nd, h1, h2, hk => by
   show bindC kindOf ((p, w) :: P.zip vs) m x = _
   unfold bindC
   exact rP (i := i) (List.nodup_cons.mp nd).2 (by simpa using h1) (by simpa using h2) hk
def start (N : List Str) (vs : List V) : St := vs.map some ++ List.replicate (N.length - vs.length) none
def gC (CX : qt) (P : Program) (w : World) (K : PySem.W.Frag) (mg : Str -> Option Value) (base : Heap) (N : List Str) (qual : Str) (scope : Scope) (f : Addr) (cd : Value) (A : Around) (outer : List Env) (s : Shared) (H : Hp) (E : XK) : Cx where
 prog := P
 w := w
 K := K
 mg := mg
 base := base
 A := A.deeper (envOfC qual scope s.heap.objs.size f cd)
 N := N
 cH := s
 zL := H
 env := envOfC qual scope s.heap.objs.size f cd
 outer := outer
 stack := envOfC qual scope s.heap.objs.size f cd :: outer
 ex := []
 calm := true
 fn := fun _ => true
 pn := []
 xe := fun e s' => wpAny (model P w) (A.deeper (envOfC qual scope s.heap.objs.size f cd)) (leaving (envOfC qual scope s.heap.objs.size f cd) e) (fun _ KC => CX outer H s E e KC) (fun e' KC => CX outer H s E e' KC) s'
theorem uk {sc : Scope} {n : Nat} {x : Str} (h : sc.names.lookup x = some .cell) : ∃ c, (cellsFrom n sc.names []).lookup x = some c := by
 have q := PySem.W.cellsFrom_some sc.names n [] (.inl h)
 exact Option.isSome_iff_exists.mp q
theorem xM {CX : qt} {P : Program} {w : World} {K : PySem.W.Frag} {mg : Str -> Option Value} {base : Heap} {N ps : List Str} {qual : Str} {scope : Scope} {f : Addr} {cd : Value} {A : Around} {outer : List Env} {s s1 : Shared} {H : Hp} {E : XK} {us : List Value} {vs : List V}
 (S : aH N ps scope) (hd : A.handled = none) (e0 : vh P w K mg base A outer s H) (hl : vs.length = ps.length) (r : Vals vs us)
 (x : InCallC s s.heap.objs.size (bindL (envOfC qual scope s.heap.objs.size f cd).kindOf (ps.zip us) fun _ => none) (cellsFrom (s.heap.objs.size + 1) scope.names []) (bindC (envOfC qual scope s.heap.objs.size f cd).kindOf (ps.zip us) fun _ => none) s1) :
 Inv (gC CX P w K mg base N qual scope f cd A outer s H E) [] (start N vs) H s1 := by
 have k8 : ps.length <= N.length := by have := congrArg List.length S.pre; rw [List.length_take] at this; omega
 obtain ⟨h1, tk, rfl, hk⟩ := x.done
 have H9 : ∀ b : Addr, b ∉ (gC CX P w K mg base N qual scope f cd A outer s H E).ex := fun b z => absurd (show b ∈ ([] : List Addr) from z) (by simp)
 refine ⟨⟨e0.mod, S.kind, rfl, rfl, Nat.le_refl _, fun y z c h1 h2 => ?_, fun y hy => ?_, fun y c _ h => ?_, fun _ => hd, Around.frames_deeper e0.frames, .inr ⟨rfl, rfl⟩, fun b z => absurd z (H9 b), e0.bs, e0.wN, fun b _ _ => H9 b, fun b z => absurd z (H9 b), e0.j2, e0.yN⟩,
  rfl, e0.bare, Un.kept hk, ⟨_, x.toInCall.ns, fun i y v h1 h2 h3 => ?_⟩, fun y c h => ⟨_, x.cell y c h⟩, e0.bf.fresh (Nat.le_refl _), fun y c h => ?_, fun p hp => absurd (show p ∈ ([] : List (Addr × Obj)) from hp) (by simp), e0.bf.kept hk, ?_⟩
 . exact name_of_addr x.apart (PySem.mem_of_lookup h1) (PySem.mem_of_lookup h2)
 . have hy : scope.names.lookup y = some .cell \/ scope.names.lookup y = some .free := hy
   rcases hy with hy | hy
   . exact uk hy
   . exact absurd rfl (S.FT _ (PySem.mem_of_lookup hy))
 . exact Nat.le_of_lt (x.above y c (PySem.mem_of_lookup h))
 . have hi : i < vs.length := by
    unfold start at h2
    by_cases hi : i < vs.length
    . exact hi
    . rw [List.getElem?_append_right (by simpa using hi)] at h2
      rw [List.getElem?_replicate] at h2
      split at h2 <;> cases h2
   have ha : vs[i]? = some v := by
    unfold start at h2
    rw [List.getElem?_append_left (by simpa using hi), List.getElem?_map] at h2
    cases e : vs[i]? with
    | none => rw [e] at h2; cases h2
    | some a => rw [e] at h2; cases h2; rfl
   obtain ⟨u, hu, rv⟩ := r.get ha
   have hp : ps[i]? = some y := by
    rw [<- S.pre, List.getElem?_take_of_lt (by omega)]; exact h1
   have Mi : ps.Nodup := by rw [<- S.pre]; exact S.nd.sublist (List.take_sublist _ _)
   refine ⟨u, rv, ?_⟩
   rcases S.par y (List.mem_of_getElem? hp) with k | k
   . exact .inl ⟨k, rH Mi hp hu k⟩
   . obtain ⟨c, e⟩ := uk (n := s.heap.objs.size + 1) k
     refine .inr ⟨.inl k, c, e, ?_⟩
     have q := x.cell y c e
     rw [rP Mi hp hu (by show scope.names.lookup y ≠ _; rw [k]; decide)] at q
     exact q
 . exact e0.bf.fresh (Nat.le_of_lt (x.above y c (PySem.mem_of_lookup h)))
 . unfold start
   show _ = N.length
   rw [List.length_append, List.length_map, List.length_replicate]
   omega
theorem yT {CX : qt} {P : Program} {w : World} {K : PySem.W.Frag} {mg : Str -> Option Value} {base : Heap} {k : Nat} {f : Addr} {name qual : Str} {params : Arguments} {body : List Stmt} {scope : Scope} {dV kV doc pm di ct oc : Value} {an od : Option Addr}
 {yl : Array (Option Value)} {N ps : List Str} {sp : Sp} (lk : K.lookup f = some ⟨oc, od, .func (PySem.W.fnOf name qual params body scope dV kV doc pm an di ct), yl⟩) (uM : PySem.W.codeIn K di qual = true) (S : aH N ps scope)
 (len : ∀ vs H Q E, sp vs H Q E -> vs.length = ps.length)
 (pV : ∀ (A : Around) (outer : List Env) (s : Shared) (H : Hp) (vs : List V) (Q : VK) (E : XK), c5 k (A.deeper (envOfC qual scope s.heap.objs.size f di)) -> sp vs H Q E ->
  ∃ t, qK (gC CX P w K mg base N qual scope f di A outer s H E) body t /\ t { nx := fun _ H' => Q .cq H', rt := Q } (start N vs) H) :
 bh P w K mg base CX (k + 1) f (PySem.W.fnOf name qual params body scope dV kV doc pm an di ct) ps sp := by
 refine ⟨len, fun A outer s H args us vs Q E hr e0 hb r pP => ?_⟩
 have hl := len _ _ _ _ pP
 have KX : K.In s.heap := e0.mod.A3.keeps fun b o e => (e0.bs b o e).1
 have lim : s.heap.NoLimit := e0.mod.nolimit.keeps fun b o e => (e0.bs b o e).1
 have IB : ∀ y ∈ ps.zip us, scope.names.lookup y.1 = some .local \/ (scope.names.lookup y.1 = some .cell /\ ((cellsFrom (s.heap.objs.size + 1) scope.names []).lookup y.1).isSome = true) := fun ⟨n, v⟩ hy => by
  rcases S.par n (List.of_mem_zip hy).1 with q | q
  . exact .inl q
  . exact .inr ⟨q, PySem.W.cellsFrom_some _ _ _ (.inl q)⟩
 refine codeAny_call_function hr.depth (KX _ _ lk) rfl S.co S.gen rfl (PySem.W.codeRec_of KX uM) (hb _ _ _ _ ?_)
 refine wpAny_newFunctionEnv_cells S.kind IB fun env he s1 x => ?_
 subst he
 refine ⟨lim.keeps x.toInCall.keep, codeAny_func ?_⟩
 obtain ⟨t, ht, hq⟩ := pV A outer s H vs Q E (hr.deeper _) pP
 have I : Inv (gC CX P w K mg base N qual scope f di A outer s H E) [] (start N vs) H s1 := xM S hr.hd e0 hl r x
 refine wpAny_mono (ht [] s1 (start N vs) H _ I hq) (fun fl s' hs => ?_) fun e s' hs => hs
 have fin : ∀ {σ' : St} {H' : Hp} {v : V} {u : Value}, Inv (gC CX P w K mg base N qual scope f di A outer s H E) [] σ' H' s' -> RelV v u -> Q v H' -> CE outer P w H s Q u s' :=
  fun {σ' H' v u} J rv q => ⟨v, H', J.os, J.bare, J.base, J.bf, rv, q⟩
 cases fl with
 | ret u =>
   obtain ⟨v, σ', H', J, rv, q⟩ := hs
   exact fin J rv q
 | next =>
   obtain ⟨σ', H', J, q⟩ := hs
   exact fin (v := V.cq) (u := Value.none) J rfl q
 | brk =>
   obtain ⟨_, _, _, q⟩ := hs
   exact False.elim q
 | cont =>
   obtain ⟨_, _, _, q⟩ := hs
   exact False.elim q
section
variable {X : Cx} {x : Str} {p pos : Pos} {e : Expr} {es : List Expr} {t : TA} {id T : String} {r : List V -> Hp -> VK -> Prop}
def Lh (r : List V -> Hp -> VK -> Prop) (t : TA) : TE := fun σ H Q => t σ H fun vs H1 => r vs H1 Q
theorem aU (hc : fN X (.builtin id) r) (hg : Gl X x) (hm : X.mg x = none) (hv : bootBuiltins x = some (.builtin id)) (ha : PA X (e :: es) t) (hn : x ≠ "__name__" := by decide) (ph : (x == ("__debug__" : Str)) = false := by decide)
 (he : starEach (e :: es) X.env = (false, eval e X.env) :: starEach es X.env := by rfl) (k8 : (backTo pos (starEach es X.env)).any (·.1) = false := by rfl) : PE X (.Call (.Name x p) (e :: es) [] pos) (Lh r t) := by
 intro pins s σ H Q I h
 refine wpAny_Call_Name_kw (uQ I hg hm hv ?_ hn ph)
 exact PyProof.Rows.callWith_builtin1 (bO (ha pos pins s σ H _ I h) fun us s1 ⟨vs, H1, I1, r1, q1⟩ => hc pins s1 σ H1 vs us Q I1 r1 q1) he k8
theorem a6 (hc : fN X (.type T) r) (hg : Gl X x) (hm : X.mg x = none) (hv : bootBuiltins x = some (.type T)) (ha : PA X (e :: es) t) (hn : x ≠ "__name__" := by decide) (ph : (x == ("__debug__" : Str)) = false := by decide)
 (he : starEach (e :: es) X.env = (false, eval e X.env) :: starEach es X.env := by rfl) (k8 : (backTo pos (starEach es X.env)).any (·.1) = false := by rfl) : PE X (.Call (.Name x p) (e :: es) [] pos) (Lh r t) := by
 intro pins s σ H Q I h
 refine wpAny_Call_Name_kw (uQ I hg hm hv ?_ hn ph)
 exact PyProof.Rows.callWith_type1 (bO (ha pos pins s σ H _ I h) fun us s1 ⟨vs, H1, I1, r1, q1⟩ => hc pins s1 σ H1 vs us Q I1 r1 q1) he k8
end
end L2
namespace HT
open PySem PyProof.Rows
section
open PySem.SeqAt
open PySem.AutoSeq1 (wpAny_loadPart')
open PySem.MeetsSeq PySem.MeetsSeq2 PySem.MeetsSeq3
end
section
variable {prog : Program} {w : World} {A : Around} {E : Value -> Shared -> Prop} {s : Shared}
def fM (n d : Nat) : Option Int -> Nat
 | none => d
 | some v => if v < 0 then (v + (n : Int)).toNat else min v.toNat n
end
end HT
namespace L2
open PySem PySem.Spec PyProof.Rows
abbrev TO := St -> Hp -> (Option Int -> Hp -> Prop) -> Prop
def PO (X : Cx) (e : Option Expr) (t : TO) : Prop :=
 ∀ (pins : List (Addr × Obj)) (s : Shared) (σ : St) (H : Hp) (Q : Option Int -> Hp -> Prop), Inv X pins σ H s -> t σ H Q ->
   wpAny (model X.prog X.w) X.A (evalPart e X.env) (fun u s' => ∃ o H', Inv X pins σ H' s' /\ IsPart u o /\ Q o H') X.xe s
def wo : TO := fun _ H Q => Q none H
def D9 (t : TE) : TO := fun σ H Q => t σ H fun x H1 => ∃ i, x = .int i /\ Q (some i) H1
section
variable {X : Cx} {e : Expr} {te : TE} {lo hi : Option Expr} {tl th : TO} {pos p2 : Pos}
theorem cm : PO X none wo := by
 intro pins s σ H Q I h
 rw [evalPart_none]
 exact wpAny_pure ⟨none, H, I, .none, h⟩
theorem bP (h : PE X e te) : PO X (some e) (D9 te) := by
 intro pins s σ H Q I hw
 rw [evalPart_some]
 refine bO (h pins s σ H _ I hw) fun u s1 ⟨x, H1, I1, r1, q1⟩ => ?_
 obtain ⟨i, rfl, q⟩ := q1
 obtain ⟨t, rfl⟩ := r1
 exact ⟨some i, H1, I1, .int i t, q⟩
def Ld (X : Cx) (r : V -> Option Int -> Option Int -> Hp -> VK -> Prop) : Prop :=
 ∀ (pins : List (Addr × Obj)) (s : Shared) (σ : St) (H : Hp) (x : V) (v vl vu : Value) (lo hi : Option Int) (sl : Addr) (Q : VK), Inv X pins σ H s -> RelV x v -> s.heap.IsSliceOf sl vl vu .none -> IsPart vl lo -> IsPart vu hi -> r x lo hi H Q ->
   ∃ T id, typeLookup (.type T) "__getitem__" = pure (some (.builtin id)) /\ s.TypeIs v T /\ wpAny (model X.prog X.w) X.A (getItem v (.ref sl)) (EP X pins σ Q) X.xe s
def MI (r : V -> Option Int -> Option Int -> Hp -> VK -> Prop) (te : TE) (tl th : TO) : TE := fun σ H Q => te σ H fun x H1 => tl σ H1 fun l H2 => th σ H2 fun u H3 => r x l u H3 Q
theorem bt {r : V -> Option Int -> Option Int -> Hp -> VK -> Prop} (hr : Ld X r) (he : PE X e te) (hl : PO X lo tl) (hu : PO X hi th) : PE X (.Subscript e (.Slice lo hi none p2) pos) (MI r te tl th) := by
 intro pins s σ H Q I h
 refine Subscript_ (bO (he pins s σ H _ I h) fun v s1 ⟨x, H1, I1, r1, q1⟩ => ?_)
 refine wpAny_Slice (bO (hl pins s1 σ H1 _ I1 q1) fun vl s2 ⟨l, H2, I2, pl, q2⟩ => bO (hu pins s2 σ H2 _ I2 q2) fun vu s3 ⟨u, H3, I3, pu, q3⟩ => ?_)
 rw [evalPart_none]
 refine wpAny_pure ?_
 have I4 : Inv X pins σ H3 { s3 with heap := s3.heap.push { cls := .type "slice", data := .fields #[vl, vu, .none] } } := I3.kept (t' := s3.toks) fun b ob q => Heap.get?_push_of_some _ q
 obtain ⟨T, id, hT, ht, hg⟩ := hr pins { s3 with heap := s3.heap.push { cls := .type "slice", data := .fields #[vl, vu, .none] } } σ H3 x v vl vu l u s3.heap.objs.size Q I4 r1 (Heap.IsSliceOf.new ..) pl pu q3
 show wpAny (model X.prog X.w) X.A (subscriptTail e (.Slice lo hi none p2) v (.ref s3.heap.objs.size)) (EP X pins σ Q) X.xe { s3 with heap := s3.heap.push { cls := .type "slice", data := .fields #[vl, vu, .none] } }
 exact tail_any (ops := [.ref s3.heap.objs.size, v]) ht hT hg (by with_unfolding_all rfl)
def sx (xs : List V) (lo hi : Option Int) : List V := (xs.drop (HT.fM xs.length 0 lo)).take (HT.fM xs.length xs.length hi - HT.fM xs.length 0 lo)
theorem tH (xs : List V) (lo hi : Option Int) : (sx xs lo hi).length <= xs.length := by
 unfold sx
 rw [List.length_take, List.length_drop]
 omega
end
def yb (n : Nat) (i : Int) : Option Nat := if 0 <= i then (if i < n then some i.toNat else none) else if -(n : Int) <= i then some (i + n).toNat else none
def oI {α : Type} (xs : List α) (i : Int) : Option α := (yb xs.length i).bind fun j => xs[j]?
theorem w6 {n : Nat} {i : Int} {j : Nat} (h : yb n i = some j) : seqIndex? i n = some j /\ j < n /\ -(n : Int) <= i /\ i < n := by
 unfold yb at h
 by_cases h0 : 0 <= i
 . rw [if_pos h0] at h
   by_cases h1 : i < n
   . rw [if_pos h1] at h
     have e : i.toNat = j := Option.some.inj h
     exact ⟨by rw [seqIndex_of h0 h1, e], by omega, by omega, h1⟩
   . rw [if_neg h1] at h; cases h
 . rw [if_neg h0] at h
   by_cases h1 : -(n : Int) <= i
   . rw [if_pos h1] at h
     have e : (i + n).toNat = j := Option.some.inj h
     exact ⟨by rw [seqIndex_neg (by omega) h1, e], by omega, h1, by omega⟩
   . rw [if_neg h1] at h; cases h
theorem sX {α : Type} {xs : List α} {i : Int} {v : α} (h : oI xs i = some v) : ∃ j, seqIndex? i xs.length = some j /\ xs[j]? = some v /\ j < xs.length /\ -(xs.length : Int) <= i /\ i < xs.length := by
 unfold oI at h
 cases e : yb xs.length i with
 | none => rw [e] at h; cases h
 | some j =>
   rw [e] at h
   obtain ⟨h1, h2, h3, h4⟩ := w6 e
   exact ⟨j, h1, h, h2, h3, h4⟩
theorem jU {α : Type} {xs : List α} {j : Nat} {v : α} (h : xs[j]? = some v) : oI xs (j : Int) = some v := by
 have hj : j < xs.length := (List.getElem?_eq_some_iff.mp h).1
 have e : yb xs.length (j : Int) = some j := by
  unfold yb
  rw [if_pos (by omega), if_pos (by omega)]; simp
 unfold oI; rw [e]; exact h
theorem zh {α : Type} (xs : List α) (v : α) : oI (xs ++ [v]) (-1) = some v := by
 have hl : (xs ++ [v]).length = xs.length + 1 := by simp
 have e : yb (xs ++ [v]).length (-1) = some xs.length := by
  unfold yb
  rw [hl, if_neg (by decide), if_pos (by omega)]
  congr 1
  omega
 unfold oI
 rw [e]
 show (xs ++ [v])[xs.length]? = some v
 simp
def Bv (b : Expr) : Prop := ∀ o i, subscripted b false o i = operate [o, i] (getItem o i)
def zo (X : Cx) (r : R2) : Prop :=
 ∀ (value slice : Expr) (pins : List (Addr × Obj)) (s : Shared) (σ : St) (H : Hp) (x y : V) (v u : Value) (Q : VK), Inv X pins σ H s -> RelV x v -> RelV y u -> r x y H Q ->
   subscripted slice false v u = operate [v, u] (getItem v u) -> wpAny (model X.prog X.w) X.A (subscriptTail value slice v u) (EP X pins σ Q) X.xe s
def Jq (X : Cx) (id : String) (r : V -> List V -> Hp -> VK -> Prop) : Prop :=
 ∀ (pins : List (Addr × Obj)) (s : Shared) (σ : St) (H : Hp) (x : V) (xs : List V) (v : Value) (us : List Value) (Q : VK), Inv X pins σ H s -> RelV x v -> Vals xs us -> r x xs H Q ->
   wpAny (model X.prog X.w) X.A (call (.builtin id) (v :: us)) (EP X pins σ Q) X.xe s
section
variable {X : Cx} {a b : Expr} {ta tb : TE} {pos : Pos}
theorem zo.or {r r' : R2} (h : zo X r) (h' : zo X r') : zo X (fun x y H Q => r x y H Q \/ r' x y H Q) := by
 intro value slice pins s σ H x y v u Q I rx ry q hs
 rcases q with q | q
 . exact h value slice pins s σ H x y v u Q I rx ry q hs
 . exact h' value slice pins s σ H x y v u Q I rx ry q hs
theorem a8 {r : R2} (hr : zo X r) (ha : PE X a ta) (hb : PE X b tb) (hs : Bv b) : PE X (.Subscript a b pos) (HM r ta tb) := by
 intro pins s σ H Q I h
 exact Subscript_ (F8 ha hb I h fun v u s2 x y H2 I2 rx ry q => hr a b pins s2 σ H2 x y v u Q I2 rx ry q (hs _ _))
def E2 (K : PySem.W.Frag) : R2 := fun x y H Q => ∃ p xs i v, x = .ref p /\ y = .int i /\ gf K H p xs /\ oI xs i = some v /\ Q v H
def Iu (K : PySem.W.Frag) : R2 := fun x y H Q => ∃ p xs i v, x = .ref p /\ y = .int i /\ yk K H p xs /\ oI xs i = some v /\ Q v H
def Gv : R2 := fun x y H Q => ∃ z i c, x = .str z /\ y = .int i /\ z.length <= sizeLine /\ oI z.cps.toList i = some c /\ Q (.str ⟨#[c]⟩) H
theorem wA : zo X (E2 X.K) := by
 intro value slice pins s σ H x y v u Q I rx ry h hs
 obtain ⟨p, xs, i, z, rfl, rfl, hq, he, q⟩ := h
 cases rx
 obtain ⟨t, rfl⟩ := ry
 obtain ⟨aV, r, pl, hz⟩ := I.list hq
 obtain ⟨j, h1, h2, h3, h4, h5⟩ := sX he
 obtain ⟨w, ew, Ie⟩ := r.get h2
 have hl := r.length
 have hn := lL
 have fin : EP X pins σ Q w s := ⟨z, H, I, Ie, q⟩
 by_cases h0 : 0 <= i
 . have hj : i.toNat = j := by
    rw [seqIndex_of h0 h5] at h1
    exact Option.some.inj h1
   exact item_listR pl.isList h0 (by omega) (by rw [hj]; simpa using ew) fin hs
 . have hj : (i + (aV.toArray.size : Int)).toNat = j := by
    rw [seqIndex_neg (by omega) h4] at h1
    rw [List.size_toArray, <- hl]
    exact Option.some.inj h1
   exact subscriptTail_builtinR (x := w) pl.isList.typeIs slot_list_getitem.lookup
    (wpAny_getItem_list_neg (Q := fun r s' => r = w /\ EP X pins σ Q r s') pl.isList (by omega) (by rw [List.size_toArray] <;> omega) (by omega) (by rw [hj]; simpa using ew) ⟨rfl, fin⟩) hs
theorem Gj : zo X (Iu X.K) := by
 intro value slice pins s σ H x y v u Q I rx ry h hs
 obtain ⟨p, xs, i, z, rfl, rfl, hq, he, q⟩ := h
 cases rx
 obtain ⟨t, rfl⟩ := ry
 obtain ⟨aV, r, pl, hz⟩ := I.tuple hq
 obtain ⟨j, h1, h2, h3, h4, h5⟩ := sX he
 obtain ⟨w, ew, Ie⟩ := r.get h2
 have hl := r.length
 have hn := lL
 have fin : EP X pins σ Q w s := ⟨z, H, I, Ie, q⟩
 exact subscriptTail_builtinR (x := w) pl.typeIs slot_tuple_getitem.lookup
  (getItem_tuple (j := j) (Q := fun r s' => r = w /\ EP X pins σ Q r s') pl (by omega) (by omega) (by rw [List.size_toArray, <- hl]; exact h1) (by simpa using ew) ⟨rfl, fin⟩) hs
theorem Ft : zo X Gv := by
 intro value slice pins s σ H x y v u Q I rx ry h hs
 obtain ⟨z, i, c, rfl, rfl, hz, he, q⟩ := h
 obtain ⟨t, rfl⟩ := rx
 obtain ⟨t', rfl⟩ := ry
 obtain ⟨j, h1, h2, h3, h4, h5⟩ := sX he
 have hl : z.cps.toList.length = z.length := by simp [Str.length]
 rw [hl] at h1 h4 h5
 have hn := lL
 exact tail_any (typeIs_str s z t) slot_str_getitem.lookup (getItem_str (c := c) (by
  have e1 : decide (i < -(2 ^ 63 : Int)) = false := decide_eq_false (by omega)
  have e2 : decide (i ≥ 2 ^ 63) = false := decide_eq_false (by omega)
  rw [e1, e2, Bool.or_false]) (by rw [h1]; simpa using h2) ⟨.str ⟨#[c]⟩, H, I.tok _, ⟨_, rfl⟩, q⟩) hs
def MT (K : PySem.W.Frag) : R2 := fun x y H Q => E2 K x y H Q \/ Iu K x y H Q \/ Gv x y H Q
theorem EB : zo X (MT X.K) := wA.or (Gj.or Ft)
theorem vd (aV : List Value) (n j : Nat) (u : Value) : Obj.mapSeq (·.setIfInBounds j u) { cls := .type "list", data := .seq aV.toArray n } = { cls := .type "list", data := .seq (aV.set j u).toArray n } := by
 simp [Obj.mapSeq]
theorem Inv.lst {pins : List (Addr × Obj)} {σ : St} {H : Hp} {s : Shared} {p : Addr} {xs : List V} (I : Inv X pins σ H s) (h : H p = some (.lst xs)) :
 ∃ (aV : List Value) (n : Nat), Vals xs aV /\ s.heap.get? p = some { cls := .type "list", data := .seq aV.toArray n } /\ xs.length <= sizeLine := by
 obtain ⟨z, aV, n, r, e⟩ := I.bf p _ h
 exact ⟨aV, n, r, e, z⟩
theorem Inv.FI {pins : List (Addr × Obj)} {σ : St} {H : Hp} {s : Shared} {p : Addr} {xs ys : List V} {aV its' : List Value} {n n' : Nat} {f : Obj -> Obj} (I : Inv X pins σ H s) (h : H p = some (.lst xs))
 (ho : s.heap.get? p = some { cls := .type "list", data := .seq aV.toArray n }) (hf : f { cls := .type "list", data := .seq aV.toArray n } = { cls := .type "list", data := .seq its'.toArray n' }) (r : Vals ys its') (hz : ys.length <= sizeLine) (t : Nat) :
 Inv X pins σ (upd H p (.lst ys)) { s with heap := s.heap.update p f, toks := t } := by
 have e : (s.heap.update p f).get? p = some { cls := .type "list", data := .seq its'.toArray n' } := by
  rw [Heap.get?_update_self f ho (by rw [hf] <;> rfl), hf]
 refine I.write (x := p) (e := p) (by rw [h]; trivial) (.inl rfl) (fun b u hb q => (Heap.get?_update_other _ _ (Ne.symm hb)).trans q) ⟨_, e⟩ ?_
 exact ⟨hz, its', n', r, e⟩
def DH : V -> V -> V -> Hp -> (Hp -> Prop) -> Prop := fun o i v H Q => ∃ p xs k j, o = .ref p /\ i = .int k /\ H p = some (.lst xs) /\ yb xs.length k = some j /\ Q (upd H p (.lst (xs.set j v)))
theorem set_list : IY X DH := by
 intro pins s σ H o i v ov iv u Q I ro ri rv h
 obtain ⟨p, xs, k, j, rfl, rfl, hp, hj, q⟩ := h
 cases ro
 obtain ⟨t, rfl⟩ := ri
 obtain ⟨aV, n, r, ho, hz⟩ := I.lst hp
 obtain ⟨h1, h2, h3, h4⟩ := w6 hj
 have hl := r.length
 have hn := lL
 have I' : Inv X pins σ (upd H p (.lst (xs.set j v))) { s with heap := s.heap.update p (Obj.mapSeq (·.setIfInBounds j u)) } :=
  I.FI hp ho (vd aV n j u) (r.set rv j) (by rw [List.length_set]; exact hz) s.toks
 by_cases h0 : 0 <= k
 . have hk : k.toNat = j := by
    rw [seqIndex_of h0 h4] at h1
    exact Option.some.inj h1
   exact PySem.W.ki_setAt ho h0 (by omega) (by rw [List.size_toArray, <- hl]; exact h4) (by rw [hk]; exact ⟨_, I', q⟩)
 . have hk : (k + (aV.toArray.size : Int)).toNat = j := by
    rw [seqIndex_neg (by omega) h3] at h1
    rw [List.size_toArray, <- hl]
    exact Option.some.inj h1
   exact PySem.W.ki_setBack ho (by omega) (by rw [List.size_toArray, <- hl]; exact h3) (by omega) (by rw [hk]; exact ⟨_, I', q⟩)
theorem sk (lo hi : Option Int) (n : Nat) : (sliceBounds lo hi none n).1 = ((HT.fM n 0 lo : Nat) : Int) /\ (sliceBounds lo hi none n).2.1 = ((HT.fM n n hi : Nat) : Int) /\ (sliceBounds lo hi none n).2.2 = 1 := by
 refine ⟨?_, ?_, rfl⟩
 . cases lo with
   | none => simp [sliceBounds, HT.fM]
   | some i =>
     simp only [sliceBounds, HT.fM, Option.getD_none, show (1 : Int) > 0 by decide, if_true]
     by_cases h : i < 0
     . simp only [h, if_true] <;> omega
     . simp only [h, if_false] <;> omega
 . cases hi with
   | none => simp [sliceBounds, HT.fM]
   | some i =>
     simp only [sliceBounds, HT.fM, Option.getD_none, show (1 : Int) > 0 by decide, if_true]
     by_cases h : i < 0
     . simp only [h, if_true] <;> omega
     . simp only [h, if_false] <;> omega
theorem qP (aV : List Value) (lo hi : Option Int) : slicePick aV.toArray lo hi none = ((aV.drop (HT.fM aV.length 0 lo)).take (HT.fM aV.length aV.length hi - HT.fM aV.length 0 lo)).toArray := by
 obtain ⟨h1, h2, h3⟩ := sk lo hi aV.toArray.size
 unfold slicePick
 rw [h1, h2, h3]
 simp only [sliceRange_one, pick_run, List.size_toArray] <;> rfl
def t6 (K : PySem.W.Frag) : V -> Option Int -> Option Int -> Hp -> VK -> Prop := fun x lo hi H Q => ∃ a xs, x = .ref a /\ gf K H a xs /\ ∀ p, H p = none -> Q (.ref p) (upd H p (.lst (sx xs lo hi)))
theorem cn : Ld X (t6 X.K) := by
 intro pins s σ H x v vl vu lo hi sl Q I rx hs pl pu h
 obtain ⟨a, xs, rfl, hx, q⟩ := h
 cases rx
 obtain ⟨aV, r, ht, hz⟩ := I.list hx
 have hlen := r.length
 refine ⟨"list", _, slot_list_getitem.lookup, ht.isList.typeIs, ?_⟩
 refine wpAny_getItem_list_slice ht.isList hs pl pu .none (by simp) ?_ (by rw [List.size_toArray] <;> omega)
 rw [qP, <- hlen]
 refine ⟨.ref s.heap.objs.size, _, I.laid (t' := s.toks) (o := .lst (sx xs lo hi)) (fun b ob q => Heap.get?_push_of_some _ q) (Nat.le_refl _) ?_, rfl, q _ (I.bf.fresh (Nat.le_refl _))⟩
 exact ⟨Nat.le_trans (tH xs lo hi) hz, _, 0, (r.drop (HT.fM xs.length 0 lo)).take (HT.fM xs.length xs.length hi - HT.fM xs.length 0 lo), Heap.get?_push_size _ rfl⟩
theorem iy : fN X (.builtin "len") (fun xs H Q => ∃ p ys, xs = [.ref p] /\ (gf X.K H p ys \/ yk X.K H p ys) /\ Q (.int ys.length) H) := by
 intro pins s σ H xs us Q I r h
 obtain ⟨p, ys, rfl, hq, q⟩ := h
 obtain ⟨u, rfl, rx⟩ := vals1 r
 cases rx
 have hn := lL
 rcases hq with hq | hq
 . obtain ⟨aV, r', pl, hz⟩ := I.list hq
   have hlen := r'.length
   exact Calls.call_len_list pl.isList (by simp only [List.size_toArray] <;> omega) ⟨.int ys.length, H, I.tok _, ⟨s.toks + 1, by rw [List.size_toArray, hlen]⟩, q⟩
 . obtain ⟨aV, r', pl, hz⟩ := I.tuple hq
   have hlen := r'.length
   exact len_tuple pl (by simp only [List.size_toArray] <;> omega) ⟨.int ys.length, H, I.tok _, ⟨s.toks + 1, by rw [List.size_toArray, hlen]⟩, q⟩
theorem se : fN X (.builtin "len") (fun xs H Q => ∃ z, xs = [.str z] /\ z.length <= sizeLine /\ Q (.int z.length) H) := by
 intro pins s σ H xs us Q I r h
 obtain ⟨z, rfl, hz, q⟩ := h
 obtain ⟨u, rfl, t, rfl⟩ := vals1 r
 have hn := lL
 exact len_str (by omega) ⟨.int z.length, H, I.tok _, ⟨_, rfl⟩, q⟩
def Gx (K : PySem.W.Frag) (T : String) (x : V) (H : Hp) : Prop := match x with
 | .str _ => T = "str"
 | .int _ => T = "int"
 | .ref p => (T = "list" /\ ∃ xs, gf K H p xs) \/ (T = "tuple" /\ ∃ o, K.lookup p = some o /\ o.cls = .type "tuple" /\ o.dict = none) \/
  (T = "dict" /\ ((∃ dN, H p = some (.dK dN)) \/ ∃ dN, H p = some (.dT dN))) \/ (T = "set" /\ ∃ S n, H p = some (.set S n))
 | _ => False
theorem As {pins : List (Addr × Obj)} {σ : St} {H : Hp} {s : Shared} {T : String} {x : V} {v : Value} (I : Inv X pins σ H s) (r : RelV x v) (ty : Gx X.K T x H) :
 s.TypeIs v T /\ ∀ a, v = .ref a -> ∃ ob, s.heap.get? a = some ob /\ ob.dict = none := by
 cases x with
 | str z =>
   obtain ⟨t, rfl⟩ := r
   cases (show T = "str" from ty)
   exact ⟨typeIs_str s z t, fun _ e => nomatch e⟩
 | int i =>
   obtain ⟨t, rfl⟩ := r
   cases (show T = "int" from ty)
   exact ⟨typeIs_int s i t, fun _ e => nomatch e⟩
 | ref p =>
   cases r
   rcases ty with ⟨rfl, xs, hq⟩ | ⟨rfl, o, hk, hc, hd⟩ | ⟨rfl, hk⟩ | ⟨rfl, S, n, hk⟩
   . obtain ⟨aV, _, pl, _⟩ := I.list hq
     refine ⟨pl.isList.typeIs, fun a e => ?_⟩
     cases e
     obtain ⟨o, n, e, c, hd, _⟩ := pl
     exact ⟨o, e, hd⟩
   . refine ⟨⟨o, I.i7 p o hk, hc⟩, fun a e => ?_⟩
     cases e
     exact ⟨o, I.i7 _ o hk, hd⟩
   . have z : ∃ o, s.heap.get? p = some o /\ o.ExactDict := by
      rcases hk with ⟨dN, hk⟩ | ⟨dN, hk⟩
      . obtain ⟨_, _, _, _, o, _, _, e, ex, _⟩ := I.bf p _ hk
        exact ⟨o, e, ex⟩
      . obtain ⟨_, _, _, _, o, _, _, e, ex, _⟩ := I.bf p _ hk
        exact ⟨o, e, ex⟩
     obtain ⟨o, e, ex⟩ := z
     refine ⟨⟨o, e, ex.1⟩, fun a e2 => ?_⟩
     cases e2
     exact ⟨o, e, ex.2.1⟩
   . obtain ⟨o, _, _, _, e, ex, _⟩ := I.bf p _ hk
     refine ⟨⟨o, e, ex.1⟩, fun a e2 => ?_⟩
     cases e2
     exact ⟨o, e, ex.2.1⟩
 | _ => exact False.elim ty
def Hj (K : PySem.W.Frag) (T : String) (r : V -> List V -> Hp -> VK -> Prop) (to : TE) : TE := fun σ H Q => to σ H fun x H1 => Gx K T x H1 /\ r x [] H1 Q
def ML (K : PySem.W.Frag) (T : String) (r : V -> List V -> Hp -> VK -> Prop) (to : TE) (t : TA) : TE := fun σ H Q => to σ H fun x H1 => Gx K T x H1 /\ t σ H1 fun xs H2 => r x xs H2 Q
variable {o e : Expr} {es : List Expr} {to : TE} {t : TA} {name : Str} {apos df : Pos} {T id : String} {r : V -> List V -> Hp -> VK -> Prop}
theorem Gy (pa : PlainAttrs T) (slot : Slot T name id) (K3 : typeOf (.builtin id) = pure (.type "method_descriptor")) (hm : Jq X id r) (ho : PE X o to)
 (qE : attributeBase o name X.env (eval o X.env) = eval o X.env := by rfl) (hline : (apos.endLine == df.line) = true := by rfl) : PE X (.Call (.Attribute o name apos) [] [] df) (Hj X.K T r to) := by
 intro pins s σ H Q I h
 refine wpAny_Call_method0_late qE hline (bO (ho pins s σ H _ I h) fun v s1 ⟨x, H1, I1, r1, ty, q1⟩ => ?_)
 obtain ⟨h1, h2⟩ := As I1 r1 ty
 exact ⟨T, id, pa, slot, K3, h1, h2, Calls.callWith_builtin rfl (PySem.evalArgs_none (hm pins s1 σ H1 x [] v [] Q I1 r1 .nil q1))⟩
theorem qz (pa : PlainAttrs T) (slot : Slot T name id) (K3 : typeOf (.builtin id) = pure (.type "method_descriptor")) (hm : Jq X id r) (ho : PE X o to) (ha : PA X (e :: es) t)
 (qE : attributeBase o name X.env (eval o X.env) = eval o X.env := by rfl)
 (LN : ((backTo df (starEach (e :: es) X.env)).all (fun x => !x.1) && (backToKw df (keywordEach [] X.env)).all (fun x => x.1.isSome)
  && decide ((e :: es).length + ([] : List Keyword).length + (if ([] : List Keyword).isEmpty then 0 else 1) < 30)) = true := by rfl)
 (hline : (apos.endLine == df.line) = true := by rfl) (hs : starEach (e :: es) X.env = (false, eval e X.env) :: starEach es X.env := by rfl) (lq : (backTo df (starEach es X.env)).any (·.1) = false := by rfl) :
 PE X (.Call (.Attribute o name apos) (e :: es) [] df) (ML X.K T r to t) := by
 intro pins s σ H Q I h
 refine wpAny_Call_method_late qE LN hline rfl (bO (ho pins s σ H _ I h) fun v s1 ⟨x, H1, I1, r1, ty, q1⟩ => ?_)
 obtain ⟨h1, h2⟩ := As I1 r1 ty
 refine ⟨T, id, pa, slot, K3, h1, h2, ?_⟩
 have hA := ha df pins s1 σ H1 _ I1 q1
 rw [hs] at hA ⊢
 refine Calls.callWith_builtin (by show (false || (backTo df (starEach es X.env)).any (·.1)) = false; rw [lq] <;> rfl) (Calls.evalArgs_plain ?_)
 exact bO hA fun us s2 ⟨vs, H2, I2, r2, q2⟩ => hm pins s2 σ H2 x vs v us Q I2 r1 r2 q2
end
def Mg (X : Cx) (id : String) (r : V -> List V -> Hp -> VK -> Prop) : Prop :=
 ∀ (pins : List (Addr × Obj)) (s : Shared) (σ : St) (H : Hp) (x : V) (xs : List V) (v : Value) (us : List Value) (Q : VK), Inv X pins σ H s -> RelV x v -> Vals xs us -> r x xs H Q ->
   wpAny (model X.prog X.w) X.A (call (.builtin id) (v :: us)) (EP X pins σ Q) X.xe s
theorem Vals.one : ∀ {x : V} {us : List Value}, Vals [x] us -> ∃ u, us = [u] /\ RelV x u
 | _, _, .cons r .nil => ⟨_, rfl, r⟩
theorem Vals.zero : ∀ {us : List Value}, Vals [] us -> us = []
 | _, .nil => rfl
theorem Vals.dropLast {xs : List V} {us : List Value} (h : Vals xs us) : Vals xs.dropLast us.dropLast := by
 induction h with
 | nil => exact .nil
 | cons r t ih =>
   cases t with
   | nil => exact .nil
   | cons q t' => exact .cons r ih
theorem Vals.reverse {xs : List V} {us : List Value} (h : Vals xs us) : Vals xs.reverse us.reverse := by
 induction h with
 | nil => exact .nil
 | cons r t ih => rw [List.reverse_cons, List.reverse_cons]; exact Vals.append ih (.cons r .nil)
section
variable {X : Cx} {pins : List (Addr × Obj)} {σ : St} {H : Hp} {s : Shared} {l b : Addr} {xs ys zs : List V}
theorem Inv.G6 {aV its' : List Value} {n : Nat} {f : Array Value -> Array Value} {t' : Nat} (I : Inv X pins σ H s) (hH : H l = some (.lst xs))
 (e : s.heap.get? l = some { cls := .type "list", data := .seq aV.toArray n }) (hf : f aV.toArray = its'.toArray) (hv : Vals ys its') (hz : ys.length <= sizeLine) :
 Inv X pins σ (upd H l (.lst ys)) { s with heap := s.heap.update l (Obj.mapSeq f), toks := t' } := by
 have q := PySem.IsL.update e f
 rw [hf] at q
 refine I.write (x := l) (e := l) (by rw [hH]; exact trivial) (.inl rfl) (fun b' u hb hu => (Heap.get?_update_other s.heap (Obj.mapSeq f) (Ne.symm hb)).trans hu) ⟨_, q⟩ ?_
 exact ⟨hz, its', _, hv, q⟩
theorem Inv.K7 {aV : List Value} {t' : Nat} (I : Inv X pins σ H s) (hv : Vals ys aV) (hz : ys.length <= sizeLine) :
 Inv X pins σ (upd H s.heap.objs.size (.lst ys)) { s with heap := s.heap.push { cls := .type "list", data := .seq aV.toArray }, toks := t' } :=
 I.laid (fun _ _ q => Heap.get?_push_of_some _ q) (Nat.le_refl _) ⟨hz, aV, 0, hv, Heap.get?_push_size _ rfl⟩
theorem Inv.fresh (I : Inv X pins σ H s) : H s.heap.objs.size = none := I.bf.fresh (Nat.le_refl _)
theorem Inv.By (I : Inv X pins σ H s) (hH : H l = some (.lst xs)) : xs.length <= sizeLine /\ ∃ (aV : List Value) (n : Nat), Vals xs aV /\ xs.length = aV.length /\ s.heap.get? l = some { cls := .type "list", data := .seq aV.toArray n } := by
 obtain ⟨z, aV, n, r, e⟩ := I.bf l _ hH
 exact ⟨z, aV, n, r, r.length, e⟩
end
section
variable {X : Cx}
def xj : V -> List V -> Hp -> VK -> Prop := fun x vs H Q => ∃ l xs y, x = .ref l /\ vs = [y] /\ H l = some (.lst xs) /\ xs.length < sizeLine /\ Q .cq (upd H l (.lst (xs ++ [y])))
theorem yy : Mg X "list.append" xj := by
 intro pins s σ H x vs v us Q I rx rv h
 obtain ⟨l, xs, y, rfl, rfl, hH, hz, q⟩ := h
 cases rx
 obtain ⟨u, rfl, ru⟩ := rv.one
 obtain ⟨z, aV, n, r, hl, e⟩ := I.By hH
 refine call_meets F.slot_list_append ⟨_, e, rfl⟩ F.entry_list_append (F.args_list_append_2 _ _) (PySem.list_append l aV.toArray n u (by rw [List.size_toArray]; omega)) ⟨e, ?_⟩
 refine ⟨.cq, _, I.G6 (its' := aV ++ [u]) hH e (by simp) (r.append (.cons ru .nil)) ?_, rfl, q⟩
 rw [List.length_append, List.length_singleton]
 omega
def um : V -> List V -> Hp -> VK -> Prop := fun x vs H Q => ∃ l xs, x = .ref l /\ vs = [] /\ H l = some (.lst xs) /\ Q .cq (upd H l (.lst xs.reverse))
theorem uU : Mg X "list.reverse" um := by
 intro pins s σ H x vs v us Q I rx rv h
 obtain ⟨l, xs, rfl, rfl, hH, q⟩ := h
 cases rx
 have Ow := rv.zero
 subst Ow
 obtain ⟨z, aV, n, r, hl, e⟩ := I.By hH
 refine call_meets F.slot_list_reverse ⟨_, e, rfl⟩ F.entry_list_reverse (F.args_list_reverse_1 _) (AutoSeq1.list_reverse_list_0 l aV.toArray n (by rw [List.size_toArray]; omega)) ⟨e, ?_⟩
 refine ⟨.cq, _, I.G6 (its' := aV.reverse) hH e (by simp) r.reverse ?_, rfl, q⟩
 rw [List.length_reverse]
 omega
def FA : R2 := fun x y H Q => ∃ l b xs zs, x = .ref l /\ y = .ref b /\ H l = some (.lst xs) /\ H b = some (.lst zs) /\ xs.length + zs.length <= sizeLine /\ ∀ p, H p = none -> Q (.ref p) (upd H p (.lst (xs ++ zs)))
theorem eN : j0 X (binaryOp .Add) FA := by
 intro pins s σ H x y v u Q I rx ry h
 obtain ⟨l, b, xs, zs, rfl, rfl, hH, hB, hz, q⟩ := h
 cases rx
 cases ry
 obtain ⟨z, aV, n, r, hl, e⟩ := I.By hH
 obtain ⟨z2, Hr, n2, r2, Lw, e2⟩ := I.By hB
 refine PySem.P.add_list e e2 ?_ (by rw [List.size_toArray, List.size_toArray]; omega)
 have ea : aV.toArray ++ Hr.toArray = (aV ++ Hr).toArray := by simp
 rw [ea]
 exact ⟨.ref _, _, I.K7 (t' := s.toks) (r.append r2) (by rw [List.length_append]; omega), rfl, q _ I.fresh⟩
end
section
variable {prog : Program} {w : World} {A : Around} {E : Value -> Shared -> Prop} {s : Shared}
set_option maxRecDepth 100000 in
end
section
variable {X : Cx}
end
section
variable {κ : Type} [DecidableEq κ]
def tP (dN : List (κ × V)) (k : κ) : Option V := (dN.find? fun kv => decide (kv.1 = k)).map (·.2)
theorem zi {p : κ × V} {r : List (κ × V)} {k : κ} (e : p.1 = k) : tP (p :: r) k = some p.2 := by simp [tP, List.find?_cons, e]
theorem zj {p : κ × V} {r : List (κ × V)} {k : κ} (e : ¬ p.1 = k) : tP (p :: r) k = tP r k := by simp [tP, List.find?_cons, e]
theorem lV.yh {o : Option V} {u : Option Value} (r : lV o u) : o.isSome = u.isSome := by
 cases o with
 | none => cases u with
   | none => rfl
   | some _ => exact (show False from r).elim
 | some _ => cases u with
   | none => exact (show False from r).elim
   | some _ => rfl
theorem KV.val {dN : List (κ × V)} {vs : List (κ × Value)} (r : KV dN vs) (k : κ) : lV (tP dN k) (valueAt vs k) := by
 unfold KV at r
 induction r with
 | nil => exact True.intro
 | @cons p q ps qs h t ih =>
   obtain ⟨h1, h2⟩ := h
   by_cases e : p.1 = k
   . have e' : q.1 = k := h1.symm.trans e
     have b : valueAt (q :: qs) k = some q.2 := by simp [valueAt, List.find?_cons, e']
     rw [zi e, b]; exact h2
   . have e' : ¬ q.1 = k := fun z => e (h1.trans z)
     have b : valueAt (q :: qs) k = valueAt qs k := by simp [valueAt, List.find?_cons, e']
     rw [zj e, b]; exact ih
end
theorem DC {P : Program} {w : World} {k : Key} {u : Value} (r : RelV (kV k) u) : (ek P w).is k u = true := by
 cases k with
 | inl i => obtain ⟨t, e⟩ := (show ∃ t, u = Value.int i t from r); subst e; exact tO P w i t
 | inr x => obtain ⟨t, e⟩ := (show ∃ t, u = Value.str x t from r); subst e; exact tq P w x t
section
variable {P : Program} {w : World} {H : Hp} {h : Heap} {a : Addr}
end
section
variable {X : Cx} {pins : List (Addr × Obj)} {σ : St} {H : Hp} {s : Shared} {a : Addr} {y v : V} {u r : Value} {o : Option V} {A : Around} {E : Value -> Shared -> Prop}
end
section
variable {X : Cx} {pins : List (Addr × Obj)} {σ : St} {H : Hp} {s : Shared} {a : Addr} {dN : List (Key × V)} {k : Key} {u : Value} {A : Around} {E : Value -> Shared -> Prop}
end
def Iz (i : Expr) : Prop := ∀ ov iv, subscripted i false ov iv = operate [ov, iv] (getItem ov iv)
theorem Cz {prog : Program} {w : World} {A : Around} {E : Value -> Shared -> Prop} {s : Shared} {env : Env} {value slice : Expr} {pos : Pos} {T id : String} {Q : Value -> Shared -> Prop}
 (hl : typeLookup (.type T) "__getitem__" = pure (some (.builtin id))) (hs : Iz slice)
 (h : wpAny (model prog w) A (eval value env) (fun o s₁ => wpAny (model prog w) A (eval slice env) (fun i s₂ => s₂.TypeIs o T /\ wpAny (model prog w) A (getItem o i) Q E s₂) E s₁) E s) :
 wpAny (model prog w) A (eval (.Subscript value slice pos) env) Q E s := by
 refine Subscript_ (wpAny_mono h (fun o s₁ h₁ => wpAny_mono h₁ (fun i s₂ h₂ => ?_) fun _ _ x => x) fun _ _ x => x)
 obtain ⟨hT, h₂⟩ := h₂
 unfold subscriptTail
 refine wpAny_bind ?_
 rw [getitemInPython_of_ne hT.not_modules]
 refine wpAny_bind (wpAny_specialOf hT hl ?_)
 have fin : wpAny (model prog w) A (subscripted slice false o i) (fun r s₃ => wpAny (model prog w) A (letTemporaryGo value o r >>= fun _ => pure r) Q E s₃) E s₂ := by
  rw [hs o i]
  exact wpAny_operating (wpAny_mono h₂ (fun r s₃ h₃ => wpAny_bind (wpAny_letTemporaryGo (wpAny_pure h₃))) fun _ _ x => x)
 first
  | exact wpAny_pure (wpAny_bind fin)
  | exact wpAny_bind (wpAny_pure (wpAny_bind fin))
  | exact wpAny_bind fin
section
variable {X : Cx} {o i e value : Expr} {pos pos' Kc : Pos} {td ty tv : TE}
end
section
variable {X : Cx} {pos : Pos}
end
structure M1 (X : Cx) (o : Expr) (m : Str) (apos : Pos) (e : Expr) (df : Pos) : Prop where
 base : attributeBase o m X.env (eval o X.env) = eval o X.env
 few : ((backTo df (starEach [e] X.env)).all (fun x => !x.1) && (backToKw df (keywordEach [] X.env)).all (fun x => x.1.isSome)
  && decide (([e] : List Expr).length + ([] : List Keyword).length + (if ([] : List Keyword).isEmpty then 0 else 1) < 30)) = true
 line : (apos.endLine == df.line) = true
 trees : backTo df (starEach [e] X.env) = [(false, eval e X.env)]
structure M2 (X : Cx) (o : Expr) (m : Str) (apos : Pos) (e f : Expr) (df : Pos) : Prop where
 base : attributeBase o m X.env (eval o X.env) = eval o X.env
 few : ((backTo df (starEach [e, f] X.env)).all (fun x => !x.1) && (backToKw df (keywordEach [] X.env)).all (fun x => x.1.isSome)
  && decide (([e, f] : List Expr).length + ([] : List Keyword).length + (if ([] : List Keyword).isEmpty then 0 else 1) < 30)) = true
 line : (apos.endLine == df.line) = true
 trees : backTo df (starEach [e, f] X.env) = [(false, eval e X.env), (false, eval f X.env)]
section
variable {X : Cx} {pins : List (Addr × Obj)} {σ : St} {H : Hp} {s : Shared} {a : Addr} {y d : V} {u r : Value} {o : Option V} {A : Around} {E : Value -> Shared -> Prop}
end
section
variable {X : Cx} {o e f : Expr} {apos df : Pos} {td ty tx : TE}
end
section
variable {X : Cx} {pins : List (Addr × Obj)} {σ : St} {H : Hp} {s : Shared} {a : Addr} {dN : List (Key × V)} {A : Around} {E : Value -> Shared -> Prop}
end
section
variable {X : Cx} {pins : List (Addr × Obj)} {σ : St} {H : Hp} {s : Shared} {a : Addr} {y : V} {u : Value} {A : Around} {E : Value -> Shared -> Prop}
end
end L2
namespace Mh
open PySem PySem.W PySem.Calls PyProof.Rows
theorem oY {P : Params} {h : Heap} : ∀ (ns : List Int) (vs : List Value), WellAll P h vs (ns.map WData.int) -> IntsAre vs ns := by
 intro ns
 induction ns with
 | nil =>
   intro vs w
   rw [List.map_nil] at w
   cases w
   exact .nil
 | cons n ns ih =>
   intro vs w
   rw [List.map_cons] at w
   cases w with
   | cons a b =>
     cases a
     exact .cons _ _ (ih _ b)
theorem yn {l : OpenLaw} {n : Nat} (hn : l.most = some n) {P : Params} {h : Heap} {args : List WData} {vals : List Value}
 (Dk : l.row.toRowW.claim.pre args = true) (Gs : WellAll P h vals args) :
 ∃ a vs ns, vals = [Value.ref a] /\ args = [WData.list (ns.map WData.int)] /\ h.get? a = some { cls := .type "list", data := .seq vs.toArray } /\ IntsAre vs ns /\ ns.length <= n := by
 have N2 : WShape.hasAll [] args [.list .int] = true := (pre_splitW Dk).1
 have hc : l.pre.holds [] { args := args } = true := (pre_splitW Dk).2
 obtain ⟨d, r, rfl, h1, h2⟩ := hasAllW_cons N2
 obtain rfl := hasAllW_nil h2
 obtain ⟨xs, rfl, h3⟩ := hasW_list h1
 obtain ⟨ns, rfl⟩ := items_int h3
 have hlen : ns.length <= n := by
  unfold OpenLaw.pre at hc
  have h4 : (WTm.not (.lt (.lit (.int (n : Int))) (.len (.arg 0)))).holds [] { args := [.list (ns.map .int)] } = true := by
   have h4 := (holds_andW hc).1
   rw [hn] at h4
   exact h4
  have h5 := condW_of h4 (w_not (w_lt w_lit (w_len_list (w_arg rfl))))
  rw [List.length_map] at h5
  refine Nat.le_of_not_lt fun q => ?_
  have q' : (n : Int) < ((ns.length : Nat) : Int) := by omega
  first
   | (rw [decide_eq_true q'] at h5; exact absurd h5 (by decide))
   | (simp at h5; omega)
 cases Gs with
 | cons w1 w2 =>
   cases w2
   cases w1 with
   | list ho gF => exact ⟨_, _, ns, rfl, rfl, ho, oY ns _ gF, hlen⟩
theorem xJ (l : OpenLaw) (args : List WData) : l.row.toRowW.claim.post args (.bool true) args = true :=
 postW_of (r := l.row.toRowW) (X := (true == true))
  (show WShape.has [] (.bool true) .bool = true by first | rfl | decide | simp [WShape.has, WShape.arms, WShape.armsAll])
  (show (WTm.eq .res (.lit (.bool true))).value [] { args := args, res := some (.bool true), after := args } = some (.bool (true == true)) from w_eq_bool (w_res rfl) w_lit) rfl
theorem ux {l : OpenLaw} {n : Nat} {q : Program} {loose : List Str} {XP : (Str -> Option Value) -> Heap -> Prop} {YP : World -> Heap -> Prop} {d : DefRec}
 (hn : l.most = some n) (HD : d.params.defaults = [])
 (call : ∀ (w : World) (cH s₁ : Shared) (mg mb : Str -> Option Value) (fa : Addr) (o : Obj) (pm cd doc : Value) (a : Addr) (vs : List Value) (ns : List Int),
  Ground q loose [] XP w cH mg mb s₁.heap -> YP w s₁.heap ->
  s₁.heap.get? fa = some o -> o.data = .func (docDef d.name d.params d.body d.scope pm cd doc) -> s₁.heap.CodeRec cd d.name -> mg d.name = some (.ref fa) ->
  s₁.heap.get? a = some { cls := .type "list", data := .seq vs.toArray } -> IntsAre vs ns -> ns.length <= n -> s₁.gens = #[] ->
  codeAny (model l.prog w) callerA (.call (.ref fa) ⟨[.ref a], []⟩) (fun r s' => r = .ok (.ret (.bool true)) /\ OldK s₁.heap s'.heap /\ s'.os = s₁.os /\ AllBare s'.gens) s₁) :
 WalkO q loose XP YP l.row.toRowW d [] (fun f vs => PySem.call f vs) := by
 intro w cH s₁ mg mb G Y fa o pm cd doc dV kV ho hd uM hD HY hg args vals as Dk NK O8 Gs Pl
 obtain rfl : dV = .none := Dflts.none hD HD
 obtain rfl : kV = .none := Dflts.noKw hD
 obtain ⟨a, vs, ns, rfl, rfl, Ey, hints, hlen⟩ := yn hn Dk Gs
 refine enter_call (codeAny_mono (call w cH s₁ mg mb fa o pm cd doc a vs ns G Y ho (fd_plain hd) uM HY Ey hints hlen hg) fun r s' hq => ?_)
 obtain ⟨rfl, h2, h3, h4⟩ := hq
 exact ⟨.inl ⟨.bool true, .bool true, [], rfl, fun _ => rfl, .bool true, xJ l _, fun _ => ⟨List.Pairwise.nil, fun _ hm => (nomatch hm)⟩⟩, h2, h3, h4⟩
section
variable {prog : Program} {w : World} {A : Around} {E : Value -> Shared -> Prop} {s : Shared} {K : Frag}
end
end Mh
namespace L2
open PySem PySem.Spec PyProof.Rows
theorem rh : ∀ {vs : List Value} {ns : List Int}, IntsAre vs ns -> Vals (ns.map V.int) vs
 | _, _, .nil => .nil
 | _, _, .cons n t h => .cons ⟨t, rfl⟩ (rh h)
def Cp (H : Hp) : Prop := ∀ b, H b = none \/ ∃ o xs, H b = some (.uL o (.lst xs))
theorem Ay {P : Program} {w : World} {K : PySem.W.Frag} {mg mb : Str -> Option Value} {CX : qt} {k : Nat} {fa a : Addr} {fd : FuncData} {x : Str} {sp : Sp} {s₁ : Shared} {vs : List Value} {ns : List Int}
 (KX : K.In s₁.heap) (FR : s₁.heap.Ns mainGlobals mg) (hb : s₁.heap.Ns builtinsNs mb) (ND : ∀ x : Str, x ≠ "__name__" -> mb x = bootBuiltins x) (LI : s₁.heap.NoLimit) (hg : s₁.gens = #[])
 (ha : s₁.heap.get? a = some { cls := .type "list", data := .seq vs.toArray }) (hi : IntsAre vs ns) (hl : ns.length <= sizeLine) (hr : c5 k callerA)
 (F : ∀ base : Heap, K.In base -> base.Ns mainGlobals mg -> bh P w K mg base CX k fa fd [x] sp) (Hk : ∀ (s : Shared) (u : Value), BindsTo s fd ⟨[u], []⟩ [(x, u)])
 (pP : ∀ H : Hp, Cp H -> gf K H a (ns.map V.int) -> sp [.ref a] H (fun v _ => v = .bl true) fun _ _ _ => False)
 (G8 : ∀ H e s', CX [] H s₁ (fun _ _ _ => False) e s' -> False) :
 codeAny (model P w) callerA (.call (.ref fa) ⟨[.ref a], []⟩) (fun r s' => r = .ok (.ret (.bool true)) /\ OldK s₁.heap s'.heap /\ s'.os = s₁.os /\ AllBare s'.gens) s₁ := by
 have rv := rh hi
 have KN := hi.length
 have core : ∀ H : Hp, Cp H -> gf K H a (ns.map V.int) -> lR P w H s₁.heap -> (∀ b, H b ≠ none -> b = a) -> (H a ≠ none -> K.lookup a = none) ->
  codeAny (model P w) callerA (.call (.ref fa) ⟨[.ref a], []⟩) (fun r s' => r = .ok (.ret (.bool true)) /\ OldK s₁.heap s'.heap /\ s'.os = s₁.os /\ AllBare s'.gens) s₁ := by
  intro H hO hS bf hA hK
  have wY : ∀ {b : Addr} {o : Obj}, s₁.heap.get? b = some o -> H b = none -> (sA s₁.heap H).get? b = some o := fun e n => zE e n
  have H9 : ∀ {b : Addr} {o : Obj} {es : Array DictEntry} {ep : Nat}, s₁.heap.get? b = some o -> o.data = .dict es ep -> H b = none := fun {b o es ep} e d => by
   cases q : H b with
   | none => rfl
   | some u =>
     have e' : b = a := hA b (by rw [q]; simp)
     subst e'
     rw [ha] at e; cases e
     have d' : Data.seq vs.toArray _ = Data.dict es ep := d
     cases d'
  have JL : ∀ {b : Addr} {m : Str -> Option Value}, s₁.heap.Ns b m -> (sA s₁.heap H).Ns b m := fun {b m} ⟨o, es, ep, e, d, r⟩ => ⟨o, es, ep, wY e (H9 e d), d, r⟩
  have MF : K.In (sA s₁.heap H) := fun b o e => wY (KX b o e) (by
   cases q : H b with
   | none => rfl
   | some u =>
     have e' : b = a := hA b (by rw [q]; simp)
     subst e'
     rw [hK (by rw [q]; simp)] at e; cases e)
  have hM : Mod K mg (sA s₁.heap H) := ⟨MF, JL FR, ⟨mb, JL hb, ND⟩, let ⟨mc, h1, h2⟩ := LI; ⟨mc, JL h1, h2⟩⟩
  have e0 : vh P w K mg (sA s₁.heap H) callerA [] s₁ H := ⟨rfl, hM, fun b o e => CJ e, Nat.le_of_eq (yp _ _), trivial, fun b hb => absurd (show b ∈ ([] : List Addr) from hb) (by simp), bf, .of_eq hg⟩
  refine codeAny_mono ((F _ MF (JL FR)).run callerA [] s₁ H ⟨[.ref a], []⟩ [.ref a] [.ref a] _ _ hr e0 (Hk s₁ (.ref a)) (.cons rfl .nil) (pP H hO hS)) fun r s' h => ?_
  cases r with
  | error e => exact (G8 H e s' h).elim
  | ok fl =>
    cases fl with
    | next => exact False.elim h
    | brk => exact False.elim h
    | cont => exact False.elim h
    | ret u =>
      obtain ⟨v, H', os, bare, un, K4, r', q⟩ := h
      have q' : v = .bl true := q
      subst q'
      obtain rfl : u = Value.bool true := r'
      refine ⟨rfl, OldK.of_keep fun b o e => ?_, os, bare⟩
      cases q : H b with
      | none => exact un.keep b o e q (by intro z; exact absurd (show b ∈ ([] : List Addr) from z) (by simp)) (by simp)
      | some u =>
        rcases hO b with z | ⟨ob, xs, z⟩
        . rw [q] at z; cases z
        . have z2 := un.jk b ob _ z
          obtain ⟨e1, _⟩ := bf b _ z
          obtain ⟨e2, _⟩ := K4 b _ z2
          rw [e] at e1; cases e1
          exact e2
 cases hk : K.lookup a with
 | some o =>
   have e := KX a o hk
   rw [ha] at e
   cases e
   refine core (fun _ => none) (fun _ => .inl rfl) (.inr ⟨_, vs.toArray, _, hk, rfl, rfl, rfl, by rw [List.size_toArray, KN]; exact hl, by simpa using rv⟩) (fun b u z => by have z' : (none : Option HO) = some u := z; cases z') (fun b z => absurd rfl z) fun z => absurd rfl z
 | none =>
   refine core (fun b => if b = a then some (.uL { cls := .type "list", data := .seq vs.toArray } (.lst (ns.map V.int))) else none) (fun b => ?_) (.inl (.inr ⟨{ cls := .type "list", data := .seq vs.toArray }, if_pos rfl⟩)) (fun b u z => ?_) (fun b z => ?_) fun _ => hk
   . by_cases hb : b = a
     . exact .inr ⟨_, _, if_pos hb⟩
     . exact .inl (if_neg hb)
   . by_cases hb : b = a
     . have z' := (if_pos hb).symm.trans z
       cases z'
       subst hb
       exact ⟨ha, by rw [List.length_map]; exact hl, vs, _, rv, ha⟩
     . have z' := (if_neg hb).symm.trans z
       cases z'
   . by_cases hb : b = a
     . exact hb
     . exact absurd (if_neg hb) z
abbrev JN {K : PySem.W.Frag} {h : Heap} (_ : K.In h) : PySem.W.Frag := K
theorem BD {l : PySem.W.OpenLaw} {n k : Nat} {q : Program} {loose : List Str} {XP : (Str -> Option Value) -> Heap -> Prop} {YP : World -> Heap -> Prop} {d : DefRec} {K : Params -> PySem.W.Frag} {CX : World -> qt} {sp : World -> Sp} {x : Str}
 (hn : l.most = some n) (GI : n <= sizeLine) (HD : d.params.defaults = []) (hr : c5 k callerA)
 (hY : ∀ (w : World) (h : Heap), YP w h -> (K w.params).In h)
 (F : ∀ (w : World) (mg : Str -> Option Value) (fa : Addr) (h : Heap), (K w.params).In h -> h.Ns mainGlobals mg -> mg d.name = some (.ref fa) ->
  ∃ fd : FuncData, (∀ (s : Shared) (u : Value), BindsTo s fd ⟨[u], []⟩ [(x, u)]) /\
    ∀ base : Heap, (K w.params).In base -> base.Ns mainGlobals mg -> bh l.prog w (K w.params) mg base (CX w) k fa fd [x] (sp w))
 (pP : ∀ (w : World) (H : Hp) (a : Addr) (ns : List Int), ns.length <= n -> Cp H -> gf (K w.params) H a (ns.map V.int) -> sp w [.ref a] H (fun v _ => v = .bl true) fun _ _ _ => False)
 (G8 : ∀ (w : World) (H : Hp) (s : Shared) (e : Value) (s' : Shared), CX w [] H s (fun _ _ _ => False) e s' -> False) :
 PySem.W.WalkO q loose XP YP l.row.toRowW d [] (fun f vs => PySem.call f vs) := by
 refine Mh.ux hn HD fun w cH s₁ mg mb fa o pm cd doc a vs ns G Y ho hd uM HY Ey hints hlen hg => ?_
 have KX := hY w _ Y
 obtain ⟨fd, hb, hF⟩ := F w mg fa _ KX G.T.g HY
 exact Ay KX G.T.g G.T.b G.T.builtins G.T.nolimit hg Ey hints (Nat.le_trans hlen GI) hr hF hb (fun H hO hS => pP w H a ns hlen hO hS) fun H e s' => G8 w H s₁ e s'
theorem zU {l : PySem.W.OpenLaw} {n k : Nat} {q : Program} {loose : List Str} {XP : (Str -> Option Value) -> Heap -> Prop} {YP : World -> Heap -> Prop} {d : DefRec} {K : Params -> PySem.W.Frag} {CX : qt} {sp : PySem.W.Frag -> Sp} {x : Str}
 (hn : l.most = some n) (GI : n <= sizeLine) (HD : d.params.defaults = []) (hr : c5 k callerA)
 (hY : ∀ (w : World) (h : Heap), YP w h -> (K w.params).In h)
 (F : ∀ (w : World) (mg : Str -> Option Value) (fa : Addr) (h : Heap), (K w.params).In h -> h.Ns mainGlobals mg -> mg d.name = some (.ref fa) ->
  ∃ fd : FuncData, (∀ (s : Shared) (u : Value), BindsTo s fd ⟨[u], []⟩ [(x, u)]) /\
    ∀ base : Heap, (K w.params).In base -> base.Ns mainGlobals mg -> bh l.prog w (K w.params) mg base CX k fa fd [x] (sp (K w.params)))
 (pP : ∀ (K : PySem.W.Frag) (H : Hp) (a : Addr) (ns : List Int), ns.length <= n -> Cp H -> gf K H a (ns.map V.int) -> sp K [.ref a] H (fun v _ => v = .bl true) fun _ _ _ => False)
 (G8 : ∀ (H : Hp) (s : Shared) (e : Value) (s' : Shared), CX [] H s (fun _ _ _ => False) e s' -> False) :
 PySem.W.WalkO q loose XP YP l.row.toRowW d [] (fun f vs => PySem.call f vs) :=
 BD (K := K) (CX := fun _ => CX) (sp := fun w => sp (K w.params)) hn GI HD hr hY F (fun w H a ns h1 h2 h3 => pP (K w.params) H a ns h1 h2 h3) fun _ H s e s' => G8 H s e s'
def inClass (s : Stmt) (j : Nat) : Stmt := match s with
 | .ClassDef _ _ _ body _ _ _ _ _ _ _ => body.getD j (.Pass ⟨0, 0, 0, 0⟩)
 | _ => .Pass ⟨0, 0, 0, 0⟩
def nI (s : Stmt) : Arguments := match s with
 | .FunctionDef _ a _ _ _ _ _ _ _ _ => a
 | _ => { posonlyargs := [], args := [], vararg := none, kwonlyargs := [], kw_defaults := [], kwarg := none, defaults := [] }
def gq (s : Stmt) : List Stmt := match s with
 | .FunctionDef _ _ b _ _ _ _ _ _ _ => b
 | _ => []
def ak (s : Stmt) : Scope := match s with
 | .FunctionDef _ _ _ _ _ _ sc _ _ _ => sc
 | _ => { kind := .function, names := [], isGenerator := false, isCoroutine := false }
abbrev qL : qt := fun _ _ _ _ _ _ => False
abbrev E0 : XK := fun _ _ _ => False
theorem DT {X : Cx} : Passes qL X E0 := fun _ _ _ _ _ _ _ h => h.elim
structure O7 (K : PySem.W.Frag) (x qual : Str) (st : Stmt) (f : Addr) (fd : FuncData) : Prop where
 ex : ∃ (oc : Value) (od : Option Addr) (kV doc pm : Value) (an : Option Addr) (di ct : Value) (yl : Array (Option Value)),
  fd = PySem.W.fnOf x qual (nI st) (gq st) (ak st) .none kV doc pm an di ct /\ K.lookup f = some ⟨oc, od, .func fd, yl⟩ /\ PySem.W.codeIn K di qual = true
 kp : PySem.W.keepIn K (.ref f) = true
section
variable {P : Program} {w : World} {K : PySem.W.Frag} {mg : Str -> Option Value} {base : Heap}
end
section
variable {X : Cx}
theorem pv (i : Nat) {x : Str} {pos : Pos} (hN : X.N[i]? = some x := by rfl) (hv : GL X.env.scope x := by first | exact Or.inl rfl | exact Or.inr (Or.inl rfl) | exact Or.inr (Or.inr rfl)) (hd : (x == ("__debug__" : Str)) = false := by decide)
 (uM : (x == ("__classdict__" : Str)) = false := by decide) : PE X (.Name x pos) (Gr i) := Gu hN hv hd uM
end
theorem KL {A B : Prop} (h : B) : if false = true then A else B := by
 rw [if_neg Bool.false_ne_true]
 exact h
theorem KZ {A B : Prop} (h : A) : if true = true then A else B := by
 rw [if_pos rfl]
 exact h
def ao (H H' : Hp) : Prop := ∀ b o, H b = some o -> H' b = some o
theorem ao.refl (H : Hp) : ao H H := fun _ _ h => h
theorem ao.trans {H H1 H2 : Hp} (a : ao H H1) (b : ao H1 H2) : ao H H2 := fun c o h => b c o (a c o h)
theorem ao.seq {K : PySem.W.Frag} {H H' : Hp} {a : Addr} {xs : List V} (e : ao H H') (h : gf K H a xs) : gf K H' a xs := by
 rcases h with (h | ⟨o, h⟩) | h
 . exact .inl (.inl (e _ _ h))
 . exact .inl (.inr ⟨o, e _ _ h⟩)
 . exact .inr h
section
variable {κ : Type} [DecidableEq κ]
end
section
variable {X : Cx}
def DR (_ j : Int) : Prop := 0 < j /\ j.natAbs < 2 ^ 2000
theorem fL : j0 X (binaryOp .FloorDiv) (rI DR fun i j => .int (i / j)) := Ks fun i j _ _ _ _ _ hc q => by
 have e : i.fdiv j = i / j := Int.fdiv_eq_ediv_of_nonneg _ (Int.le_of_lt hc.1)
 have hl : j.natAbs.log2 < 9000 := by
  have h0 : j.natAbs ≠ 0 := by have := hc.1; omega
  have h2 : j.natAbs.log2 < 2000 := (Nat.log2_lt h0).mpr hc.2
  omega
 refine floordiv_int (by have := hc.1; omega) ?_ (.inl (PyProof.noPylong_of_log2 hl))
 rw [e]; exact q
inductive CD : V -> Value -> Prop where
 | ty (n : String) : CD (.ty n) (.type n)
 | ref (C : Addr) : CD (.ref C) (.ref C)
def AY (K : PySem.W.Frag) : List V -> Hp -> VK -> Prop := fun xs H Q => ∃ x c cv t b, xs = [x, c] /\ CD c cv /\ m7 K H x t /\ PySem.W.kitOne K t cv = some b /\ Q (.bl b) H
theorem nE : fN X (.builtin "isinstance") (AY X.K) := by
 intro pins s σ H xs us Q I r h
 obtain ⟨x, c, cv, t, b, rfl, hc, ty, e, q⟩ := h
 obtain ⟨u, w', rfl, r1, r2⟩ := vals2 r
 have ew : w' = cv := by cases hc <;> exact r2
 subst ew
 exact x3 I r1 ty e fun tk => ⟨.bl b, H, I.tok tk, rfl, q⟩
structure zR (K : PySem.W.Frag) (C : Addr) (m : Str) (f : Addr) : Prop where
 ga : PySem.W.specialIn K (.ref C) "__getattribute__" = some (some (.builtin "type.__getattribute__"))
 rd : PySem.W.readsIn K C (.type "type") = true
 fd : PySem.W.findCls K (.ref C) (.type "type") m = some (.val (.ref f))
 kp : PySem.W.keepIn K (.ref f) = true
end
mutual
inductive jQ (K : PySem.W.Frag) (H : Hp) : V -> PyData -> Prop where
 | cq : jQ K H .cq .none
 | bl (b : Bool) : jQ K H (.bl b) (.bool b)
 | int (i : Int) : jQ K H (.int i) (.int i)
 | str (x : Str) : jQ K H (.str x) (.str x)
 | tup {a : Addr} {xs : List V} {ds : List PyData} (h : yk K H a xs) (r : eG K H xs ds) : jQ K H (.ref a) (.tuple ds)
 | lst {a : Addr} {xs : List V} {ds : List PyData} (h : gf K H a xs) (r : eG K H xs ds) : jQ K H (.ref a) (.list ds)
inductive eG (K : PySem.W.Frag) (H : Hp) : List V -> List PyData -> Prop where
 | nil : eG K H [] []
 | cons {x : V} {d : PyData} {xs : List V} {ds : List PyData} (h : jQ K H x d) (r : eG K H xs ds) : eG K H (x :: xs) (d :: ds)
end
theorem yk.keeps {K : PySem.W.Frag} {H H' : Hp} {a : Addr} {xs : List V} (e : ao H H') (h : yk K H a xs) : yk K H' a xs := by
 rcases h with (h | ⟨o, h⟩) | h
 . exact .inl (.inl (e _ _ h))
 . exact .inl (.inr ⟨o, e _ _ h⟩)
 . exact .inr h
mutual
theorem jQ.keeps {K : PySem.W.Frag} {H H' : Hp} (e : ao H H') : ∀ {v : V} {d : PyData}, jQ K H v d -> jQ K H' v d
 | _, _, .cq => .cq
 | _, _, .bl b => .bl b
 | _, _, .int i => .int i
 | _, _, .str x => .str x
 | _, _, .tup h r => .tup (yk.keeps e h) (eG.keeps e r)
 | _, _, .lst h r => .lst (ao.seq e h) (eG.keeps e r)
theorem eG.keeps {K : PySem.W.Frag} {H H' : Hp} (e : ao H H') : ∀ {vs : List V} {ds : List PyData}, eG K H vs ds -> eG K H' vs ds
 | _, _, .nil => .nil
 | _, _, .cons h r => .cons (jQ.keeps e h) (eG.keeps e r)
end
section
variable {X : Cx} {pins : List (Addr × Obj)} {σ : St} {H : Hp} {s : Shared}
mutual
theorem jQ.reads (I : Inv X pins σ H s) : ∀ {v : V} {d : PyData} {u : Value}, jQ X.K H v d -> RelV v u -> ∃ as, Reads s.heap u d as
 | _, _, _, .cq, r => by cases r; exact ⟨_, .none⟩
 | _, _, _, .bl b, r => by cases r; exact ⟨_, .bool b⟩
 | _, _, _, .int i, r => by obtain ⟨t, rfl⟩ := r; exact ⟨_, .int i t⟩
 | _, _, _, .str x, r => by obtain ⟨t, rfl⟩ := r; exact ⟨_, .str x t⟩
 | _, _, _, .tup h q, r => by
   cases r
   obtain ⟨aV, rv, ⟨o, h1, h2, n, h3⟩, _⟩ := I.tuple h
   obtain ⟨as, ra⟩ := eG.reads I q rv
   exact ⟨_, .tuple h1 h2 h3 (by simpa using ra)⟩
 | _, _, _, .lst h q, r => by
   cases r
   obtain ⟨aV, rv, ⟨o, n, h1, h2, _, h3⟩, _⟩ := I.list h
   obtain ⟨as, ra⟩ := eG.reads I q rv
   exact ⟨_, .list h1 h2 h3 (by simpa using ra)⟩
theorem eG.reads (I : Inv X pins σ H s) : ∀ {vs : List V} {ds : List PyData} {us : List Value}, eG X.K H vs ds -> Vals vs us -> ∃ as, ReadsAll s.heap us ds as
 | _, _, _, .nil, r => by cases r; exact ⟨_, .nil⟩
 | _, _, _, .cons h q, r => by
   cases r with
   | cons r1 r2 =>
     obtain ⟨as, ra⟩ := jQ.reads I h r1
     obtain ⟨bs, rb⟩ := eG.reads I q r2
     exact ⟨_, .cons ra rb⟩
end
end
section
variable {X : Cx}
def II (K : PySem.W.Frag) (f : Bool -> Bool) : R2 := fun x y H Q => ∃ d e, jQ K H x d /\ jQ K H y e /\ d.canLay0 = true /\ e.canLay0 = true /\ d.depth <= 8 /\ Q (.bl (f (PyData.eqv d e))) H
theorem EA (hu : X.A.units + 8 < cLine) : j0 X (compareOp .Eq) (II X.K id) := by
 intro pins s σ H x y v u Q I rx ry h
 obtain ⟨d, e, hd, he, c1, c2, hn, q⟩ := h
 obtain ⟨as, ra⟩ := hd.reads I rx
 obtain ⟨bs, rb⟩ := he.reads I ry
 exact SeqAt.compareEq_reads ra rb c1 c2 (by have := Nat.min_le_left d.depth e.depth; omega) ⟨.bl _, H, I, rfl, q⟩
theorem Fz (hu : X.A.units + 8 < cLine) : j0 X (compareOp .NotEq) (II X.K not) := by
 intro pins s σ H x y v u Q I rx ry h
 obtain ⟨d, e, hd, he, c1, c2, hn, q⟩ := h
 obtain ⟨as, ra⟩ := hd.reads I rx
 obtain ⟨bs, rb⟩ := he.reads I ry
 exact SeqAt.compareNe_reads ra rb c1 c2 (by have := Nat.min_le_left d.depth e.depth; omega) ⟨.bl _, H, I, rfl, q⟩
end
structure qX (P : Program) (w : World) (K : PySem.W.Frag) (mg : Str -> Option Value) (base : Heap) (k : Nat) (f : Addr) (ps : List Str) (cU : List V) (sp : Sp) : Prop where
 ex : ∃ (fd : FuncData) (ds : List Value), bh P w K mg base qL k f fd ps sp /\ Binds K fd ps ds /\ Vals cU ds
section
variable {X : Cx} {k : Nat} {f C : Addr} {ps : List Str} {sp : Sp} {cU : List V} {x m : Str} {p pos apos : Pos} {e o : Expr} {es : List Expr} {ta : TE} {t : TA}
theorem CY (c : qX X.prog X.w X.K X.mg X.base k f ps cU sp) (hr : c5 k X.A) (hg : Gl X x) (hm : X.mg x = some (.ref f)) (hk : PySem.W.keepIn X.K (.ref f) = true)
 (ha : PA X (e :: es) t) (ph : (x == ("__debug__" : Str)) = false := by decide) (he : starEach (e :: es) X.env = (false, eval e X.env) :: starEach es X.env := by rfl) (k8 : (backTo pos (starEach es X.env)).any (·.1) = false := by rfl) :
 PE X (.Call (.Name x p) (e :: es) [] pos) (xh sp cU E0 t) := by
 obtain ⟨fd, ds, F, hb, hd⟩ := c.ex
 exact BV F hr hg hm hk hb hd DT ha ph he k8
theorem A0 {pl : Sem Bool} (he : PE X o ta) (c : pw X.K C) (hm : Meth X.K C m f) (F : qX X.prog X.w X.K X.mg X.base k f ps cU sp) (hr : c5 k X.A)
 (ht : eval (.Call (.Attribute o m apos) [] [] pos) X.env = (do
  let ov <- eval o X.env
  standAt apos.atName
  let (f, first) <- holding [ov] (getMethod ov m pl)
  callWith pos f first (backTo pos (starEach [] X.env)) (backToKw pos (keywordEach [] X.env))) := by rfl) :
 PE X (.Call (.Attribute o m apos) [] [] pos) (wW C m sp cU E0 ta yW) := by
 obtain ⟨fd, ds, F, hb, hd⟩ := F.ex
 exact zO he c hm F hr hb hd DT ht
end
structure cy (K : PySem.W.Frag) (x qual : Str) (st : Stmt) (f : Addr) (dV : Value) (fd : FuncData) : Prop where
 ex : ∃ (oc : Value) (od : Option Addr) (kV doc pm : Value) (an : Option Addr) (di ct : Value) (yl : Array (Option Value)),
  fd = PySem.W.fnOf x qual (nI st) (gq st) (ak st) dV kV doc pm an di ct /\ K.lookup f = some ⟨oc, od, .func fd, yl⟩ /\ PySem.W.codeIn K di qual = true
theorem wM {K : PySem.W.Frag} {x qual : Str} {st : Stmt} {f : Addr} {oc : Value} {od an : Option Addr} {yl : Array (Option Value)} {dV kV doc pm di ct : Value} (l : K.lookup f = some ⟨oc, od, .func (PySem.W.fnOf x qual (nI st) (gq st) (ak st) dV kV doc pm an di ct), yl⟩)
 (c : PySem.W.codeIn K di qual = true) : cy K x qual st f dV (PySem.W.fnOf x qual (nI st) (gq st) (ak st) dV kV doc pm an di ct) := ⟨⟨oc, od, kV, doc, pm, an, di, ct, yl, rfl, l, c⟩⟩
section
variable {P : Program} {w : World} {K : PySem.W.Frag} {mg : Str -> Option Value} {base : Heap}
theorem cy.ok {x qual : Str} {st : Stmt} {f : Addr} {dV : Value} {fd : FuncData} {N ps : List Str} {k : Nat} {sp : Sp} (F : cy K x qual st f dV fd) (S : aH N ps (ak st)) (len : ∀ vs H Q E, sp vs H Q E -> vs.length = ps.length)
 (pV : ∀ (di : Value) (A : Around) (outer : List Env) (s : Shared) (H : Hp) (vs : List V) (Q : VK) (E : XK), c5 k (A.deeper (envOfC qual (ak st) s.heap.objs.size f di)) -> sp vs H Q E ->
  ∃ t, qK (gC qL P w K mg base N qual (ak st) f di A outer s H E).JV (gq st) t /\ t { nx := fun _ H' => Q .cq H', rt := Q } (start N vs) H) : bh P w K mg base qL (k + 1) f fd ps sp := by
 obtain ⟨oc, od, kV, doc, pm, an, di, ct, yl, rfl, lk, uM⟩ := F.ex
 refine yT lk uM S len fun A outer s H vs Q E hr pP => ?_
 obtain ⟨t, h, q⟩ := pV di A outer s H vs Q E hr pP
 exact ⟨t, h.JV, q⟩
theorem cy.binds {x qual : Str} {st : Stmt} {f : Addr} {dV : Value} {fd : FuncData} {ps : List Str} {ds : List Value} (F : cy K x qual st f dV fd)
 (h : ∀ (kV doc pm : Value) (an : Option Addr) (di ct : Value), Binds K (PySem.W.fnOf x qual (nI st) (gq st) (ak st) dV kV doc pm an di ct) ps ds) : Binds K fd ps ds := by
 obtain ⟨oc, od, kV, doc, pm, an, di, ct, yl, rfl, lk, uM⟩ := F.ex
 exact h kV doc pm an di ct
end
structure sM (K : PySem.W.Frag) (T : Addr) (items : Array Value) : Prop where
 ex : ∃ (o : Obj) (n : Nat), K.lookup T = some o /\ o.data = .seq items n
structure Ht (K : PySem.W.Frag) (C : Addr) : Prop where
 ha : PySem.W.findIn K (.ref C) "__class__" = some (some (.builtin "object.__class__"))
 hn : PySem.W.specialIn K (.builtin "object.__class__") "__get__" = some (some (.builtin "getset_descriptor.__get__"))
 ht : PySem.W.takesIn K (.builtin "object.__class__") = some true
 hm : PySem.W.mroIn K C (.type "object") = some true
section
variable {σ : St} {H : Hp} {Q : VK} {D : Ends} {K : PySem.W.Frag}
theorem GA (h : D.nx σ H) : Dz D σ H := h
theorem Jy {te : TE} (h : te σ H D.rt) : IC te D σ H := h
theorem FX {te : TE} (h : te σ H fun _ H1 => D.nx σ H1) : Eb te D σ H := h
theorem IK {c : TT} {t u : TS} (h : c σ H fun b H1 => if b = true then t D σ H1 else u D σ H1) : Jb c t u D σ H := h
theorem Jx {te : TE} {i : Nat} (h : te σ H fun x H1 => D.nx (σ.set i (some x)) H1) : yB te (ja i) D σ H := h
theorem D3 {i : Nat} {v : V} (e : σ[i]? = some (some v)) (h : Q v H) : Gr i σ H Q := ⟨v, e, h⟩
theorem Oc {v : V} (h : Q v H) : tC v σ H Q := h
theorem KA {r : R2} {ta tb : TE} (h : ta σ H fun x H1 => tb σ H1 fun y H2 => r x y H2 Q) : HM r ta tb σ H Q := h
theorem LD {r : V -> Hp -> VK -> Prop} {ta : TE} (h : ta σ H fun x H1 => r x H1 Q) : L8 r ta σ H Q := h
theorem LU {g : Int -> Int -> V} {i j : Int} (h : Q (g i j) H) : BM g (.int i) (.int j) H Q := ⟨i, j, rfl, rfl, h⟩
theorem M0 {C : Int -> Int -> Prop} {g : Int -> Int -> V} {i j : Int} (c : C i j) (h : Q (g i j) H) : rI C g (.int i) (.int j) H Q := ⟨i, j, rfl, rfl, c, h⟩
theorem Oh {g : Int -> V} {i : Int} (h : Q (g i) H) : rU g (.int i) H Q := ⟨i, rfl, h⟩
theorem F2 {t : TE} {Q : Bool -> Hp -> Prop} (h : t σ H fun x H' => ∃ k, x = .bl k /\ Q k H') : zl t σ H Q := h
theorem HQ {t u : TT} {Q : Bool -> Hp -> Prop} (h : t σ H fun c H1 => if c = true then u σ H1 Q else Q false H1) : Hu t u σ H Q := h
theorem Ko {t u : TT} {Q : Bool -> Hp -> Prop} (h : t σ H fun c H1 => if c = true then Q true H1 else u σ H1 Q) : Mb t u σ H Q := h
theorem IJ {t : TT} {Q : Bool -> Hp -> Prop} (h : t σ H fun c H1 => Q (!c) H1) : Jh t σ H Q := h
theorem F7 {ta tb : TE} (h : ta σ H fun x H1 => ∃ c, x = .bl c /\ if c = true then tb σ H1 Q else Q (.bl false) H1) : D1 ta tb σ H Q := h
theorem Ia {ta tb : TE} (h : ta σ H fun x H1 => ∃ c, x = .bl c /\ if c = true then Q (.bl true) H1 else tb σ H1 Q) : Ik ta tb σ H Q := h
theorem EW {ta : TE} (h : ta σ H fun x H1 => ∃ c, x = .bl c /\ Q (.bl (!c)) H1) : DS ta σ H Q := h
theorem Hb {t : TT} {ta tb : TE} (h : t σ H fun c H1 => if c = true then ta σ H1 Q else tb σ H1 Q) : Mp t ta tb σ H Q := h
theorem Kg {b : Bool} {R : Bool -> Prop} (h : R b) : ∃ k, V.bl b = .bl k /\ R k := ⟨b, rfl, h⟩
theorem HG {Q : List V -> Hp -> Prop} (h : Q [] H) : yW σ H Q := h
theorem EZ {ta : TE} {tr : TA} {Q : List V -> Hp -> Prop} (h : ta σ H fun x H1 => tr σ H1 fun xs H2 => Q (x :: xs) H2) : Dq ta tr σ H Q := h
theorem LA {r : List V -> Hp -> VK -> Prop} {t : TA} (h : t σ H fun vs H1 => r vs H1 Q) : Lh r t σ H Q := h
theorem G3 {ta : TE} {f : Str} (h : ta σ H fun x H1 => ∃ a C dx fs v, x = .ref a /\ H1 a = some (.ins C dx fs) /\ pw K C /\ aJ K C f /\ fs.lookup f = some v /\ Q v H1) : Ha K ta f σ H Q := h
theorem zM {A B : Prop} (h : A) : if true = true then A else B := by rw [if_pos rfl]; exact h
theorem yc {A B : Prop} (h : B) : if false = true then A else B := by rw [if_neg Bool.false_ne_true]; exact h
end
section
variable {X : Cx} {e : Expr} {es : List Expr}
theorem PE.or {t u : TE} (h1 : PE X e t) (h2 : PE X e u) : PE X e (fun σ H Q => t σ H Q \/ u σ H Q) := fun pins s σ H Q I h => h.elim (h1 pins s σ H Q I) (h2 pins s σ H Q I)
theorem PE.weak {t u : TE} (h1 : PE X e t) (h : ∀ σ H Q, u σ H Q -> t σ H Q) : PE X e u := fun pins s σ H Q I q => h1 pins s σ H Q I (h σ H Q q)
def mA (t : TA) : TA := fun σ H Q => ∃ Q' : List V -> Hp -> Prop, t σ H Q' /\ ∀ v H', Q' v H' -> Q v H'
theorem PA.m {t : TA} (h : PA X es t) : PA X es (mA t) := fun pos pins s σ H Q I ⟨Q', q, m⟩ => bO (h pos pins s σ H Q' I q) fun _ _ ⟨v, H', I', r, z⟩ => ⟨v, H', I', r, m v H' z⟩
end
def KS : Key -> PyData
 | .inl i => .int i
 | .inr x => .str x
mutual
inductive Dv (H : Hp) : V -> PyData -> Prop where
 | cq : Dv H .cq .none
 | bl (b : Bool) : Dv H (.bl b) (.bool b)
 | int (i : Int) : Dv H (.int i) (.int i)
 | str (x : Str) : Dv H (.str x) (.str x)
 | tup {a : Addr} {xs : List V} {ds : List PyData} (h : H a = some (.tup xs)) (r : cj H xs ds) : Dv H (.ref a) (.tuple ds)
 | lst {a : Addr} {xs : List V} {ds : List PyData} (h : Rd H a (.lst xs)) (r : cj H xs ds) : Dv H (.ref a) (.list ds)
 | dct {a : Addr} {dN : List (Key × V)} {ds : List (PyData × PyData)} (h : H a = some (.dK dN)) (r : C7 H dN ds) : Dv H (.ref a) (.dict ds)
inductive C7 (H : Hp) : List (Key × V) -> List (PyData × PyData) -> Prop where
 | nil : C7 H [] []
 | cons {k : Key} {x : V} {d : PyData} {xs : List (Key × V)} {ds : List (PyData × PyData)} (h : Dv H x d) (r : C7 H xs ds) : C7 H ((k, x) :: xs) ((KS k, d) :: ds)
inductive cj (H : Hp) : List V -> List PyData -> Prop where
 | nil : cj H [] []
 | cons {x : V} {d : PyData} {xs : List V} {ds : List PyData} (h : Dv H x d) (r : cj H xs ds) : cj H (x :: xs) (d :: ds)
end
mutual
theorem Dv.has {K : PySem.W.Frag} {H : Hp} : ∀ {v : V} {d : PyData}, Dv H v d -> d.canLay0 = true -> jQ K H v d
 | _, _, .cq, _ => .cq
 | _, _, .bl b, _ => .bl b
 | _, _, .int i, _ => .int i
 | _, _, .str x, _ => .str x
 | _, _, .tup h r, c => .tup (.of h) (cj.has r (by simpa [PyData.canLay0] using c))
 | _, _, .lst h r, c => .lst (.inl h) (cj.has r (by simpa [PyData.canLay0] using c))
 | _, _, .dct h r, c => by simp [PyData.canLay0] at c
theorem cj.has {K : PySem.W.Frag} {H : Hp} : ∀ {v : List V} {d : List PyData}, cj H v d -> PyData.canLayAll0 d = true -> eG K H v d
 | _, _, .nil, _ => .nil
 | _, _, .cons h r, c => by
   have c' := c
   simp only [PyData.canLayAll0, Bool.and_eq_true] at c'
   exact .cons (Dv.has h c'.1) (cj.has r c'.2)
end
theorem ao.rd {H H' : Hp} {a : Addr} {u : HO} (e : ao H H') (h : Rd H a u) : Rd H' a u := by
 rcases h with h | ⟨o, h⟩
 . exact .inl (e _ _ h)
 . exact .inr ⟨o, e _ _ h⟩
mutual
theorem Dv.keeps {H H' : Hp} (e : ao H H') : ∀ {v : V} {d : PyData}, Dv H v d -> Dv H' v d
 | _, _, .cq => .cq
 | _, _, .bl b => .bl b
 | _, _, .int i => .int i
 | _, _, .str x => .str x
 | _, _, .tup h r => .tup (e _ _ h) (cj.keeps e r)
 | _, _, .lst h r => .lst (e.rd h) (cj.keeps e r)
 | _, _, .dct h r => .dct (e _ _ h) (C7.keeps e r)
theorem C7.keeps {H H' : Hp} (e : ao H H') : ∀ {v : List (Key × V)} {d : List (PyData × PyData)}, C7 H v d -> C7 H' v d
 | _, _, .nil => .nil
 | _, _, .cons h r => .cons (Dv.keeps e h) (C7.keeps e r)
theorem cj.keeps {H H' : Hp} (e : ao H H') : ∀ {v : List V} {d : List PyData}, cj H v d -> cj H' v d
 | _, _, .nil => .nil
 | _, _, .cons h r => .cons (Dv.keeps e h) (cj.keeps e r)
end
theorem cj.length {H : Hp} : ∀ {xs : List V} {ds : List PyData}, cj H xs ds -> xs.length = ds.length
 | _, _, .nil => rfl
 | _, _, .cons _ r => by simp [cj.length r]
theorem cj.get {H : Hp} : ∀ {xs : List V} {ds : List PyData} {i : Nat} {d : PyData}, cj H xs ds -> ds[i]? = some d -> ∃ x, xs[i]? = some x /\ Dv H x d
 | _, _, _, _, .nil, e => by simp at e
 | _, _, 0, _, .cons h _, e => by simp at e; subst e; exact ⟨_, rfl, h⟩
 | _, _, i + 1, x, .cons _ r, e => by
   obtain ⟨d, h1, h2⟩ := cj.get (i := i) (d := x) r (by simpa using e)
   exact ⟨d, by simpa using h1, h2⟩
theorem cj.append {H : Hp} : ∀ {xs ys : List V} {ds es : List PyData}, cj H xs ds -> cj H ys es -> cj H (xs ++ ys) (ds ++ es)
 | _, _, _, _, .nil, s => s
 | _, _, _, _, .cons r t, s => .cons r (cj.append t s)
theorem Dv.str_inv {H : Hp} {v : V} {i : Str} (h : Dv H v (.str i)) : v = .str i := by cases h; rfl
def sg (H : Hp) (d : PyData) (Q : VK) : Prop := match d with
 | .none => Q .cq H
 | .bool b => Q (.bl b) H
 | .int i => Q (.int i) H
 | .str x => Q (.str x) H
 | d => ∀ v, Dv H v d -> Q v H
theorem sg.use {H : Hp} {d : PyData} {Q : VK} (g : sg H d Q) {v : V} (h : Dv H v d) : Q v H := by
 cases h with
 | cq => exact g
 | bl b => exact g
 | int i => exact g
 | str x => exact g
 | tup h r => exact g _ (.tup h r)
 | lst h r => exact g _ (.lst h r)
 | dct h r => exact g _ (.dct h r)
theorem wF {H : Hp} {xs : List V} {ds : List PyData} {i : Int} {d : PyData} (r : cj H xs ds) (h : oI ds i = some d) : ∃ x, oI xs i = some x /\ Dv H x d := by
 unfold oI at h ⊢
 rw [r.length]
 cases e : yb ds.length i with
 | none => rw [e] at h; simp at h
 | some j =>
   rw [e] at h
   have h' : ds[j]? = some d := by simpa using h
   obtain ⟨x, h1, h2⟩ := r.get h'
   exact ⟨x, by simpa using h1, h2⟩
def rz (H : Hp) (v : V) (ds : List PyData) : Prop := Dv H v (.tuple ds) \/ Dv H v (.list ds)
def Hw : R2 := fun x y H Q => ∃ ds i d, y = .int i /\ rz H x ds /\ oI ds i = some d /\ sg H d Q
theorem BQ {K : PySem.W.Frag} {x y : V} {H : Hp} {Q : VK} (h : Hw x y H Q) : MT K x y H Q := by
 obtain ⟨ds, i, d, rfl, hs, hi, g⟩ := h
 rcases hs with hs | hs
 . cases hs with
   | tup h r =>
     obtain ⟨v, h1, h2⟩ := wF r hi
     exact .inr (.inl ⟨_, _, i, v, rfl, rfl, .of h, h1, g.use h2⟩)
 . cases hs with
   | lst h r =>
     obtain ⟨v, h1, h2⟩ := wF r hi
     exact .inl ⟨_, _, i, v, rfl, rfl, .inl h, h1, g.use h2⟩
section
variable {X : Cx}
def Ew : R2 := fun x y H Q => Hw x y H Q \/ Gv x y H Q
theorem Lc : zo X Ew := fun value slice pins s σ H x y v u Q I r1 r2 h => EB value slice pins s σ H x y v u Q I r1 r2 (h.elim BQ fun z => .inr (.inr z))
def yZ : List V -> Hp -> VK -> Prop := fun xs H Q => (∃ v ds, xs = [v] /\ rz H v ds /\ Q (.int (ds.length : Nat)) H) \/ ∃ z, xs = [.str z] /\ z.length <= sizeLine /\ Q (.int (z.length : Nat)) H
theorem x5 : fN X (.builtin "len") yZ := fun pins s σ H xs us Q I r h => by
 rcases h with ⟨v, ds, rfl, hs, q⟩ | h
 . rcases hs with hs | hs
   . cases hs with
     | tup h t => exact iy pins s σ H _ us Q I r ⟨_, _, rfl, .inr (.of h), by rw [t.length]; exact q⟩
   . cases hs with
     | lst h t => exact iy pins s σ H _ us Q I r ⟨_, _, rfl, .inl (.inl h), by rw [t.length]; exact q⟩
 . exact se pins s σ H _ us Q I r h
def JC : PyData -> String
 | .none => "NoneType" | .bool _ => "bool" | .int _ => "int" | .str _ => "str" | .list _ => "list" | .tuple _ => "tuple" | .dict _ => "dict"
def zW (t n : String) : Option Bool := if ((Value.type t) == (Value.type n)) = true then some true else if PySem.W.kitMeta n = true then (PySem.fastBuiltinMro t).map (·.contains (.type n)) else none
theorem zc {K : PySem.W.Frag} {t n : String} {b : Bool} (h : zW t n = some b) : PySem.W.kitOne K (.type t) (.type n) = some b := h
def FY (t n : String) : Bool := t == n || (t == "bool" && n == "int")
theorem xN : (["NoneType", "bool", "int", "str", "list", "tuple", "dict"].all fun t => ["int", "bool", "str", "list", "tuple", "dict"].all fun n => zW t n == some (FY t n)) = true := by decide +kernel
theorem zC {t n : String} (ht : t ∈ ["NoneType", "bool", "int", "str", "list", "tuple", "dict"]) (hn : n ∈ ["int", "bool", "str", "list", "tuple", "dict"]) : zW t n = some (FY t n) := by
 have h := List.all_eq_true.mp (List.all_eq_true.mp xN t ht) n hn
 exact beq_iff_eq.mp h
theorem C6 (d : PyData) : JC d ∈ ["NoneType", "bool", "int", "str", "list", "tuple", "dict"] := by
 cases d <;> simp [JC]
theorem Dv.ty {K : PySem.W.Frag} {H : Hp} {v : V} {d : PyData} (h : Dv H v d) : m7 K H v (.type (JC d)) := by
 cases h with
 | cq => exact .cq
 | bl b => exact .bl b
 | int i => exact .int i
 | str x => exact .str x
 | tup h r => exact .tup h
 | lst h r =>
   rcases h with h | ⟨o, h⟩
   . exact .lst h
   . exact .uL h
 | dct h r => exact .dK h
theorem vi {K : PySem.W.Frag} {H : Hp} {v : V} {d : PyData} {n : String} {Q : VK} (h : Dv H v d) (hn : n ∈ ["int", "bool", "str", "list", "tuple", "dict"]) (q : Q (.bl (FY (JC d) n)) H) : AY K [v, .ty n] H Q :=
 ⟨v, .ty n, .type n, _, _, rfl, .ty n, h.ty, zc (zC (C6 d) hn), q⟩
def zY (K : PySem.W.Frag) (f : Bool -> Bool) : R2 := fun x y H Q => (B5 x y = true /\ Q (.bl (f (decide (x = y)))) H) \/ ∃ d e, Dv H x d /\ Dv H y e /\ d.canLay0 = true /\ e.canLay0 = true /\ d.depth <= 8 /\ Q (.bl (f (PyData.eqv d e))) H
theorem aY (hu : X.A.units + 8 < cLine) : j0 X (compareOp .Eq) (zY X.K id) := fun pins s σ H x y v u Q I rx ry h => by
 rcases h with h | ⟨d, e, h1, h2, h3, h4, h5, h6⟩
 . exact IH pins s σ H x y v u Q I rx ry h
 . exact EA hu pins s σ H x y v u Q I rx ry ⟨d, e, h1.has h3, h2.has h4, h3, h4, h5, h6⟩
theorem vR (hu : X.A.units + 8 < cLine) : j0 X (compareOp .NotEq) (zY X.K not) := fun pins s σ H x y v u Q I rx ry h => by
 rcases h with h | ⟨d, e, h1, h2, h3, h4, h5, h6⟩
 . exact Jg pins s σ H x y v u Q I rx ry h
 . exact Fz hu pins s σ H x y v u Q I rx ry ⟨d, e, h1.has h3, h2.has h4, h3, h4, h5, h6⟩
variable {es : List Expr} {t : TA} {pos : Pos}
def El (xs : List V) (H1 : Hp) (Q : VK) : Prop := xs.length <= sizeLine /\ ∃ ds, cj H1 xs ds /\ ∀ p H2, ao H1 H2 -> H1 p = none -> H2 p = some (.tup xs) -> Dv H2 (.ref p) (.tuple ds) -> Q (.ref p) H2
def zP (xs : List V) (H1 : Hp) (Q : VK) : Prop := xs.length <= sizeLine /\ ∃ ds, cj H1 xs ds /\ ∀ p H2, ao H1 H2 -> H1 p = none -> H2 p = some (.lst xs) -> cj H2 xs ds -> Dv H2 (.ref p) (.list ds) -> Q (.ref p) H2
def DL (t : TA) : TE := fun σ H Q => t σ H fun xs H1 => El xs H1 Q
theorem wL {x1} (h : PA X es t) : PE X (.Tuple es x1 pos) (DL t) := PE.weak (EV h.m) fun σ H Q q => ⟨_, q, fun xs H1 ⟨hl, ds, hd, k⟩ => ⟨hl, fun p hp => by
 have sm : ao H1 (upd H1 p (.tup xs)) := fun b u e => by rw [aK (cf e hp)]; exact e
 exact k p _ sm hp aO (.tup aO (hd.keeps sm))⟩⟩
def DY (t : TA) : TE := fun σ H Q => t σ H fun xs H1 => zP xs H1 Q
theorem bu (h : PA X es t) : PE X (.List es pos) (DY t) := PE.weak (FN h.m) fun σ H Q q => ⟨_, q, fun xs H1 ⟨hl, ds, hd, k⟩ => ⟨hl, fun p hp => by
 have sm : ao H1 (upd H1 p (.lst xs)) := fun b u e => by rw [aK (cf e hp)]; exact e
 exact k p _ sm hp aO (hd.keeps sm) (.lst (.of aO) (hd.keeps sm))⟩⟩
variable {st : Stmt} {rest : List Stmt}
def Ep (t u : TS) : TS := fun D σ H => ∃ R : St -> Hp -> Prop, t { D with nx := R } σ H /\ ∀ σ' H', R σ' H' -> u D σ' H'
theorem ai {t u : TS} (h1 : PS X st t) (h2 : qK X rest u) : qK X (st :: rest) (Ep t u) := by
 intro pins s σ H D I ⟨R, h, k⟩
 refine wpAny_execs_cons (bO (h1 pins s σ H { D with nx := R } I h) fun f s1 q => ?_)
 cases f with
 | next =>
   obtain ⟨σ', H', I', q⟩ := q
   exact h2 pins s1 σ' H' D I' (k _ _ q)
 | ret v => exact q
 | brk => exact q
 | cont => exact q
end
section
variable {σ : St} {H : Hp} {Q : VK} {D : Ends} {K : PySem.W.Frag}
theorem Fv {t u : TS} (h : t { D with nx := u D } σ H) : Ep t u D σ H := ⟨u D, h, fun _ _ z => z⟩
theorem F6 {t : TA} (h : t σ H fun xs H1 => El xs H1 Q) : DL t σ H Q := h
theorem Gb {xs : List V} {ds : List PyData} (hl : xs.length <= sizeLine) (hd : cj H xs ds) (k : ∀ v H2, ao H H2 -> Dv H2 v (.tuple ds) -> Q v H2) : El xs H Q := ⟨hl, ds, hd, fun p H2 s _ _ d => k (.ref p) H2 s d⟩
theorem Ga {t : TA} (h : t σ H fun xs H1 => zP xs H1 Q) : DY t σ H Q := h
theorem GZ {f : Bool -> Bool} {x y : V} (e : B5 x y = true) (h : Q (.bl (f (decide (x = y)))) H) : zY K f x y H Q := .inl ⟨e, h⟩
theorem DI {f : Bool -> Bool} {x y : V} {d e : PyData} (h1 : Dv H x d) (h2 : Dv H y e) (h3 : d.canLay0 = true) (h4 : e.canLay0 = true) (h5 : d.depth <= 8) (h : Q (.bl (f (PyData.eqv d e))) H) : zY K f x y H Q := .inr ⟨d, e, h1, h2, h3, h4, h5, h⟩
theorem Hv {x : V} {ds : List PyData} {i : Int} {d : PyData} (hs : rz H x ds) (hi : oI ds i = some d) (g : sg H d Q) : Ew x (.int i) H Q := .inl ⟨ds, i, d, rfl, hs, hi, g⟩
theorem EE {v : V} {ds : List PyData} (hs : rz H v ds) (h : Q (.int (ds.length : Nat)) H) : yZ [v] H Q := .inl ⟨v, ds, rfl, hs, h⟩
theorem Bz {i : Int} (h : Q (.int i) H) : sg H (.int i) Q := h
theorem BE (h : Q .cq H) : sg H .none Q := h
theorem Cw {i : Str} (h : Q (.str i) H) : sg H (.str i) Q := h
theorem HX {b : Bool} {A B : Prop} (h1 : b = true -> A) (h2 : b = false -> B) : if b = true then A else B := by
 cases b
 . exact KL (h2 rfl)
 . exact KZ (h1 rfl)
end
theorem c5.kc {k : Nat} {A : Around} (r : c5 k A) : A.units + 8 < cLine := Nat.lt_of_le_of_lt (by omega) r.units
theorem bC {H : Hp} {t : Addr} {o : HO} (h : H t = none) : ao H (upd H t o) := fun b u e => by rw [aK (cf e h)]; exact e
section
variable {σ : St} {H : Hp} {Q : VK} {D : Ends} {K : PySem.W.Frag}
theorem HS {v : V} {R : St -> Hp -> Prop} {rt : VK} {bk ct : St -> Hp -> Prop} (h : rt v H) : (Ends.mk R rt bk ct).rt v H := h
end
theorem u6 {K : PySem.W.Frag} {C : Addr} {b : Value} {r : Bool} (h : PySem.W.mroIn K C b = some r) : (PySem.W.clsIn K C).isSome = true := by
 obtain ⟨cd, e, _⟩ := Option.bind_eq_some_iff.mp h
 rw [e]; rfl
theorem xa {K : PySem.W.Frag} {C D : Addr} {b : Bool} (h2 : PySem.W.mroIn K D (.type "object") = some true) (h3 : PySem.W.typeIn K (.ref D) = some (.type "type")) (h : PySem.W.mroIn K C (.ref D) = some b) (hb : C = D -> b = true := by intro _; rfl) : PySem.W.kitOne K (.ref C) (.ref D) = some b := by
 unfold PySem.W.kitOne
 split
 . rename_i e
   have : C = D := by
    have := beq_iff_eq.mp e
    cases this; rfl
   rw [hb this]
 . show (if ((PySem.W.clsIn K D).isSome && PySem.W.typeIn K (.ref D) == some (.type "type")) = true then PySem.W.subIn K (.ref C) (.ref D) else none) = some b
   rw [u6 h2, h3]
   rw [if_pos (by decide +kernel)]
   exact h
def isInt : PyData -> Bool | .int _ => true | .bool _ => true | _ => false
def isBool : PyData -> Bool | .bool _ => true | _ => false
def isStr : PyData -> Bool | .str _ => true | _ => false
def HL : PyData -> Bool | .list _ => true | _ => false
def isTup : PyData -> Bool | .tuple _ => true | _ => false
def Js : PyData -> Bool | .dict _ => true | _ => false
section
variable {K : PySem.W.Frag} {H : Hp} {v : V} {d : PyData} {Q : VK}
theorem xO (h : Dv H v d) (q : Q (.bl (isInt d)) H) : AY K [v, .ty "int"] H Q := vi h (by decide) (by cases d <;> exact q)
theorem vB (h : Dv H v d) (q : Q (.bl (isBool d)) H) : AY K [v, .ty "bool"] H Q := vi h (by decide) (by cases d <;> exact q)
theorem xx (h : Dv H v d) (q : Q (.bl (isStr d)) H) : AY K [v, .ty "str"] H Q := vi h (by decide) (by cases d <;> exact q)
def tj (H : Hp) (v : V) (C : Addr) (fs : List (Str × V)) : Prop := ∃ p dx, v = .ref p /\ H p = some (.ins C dx fs)
theorem EJ {R : V -> Prop} {C : Addr} {fs : List (Str × V)} {f : Str} {x : V} (hp : tj H v C fs) (c : pw K C) (n : aJ K C f) (l : fs.lookup f = some x) (h : R x) :
 ∃ a C dx fs x, v = .ref a /\ H a = some (.ins C dx fs) /\ pw K C /\ aJ K C f /\ fs.lookup f = some x /\ R x := by
 obtain ⟨p, dx, rfl, e⟩ := hp
 exact ⟨p, C, dx, fs, x, rfl, e, c, n, l, h⟩
theorem xq {C : Addr} {m : Str} {fs : List (Str × V)} {R : Prop} (hp : tj H v C fs) (hl : fs.lookup m = none) (h : R) : ∃ a dx fs, v = .ref a /\ H a = some (.ins C dx fs) /\ fs.lookup m = none /\ R := by
 obtain ⟨p, dx, rfl, e⟩ := hp
 exact ⟨p, dx, fs, rfl, e, hl, h⟩
end
def look (f : Str) : List (Str × V) -> Option V
 | [] => none
 | (g, v) :: r => if f = g then some v else look f r
theorem oK (f : Str) : ∀ fs : List (Str × V), fs.lookup f = look f fs
 | [] => rfl
 | (g, v) :: r => by
   show (match f == g with | true => some v | false => r.lookup f) = if f = g then some v else look f r
   by_cases h : f = g
   . subst h; rw [if_pos rfl, beq_self_eq_true]
   . rw [if_neg h, beq_eq_false_iff_ne.mpr h]; exact oK f r
section
variable {X : Cx}
def Am (K : PySem.W.Frag) : R2 := fun x y H Q => Ew x y H Q \/ E2 K x y H Q
theorem cV : zo X (Am X.K) := fun value slice pins s σ H x y v u Q I r1 r2 h => h.elim (Lc value slice pins s σ H x y v u Q I r1 r2) (wA value slice pins s σ H x y v u Q I r1 r2)
def tu (K : PySem.W.Frag) : List V -> Hp -> VK -> Prop := fun xs H Q => yZ xs H Q \/ ∃ p ys, xs = [.ref p] /\ gf K H p ys /\ Q (.int ys.length) H
theorem cu : fN X (.builtin "len") (tu X.K) := fun pins s σ H xs us Q I r h => by
 rcases h with h | ⟨p, ys, e, hl, q⟩
 . exact x5 pins s σ H xs us Q I r h
 . exact iy pins s σ H xs us Q I r ⟨p, ys, e, .inl hl, q⟩
end
section
variable {σ : St} {H : Hp} {Q : VK} {D : Ends} {K : PySem.W.Frag}
theorem k7 {x : V} {ds : List PyData} {i : Int} {d : PyData} (hs : rz H x ds) (hi : oI ds i = some d) (g : sg H d Q) : Am K x (.int i) H Q := .inl (Hv hs hi g)
theorem Je {p : Addr} {xs : List V} {i : Int} {v : V} (hs : gf K H p xs) (hi : oI xs i = some v) (g : Q v H) : Am K (.ref p) (.int i) H Q := .inr ⟨p, xs, i, v, rfl, rfl, hs, hi, g⟩
theorem zS {v : V} {ds : List PyData} (hs : rz H v ds) (h : Q (.int (ds.length : Nat)) H) : tu K [v] H Q := .inl (EE hs h)
theorem FW {p : Addr} {xs : List V} (hs : gf K H p xs) (h : Q (.int xs.length) H) : tu K [.ref p] H Q := .inr ⟨p, xs, rfl, hs, h⟩
theorem Et {ta tv : TE} {f : Str} (h : tv σ H fun y H1 => ta σ H1 fun x H2 => ∃ a C dx fs, x = .ref a /\ H2 a = some (.ins C dx fs) /\ pw K C /\ aJ K C f /\ fs.length < 1000 /\ D.nx σ (upd H2 a (.ins C dx (gI f y fs)))) : HE K ta tv f D σ H := h
theorem BW {p C dx : Addr} {fs JS : List (Str × V)} {f : Str} {y : V} (hp : H p = some (.ins C dx fs)) (c : pw K C) (n : aJ K C f) (hl : fs.length < 1000) (e : gI f y fs = JS) (h : D.nx σ (upd H p (.ins C dx JS))) :
 ∃ a C dx fs, V.ref p = .ref a /\ H a = some (.ins C dx fs) /\ pw K C /\ aJ K C f /\ fs.length < 1000 /\ D.nx σ (upd H a (.ins C dx (gI f y fs))) := ⟨p, C, dx, fs, rfl, hp, c, n, hl, by rw [e]; exact h⟩
theorem Kn {R : Prop} (h : R) : V.cq = V.cq /\ R := ⟨rfl, h⟩
end
theorem bg {i : Int} (h1 : -(10 ^ 200) < i) (h2 : i < 10 ^ 200) : i.natAbs < 2 ^ 2000 := by
 have : (10 : Nat) ^ 200 < 2 ^ 2000 := by decide +kernel
 have h3 : i.natAbs < 10 ^ 200 := by
  have e : ((10 : Nat) ^ 200 : Nat) = ((10 : Int) ^ 200).toNat := by decide +kernel
  rw [e]
  generalize (10 : Int) ^ 200 = m at h1 h2 ⊢
  omega
 exact Nat.lt_trans h3 this
theorem Hy {i j : Int} (h1 : 0 < j) (h2 : j < 10 ^ 200) : DR i j := ⟨h1, bg (Int.lt_trans (by decide) h1) h2⟩
def cell (ns : List Int) (k : Nat) : Int := ns.getD k 0
def wc (K : PySem.W.Frag) : Sp := fun vs H Q _ => ∃ l ns k, vs = [.ref l, .int k] /\ gf K H l (ns.map V.int) /\ 0 <= k /\ Q (.int (cell ns k.toNat)) H
theorem Fi {K : PySem.W.Frag} {H : Hp} {Q : VK} {E : XK} {l : Addr} {ns : List Int} {k : Int} (h : gf K H l (ns.map V.int)) (hk : 0 <= k) (q : Q (.int (cell ns k.toNat)) H) : wc K [.ref l, .int k] H Q E := ⟨l, ns, k, rfl, h, hk, q⟩
theorem Bd {ns : List Int} {k : Int} (h0 : 0 <= k) (h : k < (ns.map V.int).length) : oI (ns.map V.int) k = some (.int (cell ns k.toNat)) := by
 obtain ⟨n, rfl⟩ := Int.eq_ofNat_of_zero_le h0
 refine jU ?_
 have hn : n < ns.length := by simpa using h
 simp [cell, hn, List.getD_eq_getElem?_getD]
theorem CW {ns : List Int} {k : Int} (h0 : 0 <= k) (h : ¬ k < (ns.map V.int).length) : cell ns k.toNat = 0 := by
 have : ns.length <= k.toNat := by simp at h; omega
 simp [cell, List.getD_eq_getElem?_getD, this]
def fQ (sp : Sp) (vs : List V) (H : Hp) (Q : VK) (E : XK) : Prop := ∃ ws, vs = ws /\ sp ws H Q E
theorem uE (sp : Sp) (vs : List V) (H : Hp) (Q : VK) (E : XK) : fQ sp vs H Q E = sp vs H Q E := propext ⟨fun ⟨_, e, h⟩ => e ▸ h, fun h => ⟨vs, rfl, h⟩⟩
def sC (sp : Sp) (cU : List V) (E : XK) (t : TA) : TE := fun σ H Q => t σ H fun vs H1 => fQ sp (vs ++ cU) H1 Q E
theorem xG (sp : Sp) (cU : List V) (E : XK) (t : TA) : sC sp cU E t = xh sp cU E t := by
 funext σ H Q; unfold sC xh; congr 1; funext vs H1; exact uE _ _ _ _ _
def r0 (C : Addr) (m : Str) (sp : Sp) (cU : List V) (E : XK) (ta : TE) (t : TA) : TE := fun σ H Q => ta σ H fun x H1 => ∃ a dx fs, x = .ref a /\ H1 a = some (.ins C dx fs) /\ fs.lookup m = none /\
 t σ H1 fun vs H2 => fQ sp (x :: (vs ++ cU)) H2 Q E
theorem xD (C : Addr) (m : Str) (sp : Sp) (cU : List V) (E : XK) (ta : TE) (t : TA) : r0 C m sp cU E ta t = wW C m sp cU E ta t := by
 funext σ H Q; unfold r0 wW; congr 1; funext x H1
 have : ∀ H2 : Hp, (fun vs H2 => fQ sp (x :: (vs ++ cU)) H2 Q E) = fun vs H2 => sp (x :: (vs ++ cU)) H2 Q E := fun _ => by funext vs H2; exact uE _ _ _ _ _
 rw [this H1]
def wQ (C : Addr) (sp : Sp) (vs : List V) (H1 : Hp) (Q : VK) (E : XK) : Prop := ∃ ws, vs = ws /\ ∀ x dx, H1 x = none -> H1 dx = none -> dx ≠ x ->
 sp (.ref x :: ws) (upd (upd H1 dx (.own x)) x (.ins C dx [])) (fun v H2 => v = .cq /\ Q (.ref x) H2) E
section
variable {X : Cx} {k : Nat} {f C : Addr} {ps : List Str} {sp : Sp} {cU : List V} {x m : Str} {p pos apos : Pos} {e o : Expr} {es : List Expr} {ta : TE} {t : TA}
theorem aF (c : qX X.prog X.w X.K X.mg X.base k f ps cU sp) (hr : c5 k X.A) (hg : Gl X x) (hm : X.mg x = some (.ref f)) (hk : PySem.W.keepIn X.K (.ref f) = true)
 (ha : PA X (e :: es) t) (ph : (x == ("__debug__" : Str)) = false := by decide) (he : starEach (e :: es) X.env = (false, eval e X.env) :: starEach es X.env := by rfl) (k8 : (backTo pos (starEach es X.env)).any (·.1) = false := by rfl) :
 PE X (.Call (.Name x p) (e :: es) [] pos) (sC sp cU E0 t) := by rw [xG]; exact CY c hr hg hm hk ha ph he k8
theorem mE {pl : Sem Bool} (he : PE X o ta) (c : pw X.K C) (hm : Meth X.K C m f) (F : qX X.prog X.w X.K X.mg X.base k f ps cU sp) (hr : c5 k X.A)
 (ht : eval (.Call (.Attribute o m apos) [] [] pos) X.env = (do
  let ov <- eval o X.env
  standAt apos.atName
  let (f, first) <- holding [ov] (getMethod ov m pl)
  callWith pos f first (backTo pos (starEach [] X.env)) (backToKw pos (keywordEach [] X.env))) := by rfl) :
 PE X (.Call (.Attribute o m apos) [] [] pos) (r0 C m sp cU E0 ta yW) := by rw [xD]; exact A0 he c hm F hr ht
end
section
variable {σ : St} {H : Hp} {Q : VK} {D : Ends} {K : PySem.W.Frag}
theorem CG {sp : Sp} {cU : List V} {E : XK} {t : TA} (h : t σ H fun vs H1 => fQ sp (vs ++ cU) H1 Q E) : sC sp cU E t σ H Q := h
theorem vN {sp : Sp} {vs ws : List V} {E : XK} (e : vs = ws) (h : sp ws H Q E) : fQ sp vs H Q E := ⟨ws, e, h⟩
theorem wG {C : Addr} {m : Str} {sp : Sp} {cU : List V} {E : XK} {ta : TE} {t : TA} (h : ta σ H fun x H1 => ∃ a dx fs, x = .ref a /\ H1 a = some (.ins C dx fs) /\ fs.lookup m = none /\ t σ H1 fun vs H2 => fQ sp (x :: (vs ++ cU)) H2 Q E) : r0 C m sp cU E ta t σ H Q := h
theorem Fs {b : Bool} {R : Bool -> Prop} (h : R b) : ∃ k, xZ K (.bl b) H k /\ R k := ⟨b, rfl, h⟩
end
theorem uz {n : Nat} (h : Nat.ble n 64 = true) : n <= sizeLine := Nat.le_trans (Nat.le_of_ble_eq_true h) (by decide)
theorem xr {H : Hp} {d : PyData} {Q : VK} (h : ∀ v, Dv H v d -> Q v H) : sg H d Q := by
 cases d with
 | none => exact h _ .cq
 | bool b => exact h _ (.bl b)
 | int i => exact h _ (.int i)
 | str x => exact h _ (.str x)
 | list l => exact h
 | tuple l => exact h
 | dict l => exact h
section
variable {X : Cx} {st : Stmt} {rest : List Stmt}
def D0 (t u : TS) : TS := Ep t u
theorem mj {t u : TS} (h1 : PS X st t) (h2 : qK X rest u) : qK X (st :: rest) (D0 t u) := ai h1 h2
end
section
variable {σ : St} {H : Hp} {Q : VK} {D : Ends} {K : PySem.W.Frag}
theorem rQ {t u : TS} (R : St -> Hp -> Prop) (h : t { D with nx := R } σ H) (k : ∀ σ' H', R σ' H' -> u D σ' H') : D0 t u D σ H := ⟨R, h, k⟩
theorem ED {xs : List V} {ds : List PyData} (hl : xs.length <= sizeLine) (hd : cj H xs ds) (k : ∀ p H2, ao H H2 -> H p = none -> H2 p = some (.lst xs) -> cj H2 xs ds -> Dv H2 (.ref p) (.list ds) -> Q (.ref p) H2) : zP xs H Q := ⟨hl, ds, hd, k⟩
end
section
variable {X : Cx}
def DG : R2 := fun x y H Q => ∃ i j, x = .int i /\ y = .int j /\ 0 < j /\ (0 <= i % j -> i % j < j -> Q (.int (i % j)) H)
theorem bW : j0 X (binaryOp .Mod) DG := fun pins s σ H x y v u Q I rx ry ⟨i, j, e1, e2, hj, h⟩ => Fn pins s σ H x y v u Q I rx ry ⟨i, j, e1, e2, hj, h (Int.emod_nonneg _ (by omega)) (Int.emod_lt_of_pos _ hj)⟩
end
section
variable {σ : St} {H : Hp} {Q : VK} {D : Ends} {K : PySem.W.Frag}
theorem EK {i j : Int} (hj : 0 < j) (h : 0 <= i % j -> i % j < j -> Q (.int (i % j)) H) : DG (.int i) (.int j) H Q := ⟨i, j, rfl, rfl, hj, h⟩
end
theorem bh.ex {ι : Type} {P : Program} {w : World} {K : PySem.W.Frag} {mg : Str -> Option Value} {base : Heap} {CX : qt} {k : Nat} {f : Addr} {fd : FuncData} {ps : List Str} {sp : ι -> Sp} (h : ∀ i, bh P w K mg base CX k f fd ps (sp i)) :
 bh P w K mg base CX k f fd ps (fun vs H Q E => ∃ i, sp i vs H Q E) :=
 ⟨fun vs H Q E ⟨i, q⟩ => (h i).len vs H Q E q, fun A outer s H args us vs Q E hr he hb hv ⟨i, q⟩ => (h i).run A outer s H args us vs Q E hr he hb hv q⟩
section
variable {σ : St} {H : Hp} {Q : VK} {D : Ends} {K : PySem.W.Frag}
def Jl (Pv : Nat -> St -> Hp -> Prop) (m : Nat) (tb : TS) (D : Ends) (σ : St) (H1 : Hp) : Prop := ∃ N : St -> Hp -> Prop, (∀ σ' H', N σ' H' -> ∃ m', m' < m /\ Pv m' σ' H') /\ tb { D with nx := N, ct := N, bk := D.nx } σ H1
theorem Ce {c : TT} {tb : TS} (Pv : Nat -> St -> Hp -> Prop) (h0 : ∃ m, Pv m σ H) (hs : ∀ m σ H, Pv m σ H -> c σ H fun b H1 => if b = true then Jl Pv m tb D σ H1 else D.nx σ H1) : y9 c tb D σ H := ⟨Pv, h0, hs⟩
end
end L2
namespace L2
theorem BK {n : Nat} (h : Nat.blt n 1000 = true) : n < 1000 := by
 unfold Nat.blt at h
 exact Nat.le_of_ble_eq_true h
end L2
namespace L2
open PySem PySem.Spec PyProof.Rows
section
variable {X : Cx}
def DF : List V -> Hp -> VK -> Prop := fun xs H Q => ∃ i, xs = [.int i] /\ i.natAbs.log2 < 1920 /\ Q (.str (toString i)) H
theorem bx : fN X (.type "str") DF := fun pins s σ H xs us Q I r h => rW pins s σ H xs us Q I r h
end
theorem Bu {i : Int} (h1 : -(10 ^ 200) < i) (h2 : i < 10 ^ 200) : i.natAbs.log2 < 1920 := by
 by_cases h0 : i.natAbs = 0
 . rw [h0]; decide
 . refine (Nat.log2_lt h0).mpr ?_
   have h3 : i.natAbs < 10 ^ 200 := by
    have e : ((10 : Nat) ^ 200 : Nat) = ((10 : Int) ^ 200).toNat := by decide +kernel
    rw [e]
    generalize (10 : Int) ^ 200 = m at h1 h2 ⊢
    omega
   exact Nat.lt_trans h3 (by decide +kernel)
section
variable {σ : St} {H : Hp} {Q : VK} {D : Ends} {K : PySem.W.Frag}
theorem Ei {i : Int} (h1 : -(10 ^ 200) < i) (h2 : i < 10 ^ 200) (h : Q (.str (toString i)) H) : DF [.int i] H Q := ⟨i, rfl, Bu h1 h2, h⟩
end
theorem Gf {H : Hp} {Q : VK} {i j p : Int} (c : E7 i j) (e : i ^ j.toNat = p) (h : Q (.int p) H) : rI E7 (fun i j => .int (i ^ j.toNat)) (.int i) (.int j) H Q := ⟨i, j, rfl, rfl, c, by show Q (.int (i ^ j.toNat)) H; rw [e]; exact h⟩
section
variable {X : Cx} {e : Expr}
def Ej (t u : TE) : TE := fun σ H Q => t σ H Q \/ u σ H Q
theorem uP {t u : TE} (h1 : PE X e t) (h2 : PE X e u) : PE X e (Ej t u) := PE.or h1 h2
end
section
variable {σ : St} {H : Hp} {Q : VK} {D : Ends} {K : PySem.W.Frag}
theorem wB {t u : TE} (h : t σ H Q) : Ej t u σ H Q := .inl h
theorem oJ {t u : TE} (h : u σ H Q) : Ej t u σ H Q := .inr h
def Kv (K : PySem.W.Frag) (x : V) (i j : Nat) (D : Ends) (σ : St) (H : Hp) : Prop := CA K 2 (qD (ja i) (qD (ja j) CK)) x σ H D.nx
theorem FZ {te : TE} {i j : Nat} (h : te σ H fun x H1 => Kv K x i j D σ H1) : yB te (CA K 2 (qD (ja i) (qD (ja j) CK))) D σ H := h
end
end L2
namespace L2
end L2
namespace L2
open PySem PySem.Spec PyProof.Rows PySem.W
structure Nn (lt : Nat -> Nat -> Bool) : Prop where
 Pa : ∀ a, lt a a = false
 OU : ∀ a b, lt a b = true -> lt b a = false
 Pp : ∀ a b c, lt a b = false -> lt b c = false -> lt a c = false
section
variable {lt : Nat -> Nat -> Bool} {n : Nat} {S : Shared -> Prop} {cmp : Nat -> Nat -> (Bool -> Shared -> Prop) -> Shared -> Prop}
structure Ix (n : Nat) (p : Array Nat) : Prop where
 sz : p.size = n
 pm : p.toList.Perm (List.range n)
def KU (n : Nat) (lt : Nat -> Nat -> Bool) (S : Shared -> Prop) (cmp : Nat -> Nat -> (Bool -> Shared -> Prop) -> Shared -> Prop) : Prop :=
 ∀ i j C s, i < n -> j < n -> S s -> (∀ s', S s' -> C (lt i j) s') -> cmp i j C s
variable (w : Nn lt) (ha : KU n lt S cmp)
include w ha
end
section
variable {X : Cx} {pins : List (Addr × Obj)} {σ : St} {H H' : Hp} {s : Shared} {a : Addr}
end
section
variable {prog : Program} {w : World} {A : Around} {E : Value -> Shared -> Prop} {s : Shared}
end
section
variable {X : Cx} {pins : List (Addr × Obj)} {σ : St} {H : Hp} {s : Shared} {k : Nat} {f : Addr} {fd : FuncData} {ps : List Str} {sp : Sp} {kf : V -> Int × Str} {A : Around}
structure N3 (X : Cx) (pins : List (Addr × Obj)) (σ : St) (H : Hp) (kf : V -> Int × Str) (a kS : Addr) (oa : Obj) (xs : List V) (s' : Shared) : Prop where
 mk ::
 ex : ∃ H' us e ys, Inv X pins σ H' s' /\ ao H H' /\ H' a = none /\ H' kS = none /\ s'.heap.get? a = some oa /\ s'.heap.get? kS = some (seqObj "list" (List.toArray us) e) /\ Vals ys us /\ cj H' ys (xs.map fun v => .tuple [.int (kf v).1, .str (kf v).2])
end
section
variable {X : Cx} {pins : List (Addr × Obj)} {σ : St} {H : Hp} {s : Shared} {k : Nat} {f : Addr} {fd : FuncData} {ps : List Str} {sp : Sp} {kf : V -> Int × Str} {A : Around}
end
section
variable {X : Cx} {k : Nat} {f : Addr} {ps : List Str} {sp : Sp} {e : Expr} {t : TA} {x : Str} {p p2 pos Lb : Pos}
end
end L2
namespace L2
open PySem PySem.Spec PyProof.Rows
theorem lG {scope : Scope} {env : Env} (h : ∀ x ∈ scope.names, x.2 = .free -> ∃ c, env.cells.lookup x.1 = some c) :
 ∃ cl, closureFor scope env = pure cl /\ (∀ x c, cl.lookup x = some c -> env.cells.lookup x = some c) /\ ∀ x ∈ scope.names, x.2 = .free -> ∃ c, cl.lookup x.1 = some c := by
 have key : ∀ (l : List (Str × NameKind)) (acc : List (Str × Addr)), (∀ x ∈ l, x.2 = .free -> ∃ c, env.cells.lookup x.1 = some c) -> (∀ x c, acc.lookup x = some c -> env.cells.lookup x = some c) ->
  ∃ cl, (forIn l acc (fun (x : Str × NameKind) (r : List (Str × Addr)) => (match x with
    | (name, kind) => if (kind == NameKind.free) = true then (do let c <- cellOf env name; pure (ForInStep.yield ((name, c) :: r))) else pure (ForInStep.yield r) : Sem (ForInStep (List (Str × Addr))))) : Sem _) = pure cl /\
    (∀ x c, cl.lookup x = some c -> env.cells.lookup x = some c) /\ (∀ x ∈ l, x.2 = .free -> ∃ c, cl.lookup x.1 = some c) /\ ∀ x, (∃ c, acc.lookup x = some c) -> ∃ c, cl.lookup x = some c := by
  intro l
  induction l with
  | nil => intro acc _ ha; exact ⟨acc, rfl, ha, fun _ z => (nomatch z), fun _ z => z⟩
  | cons p r ih =>
    intro acc hl ha
    obtain ⟨n, k⟩ := p
    rw [List.forIn_cons]
    by_cases hk : k = .free
    . subst hk
      obtain ⟨c, hc⟩ := hl (n, .free) List.mem_cons_self rfl
      have rn : cellOf env n = pure c := by unfold cellOf; rw [hc]
      obtain ⟨cl, e, h1, h2, h3⟩ := ih ((n, c) :: acc) (fun x hx => hl x (List.mem_cons_of_mem _ hx)) (fun x d hd => by
       rw [List.lookup_cons] at hd
       by_cases hx : x = n
       . subst hx; rw [beq_self_eq_true] at hd; cases hd; exact hc
       . rw [beq_eq_false_iff_ne.mpr hx] at hd; exact ha x d hd)
      refine ⟨cl, ?_, h1, fun x hx hf => ?_, fun x ⟨d, hd⟩ => h3 x ?_⟩
      . simp only [beq_self_eq_true, if_true, rn]
        exact e
      . rcases List.mem_cons.mp hx with rfl | hx
        . exact h3 n ⟨c, by rw [List.lookup_cons, beq_self_eq_true]⟩
        . exact h2 x hx hf
      . rw [List.lookup_cons]
        by_cases hx : x = n
        . subst hx; rw [beq_self_eq_true]; exact ⟨c, rfl⟩
        . rw [beq_eq_false_iff_ne.mpr hx]; exact ⟨d, hd⟩
    . obtain ⟨cl, e, h1, h2, h3⟩ := ih acc (fun x hx => hl x (List.mem_cons_of_mem _ hx)) ha
      refine ⟨cl, ?_, h1, fun x hx hf => ?_, h3⟩
      . have : (k == NameKind.free) = false := by simpa using hk
        simp only [this, Bool.false_eq_true, if_false]
        exact e
      . rcases List.mem_cons.mp hx with rfl | hx
        . exact absurd hf hk
        . exact h2 x hx hf
 obtain ⟨cl, e, h1, h2, _⟩ := key scope.names [] h (fun _ _ z => by simp at z)
 refine ⟨cl, ?_, h1, h2⟩
 unfold closureFor
 show (forIn scope.names [] _ >>= fun cs => pure cs) = _
 refine Eq.trans (congrArg (· >>= _) e) rfl
theorem iP {env : Env} {scope : Scope} {x : Str} : (relabel scope env).names.lookup x = (scope.names.lookup x).map fun k => if (k == NameKind.free && env.scope.kind == .function && env.kindOf x == some .cell) = true then .cell else k := by
 unfold relabel
 show List.lookup x (List.map _ scope.names) = _
 generalize scope.names = l
 induction l with
 | nil => rfl
 | cons p r ih =>
   obtain ⟨n, k⟩ := p
   rw [List.map_cons]
   dsimp only
   by_cases hx : x = n
   . subst hx
     by_cases hc : (k == NameKind.free && env.scope.kind == .function && env.kindOf x == some .cell) = true
     . rw [if_pos hc, List.lookup_cons, List.lookup_cons, beq_self_eq_true]; simp only [Option.map_some, if_pos hc]
     . rw [if_neg hc, List.lookup_cons, List.lookup_cons, beq_self_eq_true]; simp only [Option.map_some, if_neg hc]
   . have hb : (x == n) = false := beq_eq_false_iff_ne.mpr hx
     by_cases hc : (k == NameKind.free && env.scope.kind == .function && env.kindOf n == some .cell) = true
     . rw [if_pos hc, List.lookup_cons, List.lookup_cons, hb]; exact ih
     . rw [if_neg hc, List.lookup_cons, List.lookup_cons, hb]; exact ih
theorem mem_lookup {α : Type} {x : Str} {k : α} : ∀ {l : List (Str × α)}, l.lookup x = some k -> (x, k) ∈ l
 | [], h => by simp at h
 | (n, j) :: r, h => by
   rw [List.lookup_cons] at h
   by_cases hx : x = n
   . subst hx; rw [beq_self_eq_true] at h; cases h; exact List.mem_cons_self
   . rw [beq_eq_false_iff_ne.mpr hx] at h; exact List.mem_cons_of_mem _ (mem_lookup h)
def ck (X : Cx) (N : List Str) (scope : Scope) (cl : List (Str × Addr)) (C : Addr) (s : Shared) (H : Hp) (fp : List Addr) : Cx :=
 { X with N := N, cH := s, zL := H, env := compEnvC scope cl C X.env, outer := X.stack, stack := X.stack, ex := fp, fn := fun _ => false, pn := [], xe := fun _ _ => False }
structure fW (X : Cx) (T M : List Str) (scope : Scope) : Prop where
 kind : scope.kind = .function
 cell : ∀ y ∈ scope.names, y.2 ≠ .cell
 names : ∀ y ∈ scope.names, y.2 = .local -> scope.names.lookup y.1 = some .local
 free : ∀ y ∈ scope.names, y.2 = .free -> X.env.scope.names.lookup y.1 = some .cell \/ X.env.scope.names.lookup y.1 = some .free
 len : M.length = X.N.length
 old : ∀ (i : Nat) x, M[i]? = some x -> X.N[i]? = some x /\ scope.names.lookup x = some .free \/ scope.names.lookup x = none
section
variable {X : Cx} {pins : List (Addr × Obj)} {σ : St} {H : Hp} {s : Shared} {T M : List Str} {scope : Scope} {cl : List (Str × Addr)} {fp : List Addr}
theorem HH {C : Addr} (I : Inv X pins σ H s) (hN : fW X T M scope) (h1 : ∀ x c, cl.lookup x = some c -> X.env.cells.lookup x = some c) (h2 : ∀ x ∈ scope.names, x.2 = .free -> ∃ c, cl.lookup x.1 = some c)
 (hC : s.heap.objs.size <= C) (hf : ∀ b ∈ fp, j3 X pins H b) (CB : ∀ b ∈ fp, b < s.heap.objs.size) : (ck X (T ++ M) scope cl C s H fp).Ok where
 mod := I.ok.mod
 kind := hN.kind
 glob := I.ok.glob
 blt := I.ok.blt
 above := hC
 inj := fun x y c e1 e2 => I.ok.inj x y c (h1 x c e1) (h1 y c e2)
 has := fun x hx => by
  have tG : (relabel scope X.env).names.lookup x = some .cell \/ (relabel scope X.env).names.lookup x = some .free := hx
  rw [iP] at tG
  cases e : scope.names.lookup x with
  | none => rw [e] at tG; simp at tG
  | some k =>
    have hm := mem_lookup e
    have hk : k = .free := by
     rw [e] at tG
     simp only [Option.map_some, Option.some.injEq] at tG
     by_cases hf : k = .free
     . exact hf
     . have : (k == NameKind.free) = false := by simpa using hf
       simp only [this, Bool.false_and, Bool.false_eq_true, if_false] at tG
       rcases tG with tG | tG
       . exact absurd tG (hN.cell _ hm)
       . exact tG
    exact h2 (x, k) hm hk
 C4 := fun _ _ z => by cases z
 hd := I.ok.hd
 frames := I.ok.frames
 DA := .inl rfl
 A6 := fun b hb => ⟨Nat.ne_of_lt (Nat.lt_of_lt_of_le (CB b hb) hC), fun x c e => (hf b hb).2.2.2.2.1 x c (h1 x c e)⟩
 bs := I.bs
 wN := Nat.le_trans I.ok.wN I.sz
 r6 := fun b o e hb => by
  rcases (hf b hb).2.2.2.1 with z | z
  . exact I.ok.r6 b o e z
  . exact absurd (Nat.lt_of_lt_of_le (Heap.lt_size e) (Nat.le_trans I.ok.wN z)) (Nat.lt_irrefl _)
 q0 := fun b hb z => by
  rcases List.mem_cons.mp (I.rY b z) with e | e
  . exact (hf b hb).2.1 e
  . exact (hf b hb).2.2.1 e
 j2 := I.stack
 yN := I.lX
theorem tQ {C : Addr} {h₁ : Heap} {tk : Nat} (I : Inv X pins σ H s) (hN : fW X T M scope) (h1 : ∀ x c, cl.lookup x = some c -> X.env.cells.lookup x = some c) (h2 : ∀ x ∈ scope.names, x.2 = .free -> ∃ c, cl.lookup x.1 = some c)
 (hC : s.heap.objs.size <= C) (hf : ∀ b ∈ fp, j3 X pins H b) (CB : ∀ b ∈ fp, b < s.heap.objs.size)
 {m : Str -> Option Value} (hn : h₁.Ns C m) (old : ∀ b o, s.heap.get? b = some o -> h₁.get? b = some o) :
 Inv (ck X (T ++ M) scope cl C s H fp) [] (List.replicate T.length none ++ σ) H { s with heap := h₁, toks := tk } where
 ok := HH I hN h1 h2 hC hf CB
 os := rfl
 bare := I.bare
 base := Un.kept old
 loc := by
  refine ⟨m, hn, fun i x v e1 e2 e3 => ?_⟩
  have Mf : (T ++ M)[i]? = some x := e1
  by_cases hi : i < T.length
  . rw [List.getElem?_append_left (by simpa using hi), List.getElem?_replicate, if_pos hi] at e2
    cases e2
  . have JH : T.length <= i := Nat.le_of_not_lt hi
    rw [List.getElem?_append_right JH] at Mf
    rw [List.getElem?_append_right (by simpa using JH), List.length_replicate] at e2
    have Lp : GL (relabel scope X.env) x := e3
    rcases hN.old _ x Mf with ⟨hx, oz⟩ | Kk
    . obtain ⟨m0, OO, F0⟩ := I.loc
      have hk := hN.free _ (mem_lookup oz) rfl
      have Ln : X.env.scope.names.lookup x = some .cell \/ X.env.scope.names.lookup x = some .free := hk
      obtain ⟨u, r, l⟩ := F0 _ x v hx e2 (.inr Ln)
      refine ⟨u, r, .inr ?_⟩
      rcases l with ⟨z, _⟩ | ⟨_, c, hc, rn⟩
      . have z' : X.env.scope.names.lookup x = some .local := z
        rw [z'] at Ln; rcases Ln with q | q <;> cases q
      . obtain ⟨c', rZ⟩ := h2 _ (mem_lookup oz) rfl
        have : c' = c := by have := h1 _ _ rZ; rw [hc] at this; exact (Option.some.inj this).symm
        subst this
        refine ⟨?_, c', rZ, ?_⟩
        . show (relabel scope X.env).names.lookup x = some .cell \/ (relabel scope X.env).names.lookup x = some .free
          rw [iP, oz]
          simp only [Option.map_some, Option.some.injEq]
          by_cases hc : (NameKind.free == NameKind.free && X.env.scope.kind == .function && X.env.kindOf x == some .cell) = true
          . left; rw [if_pos hc]
          . right; rw [if_neg hc]
        . obtain ⟨o, ho, hd⟩ := rn
          exact ⟨o, old _ _ ho, hd⟩
    . unfold GL at Lp
      rw [iP, Kk] at Lp
      simp at Lp
 cell := fun x c e => by
  obtain ⟨v, o, ho, hd⟩ := I.cell x c (h1 x c e)
  exact ⟨v, o, old _ _ ho, hd⟩
 free := I.bf.fresh hC
 d8 := fun x c e => I.d8 x c (h1 x c e)
 pin := fun p hp => nomatch hp
 bf := I.bf.kept old
 len := by
  show (List.replicate T.length none ++ σ).length = (T ++ M).length
  rw [List.length_append, List.length_append, List.length_replicate, hN.len, I.len]
theorem wD {C D : Addr} {s' : Shared} {σ' : St} {H' : Hp} {acc : List V} {aV : List Value} {n : Nat} (I : Inv X pins σ H s) (I' : Inv (ck X (T ++ M) scope cl C s H fp) [] σ' H' s')
 (hf : ∀ b ∈ fp, j3 X pins H b) (hD : s.heap.objs.size <= D) (hn : H' D = none) (hl : acc.length <= sizeLine) (r : Vals acc aV) (hd : s'.heap.get? D = some { cls := .type "list", data := .seq aV.toArray n }) :
 Inv X pins σ (upd H' D (.lst acc)) s' := by
 have U : Un (j5 X.stack) fp H H' s.heap s'.heap := I'.base
 have Nb : ∀ b o, s.heap.get? b = some o -> b ≠ D := fun b o e => Nat.ne_of_lt (Nat.lt_of_lt_of_le (Heap.lt_size e) hD)
 have neT : ∀ b u, H' b = some u -> b ≠ D := fun b u e => cf e hn
 refine I.qm (ch := fp) I'.os ⟨U.keep, U.slot, fun b o e1 e2 e3 => ?_, U.there, fun b xs e => ?_, fun b o u e => ?_, fun b ps e => ?_⟩ (fun b u e => ?_) I'.bare (fun b hb => ⟨(hf b hb).2.2.2.1, (hf b hb).2.1, (hf b hb).2.2.2.2.1, (hf b hb).2.2.2.2.2⟩)
 . rw [aK (Nb b o e1)]; exact U.free b o e1 e2 e3
 . rw [aK (neT b _ (U.j7 b xs e))]; exact U.j7 b xs e
 . rw [aK (neT b _ (U.jk b o u e))]; exact U.jk b o u e
 . obtain ⟨more, q⟩ := U.lK b ps e
   exact ⟨more, by rw [aK (neT b _ q)]; exact q⟩
 . by_cases hb : b = D
   . subst hb
     rw [aO] at e
     cases e
     exact ⟨hl, aV, n, r, hd⟩
   . rw [aK hb] at e
     exact (I'.bf b u e).pk (fun c v _ q => q) (fun c q => by rw [aK (neT c _ q)]; exact q) fun c xs q => by rw [aK (neT c _ q)]; exact q
end
theorem vU {prog : Program} {w : World} {A : Around} {R : Result -> Shared -> Prop} {s : Shared} {elt target iter : Expr} {ifs : List Expr} {scope : Scope} {pos : Pos} {it acc : Value} {env : Env} (I : Nat -> Shared -> Prop)
 (turn : ∀ n s, I n s -> wpAny (model prog w) A (pyNext it) (fun r s₁ => match r with
  | none => R (.ok .next) s₁
  | some v => wpAny (model prog w) A (letOwnedTupleGo target it v) (fun _ tM => wpAny (model prog w) A (assign target env v) (fun _ s₂ =>
   wpAny (model prog w) A (forIn ifs true fun c r => if r = true then do let ok <- isTrue c env (eval c env); pure (ForInStep.yield ok) else pure (ForInStep.yield r)) (fun ok s₃ =>
    if ok = true then wpAny (model prog w) A (eval elt env) (fun x s₄ =>
     wpAny (model prog w) A (call (.builtin "list.append") [acc, x]) (fun _ s₅ => ∃ m, m < n /\ I m s₅) (fun _ _ => False) s₄) (fun _ _ => False) s₃
    else ∃ m, m < n /\ I m s₃) (fun _ _ => False) s₂) (fun _ _ => False) tM) (fun _ _ => False) s₁) (fun _ _ => False) s)
 (n : Nat) (h : I n s) :
 codeAny (model prog w) A (.compLoop (.ListComp elt [⟨target, iter, ifs, 0⟩] scope pos) 0 it acc env) R s := by
 refine codeAny_loop rfl I (fun n s hI => ?_) n h
 show wpAny _ A ((compTurn (.ListComp elt [⟨target, iter, ifs, 0⟩] scope pos) 0 it acc env).onRaise (fun x => do noteFrame x env; theTreesLotGoes x)) _ _ s
 refine wpAny_noted ?_
 rw [compTurn_list]
 refine wpAny_bind (wpAny_standAt (wpAny_bind (wpAny_mono (turn n s hI) (fun r s₁ h₁ => ?_) fun _ _ h' => h'.elim)))
 cases r with
 | none => exact wpAny_pure h₁
 | some v =>
   refine wpAny_bind (wpAny_mono h₁ (fun _ tM zz => ?_) fun _ _ h' => h'.elim)
   refine wpAny_bind (wpAny_mono zz (fun _ s₂ h₂ => wpAny_bind (wpAny_mono h₂ (fun ok s₃ h₃ => ?_) fun _ _ h' => h'.elim)) fun _ _ h' => h'.elim)
   cases ok with
   | false => exact wpAny_pure ⟨rfl, h₃⟩
   | true =>
     exact wpAny_bind (wpAny_bind (wpAny_mono h₃ (fun x s₄ h₄ => wpAny_bind (wpAny_mono h₄ (fun _ s₅ h₅ => wpAny_pure (wpAny_pure ⟨rfl, h₅⟩)) fun _ _ h' => h'.elim)) fun _ _ h' => h'.elim))
def GW (X : Cx) (ifs : List Expr) (t : TT) : Prop :=
 ∀ (pins : List (Addr × Obj)) (s : Shared) (σ : St) (H : Hp) (Q : Bool -> Hp -> Prop), Inv X pins σ H s -> t σ H Q ->
   wpAny (model X.prog X.w) X.A (forIn ifs true fun c r => if r = true then do let ok <- isTrue c X.env (eval c X.env); pure (ForInStep.yield ok) else pure (ForInStep.yield r)) (TP X pins σ Q) X.xe s
def L6 : TT := fun _ H Q => Q true H
theorem mn {X : Cx} : GW X [] L6 := fun _ _ _ H _ I h => wpAny_tests_nil ⟨H, I, h⟩
def D4 (k : Nat) (g : TG) (tc : TT) (te : TE) (Fin : List V -> Hp -> Prop) (σ : St) (J : It) (H1 : Hp) : Prop :=
 ∃ W : Nat -> Nat -> List V -> Hp -> Prop, (∃ m, W 0 m [] H1) /\ ∀ i m acc H, W i m acc H ->
   (J.stop i H /\ Fin acc H) \/ (J.go i H /\ acc.length < sizeLine /\ ∀ x H', J.JT i H x H' -> g x (List.replicate k none ++ σ) H' fun σ2 H2 => tc σ2 H2 fun b H3 =>
    if b = true then te σ2 H3 fun y H4 => ∃ m', m' < m /\ W (i + 1) m' (acc ++ [y]) H4 else ∃ m', m' < m /\ W (i + 1) m' acc H3)
section
variable {X : Cx} {pins : List (Addr × Obj)} {σ : St} {H : Hp} {s : Shared} {T M : List Str} {scope : Scope} {cl : List (Str × Addr)} {fp : List Addr} {g : TG} {tc : TT} {te : TE} {tg elt iter : Expr} {ifs : List Expr} {pos : Pos}
theorem Inv.forget {X : Cx} {pins : List (Addr × Obj)} {σ σ' : St} {H : Hp} {s : Shared} (I : Inv X pins σ' H s) (k : Nat) (hk : k + σ.length = σ'.length) (h : σ'.drop k = σ) : Inv X pins (List.replicate k none ++ σ) H s := by
 refine I.weak (by simp [hk]) (fun i v e => ?_)
 by_cases hi : i < k
 . rw [List.getElem?_append_left (by simpa using hi), List.getElem?_replicate, if_pos hi] at e; cases e
 . rw [List.getElem?_append_right (by simpa using hi), List.length_replicate, <- h, List.getElem?_drop] at e
   have : k + (i - k) = i := by omega
   rw [this] at e; exact e
theorem z8 {it : Addr} {tn : Nat -> Heap -> Prop} {J : It} {RR : Value -> Addr -> Result -> Shared -> Prop} {Fin : List V -> Hp -> Prop} {E : Value -> Shared -> Prop}
 (hN : fW X T M scope) (ji : X.calm = true) (h1 : ∀ x c, cl.lookup x = some c -> X.env.cells.lookup x = some c) (h2 : ∀ x ∈ scope.names, x.2 = .free -> ∃ c, cl.lookup x.1 = some c)
 (hg : ∀ cl C s H fp, PG (ck X (T ++ M) scope cl C s H fp) tg g) (Kb : ∀ v H Q, g v (List.replicate T.length none ++ σ) H Q -> g v (List.replicate T.length none ++ σ) H fun σ2 H2 => Q σ2 H2 /\ T.length + σ.length = σ2.length /\ σ2.drop T.length = σ)
 (hc : ∀ cl C s H fp, GW (ck X (T ++ M) scope cl C s H fp) ifs tc) (he : ∀ cl C s H fp, PE (ck X (T ++ M) scope cl C s H fp) elt te)
 (I : Inv X pins σ H s) (Tn : Turn X.prog X.w X.K tg J fp it tn) (st : tn 0 s.heap) (hf : ∀ b ∈ fp, j3 X pins H b) (hW : D4 T.length g tc te Fin σ J H)
 (hR : ∀ D C s' H' acc m, s.heap.objs.size <= D -> s.heap.objs.size <= C -> C ≠ D -> s'.heap.Ns C m -> H' C = none -> H' D = none -> Inv X pins σ (upd H' D (.lst acc)) s' -> Fin acc H' -> RR (.ref D) C (.ok .next) s') :
 wpAny (model X.prog X.w) X.A (newList []) (fun acc s₃ => wpAny (model X.prog X.w) X.A (newFunctionEnv scope X.env.globals cl [] X.env.qual none .none (some X.env)) (fun qB s₄ =>
  codeAny (model X.prog X.w) X.A (.compStart (.ListComp elt [⟨tg, iter, ifs, 0⟩] scope pos) 0 (.ref it) acc { qB with scope := relabel scope X.env }) (RR acc qB.locals) s₄) E s₃) E s := by
 refine wpAny_newObj_type (wpAny_newFunctionEnv hN.cell (by intro y hy; simp at hy) (fun h₁ lz iF => ?_) hN.kind)
 dsimp only at lz iF ⊢
 generalize Gk : s.heap.push { cls := .type "list", dict := none, data := .seq ([] : List Value).toArray } = H2 at lz iF ⊢
 have hC : H2.objs.size = s.heap.objs.size + 1 := by rw [<- Gk, Heap.size_push]
 have Bn : s.heap.objs.size ≠ H2.objs.size := by rw [hC]; exact Nat.ne_of_lt (Nat.lt_succ_self _)
 have tZ : s.heap.objs.size <= H2.objs.size := by rw [hC]; exact Nat.le_succ _
 have CB : ∀ b ∈ fp, b < s.heap.objs.size := fun b hb => by obtain ⟨o, ho, _⟩ := Tn.obj _ _ st b hb; exact Heap.lt_size ho
 have old : ∀ b o, s.heap.get? b = some o -> h₁.get? b = some o := fun b o e => iF.extBut b o (Nat.ne_of_lt (Nat.lt_of_lt_of_le (Heap.lt_size e) tZ)) (Heap.get?_push_of_some _ (Gk ▸ Heap.get?_push_of_some _ e))
 have iA : h₁.PlainList s.heap.objs.size #[] := ⟨_, iF.extBut _ _ Bn (Heap.get?_push_of_some _ (Gk ▸ Heap.get?_push_size _ rfl))⟩
 generalize wj : s.heap.objs.size = D at *
 generalize G1 : H2.objs.size = C at *
 have I0 : Inv (ck X (T ++ M) scope cl C s H fp) [] (List.replicate T.length none ++ σ) H { s with heap := h₁, toks := s.toks + ([] : List (Str × Value)).length } :=
  tQ I hN h1 h2 (by rw [wj]; exact tZ) hf (by rw [wj]; exact CB) lz old
 have IE : tn 0 h₁ := Tn.keep _ _ _ st fun b _ o e => old b o e
 obtain ⟨W, ⟨m0, w0⟩, turn⟩ := hW
 have IP : ∀ b ∈ fp, b ≠ D := fun b hb => Nat.ne_of_lt (CB b hb)
 have stat : ∀ {H' : Hp} {pl : List (Addr × Obj)}, (∀ b ∈ fp, H' b = none) -> (∀ p ∈ pl, p.1 = D) -> ∀ b ∈ fp, j3 (ck X (T ++ M) scope cl C s H fp) pl H' b := fun {H' pl} hn hp b hb => by
  have ok := I0.ok
  refine ⟨hn b hb, (ok.A6 b hb).1, ok.q0 b hb, .inl hb, (ok.A6 b hb).2, fun p hq => ?_⟩
  have Bx : p ∈ pl := hq
  rw [hp p Bx]; exact Ne.symm (IP b hb)
 have loop : codeAny (model X.prog X.w) X.A (.compLoop (.ListComp elt [⟨tg, iter, ifs, 0⟩] scope pos) 0 (.ref it) (.ref D) (compEnvC scope cl C X.env)) (RR (.ref D) C) { s with heap := h₁, toks := s.toks + ([] : List (Str × Value)).length } := by
  refine vU (fun n s' => ∃ i acc H' aV, Inv (ck X (T ++ M) scope cl C s H fp) [] (List.replicate T.length none ++ σ) H' s' /\ tn i s'.heap /\ (∀ b ∈ fp, H' b = none) /\ s'.heap.PlainList D aV /\ H' D = none /\ Vals acc aV.toList /\ acc.length <= sizeLine /\ W i n acc H') ?_ m0
   ⟨0, [], H, #[], I0, IE, fun b hb => (hf b hb).1, iA, I.bf.fresh (by rw [wj]; exact Nat.le_refl _), .nil, Nat.zero_le _, w0⟩
  rintro n s3 ⟨i, acc, H3, aV, I3, Ed, DK, ⟨nn, ho⟩, Fb, hv, hlen, w3⟩
  have Gp : ∀ {H'} {s'} {σ'} {o : Obj}, Inv (ck X (T ++ M) scope cl C s H fp) [] σ' H' s' -> s'.heap.get? D = some o -> (∀ v, o.data ≠ .cell v) -> H' D = none -> Inv (ck X (T ++ M) scope cl C s H fp) [(D, o)] σ' H' s' := fun {H' s' σ' o} I' e d hn => by
   refine I'.fS fun p hp => ?_
   have e' : p = (D, o) := by simpa using hp
   subst e'
   refine ⟨e, hn, Bn, fun z => ?_, d⟩
   have z' : D ∈ j5 X.stack := z
   obtain ⟨_, o', oW, _⟩ := I.stack.mem z'
   exact absurd (Heap.lt_size oW) (by rw [wj]; exact Nat.lt_irrefl _)
  have Jz := Gp I3 ho (fun v z => by cases z) Fb
  rcases turn i n acc H3 w3 with ⟨stop, fin⟩ | ⟨go, hl, step⟩
  . refine bO (Tn.done (ck X (T ++ M) scope cl C s H fp) rfl rfl rfl ji i _ s3 _ H3 _ Jz (stat DK (by simp)) Ed stop) fun r s4 ⟨hr, I4⟩ => ?_
    subst hr
    have e4 := (I4.pin (D, _) (List.mem_append_right _ List.mem_cons_self)).1
    have EL : Inv (ck X (T ++ M) scope cl C s H fp) [] (List.replicate T.length none ++ σ) H3 s4 := I4.fS fun p hp => nomatch hp
    obtain ⟨m4, n4, _⟩ := EL.loc
    exact hR D C s4 H3 acc m4 (Nat.le_refl _) tZ (Ne.symm Bn) n4 EL.free Fb (wD I EL hf (by rw [wj]; exact Nat.le_refl _) Fb hlen hv (by simpa using e4)) fin
  . refine bO (Tn.item (ck X (T ++ M) scope cl C s H fp) rfl rfl rfl ji i _ s3 _ H3 _ Jz (stat DK (by simp)) Ed go) fun r s4 ⟨u, hr, h4⟩ => ?_
    subst hr
    refine bO h4 fun _ s5 ⟨x, H5, I5, r5, y5, yJ, Jo⟩ => ?_
    have Iw := I5.pinned (stat Jo (by simp)) (Tn.obj _ _ yJ)
    refine bO (hg _ _ _ _ _ _ s5 _ H5 x u _ Iw r5 (Kb _ _ _ (step x H5 y5))) fun _ s6 ⟨σ6, H6, I6, q6, KY, Lq⟩ => ?_
    refine bO (hc _ _ _ _ _ _ s6 σ6 H6 _ I6 q6) fun b s7 ⟨H7, I7, q7⟩ => ?_
    have rest : ∀ {s8 : Shared} {H8 : Hp}, Inv (ck X (T ++ M) scope cl C s H fp) ([(D, _)] ++ lH fp s5.heap) σ6 H8 s8 -> tn (i + 1) s8.heap /\ (∀ b ∈ fp, H8 b = none) /\ s8.heap.PlainList D aV /\ H8 D = none /\ Inv (ck X (T ++ M) scope cl C s H fp) [] (List.replicate T.length none ++ σ) H8 s8 := fun {s8 H8} I8 => by
     refine ⟨Tn.keep _ _ _ yJ fun b hb o e => (I8.pin (b, o) (List.mem_append_right _ (List.mem_append_right _ (dD hb e)))).1, fun b hb => ?_, ⟨nn, (I8.pin (D, _) (List.mem_append_right _ (List.mem_append_left _ List.mem_cons_self))).1⟩, (I8.pin (D, _) (List.mem_append_right _ (List.mem_append_left _ List.mem_cons_self))).2.1, (I8.forget T.length KY Lq).fS fun p hp => nomatch hp⟩
     obtain ⟨o, e, d⟩ := Tn.obj _ _ yJ b hb
     exact (I8.pin (b, o) (List.mem_append_right _ (List.mem_append_right _ (dD hb e)))).2.1
    cases b with
    | false =>
      obtain ⟨m', hm, w7⟩ := q7
      obtain ⟨a1, a2, a3, a4, a5⟩ := rest I7
      exact ⟨m', hm, i + 1, acc, H7, aV, a5, a1, a2, a3, a4, hv, hlen, w7⟩
    | true =>
      refine bO (he _ _ _ _ _ _ s7 σ6 H7 _ I7 q7) fun y s8 ⟨yv, H8, I8, r8, m', hm, w8⟩ => ?_
      obtain ⟨a1, a2, a3, a4, a5⟩ := rest I8
      have hsz : aV.size <= sizeLine := by have := hv.length; simp at this; omega
      refine wpAny_list_append_plain (hsz := hsz) a3 fun h9 Ka Jn => ?_
      refine ⟨m', hm, i + 1, acc ++ [yv], H8, aV.push y, ?_, ?_, a2, Ka, a4, ?_, by simp; omega, w8⟩
      . exact a5.turned (t' := s8.toks) (it := D) (fun b o hb e => (Jn.2 b hb).trans e) a4 Bn (.inr (by show s.heap.objs.size <= D; rw [wj]; exact Nat.le_refl _)) (fun x c e z => by
         obtain ⟨v, o, ho, _⟩ := I.cell x c (h1 x c e)
         exact absurd (Heap.lt_size ho) (by rw [wj, z]; exact Nat.lt_irrefl _)) (fun p hp => nomatch hp)
      . exact Tn.keep _ _ _ a1 fun b hb o e => (Jn.2 b (IP b hb)).trans e
      . simpa using Vals.append hv (.cons r8 .nil)
 exact codeAny_compStart_list loop (Tn.self _ _ _ _ _ IE loop)
end
def Cb (k : Nat) (g : TG) : Prop := ∀ v (τ σ : St) H Q, τ.length = k -> g v (τ ++ σ) H Q -> g v (τ ++ σ) H fun σ2 H2 => Q σ2 H2 /\ ∃ τ', τ'.length = k /\ σ2 = τ' ++ σ
theorem gL {k i : Nat} (h : i < k) : Cb k (ja i) := fun v τ σ H Q hl q => by
 have e : (τ ++ σ).set i (some v) = τ.set i (some v) ++ σ := List.set_append_left _ _ (by omega)
 exact ⟨q, τ.set i (some v), by simp [hl], e⟩
def rC (Q : VK) (acc : List V) (H : Hp) : Prop := ∀ p, H p = none -> Q (.ref p) (upd H p (.lst acc))
def GD (k : Nat) (wi : TI) (g : TG) (tc : TT) (te : TE) : TE := fun σ H Q => wi σ H fun J H1 => D4 k g tc te (rC Q) σ J H1
section
variable {X : Cx} {T M : List Str} {scope : Scope} {g : TG} {tc : TT} {te : TE} {wi : TI} {tg elt iter : Expr} {ifs : List Expr} {pos : Pos}
theorem DU (hN : fW X T M scope) (ji : X.calm = true) (hi : PI X tg iter wi) (hg : ∀ cl C s H fp, PG (ck X (T ++ M) scope cl C s H fp) tg g) (Ip : Cb T.length g)
 (hc : ∀ cl C s H fp, GW (ck X (T ++ M) scope cl C s H fp) ifs tc) (he : ∀ cl C s H fp, PE (ck X (T ++ M) scope cl C s H fp) elt te)
 (hs : ∀ x, foldedSetIterable iter X.env x = pure x := by intro _; rfl) : PE X (.ListComp elt [⟨tg, iter, ifs, 0⟩] scope pos) (GD T.length wi g tc te) := by
 intro pins s σ H Q I h
 obtain ⟨cl, Ee, h1, h2⟩ := lG (scope := scope) (env := X.env) fun x hx hf => I.ok.has x.1 (hN.free x hx hf)
 rw [eval_ListComp]
 refine wpAny_comprehension_free (use := none) rfl hs Ee hN.kind hN.names (bO (hi pins s σ H _ I h) fun xv s1 G5 => bO G5 fun HR s2 Hg => ?_)
 obtain ⟨it, fp, tn, J, H2, e, I2, Tn, st, hf, hW⟩ := Hg
 subst e
 refine z8 (RR := fun acc C => compPost (model X.prog X.w) X.A X.xe none (EP X pins σ Q) acc C) hN ji h1 h2 hg (fun v H Q q => ?_) hc he I2 Tn st hf hW ?_
 . have := Ip v (List.replicate T.length none) σ H Q (by simp) q
   refine (by
    have e : (fun (σ2 : St) (H2 : Hp) => Q σ2 H2 /\ T.length + σ.length = σ2.length /\ σ2.drop T.length = σ) = fun σ2 H2 => Q σ2 H2 /\ ∃ τ' : St, τ'.length = T.length /\ σ2 = τ' ++ σ := by
     funext σ2 H2
     refine propext ⟨fun ⟨a, b, c⟩ => ⟨a, σ2.take T.length, by rw [List.length_take]; omega, by rw [<- c, List.take_append_drop]⟩, fun ⟨a, τ', b, c⟩ => ⟨a, by rw [c, List.length_append, b], by rw [c, <- b, List.drop_left]⟩⟩
    rw [e]; exact this)
 . intro D C s' H' acc m hD hC j6 hn Hq HZ Ib fin
   refine ⟨m, hn, fun h' Dd => ⟨.ref D, _, ?_, rfl, fin D HZ⟩⟩
   exact Ib.turned (t' := s'.toks) (it := C) (fun b o hb e => (Dd.2 b hb).trans e) (by rw [aK j6]; exact Hq) (Nat.ne_of_gt (Nat.lt_of_lt_of_le I2.lt hC)) (.inr (Nat.le_trans I2.sz hC)) (fun x c e z => by
    obtain ⟨v, q⟩ := I2.cell x c e
    exact absurd (Nat.lt_of_lt_of_le q.lt (by rw [z]; exact hC)) (Nat.lt_irrefl _)) (fun p hp z => absurd (Nat.lt_of_lt_of_le (Heap.lt_size (I2.pin p hp).1) (by rw [z]; exact hC)) (Nat.lt_irrefl _))
theorem IM {i : Nat} {y : Str} {py Hc : Pos} (N7 : X.N.Nodup) (JH : X.N[i]? = some y) (hy : Loc X.env.scope y) (hN : fW X T M scope) (ji : X.calm = true) (hi : PI X tg iter wi) (hg : ∀ cl C s H fp, PG (ck X (T ++ M) scope cl C s H fp) tg g) (Ip : Cb T.length g)
 (hc : ∀ cl C s H fp, GW (ck X (T ++ M) scope cl C s H fp) ifs tc) (he : ∀ cl C s H fp, PE (ck X (T ++ M) scope cl C s H fp) elt te)
 (Oe : swapsWith (.ListComp elt [⟨tg, iter, ifs, 0⟩] scope pos) (some (.Name y py)) Hc.line X.env = pure true)
 (hs : ∀ x, foldedSetIterable iter X.env x = pure x := by intro _; rfl) (OI : X.fn y = true \/ X.env.scope.names.lookup y = some .local := by first | exact .inl rfl | exact .inr rfl | assumption) :
 PS X (.Assign [.Name y py] (.ListComp elt [⟨tg, iter, ifs, 0⟩] scope pos) Hc) (yB (GD T.length wi g tc te) (ja i)) := by
 intro pins s σ H D' I h
 have h : GD T.length wi g tc te σ H fun x H1 => D'.nx (σ.set i (some x)) H1 := h
 obtain ⟨cl, Ee, h1, h2⟩ := lG (scope := scope) (env := X.env) fun x hx hf => I.ok.has x.1 (hN.free x hx hf)
 rw [exec_Assign_Name_used _ _ _ _ Oe]
 refine wpAny_bind (wpAny_standAt (wpAny_bind ?_))
 show wpAny _ X.A (do let _ <- comprehension (.ListComp elt [⟨tg, iter, ifs, 0⟩] scope pos) scope X.env _ (newList []) false (eval iter X.env) (some (assign (.Name y py) X.env))) _ _ s
 refine wpAny_bind (wpAny_mono (wpAny_comprehension_free (use := some (assign (.Name y py) X.env)) (Q := fun _ s' => SP X pins D' .next s') rfl hs Ee hN.kind hN.names
  (bO (hi pins s σ H _ I h) fun xv s1 G5 => bO G5 fun HR s2 Hg => ?_)) (fun _ s' hq => wpAny_pure (wpAny_pure hq)) fun _ _ e => e)
 obtain ⟨it, fp, tn, J, H2, e, I2, Tn, st, hf, hW⟩ := Hg
 subst e
 refine z8 (RR := fun acc C => compPost (model X.prog X.w) X.A X.xe (some (assign (.Name y py) X.env)) (fun _ s' => SP X pins D' .next s') acc C) hN ji h1 h2 hg (fun v H Q q => ?_) hc he I2 Tn st hf hW ?_
 . have := Ip v (List.replicate T.length none) σ H Q (by simp) q
   refine (by
    have e : (fun (σ2 : St) (H2 : Hp) => Q σ2 H2 /\ T.length + σ.length = σ2.length /\ σ2.drop T.length = σ) = fun σ2 H2 => Q σ2 H2 /\ ∃ τ' : St, τ'.length = T.length /\ σ2 = τ' ++ σ := by
     funext σ2 H2
     refine propext ⟨fun ⟨a, b, c⟩ => ⟨a, σ2.take T.length, by rw [List.length_take]; omega, by rw [<- c, List.take_append_drop]⟩, fun ⟨a, τ', b, c⟩ => ⟨a, by rw [c, List.length_append, b], by rw [c, <- b, List.drop_left]⟩⟩
    rw [e]; exact this)
 . intro D C s' H' acc m hD hC j6 hn Hq HZ Ib fin
   show wpAny _ X.A (assign (.Name y py) X.env (.ref D)) _ _ _
   refine wpAny_assign_Name (rq Ib N7 JH hy (v := .ref D) rfl (fun s3 I3 ⟨a, sb, ha⟩ => ?_) OI)
   have L7 : C ≠ X.env.locals := Nat.ne_of_gt (Nat.lt_of_lt_of_le I2.lt hC)
   have MU : ∀ x c, X.env.cells.lookup x = some c -> c ≠ C := fun x c e z => by
    obtain ⟨v, q⟩ := I2.cell x c e
    exact absurd (Nat.lt_of_lt_of_le q.lt (by rw [z]; exact hC)) (Nat.lt_irrefl _)
   have Oy : C ≠ a := by
    rcases ha with rfl | ha
    . exact L7
    . exact Ne.symm (MU _ _ ha)
   refine ⟨m, hn.sameBut sb Oy, fun h' Dd => ⟨_, _, ?_, fin D HZ⟩⟩
   exact I3.turned (t' := s3.toks) (it := C) (fun b o hb e => (Dd.2 b hb).trans e) (by rw [aK j6]; exact Hq) L7 (.inr (Nat.le_trans I2.sz hC)) MU (fun p hp z => absurd (Nat.lt_of_lt_of_le (Heap.lt_size (I2.pin p hp).1) (by rw [z]; exact hC)) (Nat.lt_irrefl _))
end
end L2
namespace L2
open PySem PySem.Spec PyProof.Rows PySem.W
mutual
def sR : PyData -> Bool
 | .none => true
 | .bool _ => true
 | .int _ => true
 | .str _ => true
 | .tuple ds => aP ds
 | .list _ => false
 | .dict _ => false
def aP : List PyData -> Bool
 | [] => true
 | d :: ds => sR d && aP ds
end
theorem c7 : ∀ {ds : List PyData}, aP ds = true ↔ ∀ d ∈ ds, sR d = true
 | [] => by simp [aP]
 | d :: ds => by simp [aP, c7 (ds := ds)]
theorem gG {ds es : List PyData} (h1 : aP ds = true) (h2 : aP es = true) : aP (ds ++ es) = true := by
 rw [c7] at *
 intro d hd
 rcases List.mem_append.mp hd with h | h
 . exact h1 d h
 . exact h2 d h
theorem lE {α : Type} {f : α -> PyData} (h : ∀ x, sR (f x) = true) (xs : List α) : aP (xs.map f) = true := by
 rw [c7]
 intro d hd
 obtain ⟨x, _, rfl⟩ := List.mem_map.mp hd
 exact h x
structure Mv (S : List Addr) (H H' : Hp) : Prop where
 kp : ∀ a o, a ∉ S -> H a = some o -> H' a = some o
 tp : ∀ a xs, H a = some (.tup xs) -> H' a = some (.tup xs)
 dm : ∀ a, H' a = none -> H a = none
theorem ao.mv {S : List Addr} {H H' : Hp} (s : ao H H') : Mv S H H' := ⟨fun a o _ h => s a o h, fun a xs h => s a _ h, fun a h => by
 cases e : H a with
 | none => rfl
 | some o => rw [s a o e] at h; cases h⟩
theorem Mv.at {S : List Addr} {H H' : Hp} {a : Addr} {o : HO} (m : Mv S H H') (n : a ∉ S) (h : H a = some o) : H' a = some o := m.kp a o n h
theorem ao.none {H H' : Hp} {a : Addr} (m : ao H H') (h : H' a = none) : H a = none := (m.mv (S := [])).dm a h
theorem Mv.wa {H : Hp} {p : Addr} {o u : HO} (h : H p = some u) (nt : ∀ xs, u ≠ .tup xs) : Mv [p] H (upd H p o) := ⟨fun a v n e => by
 rw [aK (fun z => n (by simp [z]))]; exact e, fun a xs e => by
 rw [aK (fun z => by subst z; rw [h] at e; exact nt xs (Option.some.inj e))]; exact e, fun a e => by
 by_cases z : a = p
 . subst z; rw [aO] at e; cases e
 . rw [aK z] at e; exact e⟩
mutual
theorem Dv.GU {H H' : Hp} (t : ∀ a xs, H a = some (.tup xs) -> H' a = some (.tup xs)) : ∀ {v : V} {d : PyData}, Dv H v d -> sR d = true -> Dv H' v d
 | _, _, .cq, _ => .cq
 | _, _, .bl b, _ => .bl b
 | _, _, .int i, _ => .int i
 | _, _, .str x, _ => .str x
 | _, _, .tup h r, c => .tup (t _ _ h) (cj.GU t r (by simpa [sR] using c))
 | _, _, .lst h r, c => by simp [sR] at c
 | _, _, .dct h r, c => by simp [sR] at c
theorem cj.GU {H H' : Hp} (t : ∀ a xs, H a = some (.tup xs) -> H' a = some (.tup xs)) : ∀ {v : List V} {d : List PyData}, cj H v d -> aP d = true -> cj H' v d
 | _, _, .nil, _ => .nil
 | _, _, .cons h r, c => by
   have c' := c
   simp only [aP, Bool.and_eq_true] at c'
   exact .cons (Dv.GU t h c'.1) (cj.GU t r c'.2)
end
theorem Mv.AX {S : List Addr} {H H' : Hp} {v : List V} {d : List PyData} (m : Mv S H H') (i : aP d = true) (h : cj H v d) : cj H' v d := h.GU m.tp i
def dk (H : Hp) (p : Addr) (ds : List PyData) : Prop := ∃ xs, H p = some (.lst xs) /\ cj H xs ds /\ aP ds = true
theorem dk.dv {H : Hp} {p : Addr} {ds : List PyData} (h : dk H p ds) : Dv H (.ref p) (.list ds) := let ⟨_, e, d, _⟩ := h; .lst (.of e) d
theorem dk.keeps {H H' : Hp} {p : Addr} {ds : List PyData} (s : ao H H') (h : dk H p ds) : dk H' p ds := let ⟨xs, e, d, i⟩ := h; ⟨xs, s _ _ e, d.keeps s, i⟩
theorem dk.mv {S : List Addr} {H H' : Hp} {p : Addr} {ds : List PyData} (m : Mv S H H') (n : p ∉ S) (h : dk H p ds) : dk H' p ds := let ⟨xs, e, d, i⟩ := h; ⟨xs, m.at n e, m.AX i d, i⟩
theorem iE {H : Hp} {p : Addr} {xs : List V} {ds : List PyData} (hn : H p = none) (d : cj H xs ds) (i : aP ds = true) : dk (upd H p (.lst xs)) p ds := ⟨xs, aO, d.keeps (bC hn), i⟩
theorem z6 {p q : Addr} (h : p ≠ q) : p ∉ [q] := by simpa using h
theorem small {n m : Nat} (h : n <= m) (hm : m <= 4000 := by decide) : n <= sizeLine := Nat.le_trans h (Nat.le_trans hm (by decide))
theorem fZ {n : Nat} (h : n <= 4000) : n < sizeLine := Nat.lt_of_le_of_lt h (by decide)
section
variable {σ : St} {H : Hp} {Q : VK} {D : Ends} {K : PySem.W.Frag} {p : Addr} {ds : List PyData}
theorem LC {T : String} {r : V -> List V -> Hp -> VK -> Prop} {to : TE} {t : TA} (h : to σ H fun x H1 => Gx K T x H1 /\ t σ H1 fun xs H2 => r x xs H2 Q) : ML K T r to t σ H Q := h
theorem Jp {T : String} {r : V -> List V -> Hp -> VK -> Prop} {to : TE} (h : to σ H fun x H1 => Gx K T x H1 /\ r x [] H1 Q) : Hj K T r to σ H Q := h
theorem Ju {R : Prop} (hp : dk H p ds) (h : R) : Gx K "list" (.ref p) H /\ R := let ⟨xs, e, _, _⟩ := hp; ⟨.inl ⟨rfl, xs, gf.of e⟩, h⟩
theorem Jw {y : V} {d : PyData} (hp : dk H p ds) (hl : ds.length <= 4000) (hy : Dv H y d) (hi : sR d = true) (h : ∀ H2, Mv [p] H H2 -> dk H2 p (ds ++ [d]) -> Q .cq H2) : xj (.ref p) [y] H Q := by
 obtain ⟨xs, e, dv, i⟩ := hp
 have m : Mv [p] H (upd H p (.lst (xs ++ [y]))) := .wa e (by intro _ z; cases z)
 refine ⟨p, xs, y, rfl, rfl, e, by rw [dv.length]; exact fZ hl, h _ m ⟨_, aO, m.AX (gG i (by simp [aP, hi])) (dv.append (.cons hy .nil)), gG i (by simp [aP, hi])⟩⟩
theorem vm {xs : List V} (hl : xs.length <= sizeLine) (hd : cj H xs ds) (hi : aP ds = true) (k : ∀ p H2, ao H H2 -> H p = none -> dk H2 p ds -> Q (.ref p) H2) : zP xs H Q :=
 ⟨hl, ds, hd, fun p H2 s n e d _ => k p H2 s n ⟨xs, e, d, hi⟩⟩
end
mutual
theorem Dv.fn {H : Hp} : ∀ {v : V} {d e : PyData}, Dv H v d -> Dv H v e -> sR d = true -> d = e
 | _, _, _, .cq, h, _ => by cases h; rfl
 | _, _, _, .bl b, h, _ => by cases h; rfl
 | _, _, _, .int i, h, _ => by cases h; rfl
 | _, _, _, .str x, h, _ => by cases h; rfl
 | _, _, _, .tup h r, h2, c => by
   cases h2 with
   | tup h' r' =>
     have c' := (by simpa [sR] using c : aP _ = true)
     rw [h] at h'
     cases h'
     rw [cj.fn r r' c']
   | lst h' r' =>
     rcases h' with h' | ⟨o, h'⟩ <;> rw [h] at h' <;> cases h'
   | dct h' r' => rw [h] at h'; cases h'
 | _, _, _, .lst h r, _, c => by simp [sR] at c
 | _, _, _, .dct h r, _, c => by simp [sR] at c
theorem cj.fn {H : Hp} : ∀ {v : List V} {d e : List PyData}, cj H v d -> cj H v e -> aP d = true -> d = e
 | _, _, _, .nil, h, _ => by cases h; rfl
 | _, _, _, .cons h r, h2, c => by
   have c' := c
   simp only [aP, Bool.and_eq_true] at c'
   cases h2 with
   | cons h' r' => rw [Dv.fn h h' c'.1, cj.fn r r' c'.2]
end
theorem Dv.lst_inv {H : Hp} {v : V} {ds : List PyData} (h : Dv H v (.list ds)) : ∃ a xs, v = .ref a /\ (∀ K : PySem.W.Frag, gf K H a xs) /\ cj H xs ds := by
 cases h with
 | lst h r => exact ⟨_, _, rfl, fun _ => .inl h, r⟩
section
variable {σ : St} {H : Hp} {Q : VK} {D : Ends} {K : PySem.W.Frag} {p : Addr} {v : V} {ds : List PyData}
def GV (te : TE) (N : Option V -> Hp -> Prop) (σ2 : St) (b : Bool) (H3 : Hp) : Prop := if b = true then te σ2 H3 (fun y H4 => N (some y) H4) else N none H3
theorem Ih {k : Nat} {tl : TE} {g : TG} {tc : TT} {te : TE} (h : tl σ H fun x H1 => ∃ a, x = .ref a /\ (∃ xs, gf K H1 a xs) /\ D4 k g tc te (rC Q) σ (Hn K a) H1) : GD k (Dx K tl) g tc te σ H Q := h
theorem HI {k : Nat} {g : TG} {tc : TT} {te : TE} {α : Type} {cs : List α} {gd : α -> PyData} (pf : α -> Bool) (fd : α -> PyData) (hl : Dv H v (.list (cs.map gd))) (hlen : cs.length <= 4000) (hi : ∀ c, sR (fd c) = true)
 (turn : ∀ x c H' (N : Option V -> Hp -> Prop), c ∈ cs -> ao H H' -> Dv H' x (gd c) -> (pf c = true -> ∀ y H4, ao H' H4 -> Dv H4 y (fd c) -> N (some y) H4) -> (pf c = false -> ∀ H3, ao H' H3 -> N none H3) ->
  g x (List.replicate k none ++ σ) H' fun σ2 H2 => tc σ2 H2 fun b H3 => GV te N σ2 b H3)
 (kk : ∀ q H', ao H H' -> H q = none -> dk H' q ((cs.filter pf).map fd) -> Q (.ref q) H') : ∃ a, v = .ref a /\ (∃ xs, gf K H a xs) /\ D4 k g tc te (rC Q) σ (Hn K a) H := by
 obtain ⟨p, xs, rfl, e, dv⟩ := hl.lst_inv
 have F0 : gf K H p xs := e K
 have GH : xs.length = cs.length := by rw [dv.length, List.length_map]
 refine ⟨p, rfl, ⟨xs, F0⟩, fun i m acc H' => i <= cs.length /\ m = cs.length - i /\ ao H H' /\ cj H' acc (((cs.take i).filter pf).map fd), ⟨cs.length, Nat.zero_le _, rfl, ao.refl _, by simpa using cj.nil⟩, ?_⟩
 rintro i m acc H' ⟨MB, hm, sm, iA⟩
 have BA : gf K H' p xs := ao.seq sm F0
 have F3 : acc.length <= cs.length := by
  rw [iA.length, List.length_map]
  exact Nat.le_trans (List.length_filter_le _ _) (by rw [List.length_take]; omega)
 by_cases hc : i = cs.length
 . left
   refine ⟨⟨xs, BA, by omega⟩, fun q hq => ?_⟩
   rw [hc, List.take_length] at iA
   have N5 : ao H (upd H' q (.lst acc)) := sm.trans (bC hq)
   exact kk q _ N5 (sm.none hq) ⟨acc, aO, iA.keeps (bC hq), lE hi _⟩
 . right
   have rJ : i < cs.length := by omega
   have HP : i < xs.length := by omega
   refine ⟨⟨xs, xs[i], BA, List.getElem?_eq_getElem HP⟩, fZ (by omega), fun x H2 hy => ?_⟩
   obtain ⟨rfl, hy⟩ := hy
   have hx := hy xs BA
   have He : cs[i]? = some cs[i] := List.getElem?_eq_getElem rJ
   obtain ⟨x', tG, hd⟩ := dv.get (i := i) (d := gd cs[i]) (by rw [List.getElem?_map, He]; rfl)
   rw [hx] at tG
   cases tG
   have DE : cs.take (i + 1) = cs.take i ++ [cs[i]] := by rw [List.take_add_one, He]; rfl
   exact turn x cs[i] H2 (fun o H4 => match o with | some y => ∃ m', m' < m /\ i + 1 <= cs.length /\ m' = cs.length - (i + 1) /\ ao H H4 /\ cj H4 (acc ++ [y]) (((cs.take (i + 1)).filter pf).map fd) | none => ∃ m', m' < m /\ i + 1 <= cs.length /\ m' = cs.length - (i + 1) /\ ao H H4 /\ cj H4 acc (((cs.take (i + 1)).filter pf).map fd))
    (List.getElem_mem rJ) sm (hd.keeps sm)
    (fun hp y H4 s4 d4 => ⟨cs.length - (i + 1), by omega, rJ, rfl, sm.trans s4, by
     rw [DE, List.filter_append, List.map_append]
     simp only [List.filter_cons, hp, if_true, List.filter_nil, List.map_cons, List.map_nil]
     exact cj.append (iA.keeps s4) (.cons d4 .nil)⟩)
    (fun hp H3 s3 => ⟨cs.length - (i + 1), by omega, rJ, rfl, sm.trans s3, by
     rw [DE, List.filter_append, List.map_append]
     simp only [List.filter_cons, hp, Bool.false_eq_true, if_false, List.filter_nil, List.map_nil, List.append_nil]
     exact iA.keeps s3⟩)
end
def wV (scope sc : Scope) (N M : List Str) : Bool :=
 (scope.kind == .function) && scope.names.all (fun y => y.2 != .cell) && scope.names.all (fun y => y.2 != .local || scope.names.lookup y.1 == some .local) &&
  scope.names.all (fun y => y.2 != .free || (sc.names.lookup y.1 == some .cell || sc.names.lookup y.1 == some .free)) && (M.length == N.length) &&
  (M.zip N).all fun p => (p.1 == p.2 && scope.names.lookup p.1 == some .free) || scope.names.lookup p.1 == none
theorem Io {X : Cx} {T M : List Str} {scope : Scope} (sc : Scope) (N : List Str) (hs : X.env.scope = sc) (hN : X.N = N) (h : wV scope sc N M = true) : fW X T M scope := by
 unfold wV at h
 simp only [Bool.and_eq_true, List.all_eq_true, Bool.or_eq_true, bne_iff_ne, beq_iff_eq, ne_eq] at h
 obtain ⟨⟨⟨⟨⟨h1, h2⟩, h3⟩, h4⟩, h5⟩, h6⟩ := h
 refine ⟨h1, h2, fun y hy e => ?_, fun y hy e => ?_, by rw [hN]; exact h5, fun i x hx => ?_⟩
 . rcases h3 y hy with z | z
   . exact absurd e z
   . exact z
 . rw [hs]
   rcases h4 y hy with z | z
   . exact absurd e z
   . exact z
 . have hi : i < M.length := (List.getElem?_eq_some_iff.mp hx).1
   have Ma : i < N.length := by omega
   have hz : (M.zip N)[i]? = some (x, N[i]) := by
    rw [List.getElem?_zip_eq_some]
    exact ⟨hx, List.getElem?_eq_getElem Ma⟩
   rcases h6 _ (List.mem_of_getElem? hz) with ⟨a, b⟩ | a
   . left
     refine ⟨?_, b⟩
     rw [hN, List.getElem?_eq_getElem Ma]
     have a' : x = N[i] := a
     rw [a']
   . exact .inr a
section
variable {σ : St} {H : Hp} {Q : VK} {D : Ends} {K : PySem.W.Frag} {p : Addr} {v : V} {ds : List PyData}
theorem yS {z : Str} {i : Int} {c : Nat} (hl : z.length <= sizeLine) (hi : oI z.cps.toList i = some c) (h : Q (.str ⟨#[c]⟩) H) : Am K (.str z) (.int i) H Q := .inl (.inr ⟨z, i, c, rfl, rfl, hl, hi, h⟩)
theorem AV {R : Bool -> Prop} (hp : Dv H v (.list ds)) (h : R (!ds.isEmpty)) : ∃ k, xZ K v H k /\ R k := by
 obtain ⟨p, xs, rfl, e, dv⟩ := hp.lst_inv
 refine ⟨_, .inl ⟨xs, e K, rfl⟩, ?_⟩
 have : xs.isEmpty = ds.isEmpty := by cases dv <;> rfl
 rw [this]; exact h
theorem K8 {te : TE} {tl th : TO} {r : V -> Option Int -> Option Int -> Hp -> VK -> Prop} (h : te σ H fun x H1 => tl σ H1 fun l H2 => th σ H2 fun u H3 => r x l u H3 Q) : MI r te tl th σ H Q := h
theorem E8 {t : TE} {R : Option Int -> Hp -> Prop} (h : t σ H fun x H1 => ∃ i, x = .int i /\ R (some i) H1) : D9 t σ H R := h
theorem A1 {R : Option Int -> Hp -> Prop} (h : R none H) : wo σ H R := h
theorem Cr {i : Int} {R : Int -> Prop} (h : R i) : ∃ j, V.int i = .int j /\ R j := ⟨i, rfl, h⟩
end
end L2
namespace L2
theorem zI {H H1 H2 : Hp} (a : ∀ x, H1 x = none -> H x = none) (b : ∀ x, H2 x = none -> H1 x = none) : ∀ x, H2 x = none -> H x = none := fun x h => a x (b x h)
theorem Ff {H H' : Hp} {p : PySem.Addr} (s : ∀ x, H' x = none -> H x = none) (h : H' p = none) : H p = none := s p h
theorem ao.N9 {H H' : Hp} (s : ao H H') : ∀ x, H' x = Option.none -> H x = Option.none := (s.mv (S := [])).dm
end L2
namespace L2
open PySem
theorem Aq {α β : Type} [Inhabited α] {f : α -> β} {xs : List α} {i : Int} (h0 : 0 <= i) (h1 : i < xs.length) : oI (xs.map f) i = some (f (xs.getD i.toNat default)) := by
 obtain ⟨m, rfl⟩ := Int.eq_ofNat_of_zero_le h0
 have hm : m < xs.length := by omega
 refine jU ?_
 rw [List.getElem?_map, List.getElem?_eq_getElem hm]
 simp [hm]
theorem FD {α : Type} {g : α -> PyData} {xs : List α} {K : PySem.W.Frag} {H : Hp} {Q : VK} {v : V} (hs : Dv H v (.list (xs.map g))) (h : Q (.int (xs.length : Nat)) H) : tu K [v] H Q := zS (.inr hs) (by rw [List.length_map]; exact h)
theorem Dl {i : Nat} {v : V} {σ : St} {H : Hp} {R : St -> Hp -> Prop} (h : R (σ.set i (some v)) H) : ja i v σ H R := h
theorem Mv.Du {p : Addr} {H H1 H2 : Hp} (s : ao H H1) (m : Mv [p] H1 H2) (n : H p = Option.none) : ao H H2 := fun a o e => m.kp a o (z6 (cf e n)) (s a o e)
theorem E4 {K : PySem.W.Frag} {H : Hp} {v : V} {ds : List PyData} {R : Bool -> Prop} (hp : Dv H v (.list ds)) (hn : ds ≠ []) (h : R true) : ∃ k, xZ K v H k /\ R k := AV hp (by
 cases ds with
 | nil => exact absurd rfl hn
 | cons d ds => exact h)
theorem qA {te : TE} {N : Option V -> Hp -> Prop} {σ2 : St} {b : Bool} {H3 : Hp} (h1 : b = true -> te σ2 H3 (fun y H4 => N (some y) H4)) (h2 : b = false -> N none H3) : GV te N σ2 b H3 := by
 unfold GV
 cases b with
 | true => rw [if_pos rfl]; exact h1 rfl
 | false => rw [if_neg (by simp)]; exact h2 rfl
end L2
namespace L2
open PySem PySem.Spec PyProof.Rows
section
variable {X : Cx} {K : PySem.W.Frag} {a b e : Expr} {es : List Expr} {ta : TE} {pos : Pos}
theorem rA (h : X.K = K) (ha : PE X a ta) (he : ∀ whole, isTrue a X.env whole = (do let v <- whole; standAt a.pos; holding [v] (truthy v))) : PT X a (fun σ H Q => ta σ H fun x H' => ∃ k, xZ K x H' k /\ Q k H') := by rw [<- h]; exact eH ha he
end
end L2
namespace L2
open PySem PySem.Spec PyProof.Rows PySem.W
inductive JM (H : Hp) : List (Key × V) -> List (Str × PyData) -> Prop where
 | nil : JM H [] []
 | cons {k : Str} {v : V} {d : PyData} {dN : List (Key × V)} {m : List (Str × PyData)} (h : Dv H v d) (i : sR d = true) (r : JM H dN m) : JM H ((.inr k, v) :: dN) ((k, d) :: m)
def JX (H : Hp) (p : Addr) (m : List (Str × PyData)) : Prop := ∃ dN, H p = some (.dK dN) /\ JM H dN m
section
variable {σ : St} {H : Hp} {Q : VK} {D : Ends} {K : PySem.W.Frag} {p : Addr} {m : List (Str × PyData)} {k : Str}
theorem BL {r r' : R2} {ta tb tc : TE} (h : ta σ H fun x H1 => tb σ H1 fun y H2 => r x y H2 fun z H3 => ∃ k, z = .bl k /\ if k = true then tc σ H3 fun u H4 => r' y u H4 Q else Q (.bl false) H3) : uT r r' ta tb tc σ H Q := h
end
end L2
namespace L2
end L2
namespace L2
open PySem
end L2
namespace L2
open PySem PySem.Spec PyProof.Rows PySem.W
def Fj (x : Str) : It := ⟨fun i _ => i < x.cps.size, fun i H v H' => H' = H /\ ∃ c, x.cps[i]? = some c /\ v = .str ⟨#[c]⟩, fun i _ => i = x.cps.size⟩
theorem uA {P : Program} {w : World} {K : PySem.W.Frag} {tg : Expr} {it : Addr} {x : Str} {t : Tok} {T : String} (hT : ["enumerate", "zip", "dict_itemiterator", "dict_reverseitemiterator", "odict_iterator", "itertools.zip_longest", "itertools.pairwise"].contains T = false)
 (W : ∀ A : Around, A.handled = none -> Walks P w A it [it] [it] x.cps.size (SignAt x) (fun i h => h.IsStrIter it T x t i))
 (self : ∀ (A : Around) (i : Nat) (s : Shared) (Q : Value -> Shared -> Prop) (E : Value -> Shared -> Prop), s.heap.IsStrIter it T x t i -> Q (.ref it) s -> wpAny (model P w) A (pyIter (.ref it)) Q E s) :
 Turn P w K tg (Fj x) [it] it (fun i h => h.IsStrIter it T x t i) where
 mem := by simp
 obj := fun i h st b hb => by
  have e : b = it := by simpa using hb
  subst e
  obtain ⟨o, e, c, d⟩ := st
  exact ⟨o, e, fun v z => by rw [d] at z; cases z⟩
 keep := fun i h h' st k => let ⟨o, e, r⟩ := st; ⟨o, k it (by simp) o e, r⟩
 item := by
  intro X hP hw hK hc i pins s σ H E I hf st hg
  subst hP hw hK
  obtain ⟨f0, f1, f2, f3, f4, f5⟩ := hf it (by simp)
  refine (W X.A (I.ok.hd hc)).item i s _ _ hg st fun v h' tk hv G2 kk => ?_
  obtain ⟨c, u, M9, rfl⟩ := hv
  have I1 : Inv X pins σ H { s with heap := h', toks := tk } := I.turned (fun b o hb e => kk b o (by simpa using hb) e) f0 f1 f3 f4 f5
  obtain ⟨o, e, cl, d⟩ := id G2
  exact ⟨_, rfl, Dt (s := { s with heap := h', toks := tk }) e cl d hT ⟨.str ⟨#[c]⟩, H, I1, ⟨u, rfl⟩, ⟨rfl, c, M9, rfl⟩, G2, fun b hb => (hf b hb).1⟩⟩
 done := by
  intro X hP hw hK hc i pins s σ H E I hf st hg
  subst hP hw hK
  obtain ⟨f0, f1, f2, f3, f4, f5⟩ := hf it (by simp)
  have Ob : i = x.cps.size := hg
  subst Ob
  exact (W X.A (I.ok.hd hc)).done s _ _ st fun h' tk kk => ⟨rfl, I.turned (fun b o hb e => kk b o (by simpa using hb) e) f0 f1 f3 f4 f5⟩
 self := self
def E1 (tl : TE) : TI := fun σ H R => tl σ H fun v H1 => ∃ x, v = .str x /\ R (Fj x) H1
section
variable {X : Cx} {tg : Expr}
theorem zq {l : Expr} {tl : TE} (hl : PE X l tl) : PI X tg l (E1 tl) := by
 intro pins s σ H R I h
 refine bO (hl pins s σ H _ I h) fun v s1 ⟨y, H1, I1, r1, q1⟩ => ?_
 obtain ⟨x, e, q⟩ := q1
 subst e
 obtain ⟨t, rfl⟩ := r1
 have fin : ∀ b, b ∈ [s1.heap.objs.size] -> j3 X pins H1 b := fun b hb => by
  have e : b = s1.heap.objs.size := by simpa using hb
  subst e
  exact I1.Bs (Nat.le_refl _) (I1.bf.fresh (Nat.le_refl _))
 cases ha : x.cps.all (· < 128)
 . refine wpAny_pyIter_wide ha ?_
   exact ⟨s1.heap.objs.size, [s1.heap.objs.size], _, _, H1, rfl, I1.kept (t' := s1.toks) fun b o e => Heap.get?_push_of_some _ e, uA (t := t) (by decide) (fun A hA => Walks.strWide hA _ x t) (fun A i s Q E st q => wpAny_pyIter_striter_wide st q), ⟨_, Heap.get?_push_size _ rfl, rfl, rfl⟩, fin, q⟩
 . refine wpAny_pyIter_ascii ha ?_
   exact ⟨s1.heap.objs.size, [s1.heap.objs.size], _, _, H1, rfl, I1.kept (t' := s1.toks) fun b o e => Heap.get?_push_of_some _ e, uA (t := t) (by decide) (fun A hA => Walks.strAscii hA _ x t) (fun A i s Q E st q => wpAny_pyIter_striter_ascii st q), ⟨_, Heap.get?_push_size _ rfl, rfl, rfl⟩, fin, q⟩
def Iv : List V -> Hp -> VK -> Prop := fun xs H Q => ∃ (v : V) (bs : List Bool), xs = [v] /\ Dv H v (.list (bs.map PyData.bool)) /\ Q (.bl (bs.all id)) H
theorem tV {H : Hp} : ∀ {xs : List V} {bs : List Bool} {us : List Value}, cj H xs (bs.map PyData.bool) -> Vals xs us -> us = bs.map Value.bool
 | _, [], _, .nil, .nil => rfl
 | _, b :: bs, _, .cons h r, .cons q t => by
   cases h
   cases q
   rw [tV r t]; rfl
theorem vj {H : Hp} {pins : List (Addr × Obj)} {σ : St} {s : Shared} {v : V} {u : Value} {bs : List Bool} {A : Around} {E : Value -> Shared -> Prop} {Q : (Nat -> Bool) -> Shared -> Prop} (hA : A.handled = none) (I : Inv X pins σ H s) (rv : RelV v u) (hd : Dv H v (.list (bs.map PyData.bool)))
 (fin : ∀ h' tk, Inv X pins σ H { s with heap := h', toks := tk } -> Q (fun i => bs.getD i false) { s with heap := h', toks := tk }) :
 wpAny (model X.prog X.w) A (pyIter u) (fun it s2 => ∃ J fp wr n P St tr, it = .ref J /\ Walks X.prog X.w A J fp wr n P St /\ St 0 s2.heap /\ TruthOf X.prog X.w A P tr /\ n = bs.length /\ (tr = fun i => bs.getD i false) /\
  ∀ h' tk, (∀ b o, b ∉ wr -> s2.heap.get? b = some o -> h'.get? b = some o) -> Q tr { s2 with heap := h', toks := tk }) E s := by
 obtain ⟨p, xs, rfl, e, dv⟩ := hd.lst_inv
 obtain ⟨aV, Il, pl, _⟩ := I.list (e X.K)
 have hits := tV dv Il
 have hu : u = .ref p := rv
 subst hu
 refine wpAny_pyIter_list pl.isList ?_
 have rJ : p < s.heap.objs.size := by obtain ⟨o, n, e1, _⟩ := pl; exact Heap.lt_size e1
 refine ⟨s.heap.objs.size, _, _, _, _, _, fun i => bs.getD i false, rfl, Walks.list hA _ p (Nat.ne_of_lt rJ) aV.toArray, ⟨⟨_, Heap.get?_push_size _ rfl, rfl, rfl⟩, pl.isList.at fun o e => Heap.get?_push_of_some _ e⟩, ?_, ?_, rfl, fun h' tk kk => ?_⟩
 . intro i w' s3 Q3 E3 hP q
   subst hits
   have hi : (bs.map Value.bool)[i]? = some w' := by simpa using hP
   rw [List.getElem?_map] at hi
   cases hb : bs[i]? with
   | none => rw [hb] at hi; cases hi
   | some b =>
     rw [hb] at hi
     have : w' = .bool b := (Option.some.inj hi).symm
     subst this
     refine wpAny_truthy_bool ?_
     have : bs.getD i false = b := by simp [hb]
     have q' : Q3 (bs.getD i false) s3 := q
     rw [this] at q'
     exact q'
 . subst hits; simp
 . have I1 := I.kept (t' := s.toks) (h' := s.heap.push { cls := Value.type "list_iterator", data := Data.fields #[Value.ref p, Value.int 0 0] }) fun b o e => Heap.get?_push_of_some _ e
   have fp := I.Bs (H' := H) (Nat.le_refl _) (I.bf.fresh (Nat.le_refl _))
   have I2 := I1.turned (t' := tk) (h' := h') (it := s.heap.objs.size) (fun b o hb e => kk b o (by simpa using hb) e) fp.1 fp.2.1 fp.2.2.2.1 fp.2.2.2.2.1 fp.2.2.2.2.2
   exact fin h' tk I2
theorem range_all (bs : List Bool) : (List.range bs.length).all (fun i => bs.getD i false) = bs.all id := by
 rw [Bool.eq_iff_iff]
 simp only [List.all_eq_true, List.mem_range, id]
 constructor
 . intro h b hb
   obtain ⟨i, hi, e⟩ := List.getElem_of_mem hb
   have := h i hi
   simp [hi] at this
   rw [<- e]; exact this
 . intro h i hi
   simp [hi]
   exact h _ (List.getElem_mem hi)
theorem x8 (hc : X.calm = true) : fN X (.builtin "all") Iv := by
 intro pins s σ H xs us Q I r h
 obtain ⟨v, bs, rfl, hd, q⟩ := h
 obtain ⟨u, rfl, ru⟩ := vals1 r
 refine call_all_walk (bO (vj (Q := fun g s' => EP X pins σ Q (.bool ((List.range bs.length).all g)) s') (show X.A.in1.handled = none from I.ok.hd hc) I ru hd (fun h' tk I' => ⟨.bl _, H, I', rfl, ?_⟩)) fun it s2 hq => ?_)
 . rw [range_all]; exact q
 . obtain ⟨J, fp, wr, n, P, St, tr, e1, W, st, tt, hn, Pk, k⟩ := hq
   subst hn
   exact ⟨J, fp, wr, _, P, St, tr, e1, W, st, tt, k⟩
section
variable {σ : St} {H : Hp} {Q : VK} {D : Ends} {K : PySem.W.Frag}
theorem HC {v : V} {bs : List Bool} (hd : Dv H v (.list (bs.map PyData.bool))) (h : Q (.bl (bs.all id)) H) : Iv [v] H Q := ⟨v, bs, rfl, hd, h⟩
def Ii (x : V) (g : TG) (tb : TS) (D : Ends) (σ : St) (H1 : Hp) : Prop := ∃ z, x = .str z /\ ∃ W : Nat -> Nat -> St -> Hp -> Prop, (∃ m, W 0 m σ H1) /\ ∀ i m σ H, W i m σ H ->
 ((Fj z).stop i H /\ D.nx σ H) \/ ((Fj z).go i H /\ ∃ N : St -> Hp -> Prop, (∀ σ' H', N σ' H' -> ∃ m', m' < m /\ W (i + 1) m' σ' H') /\ ∀ x H', (Fj z).JT i H x H' -> g x σ H' fun σ2 H2 => tb { D with nx := N, ct := N, bk := D.nx } σ2 H2)
theorem FQ {tl : TE} {g : TG} {tb : TS} (h : tl σ H fun x H1 => Ii x g tb D σ H1) : G0 (E1 tl) g tb D σ H := h
theorem K0 {z : Str} {g : TG} {tb : TS} (Pv : Nat -> St -> Hp -> Prop) (h0 : Pv 0 σ H)
 (hs : ∀ i c σ H, z.cps[i]? = some c -> Pv i σ H -> g (.str ⟨#[c]⟩) σ H fun σ2 H2 => tb { D with nx := Pv (i + 1), ct := Pv (i + 1), bk := D.nx } σ2 H2) (hd : ∀ σ H, Pv z.cps.size σ H -> D.nx σ H) : Ii (.str z) g tb D σ H := by
 refine ⟨z, rfl, fun i m σ H => i <= z.cps.size /\ m = z.cps.size - i /\ Pv i σ H, ⟨_, Nat.zero_le _, rfl, h0⟩, ?_⟩
 rintro i m σ H ⟨hi, rfl, hp⟩
 by_cases h : i = z.cps.size
 . left
   subst h
   exact ⟨rfl, hd σ H hp⟩
 . right
   have rJ : i < z.cps.size := by omega
   refine ⟨rJ, Pv (i + 1), fun σ' H' q => ⟨z.cps.size - (i + 1), by omega, by omega, rfl, q⟩, ?_⟩
   rintro x H' ⟨rfl, c, hc, rfl⟩
   exact hs i c σ _ hc hp
theorem FP {k : Nat} {tl : TE} {g : TG} {tc : TT} {te : TE} (h : tl σ H fun x H1 => ∃ z, x = .str z /\ D4 k g tc te (rC Q) σ (Fj z) H1) : GD k (E1 tl) g tc te σ H Q := h
theorem Jr {k : Nat} {g : TG} {tc : TT} {te : TE} {z : Str} (pf : Nat -> Bool) (fd : Nat -> PyData) (hlen : z.cps.size <= 4000) (hi : ∀ c, sR (fd c) = true)
 (turn : ∀ c H' (N : Option V -> Hp -> Prop), c ∈ z.cps.toList -> ao H H' -> (pf c = true -> ∀ y H4, ao H' H4 -> Dv H4 y (fd c) -> N (some y) H4) -> (pf c = false -> ∀ H3, ao H' H3 -> N none H3) ->
  g (.str ⟨#[c]⟩) (List.replicate k none ++ σ) H' fun σ2 H2 => tc σ2 H2 fun b H3 => GV te N σ2 b H3)
 (kk : ∀ q H', ao H H' -> H q = none -> dk H' q ((z.cps.toList.filter pf).map fd) -> Q (.ref q) H') : ∃ w, V.str z = .str w /\ D4 k g tc te (rC Q) σ (Fj w) H := by
 refine ⟨z, rfl, fun i m acc H' => i <= z.cps.size /\ m = z.cps.size - i /\ ao H H' /\ cj H' acc (((z.cps.toList.take i).filter pf).map fd), ⟨_, Nat.zero_le _, rfl, ao.refl _, by simpa using cj.nil⟩, ?_⟩
 rintro i m acc H' ⟨MB, hm, sm, iA⟩
 have F3 : acc.length <= z.cps.size := by
  rw [iA.length, List.length_map]
  exact Nat.le_trans (List.length_filter_le _ _) (by rw [List.length_take]; simp; omega)
 by_cases hc : i = z.cps.size
 . left
   refine ⟨hc, fun q hq => ?_⟩
   have e : z.cps.toList.take i = z.cps.toList := List.take_of_length_le (by rw [hc]; simp)
   rw [e] at iA
   exact kk q _ (sm.trans (bC hq)) (sm.none hq) ⟨acc, aO, iA.keeps (bC hq), lE hi _⟩
 . right
   have rJ : i < z.cps.size := by omega
   refine ⟨rJ, fZ (by omega), fun x H2 hy => ?_⟩
   obtain ⟨rfl, c, JB, rfl⟩ := hy
   have Ee : z.cps.toList[i]? = some c := by rw [Array.getElem?_toList]; exact JB
   have DE : z.cps.toList.take (i + 1) = z.cps.toList.take i ++ [c] := by rw [List.take_add_one, Ee]; rfl
   exact turn c H2 (fun o H4 => match o with | some y => ∃ m', m' < m /\ i + 1 <= z.cps.size /\ m' = z.cps.size - (i + 1) /\ ao H H4 /\ cj H4 (acc ++ [y]) (((z.cps.toList.take (i + 1)).filter pf).map fd) | none => ∃ m', m' < m /\ i + 1 <= z.cps.size /\ m' = z.cps.size - (i + 1) /\ ao H H4 /\ cj H4 acc (((z.cps.toList.take (i + 1)).filter pf).map fd))
    (List.mem_of_getElem? Ee) sm
    (fun hp y H4 s4 d4 => ⟨z.cps.size - (i + 1), by omega, rJ, rfl, sm.trans s4, by
     rw [DE, List.filter_append, List.map_append]
     simp only [List.filter_cons, hp, if_true, List.filter_nil, List.map_cons, List.map_nil]
     exact cj.append (iA.keeps s4) (.cons d4 .nil)⟩)
    (fun hp H3 s3 => ⟨z.cps.size - (i + 1), by omega, rJ, rfl, sm.trans s3, by
     rw [DE, List.filter_append, List.map_append]
     simp only [List.filter_cons, hp, Bool.false_eq_true, if_false, List.filter_nil, List.map_nil, List.append_nil]
     exact iA.keeps s3⟩)
end
end
end L2
namespace L2
open PySem
section
variable {H : Hp} {Q : VK} {K : PySem.W.Frag}
theorem Df {z : Str} (hl : z.length <= 4000) (h : Q (.int (z.length : Nat)) H) : tu K [.str z] H Q := .inl (.inr ⟨z, rfl, small hl, h⟩)
def DP : R2 := fun x y H Q => ∃ i j, x = .str i /\ y = .str j /\ Q (.bl (!(!(Builtin.Str.occurrences j i 0 j.length 1).isEmpty))) H
theorem zf {X : Cx} : j0 X (compareOp .NotIn) DP := sW
theorem CQ {i j : Str} (h : Q (.bl (!(!(Builtin.Str.occurrences j i 0 j.length 1).isEmpty))) H) : DP (.str i) (.str j) H Q := ⟨i, j, rfl, rfl, h⟩
def DQ : R2 := fun x y H Q => ∃ i j, x = .str i /\ y = .str j /\ Q (.bl (!(Builtin.Str.occurrences j i 0 j.length 1).isEmpty)) H
theorem C0 {X : Cx} : j0 X (compareOp .In) DQ := xS
theorem EY {i j : Str} (h : Q (.bl (!(Builtin.Str.occurrences j i 0 j.length 1).isEmpty)) H) : DQ (.str i) (.str j) H Q := ⟨i, j, rfl, rfl, h⟩
end
end L2
namespace L2
open PySem PySem.Spec PyProof.Rows PySem.W
section
variable {X : Cx}
theorem wy {H : Hp} : ∀ {xs : List V} {ss : List Str} {us : List Value}, cj H xs (ss.map PyData.str) -> Vals xs us -> StrsAre us ss
 | _, [], _, .nil, .nil => .nil
 | _, b :: bs, _, .cons h r, .cons q t => by
   cases h
   obtain ⟨tk, rfl⟩ := q
   exact .cons _ _ (wy r t)
def rJoin : V -> List V -> Hp -> VK -> Prop := fun x vs H Q => ∃ (sep : Str) (v : V) (ss : List Str), x = .str sep /\ vs = [v] /\ Dv H v (.list (ss.map PyData.str)) /\ (ss.map (·.length)).sum + ss.length * sep.length <= 16777216 /\ Q (.str (Txt.join sep ss)) H
theorem sv : Jq X "str.join" rJoin := by
 intro pins s σ H x vs v us Q I rx rv h
 obtain ⟨sep, y, ss, rfl, rfl, hd, hz, q⟩ := h
 obtain ⟨t, rfl⟩ := rx
 obtain ⟨u, rfl, ru⟩ := rv.one
 obtain ⟨p, xs, rfl, e, dv⟩ := hd.lst_inv
 obtain ⟨aV, Il, pl, _⟩ := I.list (e X.K)
 have hu : u = .ref p := ru
 subst hu
 have hs := wy dv Il
 refine join_list pl.isList (by simpa using hs) hz fun t' k => ?_
 exact ⟨.str _, H, I.tok _, ⟨_, rfl⟩, q⟩
end
section
variable {σ : St} {H : Hp} {Q : VK} {D : Ends} {K : PySem.W.Frag} {p : Addr} {ds : List PyData}
theorem sS {sep : Str} {v : V} {ss : List Str} (hd : Dv H v (.list (ss.map PyData.str))) (hz : (ss.map (·.length)).sum + ss.length * sep.length <= 16777216) (h : Q (.str (Txt.join sep ss)) H) : rJoin (.str sep) [v] H Q := ⟨sep, v, ss, rfl, rfl, hd, hz, h⟩
theorem HU {z : Str} {R : Prop} (h : R) : Gx K "str" (.str z) H /\ R := ⟨rfl, h⟩
theorem cj.rev {H : Hp} {xs : List V} {ds : List PyData} (h : cj H xs ds) : cj H xs.reverse ds.reverse := by
 induction xs generalizing ds with
 | nil => cases h; exact .nil
 | cons x xs ih =>
   cases h with
   | cons h r => rw [List.reverse_cons, List.reverse_cons]; exact (ih r).append (.cons h .nil)
theorem qC {ds : List PyData} (h : aP ds = true) : aP ds.reverse = true := by
 rw [c7] at *
 intro d hd
 exact h d (List.mem_reverse.mp hd)
theorem Jd (hp : dk H p ds) (h : ∀ H2, Mv [p] H H2 -> dk H2 p ds.reverse -> Q .cq H2) : um (.ref p) [] H Q := by
 obtain ⟨xs, e, dv, i⟩ := hp
 have m : Mv [p] H (upd H p (.lst xs.reverse)) := .wa e (by intro _ z; cases z)
 exact ⟨p, xs, rfl, rfl, e, h _ m ⟨_, aO, m.AX (qC i) dv.rev, qC i⟩⟩
theorem cj.drop {H : Hp} : ∀ {xs : List V} {ds : List PyData} (n : Nat), cj H xs ds -> cj H (xs.drop n) (ds.drop n)
 | _, _, 0, h => h
 | _, _, _ + 1, .nil => .nil
 | _, _, n + 1, .cons _ r => cj.drop n r
theorem cj.take {H : Hp} : ∀ {xs : List V} {ds : List PyData} (n : Nat), cj H xs ds -> cj H (xs.take n) (ds.take n)
 | _, _, 0, _ => .nil
 | _, _, _ + 1, .nil => .nil
 | _, _, n + 1, .cons h r => .cons h (cj.take n r)
theorem js {ds : List PyData} (n : Nat) (h : aP ds = true) : aP (ds.drop n) = true := by
 rw [c7] at *
 exact fun d hd => h d (List.mem_of_mem_drop hd)
theorem jG {ds : List PyData} (n : Nat) (h : aP ds = true) : aP (ds.take n) = true := by
 rw [c7] at *
 exact fun d hd => h d (List.mem_of_mem_take hd)
theorem yQ (xs : List V) (i : Nat) : sx xs (some (i : Int)) none = xs.drop i := by
 have h1 : HT.fM xs.length 0 (some (i : Int)) = min i xs.length := by
  simp only [HT.fM]
  rw [if_neg (by omega)]
  omega
 have h2 : HT.fM xs.length xs.length none = xs.length := rfl
 show (xs.drop (HT.fM xs.length 0 (some (i : Int)))).take (HT.fM xs.length xs.length none - HT.fM xs.length 0 (some (i : Int))) = _
 rw [h1, h2]
 by_cases h : i <= xs.length
 . rw [Nat.min_eq_left h, List.take_of_length_le (by rw [List.length_drop]; omega)]
 . rw [List.drop_of_length_le (show xs.length <= min i xs.length by omega), List.drop_of_length_le (show xs.length <= i by omega), List.take_nil]
theorem Em (xs : List V) (j : Nat) : sx xs none (some (j : Int)) = xs.take j := by
 have h1 : HT.fM xs.length xs.length (some (j : Int)) = min j xs.length := by
  simp only [HT.fM]
  rw [if_neg (by omega)]
  omega
 have h2 : HT.fM xs.length 0 none = 0 := rfl
 show (xs.drop (HT.fM xs.length 0 none)).take (HT.fM xs.length xs.length (some (j : Int)) - HT.fM xs.length 0 none) = _
 rw [h1, h2, List.drop_zero, Nat.sub_zero]
 by_cases h : j <= xs.length
 . rw [Nat.min_eq_left h]
 . rw [List.take_of_length_le (show xs.length <= min j xs.length by omega), List.take_of_length_le (show xs.length <= j by omega)]
theorem sE (i : Nat) (hp : dk H p ds) (k : ∀ q H', ao H H' -> H q = none -> dk H' q (ds.drop i) -> Q (.ref q) H') : t6 K (.ref p) (some (i : Int)) none H Q := by
 obtain ⟨xs, e, dv, im⟩ := hp
 refine ⟨p, xs, rfl, gf.of e, fun q hq => ?_⟩
 rw [yQ]
 exact k q _ (bC hq) hq (iE hq (dv.drop i) (js i im))
theorem AW (j : Nat) (hp : dk H p ds) (k : ∀ q H', ao H H' -> H q = none -> dk H' q (ds.take j) -> Q (.ref q) H') : t6 K (.ref p) none (some (j : Int)) H Q := by
 obtain ⟨xs, e, dv, im⟩ := hp
 refine ⟨p, xs, rfl, gf.of e, fun q hq => ?_⟩
 rw [Em]
 exact k q _ (bC hq) hq (iE hq (dv.take j) (jG j im))
theorem z9 {q : Addr} {es : List PyData} (hp : dk H p ds) (hq : dk H q es) (hl : ds.length + es.length <= 4000) (k : ∀ r H', ao H H' -> H r = none -> dk H' r (ds ++ es) -> Q (.ref r) H') : FA (.ref p) (.ref q) H Q := by
 obtain ⟨xs, e, dv, im⟩ := hp
 obtain ⟨zs, e2, Mm, N8⟩ := hq
 refine ⟨p, q, xs, zs, rfl, rfl, e, e2, by rw [dv.length, Mm.length]; exact small hl, fun r hr => ?_⟩
 exact k r _ (bC hr) hr (iE hr (dv.append Mm) (gG im N8))
end
end L2
namespace L2
open PySem PySem.Calls PyProof.Rows
section
variable {X : Cx} {e k : Expr} {te tk : TE} {pos p2 : Pos}
end
section
variable {X : Cx}
end
section
variable {K : PySem.W.Frag} {σ : St} {H : Hp} {Q : VK} {p : Addr} {ds : List PyData}
end
end L2
namespace L2
open PySem PySem.Spec PyProof.Rows PySem.W
theorem Bh (lo hi : Option Int) (n : Nat) : (Builtin.Str.strSliceIndices lo hi 1 n).length <= n := by
 unfold Builtin.Str.strSliceIndices sliceRange
 simp only [List.length_map, List.length_range, Int.ediv_one, show (1 : Int) > 0 by decide, if_true]
 cases lo <;> cases hi <;> simp only [] <;> (repeat' split) <;> omega
section
variable {X : Cx}
theorem rk : ∀ {us : List Value} {ss : List Str}, StrsAre us ss -> Vals (ss.map V.str) us
 | _, _, .nil => .nil
 | _, _, .cons _ t r => .cons ⟨t, rfl⟩ (rk r)
theorem ug {H : Hp} : ∀ (ss : List Str), cj H (ss.map V.str) (ss.map PyData.str)
 | [] => .nil
 | x :: r => .cons (.str x) (ug r)
theorem wK {H : Hp} : ∀ {xs : List V} {ns : List Int} {us : List Value}, cj H xs (ns.map PyData.int) -> Vals xs us -> IntsAre us ns
 | _, [], _, .nil, .nil => .nil
 | _, _ :: _, _, .cons h r, .cons q t => by
   cases h
   obtain ⟨tk, rfl⟩ := q
   exact .cons _ _ (wK r t)
end
section
variable {prog : Program} {w : World} {A : Around} {E : Value -> Shared -> Prop} {s : Shared} {it l : Addr} {aV : Array Value}
end
section
variable {X : Cx} {e : Expr} {te : TE} {p p2 pos NA : Pos}
end
section
variable {K : PySem.W.Frag} {σ : St} {H : Hp} {Q : VK} {p : Addr} {ds : List PyData} {v : V}
end
section
variable {P : Program} {w : World} {H : Hp} {h : Heap} {d : Addr} {o : Obj} {dN : List (Key × V)}
end
section
variable {X : Cx} {pins : List (Addr × Obj)} {σ : St} {H : Hp} {s : Shared} {d : Addr} {o : Obj} {dN : List (Key × V)}
end
section
variable {σ : St} {H : Hp} {Q : VK} {K : PySem.W.Frag} {p : Addr} {m : List (Str × PyData)} {k : Str}
end
section
variable {X : Cx}
end
section
variable {σ : St} {H : Hp} {Q : VK} {K : PySem.W.Frag} {p : Addr} {m : List (Str × PyData)} {k : Str}
end
section
variable {σ : St} {H : Hp} {Q : VK} {K : PySem.W.Frag} {p : Addr}
end
section
variable {X : Cx}
end
section
variable {prog : Program} {w : World} {K : Type} [DecidableEq K] {knd : KeyKind prog w K} {A : Around} {E : Value -> Shared -> Prop} {s : Shared} {d : Addr} {dN : List (K × Value)} {ep : Nat}
end
section
variable {X : Cx}
end
section
variable {σ : St} {H : Hp} {Q : VK} {p : Addr} {m : List (Str × PyData)}
theorem oF : ∀ ss : List Str, aP (ss.map PyData.str) = true
 | [] => rfl
 | _ :: r => by rw [List.map_cons, aP, oF r]; rfl
end
section
variable {σ : St} {H : Hp} {D : Ends} {p : Addr} {m : List (Str × PyData)} {g : TG} {tb : TS}
end
section
variable {σ : St} {H : Hp} {K : PySem.W.Frag}
theorem GB {x : V} {i j : Nat} {d1 d2 : PyData} {R : St -> Hp -> Prop} (hd : Dv H x (.tuple [d1, d2])) (h : ∀ v1 v2, Dv H v1 d1 -> Dv H v2 d2 -> R ((σ.set i (some v1)).set j (some v2)) H) :
 CA K 2 (qD (ja i) (qD (ja j) CK)) x σ H R := by
 cases hd with
 | tup ha r =>
   cases r with
   | cons h1 r =>
     cases r with
     | cons h2 r =>
       cases r
       exact ⟨_, _, rfl, .of ha, rfl, _, _, rfl, _, _, rfl, rfl, h _ _ h1 h2⟩
end
def Tr (h : Heap) (a T : Addr) (c : Value) : Prop := ∃ oe vs oT ts, h.get? a = some oe /\ oe.cls = c /\ oe.dict = none /\ oe.data = .fields vs /\ vs[1]? = some (.ref T) /\ T ≠ a /\ h.get? T = some oT /\ oT.data = .fields ts /\ ts[3]? = some .none /\ vs[2]? = some .none
structure Lv (l : List Env) (S : List Addr) (h h' : Heap) : Prop where
 keep : ∀ b o, b ∉ j5 l -> b ∉ S -> h.get? b = some o -> h'.get? b = some o
 slot : ∀ b o, b ∈ j5 l -> h.get? b = some o -> ∃ sl, h'.get? b = some { o with slots := sl }
section
variable {M : Model} {A : Around} {E : Value -> Shared -> Prop} {s : Shared} {env : Env} {outer : List Env} {L a T : Addr} {c : Value} {base : Heap} {Q : Unit -> Shared -> Prop}
end
theorem c6.live {P : Program} {w : World} {H : Hp} {h : Heap} {a : Addr} {o : HO} (x : c6 P w H h a o) : ∃ ob, h.get? a = some ob := by
 induction o with
 | lst xs => obtain ⟨_, _, _, _, e⟩ := x; exact ⟨_, e⟩
 | tup xs => obtain ⟨_, _, _, ob, e, _⟩ := x; exact ⟨_, e⟩
 | dK dN => obtain ⟨_, _, _, _, o, _, _, e, _⟩ := x; exact ⟨_, e⟩
 | dT dN => obtain ⟨_, _, _, _, o, _, _, e, _⟩ := x; exact ⟨_, e⟩
 | set S n => obtain ⟨o, _, _, _, e, _⟩ := x; exact ⟨_, e⟩
 | ins C dx fs => obtain ⟨_, _, _, e, _⟩ := x; exact ⟨_, e⟩
 | own y => exact x
 | xd fs => obtain ⟨_, ⟨_, _, _, e, _⟩, _⟩ := x; exact ⟨_, e⟩
 | J1 lo hi => obtain ⟨_, _, _, e⟩ := x; exact ⟨_, e⟩
 | uL ob u _ => exact ⟨_, x.1⟩
 | DZ ps => exact ⟨_, x⟩
 | met f y => exact ⟨_, x⟩
 | ext φ => exact x.2.1
theorem lR.dead {P : Program} {w : World} {H : Hp} {h : Heap} {a : Addr} (ok : lR P w H h) (n : h.get? a = none) : H a = none := by
 cases e : H a with
 | none => rfl
 | some u =>
   obtain ⟨o, z⟩ := (ok a u e).live
   rw [n] at z
   cases z
def NQ (P : Program) (w : World) : qt := fun outer H s E e s' => ∃ a T C H', e = .ref a /\ s'.os = s.os /\ AllBare s'.gens /\ Un (j5 outer) [] H H' s.heap s'.heap /\ lR P w H' s'.heap /\ Tr s'.heap a T (.ref C) /\ s.heap.get? a = none /\ s.heap.get? T = none /\ H' a = none /\ H' T = none /\ E (.ref C) none H'
section
variable {P : Program} {w : World} {K : PySem.W.Frag} {mg : Str -> Option Value} {base : Heap} {N : List Str} {qual : Str} {scope : Scope} {f : Addr} {cd : Value} {A : Around} {outer : List Env} {s0 : Shared} {H0 : Hp} {E : XK} {CX : qt} {pins : List (Addr × Obj)} {σ : St} {H : Hp} {s : Shared}
end
section
variable {K : PySem.W.Frag} {h : Heap} {C : Addr} {Di : List Value} {newId : String}
def Fg (h : Heap) (C : Addr) (Di : List Value) (newId : String) : Prop := ∃ (bm : List Value) (N : Addr) (nm q : Str) (bs : List Value) (hd : Bool) (sn : List Str) (sub : List Value) (ab : Bool) (col : Option Bool) (dd : Option Addr) (k0 k1 k2 k3 k5 : Option Value) (mN : Str -> Option Value),
 h.get? C = some (excClassObj nm q C N bs bm hd sn sub ab col dd k0 k1 k2 k3 k5 newId) /\ h.Ns N mN /\ mN "__init__" = none /\ OwnTail h Di bm
theorem vK (X : K.In h) (q : excIn K C Di newId = true) : Fg h C Di newId := by
 unfold excIn at q
 split at q
 . rename_i dd cd sl ho
   split at q
   . rename_i C' bm k0 k1 k2 k3 n k5 hm hs
     simp only [Bool.and_eq_true, beq_iff_eq, Bool.not_eq_true'] at q
     obtain ⟨⟨⟨⟨⟨rfl, rfl⟩, Hh⟩, ht⟩, bf⟩, DW⟩ := q
     obtain ⟨nm, bs, mro, ns, qn, hd, sn, sub, ab, col, del⟩ := cd
     dsimp only at hm Hh bf DW
     subst hm Hh
     obtain ⟨l⟩ := sl
     dsimp only at hs
     subst hs
     exact ⟨bm, ns, nm, qn, bs, hd, sn, sub, ab, col, dd, k0, k1, k2, k3, k5, _, X _ _ ho, .of_isNs (isNs_of_in X bf), nsMap_none_of_in X bf DW, tail_of_in X ht⟩
   . cases q
 . cases q
end
abbrev Kr : List Value := [.type "ValueError", .type "Exception", .type "BaseException", .type "object"]
def pS (K : PySem.W.Frag) (C : Addr) : Prop := excIn K C Kr "ValueError.__new__" = true
section
variable {X : Cx} {pins : List (Addr × Obj)} {σ : St} {H : Hp} {s : Shared}
theorem Inv.lv {S : List Addr} {h' : Heap} {t' : Nat} (I : Inv X pins σ H s) (lv : Lv X.stack S s.heap h') (hS : ∀ b ∈ S, H b = none /\ X.cH.heap.get? b = none /\ b ≠ X.env.locals /\ (∀ x c, X.env.cells.lookup x = some c -> c ≠ b) /\ ∀ p ∈ X.pn ++ pins, p.1 ≠ b) : Inv X pins σ H { s with heap := h', toks := t' } := by
 have old : ∀ b o, X.cH.heap.get? b = some o -> b ∉ S /\ b ≠ X.env.locals := fun b o e => ⟨fun z => (by rw [(hS b z).2.1] at e; cases e), Nat.ne_of_lt (Nat.lt_of_lt_of_le (Heap.lt_size e) I.ok.above)⟩
 have one : ∀ b o, b ∉ S -> s.heap.get? b = some o -> ∃ sl, h'.get? b = some { o with slots := sl } := fun b o n e => by
  by_cases m : b ∈ j5 X.stack
  . exact lv.slot b o m e
  . exact ⟨o.slots, lv.keep b o m n e⟩
 have nL : X.env.locals ∉ S := fun z => (hS _ z).2.2.1 rfl
 have cellK : ∀ x c, X.env.cells.lookup x = some c -> ∀ v, s.heap.IsCell c v -> h'.IsCell c v := fun x c e v ⟨o, ho, hd⟩ => by
  obtain ⟨sl, q⟩ := one c o (fun z => (hS c z).2.2.2.1 x c e rfl) ho
  exact ⟨_, q, hd⟩
 have MV : ∀ b, b ∉ X.fs -> b ≠ X.env.locals -> b ∉ j5 X.stack := fun b n1 n2 m => by
  rcases List.mem_cons.mp (I.rY b m) with z | z
  . exact n2 z
  . exact n1 z
 refine ⟨I.ok, I.os, I.bare, ⟨fun b o e n hb hx => ?_, fun b o e n hb hx => ?_, fun b o e n hx => I.base.free b o e n hx, fun b o e hx => ?_, I.base.j7, I.base.jk, I.base.lK⟩, ?_, fun x c e => ?_, I.free, I.d8, fun p hp => ?_, fun b u e => ?_, I.len⟩
 . exact lv.keep b o (MV b hb (old b o e).2) (old b o e).1 (I.base.keep b o e n hb hx)
 . obtain ⟨sl, z⟩ := I.base.slot b o e n hb hx
   obtain ⟨DM, z2⟩ := one b _ (old b o e).1 z
   exact ⟨DM, z2⟩
 . obtain ⟨o2, z⟩ := I.base.there b o e hx
   obtain ⟨DM, z2⟩ := one b _ (old b o e).1 z
   exact ⟨_, z2⟩
 . obtain ⟨m, ⟨o, es, ep, ho, r⟩, hl⟩ := I.loc
   obtain ⟨sl, z⟩ := one _ o nL ho
   refine ⟨m, ⟨_, es, ep, z, r⟩, fun i x v e1 e2 e3 => ?_⟩
   obtain ⟨u, ru, l⟩ := hl i x v e1 e2 e3
   refine ⟨u, ru, ?_⟩
   rcases l with l | ⟨k, c, e, z⟩
   . exact .inl l
   . exact .inr ⟨k, c, e, cellK x c e _ z⟩
 . obtain ⟨v, z⟩ := I.cell x c e
   exact ⟨v, cellK x c e v z⟩
 . obtain ⟨e, n, ne, nf, d⟩ := I.pin p hp
   exact ⟨lv.keep p.1 p.2 (MV p.1 nf ne) (fun z => (hS p.1 z).2.2.2.2 p hp rfl) e, n, ne, nf, d⟩
 . refine (I.bf b u e).pk (fun c v hc q => ?_) (fun _ q => q) fun _ _ q => q
   have rZ : H c ≠ none := by
    rcases hc with rfl | hc
    . rw [e]; intro z; cases z
    . rw [hc]; intro z; cases z
   exact lv.keep c v (fun m => rZ (I.lX c m)) (fun m => rZ (hS c m).1) q
theorem Inv.zb {a : Addr} {φ : Heap -> Prop} (I : Inv X pins σ H s) (ha : H a = none) (hs : X.cH.heap.get? a = none) (hL : a ≠ X.env.locals) (hc : ∀ x c, X.env.cells.lookup x = some c -> c ≠ a) (hp : ∀ p ∈ X.pn ++ pins, p.1 ≠ a)
 (new : φ s.heap /\ (∃ o, s.heap.get? a = some o) /\ ∀ h1 h2 : Heap, φ h1 -> (∀ o, h1.get? a = some o -> h2.get? a = some o) -> φ h2) : Inv X pins σ (upd H a (.ext φ)) s := by
 have kp : ∀ b u, H b = some u -> upd H a (.ext φ) b = some u := fun b u e => by rw [aK (fun z => by rw [z, ha] at e; cases e)]; exact e
 have fr : ∀ b, b ≠ a -> H b = none -> upd H a (.ext φ) b = none := fun b n e => by rw [aK n]; exact e
 refine ⟨I.ok, I.os, I.bare, ⟨I.base.keep, I.base.slot, fun b o e n hx => fr b (fun z => by rw [z, hs] at e; cases e) (I.base.free b o e n hx), I.base.there, fun b xs e => kp _ _ (I.base.j7 b xs e), fun b o u e => kp _ _ (I.base.jk b o u e), fun b ps e => ?_⟩, I.loc, I.cell, fr _ (Ne.symm hL) I.free, fun x c e => fr _ (hc x c e) (I.d8 x c e), fun p MH => ?_, fun b u e => ?_, I.len⟩
 . obtain ⟨m, z⟩ := I.base.lK b ps e
   exact ⟨m, kp _ _ z⟩
 . obtain ⟨e1, e2, e3⟩ := I.pin p MH
   exact ⟨e1, fr _ (hp p MH) e2, e3⟩
 . by_cases z : b = a
   . subst z
     rw [aO] at e
     cases e
     exact new
   . rw [aK z] at e
     exact (I.bf b u e).pk (fun _ _ _ q => q) (fun c q => kp _ _ q) fun c xs q => kp _ _ q
abbrev Cx.pd (X : Cx) (f : Value -> Shared -> Prop) (pn : List (Addr × Obj)) : Cx := { X with xe := f, pn := pn }
abbrev Cx.hand (X : Cx) (a : Addr) : Cx := { X with A := X.A.mark (some (.ref a)), calm := false, xe := fun _ _ => False }
theorem Inv.zK {f : Value -> Shared -> Prop} (I : Inv X pins σ H s) : Inv (X.pd f (X.pn ++ pins)) [] σ H s :=
 ⟨⟨I.ok.mod, I.ok.kind, I.ok.glob, I.ok.blt, I.ok.above, I.ok.inj, I.ok.has, I.ok.C4, I.ok.hd, I.ok.frames, I.ok.DA, I.ok.A6, I.ok.bs, I.ok.wN, I.ok.r6, I.ok.q0, I.ok.j2, I.ok.yN⟩, I.os, I.bare, I.base, I.loc, I.cell, I.free, I.d8, fun p hp => I.pin p (by simpa using hp), I.bf, I.len⟩
theorem Inv.gZ {f : Value -> Shared -> Prop} {qk : List (Addr × Obj)} (I : Inv (X.pd f (X.pn ++ pins)) qk σ H s) : Inv X pins σ H s :=
 ⟨⟨I.ok.mod, I.ok.kind, I.ok.glob, I.ok.blt, I.ok.above, I.ok.inj, I.ok.has, I.ok.C4, I.ok.hd, I.ok.frames, I.ok.DA, I.ok.A6, I.ok.bs, I.ok.wN, I.ok.r6, I.ok.q0, I.ok.j2, I.ok.yN⟩, I.os, I.bare, I.base, I.loc, I.cell, I.free, I.d8, fun p hp => I.pin p (List.mem_append_left _ hp), I.bf, I.len⟩
theorem Inv.n6 {a : Addr} (I : Inv X pins σ H s) : Inv (X.hand a) pins σ H s :=
 ⟨⟨I.ok.mod, I.ok.kind, I.ok.glob, I.ok.blt, I.ok.above, I.ok.inj, I.ok.has, I.ok.C4, (fun z => nomatch z), I.ok.frames, I.ok.DA, I.ok.A6, I.ok.bs, I.ok.wN, I.ok.r6, I.ok.q0, I.ok.j2, I.ok.yN⟩, I.os, I.bare, I.base, I.loc, I.cell, I.free, I.d8, I.pin, I.bf, I.len⟩
theorem Inv.om {a : Addr} (I : Inv (X.hand a) pins σ H s) (ok : X.Ok) : Inv X pins σ H s :=
 ⟨ok, I.os, I.bare, I.base, I.loc, I.cell, I.free, I.d8, I.pin, I.bf, I.len⟩
end
section
variable {M : Model} {A : Around} {E : Value -> Shared -> Prop}
end
structure GJ (K : PySem.W.Frag) (C : Addr) : Prop where
 ga : PySem.W.findIn K (.ref C) "__getattribute__" = some (some (.builtin "BaseException.__getattribute__"))
 gn : PySem.W.findIn K (.ref C) "__getattr__" = some none
 mb : PySem.W.mroIn K C (.type "BaseException") = some true
 hd : PySem.W.hasDictIn K C = true
 ty : Ht K C
section
variable {X : Cx}
end
section
variable {P : Program} {w : World} {K : PySem.W.Frag} {mg : Str -> Option Value} {base : Heap}
structure Ni (P : Program) (w : World) (K : PySem.W.Frag) (mg : Str -> Option Value) (base : Heap) (k : Nat) (f : Addr) (ps : List Str) (cU : List V) (sp : Sp) : Prop where
 ex : ∃ (fd : FuncData) (ds : List Value), bh P w K mg base (NQ P w) k f fd ps sp /\ Binds K fd ps ds /\ Vals cU ds
end
section
variable {X : Cx} {k : Nat} {f : Addr} {ps : List Str} {sp : Sp} {cU : List V} {E : XK} {x : Str} {p pos : Pos} {e : Expr} {es : List Expr} {t : TA}
end
section
variable {σ : St} {H : Hp} {Q : VK} {D : Ends} {K : PySem.W.Frag} {E : XK} {C : Addr} {ta : TA}
theorem zx {x : V} (h : E (.ref C) none H) : [x].length <= sizeLine /\ E (.ref C) none H := ⟨by rw [sizeLine_eq]; simp, h⟩
end
def lB (z : Str) (lo hi : Option Int) : Str := ⟨((Builtin.Str.strSliceIndices lo hi 1 z.length).filterMap (z.cps[·]?)).toArray⟩
def IX : V -> Option Int -> Option Int -> Hp -> VK -> Prop := fun x lo hi H Q => ∃ z : Str, x = .str z /\ z.length <= 4000 /\ Q (.str (lB z lo hi)) H
theorem CO {lo hi : Option Int} {n : Nat} (h : (Builtin.Str.strSliceIndices lo hi 1 n).length = n) : Builtin.Str.strSliceIndices lo hi 1 n = List.range n := by
 have key : ∀ a b : Int, 0 <= a -> b <= n -> (sliceRange a b 1).length = n -> sliceRange a b 1 = List.range n := by
  intro a b ha hb hl
  unfold sliceRange at hl ⊢
  simp only [List.length_map, List.length_range, Int.ediv_one, show (1 : Int) > 0 by decide, if_true] at hl ⊢
  rw [hl]
  by_cases hn : n = 0
  . subst hn; rfl
  . have : a = 0 := by
     split at hl <;> omega
    subst this
    rw [show (fun k : Nat => ((0 : Int) + 1 * (k : Int)).toNat) = id from funext fun k => by simp, List.map_id]
 unfold Builtin.Str.strSliceIndices at h ⊢
 simp only [show (1 : Int) > 0 by decide, if_true] at h ⊢
 refine key _ _ ?_ ?_ h
 . cases lo <;> simp only [] <;> omega
 . cases hi <;> simp only [] <;> omega
theorem lC : ∀ (l : List Nat), (List.range l.length).filterMap (fun i => l[i]?) = l
 | [] => rfl
 | c :: r => by
   rw [List.length_cons, List.range_succ_eq_map, List.filterMap_cons]
   simp only [List.getElem?_cons_zero, List.filterMap_map]
   have : ((fun i => (c :: r)[i]?) ∘ Nat.succ) = fun i => r[i]? := funext fun i => by simp
   rw [this, lC r]
theorem yA {z : Str} {lo hi : Option Int} (h : (Builtin.Str.strSliceIndices lo hi 1 z.length).length = z.length) : lB z lo hi = z := by
 unfold lB
 rw [CO h]
 obtain ⟨⟨l⟩⟩ := z
 show (⟨((List.range l.length).filterMap fun i => (⟨l⟩ : Array Nat)[i]?).toArray⟩ : Str) = _
 have : (fun i => (⟨l⟩ : Array Nat)[i]?) = fun i => l[i]? := funext fun i => (Array.getElem?_toList (xs := ⟨l⟩)).symm
 rw [this, lC l]
theorem vA (z : Str) : lB z (some 1) none = ⟨(z.cps.toList.drop 1).toArray⟩ := by
 obtain ⟨⟨l⟩⟩ := z
 unfold lB Builtin.Str.strSliceIndices
 have e0 : (fun i => (⟨l⟩ : Array Nat)[i]?) = fun i => l[i]? := funext fun i => (Array.getElem?_toList (xs := ⟨l⟩)).symm
 show (⟨(List.filterMap (fun i => (⟨l⟩ : Array Nat)[i]?) _).toArray⟩ : Str) = ⟨(l.drop 1).toArray⟩
 rw [e0]
 have el : Str.length ⟨⟨l⟩⟩ = l.length := rfl
 rw [el]
 cases l with
 | nil => rfl
 | cons c r =>
   have e1 : sliceRange (max 0 (min 1 ((r.length + 1 : Nat) : Int))) ((r.length + 1 : Nat) : Int) 1 = (List.range r.length).map (· + 1) := by
    unfold sliceRange
    simp only [Int.ediv_one, show (1 : Int) > 0 by decide, if_true]
    rw [show max (0 : Int) (min 1 ((r.length + 1 : Nat) : Int)) = 1 by omega]
    have e2 : (if (1 : Int) < ((r.length + 1 : Nat) : Int) then ((r.length + 1 : Nat) : Int) - 1 + 1 - 1 else 0).toNat = r.length := by split <;> omega
    rw [e2]
    exact List.map_congr_left fun k _ => by omega
   have e3 : (Builtin.Str.strSliceIndices (some 1) none 1 (c :: r).length) = (List.range r.length).map (· + 1) := e1
   show (⟨(List.filterMap (fun i => (c :: r)[i]?) (Builtin.Str.strSliceIndices (some 1) none 1 (c :: r).length)).toArray⟩ : Str) = _
   rw [e3, List.filterMap_map]
   have : ((fun i => (c :: r)[i]?) ∘ (· + 1)) = fun i => r[i]? := funext fun i => by simp
   rw [this, lC r]
   rfl
section
variable {X : Cx}
theorem BO : Ld X IX := by
 intro pins s σ H x v vl vu lo hi sl Q I rx hs pl pu h
 obtain ⟨z, rfl, hz, q⟩ := h
 obtain ⟨t, rfl⟩ := rx
 obtain ⟨l, rfl, e1⟩ : ∃ l : Option (Int × Tok), vl = partValue l /\ l.map (·.1) = lo := by
  cases pl with
  | none => exact ⟨none, rfl, rfl⟩
  | int i t => exact ⟨some (i, t), rfl, rfl⟩
 obtain ⟨u, rfl, e2⟩ : ∃ u : Option (Int × Tok), vu = partValue u /\ u.map (·.1) = hi := by
  cases pu with
  | none => exact ⟨none, rfl, rfl⟩
  | int i t => exact ⟨some (i, t), rfl, rfl⟩
 refine ⟨"str", _, F.slot_str_getitem.lookup, typeIs_str _ _ _, ?_⟩
 refine wpAny_getItem_str_slice (l := l) (u := u) (st := none) hs rfl ?_
 have ep : slicePicked z l u none = Builtin.Str.strSliceIndices lo hi 1 z.length := by unfold slicePicked; rw [e1, e2]; rfl
 unfold sliceMade
 rw [ep]
 split
 . rename_i c
   rw [Bool.and_eq_true] at c
   have := yA (z := z) (lo := lo) (hi := hi) (by simpa using c.2)
   rw [this] at q
   exact ⟨.str z, H, I, ⟨t, rfl⟩, q⟩
 . have hn : (List.filterMap (fun i => z.cps[i]?) (Builtin.Str.strSliceIndices lo hi 1 z.length)).length <= z.length := by
    refine Nat.le_trans (List.length_filterMap_le _ _) ?_
    exact Bh _ _ _
   have hl : (Str.mk (List.filterMap (fun i => z.cps[i]?) (Builtin.Str.strSliceIndices lo hi 1 z.length)).toArray).length <= z.length := by
    show (List.filterMap (fun i => z.cps[i]?) (Builtin.Str.strSliceIndices lo hi 1 z.length)).toArray.size <= _
    rw [List.size_toArray]; exact hn
   exact ⟨Nat.le_trans hl (Nat.le_of_lt (fZ hz)), .str _, H, I.tok _, ⟨_, rfl⟩, q⟩
def xo : V -> List V -> Hp -> VK -> Prop := fun x vs H Q => ∃ z y : Str, x = .str z /\ vs = [.str y] /\ Q (.bl (Txt.startswith z y)) H
theorem xA : Jq X "str.startswith" xo := by
 intro pins s σ H x vs v us Q I rx rv h
 obtain ⟨z, y, rfl, rfl, q⟩ := h
 obtain ⟨t, rfl⟩ := rx
 obtain ⟨u, rfl, ru⟩ := rv.one
 obtain ⟨t', rfl⟩ := ru
 exact call_gives F.slot_str_startswith (typeIs_str _ _ _) F.entry_str_startswith (F.args_str_startswith_2 _ _) (gives_str_startswith z y t t') ⟨.bl _, H, I, rfl, q⟩
theorem qF (z : Str) (c : Nat) : Txt.startswith z ⟨#[c]⟩ = (z.cps.toList.head? == some c) := by
 obtain ⟨⟨l⟩⟩ := z
 unfold Txt.startswith Builtin.Str.subAt
 cases l with
 | nil => rfl
 | cons d r =>
   have e : (⟨⟨d :: r⟩⟩ : Str).cps.extract 0 (0 + (⟨#[c]⟩ : Str).length) = #[d] := by
    show (⟨d :: r⟩ : Array Nat).extract 0 1 = #[d]
    rw [List.extract_toArray]
    rfl
   rw [e]
   show (decide (0 + 1 <= r.length + 1) && ((#[d] : Array Nat) == #[c])) = (some d == some c)
   rw [decide_eq_true (by omega), Bool.true_and]
   rw [Bool.eq_iff_iff]
   simp
def D6 : List V -> Hp -> VK -> Prop := fun xs H Q => ∃ (x : Str) (n : Int), xs = [.str x] /\ PySem.intText? x = some n /\ x.length <= 640 /\ Q (.int n) H
theorem rO : fN X (.type "int") D6 := by
 intro pins s σ H xs us Q I r h
 obtain ⟨x, n, rfl, hn, hl, q⟩ := h
 obtain ⟨u, rfl, ru⟩ := vals1 r
 obtain ⟨t, rfl⟩ := ru
 exact KIN.call_text hn hl ⟨.int n, H, I.tok _, ⟨_, rfl⟩, q⟩
def DN : R2 := fun x y H Q => ∃ (z : Str) (n : Int), x = .str z /\ y = .int n /\ z.length = 1 /\ 0 <= n /\ n <= 1000 /\ ∀ t : Str, t.length = n.toNat -> (∀ c ∈ t.cps.toList, c ∈ z.cps.toList) -> Q (.str t) H
theorem tF (c : Nat) : ∀ (n : Nat) (a : Array Nat), ((List.replicate n #[c]).foldl (· ++ ·) a) = a ++ (Array.replicate n c)
 | 0, a => by simp
 | n + 1, a => by
   rw [List.replicate_succ, List.foldl_cons, tF c n, Array.append_assoc]
   congr 1
   apply Array.toList_inj.mp
   simp [List.replicate_succ]
theorem C8 : j0 X (binaryOp .Mult) DN := by
 intro pins s σ H x y v u Q I rx ry h
 obtain ⟨z, n, rfl, rfl, hz, h0, h1, q⟩ := h
 obtain ⟨t, rfl⟩ := rx
 obtain ⟨t', rfl⟩ := ry
 refine PySem.P.mul_str (by simp; omega) (fun a _ => ?_) (fun a _ => ?_) ?_
 . rw [hz]
   intro Ol
   have h2 : (1 : Int) <= (2 ^ 63 - 1) / n := Int.le_ediv_of_mul_le (by omega) (by omega)
   exact absurd h2 (Int.not_le.mpr Ol)
 . have : z.length * n.toNat <= 1000 := by rw [hz]; omega
   exact decide_eq_false (Nat.not_lt.mpr (Nat.le_trans this (Nat.le_of_lt (fZ (by decide)))))
 . split
   . rename_i c
     have : n = 0 := by omega
     subst this
     exact ⟨Nat.le_of_lt (fZ (by decide)), .str _, H, I.tok _, ⟨_, rfl⟩, q Str.empty rfl (fun c hc => by cases hc)⟩
   . split
     . rename_i c c2
       have : n = 1 := by
        rw [hz] at c2
        simpa using c2
       subst this
       exact ⟨.str _, H, I, ⟨_, rfl⟩, q z hz (fun c hc => hc)⟩
     . obtain ⟨⟨l⟩⟩ := z
       match l, hz with
       | [d], _ =>
         have e : (List.replicate n.toNat (⟨⟨[d]⟩⟩ : Str).cps).foldl (· ++ ·) #[] = Array.replicate n.toNat d := by
          have := tF d n.toNat #[]
          simpa using this
         have hl : (⟨Array.replicate n.toNat d⟩ : Str).length = n.toNat := by show (Array.replicate n.toNat d).size = _; simp
         show Made.post (Made.str ⟨_⟩) _ _
         rw [e]
         exact ⟨by rw [hl]; exact Nat.le_of_lt (fZ (by omega)), .str _, H, I.tok _, ⟨_, rfl⟩, q _ hl (fun c hc => by
          have : c ∈ List.replicate n.toNat d := by simpa using hc
          have := List.eq_of_mem_replicate this
          subst this
          simp)⟩
end
theorem xk {K : PySem.W.Frag} {C D : Addr} (h2 : PySem.W.mroIn K D (.type "object") = some true) (h3 : PySem.W.typeIn K (.ref D) = some (.type "type")) (h : PySem.W.mroIn K C (.ref D) = some false) (hb : (C == D) = false) : PySem.W.kitOne K (.ref C) (.ref D) = some false :=
 xa h2 h3 h fun e => by rw [e] at hb; simp at hb
section
variable {σ : St} {H : Hp} {Q : VK} {D : Ends} {K : PySem.W.Frag}
theorem Jj {z : Str} {lo hi : Option Int} (hl : z.length <= 4000) (h : Q (.str (lB z lo hi)) H) : IX (.str z) lo hi H Q := ⟨z, rfl, hl, h⟩
theorem Ab {z y : Str} (h : Q (.bl (Txt.startswith z y)) H) : xo (.str z) [.str y] H Q := ⟨z, y, rfl, rfl, h⟩
theorem Fp {x : Str} {n : Int} (hn : PySem.intText? x = some n) (hl : x.length <= 640) (h : Q (.int n) H) : D6 [.str x] H Q := ⟨x, n, rfl, hn, hl, h⟩
theorem E5 {z : Str} {n : Int} (hz : z.length = 1) (h0 : 0 <= n) (h1 : n <= 1000) (h : ∀ t : Str, t.length = n.toNat -> (∀ c ∈ t.cps.toList, c ∈ z.cps.toList) -> Q (.str t) H) : DN (.str z) (.int n) H Q := ⟨z, n, rfl, rfl, hz, h0, h1, h⟩
end
def uO (h : Heap) (a T : Addr) (c : Value) (od : Option Addr) : Prop := ∃ oe vs oT ts, h.get? a = some oe /\ oe.cls = c /\ oe.dict = od /\ oe.data = .fields vs /\ vs[1]? = some (.ref T) /\ T ≠ a /\ h.get? T = some oT /\ oT.data = .fields ts /\ ts[3]? = some .none /\ vs[2]? = some .none
section
variable {M : Model} {A : Around} {E : Value -> Shared -> Prop} {s : Shared} {env : Env} {outer : List Env} {L a T : Addr} {c : Value} {od : Option Addr} {base : Heap} {Q : Unit -> Shared -> Prop}
theorem ou {oe : Obj} {vs : Array Value} {head : Value} {Er : Bool} (oz : A.frames = some (env :: outer)) (hl : s.heap.FunFrames base (env :: outer)) (hf : env.frame = some L) (he : s.heap.get? a = some oe) (zy : oe.dict = od) (hd : oe.data = .fields vs) (hsz : 1 < vs.size) (CU : vs[2]? = some .none)
 (h : ∀ h' T', uO h' a T' oe.cls od -> s.heap.get? T' = none -> Lv (env :: outer) [a] s.heap h' -> Q () { s with heap := h' }) :
 wpAny M A (do let x <- frameOf env; let pl <- entryPlaceOf L Er; let b <- EntryCells.newEntry head x .none (rawInt L) .none pl; setField (.ref a) 1 b) (fun _ s' => wpAny M A (setFlight (.ref a) none) Q E s') E s := by
 have vw : a ∉ j5 (env :: outer) := fun m => by
  obtain ⟨_, o, ho, hn⟩ := hl.mem m
  rw [he] at ho
  cases ho
  exact hn vs hd
 refine wpAny_bind (wpAny_frameOf_fun oz hl hf fun h1 s1 => ?_)
 refine wpAny_bind (wpAny_entryPlaceOf fun pl k8 => ?_)
 unfold EntryCells.newEntry newFields
 refine wpAny_bind (wpAny_newObj_type ?_ (k8.sizeOk5 _ _ _ _ _))
 have e1 : h1.get? a = some oe := (s1.2.1 a vw).trans he
 let tb : Obj := { cls := .type "traceback", dict := none, data := .fields ([head, .ref L, .none, rawInt L, .none] ++ (if pl.isEmpty then List.replicate 6 Value.none else pl)).toArray }
 have e2 : (h1.push tb).get? a = some oe := Heap.get?_push_of_some _ e1
 refine wpAny_setField e2 hd hsz ?_
 have ya : h1.objs.size ≠ a := Ne.symm (Nat.ne_of_lt (Heap.lt_size e1))
 have d3 := Obj.data_mapFields hd (·.setIfInBounds 1 (Value.ref h1.objs.size))
 have e3 := Heap.get?_update_self (Obj.mapFields (·.setIfInBounds 1 (Value.ref h1.objs.size))) e2 (Obj.isFreed_of_fields d3)
 have t3 : ((h1.push tb).update a (Obj.mapFields (·.setIfInBounds 1 (Value.ref h1.objs.size)))).get? h1.objs.size = some tb := (Heap.get?_update_other _ _ (Ne.symm ya)).trans (Heap.get?_push_size h1 rfl)
 unfold setFlight
 refine wpAny_bind (wpAny_field e3 d3 (x := .ref h1.objs.size) (by simp [hsz]) ?_)
 rw [if_pos (show (Value.ref h1.objs.size != Value.none) = true from by simp)]
 refine wpAny_setField t3 rfl (by simp only [List.size_toArray, List.length_append, List.length_cons, List.length_nil] <;> omega) (h _ h1.objs.size ?_ ?_ ?_)
 . refine ⟨_, _, _, _, (Heap.get?_update_other _ _ ya).trans e3, Obj.cls_mapFields _ _, ?_, d3, by simp [hsz], ya, Heap.get?_update_self _ t3 (Obj.isFreed_of_fields (Obj.data_mapFields rfl _)), Obj.data_mapFields rfl _, by first | (simp; done) | (rcases k8 with rfl | ⟨_, _, _, _, _, _, _, rfl⟩ <;> simp), by rw [Array.getElem?_setIfInBounds_ne (by decide)]; exact CU⟩
   obtain ⟨c0, d0, Fh, LR⟩ := oe
   cases Fh <;> first | exact zy | (cases hd)
 . cases q : s.heap.get? h1.objs.size with
   | none => rfl
   | some o =>
     obtain ⟨sl, z⟩ := s1.2.2 _ o q
     exact absurd (Heap.lt_size z) (Nat.lt_irrefl _)
 . have kp : ∀ b o, b ≠ a -> h1.get? b = some o -> (((h1.push tb).update a (Obj.mapFields (·.setIfInBounds 1 (Value.ref h1.objs.size)))).update h1.objs.size (Obj.mapFields (·.setIfInBounds 3 ((none : Option Addr).elim Value.none fun f => rawInt f)))).get? b = some o := fun b o hb q => by
    rw [Heap.get?_update_other _ _ (Ne.symm (Nat.ne_of_lt (Heap.lt_size q))), Heap.get?_update_other _ _ (Ne.symm hb)]
    exact Heap.get?_push_of_some _ q
   refine ⟨fun b o n1 n2 q => kp b o (by simpa using n2) ((s1.2.1 b n1).trans q), fun b o m q => ?_⟩
   obtain ⟨sl, z⟩ := s1.2.2 b o q
   exact ⟨sl, kp b _ (fun z => vw (z ▸ m)) z⟩
theorem tT {oe : Obj} {vs : Array Value} (oz : A.frames = some (env :: outer)) (hl : s.heap.FunFrames base (env :: outer)) (hf : env.frame = some L) (he : s.heap.get? a = some oe) (zy : oe.dict = od) (hd : oe.data = .fields vs) (h1 : vs[1]? = some .none) (CU : vs[2]? = some .none)
 (h : ∀ h' T', uO h' a T' oe.cls od -> s.heap.get? T' = none -> Lv (env :: outer) [a] s.heap h' -> Q () { s with heap := h' }) : wpAny M A (noteFrame (.ref a) env) (fun _ s' => wpAny M A (setFlight (.ref a) none) Q E s') E s := by
 unfold noteFrame
 simp only [hf]
 refine wpAny_bind (wpAny_field he hd h1 ?_)
 rw [if_neg (by decide)]
 exact ou oz hl hf he zy hd (Array.getElem?_eq_some_iff.mp h1).1 CU h
theorem lu (oz : A.frames = some (env :: outer)) (hl : s.heap.FunFrames base (env :: outer)) (hf : env.frame = some L) (ht : uO s.heap a T c od)
 (h : ∀ h' T', uO h' a T' c od -> (T' = T \/ s.heap.get? T' = none) -> Lv (env :: outer) [a, T] s.heap h' -> Q () { s with heap := h' }) : wpAny M A (noteFrame (.ref a) env) (fun _ s' => wpAny M A (setFlight (.ref a) none) Q E s') E s := by
 obtain ⟨oe, vs, oT, ts, e1, rfl, e3, e4, e5, e6, e7, e8, e9, qM⟩ := ht
 unfold noteFrame
 simp only [hf]
 refine wpAny_bind (wpAny_field e1 e4 e5 ?_)
 rw [if_pos (show (Value.ref T != Value.none) = true from by simp)]
 refine wpAny_bind (wpAny_field e7 e8 e9 ?_)
 rw [if_neg (show ¬ ((Value.none == rawInt L) = true) from by simp [rawInt])]
 refine wpAny_bind (wpAny_setField e7 e8 (Array.getElem?_eq_some_iff.mp e9).1 ?_)
 have kQ : ∀ b, b ≠ T -> (s.heap.update T (Obj.mapFields (·.setIfInBounds 3 Value.none))).get? b = s.heap.get? b := fun b hb => Heap.get?_update_other _ _ (Ne.symm hb)
 have nT : ∀ b o, s.heap.get? b = some o -> (∀ vs, o.data ≠ .fields vs) -> b ≠ T := fun b o hb hn z => by
  rw [z, e7] at hb
  cases hb
  exact hn ts e8
 refine ou (s := { s with heap := s.heap.update T (Obj.mapFields (·.setIfInBounds 3 Value.none)) }) oz (hl.of_keeps fun b o hb hn => ⟨o, (kQ b (nT b o hb hn)).trans hb, rfl⟩) hf ((kQ a (Ne.symm e6)).trans e1) e3 e4 (Array.getElem?_eq_some_iff.mp e5).1 qM fun h' T' t1 t2 lv => h h' T' t1 ?_ ⟨fun b o n1 n2 q => ?_, fun b o m q => ?_⟩
 . by_cases z : T' = T
   . exact .inl z
   . exact .inr ((kQ T' z).symm.trans t2)
 . have : b ≠ a /\ b ≠ T := by simpa using n2
   exact lv.keep b o n1 (by simpa using this.1) ((kQ b this.2).trans q)
 . obtain ⟨_, o', q', hn⟩ := hl.mem m
   rw [q] at q'
   cases q'
   exact lv.slot b o m ((kQ b (nT b o q hn)).trans q)
theorem qR (ht : uO s.heap a T c od) (h : ∀ h', uO h' a T c od -> (∀ b o, b ≠ T -> s.heap.get? b = some o -> h'.get? b = some o) -> Q () { s with heap := h' }) : wpAny M A (setFlight (.ref a) none) Q E s := by
 obtain ⟨oe, vs, oT, ts, e1, rfl, e3, e4, e5, e6, e7, e8, e9, qM⟩ := ht
 have hz := (Array.getElem?_eq_some_iff.mp e9).1
 refine wpAny_setFlight_none e1 e4 e5 e7 e8 hz (h _ ⟨oe, vs, _, _, (Heap.get?_update_other _ _ e6).trans e1, rfl, e3, e4, e5, e6, Heap.get?_update_self _ e7 (Obj.isFreed_of_fields (Obj.data_mapFields e8 _)), Obj.data_mapFields e8 _, by simp [hz], qM⟩ fun b o hb q => (Heap.get?_update_other _ _ (Ne.symm hb)).trans q)
end
def nN (P : Program) (w : World) : qt := fun outer H s E e s' => ∃ a T C od H', e = .ref a /\ s'.os = s.os /\ AllBare s'.gens /\ Un (j5 outer) [] H H' s.heap s'.heap /\ lR P w H' s'.heap /\ uO s'.heap a T (.ref C) od /\ s.heap.get? a = none /\ s.heap.get? T = none /\ H' a = none /\ H' T = none /\ E (.ref C) od H'
section
variable {P : Program} {w : World} {K : PySem.W.Frag} {mg : Str -> Option Value} {base : Heap} {N : List Str} {qual : Str} {scope : Scope} {f : Addr} {cd : Value} {A : Around} {outer : List Env} {s0 : Shared} {H0 : Hp} {E : XK} {CX : qt} {pins : List (Addr × Obj)} {σ : St} {H : Hp} {s : Shared}
theorem qb {a T C : Addr} {od : Option Addr} {S : List Addr} {h' : Heap} (I : Inv (gC CX P w K mg base N qual scope f cd A outer s0 H0 E) pins σ H s) (lv : Lv (gC CX P w K mg base N qual scope f cd A outer s0 H0 E).stack S s.heap h') (hS : ∀ b ∈ S, H b = none /\ s0.heap.get? b = none)
 (tr : uO h' a T (.ref C) od) (ha : H a = none) (hT : H T = none) (na : s0.heap.get? a = none) (nT : s0.heap.get? T = none) (hE : E (.ref C) od H) : nN P w outer H0 s0 E (.ref a) { s with heap := h' } := by
 have eL : j5 (gC CX P w K mg base N qual scope f cd A outer s0 H0 E).stack = s0.heap.objs.size :: j5 outer := rfl
 have old : ∀ b o, s0.heap.get? b = some o -> b ∉ S /\ b ≠ s0.heap.objs.size := fun b o e => ⟨fun z => (by rw [(hS b z).2] at e; cases e), Nat.ne_of_lt (Heap.lt_size e)⟩
 refine ⟨a, T, C, od, H, rfl, I.os, I.bare, ⟨fun b o e n hb hx => ?_, fun b o e n hb hx => ?_, fun b o e n hx => I.base.free b o e n hx, fun b o e hx => ?_, I.base.j7, I.base.jk, I.base.lK⟩, fun b u e => ?_, tr, na, nT, ha, hT, hE⟩
 . have z := I.base.keep b o e n hb hx
   exact lv.keep b o (by rw [eL]; simp [(old b o e).2, hb]) (old b o e).1 z
 . obtain ⟨sl, z⟩ := I.base.slot b o e n hb hx
   obtain ⟨DM, z2⟩ := lv.slot b _ (by rw [eL]; exact List.mem_cons_of_mem _ hb) z
   exact ⟨DM, z2⟩
 . obtain ⟨o2, z⟩ := I.base.there b o e hx
   by_cases m : b ∈ j5 (gC CX P w K mg base N qual scope f cd A outer s0 H0 E).stack
   . obtain ⟨DM, z2⟩ := lv.slot b _ m z
     exact ⟨_, z2⟩
   . exact ⟨_, lv.keep b o2 m (old b o e).1 z⟩
 . refine (I.bf b u e).pk (fun c v hc q => ?_) (fun _ q => q) fun _ _ q => q
   have rZ : H c ≠ none := by
    rcases hc with rfl | hc
    . rw [e]; intro z; cases z
    . rw [hc]; intro z; cases z
   exact lv.keep c v (fun m => rZ (I.lX c m)) (fun m => rZ (hS c m).1) q
def cW (CX : qt) (X : Cx) (E : St -> XK) : Prop := ∀ (pins : List (Addr × Obj)) (σ : St) (H : Hp) (s : Shared) (e : Value) (s' : Shared), Inv X pins σ H s -> CX X.stack H s (E σ) e s' -> X.xe e s'
theorem dh : cW (nN P w) (gC (nN P w) P w K mg base N qual scope f cd A outer s0 H0 E) (fun _ => E) := by
 intro pins σ H s e s' I ⟨a, T, C, od, H', he, os, bare, un, bf, tr, na, nT, ha, hT, hE⟩
 subst he
 have I' := I.qm (ch := []) os un bf bare (fun b z => nomatch z)
 have dead : ∀ b, s.heap.get? b = none -> s0.heap.get? b = none := fun b z => by
  cases q : s0.heap.get? b with
  | none => rfl
  | some o =>
    obtain ⟨o2, z2⟩ := I.base.there b o q (by intro y; cases y)
    rw [z] at z2
    cases z2
 show wpAny _ _ (leaving _ (.ref a)) _ _ s'
 refine wpAny_bind (lu (base := base) I'.ok.frames I'.stack rfl tr fun h2 T2 A8 xi lv => ?_)
 have d' : s'.heap.get? T2 = none -> s0.heap.get? T2 = none := fun z => by
  cases q : s0.heap.get? T2 with
  | none => rfl
  | some o =>
    obtain ⟨o2, z2⟩ := I'.base.there T2 o q (by intro y; cases y)
    rw [z] at z2
    cases z2
 refine qb I' lv (fun b hb => ?_) A8 ha ?_ (dead a na) ?_ hE
 . have : b = a \/ b = T := by simpa using hb
   rcases this with rfl | rfl
   . exact ⟨ha, dead _ na⟩
   . exact ⟨hT, dead _ nT⟩
 . rcases xi with rfl | z
   . exact hT
   . exact I'.bf.dead z
 . rcases xi with rfl | z
   . exact dead _ nT
   . exact d' z
def tD (X : Cx) (E : St -> XK) : Prop := ∀ (pins : List (Addr × Obj)) (σ : St) (H : Hp) (s : Shared) (a C : Addr) (od : Option Addr) (oe : Obj) (vs : Array Value), Inv X pins σ H s -> s.heap.get? a = some oe -> oe.cls = .ref C -> oe.dict = od -> oe.data = .fields vs -> vs[1]? = some .none -> vs[2]? = some .none ->
 H a = none -> X.cH.heap.get? a = none -> E σ (.ref C) od H -> X.xe (.ref a) s
theorem vv : tD (gC (nN P w) P w K mg base N qual scope f cd A outer s0 H0 E) (fun _ => E) := by
 intro pins σ H s a C od oe vs I e1 e2 e3 e4 v1 v2 ha na hE
 show wpAny _ _ (leaving _ (.ref a)) _ _ s
 refine wpAny_bind (tT (base := base) I.ok.frames I.stack rfl e1 e3 e4 v1 v2 fun h2 T2 A8 xi lv => ?_)
 rw [e2] at A8
 refine qb I lv (fun b hb => ?_) A8 ha (I.bf.dead xi) na ?_ hE
 . have : b = a := by simpa using hb
   subst this
   exact ⟨ha, na⟩
 . cases q : s0.heap.get? T2 with
   | none => rfl
   | some o =>
     obtain ⟨o2, z2⟩ := I.base.there T2 o q (by intro y; cases y)
     rw [xi] at z2
     cases z2
end
structure lM (P : Program) (w : World) (K : PySem.W.Frag) (mg : Str -> Option Value) (base : Heap) (k : Nat) (f : Addr) (ps : List Str) (cU : List V) (sp : Sp) : Prop where
 ex : ∃ (fd : FuncData) (ds : List Value), bh P w K mg base (nN P w) k f fd ps sp /\ Binds K fd ps ds /\ Vals cU ds
theorem fQ.out {sp : Sp} {vs : List V} {H : Hp} {Q : VK} {E : XK} (h : fQ sp vs H Q E) : sp vs H Q E := let ⟨_, e, h⟩ := h; e ▸ h
def sN (sp : Sp) (cU : List V) (E : St -> XK) (t : TA) : TE := fun σ H Q => t σ H fun vs H1 => fQ sp (vs ++ cU) H1 Q (E σ)
def zA (C : Addr) (sp : Sp) (cU : List V) (E : St -> XK) (t : TA) : TE := fun σ H Q => t σ H fun vs H1 => wQ C sp (vs ++ cU) H1 Q (E σ)
section
variable {X : Cx} {CX : qt} {k : Nat} {f C : Addr} {fd : FuncData} {ps : List Str} {sp : Sp} {cU : List V} {ds : List Value} {E : St -> XK} {x m : Str} {p pos apos : Pos} {e o : Expr} {es : List Expr} {ta : TE} {t : TA}
theorem sj {pins : List (Addr × Obj)} {σ : St} {H : Hp} {s : Shared} {Q : VK} {us : List Value} {vs : List V} (F : bh X.prog X.w X.K X.mg X.base CX k f fd ps sp) (hr : c5 k X.A) (hb : Binds X.K fd ps ds) (hd : Vals cU ds) (hx : cW CX X E)
 (I : Inv X pins σ H s) (r : Vals vs us) (h : sp (vs ++ cU) H Q (E σ)) : wpAny (model X.prog X.w) X.A (call (.ref f) us) (EP X pins σ Q) X.xe s := by
 have r2 : Vals (vs ++ cU) (us ++ ds) := r.append hd
 have hl : (us ++ ds).length = ps.length := by rw [<- r2.length]; exact F.len _ _ _ _ h
 refine wpAny_call (codeAny_mono (F.run X.A X.stack s H ⟨us, []⟩ (us ++ ds) (vs ++ cU) Q (E σ) hr I.FH (hb s us I.i7 hl) r2 h) fun r s' hq => ?_)
 cases r with
 | error e => exact hx pins σ H s e s' I hq
 | ok fl =>
   cases fl with
   | ret u => exact I.after hq
   | next => exact False.elim hq
   | brk => exact False.elim hq
   | cont => exact False.elim hq
theorem bE (c : lM X.prog X.w X.K X.mg X.base k f ps cU sp) (hr : c5 k X.A) (hg : Gl X x) (hm : X.mg x = some (.ref f)) (hk : PySem.W.keepIn X.K (.ref f) = true) (hx : cW (nN X.prog X.w) X E)
 (ha : PA X (e :: es) t) (ph : (x == ("__debug__" : Str)) = false := by decide) (he : starEach (e :: es) X.env = (false, eval e X.env) :: starEach es X.env := by rfl) (k8 : (backTo pos (starEach es X.env)).any (·.1) = false := by rfl) :
 PE X (.Call (.Name x p) (e :: es) [] pos) (sN sp cU E t) := by
 obtain ⟨fd, ds, F, hb, hd⟩ := c.ex
 intro pins s σ H Q I h
 refine wpAny_Call_Name_kw (eu I hg hm ?_ ph)
 refine PySem.W.callWith_K (h₀ := X.base) I.ok.mod.A3 hk (bO (ha pos pins s σ H _ I h) fun us s1 ⟨vs, H1, I1, r, q⟩ => ⟨I1.i7, ?_⟩) he k8
 exact sj F hr hb hd hx I1 r (fQ.out q)
theorem pD (M : Mk X.K C f) (F : lM X.prog X.w X.K X.mg X.base k f ps cU sp) (hr : c5 (k + 1) X.A) (hg : Gl X x) (hm : X.mg x = some (.ref C)) (hx : cW (nN X.prog X.w) X E)
 (ha : PA X (e :: es) t) (ph : (x == ("__debug__" : Str)) = false := by decide) (he : starEach (e :: es) X.env = (false, eval e X.env) :: starEach es X.env := by rfl) (k8 : (backTo pos (starEach es X.env)).any (·.1) = false := by rfl) :
 PE X (.Call (.Name x p) (e :: es) [] pos) (zA C sp cU E t) := by
 obtain ⟨fd, ds, F, hb, hd⟩ := F.ex
 intro pins s σ H Q I h
 refine wpAny_Call_Name_kw (eu I hg hm ?_ ph)
 refine PySem.W.callWith_K (h₀ := X.base) I.ok.mod.A3 M.kp (bO (ha pos pins s σ H _ I h) fun us s1 ⟨vs, H1, I1, r, q⟩ => ⟨I1.i7, ?_⟩) he k8
 unfold wQ at q
 obtain ⟨ws, ew, q⟩ := q
 have q := ew ▸ q
 have hq := q (s1.heap.objs.size + 1) s1.heap.objs.size (I1.bf.fresh (Nat.le_succ _)) (I1.bf.fresh (Nat.le_refl _)) (Nat.ne_of_lt (Nat.lt_succ_self _))
 have I2 := Inv.made (C := C) I1
 have r2 : Vals (V.ref (s1.heap.objs.size + 1) :: (vs ++ cU)) (Value.ref (s1.heap.objs.size + 1) :: (us ++ ds)) := .cons rfl (r.append hd)
 have hl : (Value.ref (s1.heap.objs.size + 1) :: us ++ ds).length = ps.length := by
  have e := r2.length
  rw [F.len _ _ _ _ hq] at e
  exact e.symm
 refine wpAny_call (AI (f := f) I1.i7 M.makes M.init (beq_iff_eq.mp M.fn) (codeAny_mono (F.run _ X.stack _ _ ⟨Value.ref (s1.heap.objs.size + 1) :: us, []⟩ (Value.ref (s1.heap.objs.size + 1) :: (us ++ ds)) _ _ (E σ) (hr.make C us [])
  (I2.FH.make C us []) (hb _ (Value.ref (s1.heap.objs.size + 1) :: us) I2.i7 hl) r2 hq) fun r s' Bx => ?_))
 cases r with
 | error e => exact hx pins σ _ _ e s' I2 Bx
 | ok fl =>
   cases fl with
   | ret u =>
     obtain ⟨v, H', I3, rv, ev, q3⟩ := I2.after Bx
     subst ev
     exact ⟨rv, ⟨V.ref (s1.heap.objs.size + 1), H', I3, rfl, q3⟩⟩
   | next => exact False.elim Bx
   | brk => exact False.elim Bx
   | cont => exact False.elim Bx
end
section
variable {P : Program} {w : World} {K : PySem.W.Frag} {mg : Str -> Option Value} {base : Heap}
theorem cy.Aw {x qual : Str} {st : Stmt} {f : Addr} {dV : Value} {fd : FuncData} {N ps : List Str} {k : Nat} {sp : Sp} (F : cy K x qual st f dV fd) (S : aH N ps (ak st)) (len : ∀ vs H Q E, sp vs H Q E -> vs.length = ps.length)
 (pV : ∀ (di : Value) (A : Around) (outer : List Env) (s : Shared) (H : Hp) (vs : List V) (Q : VK) (E : XK), c5 k (A.deeper (envOfC qual (ak st) s.heap.objs.size f di)) -> sp vs H Q E ->
  ∃ t, qK (gC (nN P w) P w K mg base N qual (ak st) f di A outer s H E) (gq st) t /\ t { nx := fun _ H' => Q .cq H', rt := Q } (start N vs) H) : bh P w K mg base (nN P w) (k + 1) f fd ps sp := by
 obtain ⟨oc, od, kV, doc, pm, an, di, ct, yl, rfl, lk, uM⟩ := F.ex
 exact yT lk uM S len fun A outer s H vs Q E hr pP => pV di A outer s H vs Q E hr pP
end
section
variable {prog : Program} {w : World} {A : Around} {E : Value -> Shared -> Prop} {s : Shared} {K : PySem.W.Frag} {x C : Addr} {ox : Obj} {name : Str} {v : Value} {cd : ClassData}
open Builtin.ObjectAttr in
open Builtin.ObjectAttr in
end
def vC (a C : Addr) (od : Option Addr) : Heap -> Prop := fun h => ∃ o vs, h.get? a = some o /\ o.cls = .ref C /\ o.dict = od /\ o.data = .fields vs /\ vs[2]? = some .none
theorem vC.ext {h : Heap} {a C : Addr} {od : Option Addr} (m : vC a C od h) : vC a C od h /\ (∃ o, h.get? a = some o) /\ ∀ h1 h2 : Heap, vC a C od h1 -> (∀ o, h1.get? a = some o -> h2.get? a = some o) -> vC a C od h2 :=
 ⟨m, let ⟨o, _, e, _⟩ := m; ⟨o, e⟩, fun _ _ ⟨o, vs, e, r⟩ k => ⟨o, vs, k o e, r⟩⟩
structure OZ (K : PySem.W.Frag) (C W fI : Addr) : Prop where
 cls : ∃ (nm q : Str) (N : Addr) (bs : List Value) (sn : List Str) (sub : List Value) (ab : Bool) (col : Option Bool) (dd : Option Addr) (k0 k1 k2 k3 k5 : Option Value), K.lookup C = some (excClassObj nm q C N bs (.ref W :: Kr) true sn sub ab col dd k0 k1 k2 k3 k5 "ValueError.__new__")
 up : pS K W
 init : PySem.W.findIn K (.ref C) "__init__" = some (some (.ref fI))
 fn : PySem.W.isFn K (.ref fI) = true
 te : GJ K C
 sa : PySem.W.findIn K (.ref C) "__setattr__" = some (some (.builtin "object.__setattr__"))
 tk : PySem.W.takerIn K C "name" = some none
 nm : PySem.W.findIn K (.ref C) "name" = some none
def we (K : PySem.W.Frag) (C : Addr) : Prop := ∀ h : Heap, K.In h -> ∃ (bm : List Value) (N : Addr) (nm q : Str) (bs : List Value) (hd : Bool) (sn : List Str) (sub : List Value) (ab : Bool) (col : Option Bool) (dd : Option Addr) (k0 k1 k2 k3 k5 : Option Value),
 h.get? C = some (excClassObj nm q C N bs bm hd sn sub ab col dd k0 k1 k2 k3 k5 "ValueError.__new__") /\ OwnTail h Kr bm
theorem pS.o {K : PySem.W.Frag} {C : Addr} (h : pS K C) : we K C := fun hp X => by
 obtain ⟨bm, N, nm, q, bs, hd, sn, sub, ab, col, dd, k0, k1, k2, k3, k5, mN, hC, _, _, T⟩ := vK X h
 exact ⟨bm, N, nm, q, bs, hd, sn, sub, ab, col, dd, k0, k1, k2, k3, k5, hC, T⟩
section
variable {prog : Program} {w : World} {A : Around} {E : Value -> Shared -> Prop} {h : Heap} {g : Array GenState} {d : Drawn} {t : Nat} {os : OsState}
variable {nm q : Str} {C N : Addr} {bs bm Di : List Value} {hdct : Bool} {sn : List Str} {sub : List Value} {ab : Bool} {col : Option Bool} {dd : Option Addr} {k0 k1 k2 k3 k5 : Option Value} {B newId yM : String}
end
structure Md (K : PySem.W.Frag) (W : Addr) : Prop where
 ga : PySem.W.specialIn K (.ref W) "__getattribute__" = some (some (.builtin "type.__getattribute__"))
 rd : PySem.W.readsIn K W (.type "type") = true
 fd : PySem.W.findCls K (.ref W) (.type "type") "__init__" = some (.val (.builtin "ValueError.__init__"))
section
variable {X : Cx} {W : Addr} {x : Str} {p pos apos : Pos} {e : Expr} {es : List Expr} {t : TA} {pl : Sem Bool}
end
def del (H : Hp) (a : Addr) : Hp := fun b => if b = a then none else H b
section
variable {prog : Program} {w : World} {A : Around} {E : Value -> Shared -> Prop} {s : Shared} {env : Env}
variable {nm q : Str} {C N : Addr} {bs bm Di : List Value} {hdct : Bool} {sn : List Str} {sub : List Value} {ab : Bool} {col : Option Bool} {dd : Option Addr} {k0 k1 k2 k3 k5 : Option Value} {newId : String}
end
def wx (C : Addr) (E : St -> XK) (ta : TA) : TS := fun _ σ H => ta σ H fun vs H1 => vs.length <= sizeLine /\ E σ (.ref C) none H1
theorem oo {X : Cx} {E : St -> XK} {C : Addr} {x : Str} {np df pos : Pos} {e : Expr} {ta : TA} (hX : tD X E) (hc : X.calm = true) (ha : PA X [e] ta) (hg : Gl X x) (hm : X.mg x = some (.ref C)) (hq : pS X.K C) (hex : X.ex = [])
 (hs : starEach [e] X.env = (false, eval e X.env) :: starEach [] X.env := by rfl) (lq : (backTo df (starEach [e] X.env)).any (·.1) = false := by rfl) (ph : (x == ("__debug__" : Str)) = false := by decide) :
 PS X (.Raise (some (.Call (.Name x np) [e] [] df)) none pos) (wx C E ta) := by
 intro pins s σ H D I h
 obtain ⟨bm, N, nm, q, bs, hd, sn, sub, ab, col, dd, k0, k1, k2, k3, k5, mN, hC, hN, DW, T⟩ := vK I.mod.A3 hq
 refine wpAny_Raise_call_subT (C := C) (nm := nm) (q := q) (N := N) (bs := bs) (bm := bm) (hdct := hd) (sn := sn) (sub := sub) (ab := ab) (col := col) (dd := dd) (k0 := k0) (k1 := k1) (k2 := k2) (k3 := k3) (k5 := k5) (mN := mN) PySem.F.excBase_ValueError (T.hasType (by decide)) (I.ok.hd hc) lq DW (eu I hg hm ⟨rfl, ?_⟩ ph)
 have hA := ha df pins s σ H _ I h
 rw [hs] at hA ⊢
 refine Calls.evalArgs_plain (bO hA fun us s1 ⟨vs, H1, I1, r1, Mj, q1⟩ => ?_)
 rw [r1.length] at Mj
 refine ⟨rfl, Mj, I1.bk _ _ hC, hN.at' fun o e => I1.bk _ _ e, T.keeps I1.bk, fun h2 a m => ?_⟩
 obtain ⟨t0, e1, _, _⟩ := m.there
 have I2 : Inv X pins σ H1 { s1 with heap := h2 } := I1.kept (t' := s1.toks) fun b u z => m.keeps b u z
 have dead : X.cH.heap.get? a = none := by
  cases q' : X.cH.heap.get? a with
  | none => rfl
  | some o =>
    obtain ⟨o2, z2⟩ := I1.base.there a o q' (by rw [hex]; intro y; cases y)
    rw [m.new] at z2
    cases z2
 exact hX pins σ H1 _ a C none _ _ I2 e1 rfl rfl rfl rfl rfl (I1.bf.dead m.new) dead q1
theorem pM {M : Model} {A : Around} {E : Value -> Shared -> Prop} {h : Heap} {g : Array GenState} {d : Drawn} {t : Nat} {os : OsState} {a C D N N' : Addr} {oe : Obj} {nm q La q' : Str} {bs bm KH HF sub Gq : List Value} {hdct Hz ab LK : Bool} {sn Lj : List Str} {col FG : Option Bool} {dd Li : Option Addr} {k0 k1 k2 k3 k5 l0 l1 l2 l3 l5 : Option Value} {newId Gw : String} {Q : Bool -> Shared -> Prop} {b : Bool}
 (hC : h.get? C = some (excClassObj nm q C N bs bm hdct sn sub ab col dd k0 k1 k2 k3 k5 newId)) (hD : h.get? D = some (excClassObj La q' D N' KH HF Hz Lj Gq LK FG Li l0 l1 l2 l3 l5 Gw)) (he : h.get? a = some oe) (Cy : oe.cls = .ref C) (hb : HF.contains (.type "BaseException") = true)
 (hit : (Value.ref C :: bm).contains (.ref D) = b) (hq : Q b ⟨h, g, d, t, os⟩) : wpAny M A (excMatches (.ref a) (.ref D)) Q E ⟨h, g, d, t, os⟩ := by
 have c1 : (Value.ref D :: HF).contains (.type "BaseException") = true := by rw [List.contains_cons, hb, Bool.or_true]
 have f := tc_notTuple
 unfold excMatches
 cases b
 . repeat (first | (with_reducible refine wpAny_loadPart_at he ?_; rw [Cy]) | with_reducible refine wpAny_loadPart_at hD ?_ | (with_reducible refine wpAny_isSubtype_exc hD ?_; rw [c1]) | (with_reducible refine wpAny_isSubtype_exc hC ?_; rw [hit]) | wp_step)
   all_goals exact hq
 . repeat (first | (with_reducible refine wpAny_loadPart_at he ?_; rw [Cy]) | with_reducible refine wpAny_loadPart_at hD ?_ | (with_reducible refine wpAny_isSubtype_exc hD ?_; rw [c1]) | (with_reducible refine wpAny_isSubtype_exc hC ?_; rw [hit]) | wp_step)
   all_goals exact hq
theorem wI {K : PySem.W.Frag} {h : Heap} {C D N : Addr} {nm q : Str} {bs bm sub : List Value} {hdct ab : Bool} {sn : List Str} {col : Option Bool} {dd : Option Addr} {k0 k1 k2 k3 k5 : Option Value} {newId : String} {b : Bool} (X : K.In h) (hC : h.get? C = some (excClassObj nm q C N bs bm hdct sn sub ab col dd k0 k1 k2 k3 k5 newId)) (hm : PySem.W.mroIn K C (.ref D) = some b) : (Value.ref C :: bm).contains (.ref D) = b := by
 unfold PySem.W.mroIn PySem.W.clsIn at hm
 split at hm
 . rename_i c' d' cd sl ho
   have z := X _ _ ho
   rw [hC] at z
   cases z
   simpa using hm
 . cases hm
theorem uO.keeps {h h' : Heap} {a T : Addr} {c : Value} {od : Option Addr} (t : uO h a T c od) (k : ∀ b o, h.get? b = some o -> h'.get? b = some o) : uO h' a T c od := by
 obtain ⟨oe, vs, oT, ts, e1, e2, e3, e4, e5, e6, e7, e8⟩ := t
 exact ⟨oe, vs, oT, ts, k _ _ e1, e2, e3, e4, e5, e6, k _ _ e7, e8⟩
def LW (X : Cx) (cl : Expr) (hit : Addr -> Bool -> Prop) : Prop := ∀ (a C T : Addr) (od : Option Addr) (pins : List (Addr × Obj)) (σ : St) (H : Hp) (s : Shared) (Q : Bool -> Shared -> Prop) (E : Value -> Shared -> Prop) (b : Bool), Inv X pins σ H s -> uO s.heap a T (.ref C) od -> hit C b ->
 (∀ h', (∀ b o, s.heap.get? b = some o -> h'.get? b = some o) -> Q b { s with heap := h' }) ->
 wpAny (model X.prog X.w) (X.hand a).A (eval cl X.env) (fun c s1 => wpAny (model X.prog X.w) (X.hand a).A (excMatches (.ref a) c) Q E s1) E s
def BR (K : PySem.W.Frag) (D C : Addr) (b : Bool) : Prop := we K C /\ PySem.W.mroIn K C (.ref D) = some b
theorem Ci {X : Cx} {x : Str} {np : Pos} {D : Addr} (hg : Gl X x) (hm : X.mg x = some (.ref D)) (hD : we X.K D) (ph : (x == ("__debug__" : Str)) = false := by decide) : LW X (.Name x np) (BR X.K D) := by
 intro a C T od pins σ H s Q E b I tr hit k
 refine eu (X := { X with xe := E }.hand a) (E := E) I.n6 hg hm ?_ ph
 obtain ⟨bm, N, nm, q, bs, hd, sn, sub, ab, col, dd, k0, k1, k2, k3, k5, hC, _⟩ := hit.1 _ I.i7
 obtain ⟨HF, N', La, q', KH, uN, Lj, Gq, LK, FG, Li, l0, l1, l2, l3, l5, LO, T'⟩ := hD _ I.i7
 obtain ⟨oe, vs, oT, M6, e1, e2, e3, e4, e5⟩ := id tr
 exact pM hC LO e1 e2 (T'.hasType (by decide)) (wI I.i7 hC hit.2) (k _ fun _ _ z => z)
structure B3 where
 hit : Addr -> Bool -> Prop
 i : Option Nat
 ts : Addr -> TS
def Cg (σ : St) (i : Option Nat) (v : Option V) : St := match i with
 | some i => σ.set i v
 | none => σ
def zN (X : Cx) : Option Str -> Option Nat -> Prop
 | some n, some i => X.N[i]? = some n /\ X.env.scope.names.lookup n = some .local
 | none, none => True
 | _, _ => False
inductive Ax (X : Cx) : List ExceptHandler -> List B3 -> Prop
 | nil : Ax X [] []
 | cons {cl : Expr} {n : Option Str} {b0 : Stmt} {rK : List Stmt} {pos : Pos} {hs : List ExceptHandler} {hit : Addr -> Bool -> Prop} {i : Option Nat} {ts : Addr -> TS} {rs : List B3} (hc : LW X cl hit) (hb : ∀ a, qK (X.hand a) (b0 :: rK) (ts a)) (hn : zN X n i) (r : Ax X hs rs) :
  Ax X (.ExceptHandler (some cl) n (b0 :: rK) pos :: hs) (⟨hit, i, ts⟩ :: rs)
def Eu (D : Ends) (i : Option Nat) : Ends := { nx := fun σ H => D.nx (Cg σ i none) H, rt := D.rt, bk := fun σ H => D.bk (Cg σ i none) H, ct := fun σ H => D.ct (Cg σ i none) H }
theorem Inv.gone {X : Cx} {pins : List (Addr × Obj)} {σ : St} {H : Hp} {s : Shared} {h' : Heap} {m : Str -> Option Value} {n : Str} {v : Option Value} {i : Nat} {t' : Nat} (I : Inv X pins σ H s) (hN : X.N.Nodup) (hi : X.N[i]? = some n)
 (loc : ∀ (j : Nat) (x : Str) (v : V), X.N[j]? = some x -> σ[j]? = some (some v) -> GL X.env.scope x -> ∃ u, RelV v u /\ Look X.env s.heap m x u) (ns : h'.Ns X.env.locals (fun x => if x = n then v else m x)) (sb : Heap.SameBut X.env.locals s.heap h') : Inv X pins (σ.set i none) H { s with heap := h', toks := t' } := by
 have old : ∀ b o, X.cH.heap.get? b = some o -> b ≠ X.env.locals := fun b o e => Nat.ne_of_lt (Nat.lt_of_lt_of_le (Heap.lt_size e) I.ok.above)
 refine ⟨I.ok, I.os, I.bare, ⟨fun b o e n hb hx => (sb.2 b (old b o e)).trans (I.base.keep b o e n hb hx), fun b o e n hb hx => ?_, fun b o e n hx => I.base.free b o e n hx, fun b o e hx => ?_, I.base.j7, I.base.jk, I.base.lK⟩, ⟨_, ns, fun j x w e1 e2 e3 => ?_⟩, fun x c e => ?_, I.free, I.d8, fun p hp => ?_, fun b u e => ?_, by rw [List.length_set]; exact I.len⟩
 . obtain ⟨sl, z⟩ := I.base.slot b o e n hb hx
   exact ⟨sl, (sb.2 b (old b o e)).trans z⟩
 . obtain ⟨o2, z⟩ := I.base.there b o e hx
   exact ⟨o2, (sb.2 b (old b o e)).trans z⟩
 . have Mr : i ≠ j := fun y => by
    subst y
    rw [List.getElem?_set_self' ] at e2
    cases q : σ[i]? <;> rw [q] at e2 <;> cases e2
   rw [List.getElem?_set_ne Mr] at e2
   obtain ⟨u, ru, l⟩ := loc j x w e1 e2 e3
   refine ⟨u, ru, ?_⟩
   have N6 : x ≠ n := fun y => Mr (pQ hN hi (y ▸ e1))
   rcases l with ⟨k, l⟩ | ⟨k, c, e, o, ho, hd⟩
   . exact .inl ⟨k, by show (if x = n then v else m x) = _; rw [if_neg N6]; exact l⟩
   . exact .inr ⟨k, c, e, o, (sb.2 c (I.Bj x c e)).trans ho, hd⟩
 . obtain ⟨v, o, ho, hd⟩ := I.cell x c e
   exact ⟨v, o, (sb.2 c (I.Bj x c e)).trans ho, hd⟩
 . obtain ⟨e, n, ne, nf, d⟩ := I.pin p hp
   exact ⟨(sb.2 p.1 ne).trans e, n, ne, nf, d⟩
 . refine (I.bf b u e).pk (fun c v hc q => (sb.2 c fun z => ?_).trans q) (fun _ q => q) fun _ _ q => q
   have rZ : H c ≠ none := by
    rcases hc with rfl | hc
    . rw [e]; intro z; cases z
    . rw [hc]; intro z; cases z
   exact rZ (z ▸ I.free)
section
variable {X : Cx} {pins : List (Addr × Obj)} {σ : St} {H : Hp} {a C : Addr} {od : Option Addr} {Dn : Ends}
def GO (X : Cx) (pins : List (Addr × Obj)) (b : Addr) : Prop := X.cH.heap.get? b = none /\ b ≠ X.env.locals /\ (∀ x c, X.env.cells.lookup x = some c -> c ≠ b) /\ ∀ p ∈ X.pn ++ pins, p.1 ≠ b
end
theorem u5 {prog : Program} {w : World} {A : Around} {E : Value -> Shared -> Prop} {s : Shared} {K : PySem.W.Frag} {x D : Addr} {ox : Obj} {Hi : Option Obj} {Q : Option Value -> Shared -> Prop} (t : GJ K D) (X : K.In s.heap) (I : InstAt s.heap x ox D Hi) (h : Q (some (.ref D)) { s with toks := s.toks + 1 }) : wpAny (model prog w) A (getAttr? (.ref x) "__class__") Q E s := by
 have hf : findObj K D Hi "__class__" = some (.bind (.builtin "getset_descriptor.__get__") (.builtin "object.__class__")) := by
  obtain ⟨cd, hc, _⟩ := any_some t.hd
  unfold findObj
  rw [hc, t.ty.ha]
  simp only [Option.bind_some, t.ty.hn, t.ty.ht]
 obtain ⟨hh, g, d, tk, os⟩ := s
 have L0 := I.type (M := model prog w)
 have L1 := looks_findIn (M := model prog w) X t.ga
 have L2 := looks_findIn (M := model prog w) X t.gn
 have L3 := looks_find (M := model prog w) X I hf
 have L4 := looks_mroIn (M := model prog w) X t.mb
 have hk : builtinKind "BaseException.__getattribute__" = some .slot := by decide +kernel
 have hsplit : splitId "BaseException.__getattribute__" = some ("BaseException", "__getattribute__") := by decide +kernel
 unfold getAttr? getAttrBy? getAttrBy
 refine wpAny_bind (wpAny_mkText (wpAny_bind (wpAny_attempt (wpAny_holding (wpAny_bind (L0.at (wpAny_bind (L1.at ?_))))))))
 dsimp only
 rw [if_neg (show ¬ ((onTheHeap (Value.ref D) && Value.builtin "BaseException.__getattribute__" == Value.builtin "object.__getattribute__") = true) by rw [show (Value.builtin "BaseException.__getattribute__" == Value.builtin "object.__getattribute__") = false from by decide +kernel, Bool.and_false]; decide)]
 unfold getAttrByItsOwn
 refine wpAny_bind (show wpAny _ _ (typeLookup (.ref D) "__getattr__") _ _ _ from L2.at ?_)
 refine wpAny_bind (wpAny_attempt (wpAny_holding ?_))
 show wpAny _ _ (boundAndCalled _ _ _) _ _ _
 unfold boundAndCalled
 rw [PySem.F.attr_ValueError.ga.bind]
 refine wpAny_bind (wpAny_pure ?_)
 refine wpAny_call (codeAny_call_builtin PySem.F.attr_ValueError.ga.plain PySem.F.entry_bexc_ga ?_)
 simp only [checkBuiltinCall, hk, hsplit]
 have ha := PySem.F.args_bexc_ga (.ref x) (.str "__class__" tk)
 dsimp only at L0 L1 L2 L3 L4 X I h
 refine wpAny_bind ?_
 unfold isInstance
 refine wpAny_bind (L0.at (L4.at ?_))
 rw [if_neg (by decide)]
 repeat (any_goals (first | assumption | with_reducible refine L0.at ?_ | with_reducible refine L3.at ?_ | wp_step))
 exact class_get (s := ⟨hh, g, d, tk + 1, os⟩) (ox := ox) (od := Hi) X I t.ty.hm (wpAny_pure (handed_on rfl (wpAny_pure h)))
theorem zD {K : PySem.W.Frag} {x D : Addr} {ox : Obj} {Hi : Option Obj} (t : GJ K D) : KitX K (.ref x) (.ref D) (fun h => InstAt h x ox D Hi) where
 ty := fun _ _ _ I => I.type
 it := fun _ _ X _ => by
  obtain ⟨NF, Cm, _⟩ := any_some t.hd
  unfold clsIn at Cm
  split at Cm
  . rename_i c' d' M8 LQ ho
    intro A' Q' E' s' k q
    unfold isType loadHead
    exact wpAny_bind (wpAny_loadPart (k _ _ (X _ _ ho)) (wpAny_pure q))
  . cases Cm
 ne := fun h tp dd aV n sl X MY => by
  obtain ⟨NF, Cm, _⟩ := any_some t.hd
  refine Bool.eq_false_iff.mpr fun q => ?_
  have e : D = tp := Value.ref.inj (beq_iff_eq.mp q)
  subst e
  unfold clsIn at Cm
  split at Cm
  . rename_i c' d' M8 LQ ho
    have z := (X _ _ ho).symm.trans MY
    cases z
  . cases Cm
 ca := fun X I k => u5 t X I k
section
variable {X : Cx} {e : Expr} {te : TE} {y y2 : Str} {k k2 : Nat} {p1 p2 p3 pos : Pos}
end
section
variable {σ : St} {H : Hp} {Q : VK} {D : Ends} {K : PySem.W.Frag} {C : Addr} {E : St -> XK}
theorem C2 {sp : Sp} {cU : List V} {t : TA} (h : t σ H fun vs H1 => fQ sp (vs ++ cU) H1 Q (E σ)) : sN sp cU E t σ H Q := h
theorem Ct {sp : Sp} {cU : List V} {t : TA} (h : t σ H fun vs H1 => wQ C sp (vs ++ cU) H1 Q (E σ)) : zA C sp cU E t σ H Q := h
theorem Ah {ta : TA} (h : ta σ H fun vs H1 => vs.length <= sizeLine /\ E σ (.ref C) none H1) : wx C E ta D σ H := h
end
section
variable {X : Cx}
end
section
open PySem.SeqAt
open PySem.AutoSeq1 (wpAny_loadPart')
open PySem.MeetsSeq PySem.MeetsSeq2 PySem.MeetsSeq3
end
section
variable {X : Cx}
end
section
variable {σ : St} {H : Hp} {Q : VK} {D : Ends} {K : PySem.W.Frag}
theorem sf {k : Nat} {v : V} {g : TG} {tc : TT} {te : TE} {α : Type} {cs : List α} {gd : α -> PyData} (Pd : α -> PyData -> Prop) (hl : Dv H v (.list (cs.map gd))) (hlen : cs.length <= 4000) (hi : ∀ c d, Pd c d -> sR d = true)
 (turn : ∀ x c H' (N : Option V -> Hp -> Prop), c ∈ cs -> ao H H' -> Dv H' x (gd c) -> (∀ y d H4, ao H' H4 -> Pd c d -> Dv H4 y d -> N (some y) H4) ->
  g x (List.replicate k none ++ σ) H' fun σ2 H2 => tc σ2 H2 fun b H3 => GV te N σ2 b H3)
 (kk : ∀ q H' ds, ao H H' -> H q = none -> dk H' q ds -> ds.length = cs.length -> (∀ (i : Nat) c d, cs[i]? = some c -> ds[i]? = some d -> Pd c d) -> Q (.ref q) H') : ∃ a, v = .ref a /\ (∃ xs, gf K H a xs) /\ D4 k g tc te (rC Q) σ (Hn K a) H := by
 obtain ⟨p, xs, rfl, e, dv⟩ := hl.lst_inv
 have F0 : gf K H p xs := e K
 have GH : xs.length = cs.length := by rw [dv.length, List.length_map]
 refine ⟨p, rfl, ⟨xs, F0⟩, fun i m acc H' => i <= cs.length /\ m = cs.length - i /\ ao H H' /\ ∃ ds, cj H' acc ds /\ ds.length = i /\ ∀ (j : Nat) c d, cs[j]? = some c -> ds[j]? = some d -> Pd c d, ⟨cs.length, Nat.zero_le _, rfl, ao.refl _, [], .nil, rfl, fun j c d _ h => by simp at h⟩, ?_⟩
 rintro i m acc H' ⟨MB, hm, sm, ds, iA, yK, yL⟩
 have BA : gf K H' p xs := ao.seq sm F0
 have F3 : acc.length = i := by rw [iA.length, yK]
 have KO : aP ds = true := c7.mpr fun d hd => by
  obtain ⟨j, hj⟩ := List.getElem?_of_mem hd
  have Nm : j < cs.length := by have := (List.getElem?_eq_some_iff.mp hj).1; omega
  exact hi _ d (yL j _ d (List.getElem?_eq_getElem Nm) hj)
 by_cases hc : i = cs.length
 . left
   refine ⟨⟨xs, BA, by omega⟩, fun q hq => ?_⟩
   exact kk q _ ds (sm.trans (bC hq)) (sm.none hq) ⟨acc, aO, iA.keeps (bC hq), KO⟩ (by omega) yL
 . right
   have rJ : i < cs.length := by omega
   have HP : i < xs.length := by omega
   refine ⟨⟨xs, xs[i], BA, List.getElem?_eq_getElem HP⟩, fZ (by omega), fun x H2 hy => ?_⟩
   obtain ⟨rfl, hy⟩ := hy
   have hx := hy xs BA
   have He : cs[i]? = some cs[i] := List.getElem?_eq_getElem rJ
   obtain ⟨x', tG, hd⟩ := dv.get (i := i) (d := gd cs[i]) (by rw [List.getElem?_map, He]; rfl)
   rw [hx] at tG
   cases tG
   refine turn x cs[i] H2 (fun o H4 => match o with | some y => ∃ m', m' < m /\ i + 1 <= cs.length /\ m' = cs.length - (i + 1) /\ ao H H4 /\ ∃ ds, cj H4 (acc ++ [y]) ds /\ ds.length = i + 1 /\ ∀ (j : Nat) c d, cs[j]? = some c -> ds[j]? = some d -> Pd c d | none => ∃ m', m' < m /\ i + 1 <= cs.length /\ m' = cs.length - (i + 1) /\ ao H H4 /\ ∃ ds, cj H4 acc ds /\ ds.length = i + 1 /\ ∀ (j : Nat) c d, cs[j]? = some c -> ds[j]? = some d -> Pd c d)
    (List.getElem_mem rJ) sm (hd.keeps sm) (fun y d H4 s4 hp d4 => ?_)
   refine ⟨cs.length - (i + 1), by omega, rJ, rfl, sm.trans s4, ds ++ [d], cj.append (iA.keeps s4) (.cons d4 .nil), by simp [yK], fun j c e hc he => ?_⟩
   rw [List.getElem?_append] at he
   split at he
   . exact yL j c e hc he
   . rename_i hj
     by_cases e0 : j = ds.length
     . rw [e0] at he
       have : d = e := by simpa using he
       rw [e0, yK, He] at hc
       cases hc
       exact this ▸ hp
     . rw [List.getElem?_eq_none (by simp; omega)] at he; cases he
end
section
variable {X : Cx}
def D7 : List V -> Hp -> VK -> Prop := fun xs H Q => ∃ (v : V) (ns : List Int), xs = [v] /\ Dv H v (.list (ns.map PyData.int)) /\ 0 < ns.length /\ ∀ m ∈ ns, (∀ k ∈ ns, m <= k) -> Q (.int m) H
theorem x9 (hc : X.calm = true) : fN X (.builtin "min") D7 := by
 intro pins s σ H xs us Q I r h
 obtain ⟨v, ns, rfl, hd, sy, q⟩ := h
 obtain ⟨u, rfl, ru⟩ := vals1 r
 obtain ⟨p, ys, rfl, e, dv⟩ := hd.lst_inv
 obtain ⟨aV, Il, pl, _⟩ := I.list (e X.K)
 cases ru
 have hI := wK dv Il
 have hn : aV.toArray.size = ns.length := by rw [List.size_toArray, hI.length]
 have rJ : p < s.heap.objs.size := by obtain ⟨o, n, e1, _⟩ := pl; exact Heap.lt_size e1
 have hA : X.A.in1.handled = none := I.ok.hd hc
 refine call_min_walk (wpAny_pyIter_list pl.isList ?_)
 refine ⟨s.heap.objs.size, _, _, _, _, _, fun i j => decide (ns.getD i 0 < ns.getD j 0), rfl, Walks.list hA _ p (Nat.ne_of_lt rJ) aV.toArray, ⟨⟨_, Heap.get?_push_size _ rfl, rfl, rfl⟩, pl.isList.at fun o e => Heap.get?_push_of_some _ e⟩, ?_, by omega, CmpOf.ints_lt (fun i => ns.getD i 0) ?_, ?_⟩
 . intro b hb
   rw [Heap.size_push]
   have : b = s.heap.objs.size \/ b = p := by simpa using hb
   rcases this with rfl | rfl
   . exact Nat.lt_succ_self _
   . exact Nat.lt_succ_of_lt rJ
 . intro i v hv
   exact hI.int_at i v (by simpa using hv)
 . intro v h' tk hP hk
   have b := JE (fun i => ns.getD i 0) (aV.toArray.size - 1)
   generalize argBest (fun i j => decide (ns.getD i 0 < ns.getD j 0)) (aV.toArray.size - 1) = ix at b hP
   obtain ⟨b1, b2⟩ := b
   obtain ⟨t, rfl⟩ := hI.int_at ix v (by simpa using hP)
   have I1 := I.kept (t' := s.toks) (h' := s.heap.push { cls := Value.type "list_iterator", data := Data.fields #[Value.ref p, Value.int 0 0] }) fun b o e => Heap.get?_push_of_some _ e
   have fp := I.Bs (H' := H) (Nat.le_refl _) (I.bf.fresh (Nat.le_refl _))
   have I2 := I1.turned (t' := tk) (h' := h') (it := s.heap.objs.size) (fun b o hb e => hk b o (by simpa using hb) e) fp.1 fp.2.1 fp.2.2.2.1 fp.2.2.2.2.1 fp.2.2.2.2.2
   have hb : ix < ns.length := by omega
   refine ⟨.int _, H, I2, ⟨t, rfl⟩, q _ ?_ ?_⟩
   . rw [List.getD_eq_getElem?_getD, List.getElem?_eq_getElem hb]; exact List.getElem_mem hb
   . intro k hk
     obtain ⟨j, hj, rfl⟩ := List.getElem_of_mem hk
     have := b2 j (by omega)
     rwa [List.getD_eq_getElem?_getD (i := j), List.getElem?_eq_getElem hj] at this
theorem Fl {H : Hp} {Q : VK} {v : V} {ns : List Int} (hp : Dv H v (.list (ns.map PyData.int))) (h0 : 0 < ns.length) (h : ∀ m ∈ ns, (∀ k ∈ ns, m <= k) -> Q (.int m) H) : D7 [v] H Q := ⟨v, ns, rfl, hp, h0, h⟩
end
structure LL (H : Hp) (p : Addr) (as : List Addr) (rs : List (Int × Int)) : Prop where
 at' : H p = some (.lst (as.map V.ref))
 nd : as.Nodup
 ne : p ∉ as
 len : as.length = rs.length
 row : ∀ (i : Nat) (b : Addr) (r : Int × Int), as[i]? = some b -> rs[i]? = some r -> dk H b [.int r.1, .int r.2]
section
variable {H H' : Hp} {p : Addr} {as : List Addr} {rs : List (Int × Int)}
end
theorem nk : ∀ (ss : List Str) (n : Nat), StrsAre (strsFrom n ss) ss
 | [], _ => .nil
 | _ :: r, n => .cons _ _ (nk r (n + 1))
def zG : V -> List V -> Hp -> VK -> Prop := fun x vs H Q => ∃ z y : Str, x = .str z /\ vs = [.str y] /\ y.length ≠ 0 /\ z.length <= 3990 /\ ∀ p, H p = none -> Q (.ref p) (upd H p (.lst ((Txt.split z y).map V.str)))
theorem rX (z y : Str) (h : 1 <= y.length) : (Txt.split z y).length <= z.length + 1 := by
 have := split_weight z y h
 omega
section
variable {X : Cx}
theorem tI : Jq X "str.split" zG := by
 intro pins s σ H x vs v us Q I rx rv h
 obtain ⟨z, y, rfl, rfl, hy, hz, q⟩ := h
 obtain ⟨t, rfl⟩ := rx
 obtain ⟨u, rfl, ru⟩ := rv.one
 obtain ⟨t', rfl⟩ := ru
 have hl := rX z y (by omega)
 have hb : (Txt.split z y).length <= sizeLine := Nat.le_trans hl (Nat.le_trans (show z.length + 1 <= 4000 by omega) (by decide))
 have fin : ∀ (us : List Value) (tk : Nat), StrsAre us (Txt.split z y) -> EP X pins σ Q (.ref s.heap.objs.size) { s with heap := s.heap.push { cls := .type "list", data := .seq us.toArray }, toks := tk } := fun us tk hs =>
  ⟨.ref s.heap.objs.size, _, I.laid (t' := tk) (o := .lst ((Txt.split z y).map V.str)) (fun b u e => Heap.get?_push_of_some _ e) (Nat.le_refl _)
   ⟨by rw [List.length_map]; exact hb, us, _, rk hs, Heap.get?_push_size _ rfl⟩, rfl, q _ (I.bf.fresh (Nat.le_refl _))⟩
 unfold Txt.split at fin hb
 split at fin
 . rename_i c
   exact call_meets F.slot_str_split (typeIs_str _ _ _) F.entry_str_split (F.args_str_split_2 _ _) (meets_str_split_cannot_occur z y t t' c) (fin [.str z t] s.toks (.cons _ _ .nil))
 . rename_i c
   rw [if_neg c] at hb
   split at fin
   . rename_i c2
     exact call_meets F.slot_str_split (typeIs_str _ _ _) F.entry_str_split (F.args_str_split_2 _ _) (meets_str_split_not_found z y t t' (by simpa using c) (by simpa using hy) c2) (fin [.str z t] s.toks (.cons _ _ .nil))
   . rename_i c2
     rw [if_neg c2] at hb
     exact call_meets F.slot_str_split (typeIs_str _ _ _) F.entry_str_split (F.args_str_split_2 _ _) (meets_str_split_sep z y t t' (by simpa using c) (by simpa using hy) (by simpa using c2) (Nat.le_trans hz (by decide)) hb) (fin _ _ (nk _ _))
end
section
variable {σ : St} {H : Hp} {Q : VK}
theorem xn {z y : Str} (hy : y.length ≠ 0) (hz : z.length <= 3990) (k : ∀ p H', ao H H' -> H p = none -> dk H' p ((Txt.split z y).map PyData.str) -> Q (.ref p) H') : zG (.str z) [.str y] H Q :=
 ⟨z, y, rfl, rfl, hy, hz, fun p hp => k p _ (bC hp) hp (iE hp (ug _) (oF _))⟩
end
theorem mG (sep : Str) : ∀ (x : Str) (r : List Str), (Txt.join sep (x :: r)).cps.toList = x.cps.toList ++ r.flatMap fun p => sep.cps.toList ++ p.cps.toList
 | x, [] => by show x.cps.toList = _; simp
 | x, y :: r => by
   have e : (Txt.join sep (x :: y :: r)) = Txt.join sep ((⟨x.cps ++ sep.cps ++ y.cps⟩ : Str) :: r) := rfl
   rw [e, mG sep _ r]
   show (x.cps ++ sep.cps ++ y.cps).toList ++ _ = _
   simp
inductive nj (w : World) : List DictEntry -> List (Str × Int) -> Prop
 | nil : nj w [] []
 | cons {es : List DictEntry} {m : List (Str × Int)} (k : Str) (t : Tok) (n : Int) (u : Tok) (r : nj w es m) : nj w (⟨PyData.keyHash w.params k, .str k t, .int n u⟩ :: es) ((k, n) :: m)
def gP (w : World) (K : PySem.W.Frag) (A : Addr) (m : List (Str × Int)) : Prop := ∃ es ep, List.lookup A K = some ⟨.type "dict", none, .dict es ep, #[]⟩ /\ (A == sysModules) = false /\ nj w es.toList m /\ (m.map (·.1)).Nodup
def yH (m : List (Str × Int)) (k : Str) : Option Int := (m.find? fun p => decide (p.1 = k)).map (·.2)
theorem nj.keys {P : Program} {w : World} : ∀ {es : List DictEntry} {m : List (Str × Int)}, nj w es m -> ∀ e ∈ es, ∃ k, (ek P w).is k e.key = true /\ e.hash = (ek P w).hash k
 | _, _, .cons k t n u r, e, he => by
   rcases List.mem_cons.mp he with rfl | he
   . exact ⟨.inr k, by show kh (.inr k) (.str k t) = true; simp [kh, Value.isStrOf], rfl⟩
   . exact r.keys e he
theorem nj.pairs {P : Program} {w : World} : ∀ {es : List DictEntry} {m : List (Str × Int)}, nj w es m -> ∃ vs : List (Key × Value), Pairs (ek P w) es vs /\ vs.map (·.1) = m.map (fun p => Sum.inr p.1) /\ KV (m.map fun p => ((Sum.inr p.1 : Key), V.int p.2)) vs
 | _, _, .nil => ⟨[], .nil, rfl, .nil⟩
 | _, _, .cons k t n u r => by
   obtain ⟨vs, a, b, c⟩ := r.pairs (P := P)
   exact ⟨(.inr k, .int n u) :: vs, .cons (by show kh (.inr k) (.str k t) = true; simp [kh, Value.isStrOf]) rfl a, by simp [b], .cons ⟨rfl, u, rfl⟩ c⟩
theorem tL (m : List (Str × Int)) (k : Str) : tP (m.map fun p => ((Sum.inr p.1 : Key), V.int p.2)) (.inr k) = (yH m k).map V.int := by
 induction m with
 | nil => rfl
 | cons p m ih =>
   unfold yH tP at *
   rw [List.map_cons, List.find?_cons, List.find?_cons]
   by_cases e : p.1 = k
   . simp [e]
   . have e2 : ¬ (Sum.inr p.1 : Key) = Sum.inr k := fun z => e (by injection z)
     rw [decide_eq_false e, decide_eq_false e2]
     exact ih
theorem gP.at {X : Cx} {pins : List (Addr × Obj)} {σ : St} {H : Hp} {s : Shared} {A : Addr} {m : List (Str × Int)} (g : gP X.w X.K A m) (I : Inv X pins σ H s) : (A == sysModules) = false /\ ∃ vs, KV (m.map fun p => ((Sum.inr p.1 : Key), V.int p.2)) vs /\ s.heap.DictOf (ek X.prog X.w) A vs := by
 obtain ⟨es, ep, e1, e2, e3, e4⟩ := g
 obtain ⟨vs, a, b, c⟩ := e3.pairs (P := X.prog)
 refine ⟨e2, vs, c, _, es, ep, I.bk _ _ (I.mod.A3 _ _ e1), ⟨rfl, rfl, rfl⟩, rfl, fun e he => e3.keys e (by simpa using he), a, ?_⟩
 have : vs.map (fun x => x.1) = (m.map (·.1)).map Sum.inr := by rw [b, List.map_map]; rfl
 rw [this]
 exact List.Pairwise.map _ (fun _ _ z y => z (by injection y)) e4
def Dc (A : Addr) (m : List (Str × Int)) (x y : V) (H : Hp) (Q : VK) : Prop := ∃ k, x = .ref A /\ y = .str k /\ Q (.bl (yH m k).isSome) H
def Ap (A : Addr) (m : List (Str × Int)) (x y : V) (H : Hp) (Q : VK) : Prop := ∃ k n, x = .ref A /\ y = .str k /\ yH m k = some n /\ Q (.int n) H
def HW (A : Addr) (m : List (Str × Int)) (ty td : TE) : TE := fun σ H Q => ty σ H fun y H1 => td σ H1 fun x H2 => Dc A m x y H2 Q
def Ec (A : Addr) (m : List (Str × Int)) (td ty : TE) : TE := fun σ H Q => td σ H fun x H1 => ty σ H1 fun y H2 => Ap A m x y H2 Q
section
variable {X : Cx} {o i : Expr} {pos : Pos} {td ty : TE} {A : Addr} {m : List (Str × Int)}
theorem FV (hG : gP X.w X.K A m) (hi : PE X i ty) (ho : PE X o td) : PC X .In i o (HW A m ty td) := by
 intro pins s σ H Q I h
 refine bO (hi pins s σ H _ I h) fun iv s1 ⟨y, H1, I1, ry, q1⟩ => bO (ho pins s1 σ H1 _ I1 q1) fun u s2 ⟨x, H2, I2, rx, k, ex, ey, q2⟩ => ?_
 subst ex
 subst ey
 obtain rfl : u = Value.ref A := rx
 obtain ⟨hd, vs, rel, dd⟩ := hG.at I2
 refine wpAny_in_of (DC (k := .inr k) ry) hd dd.mapOf ?_
 rw [<- (rel.val (.inr k)).yh, tL, Option.isSome_map]
 exact ⟨.bl _, H2, I2.tok _, rfl, q2⟩
theorem Bi (hG : gP X.w X.K A m) (ho : PE X o td) (hi : PE X i ty) (hs : Iz i) : PE X (.Subscript o i pos) (Ec A m td ty) := by
 intro pins s σ H Q I h
 refine Cz PySem.F.slot_dict_getitem.lookup hs (bO (ho pins s σ H _ I h) fun u s1 ⟨x, H1, I1, rx, q1⟩ => bO (hi pins s1 σ H1 _ I1 q1) fun iv s2 ⟨y, H2, I2, ry, k, n, ex, ey, l, q2⟩ => ?_)
 subst ex
 subst ey
 obtain rfl : u = Value.ref A := rx
 obtain ⟨hd, vs, rel, dd⟩ := hG.at I2
 obtain ⟨w', hw, Ie⟩ := lV.some_of (v := .int n) (o := valueAt vs (.inr k)) (by
  have z := rel.val (.inr k)
  rw [tL, l] at z
  exact z)
 exact ⟨dd.typeIs, wpAny_getItem_of (DC (k := .inr k) ry) dd.mapOf hw ⟨.int n, H2, I2.tok _, Ie, q2⟩⟩
end
section
variable {σ : St} {H : Hp} {Q : VK} {A : Addr} {m : List (Str × Int)}
theorem Fc {ty td : TE} (h : ty σ H fun y H1 => td σ H1 fun x H2 => Dc A m x y H2 Q) : HW A m ty td σ H Q := h
theorem BH {ty td : TE} (h : td σ H fun x H1 => ty σ H1 fun y H2 => Ap A m x y H2 Q) : Ec A m td ty σ H Q := h
theorem IA {k : Str} {n : Int} (hk : yH m k = some n) (h : Q (.bl true) H) : Dc A m (.ref A) (.str k) H Q := ⟨k, rfl, rfl, by rw [hk]; exact h⟩
theorem Gg {k : Str} (hk : yH m k = none) (h : Q (.bl false) H) : Dc A m (.ref A) (.str k) H Q := ⟨k, rfl, rfl, by rw [hk]; exact h⟩
theorem Eo {k : Str} {n : Int} (hk : yH m k = some n) (h : Q (.int n) H) : Ap A m (.ref A) (.str k) H Q := ⟨k, n, rfl, rfl, hk, h⟩
end
theorem HK {w : World} {K : PySem.W.Frag} {h : Heap} {mg : Str -> Option Value} {A : Addr} {es : Array DictEntry} {ep : Nat} {m : List (Str × Int)} {x : Str} (X : K.In h) (G : h.Ns mainGlobals mg) (h0 : PySem.W.nsIn K mainGlobals x = some (some (.ref A)))
 (h1 : List.lookup A K = some ⟨.type "dict", none, .dict es ep, #[]⟩) (h2 : (A == sysModules) = false) (h3 : nj w es.toList m) (h4 : (m.map (·.1)).Nodup) : ∃ A, mg x = some (.ref A) /\ gP w K A m := ⟨A, PySem.W.mg_of X G h0, es, ep, h1, h2, h3, h4⟩
section
variable {H : Hp} {Q : VK} {K : PySem.W.Frag} {p : Addr} {ds : List PyData}
theorem EG (xs : List V) (h : 1 <= xs.length) : sx xs (some 1) (some (-1)) = (xs.drop 1).take (xs.length - 2) := by
 have h1 : HT.fM xs.length 0 (some 1) = 1 := by
  simp only [HT.fM]
  rw [if_neg (by omega)]
  omega
 have h2 : HT.fM xs.length xs.length (some (-1)) = xs.length - 1 := by
  simp only [HT.fM]
  rw [if_pos (by omega)]
  omega
 show (xs.drop (HT.fM xs.length 0 (some 1))).take (HT.fM xs.length xs.length (some (-1)) - HT.fM xs.length 0 (some 1)) = _
 rw [h1, h2]
 congr 1
theorem u0 (hp : dk H p ds) (h1 : 1 <= ds.length) (k : ∀ q H', ao H H' -> H q = none -> dk H' q ((ds.drop 1).take (ds.length - 2)) -> Q (.ref q) H') : t6 K (.ref p) (some 1) (some (-1)) H Q := by
 obtain ⟨xs, e, dv, im⟩ := hp
 refine ⟨p, xs, rfl, gf.of e, fun q hq => ?_⟩
 have hl := dv.length
 rw [EG xs (by omega), hl]
 exact k q _ (bC hq) hq (iE hq ((dv.drop 1).take _) (jG _ (js 1 im)))
end
def Fe (h : Heap) (a T : Addr) (c : Value) (od : Option Addr) : Prop := ∃ oe vs oT ts v, h.get? a = some oe /\ oe.cls = c /\ oe.dict = od /\ oe.data = .fields vs /\ vs[1]? = some (.ref T) /\ T ≠ a /\ h.get? T = some oT /\ oT.data = .fields ts /\ ts[3]? = some v /\ vs[2]? = some .none
section
variable {M : Model} {A : Around} {E : Value -> Shared -> Prop} {s : Shared} {env : Env} {outer : List Env} {L a T : Addr} {c : Value} {od : Option Addr} {base : Heap} {Q : Unit -> Shared -> Prop}
theorem yu {oe : Obj} {vs : Array Value} {head : Value} {Er : Bool} (oz : A.frames = some (env :: outer)) (hl : s.heap.FunFrames base (env :: outer)) (hf : env.frame = some L) (he : s.heap.get? a = some oe) (zy : oe.dict = od) (hd : oe.data = .fields vs) (hsz : 1 < vs.size) (CU : vs[2]? = some .none)
 (h : ∀ h' T', Fe h' a T' oe.cls od -> s.heap.get? T' = none -> Lv (env :: outer) [a] s.heap h' -> Q () { s with heap := h' }) :
 wpAny M A (do let x <- frameOf env; let pl <- entryPlaceOf L Er; let b <- EntryCells.newEntry head x .none (rawInt L) .none pl; setField (.ref a) 1 b) Q E s := by
 have vw : a ∉ j5 (env :: outer) := fun m => by
  obtain ⟨_, o, ho, hn⟩ := hl.mem m
  rw [he] at ho
  cases ho
  exact hn vs hd
 refine wpAny_bind (wpAny_frameOf_fun oz hl hf fun h1 s1 => ?_)
 refine wpAny_bind (wpAny_entryPlaceOf fun pl k8 => ?_)
 unfold EntryCells.newEntry newFields
 refine wpAny_bind (wpAny_newObj_type ?_ (k8.sizeOk5 _ _ _ _ _))
 have e1 : h1.get? a = some oe := (s1.2.1 a vw).trans he
 let tb : Obj := { cls := .type "traceback", dict := none, data := .fields ([head, .ref L, .none, rawInt L, .none] ++ (if pl.isEmpty then List.replicate 6 Value.none else pl)).toArray }
 have e2 : (h1.push tb).get? a = some oe := Heap.get?_push_of_some _ e1
 refine wpAny_setField e2 hd hsz ?_
 have ya : h1.objs.size ≠ a := Ne.symm (Nat.ne_of_lt (Heap.lt_size e1))
 have d3 := Obj.data_mapFields hd (·.setIfInBounds 1 (Value.ref h1.objs.size))
 have e3 := Heap.get?_update_self (Obj.mapFields (·.setIfInBounds 1 (Value.ref h1.objs.size))) e2 (Obj.isFreed_of_fields d3)
 have t3 : ((h1.push tb).update a (Obj.mapFields (·.setIfInBounds 1 (Value.ref h1.objs.size)))).get? h1.objs.size = some tb := (Heap.get?_update_other _ _ (Ne.symm ya)).trans (Heap.get?_push_size h1 rfl)
 refine h _ h1.objs.size ?_ ?_ ?_
 . refine ⟨_, _, _, _, rawInt L, e3, Obj.cls_mapFields _ _, ?_, d3, by simp [hsz], ya, t3, rfl, by simp, by rw [Array.getElem?_setIfInBounds_ne (by decide)]; exact CU⟩
   obtain ⟨c0, d0, Fh, LR⟩ := oe
   cases Fh <;> first | exact zy | (cases hd)
 . cases q : s.heap.get? h1.objs.size with
   | none => rfl
   | some o =>
     obtain ⟨sl, z⟩ := s1.2.2 _ o q
     exact absurd (Heap.lt_size z) (Nat.lt_irrefl _)
 . have kp : ∀ b o, b ≠ a -> h1.get? b = some o -> ((h1.push tb).update a (Obj.mapFields (·.setIfInBounds 1 (Value.ref h1.objs.size)))).get? b = some o := fun b o hb q => by
    rw [Heap.get?_update_other _ _ (Ne.symm hb)]
    exact Heap.get?_push_of_some _ q
   refine ⟨fun b o n1 n2 q => kp b o (by simpa using n2) ((s1.2.1 b n1).trans q), fun b o m q => ?_⟩
   obtain ⟨sl, z⟩ := s1.2.2 b o q
   exact ⟨sl, kp b _ (fun z => vw (z ▸ m)) z⟩
theorem tS (oz : A.frames = some (env :: outer)) (hl : s.heap.FunFrames base (env :: outer)) (hf : env.frame = some L) (ht : uO s.heap a T c od)
 (h : ∀ h' T', Fe h' a T' c od -> (T' = T \/ s.heap.get? T' = none) -> Lv (env :: outer) [a, T] s.heap h' -> Q () { s with heap := h' }) : wpAny M A (noteFrame (.ref a) env) Q E s := by
 obtain ⟨oe, vs, oT, ts, e1, rfl, e3, e4, e5, e6, e7, e8, e9, qM⟩ := ht
 unfold noteFrame
 simp only [hf]
 refine wpAny_bind (wpAny_field e1 e4 e5 ?_)
 rw [if_pos (show (Value.ref T != Value.none) = true from by simp)]
 refine wpAny_bind (wpAny_field e7 e8 e9 ?_)
 rw [if_neg (show ¬ ((Value.none == rawInt L) = true) from by simp [rawInt])]
 refine wpAny_bind (wpAny_setField e7 e8 (Array.getElem?_eq_some_iff.mp e9).1 ?_)
 have kQ : ∀ b, b ≠ T -> (s.heap.update T (Obj.mapFields (·.setIfInBounds 3 Value.none))).get? b = s.heap.get? b := fun b hb => Heap.get?_update_other _ _ (Ne.symm hb)
 have nT : ∀ b o, s.heap.get? b = some o -> (∀ vs, o.data ≠ .fields vs) -> b ≠ T := fun b o hb hn z => by
  rw [z, e7] at hb
  cases hb
  exact hn ts e8
 refine yu (s := { s with heap := s.heap.update T (Obj.mapFields (·.setIfInBounds 3 Value.none)) }) oz (hl.of_keeps fun b o hb hn => ⟨o, (kQ b (nT b o hb hn)).trans hb, rfl⟩) hf ((kQ a (Ne.symm e6)).trans e1) e3 e4 (Array.getElem?_eq_some_iff.mp e5).1 qM fun h' T' t1 t2 lv => h h' T' t1 ?_ ⟨fun b o n1 n2 q => ?_, fun b o m q => ?_⟩
 . by_cases z : T' = T
   . exact .inl z
   . exact .inr ((kQ T' z).symm.trans t2)
 . have : b ≠ a /\ b ≠ T := by simpa using n2
   exact lv.keep b o n1 (by simpa using this.1) ((kQ b this.2).trans q)
 . obtain ⟨_, o', q', hn⟩ := hl.mem m
   rw [q] at q'
   cases q'
   exact lv.slot b o m ((kQ b (nT b o q hn)).trans q)
theorem ve (oz : A.frames = some (env :: outer)) (hl : s.heap.FunFrames base (env :: outer)) (hf : env.frame = some L) (ht : Fe s.heap a T c od)
 (h : ∀ h' T', uO h' a T' c od -> (T' = T \/ s.heap.get? T' = none) -> Lv (env :: outer) [a, T] s.heap h' -> Q () { s with heap := h' }) : wpAny M A (noteFrame (.ref a) env) (fun _ s' => wpAny M A (setFlight (.ref a) none) Q E s') E s := by
 obtain ⟨oe, vs, oT, ts, v, e1, rfl, e3, e4, e5, e6, e7, e8, e9, qM⟩ := ht
 unfold noteFrame
 simp only [hf]
 refine wpAny_bind (wpAny_field e1 e4 e5 ?_)
 rw [if_pos (show (Value.ref T != Value.none) = true from by simp)]
 refine wpAny_bind (wpAny_field e7 e8 e9 ?_)
 by_cases hv : (v == rawInt L) = true
 . rw [if_pos hv]
   have hz := (Array.getElem?_eq_some_iff.mp e9).1
   have tr : ∀ b, b ≠ T -> (s.heap.update T (Obj.mapFields (·.setIfInBounds 3 Value.none))).get? b = s.heap.get? b := fun b hb => Heap.get?_update_other _ _ (Ne.symm hb)
   refine wpAny_pure (wpAny_setFlight_none e1 e4 e5 e7 e8 hz (h _ T ⟨oe, vs, _, _, (tr a (Ne.symm e6)).trans e1, rfl, e3, e4, e5, e6, Heap.get?_update_self _ e7 (Obj.isFreed_of_fields (Obj.data_mapFields e8 _)), Obj.data_mapFields e8 _, by simp [hz], qM⟩ (.inl rfl) ⟨fun b o n1 n2 q => (tr b (by simp at n2; exact n2.2)).trans q, fun b o m q => ?_⟩))
   obtain ⟨_, o', q', hn⟩ := hl.mem m
   rw [q] at q'
   cases q'
   exact ⟨o.slots, (tr b (fun z => by rw [z, e7] at q; cases q; exact hn ts e8)).trans q⟩
 rw [if_neg hv]
 refine wpAny_bind (wpAny_setField e7 e8 (Array.getElem?_eq_some_iff.mp e9).1 ?_)
 have kQ : ∀ b, b ≠ T -> (s.heap.update T (Obj.mapFields (·.setIfInBounds 3 Value.none))).get? b = s.heap.get? b := fun b hb => Heap.get?_update_other _ _ (Ne.symm hb)
 have nT : ∀ b o, s.heap.get? b = some o -> (∀ vs, o.data ≠ .fields vs) -> b ≠ T := fun b o hb hn z => by
  rw [z, e7] at hb
  cases hb
  exact hn ts e8
 refine ou (s := { s with heap := s.heap.update T (Obj.mapFields (·.setIfInBounds 3 Value.none)) }) oz (hl.of_keeps fun b o hb hn => ⟨o, (kQ b (nT b o hb hn)).trans hb, rfl⟩) hf ((kQ a (Ne.symm e6)).trans e1) e3 e4 (Array.getElem?_eq_some_iff.mp e5).1 qM fun h' T' t1 t2 lv => h h' T' t1 ?_ ⟨fun b o n1 n2 q => ?_, fun b o m q => ?_⟩
 . by_cases z : T' = T
   . exact .inl z
   . exact .inr ((kQ T' z).symm.trans t2)
 . have : b ≠ a /\ b ≠ T := by simpa using n2
   exact lv.keep b o n1 (by simpa using this.1) ((kQ b this.2).trans q)
 . obtain ⟨_, o', q', hn⟩ := hl.mem m
   rw [q] at q'
   cases q'
   exact lv.slot b o m ((kQ b (nT b o q hn)).trans q)
theorem AF {α : Type} {qB : Env} {Ke : String} {R : α -> Shared -> Prop} (ht : Fe s.heap a T c od) (h : ∀ h', Fe h' a T c od -> (∀ b o, b ≠ T -> s.heap.get? b = some o -> h'.get? b = some o) -> E (.ref a) { s with heap := h' }) : wpAny M A (PySem.passOn Ke (.ref a) qB : Sem α) R E s := by
 obtain ⟨oe, vs, oT, ts, v, e1, rfl, e3, e4, e5, e6, e7, e8, e9, qM⟩ := ht
 have hz := (Array.getElem?_eq_some_iff.mp e9).1
 unfold PySem.passOn
 refine wpAny_bind (wpAny_field e1 e4 e5 ?_)
 rw [if_neg (show ¬ ((Value.ref T == Value.none) = true) from by simp)]
 refine wpAny_bind ?_
 unfold setFlight
 refine wpAny_bind (wpAny_field e1 e4 e5 ?_)
 rw [if_pos (show (Value.ref T != Value.none) = true from by simp)]
 refine wpAny_setField e7 e8 hz (wpAny_throw (h _ ⟨oe, vs, _, _, _, (Heap.get?_update_other _ _ e6).trans e1, rfl, e3, e4, e5, e6, Heap.get?_update_self _ e7 (Obj.isFreed_of_fields (Obj.data_mapFields e8 _)), Obj.data_mapFields e8 _, by simp [hz]; rfl, qM⟩ fun b o hb q => (Heap.get?_update_other _ _ (Ne.symm hb)).trans q))
end
theorem uq {prog : Program} {w : World} {A : Around} {R : Result -> Shared -> Prop} {s : Shared} {elt target iter : Expr} {ifs : List Expr} {scope : Scope} {pos : Pos} {it acc : Value} {env : Env} (I : Nat -> Shared -> Prop)
 (turn : ∀ n s, I n s -> wpAny (model prog w) A (pyNext it) (fun r s₁ => match r with
  | none => R (.ok .next) s₁
  | some v => wpAny (model prog w) A (letOwnedTupleGo target it v) (fun _ tM => wpAny (model prog w) A (assign target env v) (fun _ s₂ =>
   wpAny (model prog w) A (forIn ifs true fun c r => if r = true then do let ok <- isTrue c env (eval c env); pure (ForInStep.yield ok) else pure (ForInStep.yield r)) (fun ok s₃ =>
    if ok = true then wpAny (model prog w) A (eval elt env) (fun x s₄ =>
     wpAny (model prog w) A (call (.builtin "list.append") [acc, x]) (fun _ s₅ => ∃ m, m < n /\ I m s₅) (fun _ _ => False) s₄) (notedBy (model prog w) A env fun e s' => R (.error e) s') s₃
    else ∃ m, m < n /\ I m s₃) (fun _ _ => False) s₂) (fun _ _ => False) tM) (fun _ _ => False) s₁) (fun _ _ => False) s)
 (n : Nat) (h : I n s) :
 codeAny (model prog w) A (.compLoop (.ListComp elt [⟨target, iter, ifs, 0⟩] scope pos) 0 it acc env) R s := by
 refine codeAny_loop rfl I (fun n s hI => ?_) n h
 show wpAny _ A ((compTurn (.ListComp elt [⟨target, iter, ifs, 0⟩] scope pos) 0 it acc env).onRaise (fun x => do noteFrame x env; theTreesLotGoes x)) _ _ s
 refine wpAny_noted ?_
 rw [compTurn_list]
 refine wpAny_bind (wpAny_standAt (wpAny_bind (wpAny_mono (turn n s hI) (fun r s₁ h₁ => ?_) fun _ _ h' => h'.elim)))
 cases r with
 | none => exact wpAny_pure h₁
 | some v =>
   refine wpAny_bind (wpAny_mono h₁ (fun _ tM zz => ?_) fun _ _ h' => h'.elim)
   refine wpAny_bind (wpAny_mono zz (fun _ s₂ h₂ => wpAny_bind (wpAny_mono h₂ (fun ok s₃ h₃ => ?_) fun _ _ h' => h'.elim)) fun _ _ h' => h'.elim)
   cases ok with
   | false => exact wpAny_pure ⟨rfl, h₃⟩
   | true =>
     exact wpAny_bind (wpAny_bind (wpAny_mono h₃ (fun x s₄ h₄ => wpAny_bind (wpAny_mono h₄ (fun _ s₅ h₅ => wpAny_pure (wpAny_pure ⟨rfl, h₅⟩)) fun _ _ h' => h'.elim)) fun _ _ h' => h'))
def zk (X : Cx) (E : XK) : Prop := ∀ (pins : List (Addr × Obj)) (σ : St) (H : Hp) (s : Shared) (fp : List Addr) (a T C : Addr) (od : Option Addr) (H' : Hp) (s' : Shared), Inv X pins σ H s -> (∀ b ∈ fp, j3 X pins H b) -> s'.os = s.os -> AllBare s'.gens ->
 Un (j5 X.stack) fp H H' s.heap s'.heap -> lR X.prog X.w H' s'.heap -> Fe s'.heap a T (.ref C) od -> X.cH.heap.get? a = none -> X.cH.heap.get? T = none -> H' a = none -> H' T = none -> E (.ref C) od H' -> X.xe (.ref a) s'
section
variable {P : Program} {w : World} {K : PySem.W.Frag} {mg : Str -> Option Value} {base : Heap} {N : List Str} {qual : Str} {scope : Scope} {f : Addr} {cd : Value} {A : Around} {outer : List Env} {s0 : Shared} {H0 : Hp} {E : XK}
theorem Ea : zk (gC (nN P w) P w K mg base N qual scope f cd A outer s0 H0 E) E := by
 intro pins σ H s fp a T C od H' s' I hf os bare un bf tr na nT ha hT hE
 have I' := I.qm (ch := fp) os un bf bare (fun b hb => ⟨(hf b hb).2.2.2.1, (hf b hb).2.1, (hf b hb).2.2.2.2.1, (hf b hb).2.2.2.2.2⟩)
 show wpAny _ _ (leaving _ (.ref a)) _ _ s'
 refine wpAny_bind (ve (base := base) I'.ok.frames I'.stack rfl tr fun h2 T2 A8 xi lv => ?_)
 have d' : s'.heap.get? T2 = none -> s0.heap.get? T2 = none := fun z => by
  cases q : s0.heap.get? T2 with
  | none => rfl
  | some o =>
    obtain ⟨o2, z2⟩ := I'.base.there T2 o q (by intro y; cases y)
    rw [z] at z2
    cases z2
 refine qb I' lv (fun b hb => ?_) A8 ha ?_ na ?_ hE
 . have : b = a \/ b = T := by simpa using hb
   rcases this with rfl | rfl
   . exact ⟨ha, na⟩
   . exact ⟨hT, nT⟩
 . rcases xi with rfl | z
   . exact hT
   . exact I'.bf.dead z
 . rcases xi with rfl | z
   . exact nT
   . exact d' z
end
section
variable {X : Cx} {pins : List (Addr × Obj)} {σ : St} {H : Hp} {s : Shared} {T M : List Str} {scope : Scope} {cl : List (Str × Addr)} {fp : List Addr} {g : TG} {tc : TT} {te : TE} {tg elt iter : Expr} {ifs : List Expr} {pos : Pos} {EX : XK} {wi : TI}
theorem Ar {C : Addr} {pn : List (Addr × Obj)} {N : List Str} {use : Option (Value -> Sem Unit)} {Q : Value -> Shared -> Prop} {acc : Value} (tm : X.stack = X.env :: X.outer /\ X.env.frame = some X.env.locals /\ X.ex = []) (hP : zk X EX) (I : Inv X pins σ H s) (hf : ∀ b ∈ fp, j3 X pins H b) (hC : s.heap.objs.size <= C) (KJ : ∀ b ∈ fp, ∃ o, (b, o) ∈ pn)
 (h1 : ∀ x c, cl.lookup x = some c -> X.env.cells.lookup x = some c) :
 cW (nN X.prog X.w) ((ck X N scope cl C s H fp).pd (notedBy (model X.prog X.w) X.A (compEnvC scope cl C X.env) fun e s' => compPost (model X.prog X.w) X.A X.xe use Q acc C (.error e) s') pn) (fun _ => EX) := by
 intro qk σ' H1 s1 e s2 I1 ⟨a, T, Cc, od, H2, he, os, bare, un, bf, tr, na, nT, ha, hT, hE⟩
 subst he
 obtain ⟨Kd, JD, N1⟩ := tm
 have I2 := I1.qm (ch := []) os un bf bare (fun b z => nomatch z)
 have dead : ∀ b, s1.heap.get? b = none -> s.heap.get? b = none := fun b z => by
  cases q : s.heap.get? b with
  | none => rfl
  | some o =>
    by_cases hb : b ∈ fp
    . obtain ⟨o2, m⟩ := KJ b hb
      have := (I1.pin (b, o2) (List.mem_append_left _ m)).1
      rw [z] at this
      cases this
    . obtain ⟨o2, z2⟩ := I1.base.there b o q hb
      rw [z] at z2
      cases z2
 have D2 : ∀ b, s.heap.get? b = none -> X.cH.heap.get? b = none := fun b z => by
  cases q : X.cH.heap.get? b with
  | none => rfl
  | some o =>
    obtain ⟨o2, z2⟩ := I.base.there b o q (by rw [N1]; intro y; cases y)
    rw [z] at z2
    cases z2
 have up : ∀ b o, s1.heap.get? b = some o -> ∃ o2, s2.heap.get? b = some o2 := fun b o e => un.there b o e (fun z => nomatch z)
 have LY : s2.heap.FunFrames X.base (X.env :: X.outer) := by rw [<- Kd]; exact I2.stack
 have oz : X.A.frames = some (X.env :: X.outer) := by rw [<- Kd]; exact I.ok.frames
 show wpAny (model X.prog X.w) X.A (noteFrame (.ref a) X.env) _ _ s2
 refine tS (base := X.base) oz LY JD tr fun h3 T3 A7 GR lv => ?_
 have nC : ∀ b, s1.heap.get? b = none -> b ≠ C := fun b z e => by
  obtain ⟨m, ⟨o, es, ep, ho, _⟩, _⟩ := I1.loc
  have oW : s1.heap.get? C = some o := ho
  rw [e, oW] at z
  cases z
 have NX : Lv X.stack [a, T] s2.heap h3 := by rw [Kd]; exact lv
 have I3 := I2.lv (h' := h3) (t' := s2.toks) NX (fun b hb => by
  have MO : b = a \/ b = T := by simpa using hb
  have nb : s1.heap.get? b = none := by rcases MO with rfl | rfl <;> assumption
  refine ⟨by rcases MO with rfl | rfl <;> assumption, dead b nb, nC b nb, fun x c e z => ?_, fun p hp z => ?_⟩
  . obtain ⟨v, o, ho, _⟩ := I1.cell x c e
    rw [z, nb] at ho
    cases ho
  . have := (I1.pin p hp).1
    rw [z, nb] at this
    cases this)
 obtain ⟨m3, n3, _⟩ := I3.loc
 have JF : H2 T3 = none /\ s.heap.get? T3 = none := by
  rcases GR with rfl | z
  . exact ⟨hT, dead _ nT⟩
  . refine ⟨I2.bf.dead z, dead _ ?_⟩
    cases q : s1.heap.get? T3 with
    | none => rfl
    | some o =>
      obtain ⟨o2, z2⟩ := up _ _ q
      rw [z] at z2
      cases z2
 have aC : a ≠ C := nC a na
 have Nf : T3 ≠ C := by
  rcases GR with rfl | z
  . exact nC _ nT
  . intro e
    obtain ⟨m, ⟨o, es, ep, ho, _⟩, _⟩ := I2.loc
    have oW : s2.heap.get? C = some o := ho
    rw [e, oW] at z
    cases z
 have main : ∀ h', Heap.SameBut C h3 h' -> ∀ qB : Env, qB.locals = C -> wpAny (model X.prog X.w) X.A (PySem.passOn "comprehension.variables-let-go" (.ref a) qB : Sem Value) (fun _ _ => False) X.xe { s2 with heap := h' } := fun h' Dd qB _ => by
  have En : Fe h' a T3 (.ref Cc) od := by
   obtain ⟨oe, vs, oT, ts, v, e1, e2, e3, e4, e5, e6, e7, e8, e9, qM⟩ := A7
   exact ⟨oe, vs, oT, ts, v, (Dd.2 a aC).trans e1, e2, e3, e4, e5, e6, (Dd.2 T3 Nf).trans e7, e8, e9, qM⟩
  refine AF (s := { s2 with heap := h' }) En fun h5 JZ kp => ?_
  have JQ : ∀ b o, b ≠ C -> b ≠ T3 -> h3.get? b = some o -> h5.get? b = some o := fun b o n1 n2 e => kp b o n2 ((Dd.2 b n1).trans e)
  have old : ∀ b o, s.heap.get? b = some o -> b ≠ C /\ b ≠ T3 := fun b o e => ⟨Nat.ne_of_lt (Nat.lt_of_lt_of_le (Heap.lt_size e) hC), fun z => by rw [z, JF.2] at e; cases e⟩
  have U : Un (j5 X.stack) fp H H2 s.heap h3 := I3.base
  refine hP pins σ H s fp a T3 Cc od H2 _ I hf I3.os I3.bare ⟨fun b o e n hb hx => ?_, fun b o e n hb hx => ?_, U.free, fun b o e hx => ?_, U.j7, U.jk, U.lK⟩ (fun b u e => ?_) JZ (D2 _ (dead _ na)) (D2 _ JF.2) ha JF.1 hE
  . exact JQ b o (old b o e).1 (old b o e).2 (U.keep b o e n hb hx)
  . obtain ⟨sl, z⟩ := U.slot b o e n hb hx
    exact ⟨sl, JQ b _ (old b o e).1 (old b o e).2 z⟩
  . obtain ⟨o2, z⟩ := U.there b o e hx
    exact ⟨o2, JQ b _ (old b o e).1 (old b o e).2 z⟩
  . refine (I3.bf b u e).pk (fun c v hc q => ?_) (fun _ q => q) fun _ _ q => q
    have rZ : H2 c ≠ none := by
     rcases hc with rfl | hc
     . rw [e]; intro z; cases z
     . rw [hc]; intro z; cases z
    exact JQ c v (fun z => rZ (z ▸ I3.free)) (fun z => rZ (z ▸ JF.1)) q
 cases use <;> exact ⟨m3, n3, main⟩
theorem Bw {it : Addr} {tn : Nat -> Heap -> Prop} {J : It} {RR : Value -> Addr -> Result -> Shared -> Prop} {Fin : List V -> Hp -> Prop} {E : Value -> Shared -> Prop} {EX : XK}
 (hN : fW X T M scope) (ji : X.calm = true) (h1 : ∀ x c, cl.lookup x = some c -> X.env.cells.lookup x = some c) (h2 : ∀ x ∈ scope.names, x.2 = .free -> ∃ c, cl.lookup x.1 = some c)
 (hg : ∀ cl C s H fp, PG (ck X (T ++ M) scope cl C s H fp) tg g) (Kb : ∀ v H Q, g v (List.replicate T.length none ++ σ) H Q -> g v (List.replicate T.length none ++ σ) H fun σ2 H2 => Q σ2 H2 /\ T.length + σ.length = σ2.length /\ σ2.drop T.length = σ)
 (hc : ∀ cl C s H fp, GW (ck X (T ++ M) scope cl C s H fp) ifs tc) (he : ∀ cl C s H fp xe pn, cW (nN X.prog X.w) ((ck X (T ++ M) scope cl C s H fp).pd xe pn) (fun _ => EX) -> PE ((ck X (T ++ M) scope cl C s H fp).pd xe pn) elt te)
 (hX : ∀ D C pn, s.heap.objs.size <= C -> (∀ b ∈ fp, ∃ o, (b, o) ∈ pn) -> cW (nN X.prog X.w) ((ck X (T ++ M) scope cl C s H fp).pd (notedBy (model X.prog X.w) X.A (compEnvC scope cl C X.env) fun e s' => RR D C (.error e) s') pn) (fun _ => EX))
 (I : Inv X pins σ H s) (Tn : Turn X.prog X.w X.K tg J fp it tn) (st : tn 0 s.heap) (hf : ∀ b ∈ fp, j3 X pins H b) (hW : D4 T.length g tc te Fin σ J H)
 (hR : ∀ D C s' H' acc m, s.heap.objs.size <= D -> s.heap.objs.size <= C -> C ≠ D -> s'.heap.Ns C m -> H' C = none -> H' D = none -> Inv X pins σ (upd H' D (.lst acc)) s' -> Fin acc H' -> RR (.ref D) C (.ok .next) s') :
 wpAny (model X.prog X.w) X.A (newList []) (fun acc s₃ => wpAny (model X.prog X.w) X.A (newFunctionEnv scope X.env.globals cl [] X.env.qual none .none (some X.env)) (fun qB s₄ =>
  codeAny (model X.prog X.w) X.A (.compStart (.ListComp elt [⟨tg, iter, ifs, 0⟩] scope pos) 0 (.ref it) acc { qB with scope := relabel scope X.env }) (RR acc qB.locals) s₄) E s₃) E s := by
 refine wpAny_newObj_type (wpAny_newFunctionEnv hN.cell (by intro y hy; simp at hy) (fun h₁ lz iF => ?_) hN.kind)
 dsimp only at lz iF ⊢
 generalize Gk : s.heap.push { cls := .type "list", dict := none, data := .seq ([] : List Value).toArray } = H2 at lz iF ⊢
 have hC : H2.objs.size = s.heap.objs.size + 1 := by rw [<- Gk, Heap.size_push]
 have Bn : s.heap.objs.size ≠ H2.objs.size := by rw [hC]; exact Nat.ne_of_lt (Nat.lt_succ_self _)
 have tZ : s.heap.objs.size <= H2.objs.size := by rw [hC]; exact Nat.le_succ _
 have CB : ∀ b ∈ fp, b < s.heap.objs.size := fun b hb => by obtain ⟨o, ho, _⟩ := Tn.obj _ _ st b hb; exact Heap.lt_size ho
 have old : ∀ b o, s.heap.get? b = some o -> h₁.get? b = some o := fun b o e => iF.extBut b o (Nat.ne_of_lt (Nat.lt_of_lt_of_le (Heap.lt_size e) tZ)) (Heap.get?_push_of_some _ (Gk ▸ Heap.get?_push_of_some _ e))
 have iA : h₁.PlainList s.heap.objs.size #[] := ⟨_, iF.extBut _ _ Bn (Heap.get?_push_of_some _ (Gk ▸ Heap.get?_push_size _ rfl))⟩
 generalize wj : s.heap.objs.size = D at *
 generalize G1 : H2.objs.size = C at *
 have I0 : Inv (ck X (T ++ M) scope cl C s H fp) [] (List.replicate T.length none ++ σ) H { s with heap := h₁, toks := s.toks + ([] : List (Str × Value)).length } :=
  tQ I hN h1 h2 (by rw [wj]; exact tZ) hf (by rw [wj]; exact CB) lz old
 have IE : tn 0 h₁ := Tn.keep _ _ _ st fun b _ o e => old b o e
 obtain ⟨W, ⟨m0, w0⟩, turn⟩ := hW
 have IP : ∀ b ∈ fp, b ≠ D := fun b hb => Nat.ne_of_lt (CB b hb)
 have stat : ∀ {H' : Hp} {pl : List (Addr × Obj)}, (∀ b ∈ fp, H' b = none) -> (∀ p ∈ pl, p.1 = D) -> ∀ b ∈ fp, j3 (ck X (T ++ M) scope cl C s H fp) pl H' b := fun {H' pl} hn hp b hb => by
  have ok := I0.ok
  refine ⟨hn b hb, (ok.A6 b hb).1, ok.q0 b hb, .inl hb, (ok.A6 b hb).2, fun p hq => ?_⟩
  have Bx : p ∈ pl := hq
  rw [hp p Bx]; exact Ne.symm (IP b hb)
 have loop : codeAny (model X.prog X.w) X.A (.compLoop (.ListComp elt [⟨tg, iter, ifs, 0⟩] scope pos) 0 (.ref it) (.ref D) (compEnvC scope cl C X.env)) (RR (.ref D) C) { s with heap := h₁, toks := s.toks + ([] : List (Str × Value)).length } := by
  refine uq (fun n s' => ∃ i acc H' aV, Inv (ck X (T ++ M) scope cl C s H fp) [] (List.replicate T.length none ++ σ) H' s' /\ tn i s'.heap /\ (∀ b ∈ fp, H' b = none) /\ s'.heap.PlainList D aV /\ H' D = none /\ Vals acc aV.toList /\ acc.length <= sizeLine /\ W i n acc H') ?_ m0
   ⟨0, [], H, #[], I0, IE, fun b hb => (hf b hb).1, iA, I.bf.fresh (by rw [wj]; exact Nat.le_refl _), .nil, Nat.zero_le _, w0⟩
  rintro n s3 ⟨i, acc, H3, aV, I3, Ed, DK, ⟨nn, ho⟩, Fb, hv, hlen, w3⟩
  have Gp : ∀ {H'} {s'} {σ'} {o : Obj}, Inv (ck X (T ++ M) scope cl C s H fp) [] σ' H' s' -> s'.heap.get? D = some o -> (∀ v, o.data ≠ .cell v) -> H' D = none -> Inv (ck X (T ++ M) scope cl C s H fp) [(D, o)] σ' H' s' := fun {H' s' σ' o} I' e d hn => by
   refine I'.fS fun p hp => ?_
   have e' : p = (D, o) := by simpa using hp
   subst e'
   refine ⟨e, hn, Bn, fun z => ?_, d⟩
   have z' : D ∈ j5 X.stack := z
   obtain ⟨_, o', oW, _⟩ := I.stack.mem z'
   exact absurd (Heap.lt_size oW) (by rw [wj]; exact Nat.lt_irrefl _)
  have Jz := Gp I3 ho (fun v z => by cases z) Fb
  rcases turn i n acc H3 w3 with ⟨stop, fin⟩ | ⟨go, hl, step⟩
  . refine bO (Tn.done (ck X (T ++ M) scope cl C s H fp) rfl rfl rfl ji i _ s3 _ H3 _ Jz (stat DK (by simp)) Ed stop) fun r s4 ⟨hr, I4⟩ => ?_
    subst hr
    have e4 := (I4.pin (D, _) (List.mem_append_right _ List.mem_cons_self)).1
    have EL : Inv (ck X (T ++ M) scope cl C s H fp) [] (List.replicate T.length none ++ σ) H3 s4 := I4.fS fun p hp => nomatch hp
    obtain ⟨m4, n4, _⟩ := EL.loc
    exact hR D C s4 H3 acc m4 (Nat.le_refl _) tZ (Ne.symm Bn) n4 EL.free Fb (wD I EL hf (by rw [wj]; exact Nat.le_refl _) Fb hlen hv (by simpa using e4)) fin
  . refine bO (Tn.item (ck X (T ++ M) scope cl C s H fp) rfl rfl rfl ji i _ s3 _ H3 _ Jz (stat DK (by simp)) Ed go) fun r s4 ⟨u, hr, h4⟩ => ?_
    subst hr
    refine bO h4 fun _ s5 ⟨x, H5, I5, r5, y5, yJ, Jo⟩ => ?_
    have Iw := I5.pinned (stat Jo (by simp)) (Tn.obj _ _ yJ)
    refine bO (hg _ _ _ _ _ _ s5 _ H5 x u _ Iw r5 (Kb _ _ _ (step x H5 y5))) fun _ s6 ⟨σ6, H6, I6, q6, KY, Lq⟩ => ?_
    refine bO (hc _ _ _ _ _ _ s6 σ6 H6 _ I6 q6) fun b s7 ⟨H7, I7, q7⟩ => ?_
    have rest : ∀ {s8 : Shared} {H8 : Hp}, Inv (ck X (T ++ M) scope cl C s H fp) ([(D, _)] ++ lH fp s5.heap) σ6 H8 s8 -> tn (i + 1) s8.heap /\ (∀ b ∈ fp, H8 b = none) /\ s8.heap.PlainList D aV /\ H8 D = none /\ Inv (ck X (T ++ M) scope cl C s H fp) [] (List.replicate T.length none ++ σ) H8 s8 := fun {s8 H8} I8 => by
     refine ⟨Tn.keep _ _ _ yJ fun b hb o e => (I8.pin (b, o) (List.mem_append_right _ (List.mem_append_right _ (dD hb e)))).1, fun b hb => ?_, ⟨nn, (I8.pin (D, _) (List.mem_append_right _ (List.mem_append_left _ List.mem_cons_self))).1⟩, (I8.pin (D, _) (List.mem_append_right _ (List.mem_append_left _ List.mem_cons_self))).2.1, (I8.forget T.length KY Lq).fS fun p hp => nomatch hp⟩
     obtain ⟨o, e, d⟩ := Tn.obj _ _ yJ b hb
     exact (I8.pin (b, o) (List.mem_append_right _ (List.mem_append_right _ (dD hb e)))).2.1
    cases b with
    | false =>
      obtain ⟨m', hm, w7⟩ := q7
      obtain ⟨a1, a2, a3, a4, a5⟩ := rest I7
      exact ⟨m', hm, i + 1, acc, H7, aV, a5, a1, a2, a3, a4, hv, hlen, w7⟩
    | true =>
      refine bO (he _ _ _ _ _ _ _ (hX (.ref D) C ([(D, _)] ++ lH fp s5.heap) tZ fun b hb => (Tn.obj _ _ yJ b hb).elim fun o e => ⟨o, List.mem_append_right _ (dD hb e.1)⟩) [] s7 σ6 H7 _ I7.zK q7) fun y s8 ⟨yv, H8, Nj, r8, m', hm, w8⟩ => ?_
      have I8 := Nj.gZ
      obtain ⟨a1, a2, a3, a4, a5⟩ := rest I8
      have hsz : aV.size <= sizeLine := by have := hv.length; simp at this; omega
      refine wpAny_list_append_plain (hsz := hsz) a3 fun h9 Ka Jn => ?_
      refine ⟨m', hm, i + 1, acc ++ [yv], H8, aV.push y, ?_, ?_, a2, Ka, a4, ?_, by simp; omega, w8⟩
      . exact a5.turned (t' := s8.toks) (it := D) (fun b o hb e => (Jn.2 b hb).trans e) a4 Bn (.inr (by show s.heap.objs.size <= D; rw [wj]; exact Nat.le_refl _)) (fun x c e z => by
         obtain ⟨v, o, ho, _⟩ := I.cell x c (h1 x c e)
         exact absurd (Heap.lt_size ho) (by rw [wj, z]; exact Nat.lt_irrefl _)) (fun p hp => nomatch hp)
      . exact Tn.keep _ _ _ a1 fun b hb o e => (Jn.2 b (IP b hb)).trans e
      . simpa using Vals.append hv (.cons r8 .nil)
 exact codeAny_compStart_list loop (Tn.self _ _ _ _ _ IE loop)
theorem AA (hN : fW X T M scope) (ji : X.calm = true) (hi : PI X tg iter wi) (hg : ∀ cl C s H fp, PG (ck X (T ++ M) scope cl C s H fp) tg g) (Ip : Cb T.length g)
 (hc : ∀ cl C s H fp, GW (ck X (T ++ M) scope cl C s H fp) ifs tc) (tm : X.stack = X.env :: X.outer /\ X.env.frame = some X.env.locals /\ X.ex = []) (hP : zk X EX)
 (he : ∀ cl C s H fp xe pn, cW (nN X.prog X.w) ((ck X (T ++ M) scope cl C s H fp).pd xe pn) (fun _ => EX) -> PE ((ck X (T ++ M) scope cl C s H fp).pd xe pn) elt te)
 (hs : ∀ x, foldedSetIterable iter X.env x = pure x := by intro _; rfl) : PE X (.ListComp elt [⟨tg, iter, ifs, 0⟩] scope pos) (GD T.length wi g tc te) := by
 intro pins s σ H Q I h
 obtain ⟨cl, Ee, h1, h2⟩ := lG (scope := scope) (env := X.env) fun x hx hf => I.ok.has x.1 (hN.free x hx hf)
 rw [eval_ListComp]
 refine wpAny_comprehension_free (use := none) rfl hs Ee hN.kind hN.names (bO (hi pins s σ H _ I h) fun xv s1 G5 => bO G5 fun HR s2 Hg => ?_)
 obtain ⟨it, fp, tn, J, H2, e, I2, Tn, st, hf, hW⟩ := Hg
 subst e
 refine Bw (RR := fun acc C => compPost (model X.prog X.w) X.A X.xe none (EP X pins σ Q) acc C) hN ji h1 h2 hg (fun v H Q q => ?_) hc he (fun D C pn hC KJ => Ar tm hP I2 hf hC KJ h1) I2 Tn st hf hW ?_
 . have := Ip v (List.replicate T.length none) σ H Q (by simp) q
   refine (by
    have e : (fun (σ2 : St) (H2 : Hp) => Q σ2 H2 /\ T.length + σ.length = σ2.length /\ σ2.drop T.length = σ) = fun σ2 H2 => Q σ2 H2 /\ ∃ τ' : St, τ'.length = T.length /\ σ2 = τ' ++ σ := by
     funext σ2 H2
     refine propext ⟨fun ⟨a, b, c⟩ => ⟨a, σ2.take T.length, by rw [List.length_take]; omega, by rw [<- c, List.take_append_drop]⟩, fun ⟨a, τ', b, c⟩ => ⟨a, by rw [c, List.length_append, b], by rw [c, <- b, List.drop_left]⟩⟩
    rw [e]; exact this)
 . intro D C s' H' acc m hD hC j6 hn Hq HZ Ib fin
   refine ⟨m, hn, fun h' Dd => ⟨.ref D, _, ?_, rfl, fin D HZ⟩⟩
   exact Ib.turned (t' := s'.toks) (it := C) (fun b o hb e => (Dd.2 b hb).trans e) (by rw [aK j6]; exact Hq) (Nat.ne_of_gt (Nat.lt_of_lt_of_le I2.lt hC)) (.inr (Nat.le_trans I2.sz hC)) (fun x c e z => by
    obtain ⟨v, q⟩ := I2.cell x c e
    exact absurd (Nat.lt_of_lt_of_le q.lt (by rw [z]; exact hC)) (Nat.lt_irrefl _)) (fun p hp z => absurd (Nat.lt_of_lt_of_le (Heap.lt_size (I2.pin p hp).1) (by rw [z]; exact hC)) (Nat.lt_irrefl _))
end
theorem qu : entryFor table "proto.unchain" = some Builtin.«proto.unchain» := entryFor_of_fast (by kernel_rfl)
section
variable {prog : Program} {w : World} {A : Around} {E : Value -> Shared -> Prop} {s : Shared} {env : Env}
variable {nm q : Str} {C N : Addr} {bs bm Di : List Value} {hdct : Bool} {sn : List Str} {sub : List Value} {ab : Bool} {col : Option Bool} {dd : Option Addr} {k0 k1 k2 k3 k5 : Option Value} {newId : String}
theorem xB {x : Sem Value} {Q : Flow -> Shared -> Prop} {hd : Addr} {pos : Pos} (qE : bm.contains (.type "BaseException") = true) (hh : A.handled = some (.ref hd))
 (h : wpAny (model prog w) A x (fun v s₁ => ∃ e t oh hs, v = .ref e /\ s₁.heap.get? C = some (excClassObj nm q C N bs bm hdct sn sub ab col dd k0 k1 k2 k3 k5 newId) /\ e ≠ hd /\ e ≠ C /\ s₁.heap.get? hd = some oh /\ oh.data = .fields hs /\ hs[2]? = some .none /\
  s₁.heap.get? e = some { cls := .ref C, data := .fields #[.ref t, .none, .none, .none, .bool false, .none] } /\ ∀ h', (∀ b o, b ≠ e -> s₁.heap.get? b = some o -> h'.get? b = some o) -> h'.get? e = some { cls := .ref C, data := .fields #[.ref t, .none, .ref hd, .none, .bool true, .none] } -> E (.ref e) { s₁ with heap := h' }) E s) :
 wpAny (model prog w) A (raiseStmt env (some x) (some (pure .none >>= fun v => standAt pos >>= fun _ => pure v))) Q E s := by
 have Ox : (Value.ref C :: bm).contains (.type "BaseException") = true := by rw [List.contains_cons, qE, Bool.or_true]
 unfold raiseStmt
 refine wpAny_bind (wpAny_mono h (fun v s₁ h₁ => ?_) fun _ _ x => x)
 obtain ⟨e, t, oh, hs, rfl, hC, ne, Im, e1, e2, e3, he, hE⟩ := h₁
 obtain ⟨hp, g, d, tk, os⟩ := s₁
 repeat (first | with_reducible refine wpAny_loadPart_at he ?_ | with_reducible refine wpAny_loadPart_at hC ?_ | (with_reducible refine wpAny_isSubtype_exc hC ?_; rw [Ox]) | wp_step)
 generalize hz : (hp.update e (Obj.mapFields fun x => x.setIfInBounds 3 Value.none)).update e (Obj.mapFields fun x => x.setIfInBounds 4 (Value.bool true)) = h2
 have kQ : ∀ b, b ≠ e -> h2.get? b = hp.get? b := fun b hb => by
  rw [<- hz, Heap.get?_update_other _ _ (Ne.symm hb), Heap.get?_update_other _ _ (Ne.symm hb)]
 have MJ : h2.get? e = some { cls := .ref C, data := .fields #[.ref t, .none, .none, .none, .bool true, .none] } := by
  rw [<- hz, Heap.get?_update_self _ (Heap.get?_update_self _ he rfl) rfl]
  rfl
 simp only [raiseNew]
 refine wpAny_bind (wpAny_handled ?_)
 rw [hh]
 have j6 : (Value.ref hd != Value.ref e) = true := by simpa using Ne.symm ne
 dsimp only
 rw [if_pos j6]
 refine wpAny_bind (wpAny_holding (wpAny_runValue (codeAny_builtin qu ?_)))
 show wpAny _ _ (field (.ref hd) 2 >>= _) _ _ _
 refine wpAny_bind (wpAny_field ((kQ hd (Ne.symm ne)).trans e1) e2 e3 ?_)
 rw [if_pos (by rfl)]
 refine wpAny_pure ?_
 refine wpAny_bind (show wpAny _ _ (setField (.ref e) 2 (.ref hd)) _ _ _ from wpAny_setField MJ rfl (by simp) (wpAny_throw ?_))
 refine hE _ (fun b o hb z => (Heap.get?_update_other _ _ (Ne.symm hb)).trans ((kQ b hb).trans z)) ?_
 rw [Heap.get?_update_self _ MJ rfl]
 rfl
theorem qU {B yM : String} (F : ExcBaseFacts B newId yM Di) {mN : Str -> Option Value} {x : Str} {np df pos kp : Pos} {kx : Nat} {args : List Expr} {Q : Flow -> Shared -> Prop} {hd : Addr}
 (qE : bm.contains (.type "BaseException") = true) (hh : A.handled = some (.ref hd)) (lq : (backTo df (starEach args env)).any (·.1) = false) (DW : mN "__init__" = none)
 (h : wpAny (model prog w) A (eval (.Name x np) env) (fun f s₁ => f = .ref C /\ wpAny (model prog w) A (evalArgs (.ref C) true (backTo df (starEach args env)) [])
  (fun a s₂ => a.kw = [] /\ a.pos.length <= sizeLine /\ s₂.heap.get? C = some (excClassObj nm q C N bs bm hdct sn sub ab col dd k0 k1 k2 k3 k5 newId) /\ s₂.heap.Ns N mN /\ OwnTail s₂.heap Di bm /\ (∃ oh hs, s₂.heap.get? hd = some oh /\ oh.data = .fields hs /\ hs[2]? = some .none) /\
   ∀ h' e t, s₂.heap.get? e = none -> (∀ b o, s₂.heap.get? b = some o -> h'.get? b = some o) -> h'.get? e = some { cls := .ref C, data := .fields #[.ref t, .none, .ref hd, .none, .bool true, .none] } -> E (.ref e) { s₂ with heap := h' }) E s₁) E s) :
 wpAny (model prog w) A (exec (.Raise (some (.Call (.Name x np) args [] df)) (some (.Constant .none kx kp)) pos) env) Q E s := by
 rw [arm_exec_Raise]
 refine wpAny_bind (wpAny_standAt ?_)
 show wpAny _ _ (raiseStmt env (some (eval (.Call (.Name x np) args [] df) env >>= fun v => standAt pos >>= fun _ => pure v)) (some (pure Value.none >>= fun v => standAt pos >>= fun _ => pure v))) _ _ _
 refine xB (C := C) (nm := nm) (q := q) (N := N) (bs := bs) (bm := bm) (hdct := hdct) (sn := sn) (sub := sub) (ab := ab) (col := col) (dd := dd) (k0 := k0) (k1 := k1) (k2 := k2) (k3 := k3) (k5 := k5) (newId := newId) qE hh (wpAny_bind (wpAny_mono (wpAny_Call_ofName (wpAny_mono h (fun f s₁ h₁ => ?_) fun _ _ x => x)) (fun v s₃ h₃ => wpAny_bind (wpAny_standAt (wpAny_pure h₃))) fun _ _ x => x))
 obtain ⟨rfl, h₁⟩ := h₁
 unfold callWith
 refine wpAny_bind (wpAny_holding (wpAny_mono h₁ (fun a s₂ h₂ => wpAny_bind (wpAny_standAt ?_)) fun _ _ x => x))
 obtain ⟨apos, Nq⟩ := a
 obtain ⟨N0, hlen, hC, hn, T, ⟨oh, hs, y1, y2, y3⟩, h₂⟩ := h₂
 obtain rfl : Nq = [] := N0
 obtain ⟨hp, g, d, tk, os⟩ := s₂
 simp only [lq]
 refine wpAny_bind (wpAny_keeperOf_exc hC ?_)
 refine wpAny_bind (wpAny_call_exc_subT (hrest := hlen) F T hC hn DW fun h' e hm => wpAny_bind (wpAny_holding (wpAny_point (wpAny_pure ?_))))
 obtain ⟨t, ht, _, _⟩ := hm.there
 refine ⟨e, t, oh, hs, rfl, hm.keeps _ _ hC, fun z => ?_, fun z => ?_, hm.keeps _ _ y1, y2, y3, ht, fun h3 k3 e3 => h₂ h3 e t hm.new (fun b o z => k3 b o (fun y => ?_) (hm.keeps _ _ z)) e3⟩
 . have := hm.new
   rw [z, y1] at this
   cases this
 . have := hm.new
   rw [z, hC] at this
   cases this
 . have := hm.new
   rw [<- y, z] at this
   cases this
end
def vZ (h : Heap) (a T : Addr) (c : Value) (od : Option Addr) : Prop := ∃ oe vs oT ts, h.get? a = some oe /\ oe.cls = c /\ oe.dict = od /\ oe.data = .fields vs /\ vs[1]? = some (.ref T) /\ T ≠ a /\ h.get? T = some oT /\ oT.data = .fields ts /\ ts[3]? = some .none /\ True
section
variable {M : Model} {A : Around} {E : Value -> Shared -> Prop} {s : Shared} {env : Env} {outer : List Env} {L a T : Addr} {c : Value} {od : Option Addr} {base : Heap} {Q : Unit -> Shared -> Prop}
theorem rj {oe : Obj} {vs : Array Value} {head : Value} {Er : Bool} (oz : A.frames = some (env :: outer)) (hl : s.heap.FunFrames base (env :: outer)) (hf : env.frame = some L) (he : s.heap.get? a = some oe) (zy : oe.dict = od) (hd : oe.data = .fields vs) (hsz : 1 < vs.size) (CU : True)
 (h : ∀ h' T', vZ h' a T' oe.cls od -> s.heap.get? T' = none -> Lv (env :: outer) [a] s.heap h' -> Q () { s with heap := h' }) :
 wpAny M A (do let x <- frameOf env; let pl <- entryPlaceOf L Er; let b <- EntryCells.newEntry head x .none (rawInt L) .none pl; setField (.ref a) 1 b) (fun _ s' => wpAny M A (setFlight (.ref a) none) Q E s') E s := by
 have vw : a ∉ j5 (env :: outer) := fun m => by
  obtain ⟨_, o, ho, hn⟩ := hl.mem m
  rw [he] at ho
  cases ho
  exact hn vs hd
 refine wpAny_bind (wpAny_frameOf_fun oz hl hf fun h1 s1 => ?_)
 refine wpAny_bind (wpAny_entryPlaceOf fun pl k8 => ?_)
 unfold EntryCells.newEntry newFields
 refine wpAny_bind (wpAny_newObj_type ?_ (k8.sizeOk5 _ _ _ _ _))
 have e1 : h1.get? a = some oe := (s1.2.1 a vw).trans he
 let tb : Obj := { cls := .type "traceback", dict := none, data := .fields ([head, .ref L, .none, rawInt L, .none] ++ (if pl.isEmpty then List.replicate 6 Value.none else pl)).toArray }
 have e2 : (h1.push tb).get? a = some oe := Heap.get?_push_of_some _ e1
 refine wpAny_setField e2 hd hsz ?_
 have ya : h1.objs.size ≠ a := Ne.symm (Nat.ne_of_lt (Heap.lt_size e1))
 have d3 := Obj.data_mapFields hd (·.setIfInBounds 1 (Value.ref h1.objs.size))
 have e3 := Heap.get?_update_self (Obj.mapFields (·.setIfInBounds 1 (Value.ref h1.objs.size))) e2 (Obj.isFreed_of_fields d3)
 have t3 : ((h1.push tb).update a (Obj.mapFields (·.setIfInBounds 1 (Value.ref h1.objs.size)))).get? h1.objs.size = some tb := (Heap.get?_update_other _ _ (Ne.symm ya)).trans (Heap.get?_push_size h1 rfl)
 unfold setFlight
 refine wpAny_bind (wpAny_field e3 d3 (x := .ref h1.objs.size) (by simp [hsz]) ?_)
 rw [if_pos (show (Value.ref h1.objs.size != Value.none) = true from by simp)]
 refine wpAny_setField t3 rfl (by simp only [List.size_toArray, List.length_append, List.length_cons, List.length_nil] <;> omega) (h _ h1.objs.size ?_ ?_ ?_)
 . refine ⟨_, _, _, _, (Heap.get?_update_other _ _ ya).trans e3, Obj.cls_mapFields _ _, ?_, d3, by simp [hsz], ya, Heap.get?_update_self _ t3 (Obj.isFreed_of_fields (Obj.data_mapFields rfl _)), Obj.data_mapFields rfl _, by first | (simp; done) | (rcases k8 with rfl | ⟨_, _, _, _, _, _, _, rfl⟩ <;> simp), trivial⟩
   obtain ⟨c0, d0, Fh, LR⟩ := oe
   cases Fh <;> first | exact zy | (cases hd)
 . cases q : s.heap.get? h1.objs.size with
   | none => rfl
   | some o =>
     obtain ⟨sl, z⟩ := s1.2.2 _ o q
     exact absurd (Heap.lt_size z) (Nat.lt_irrefl _)
 . have kp : ∀ b o, b ≠ a -> h1.get? b = some o -> (((h1.push tb).update a (Obj.mapFields (·.setIfInBounds 1 (Value.ref h1.objs.size)))).update h1.objs.size (Obj.mapFields (·.setIfInBounds 3 ((none : Option Addr).elim Value.none fun f => rawInt f)))).get? b = some o := fun b o hb q => by
    rw [Heap.get?_update_other _ _ (Ne.symm (Nat.ne_of_lt (Heap.lt_size q))), Heap.get?_update_other _ _ (Ne.symm hb)]
    exact Heap.get?_push_of_some _ q
   refine ⟨fun b o n1 n2 q => kp b o (by simpa using n2) ((s1.2.1 b n1).trans q), fun b o m q => ?_⟩
   obtain ⟨sl, z⟩ := s1.2.2 b o q
   exact ⟨sl, kp b _ (fun z => vw (z ▸ m)) z⟩
theorem vg (oz : A.frames = some (env :: outer)) (hl : s.heap.FunFrames base (env :: outer)) (hf : env.frame = some L) (ht : vZ s.heap a T c od)
 (h : ∀ h' T', vZ h' a T' c od -> (T' = T \/ s.heap.get? T' = none) -> Lv (env :: outer) [a, T] s.heap h' -> Q () { s with heap := h' }) : wpAny M A (noteFrame (.ref a) env) (fun _ s' => wpAny M A (setFlight (.ref a) none) Q E s') E s := by
 obtain ⟨oe, vs, oT, ts, e1, rfl, e3, e4, e5, e6, e7, e8, e9, qM⟩ := ht
 unfold noteFrame
 simp only [hf]
 refine wpAny_bind (wpAny_field e1 e4 e5 ?_)
 rw [if_pos (show (Value.ref T != Value.none) = true from by simp)]
 refine wpAny_bind (wpAny_field e7 e8 e9 ?_)
 rw [if_neg (show ¬ ((Value.none == rawInt L) = true) from by simp [rawInt])]
 refine wpAny_bind (wpAny_setField e7 e8 (Array.getElem?_eq_some_iff.mp e9).1 ?_)
 have kQ : ∀ b, b ≠ T -> (s.heap.update T (Obj.mapFields (·.setIfInBounds 3 Value.none))).get? b = s.heap.get? b := fun b hb => Heap.get?_update_other _ _ (Ne.symm hb)
 have nT : ∀ b o, s.heap.get? b = some o -> (∀ vs, o.data ≠ .fields vs) -> b ≠ T := fun b o hb hn z => by
  rw [z, e7] at hb
  cases hb
  exact hn ts e8
 refine rj (s := { s with heap := s.heap.update T (Obj.mapFields (·.setIfInBounds 3 Value.none)) }) oz (hl.of_keeps fun b o hb hn => ⟨o, (kQ b (nT b o hb hn)).trans hb, rfl⟩) hf ((kQ a (Ne.symm e6)).trans e1) e3 e4 (Array.getElem?_eq_some_iff.mp e5).1 qM fun h' T' t1 t2 lv => h h' T' t1 ?_ ⟨fun b o n1 n2 q => ?_, fun b o m q => ?_⟩
 . by_cases z : T' = T
   . exact .inl z
   . exact .inr ((kQ T' z).symm.trans t2)
 . have : b ≠ a /\ b ≠ T := by simpa using n2
   exact lv.keep b o n1 (by simpa using this.1) ((kQ b this.2).trans q)
 . obtain ⟨_, o', q', hn⟩ := hl.mem m
   rw [q] at q'
   cases q'
   exact lv.slot b o m ((kQ b (nT b o q hn)).trans q)
theorem ko (ht : vZ s.heap a T c od) (h : ∀ h', vZ h' a T c od -> (∀ b o, b ≠ T -> s.heap.get? b = some o -> h'.get? b = some o) -> Q () { s with heap := h' }) : wpAny M A (setFlight (.ref a) none) Q E s := by
 obtain ⟨oe, vs, oT, ts, e1, rfl, e3, e4, e5, e6, e7, e8, e9, qM⟩ := ht
 have hz := (Array.getElem?_eq_some_iff.mp e9).1
 refine wpAny_setFlight_none e1 e4 e5 e7 e8 hz (h _ ⟨oe, vs, _, _, (Heap.get?_update_other _ _ e6).trans e1, rfl, e3, e4, e5, e6, Heap.get?_update_self _ e7 (Obj.isFreed_of_fields (Obj.data_mapFields e8 _)), Obj.data_mapFields e8 _, by simp [hz], qM⟩ fun b o hb q => (Heap.get?_update_other _ _ (Ne.symm hb)).trans q)
end
def Bb (P : Program) (w : World) : qt := fun outer H s E e s' => ∃ a T C od H', e = .ref a /\ s'.os = s.os /\ AllBare s'.gens /\ Un (j5 outer) [] H H' s.heap s'.heap /\ lR P w H' s'.heap /\ vZ s'.heap a T (.ref C) od /\ s.heap.get? a = none /\ s.heap.get? T = none /\ H' a = none /\ H' T = none /\ E (.ref C) od H'
section
variable {P : Program} {w : World} {K : PySem.W.Frag} {mg : Str -> Option Value} {base : Heap} {N : List Str} {qual : Str} {scope : Scope} {f : Addr} {cd : Value} {A : Around} {outer : List Env} {s0 : Shared} {H0 : Hp} {E : XK} {CX : qt} {pins : List (Addr × Obj)} {σ : St} {H : Hp} {s : Shared}
theorem uB {a T C : Addr} {od : Option Addr} {S : List Addr} {h' : Heap} (I : Inv (gC CX P w K mg base N qual scope f cd A outer s0 H0 E) pins σ H s) (lv : Lv (gC CX P w K mg base N qual scope f cd A outer s0 H0 E).stack S s.heap h') (hS : ∀ b ∈ S, H b = none /\ s0.heap.get? b = none)
 (tr : vZ h' a T (.ref C) od) (ha : H a = none) (hT : H T = none) (na : s0.heap.get? a = none) (nT : s0.heap.get? T = none) (hE : E (.ref C) od H) : Bb P w outer H0 s0 E (.ref a) { s with heap := h' } := by
 have eL : j5 (gC CX P w K mg base N qual scope f cd A outer s0 H0 E).stack = s0.heap.objs.size :: j5 outer := rfl
 have old : ∀ b o, s0.heap.get? b = some o -> b ∉ S /\ b ≠ s0.heap.objs.size := fun b o e => ⟨fun z => (by rw [(hS b z).2] at e; cases e), Nat.ne_of_lt (Heap.lt_size e)⟩
 refine ⟨a, T, C, od, H, rfl, I.os, I.bare, ⟨fun b o e n hb hx => ?_, fun b o e n hb hx => ?_, fun b o e n hx => I.base.free b o e n hx, fun b o e hx => ?_, I.base.j7, I.base.jk, I.base.lK⟩, fun b u e => ?_, tr, na, nT, ha, hT, hE⟩
 . have z := I.base.keep b o e n hb hx
   exact lv.keep b o (by rw [eL]; simp [(old b o e).2, hb]) (old b o e).1 z
 . obtain ⟨sl, z⟩ := I.base.slot b o e n hb hx
   obtain ⟨DM, z2⟩ := lv.slot b _ (by rw [eL]; exact List.mem_cons_of_mem _ hb) z
   exact ⟨DM, z2⟩
 . obtain ⟨o2, z⟩ := I.base.there b o e hx
   by_cases m : b ∈ j5 (gC CX P w K mg base N qual scope f cd A outer s0 H0 E).stack
   . obtain ⟨DM, z2⟩ := lv.slot b _ m z
     exact ⟨_, z2⟩
   . exact ⟨_, lv.keep b o2 m (old b o e).1 z⟩
 . refine (I.bf b u e).pk (fun c v hc q => ?_) (fun _ q => q) fun _ _ q => q
   have rZ : H c ≠ none := by
    rcases hc with rfl | hc
    . rw [e]; intro z; cases z
    . rw [hc]; intro z; cases z
   exact lv.keep c v (fun m => rZ (I.lX c m)) (fun m => rZ (hS c m).1) q
end
structure Ja (P : Program) (w : World) (K : PySem.W.Frag) (mg : Str -> Option Value) (base : Heap) (k : Nat) (f : Addr) (ps : List Str) (cU : List V) (sp : Sp) : Prop where
 ex : ∃ (fd : FuncData) (ds : List Value), bh P w K mg base (Bb P w) k f fd ps sp /\ Binds K fd ps ds /\ Vals cU ds
section
variable {X : Cx} {CX : qt} {k : Nat} {f C : Addr} {fd : FuncData} {ps : List Str} {sp : Sp} {cU : List V} {ds : List Value} {E : St -> XK} {x m : Str} {p pos apos : Pos} {e o : Expr} {es : List Expr} {ta : TE} {t : TA}
theorem mY (c : Ja X.prog X.w X.K X.mg X.base k f ps cU sp) (hr : c5 k X.A) (hg : Gl X x) (hm : X.mg x = some (.ref f)) (hk : PySem.W.keepIn X.K (.ref f) = true) (hx : cW (Bb X.prog X.w) X E)
 (ha : PA X (e :: es) t) (ph : (x == ("__debug__" : Str)) = false := by decide) (he : starEach (e :: es) X.env = (false, eval e X.env) :: starEach es X.env := by rfl) (k8 : (backTo pos (starEach es X.env)).any (·.1) = false := by rfl) :
 PE X (.Call (.Name x p) (e :: es) [] pos) (sN sp cU E t) := by
 obtain ⟨fd, ds, F, hb, hd⟩ := c.ex
 intro pins s σ H Q I h
 refine wpAny_Call_Name_kw (eu I hg hm ?_ ph)
 refine PySem.W.callWith_K (h₀ := X.base) I.ok.mod.A3 hk (bO (ha pos pins s σ H _ I h) fun us s1 ⟨vs, H1, I1, r, q⟩ => ⟨I1.i7, ?_⟩) he k8
 exact sj F hr hb hd hx I1 r (fQ.out q)
end
section
variable {P : Program} {w : World} {K : PySem.W.Frag} {mg : Str -> Option Value} {base : Heap}
theorem cy.NS {x qual : Str} {st : Stmt} {f : Addr} {dV : Value} {fd : FuncData} {N ps : List Str} {k : Nat} {sp : Sp} (F : cy K x qual st f dV fd) (S : aH N ps (ak st)) (len : ∀ vs H Q E, sp vs H Q E -> vs.length = ps.length)
 (pV : ∀ (di : Value) (A : Around) (outer : List Env) (s : Shared) (H : Hp) (vs : List V) (Q : VK) (E : XK), c5 k (A.deeper (envOfC qual (ak st) s.heap.objs.size f di)) -> sp vs H Q E ->
  ∃ t, qK (gC (Bb P w) P w K mg base N qual (ak st) f di A outer s H E) (gq st) t /\ t { nx := fun _ H' => Q .cq H', rt := Q } (start N vs) H) : bh P w K mg base (Bb P w) (k + 1) f fd ps sp := by
 obtain ⟨oc, od, kV, doc, pm, an, di, ct, yl, rfl, lk, uM⟩ := F.ex
 exact yT lk uM S len fun A outer s H vs Q E hr pP => pV di A outer s H vs Q E hr pP
end
section
variable {prog : Program} {w : World} {A : Around} {E : Value -> Shared -> Prop} {s : Shared} {K : PySem.W.Frag} {x C : Addr} {ox : Obj} {name : Str} {v : Value} {cd : ClassData}
end
def uZ (a C : Addr) (od : Option Addr) : Heap -> Prop := fun h => ∃ o vs, h.get? a = some o /\ o.cls = .ref C /\ o.dict = od /\ o.data = .fields vs /\ True
theorem uZ.ext {h : Heap} {a C : Addr} {od : Option Addr} (m : uZ a C od h) : uZ a C od h /\ (∃ o, h.get? a = some o) /\ ∀ h1 h2 : Heap, uZ a C od h1 -> (∀ o, h1.get? a = some o -> h2.get? a = some o) -> uZ a C od h2 :=
 ⟨m, let ⟨o, _, e, _⟩ := m; ⟨o, e⟩, fun _ _ ⟨o, vs, e, r⟩ k => ⟨o, vs, k o e, r⟩⟩
theorem vZ.keeps {h h' : Heap} {a T : Addr} {c : Value} {od : Option Addr} (t : vZ h a T c od) (k : ∀ b o, h.get? b = some o -> h'.get? b = some o) : vZ h' a T c od := by
 obtain ⟨oe, vs, oT, ts, e1, e2, e3, e4, e5, e6, e7, e8⟩ := t
 exact ⟨oe, vs, oT, ts, k _ _ e1, e2, e3, e4, e5, e6, k _ _ e7, e8⟩
def Mw (X : Cx) (cl : Expr) (hit : Addr -> Bool -> Prop) : Prop := ∀ (a C T : Addr) (od : Option Addr) (pins : List (Addr × Obj)) (σ : St) (H : Hp) (s : Shared) (Q : Bool -> Shared -> Prop) (E : Value -> Shared -> Prop) (b : Bool), Inv X pins σ H s -> vZ s.heap a T (.ref C) od -> hit C b ->
 (∀ h', (∀ b o, s.heap.get? b = some o -> h'.get? b = some o) -> Q b { s with heap := h' }) ->
 wpAny (model X.prog X.w) (X.hand a).A (eval cl X.env) (fun c s1 => wpAny (model X.prog X.w) (X.hand a).A (excMatches (.ref a) c) Q E s1) E s
theorem Bp {X : Cx} {x : Str} {np : Pos} {D : Addr} (hg : Gl X x) (hm : X.mg x = some (.ref D)) (hD : we X.K D) (ph : (x == ("__debug__" : Str)) = false := by decide) : Mw X (.Name x np) (BR X.K D) := by
 intro a C T od pins σ H s Q E b I tr hit k
 refine eu (X := { X with xe := E }.hand a) (E := E) I.n6 hg hm ?_ ph
 obtain ⟨bm, N, nm, q, bs, hd, sn, sub, ab, col, dd, k0, k1, k2, k3, k5, hC, _⟩ := hit.1 _ I.i7
 obtain ⟨HF, N', La, q', KH, uN, Lj, Gq, LK, FG, Li, l0, l1, l2, l3, l5, LO, T'⟩ := hD _ I.i7
 obtain ⟨oe, vs, oT, M6, e1, e2, e3, e4, e5⟩ := id tr
 exact pM hC LO e1 e2 (T'.hasType (by decide)) (wI I.i7 hC hit.2) (k _ fun _ _ z => z)
inductive ly (X : Cx) : List ExceptHandler -> List B3 -> Prop
 | nil : ly X [] []
 | cons {cl : Expr} {n : Option Str} {b0 : Stmt} {rK : List Stmt} {pos : Pos} {hs : List ExceptHandler} {hit : Addr -> Bool -> Prop} {i : Option Nat} {ts : Addr -> TS} {rs : List B3} (hc : Mw X cl hit) (hb : ∀ a, qK (X.hand a) (b0 :: rK) (ts a)) (hn : zN X n i) (r : ly X hs rs) :
  ly X (.ExceptHandler (some cl) n (b0 :: rK) pos :: hs) (⟨hit, i, ts⟩ :: rs)
def Dh (D : Ends) (σ : St) (C : Addr) (od : Option Addr) (H' : Hp) : List B3 -> Prop
 | [] => False
 | r :: rs => (r.hit C true /\ ∀ a, H' a = none -> r.ts a (Eu D r.i) (Cg σ r.i (some (.ref a))) (upd H' a (.ext (uZ a C od)))) \/ (r.hit C false /\ Dh D σ C od H' rs)
def D5 (tb : (St -> XK) -> TS) (rs : List B3) (te : TS) : TS := fun D σ H =>
 tb (fun σ' c od H' => ∃ C, c = .ref C /\ Dh D σ' C od H' rs) { D with nx := fun σ' H' => te D σ' H' } σ H
section
variable {X : Cx} {pins : List (Addr × Obj)} {σ : St} {H : Hp} {a C : Addr} {od : Option Addr} {Dn : Ends}
theorem sZ (hN : X.N.Nodup) (ha : H a = none) (fa : GO X pins a) {hs : List ExceptHandler} {rs : List B3} (ok : ly X hs rs) : ∀ (s : Shared) (T : Addr), Inv X pins σ H s -> vZ s.heap a T (.ref C) od -> H T = none -> GO X pins T -> Dh Dn σ C od H rs ->
 wpAny (model X.prog X.w) X.A (handleBy (.ref a) X.env hs) (SP X pins Dn) X.xe s := by
 induction ok with
 | nil => intro s T _ _ _ _ h; exact h.elim
 | @cons cl n b0 rK pos hs hit i ts rs hc hb hn r ih =>
   intro s T J tr hT fT h
   refine wpAny_handleBy_cons (codeAny_handlers_test ?_) (by intro q; cases q)
   rcases h with ⟨h1, GF⟩ | ⟨h1, h2⟩
   . refine hc a C T od pins σ H s _ _ true J tr h1 fun h3 k3 => ?_
     have J3 : Inv X pins σ H { s with heap := h3 } := J.kept (t' := s.toks) fun b u e => k3 b u e
     have A7 := tr.keeps k3
     have lay : ∀ h4, vZ h4 a T (.ref C) od -> (∀ b o, b ≠ T -> h3.get? b = some o -> h4.get? b = some o) -> Inv X pins σ (upd H a (.ext (uZ a C od))) { s with heap := h4 } := fun h4 En k4 => by
      have J4 : Inv X pins σ H { s with heap := h4 } := J3.lv (S := [T]) (t' := s.toks) ⟨fun b o _ n2 z => k4 b o (by simpa using n2) z, fun b o m z => ⟨o.slots, k4 b o (fun y => ?_) z⟩⟩ fun b hb => by
       have : b = T := by simpa using hb
       subst this
       exact ⟨hT, fT⟩
      . obtain ⟨NU, M5, O6, Ph, f1, f2, f3, f4, _, _, _, _, _, f5⟩ := id En
        exact J4.zb ha fa.1 fa.2.1 fa.2.2.1 fa.2.2.2 (uZ.ext ⟨NU, M5, f1, f2, f3, f4, f5⟩)
      . subst y
        obtain ⟨_, _, _, _, _, _, _, _, _, _, f7, f8, _⟩ := id A7
        obtain ⟨_, o', z', hn⟩ := J3.stack.mem m
        rw [f7] at z'
        cases z'
        exact hn _ f8
     cases n with
     | none =>
       cases i with
       | some _ => exact hn.elim
       | none =>
       refine codeAny_handlers_suite ?_
       refine ko (s := { s with heap := h3 }) A7 fun h4 En k4 => ?_
       refine wpAny_mono (hb a pins _ _ _ _ (lay h4 En k4).n6 (GF a ha)) (fun fl s7 q7 => ?_) (fun _ _ z => z.elim)
       cases fl with
       | next => obtain ⟨σ7, H7, J7, q8⟩ := q7; exact ⟨_, _, J7.om J.ok, q8⟩
       | brk => obtain ⟨σ7, H7, J7, q8⟩ := q7; exact ⟨_, _, J7.om J.ok, q8⟩
       | cont => obtain ⟨σ7, H7, J7, q8⟩ := q7; exact ⟨_, _, J7.om J.ok, q8⟩
       | ret u => obtain ⟨v, σ7, H7, J7, r7, q8⟩ := q7; exact ⟨v, _, _, J7.om J.ok, r7, q8⟩
     | some nn =>
       cases i with
       | none => exact hn.elim
       | some ii =>
       obtain ⟨hi, hk⟩ := hn
       refine codeAny_handlers_suite_as ?_
       refine ko (s := { s with heap := h3 }) A7 fun h4 En k4 => ?_
       refine p8 (X := X.hand a) (v := .ref a) (i := ii) (lay h4 En k4).n6 hN hi (.inl hk) rfl (fun s6 J6 => ?_) (.inr hk)
       refine wpAny_mono (hb a pins s6 _ _ _ J6 (GF a ha)) (fun fl s7 q7 => ?_) (fun _ _ z => z.elim)
       have core : ∀ {σ7 : St} {H7 : Hp}, Inv (X.hand a) pins σ7 H7 s7 -> (∀ s8, Inv X pins (σ7.set ii none) H7 s8 -> SP X pins Dn fl s8) -> wpAny (model X.prog X.w) X.A (do bindName X.env nn .none; unbindBehindTheSuite X.env nn pos) (fun _ s8 => SP X pins Dn fl s8) X.xe s7 := fun {σ7 H7} J7 fin => by
        have J8 := J7.om J.ok
        obtain ⟨m, FR, K5⟩ := J8.loc
        exact wpAny_nameGoes_keeps hk FR (by rw [J.ok.kind]; rfl) fun h8 v8 OA sb => fin _ (J8.gone hN hi K5 OA sb)
       cases fl with
       | next => obtain ⟨σ7, H7, J7, q8⟩ := q7; exact core J7 fun s8 J8 => ⟨_, _, J8, q8⟩
       | brk => obtain ⟨σ7, H7, J7, q8⟩ := q7; exact core J7 fun s8 J8 => ⟨_, _, J8, q8⟩
       | cont => obtain ⟨σ7, H7, J7, q8⟩ := q7; exact core J7 fun s8 J8 => ⟨_, _, J8, q8⟩
       | ret u => obtain ⟨v, σ7, H7, J7, r7, q8⟩ := q7; exact core J7 fun s8 J8 => ⟨v, _, _, J8, r7, q8⟩
   . refine hc a C T od pins σ H s _ _ false J tr h1 fun h3 k3 => ?_
     exact ih _ T (J.kept (t' := s.toks) fun b u e => k3 b u e) (tr.keeps k3) hT fT h2
end
theorem CL {X : Cx} {body orelse : List Stmt} {h0 : ExceptHandler} {hs : List ExceptHandler} {rs : List B3} {pos : Pos} {tb : (St -> XK) -> TS} {te : TS}
 (hb : ∀ (f : Value -> Shared -> Prop) (pn : List (Addr × Obj)) (E' : St -> XK), cW (Bb X.prog X.w) (X.pd f pn) E' -> qK (X.pd f pn) body (tb E')) (ho : qK X orelse te) (hh : ly X (h0 :: hs) rs)
 (hN : X.N.Nodup) (tm : X.stack = X.env :: X.outer) (hf : X.env.frame = some X.env.locals) (hex : X.ex = []) :
 PS X (.Try body (h0 :: hs) orelse [] pos) (D5 tb rs te) := by
 intro pins s σ H Dn I h
 refine wpAny_Try_except ?_
 refine wpAny_mono (hb (fun e s1 => wpAny (model X.prog X.w) X.A (noteFrame e X.env) (fun _ s2 => wpAny (model X.prog X.w) X.A (setFlight e none) (fun _ s3 => wpAny (model X.prog X.w) X.A (handleBy e X.env (h0 :: hs)) (SP X pins Dn) X.xe s3) X.xe s2) X.xe s1) (X.pn ++ pins) _ ?_ [] s σ H _ I.zK h) ?_ (fun e s1 z => z)
 . intro qk σ' H1 s1 e s2 I1 ⟨a, T, C, od, H', he, os, bare, un, bf, tr, na, nT, ha, hT, C', G1, GF⟩
   subst he
   cases G1
   have I2 := I1.qm (ch := []) os un bf bare (fun b z => nomatch z)
   have J := I2.gZ (pins := pins)
   have Jm := I1.gZ (pins := pins)
   have iz : ∀ {s' : Shared} {zu : St} {Jt : Hp}, Inv X pins zu Jt s' -> ∀ b, s'.heap.get? b = none -> GO X pins b := fun {s' zu Jt} I b z => by
    refine ⟨?_, fun y => ?_, fun x c e y => ?_, fun p hp y => ?_⟩
    . cases q : X.cH.heap.get? b with
      | none => rfl
      | some o =>
        obtain ⟨o2, z2⟩ := I.base.there b o q (by rw [hex]; intro y; cases y)
        rw [z] at z2
        cases z2
    . obtain ⟨m, ⟨o, _, _, ho, _⟩, _⟩ := I.loc
      rw [<- y, z] at ho
      cases ho
    . obtain ⟨v, o, ho, _⟩ := I.cell x c e
      rw [y, z] at ho
      cases ho
    . have ho := (I.pin p hp).1
      rw [y, z] at ho
      cases ho
   have fa := iz Jm a na
   have fT := iz Jm T nT
   show wpAny _ _ (noteFrame (.ref a) X.env) _ _ s2
   refine vg (base := X.base) (by rw [<- tm]; exact J.ok.frames) (by rw [<- tm]; exact J.stack) hf tr fun h3 T3 A7 GR lv => ?_
   have J3 : Inv X pins σ' H' { s2 with heap := h3 } := J.lv (S := [a, T]) (t' := s2.toks) (by rw [tm]; exact lv) fun b hb => by
    have : b = a \/ b = T := by simpa using hb
    rcases this with rfl | rfl
    . exact ⟨ha, fa⟩
    . exact ⟨hT, fT⟩
   have C5 : H' T3 = none /\ GO X pins T3 := by
    rcases GR with rfl | z
    . exact ⟨hT, fT⟩
    . exact ⟨J.bf.dead z, iz J _ z⟩
   exact sZ hN ha fa hh _ T3 J3 A7 C5.1 C5.2 GF
 . intro f s1 q
   cases f with
   | next => obtain ⟨σ7, H7, J7, q8⟩ := q; exact ho pins s1 σ7 H7 Dn J7.gZ q8
   | brk => obtain ⟨σ7, H7, J7, q8⟩ := q; exact ⟨σ7, H7, J7.gZ, q8⟩
   | cont => obtain ⟨σ7, H7, J7, q8⟩ := q; exact ⟨σ7, H7, J7.gZ, q8⟩
   | ret u => obtain ⟨v, σ7, H7, J7, r7, q8⟩ := q; exact ⟨v, σ7, H7, J7.gZ, r7, q8⟩
def yY (K : PySem.W.Frag) : List V -> Hp -> VK -> Prop := fun xs H Q => ∃ a c cv C od b, xs = [.ref a, c] /\ CD c cv /\ H a = some (.ext (uZ a C od)) /\ (∀ d, od = some d -> ∃ fs, H d = some (.xd fs)) /\ GJ K C /\ PySem.W.kitOne K (.ref C) cv = some b /\ Q (.bl b) H
theorem xU {X : Cx} : fN X (.builtin "isinstance") (yY X.K) := by
 intro pins s σ H xs us Q I r h
 obtain ⟨a, c, cv, C, od, b, rfl, hc, hH, hd, ty, e, q⟩ := h
 obtain ⟨u, w', rfl, r1, r2⟩ := vals2 r
 have ew : w' = cv := by cases hc <;> exact r2
 subst ew
 cases r1
 obtain ⟨⟨o, vs, z1, z2, z3, z4, _⟩, _⟩ := (show c6 X.prog X.w H s.heap a (.ext (uZ a C od)) from I.bf a _ hH)
 cases od with
 | none =>
   have J : InstAt s.heap a o C none := ⟨z1, z2, by unfold notCls; rw [z4], by rw [z3]; trivial⟩
   exact PySem.W.kia_one (zD ty) I.i7 J e (fun z => nomatch z) fun tk => ⟨.bl b, H, I.tok tk, rfl, q⟩
 | some d =>
   obtain ⟨fs, hf⟩ := hd d rfl
   obtain ⟨mA, ⟨o', es, ep, ho, _⟩, _⟩ := (show c6 X.prog X.w H s.heap d (.xd fs) from I.bf d _ hf)
   have J : InstAt s.heap a o C (some o') := ⟨z1, z2, by unfold notCls; rw [z4], by rw [z3]; exact ho⟩
   exact PySem.W.kia_one (zD ty) I.i7 J e (fun z => nomatch z) fun tk => ⟨.bl b, H, I.tok tk, rfl, q⟩
section
variable {σ : St} {H : Hp} {Q : VK} {D : Ends} {K : PySem.W.Frag} {C : Addr} {E : St -> XK}
theorem FC {tb : (St -> XK) -> TS} {rs : List B3} {te : TS} (h : tb (fun σ' c od H' => ∃ C, c = .ref C /\ Dh D σ' C od H' rs) { D with nx := fun σ' H' => te D σ' H' } σ H) : D5 tb rs te D σ H := h
theorem Fq {a C' : Addr} {b : Bool} (h1 : H a = some (.ext (uZ a C none))) (ty : GJ K C) (e : PySem.W.kitOne K (.ref C) (.ref C') = some b) (h : Q (.bl b) H) : yY K [.ref a, .ref C'] H Q := ⟨a, _, _, C, none, b, rfl, .ref _, h1, (fun _ z => by cases z), ty, e, h⟩
end
theorem lA {X : Cx} {K : PySem.W.Frag} (h : X.K = K) : fN X (.builtin "isinstance") (yY K) := h ▸ xU
theorem sL {X : Cx} : cW (Bb X.prog X.w) X (fun _ => E0) := fun _ _ _ _ _ _ _ ⟨_, _, _, _, _, _, _, _, _, _, _, _, _, _, _, h⟩ => h.elim
def GP (h : Heap) (a T : Addr) (c : Value) (od : Option Addr) : Prop := ∃ oe vs oT ts v, h.get? a = some oe /\ oe.cls = c /\ oe.dict = od /\ oe.data = .fields vs /\ vs[1]? = some (.ref T) /\ T ≠ a /\ h.get? T = some oT /\ oT.data = .fields ts /\ ts[3]? = some v /\ True
section
variable {M : Model} {A : Around} {E : Value -> Shared -> Prop} {s : Shared} {env : Env} {outer : List Env} {L a T : Addr} {c : Value} {od : Option Addr} {base : Heap} {Q : Unit -> Shared -> Prop}
theorem xE {oe : Obj} {vs : Array Value} {head : Value} {Er : Bool} (oz : A.frames = some (env :: outer)) (hl : s.heap.FunFrames base (env :: outer)) (hf : env.frame = some L) (he : s.heap.get? a = some oe) (zy : oe.dict = od) (hd : oe.data = .fields vs) (hsz : 1 < vs.size) (CU : True)
 (h : ∀ h' T', GP h' a T' oe.cls od -> s.heap.get? T' = none -> Lv (env :: outer) [a] s.heap h' -> Q () { s with heap := h' }) :
 wpAny M A (do let x <- frameOf env; let pl <- entryPlaceOf L Er; let b <- EntryCells.newEntry head x .none (rawInt L) .none pl; setField (.ref a) 1 b) Q E s := by
 have vw : a ∉ j5 (env :: outer) := fun m => by
  obtain ⟨_, o, ho, hn⟩ := hl.mem m
  rw [he] at ho
  cases ho
  exact hn vs hd
 refine wpAny_bind (wpAny_frameOf_fun oz hl hf fun h1 s1 => ?_)
 refine wpAny_bind (wpAny_entryPlaceOf fun pl k8 => ?_)
 unfold EntryCells.newEntry newFields
 refine wpAny_bind (wpAny_newObj_type ?_ (k8.sizeOk5 _ _ _ _ _))
 have e1 : h1.get? a = some oe := (s1.2.1 a vw).trans he
 let tb : Obj := { cls := .type "traceback", dict := none, data := .fields ([head, .ref L, .none, rawInt L, .none] ++ (if pl.isEmpty then List.replicate 6 Value.none else pl)).toArray }
 have e2 : (h1.push tb).get? a = some oe := Heap.get?_push_of_some _ e1
 refine wpAny_setField e2 hd hsz ?_
 have ya : h1.objs.size ≠ a := Ne.symm (Nat.ne_of_lt (Heap.lt_size e1))
 have d3 := Obj.data_mapFields hd (·.setIfInBounds 1 (Value.ref h1.objs.size))
 have e3 := Heap.get?_update_self (Obj.mapFields (·.setIfInBounds 1 (Value.ref h1.objs.size))) e2 (Obj.isFreed_of_fields d3)
 have t3 : ((h1.push tb).update a (Obj.mapFields (·.setIfInBounds 1 (Value.ref h1.objs.size)))).get? h1.objs.size = some tb := (Heap.get?_update_other _ _ (Ne.symm ya)).trans (Heap.get?_push_size h1 rfl)
 refine h _ h1.objs.size ?_ ?_ ?_
 . refine ⟨_, _, _, _, rawInt L, e3, Obj.cls_mapFields _ _, ?_, d3, by simp [hsz], ya, t3, rfl, by simp, trivial⟩
   obtain ⟨c0, d0, Fh, LR⟩ := oe
   cases Fh <;> first | exact zy | (cases hd)
 . cases q : s.heap.get? h1.objs.size with
   | none => rfl
   | some o =>
     obtain ⟨sl, z⟩ := s1.2.2 _ o q
     exact absurd (Heap.lt_size z) (Nat.lt_irrefl _)
 . have kp : ∀ b o, b ≠ a -> h1.get? b = some o -> ((h1.push tb).update a (Obj.mapFields (·.setIfInBounds 1 (Value.ref h1.objs.size)))).get? b = some o := fun b o hb q => by
    rw [Heap.get?_update_other _ _ (Ne.symm hb)]
    exact Heap.get?_push_of_some _ q
   refine ⟨fun b o n1 n2 q => kp b o (by simpa using n2) ((s1.2.1 b n1).trans q), fun b o m q => ?_⟩
   obtain ⟨sl, z⟩ := s1.2.2 b o q
   exact ⟨sl, kp b _ (fun z => vw (z ▸ m)) z⟩
theorem u3 (oz : A.frames = some (env :: outer)) (hl : s.heap.FunFrames base (env :: outer)) (hf : env.frame = some L) (ht : GP s.heap a T c od)
 (h : ∀ h' T', vZ h' a T' c od -> (T' = T \/ s.heap.get? T' = none) -> Lv (env :: outer) [a, T] s.heap h' -> Q () { s with heap := h' }) : wpAny M A (noteFrame (.ref a) env) (fun _ s' => wpAny M A (setFlight (.ref a) none) Q E s') E s := by
 obtain ⟨oe, vs, oT, ts, v, e1, rfl, e3, e4, e5, e6, e7, e8, e9, qM⟩ := ht
 unfold noteFrame
 simp only [hf]
 refine wpAny_bind (wpAny_field e1 e4 e5 ?_)
 rw [if_pos (show (Value.ref T != Value.none) = true from by simp)]
 refine wpAny_bind (wpAny_field e7 e8 e9 ?_)
 by_cases hv : (v == rawInt L) = true
 . rw [if_pos hv]
   have hz := (Array.getElem?_eq_some_iff.mp e9).1
   have tr : ∀ b, b ≠ T -> (s.heap.update T (Obj.mapFields (·.setIfInBounds 3 Value.none))).get? b = s.heap.get? b := fun b hb => Heap.get?_update_other _ _ (Ne.symm hb)
   refine wpAny_pure (wpAny_setFlight_none e1 e4 e5 e7 e8 hz (h _ T ⟨oe, vs, _, _, (tr a (Ne.symm e6)).trans e1, rfl, e3, e4, e5, e6, Heap.get?_update_self _ e7 (Obj.isFreed_of_fields (Obj.data_mapFields e8 _)), Obj.data_mapFields e8 _, by simp [hz], qM⟩ (.inl rfl) ⟨fun b o n1 n2 q => (tr b (by simp at n2; exact n2.2)).trans q, fun b o m q => ?_⟩))
   obtain ⟨_, o', q', hn⟩ := hl.mem m
   rw [q] at q'
   cases q'
   exact ⟨o.slots, (tr b (fun z => by rw [z, e7] at q; cases q; exact hn ts e8)).trans q⟩
 rw [if_neg hv]
 refine wpAny_bind (wpAny_setField e7 e8 (Array.getElem?_eq_some_iff.mp e9).1 ?_)
 have kQ : ∀ b, b ≠ T -> (s.heap.update T (Obj.mapFields (·.setIfInBounds 3 Value.none))).get? b = s.heap.get? b := fun b hb => Heap.get?_update_other _ _ (Ne.symm hb)
 have nT : ∀ b o, s.heap.get? b = some o -> (∀ vs, o.data ≠ .fields vs) -> b ≠ T := fun b o hb hn z => by
  rw [z, e7] at hb
  cases hb
  exact hn ts e8
 refine rj (s := { s with heap := s.heap.update T (Obj.mapFields (·.setIfInBounds 3 Value.none)) }) oz (hl.of_keeps fun b o hb hn => ⟨o, (kQ b (nT b o hb hn)).trans hb, rfl⟩) hf ((kQ a (Ne.symm e6)).trans e1) e3 e4 (Array.getElem?_eq_some_iff.mp e5).1 qM fun h' T' t1 t2 lv => h h' T' t1 ?_ ⟨fun b o n1 n2 q => ?_, fun b o m q => ?_⟩
 . by_cases z : T' = T
   . exact .inl z
   . exact .inr ((kQ T' z).symm.trans t2)
 . have : b ≠ a /\ b ≠ T := by simpa using n2
   exact lv.keep b o n1 (by simpa using this.1) ((kQ b this.2).trans q)
 . obtain ⟨_, o', q', hn⟩ := hl.mem m
   rw [q] at q'
   cases q'
   exact lv.slot b o m ((kQ b (nT b o q hn)).trans q)
theorem uI {oe : Obj} {vs : Array Value} (oz : A.frames = some (env :: outer)) (hl : s.heap.FunFrames base (env :: outer)) (hf : env.frame = some L) (he : s.heap.get? a = some oe) (zy : oe.dict = od) (hd : oe.data = .fields vs) (h1 : vs[1]? = some .none)
 (h : ∀ h' T', GP h' a T' oe.cls od -> s.heap.get? T' = none -> Lv (env :: outer) [a] s.heap h' -> Q () { s with heap := h' }) : wpAny M A (noteFrame (.ref a) env) Q E s := by
 unfold noteFrame
 simp only [hf]
 refine wpAny_bind (wpAny_field he hd h1 ?_)
 rw [if_neg (by decide)]
 exact xE oz hl hf he zy hd (Array.getElem?_eq_some_iff.mp h1).1 trivial h
theorem IZ (ht : GP s.heap a T c od) (h : ∀ h', GP h' a T c od -> (∀ b o, b ≠ T -> s.heap.get? b = some o -> h'.get? b = some o) -> E (.ref a) { s with heap := h' }) : cameBackBy M A env E (.ref a) s := by
 obtain ⟨oe, vs, oT, ts, v, e1, rfl, e3, e4, e5, e6, e7, e8, e9, qM⟩ := ht
 have hz := (Array.getElem?_eq_some_iff.mp e9).1
 unfold cameBackBy
 refine wpAny_bind (wpAny_field e1 e4 e5 ?_)
 rw [if_neg (show ¬ ((Value.ref T == Value.none) = true) from by simp)]
 unfold setFlight
 refine wpAny_bind (wpAny_field e1 e4 e5 ?_)
 rw [if_pos (show (Value.ref T != Value.none) = true from by simp)]
 refine wpAny_setField e7 e8 hz (h _ ⟨oe, vs, _, _, _, (Heap.get?_update_other _ _ e6).trans e1, rfl, e3, e4, e5, e6, Heap.get?_update_self _ e7 (Obj.isFreed_of_fields (Obj.data_mapFields e8 _)), Obj.data_mapFields e8 _, by simp [hz]; rfl, qM⟩ fun b o hb q => (Heap.get?_update_other _ _ (Ne.symm hb)).trans q)
end
theorem uO.w {h : Heap} {a T : Addr} {c : Value} {od : Option Addr} (t : uO h a T c od) : vZ h a T c od := let ⟨oe, vs, oT, ts, e1, e2, e3, e4, e5, e6, e7, e8, e9, _⟩ := t; ⟨oe, vs, oT, ts, e1, e2, e3, e4, e5, e6, e7, e8, e9, trivial⟩
def Eg (X : Cx) (E : XK) : Prop := ∀ (pins : List (Addr × Obj)) (σ : St) (H : Hp) (s : Shared) (a T C : Addr) (od : Option Addr), Inv X pins σ H s -> GP s.heap a T (.ref C) od -> X.cH.heap.get? a = none -> X.cH.heap.get? T = none -> H a = none -> H T = none -> E (.ref C) od H -> X.xe (.ref a) s
section
variable {P : Program} {w : World} {K : PySem.W.Frag} {mg : Str -> Option Value} {base : Heap} {N : List Str} {qual : Str} {scope : Scope} {f : Addr} {cd : Value} {A : Around} {outer : List Env} {s0 : Shared} {H0 : Hp} {E : XK}
theorem IV : Eg (gC (Bb P w) P w K mg base N qual scope f cd A outer s0 H0 E) E := by
 intro pins σ H s a T C od I tr na nT ha hT hE
 show wpAny _ _ (leaving _ (.ref a)) _ _ s
 refine wpAny_bind (u3 (base := base) I.ok.frames I.stack rfl tr fun h2 T2 A8 xi lv => ?_)
 have d' : s.heap.get? T2 = none -> s0.heap.get? T2 = none := fun z => by
  cases q : s0.heap.get? T2 with
  | none => rfl
  | some o =>
    obtain ⟨o2, z2⟩ := I.base.there T2 o q (by intro y; cases y)
    rw [z] at z2
    cases z2
 refine uB I lv (fun b hb => ?_) A8 ha ?_ na ?_ hE
 . have : b = a \/ b = T := by simpa using hb
   rcases this with rfl | rfl
   . exact ⟨ha, na⟩
   . exact ⟨hT, nT⟩
 . rcases xi with rfl | z
   . exact hT
   . exact I.bf.dead z
 . rcases xi with rfl | z
   . exact nT
   . exact d' z
theorem AK : cW (nN P w) (gC (Bb P w) P w K mg base N qual scope f cd A outer s0 H0 E) (fun _ => E) := by
 intro pins σ H s e s' I ⟨a, T, C, od, H', he, os, bare, un, bf, tr, na, nT, ha, hT, hE⟩
 subst he
 have I' := I.qm (ch := []) os un bf bare (fun b z => nomatch z)
 have dead : ∀ b, s.heap.get? b = none -> s0.heap.get? b = none := fun b z => by
  cases q : s0.heap.get? b with
  | none => rfl
  | some o =>
    obtain ⟨o2, z2⟩ := I.base.there b o q (by intro y; cases y)
    rw [z] at z2
    cases z2
 show wpAny _ _ (leaving _ (.ref a)) _ _ s'
 refine wpAny_bind (lu (base := base) I'.ok.frames I'.stack rfl tr fun h2 T2 A8 xi lv => ?_)
 have d' : s'.heap.get? T2 = none -> s0.heap.get? T2 = none := fun z => by
  cases q : s0.heap.get? T2 with
  | none => rfl
  | some o =>
    obtain ⟨o2, z2⟩ := I'.base.there T2 o q (by intro y; cases y)
    rw [z] at z2
    cases z2
 refine uB I' lv (fun b hb => ?_) A8.w ha ?_ (dead a na) ?_ hE
 . have : b = a \/ b = T := by simpa using hb
   rcases this with rfl | rfl
   . exact ⟨ha, dead _ na⟩
   . exact ⟨hT, dead _ nT⟩
 . rcases xi with rfl | z
   . exact hT
   . exact I'.bf.dead z
 . rcases xi with rfl | z
   . exact dead _ nT
   . exact d' z
end
def DV (tb : (St -> XK) -> TS) (hit : Addr -> Bool -> Prop) (ta : TA) (CN : Addr) (EX : XK) : TS := fun D σ H =>
 tb (fun σ' c od H' => ∃ C, c = .ref C /\ hit C true /\ ∀ a, H' a = none -> ta σ' (upd H' a (.ext (vC a C od))) fun vs H1 => vs.length <= sizeLine /\ H1 a = some (.ext (vC a C od)) /\ EX (.ref CN) none H1) D σ H
theorem BG {X : Cx} {body : List Stmt} {cl ex : Expr} {x : Str} {kx : Nat} {np df kp Hl sy pos : Pos} {hit : Addr -> Bool -> Prop} {tb : (St -> XK) -> TS} {ta : TA} {CN : Addr} {EX : XK}
 (hb : ∀ (f : Value -> Shared -> Prop) (pn : List (Addr × Obj)) (E' : St -> XK), cW (nN X.prog X.w) (X.pd f pn) E' -> qK (X.pd f pn) body (tb E')) (hc : LW X cl hit) (Oq : ∀ a, PA (X.hand a) [ex] ta) (hP : Eg X EX) (hg : Gl X x) (hm : X.mg x = some (.ref CN)) (hq : pS X.K CN)
 (hN : X.N.Nodup) (tm : X.stack = X.env :: X.outer) (hf : X.env.frame = some X.env.locals) (hex : X.ex = [])
 (Oo : starEach [ex] X.env = (false, eval ex X.env) :: starEach [] X.env := by rfl) (lq : (backTo df (starEach [ex] X.env)).any (·.1) = false := by rfl) (ph : (x == ("__debug__" : Str)) = false := by decide) :
 PS X (.Try body [.ExceptHandler (some cl) none [.Raise (some (.Call (.Name x np) [ex] [] df)) (some (.Constant .none kx kp)) Hl] sy] [] [] pos) (DV tb hit ta CN EX) := by
 intro pins s σ H Dn I h
 refine wpAny_Try_except ?_
 refine wpAny_mono (hb (fun e s1 => wpAny (model X.prog X.w) X.A (noteFrame e X.env) (fun _ s2 => wpAny (model X.prog X.w) X.A (setFlight e none) (fun _ s3 => wpAny (model X.prog X.w) X.A (handleBy e X.env [.ExceptHandler (some cl) none [.Raise (some (.Call (.Name x np) [ex] [] df)) (some (.Constant .none kx kp)) Hl] sy]) (SP X pins Dn) X.xe s3) X.xe s2) X.xe s1) (X.pn ++ pins) _ ?_ [] s σ H _ I.zK h) ?_ (fun e s1 z => z)
 . intro qk σ' H1 s1 e s2 I1 ⟨a, T, C, od, H', he, os, bare, un, bf, tr, na, nT, ha, hT, C', G1, KD, GF⟩
   subst he
   cases G1
   have I2 := I1.qm (ch := []) os un bf bare (fun b z => nomatch z)
   have J := I2.gZ (pins := pins)
   have Jm := I1.gZ (pins := pins)
   have iz : ∀ {s' : Shared} {zu : St} {Jt : Hp}, Inv X pins zu Jt s' -> ∀ b, s'.heap.get? b = none -> GO X pins b := fun {s' zu Jt} I b z => by
    refine ⟨?_, fun y => ?_, fun x c e y => ?_, fun p hp y => ?_⟩
    . cases q : X.cH.heap.get? b with
      | none => rfl
      | some o =>
        obtain ⟨o2, z2⟩ := I.base.there b o q (by rw [hex]; intro y; cases y)
        rw [z] at z2
        cases z2
    . obtain ⟨m, ⟨o, _, _, ho, _⟩, _⟩ := I.loc
      rw [<- y, z] at ho
      cases ho
    . obtain ⟨v, o, ho, _⟩ := I.cell x c e
      rw [y, z] at ho
      cases ho
    . have ho := (I.pin p hp).1
      rw [y, z] at ho
      cases ho
   have fa := iz Jm a na
   have fT := iz Jm T nT
   show wpAny _ _ (noteFrame (.ref a) X.env) _ _ s2
   refine lu (base := X.base) (by rw [<- tm]; exact J.ok.frames) (by rw [<- tm]; exact J.stack) hf tr fun h3 T3 A7 GR lv => ?_
   have J3 : Inv X pins σ' H' { s2 with heap := h3 } := J.lv (S := [a, T]) (t' := s2.toks) (by rw [tm]; exact lv) fun b hb => by
    have : b = a \/ b = T := by simpa using hb
    rcases this with rfl | rfl
    . exact ⟨ha, fa⟩
    . exact ⟨hT, fT⟩
   have C5 : H' T3 = none /\ GO X pins T3 := by
    rcases GR with rfl | z
    . exact ⟨hT, fT⟩
    . exact ⟨J.bf.dead z, iz J _ z⟩
   refine wpAny_handleBy_cons (codeAny_handlers_test ?_) (by intro q; cases q)
   refine hc a C T3 od pins σ' H' _ _ _ true J3 A7 KD fun h5 k5 => ?_
   have J5 : Inv X pins σ' H' { s2 with heap := h5 } := J3.kept (t' := s2.toks) fun b u e => k5 b u e
   have JZ := A7.keeps k5
   refine codeAny_handlers_suite ?_
   refine qR (s := { s2 with heap := h5 }) JZ fun h6 Ng k6 => ?_
   have J6 : Inv X pins σ' H' { s2 with heap := h6 } := J5.lv (S := [T3]) (t' := s2.toks) ⟨fun b o _ n2 z => k6 b o (by simpa using n2) z, fun b o m z => ⟨o.slots, k6 b o (fun y => by
    subst y
    obtain ⟨_, _, _, _, _, _, _, _, _, _, f7, f8, _⟩ := id JZ
    obtain ⟨_, o', z', hn⟩ := J5.stack.mem m
    rw [f7] at z'
    cases z'
    exact hn _ f8) z⟩⟩ fun b hb => by
    have : b = T3 := by simpa using hb
    subst this
    exact C5
   obtain ⟨Ot, Nu, OY, OT, f1, f2, f3, f4, _, _, _, _, _, f5⟩ := id Ng
   have J7 := J6.zb ha fa.1 fa.2.1 fa.2.2.1 fa.2.2.2 (vC.ext ⟨Ot, Nu, f1, f2, f3, f4, f5⟩)
   refine wpAny_execs_cons ?_
   obtain ⟨bm, N, nm, q, bs, hd, sn, sub, ab, col, dd, k0, k1, k2, k3, Ov, mN, hC, NT, DW, TT⟩ := vK J7.mod.A3 hq
   refine qU (C := CN) (nm := nm) (q := q) (N := N) (bs := bs) (bm := bm) (hdct := hd) (sn := sn) (sub := sub) (ab := ab) (col := col) (dd := dd) (k0 := k0) (k1 := k1) (k2 := k2) (k3 := k3) (k5 := Ov) (mN := mN) (hd := a) PySem.F.excBase_ValueError (TT.hasType (by decide)) rfl lq DW ?_
   refine eu (X := X.hand a) J7.n6 hg hm ?_ ph
   refine ⟨rfl, ?_⟩
   have hA := Oq a df pins _ σ' _ _ J7.n6 (GF a ha)
   rw [Oo] at hA ⊢
   refine Calls.evalArgs_plain (wpAny_mono hA (fun us s8 ⟨vs, H8, OJ, r8, MP, Og, OB⟩ => ?_) fun _ _ z => z.elim)
   have I8 := OJ.om J7.ok
   rw [r8.length] at MP
   obtain ⟨⟨oa, va, g1, g2, g3, g4, g5⟩, _⟩ := (show c6 X.prog X.w H8 s8.heap a (.ext (vC a C od)) from I8.bf a _ Og)
   refine ⟨rfl, MP, I8.bk _ _ hC, NT.at' fun o e => I8.bk _ _ e, TT.keeps I8.bk, ⟨oa, va, g1, g4, g5⟩, fun h9 e9 t9 Eh k9 NV => ?_⟩
   have I9 : Inv X pins σ' H8 { s8 with heap := h9 } := I8.kept (t' := s8.toks) fun b u e => k9 b u e
   show wpAny (model X.prog X.w) (X.A.mark (some (.ref a))) (noteFrame (.ref e9) X.env) (fun _ s => cameBackBy (model X.prog X.w) X.A X.env X.xe (.ref e9) s) _ _
   refine uI (base := X.base) (s := { s8 with heap := h9 }) (by rw [<- tm]; exact I9.ok.frames) (by rw [<- tm]; exact I9.stack) hf NV rfl rfl rfl fun h10 JA HN LV LX => ?_
   have f9 := iz I8 e9 Eh
   have MQ : Inv X pins σ' H8 { s8 with heap := h10 } := I9.lv (S := [e9]) (t' := s8.toks) (by rw [tm]; exact LX) fun b hb => by
    have : b = e9 := by simpa using hb
    subst this
    exact ⟨I8.bf.dead Eh, f9⟩
   have Ml := iz I9 JA LV
   refine IZ (s := { s8 with heap := h10 }) HN fun h11 Lr MA => ?_
   have Nh : Inv X pins σ' H8 { s8 with heap := h11 } := MQ.lv (S := [JA]) (t' := s8.toks) ⟨fun b o _ n2 z => MA b o (by simpa using n2) z, fun b o m z => ⟨o.slots, MA b o (fun y => by
    subst y
    obtain ⟨_, _, _, _, _, _, _, _, _, _, _, f7, f8, _⟩ := id HN
    obtain ⟨_, o', z', hn⟩ := MQ.stack.mem m
    rw [f7] at z'
    cases z'
    exact hn _ f8) z⟩⟩ fun b hb => by
    have : b = JA := by simpa using hb
    subst this
    exact ⟨I9.bf.dead LV, Ml⟩
   exact hP pins σ' H8 _ e9 JA CN none Nh Lr f9.1 Ml.1 (I8.bf.dead Eh) (I9.bf.dead LV) OB
 . intro f s1 q
   cases f with
   | next => obtain ⟨σ7, H7, J7, q8⟩ := q; exact wpAny_execs_nil ⟨σ7, H7, J7.gZ, q8⟩
   | brk => obtain ⟨σ7, H7, J7, q8⟩ := q; exact ⟨σ7, H7, J7.gZ, q8⟩
   | cont => obtain ⟨σ7, H7, J7, q8⟩ := q; exact ⟨σ7, H7, J7.gZ, q8⟩
   | ret u => obtain ⟨v, σ7, H7, J7, r7, q8⟩ := q; exact ⟨v, σ7, H7, J7.gZ, r7, q8⟩
def FE (y : Str) : V -> Hp -> VK -> Prop := fun v H Q => ∃ x, v = .str x /\ x.length <= 1000 /\ y.length <= 1000 /\ ∀ z, Q (.str z) H
def Jc (te : TE) (y : Str) : TE := fun σ H Q => te σ H fun v H1 => FE y v H1 Q
theorem y6 {X : Cx} {e : Expr} {te : TE} {y : Str} {k : Nat} {p1 p2 pos : Pos} (he : PE X e te) : PE X (.JoinedStr [.FormattedValue e (-1) none p1, .Constant (.str y) k p2] pos) (Jc te y) := by
 intro pins s σ H Q I h
 refine wpAny_JoinedStr ?_
 show wpAny _ _ (eval (.FormattedValue e (-1) none p1) X.env) _ _ s
 refine PySem.wpAny_FormattedValue_plain (bO (he pins s σ H _ I h) fun v s1 ⟨w, H1, I1, r1, x, e, hl, hy, q⟩ => ?_)
 subst e
 obtain ⟨t, rfl⟩ := r1
 have e0 : (Str.empty ++ x).length = x.length := by rw [strLen_append]; show 0 + _ = _; omega
 refine formatField_str (fun t' tk => ⟨x, t', rfl, small (m := 1000) (by rw [e0]; exact hl), ?_⟩) (small hl)
 show wpAny _ _ (eval (.Constant (.str y) k p2) X.env) _ _ _
 refine Calls.Constant_str ⟨y, _, rfl, ?_, ?_, ?_⟩
 . exact small (m := 2000) (by rw [strLen_append, e0]; omega)
 . exact small (m := 2000) (by rw [strLen_append, e0]; omega)
 . exact ⟨.str _, H1, (I1.tok _).tok _, ⟨_, rfl⟩, q _⟩
section
variable {σ : St} {H : Hp} {Q : VK}
theorem IU {te : TE} {y : Str} (h : te σ H fun v H1 => FE y v H1 Q) : Jc te y σ H Q := h
theorem F5 {x y : Str} (h1 : x.length <= 1000) (h2 : y.length <= 1000) (h : ∀ z, Q (.str z) H) : FE y (.str x) H Q := ⟨x, rfl, h1, h2, h⟩
end
theorem pF {X : Cx} {k : Nat} {f C : Addr} {ps : List Str} {sp : Sp} {cU : List V} {E : St -> XK} {x m : Str} {p pos apos : Pos} {e : Expr} {es : List Expr} {t : TA} {pl : Sem Bool}
 (hg : Gl X x) (hm : X.mg x = some (.ref C)) (B : zR X.K C m f) (c : lM X.prog X.w X.K X.mg X.base k f ps cU sp) (hr : c5 k X.A) (hx : cW (nN X.prog X.w) X E) (ha : PA X (e :: es) t)
 (ph : (x == ("__debug__" : Str)) = false := by decide)
 (tm : starEach (e :: es) X.env = (false, eval e X.env) :: starEach es X.env := by rfl) (k8 : (backTo pos (starEach es X.env)).any (·.1) = false := by rfl)
 (ht : eval (.Call (.Attribute (.Name x p) m apos) (e :: es) [] pos) X.env = (do
  let ov <- eval (.Name x p) X.env
  standAt apos.atName
  let (f, first) <- holding [ov] (getMethod ov m pl)
  callWith pos f first (backTo pos (starEach (e :: es) X.env)) (backToKw pos (keywordEach [] X.env))) := by rfl) :
 PE X (.Call (.Attribute (.Name x p) m apos) (e :: es) [] pos) (sN sp cU E t) := by
 obtain ⟨fd, ds, F, hb, hd⟩ := c.ex
 intro pins s σ H Q I h
 refine PySem.W.methodCall_KW (pl := pl) (eu I hg hm ?_ ph) ht
 refine PySem.W.method_cls I.i7 B.ga ?_
 refine PySem.W.cls_value I.i7 B.rd B.fd rfl ?_
 have I' : Inv X pins σ H { s with toks := s.toks + 1 } := I.tok _
 refine PySem.W.callWith_K (first := []) (h₀ := X.base) I.ok.mod.A3 B.kp (bO (ha pos pins _ σ H _ I' h) fun us s2 ⟨vs, H2, I2, r, q2⟩ => ⟨I2.i7, ?_⟩) tm k8
 exact sj F hr hb hd hx I2 r (fQ.out q2)
end L2
set_option maxHeartbeats 4000000
namespace My
open PySem L2
def num (c : Int) : Int := if c % 3 = 0 then c / 3 % 7 else if c % 3 = 1 then c / 3 % 1000 else c / 3 % 10 ^ 39
def qw : List V -> List (Str × V)
 | [f, .cq] => [("many", .int 1), ("first", f), ("last", f)]
 | [f, l] => [("many", .int 1), ("first", f), ("last", l)]
 | _ => []
def qy : List V -> List (Str × V)
 | [st, sp, wd, m] => [("many", m), ("start", st), ("step", sp), ("wide", wd)]
 | _ => []
def fV : List V -> List (Str × V)
 | [st, gp, wd, m] => [("many", m), ("start", st), ("gap", gp), ("wide", wd)]
 | _ => []
def fw : List V -> List (Str × V)
 | [st, gp, mo, wd, m] => [("many", m), ("start", st), ("gap", gp), ("wide", wd), ("most", mo)]
 | _ => []
inductive Wk (R : Int -> Int -> Int × Int) (now : Int) : Int -> Int -> Int -> Int -> Int -> Int -> Prop where
 | here {num x y : Int} (h : now < y) : Wk R now num x y num x y
 | next {num x y k x' y' : Int} (h : y <= now) (w : Wk R now (num + 1) (R num y).1 (R num y).2 k x' y') : Wk R now num x y k x' y'
theorem Wk.inj {R : Int -> Int -> Int × Int} {now num x y k x' y' k2 x2 y2 : Int} (h : Wk R now num x y k x' y') (g : Wk R now num x y k2 x2 y2) : k = k2 /\ x' = x2 /\ y' = y2 := by
 induction h with
 | here h =>
   cases g with
   | here _ => exact ⟨rfl, rfl, rfl⟩
   | next h2 _ => omega
 | next h _ ih =>
   cases g with
   | here h2 => omega
   | next _ w => exact ih w
local macro_rules | `(tactic| walk_at "same") => `(tactic| first
 | exact ao.refl _
 | assumption
 | (refine' ao.trans ?m ?s; (case s => assumption); (case m => walk_at "same")))
local macro_rules | `(tactic| walk_at "at") => `(tactic| first
 | assumption
 | exact aO
 | (refine' ao.at ?s ?m; (case s => assumption); (case m => walk_at "at")))
local macro_rules | `(tactic| walk_at "dat") => `(tactic| first
 | exact Dv.int _
 | exact Dv.cq
 | exact Dv.bl _
 | exact Dv.str _
 | assumption
 | (refine' Dv.keeps ?s ?m; (case s => assumption); (case m => walk_at "dat")))
local macro_rules | `(tactic| walk_at "ins") => `(tactic| first
 | assumption
 | (refine' tj.keeps ?s ?m; (case s => assumption); (case m => walk_at "ins")))
local macro_rules | `(tactic| walk_at "dats") => `(tactic| first
 | exact cj.nil
 | (refine' cj.cons ?m ?s; (case m => walk_at "dat"); (case s => walk_at "dats"))
 | assumption
 | (refine' cj.keeps ?s ?m; (case s => assumption); (case m => walk_at "dats")))
local macro_rules | `(tactic| walk_at "sql") => `(tactic| first
 | assumption
 | (refine' ao.seq ?s ?m; (case s => assumption); (case m => walk_at "sql")))
local macro_rules | `(tactic| walk_at "isq") => `(tactic| first
 | (refine' Or.inl ?m; case m => walk_at "dat")
 | (refine' Or.inr ?m; case m => walk_at "dat"))
set_option hygiene false in
local macro_rules | `(tactic| walk_at "side") => `(tactic| first
 | omega
 | assumption
 | exact (by decide)
 | exact Hy (by omega) (by omega)
 | exact ⟨by decide, by decide, by decide⟩)
set_option hygiene false in
local macro_rules | `(tactic| walk_at "use") => `(tactic| fail)
set_option hygiene false in
local macro_rules | `(tactic| walk_at "lk") => `(tactic| fail)
set_option hygiene false in
local macro_rules | `(tactic| walk_at "put") => `(tactic| fail)
set_option hygiene false in
local macro_rules | `(tactic| walk_at "fin") => `(tactic| fail)
set_option hygiene false in
local macro_rules | `(tactic| walk_at "wds") => `(tactic| first
 | with_reducible refine vN (ws := [_]) rfl ?_
 | with_reducible refine vN (ws := [_, _]) rfl ?_
 | with_reducible refine vN (ws := [_, _, _]) rfl ?_
 | with_reducible refine vN (ws := [_, _, _, _]) rfl ?_
 | with_reducible refine vN (ws := [_, _, _, _, _]) rfl ?_
 | with_reducible refine vN (ws := [_, _, _, _, _, _]) rfl ?_
 | with_reducible refine vN (ws := []) rfl ?_)
set_option hygiene false in
local macro_rules | `(tactic| walk_at "mks") => `(tactic| first
 | fail)
local macro_rules | `(tactic| walk_at "br") => `(tactic| ((with_reducible refine HX (fun hb => ?_) (fun hb => ?_)) <;> (try simp only [id, decide_eq_true_eq, decide_eq_false_iff_not, Bool.not_eq_true', Bool.not_eq_false', Bool.not_true, Bool.not_false, V.int.injEq, Bool.true_eq_false, Bool.false_eq_true, reduceCtorEq, decide_true, decide_false, not_true, not_false_iff, PyData.eqv, PyData.eqvAll, Bool.and_eq_true, Bool.and_eq_false_iff, Bool.or_eq_true, Bool.or_eq_false_iff, beq_iff_eq, beq_eq_false_iff_ne, ne_eq, bne_iff_ne, Bool.and_true, Bool.and_false, Bool.and_self, beq_self_eq_true, isInt, isBool, isStr, HL, isTup, Js, List.length_cons, List.length_nil] at hb) <;> (try (exfalso; omega)) <;> (try (exfalso; (refine' KG hb ?d); (case d => walk_at "dat")))))
local macro_rules | `(tactic| walk_at "rd1") => `(tactic| first
 | with_reducible refine Fv ?_
 | with_reducible refine Jx ?_
 | with_reducible refine Jy ?_
 | with_reducible refine FX ?_
 | with_reducible refine IK ?_
 | ((with_reducible refine' D3 ?e ?_); case e => exact rfl)
 | with_reducible refine Oc ?_
 | with_reducible refine KA ?_
 | with_reducible refine LD ?_
 | with_reducible refine LU ?_
 | ((with_reducible refine' Gf ?e1 ?e2 ?_); (case e1 => exact ⟨by decide, by decide, by decide⟩); (case e2 => ((conv => lhs; simp only [Int.reduceToNat]) <;> exact rfl)))
 | ((with_reducible refine' M0 ?e ?_); case e => walk_at "side")
 | with_reducible refine Oh ?_
 | with_reducible refine EZ ?_
 | with_reducible refine HG ?_
 | with_reducible refine CG ?_
 | with_reducible refine LA ?_
 | with_reducible refine F2 ?_
 | with_reducible refine HQ ?_
 | with_reducible refine Ko ?_
 | with_reducible refine IJ ?_
 | with_reducible refine F7 ?_
 | with_reducible refine Ia ?_
 | with_reducible refine EW ?_
 | with_reducible refine Hb ?_
 | with_reducible refine Kg ?_
 | with_reducible refine Fs ?_
 | with_reducible refine zM ?_
 | with_reducible refine yc ?_
 | walk_at "br"
 | with_reducible refine GA ?_
 | ((with_reducible refine' GZ ?e ?_); case e => exact rfl)
 | ((with_reducible refine' DI ?e1 ?e2 ?e3 ?e4 ?e5 ?_); (case e1 => walk_at "dat"); (case e2 => walk_at "dat"); (case e3 => first | rfl | assumption); (case e4 => first | rfl | assumption); (case e5 => first | exact Nat.le_of_ble_eq_true rfl | assumption))
 | ((with_reducible refine' k7 ?e1 ?e2 ?_); (case e1 => walk_at "isq"); (case e2 => exact rfl))
 | ((with_reducible refine' zS ?e ?_); case e => walk_at "isq")
 | ((with_reducible refine' FW ?e ?_); case e => walk_at "sql")
 | ((with_reducible refine' Ei ?e1 ?e2 ?_); (case e1 => omega); (case e2 => omega))
 | ((with_reducible refine' EK ?e (fun _ _ => ?_)); case e => walk_at "side")
 | with_reducible refine Kn ?_
 | with_reducible refine Et ?_
 | ((with_reducible refine' BW ?e1 ?e2 ?e3 ?e4 ?e5 ?_); (case e1 => walk_at "at"); (case e2 => assumption); (case e3 => assumption); (case e4 => exact BK rfl); (case e5 => walk_at "put"))
 | ((with_reducible refine' EJ ?e1 ?e2 ?e3 ?e4 ?_); (case e1 => walk_at "ins"); (case e2 => assumption); (case e3 => assumption); (case e4 => walk_at "lk"))
 | ((with_reducible refine' xq ?e1 ?e2 ?_); (case e1 => walk_at "ins"); (case e2 => walk_at "lk"))
 | ((with_reducible refine' xO ?e ?_); case e => walk_at "dat")
 | ((with_reducible refine' vB ?e ?_); case e => walk_at "dat")
 | ((with_reducible refine' xx ?e ?_); case e => walk_at "dat")
 | with_reducible refine Bz ?_
 | with_reducible refine BE ?_
 | with_reducible refine Cw ?_
 | with_reducible refine F6 ?_
 | ((with_reducible refine' Gb ?e1 ?e2 (fun _ _ _ _ => ?_)); (case e1 => exact uz rfl); (case e2 => walk_at "dats"))
 | with_reducible refine Ga ?_
 | ((with_reducible refine' ED ?e1 ?e2 (fun _ _ _ _ _ _ _ => ?_)); (case e1 => exact uz rfl); (case e2 => walk_at "dats"))
 | with_reducible refine G3 ?_
 | with_reducible refine wG ?_
 | ((with_reducible refine wB ?_); (with_reducible refine wG ?_); ((with_reducible refine' D3 ?e ?_); case e => exact rfl); ((with_reducible refine' xq ?e1 ?e2 ?_); (case e1 => walk_at "ins"); (case e2 => walk_at "lk")))
 | with_reducible refine oJ ?_
 | with_reducible refine FZ ?_
 | with_reducible refine xr (fun _ _ => ?_)
 | walk_at "wds"
 | walk_at "mks"
 | walk_at "use"
 | walk_at "fin")
local macro_rules | `(tactic| walk_at "lat") => `(tactic| first
 | assumption
 | (refine' dk.keeps ?s ?m; (case s => assumption); (case m => walk_at "lat"))
 | (refine' dk.mv ?s ?n ?m; (case s => assumption); (case n => walk_at "nin"); (case m => walk_at "lat"))
 | fail)
local macro_rules | `(tactic| walk_at "nin") => `(tactic| first
 | (refine' z6 ?n1; (case n1 => walk_at "ne"))
 | fail)
local macro_rules | `(tactic| walk_at "ne") => `(tactic| first
 | assumption
 | (refine Ne.symm ?_; assumption)
 | (refine' dk.ne ?h ?n; (case n => assumption); (case h => walk_at "lat"))
 | (refine' Ne.symm (dk.ne ?h ?n); (case n => assumption); (case h => walk_at "lat"))
 | fail)
local macro_rules | `(tactic| walk_at "dla") => `(tactic| first
 | assumption
 | (refine' JX.keeps ?s ?m; (case s => assumption); (case m => walk_at "dla"))
 | (refine' JX.mv ?s ?n ?m; (case s => assumption); (case n => walk_at "nin"); (case m => walk_at "dla"))
 | fail)
local macro_rules | `(tactic| walk_at "ne") => `(tactic| first
 | (refine' JX.ne ?h ?n; (case n => assumption); (case h => walk_at "dla"))
 | (refine' Ne.symm (JX.ne ?h ?n); (case n => assumption); (case h => walk_at "dla"))
 | fail)
local macro_rules | `(tactic| walk_at "imm") => `(tactic| first
 | rfl
 | assumption
 | exact lE (fun _ => rfl) _
 | (refine' dk.GU ?h; (case h => assumption))
 | fail)
local macro_rules | `(tactic| walk_at "dm") => `(tactic| first
 | exact fun _ h => h
 | (refine' zI ?a ?b; (case b => first | (refine' ao.N9 ?c; (case c => assumption)) | (refine' Mv.dm ?c; (case c => assumption)) | fail); (case a => walk_at "dm"))
 | fail)
local macro_rules | `(tactic| walk_at "none") => `(tactic| first
 | assumption
 | (refine' Ff ?s ?m; (case m => assumption); (case s => walk_at "dm"))
 | fail)
local macro_rules | `(tactic| walk_at "same") => `(tactic| first
 | (refine' Mv.Du ?s ?m ?n; (case m => assumption); (case s => walk_at "same"); (case n => walk_at "none"))
 | fail)
local macro_rules | `(tactic| walk_at "mv") => `(tactic| first
 | exact Mv.refl
 | assumption
 | (refine' Mv.step ?m ?s ?h; (case s => assumption); (case m => walk_at "mv"); (case h => walk_at "ours"))
 | fail)
set_option hygiene false in
local macro_rules | `(tactic| walk_at "ours") => `(tactic| first
 | fail)
local macro_rules | `(tactic| walk_at "dat") => `(tactic| first
 | (refine' dk.dv ?m; (case m => walk_at "lat"))
 | fail)
local macro_rules | `(tactic| walk_at "dats") => `(tactic| first
 | (refine' Mv.AX ?s ?i ?m; (case s => assumption); (case i => walk_at "imm"); (case m => walk_at "dats"))
 | fail)
set_option hygiene false in
local macro_rules | `(tactic| walk_at "len") => `(tactic| first
 | (simp only [List.length_map, List.length_append, List.length_cons, List.length_nil]; omega)
 | omega
 | fail)
local macro_rules | `(tactic| walk_at "rd1") => `(tactic| first
 | with_reducible refine CQ ?_
 | with_reducible refine EY ?_
 | with_reducible refine FQ ?_
 | with_reducible refine FP ?_
 | ((with_reducible refine' HC ?e ?_); case e => walk_at "dat")
 | ((with_reducible refine' Df ?e ?_); case e => walk_at "len")
 | with_reducible refine BL ?_
 | with_reducible refine Dl ?_
 | with_reducible refine LC ?_
 | with_reducible refine Jp ?_
 | ((with_reducible refine' Ju ?e ?_); case e => walk_at "lat")
 | ((with_reducible refine' Jw ?e1 ?e2 ?e3 ?e4 (fun _ _ _ => ?_)); (case e1 => walk_at "lat"); (case e3 => walk_at "dat"); (case e2 => walk_at "len"); (case e4 => walk_at "imm"))
 | ((with_reducible refine' vm ?e1 ?e2 ?e3 (fun _ _ _ _ _ => ?_)); (case e1 => exact uz rfl); (case e2 => walk_at "dats"); (case e3 => exact rfl))
 | with_reducible refine K8 ?_
 | with_reducible refine E8 ?_
 | with_reducible refine A1 ?_
 | with_reducible refine Cr ?_
 | with_reducible refine Ih ?_
 | ((with_reducible refine' E4 ?e ?e2 ?_); (case e => walk_at "dat"); (case e2 => simp))
 | ((with_reducible refine' AV ?e ?_); case e => walk_at "dat")
 | ((with_reducible refine' FD ?e ?_); case e => walk_at "dat")
 | ((with_reducible refine' k7 ?e1 ?e2 ?_); (case e1 => walk_at "isq"); (case e2 => first | exact GN | (refine' Aq ?a ?b; (case a => omega); (case b => walk_at "len")) | fail))
 | fail)
local macro_rules | `(tactic| walk_at "rd1") => `(tactic| first
 | with_reducible refine HU ?_
 | ((with_reducible refine' sS ?e1 ?e2 ?_); (case e1 => walk_at "dat"); (case e2 => walk_at "jn"))
 | ((with_reducible refine' Jd ?e1 (fun _ _ _ => ?_)); (case e1 => walk_at "lat"))
 | ((with_reducible refine' sE _ ?e1 (fun _ _ _ _ _ => ?_)); (case e1 => walk_at "lat"))
 | ((with_reducible refine' AW _ ?e1 (fun _ _ _ _ _ => ?_)); (case e1 => walk_at "lat"))
 | ((with_reducible refine' z9 ?e1 ?e2 ?e3 (fun _ _ _ _ _ => ?_)); (case e1 => walk_at "lat"); (case e2 => walk_at "lat"); (case e3 => walk_at "len"))
 | fail)
set_option hygiene false in
local macro_rules | `(tactic| walk_at "rd1") => `(tactic| first
 | fail)
local macro_rules | `(tactic| walk_at "rd1") => `(tactic| first
 | with_reducible refine zx ?_
 | with_reducible refine Ab ?_
 | ((with_reducible refine' Jj ?e1 ?_); (case e1 => walk_at "len"))
 | ((with_reducible refine' Fp ?e1 ?e2 ?_); (case e1 => assumption); (case e2 => walk_at "len"))
 | ((with_reducible refine' E5 ?e1 ?e2 ?e3 (fun _ _ _ => ?_)); (case e1 => exact rfl); (case e2 => omega); (case e3 => omega))
 | fail)
set_option hygiene false in
local macro_rules | `(tactic| walk_at "rd1") => `(tactic| first
 | with_reducible refine C2 ?_
 | with_reducible refine Ct ?_
 | with_reducible refine Ah ?_
 | fail)
local macro_rules | `(tactic| walk_at "rd1") => `(tactic| first
 | with_reducible refine IU ?_
 | ((with_reducible refine' F5 ?e1 ?e2 (fun _ => ?_)); (case e1 => first | assumption | decide +kernel); (case e2 => decide +kernel))
 | fail)
def top (i : Nat) : Stmt := PySem.Challenge.pw_wakefew_k74_words_that_are_no_rule.main.body.getD i (.Pass ⟨0, 0, 0, 0⟩)
set_option hygiene false in
local macro_rules | `(tactic| walk_at "scp") => `(tactic| exact ⟨rfl, rfl, rfl, by decide +kernel, rfl, by decide +kernel, by decide +kernel⟩)
abbrev lF : Stmt := top 7
theorem tK : aH ["thing"] ["thing"] (ak lF) := by walk_at "scp"
abbrev nQ : Stmt := top 8
theorem iN : aH ["number", "piece", "parts"] ["number"] (ak nQ) := by walk_at "scp"
abbrev iD : Stmt := top 10
theorem qS : aH ["number", "least", "what"] ["number", "least", "what"] (ak iD) := by walk_at "scp"
abbrev n8 : Stmt := top 11
theorem vG : aH ["number"] ["number"] (ak n8) := by walk_at "scp"
abbrev mR : Stmt := top 12
theorem xT : aH ["kind", "numbers"] ["kind", "numbers"] (ak mR) := by walk_at "scp"
abbrev eJ : Stmt := inClass (top 13) 0
theorem og : aH ["self", "many"] ["self", "many"] (ak eJ) := by walk_at "scp"
abbrev eX : Stmt := inClass (top 14) 0
theorem gK : aH ["self", "first", "last"] ["self", "first", "last"] (ak eX) := by walk_at "scp"
abbrev ie : Stmt := inClass (top 14) 4
theorem qT : aH ["self"] ["self"] (ak ie) := by walk_at "scp"
abbrev eM : Stmt := inClass (top 15) 0
theorem nV : aH ["self", "start", "step", "wide", "many"] ["self", "start", "step", "wide", "many"] (ak eM) := by walk_at "scp"
abbrev ig : Stmt := inClass (top 15) 5
theorem qV : aH ["self"] ["self"] (ak ig) := by walk_at "scp"
abbrev dO : Stmt := inClass (top 16) 0
theorem lx : aH ["self", "start", "gap", "wide", "many"] ["self", "start", "gap", "wide", "many"] (ak dO) := by walk_at "scp"
abbrev fG : Stmt := inClass (top 16) 6
theorem o9 : aH ["self"] ["self"] (ak fG) := by walk_at "scp"
abbrev dC : Stmt := inClass (top 17) 0
theorem j4 : aH ["self", "start", "gap", "most", "wide", "many"] ["self", "start", "gap", "most", "wide", "many"] (ak dC) := by walk_at "scp"
abbrev eR : Stmt := inClass (top 17) 3
theorem oA : aH ["self"] ["self"] (ak eR) := by walk_at "scp"
abbrev qh : Stmt := top 22
theorem ye : aH ["good"] ["good"] (ak qh) := by walk_at "scp"
abbrev gb : Stmt := top 23
theorem mO : aH ["text", "row"] ["text"] (ak gb) := by walk_at "scp"
abbrev iu : Stmt := top 24
theorem qN : aH ["text"] ["text"] (ak iu) := by walk_at "scp"
abbrev jx : Stmt := top 25
theorem sJ : aH ["word"] ["word"] (ak jx) := by walk_at "scp"
abbrev dR : Stmt := top 26
theorem kz : aH ["words", "kind"] ["words"] (ak dR) := by walk_at "scp"
abbrev jr : Stmt := top 27
theorem sT : aH ["kind", "numbers"] ["kind", "numbers"] (ak jr) := by walk_at "scp"
abbrev jl : Stmt := top 28
theorem fm : aH ["text", "kind", "numbers"] ["text"] (ak jl) := by walk_at "scp"
abbrev fE : Stmt := top 30
theorem o8 : aH ["_law_script", "_law_k"] ["_law_script", "_law_k"] (ak fE) := by walk_at "scp"
abbrev gE : Stmt := top 31
theorem qJ : aH ["_law_cell"] ["_law_cell"] (ak gE) := by walk_at "scp"
abbrev iG : Stmt := top 32
theorem cS : aH ["_law_script", "_law_kind", "_law_start", "_law_gap", "_law_wide", "_law_many"] ["_law_script"] (ak iG) := by walk_at "scp"
abbrev fy : Stmt := top 33
theorem du : aH ["_law_words_here", "_law_cell", "_law_place", "_law_odd", "_law_word"] ["_law_words_here", "_law_cell"] (ak fy) := by walk_at "scp"
abbrev iR : Stmt := top 34
theorem kP : aH ["_law_word", "_law_sign"] ["_law_word"] (ak iR) := by walk_at "scp"
abbrev fU : Stmt := top 35
theorem iQ : aH ["_law_text", "_law_words_here", "_law_numbers"] ["_law_text"] (ak fU) := by walk_at "scp"
abbrev ft : Stmt := top 36
theorem je : aH ["_law_thing", "e"] ["_law_thing"] (ak ft) := by walk_at "scp"
abbrev AH : Stmt := top 37
theorem oy : aH ["_law_script", "_law_words_here", "_law_text", "_law_other"] ["_law_script"] (ak AH) := by walk_at "scp"
abbrev a9 : List (Str × Int) := [("once", 2), ("each", 4), ("behind", 4), ("slowing", 5)]
theorem kF : ¬ (("many" : Str) = "first") := by decide +kernel
theorem mZ : ¬ (("many" : Str) = "last") := by decide +kernel
theorem kB : ¬ (("first" : Str) = "many") := by decide +kernel
theorem kl : ¬ (("first" : Str) = "last") := by decide +kernel
theorem nz : ¬ (("last" : Str) = "many") := by decide +kernel
theorem kD : ¬ (("last" : Str) = "first") := by decide +kernel
theorem hU : ¬ (("__init__" : Str) = "many") := by decide +kernel
theorem gy : ¬ (("__init__" : Str) = "first") := by decide +kernel
theorem g8 : ¬ (("__init__" : Str) = "last") := by decide +kernel
theorem kH : ¬ (("begin" : Str) = "many") := by decide +kernel
theorem jo : ¬ (("begin" : Str) = "first") := by decide +kernel
theorem kL : ¬ (("begin" : Str) = "last") := by decide +kernel
theorem jF : ¬ (("follow" : Str) = "many") := by decide +kernel
theorem iT : ¬ (("follow" : Str) = "first") := by decide +kernel
theorem jA : ¬ (("follow" : Str) = "last") := by decide +kernel
theorem jN : ¬ (("let_by" : Str) = "many") := by decide +kernel
theorem jb : ¬ (("let_by" : Str) = "first") := by decide +kernel
theorem jj : ¬ (("let_by" : Str) = "last") := by decide +kernel
theorem km : ¬ (("words" : Str) = "many") := by decide +kernel
theorem jz : ¬ (("words" : Str) = "first") := by decide +kernel
theorem kR : ¬ (("words" : Str) = "last") := by decide +kernel
theorem nH : ¬ (("twin" : Str) = "many") := by decide +kernel
theorem kn : ¬ (("twin" : Str) = "first") := by decide +kernel
theorem md : ¬ (("twin" : Str) = "last") := by decide +kernel
theorem hZ : ¬ (("place_of" : Str) = "many") := by decide +kernel
theorem gx : ¬ (("place_of" : Str) = "first") := by decide +kernel
theorem g7 : ¬ (("place_of" : Str) = "last") := by decide +kernel
theorem ka : ¬ (("many" : Str) = "start") := by decide +kernel
theorem mx : ¬ (("many" : Str) = "step") := by decide +kernel
theorem mF : ¬ (("many" : Str) = "wide") := by decide +kernel
theorem j9 : ¬ (("start" : Str) = "many") := by decide +kernel
theorem lg : ¬ (("start" : Str) = "step") := by decide +kernel
theorem ki : ¬ (("start" : Str) = "wide") := by decide +kernel
theorem mr : ¬ (("step" : Str) = "many") := by decide +kernel
theorem ku : ¬ (("step" : Str) = "start") := by decide +kernel
theorem mW : ¬ (("step" : Str) = "wide") := by decide +kernel
theorem mM : ¬ (("wide" : Str) = "many") := by decide +kernel
theorem kU : ¬ (("wide" : Str) = "start") := by decide +kernel
theorem me : ¬ (("wide" : Str) = "step") := by decide +kernel
theorem fY : ¬ (("__init__" : Str) = "start") := by decide +kernel
theorem gO : ¬ (("__init__" : Str) = "step") := by decide +kernel
theorem gT : ¬ (("__init__" : Str) = "wide") := by decide +kernel
theorem fu : ¬ (("stretch_of" : Str) = "many") := by decide +kernel
theorem eZ : ¬ (("stretch_of" : Str) = "start") := by decide +kernel
theorem fB : ¬ (("stretch_of" : Str) = "step") := by decide +kernel
theorem fJ : ¬ (("stretch_of" : Str) = "wide") := by decide +kernel
theorem jM : ¬ (("begin" : Str) = "start") := by decide +kernel
theorem kY : ¬ (("begin" : Str) = "step") := by decide +kernel
theorem kN : ¬ (("begin" : Str) = "wide") := by decide +kernel
theorem iX : ¬ (("follow" : Str) = "start") := by decide +kernel
theorem jB : ¬ (("follow" : Str) = "step") := by decide +kernel
theorem jE : ¬ (("follow" : Str) = "wide") := by decide +kernel
theorem iY : ¬ (("let_by" : Str) = "start") := by decide +kernel
theorem jw : ¬ (("let_by" : Str) = "step") := by decide +kernel
theorem jK : ¬ (("let_by" : Str) = "wide") := by decide +kernel
theorem jm : ¬ (("words" : Str) = "start") := by decide +kernel
theorem lb : ¬ (("words" : Str) = "step") := by decide +kernel
theorem kM : ¬ (("words" : Str) = "wide") := by decide +kernel
theorem kZ : ¬ (("twin" : Str) = "start") := by decide +kernel
theorem nF : ¬ (("twin" : Str) = "step") := by decide +kernel
theorem lZ : ¬ (("twin" : Str) = "wide") := by decide +kernel
theorem fO : ¬ (("place_of" : Str) = "start") := by decide +kernel
theorem hJ : ¬ (("place_of" : Str) = "step") := by decide +kernel
theorem gS : ¬ (("place_of" : Str) = "wide") := by decide +kernel
theorem oB : ¬ (("many" : Str) = "gap") := by decide +kernel
theorem mz : ¬ (("start" : Str) = "gap") := by decide +kernel
theorem oG : ¬ (("gap" : Str) = "many") := by decide +kernel
theorem mJ : ¬ (("gap" : Str) = "start") := by decide +kernel
theorem oM : ¬ (("gap" : Str) = "wide") := by decide +kernel
theorem oH : ¬ (("wide" : Str) = "gap") := by decide +kernel
theorem i5 : ¬ (("__init__" : Str) = "gap") := by decide +kernel
theorem gg : ¬ (("gap_ahead" : Str) = "many") := by decide +kernel
theorem fD : ¬ (("gap_ahead" : Str) = "start") := by decide +kernel
theorem gR : ¬ (("gap_ahead" : Str) = "gap") := by decide +kernel
theorem f6 : ¬ (("gap_ahead" : Str) = "wide") := by decide +kernel
theorem lS : ¬ (("begin" : Str) = "gap") := by decide +kernel
theorem kr : ¬ (("follow" : Str) = "gap") := by decide +kernel
theorem kG : ¬ (("let_by" : Str) = "gap") := by decide +kernel
theorem mC : ¬ (("leap" : Str) = "many") := by decide +kernel
theorem kj : ¬ (("leap" : Str) = "start") := by decide +kernel
theorem oU : ¬ (("leap" : Str) = "gap") := by decide +kernel
theorem mV : ¬ (("leap" : Str) = "wide") := by decide +kernel
theorem m6 : ¬ (("words" : Str) = "gap") := by decide +kernel
theorem oN : ¬ (("twin" : Str) = "gap") := by decide +kernel
theorem jf : ¬ (("place_of" : Str) = "gap") := by decide +kernel
theorem mX : ¬ (("many" : Str) = "most") := by decide +kernel
theorem kg : ¬ (("start" : Str) = "most") := by decide +kernel
theorem oO : ¬ (("gap" : Str) = "most") := by decide +kernel
theorem mI : ¬ (("wide" : Str) = "most") := by decide +kernel
theorem mw : ¬ (("most" : Str) = "many") := by decide +kernel
theorem kT : ¬ (("most" : Str) = "start") := by decide +kernel
theorem oE : ¬ (("most" : Str) = "gap") := by decide +kernel
theorem mU : ¬ (("most" : Str) = "wide") := by decide +kernel
theorem gU : ¬ (("__init__" : Str) = "most") := by decide +kernel
theorem gm : ¬ (("gap_ahead" : Str) = "most") := by decide +kernel
theorem jt : ¬ (("let_by" : Str) = "most") := by decide +kernel
theorem kA : ¬ (("words" : Str) = "most") := by decide +kernel
theorem nr : ¬ (("twin" : Str) = "most") := by decide +kernel
theorem la : ¬ (("begin" : Str) = "most") := by decide +kernel
theorem jS : ¬ (("follow" : Str) = "most") := by decide +kernel
theorem lW : ¬ (("leap" : Str) = "most") := by decide +kernel
theorem gX : ¬ (("place_of" : Str) = "most") := by decide +kernel
set_option hygiene false in
local macro_rules | `(tactic| walk_at "lk") => `(tactic| first
 | assumption
 | (rw [oK]; ((conv => lhs; simp only [look, reduceIte, qw, qy, fV, fw, kF, mZ, kB, kl, nz, kD, hU, gy, g8, kH, jo, kL, jF, iT, jA, jN, jb, jj, km, jz, kR, nH, kn, md, hZ, gx, g7, ka, mx, mF, j9, lg, ki, mr, ku, mW, mM, kU, me, fY, gO, gT, fu, eZ, fB, fJ, jM, kY, kN, iX, jB, jE, iY, jw, jK, jm, lb, kM, kZ, nF, lZ, fO, hJ, gS, oB, mz, oG, mJ, oM, oH, i5, gg, fD, gR, f6, lS, kr, kG, mC, kj, oU, mV, m6, oN, jf, mX, kg, oO, mI, mw, kT, oE, mU, gU, gm, jt, kA, nr, la, jS, lW, gX]) <;> exact rfl)))
set_option hygiene false in
local macro_rules | `(tactic| walk_at "put") => `(tactic| ((conv => lhs; simp only [gI, reduceIte, qw, qy, fV, fw, kF, mZ, kB, kl, nz, kD, hU, gy, g8, kH, jo, kL, jF, iT, jA, jN, jb, jj, km, jz, kR, nH, kn, md, hZ, gx, g7, ka, mx, mF, j9, lg, ki, mr, ku, mW, mM, kU, me, fY, gO, gT, fu, eZ, fB, fJ, jM, kY, kN, iX, jB, jE, iY, jw, jK, jm, lb, kM, kZ, nF, lZ, fO, hJ, gS, oB, mz, oG, mJ, oM, oH, i5, gg, fD, gR, f6, lS, kr, kG, mC, kj, oU, mV, m6, oN, jf, mX, kg, oO, mI, mw, kT, oE, mU, gU, gm, jt, kA, nr, la, jS, lW, gX]) <;> exact rfl))
structure gJ (K : PySem.W.Frag) (x q : Str) (s : Stmt) (d : Value) (f : Addr) : Prop where
 a : PySem.W.nsIn K mainGlobals x = some (some (.ref f))
 l : ∃ fd, cy K x q s f d fd
 k : PySem.W.keepIn K (.ref f) = true
structure s9 (K : PySem.W.Frag) (C : Addr) (x q : Str) (s : Stmt) (d : Value) (f : Addr) : Prop where
 a : PySem.W.findIn K (.ref C) x = some (some (.ref f))
 l : ∃ fd, cy K x q s f d fd
 k : PySem.W.keepIn K (.ref f) = true
 i : PySem.W.isFn K (.ref f) = true
structure C1 (K : PySem.W.Frag) (C : Addr) : Prop where
 pg : PySem.W.plainGet K C Str.empty = true
 hd : PySem.W.hasDictIn K C = true
 po : PySem.W.plainOver K C = true
 sa : PySem.W.findIn K (.ref C) "__setattr__" = some (some (.builtin "object.__setattr__"))
 t1 : PySem.W.findIn K (.ref C) "__class__" = some (some (.builtin "object.__class__"))
 t2 : PySem.W.mroIn K C (.type "object") = some true
 t3 : PySem.W.typeIn K (.ref C) = some (.type "type")
theorem Cq {K : PySem.W.Frag} {t : Addr} {xs : Array Value} {n : Nat} {d : Option Addr} {z : Array (Option Value)} {c : Value} (l : K.lookup t = some ⟨c, d, .seq xs n, z⟩) : sM K t xs := ⟨⟨_, _, l, rfl⟩⟩
set_option genSizeOf false in
set_option genInjectivity false in
structure Ad where
 cE : Addr
 oQ : FuncData
 dH : Addr
 qp : FuncData
 bZ : Addr
 lj : FuncData
 dI : Addr
 pO : FuncData
 eF : Addr
 rN : FuncData
 a7 : Addr
 gN : FuncData
 bB : Addr
 ec : FuncData
 bI : Addr
 cF : Addr
 kI : FuncData
 bz : Addr
 d9 : FuncData
 bK : Addr
 cK : Tok
 cG : Addr
 lh : FuncData
 aI : Addr
 dG : FuncData
 bb : Addr
 bX : Tok
 bN : Addr
 jc : FuncData
 aS : Addr
 dj : FuncData
 aZ : Addr
 bQ : Tok
 bA : Addr
 gM : FuncData
 eE : Addr
 rL : FuncData
 cA : Addr
 mL : FuncData
 bU : Addr
 kX : FuncData
 cD : Addr
 lU : FuncData
 bT : Addr
 kC : FuncData
 cB : Addr
 nA : FuncData
 cC : Addr
 ny : FuncData
 bj : Addr
 i6 : FuncData
 bG : Addr
 ju : FuncData
 bY : Addr
 kJ : FuncData
 bp : Addr
 iZ : FuncData
 bS : Addr
 ky : FuncData
 cz : Addr
 mq : FuncData
 bq : Addr
 iV : FuncData
 ll : Addr
 sq : FuncData
 iH : Addr
 bF : Addr
 bo : Addr
 aD : Addr
 aw : Addr
 eB : Addr
 av : Addr
 aq : Addr
 bH : Addr
 gs : Tok
 dg : Tok
 bJ : Addr
structure Txt (K : PySem.W.Frag) (mg : Str -> Option Value) (a : Ad) : Prop where
 lQ : cy K "is_whole" "is_whole" lF a.cE (.none) a.oQ
 oR : PySem.W.keepIn K (.ref a.cE) = true
 oC : mg "is_whole" = some (.ref a.cE)
 oi : cy K "figures" "figures" nQ a.dH (.none) a.qp
 pL : PySem.W.keepIn K (.ref a.dH) = true
 p0 : mg "figures" = some (.ref a.dH)
 ip : cy K "check_from" "check_from" iD a.bZ (.none) a.lj
 aQ : PySem.W.keepIn K (.ref a.bZ) = true
 aR : mg "check_from" = some (.ref a.bZ)
 nP : cy K "word_of" "word_of" n8 a.dI (.none) a.pO
 pT : PySem.W.keepIn K (.ref a.dI) = true
 qc : mg "word_of" = some (.ref a.dI)
 qe : cy K "row_of" "row_of" mR a.eF (.none) a.rN
 gH : PySem.W.keepIn K (.ref a.eF) = true
 g9 : mg "row_of" = some (.ref a.eF)
 eO : cy K "__init__" "Rule.__init__" eJ a.a7 (.none) a.gN
 eV : cy K "__init__" "Once.__init__" eX a.bB (.ref a.bI) a.ec
 iU : sM K a.bI #[.none]
 iO : cy K "words" "Once.words" ie a.cF (.none) a.kI
 eQ : cy K "__init__" "Each.__init__" eM a.bz (.ref a.bK) a.d9
 i9 : sM K a.bK #[(.int 0 a.cK), .none]
 ia : cy K "words" "Each.words" ig a.cG (.none) a.lh
 d6 : cy K "__init__" "Behind.__init__" dO a.aI (.ref a.bb) a.dG
 fX : sM K a.bb #[(.int 0 a.bX), .none]
 fC : cy K "words" "Behind.words" fG a.bN (.none) a.jc
 dF : cy K "__init__" "Slowing.__init__" dC a.aS (.ref a.aZ) a.dj
 fH : sM K a.aZ #[(.int 0 a.bQ), .none]
 eT : cy K "words" "Slowing.words" eR a.bA (.none) a.gM
 p7 : cy K "demand" "demand" qh a.eE (.none) a.rL
 jV : PySem.W.keepIn K (.ref a.eE) = true
 jY : mg "demand" = some (.ref a.eE)
 jC : cy K "is_number" "is_number" gb a.cA (.none) a.mL
 lY : PySem.W.keepIn K (.ref a.cA) = true
 lT : mg "is_number" = some (.ref a.cA)
 iq : cy K "read_whole" "read_whole" iu a.bU (.none) a.kX
 eo : PySem.W.keepIn K (.ref a.bU) = true
 eC : mg "read_whole" = some (.ref a.bU)
 jy : cy K "read_many" "read_many" jx a.cD (.none) a.lU
 ng : PySem.W.keepIn K (.ref a.cD) = true
 ml : mg "read_many" = some (.ref a.cD)
 iw : cy K "split_rule" "split_rule" dR a.bT (.none) a.kC
 kK : PySem.W.keepIn K (.ref a.bT) = true
 kW : mg "split_rule" = some (.ref a.bT)
 jO : cy K "make_rule" "make_rule" jr a.cB (.none) a.nA
 mP : PySem.W.keepIn K (.ref a.cB) = true
 nK : mg "make_rule" = some (.ref a.cB)
 jP : cy K "read_rule" "read_rule" jl a.cC (.none) a.ny
 da : PySem.W.keepIn K (.ref a.cC) = true
 dc : mg "read_rule" = some (.ref a.cC)
 fA : cy K "_law_cell_at" "_law_cell_at" fE a.bj (.none) a.i6
 aA : PySem.W.keepIn K (.ref a.bj) = true
 az : mg "_law_cell_at" = some (.ref a.bj)
 gB : cy K "_law_number" "_law_number" gE a.bG (.none) a.ju
 bL : PySem.W.keepIn K (.ref a.bG) = true
 bM : mg "_law_number" = some (.ref a.bG)
 iI : cy K "_law_words" "_law_words" iG a.bY (.none) a.kJ
 ke : PySem.W.keepIn K (.ref a.bY) = true
 kE : mg "_law_words" = some (.ref a.bY)
 fx : cy K "_law_changed" "_law_changed" fy a.bp (.none) a.iZ
 eI : PySem.W.keepIn K (.ref a.bp) = true
 eY : mg "_law_changed" = some (.ref a.bp)
 iL : cy K "_law_value" "_law_value" iR a.bS (.none) a.ky
 kO : PySem.W.keepIn K (.ref a.bS) = true
 kq : mg "_law_value" = some (.ref a.bS)
 jD : cy K "_law_good" "_law_good" fU a.cz (.none) a.mq
 nD : PySem.W.keepIn K (.ref a.cz) = true
 nu : mg "_law_good" = some (.ref a.cz)
 fF : cy K "_law_refused" "_law_refused" ft a.bq (.none) a.iV
 eP : PySem.W.keepIn K (.ref a.bq) = true
 eK : mg "_law_refused" = some (.ref a.bq)
 Ae : cy K "law" "law" AH a.ll (.none) a.sq
 Av : mg "law" = some (.ref a.ll)
 pz : mg "Rule" = some (.ref a.iH)
 wm : mg "Once" = some (.ref a.bF)
 ez : pw K a.bF
 fq : aJ K a.bF "many"
 dr : aJ K a.bF "first"
 dQ : aJ K a.bF "last"
 An : Mk K a.bF a.bB
 iB : Meth K a.bF "words" a.cF
 wz : mg "Each" = some (.ref a.bo)
 et : pw K a.bo
 d7 : aJ K a.bo "many"
 dq : aJ K a.bo "start"
 dS : aJ K a.bo "step"
 dX : aJ K a.bo "wide"
 zv : Mk K a.bo a.bz
 ik : Meth K a.bo "words" a.cG
 nX : mg "Behind" = some (.ref a.aD)
 cT : pw K a.aD
 cX : aJ K a.aD "many"
 cO : aJ K a.aD "start"
 dn : aJ K a.aD "gap"
 c4 : aJ K a.aD "wide"
 tR : Mk K a.aD a.aI
 fz : Meth K a.aD "words" a.bN
 pX : mg "Slowing" = some (.ref a.aw)
 cb : pw K a.aw
 cM : aJ K a.aw "many"
 cx : aJ K a.aw "start"
 cZ : aJ K a.aw "gap"
 cN : aJ K a.aw "wide"
 cR : aJ K a.aw "most"
 rD : Mk K a.aw a.aS
 eS : Meth K a.aw "words" a.bA
 t8 : mg "NoRow" = some (.ref a.eB)
 gQ : mg "NoRule" = some (.ref a.av)
 gW : pS K a.av
 j1 : mg "NoText" = some (.ref a.aq)
 hV : pS K a.aq
 nB : mg "WakeError" = some (.ref a.bH)
 gi : pS K a.bH
 gY : PySem.W.mroIn K a.av (.ref a.av) = some true
 rm : GJ K a.aq
 dy : PySem.W.kitOne K (.ref a.aq) (.ref a.eB) = some false
 de : PySem.W.kitOne K (.ref a.aq) (.ref a.av) = some false
 c9 : PySem.W.kitOne K (.ref a.aq) (.ref a.aq) = some true
 fb : PySem.W.mroIn K a.aq (.ref a.bH) = some true
 gv : zR K a.aD "__init__" a.aI
 dw : zR K a.iH "__init__" a.a7
 qx : mg "FIGURES" = some (.str "0123456789" a.gs)
 iW : mg "MOST_FIGURES" = some (.int 60 a.dg)
 ic : mg "LENGTHS" = some (.ref a.bJ)
 sD : mg "all" = none
 pJ : mg "bool" = none
 nR : mg "int" = none
 aX : mg "isinstance" = none
 dZ : mg "len" = none
 si : mg "min" = none
 cJ : mg "str" = none
theorem ER {K : PySem.W.Frag} {h : Heap} {mg : Str -> Option Value} {cE dH bZ dI eF a7 bB bI cF bz bK cG aI bb bN aS aZ bA eE cA bU cD bT cB cC bj bG bY bp bS cz bq ll iH bF bo aD aw eB av aq bH bJ : Addr} {cK bX bQ gs dg : Tok}  (X : K.In h) (G : h.Ns mainGlobals mg)
 (Cj : PySem.W.nsIn K mainGlobals "Rule" = some (some (.ref iH)))
 (Cu : PySem.W.nsIn K mainGlobals "Once" = some (some (.ref bF)))
 (BX : PySem.W.nsIn K mainGlobals "Each" = some (some (.ref bo)))
 (xK : PySem.W.nsIn K mainGlobals "Behind" = some (some (.ref aD)))
 (vn : PySem.W.nsIn K mainGlobals "Slowing" = some (some (.ref aw)))
 (AU : PySem.W.nsIn K mainGlobals "NoRow" = some (some (.ref eB)))
 (xQ : PySem.W.nsIn K mainGlobals "NoRule" = some (some (.ref av)))
 (yf : PySem.W.nsIn K mainGlobals "NoText" = some (some (.ref aq)))
 (sY : PySem.W.nsIn K mainGlobals "WakeError" = some (some (.ref bH)))
 (OH : PySem.W.specialIn K (.builtin "object.__class__") "__get__" = some (some (.builtin "getset_descriptor.__get__")))
 (Ny : PySem.W.takesIn K (.builtin "object.__class__") = some true)
 (iK : gJ K "is_whole" "is_whole" lF (.none) cE)
 (jX : gJ K "figures" "figures" nQ (.none) dH)
 (fh : gJ K "check_from" "check_from" iD (.none) bZ)
 (jZ : gJ K "word_of" "word_of" n8 (.none) dI)
 (nq : gJ K "row_of" "row_of" mR (.none) eF)
 (eU : s9 K iH "__init__" "Rule.__init__" eJ (.none) a7)
 (dz : s9 K bF "__init__" "Once.__init__" eX (.ref bI) bB)
 (pe : sM K bI #[.none])
 (dP : s9 K bF "words" "Once.words" ie (.none) cF)
 (dA : s9 K bo "__init__" "Each.__init__" eM (.ref bK) bz)
 (oX : sM K bK #[(.int 0 cK), .none])
 (dW : s9 K bo "words" "Each.words" ig (.none) cG)
 (bR : s9 K aD "__init__" "Behind.__init__" dO (.ref bb) aI)
 (mS : sM K bb #[(.int 0 bX), .none])
 (cY : s9 K aD "words" "Behind.words" fG (.none) bN)
 (cI : s9 K aw "__init__" "Slowing.__init__" dC (.ref aZ) aS)
 (lO : sM K aZ #[(.int 0 bQ), .none])
 (cP : s9 K aw "words" "Slowing.words" eR (.none) bA)
 (mB : gJ K "demand" "demand" qh (.none) eE)
 (gk : gJ K "is_number" "is_number" gb (.none) cA)
 (fc : gJ K "read_whole" "read_whole" iu (.none) bU)
 (gu : gJ K "read_many" "read_many" jx (.none) cD)
 (fj : gJ K "split_rule" "split_rule" dR (.none) bT)
 (fR : gJ K "make_rule" "make_rule" jr (.none) cB)
 (fP : gJ K "read_rule" "read_rule" jl (.none) cC)
 (dU : gJ K "_law_cell_at" "_law_cell_at" fE (.none) bj)
 (eD : gJ K "_law_number" "_law_number" gE (.none) bG)
 (fg : gJ K "_law_words" "_law_words" iG (.none) bY)
 (dY : gJ K "_law_changed" "_law_changed" fy (.none) bp)
 (fk : gJ K "_law_value" "_law_value" iR (.none) bS)
 (gj : gJ K "_law_good" "_law_good" fU (.none) cz)
 (dM : gJ K "_law_refused" "_law_refused" ft (.none) bq)
 (yX : gJ K "law" "law" AH (.none) ll)
 (ez : C1 K bF)
 (fq : PySem.W.findIn K (.ref bF) "many" = some none)
 (dr : PySem.W.findIn K (.ref bF) "first" = some none)
 (dQ : PySem.W.findIn K (.ref bF) "last" = some none)
 (Dg : PySem.W.makesIn K bF = true)
 (Bg : PySem.W.keepIn K (.ref bF) = true)
 (et : C1 K bo)
 (d7 : PySem.W.findIn K (.ref bo) "many" = some none)
 (dq : PySem.W.findIn K (.ref bo) "start" = some none)
 (dS : PySem.W.findIn K (.ref bo) "step" = some none)
 (dX : PySem.W.findIn K (.ref bo) "wide" = some none)
 (Be : PySem.W.makesIn K bo = true)
 (De : PySem.W.keepIn K (.ref bo) = true)
 (cT : C1 K aD)
 (cX : PySem.W.findIn K (.ref aD) "many" = some none)
 (cO : PySem.W.findIn K (.ref aD) "start" = some none)
 (dn : PySem.W.findIn K (.ref aD) "gap" = some none)
 (c4 : PySem.W.findIn K (.ref aD) "wide" = some none)
 (yt : PySem.W.makesIn K aD = true)
 (ym : PySem.W.keepIn K (.ref aD) = true)
 (cb : C1 K aw)
 (cM : PySem.W.findIn K (.ref aw) "many" = some none)
 (cx : PySem.W.findIn K (.ref aw) "start" = some none)
 (cZ : PySem.W.findIn K (.ref aw) "gap" = some none)
 (cN : PySem.W.findIn K (.ref aw) "wide" = some none)
 (cR : PySem.W.findIn K (.ref aw) "most" = some none)
 (uS : PySem.W.makesIn K aw = true)
 (vS : PySem.W.keepIn K (.ref aw) = true)
 (zZ : PySem.W.mroIn K eB (.type "object") = some true)
 (zX : PySem.W.typeIn K (.ref eB) = some (.type "type"))
 (gW : PySem.W.excIn K av [.type "ValueError", .type "Exception", .type "BaseException", .type "object"] "ValueError.__new__" = true)
 (xX : PySem.W.mroIn K av (.type "object") = some true)
 (xF : PySem.W.typeIn K (.ref av) = some (.type "type"))
 (hV : PySem.W.excIn K aq [.type "ValueError", .type "Exception", .type "BaseException", .type "object"] "ValueError.__new__" = true)
 (rF : PySem.W.mroIn K aq (.type "object") = some true)
 (yr : PySem.W.typeIn K (.ref aq) = some (.type "type"))
 (gi : PySem.W.excIn K bH [.type "ValueError", .type "Exception", .type "BaseException", .type "object"] "ValueError.__new__" = true)
 (nU : PySem.W.mroIn K av (.ref av) = some true)
 (yD : PySem.W.findIn K (.ref aq) "__getattribute__" = some (some (.builtin "BaseException.__getattribute__")))
 (xH : PySem.W.findIn K (.ref aq) "__getattr__" = some none)
 (yC : PySem.W.mroIn K aq (.type "BaseException") = some true)
 (yz : PySem.W.hasDictIn K aq = true)
 (xW : PySem.W.findIn K (.ref aq) "__class__" = some (some (.builtin "object.__class__")))
 (dy : PySem.W.mroIn K aq (.ref eB) = some false)
 (o7 : (aq == eB) = false)
 (de : PySem.W.mroIn K aq (.ref av) = some false)
 (nZ : (aq == av) = false)
 (c9 : PySem.W.mroIn K aq (.ref aq) = some true)
 (j8 : PySem.W.mroIn K aq (.ref bH) = some true)
 (lN : PySem.W.specialIn K (.ref aD) "__getattribute__" = some (some (.builtin "type.__getattribute__")))
 (lI : PySem.W.readsIn K aD (.type "type") = true)
 (lP : PySem.W.findCls K (.ref aD) (.type "type") "__init__" = some (.val (.ref aI)))
 (oq : PySem.W.specialIn K (.ref iH) "__getattribute__" = some (some (.builtin "type.__getattribute__")))
 (ow : PySem.W.readsIn K iH (.type "type") = true)
 (nO : PySem.W.findCls K (.ref iH) (.type "type") "__init__" = some (.val (.ref a7)))
 (vx : PySem.W.nsIn K mainGlobals "FIGURES" = some (some (.str "0123456789" gs)))
 (oZ : PySem.W.nsIn K mainGlobals "MOST_FIGURES" = some (some (.int 60 dg)))
 (vY : PySem.W.nsIn K mainGlobals "LENGTHS" = some (some (.ref bJ)))
 (sD : PySem.W.nsIn K mainGlobals "all" = some none)
 (pJ : PySem.W.nsIn K mainGlobals "bool" = some none)
 (nR : PySem.W.nsIn K mainGlobals "int" = some none)
 (aX : PySem.W.nsIn K mainGlobals "isinstance" = some none)
 (dZ : PySem.W.nsIn K mainGlobals "len" = some none)
 (si : PySem.W.nsIn K mainGlobals "min" = some none)
 (cJ : PySem.W.nsIn K mainGlobals "str" = some none)
 : ∃ a : Ad, a.ll = a.ll /\ Txt K mg a :=
 ⟨⟨cE, iK.l.choose, dH, jX.l.choose, bZ, fh.l.choose, dI, jZ.l.choose, eF, nq.l.choose, a7, eU.l.choose, bB, dz.l.choose, bI, cF, dP.l.choose, bz, dA.l.choose, bK, cK, cG, dW.l.choose, aI, bR.l.choose, bb, bX, bN, cY.l.choose, aS, cI.l.choose, aZ, bQ, bA, cP.l.choose, eE, mB.l.choose, cA, gk.l.choose, bU, fc.l.choose, cD, gu.l.choose, bT, fj.l.choose, cB, fR.l.choose, cC, fP.l.choose, bj, dU.l.choose, bG, eD.l.choose, bY, fg.l.choose, bp, dY.l.choose, bS, fk.l.choose, cz, gj.l.choose, bq, dM.l.choose, ll, yX.l.choose, iH, bF, bo, aD, aw, eB, av, aq, bH, gs, dg, bJ⟩, rfl, {
   lQ := iK.l.choose_spec,
   oR := iK.k,
   oC := PySem.W.mg_of X G iK.a,
   oi := jX.l.choose_spec,
   pL := jX.k,
   p0 := PySem.W.mg_of X G jX.a,
   ip := fh.l.choose_spec,
   aQ := fh.k,
   aR := PySem.W.mg_of X G fh.a,
   nP := jZ.l.choose_spec,
   pT := jZ.k,
   qc := PySem.W.mg_of X G jZ.a,
   qe := nq.l.choose_spec,
   gH := nq.k,
   g9 := PySem.W.mg_of X G nq.a,
   eO := eU.l.choose_spec,
   eV := dz.l.choose_spec,
   iU := pe,
   iO := dP.l.choose_spec,
   eQ := dA.l.choose_spec,
   i9 := oX,
   ia := dW.l.choose_spec,
   d6 := bR.l.choose_spec,
   fX := mS,
   fC := cY.l.choose_spec,
   dF := cI.l.choose_spec,
   fH := lO,
   eT := cP.l.choose_spec,
   p7 := mB.l.choose_spec,
   jV := mB.k,
   jY := PySem.W.mg_of X G mB.a,
   jC := gk.l.choose_spec,
   lY := gk.k,
   lT := PySem.W.mg_of X G gk.a,
   iq := fc.l.choose_spec,
   eo := fc.k,
   eC := PySem.W.mg_of X G fc.a,
   jy := gu.l.choose_spec,
   ng := gu.k,
   ml := PySem.W.mg_of X G gu.a,
   iw := fj.l.choose_spec,
   kK := fj.k,
   kW := PySem.W.mg_of X G fj.a,
   jO := fR.l.choose_spec,
   mP := fR.k,
   nK := PySem.W.mg_of X G fR.a,
   jP := fP.l.choose_spec,
   da := fP.k,
   dc := PySem.W.mg_of X G fP.a,
   fA := dU.l.choose_spec,
   aA := dU.k,
   az := PySem.W.mg_of X G dU.a,
   gB := eD.l.choose_spec,
   bL := eD.k,
   bM := PySem.W.mg_of X G eD.a,
   iI := fg.l.choose_spec,
   ke := fg.k,
   kE := PySem.W.mg_of X G fg.a,
   fx := dY.l.choose_spec,
   eI := dY.k,
   eY := PySem.W.mg_of X G dY.a,
   iL := fk.l.choose_spec,
   kO := fk.k,
   kq := PySem.W.mg_of X G fk.a,
   jD := gj.l.choose_spec,
   nD := gj.k,
   nu := PySem.W.mg_of X G gj.a,
   fF := dM.l.choose_spec,
   eP := dM.k,
   eK := PySem.W.mg_of X G dM.a,
   Ae := yX.l.choose_spec,
   Av := PySem.W.mg_of X G yX.a,
   pz := PySem.W.mg_of X G Cj,
   wm := PySem.W.mg_of X G Cu,
   ez := ⟨ez.pg, ez.hd, ez.po, ez.sa⟩,
   fq := fq,
   dr := dr,
   dQ := dQ,
   An := ⟨Dg, dz.a, dz.i, Bg⟩,
   iB := ⟨dP.a, dP.i, dP.k⟩,
   wz := PySem.W.mg_of X G BX,
   et := ⟨et.pg, et.hd, et.po, et.sa⟩,
   d7 := d7,
   dq := dq,
   dS := dS,
   dX := dX,
   zv := ⟨Be, dA.a, dA.i, De⟩,
   ik := ⟨dW.a, dW.i, dW.k⟩,
   nX := PySem.W.mg_of X G xK,
   cT := ⟨cT.pg, cT.hd, cT.po, cT.sa⟩,
   cX := cX,
   cO := cO,
   dn := dn,
   c4 := c4,
   tR := ⟨yt, bR.a, bR.i, ym⟩,
   fz := ⟨cY.a, cY.i, cY.k⟩,
   pX := PySem.W.mg_of X G vn,
   cb := ⟨cb.pg, cb.hd, cb.po, cb.sa⟩,
   cM := cM,
   cx := cx,
   cZ := cZ,
   cN := cN,
   cR := cR,
   rD := ⟨uS, cI.a, cI.i, vS⟩,
   eS := ⟨cP.a, cP.i, cP.k⟩,
   t8 := PySem.W.mg_of X G AU,
   gQ := PySem.W.mg_of X G xQ,
   gW := gW,
   j1 := PySem.W.mg_of X G yf,
   hV := hV,
   nB := PySem.W.mg_of X G sY,
   gi := gi,
   gY := nU,
   rm := ⟨yD, xH, yC, yz, ⟨xW, OH, Ny, rF⟩⟩,
   dy := xk zZ zX dy o7,
   de := xk xX xF de nZ,
   c9 := xa rF yr c9,
   fb := j8,
   gv := ⟨lN, lI, lP, bR.k⟩,
   dw := ⟨oq, ow, nO, eU.k⟩,
   qx := PySem.W.mg_of X G vx,
   iW := PySem.W.mg_of X G oZ,
   ic := PySem.W.mg_of X G vY,
   sD := PySem.W.mg_none_of X G sD,
   pJ := PySem.W.mg_none_of X G pJ,
   nR := PySem.W.mg_none_of X G nR,
   aX := PySem.W.mg_none_of X G aX,
   dZ := PySem.W.mg_none_of X G dZ,
   si := PySem.W.mg_none_of X G si,
   cJ := PySem.W.mg_none_of X G cJ
 }⟩
theorem Txt.ub {K : PySem.W.Frag} {mg : Str -> Option Value} {a : Ad} (T : Txt K mg a) : we K a.av := pS.o T.gW
theorem Txt.yP {K : PySem.W.Frag} {mg : Str -> Option Value} {a : Ad} (T : Txt K mg a) : we K a.aq := pS.o T.hV
theorem Txt.uw {K : PySem.W.Frag} {mg : Str -> Option Value} {a : Ad} (T : Txt K mg a) : we K a.bH := pS.o T.gi
theorem Txt.nc {K : PySem.W.Frag} {mg : Str -> Option Value} {a : Ad} (T : Txt K mg a) : BR K a.av a.av true := ⟨T.ub, T.gY⟩
theorem Txt.jq {K : PySem.W.Frag} {mg : Str -> Option Value} {a : Ad} (T : Txt K mg a) : BR K a.bH a.aq true := ⟨T.yP, T.fb⟩
def my : Sp := fun vs H Q _ => ∃ v d, vs = [v] /\ Dv H v d /\ Q (.bl (isInt d && !isBool d)) H
theorem Bo {H : Hp} {Q : VK} {E : XK} {v : V} {d : PyData} (h : Dv H v d) (q : Q (.bl (isInt d && !isBool d)) H) : my [v] H Q E := ⟨v, d, rfl, h, q⟩
def nW (C : Addr) : Sp := fun vs H Q E => ∃ b, vs = [.bl b] /\ (b = false -> E (.ref C) none H) /\ (b = true -> Q .cq H)
theorem Al {C : Addr} {H : Hp} {Q : VK} {E : XK} {b : Bool} (h : b = false -> E (.ref C) none H) (q : b = true -> Q .cq H) : nW C [.bl b] H Q E := ⟨b, rfl, h, q⟩
def pY (C : Addr) : Sp := fun vs H Q E => ∃ n l x, vs = [.int n, .int l, .str x] /\ x.length <= 1000 /\ (n < l -> E (.ref C) none H) /\ (l <= n -> Q .cq H)
theorem Bf {C : Addr} {H : Hp} {Q : VK} {E : XK} {n l : Int} {x : Str} (hx : x.length <= 1000) (h : n < l -> E (.ref C) none H) (q : l <= n -> Q .cq H) : pY C [.int n, .int l, .str x] H Q E := ⟨n, l, x, rfl, hx, h, q⟩
def CV (m : V) : Prop := m = .cq \/ ∃ n, m = .int n
def wt : V -> Bool
 | .int n => decide (1 <= n)
 | _ => true
def iJ (C CE : Addr) : Sp := fun vs H Q E => ∃ p dx m, vs = [.ref p, m] /\ CV m /\ H p = some (.ins C dx []) /\ (wt m = false -> E (.ref CE) none H) /\ (wt m = true -> Q .cq (upd H p (.ins C dx [("many", m)])))
theorem tW {C CE p dx : Addr} {H : Hp} {Q : VK} {E : XK} {m : V} (hm : CV m) (hp : H p = some (.ins C dx [])) (h : wt m = false -> E (.ref CE) none H) (q : wt m = true -> Q .cq (upd H p (.ins C dx [("many", m)]))) : iJ C CE [.ref p, m] H Q E := ⟨p, dx, m, rfl, hm, hp, h, q⟩
set_option hygiene false in
local macro_rules | `(tactic| walk_at "mok") => `(tactic| first
 | assumption
 | exact Or.inl rfl
 | exact Or.inr ⟨_, rfl⟩)
local macro_rules | `(tactic| walk_at "use") => `(tactic| first
 | ((with_reducible refine' Bo ?e ?_); case e => walk_at "dat")
 | with_reducible refine Al ?_ ?_
 | ((with_reducible refine' Bf ?e1 ?_ ?_); (case e1 => decide +kernel))
 | ((with_reducible refine' tW ?e1 ?e2 ?_ ?_); (case e1 => walk_at "mok"); (case e2 => walk_at "at"))
 | fail)
section
variable {P : Program} {w : World} {K : PySem.W.Frag} {mg : Str -> Option Value} {base : Heap} {a : Ad}
theorem yG (T : Txt K mg a) : bh P w K mg base (nN P w) 1 a.eE a.rL ["good"] (nW a.aq) := by
 refine T.p7.Aw ye (fun vs H Q E h => ?_) (fun di A outer s H vs Q E hr h => ?_)
 . obtain ⟨_, rfl, _⟩ := h; rfl
 . obtain ⟨b, rfl, k1, k2⟩ := h
   refine ⟨_, (aj (bD (ot (eH (pv 0) (fun _ => rfl)))
    (aj (oo vv rfl (af au ag) rfl T.j1 T.hV rfl))
    aG)), ?_⟩
   repeat' (walk_at "rd1")
   . exact k1 (by assumption)
   . exact k2 (by assumption)
theorem lr (T : Txt K mg a) : lM P w K mg base 1 a.eE ["good"] [] (nW a.aq) :=
 ⟨⟨_, _, yG T, T.p7.binds fun _ _ _ _ _ _ => .all fun us hl => match us, hl with | [_], _ => rfl, .nil⟩⟩
theorem uj (T : Txt K mg a) : bh P w K mg base qL 1 a.cE a.oQ ["thing"] my := by
 refine T.lQ.ok tK (fun vs H Q E h => ?_) (fun di A outer s H vs Q E hr h => ?_)
 . obtain ⟨_, _, rfl, _⟩ := h; rfl
 . obtain ⟨v, d, rfl, hd, k⟩ := h
   refine ⟨_, (aj (aB (jH (aU nE rfl T.aX PyProof.Rows.boot_isinstance (af (pv 0) (af (pB (v := .ty "int") rfl T.nR PyProof.Rows.boot_int rfl) ag))) (jI (FL (aU nE rfl T.aX PyProof.Rows.boot_isinstance (af (pv 0) (af (pB (v := .ty "bool") rfl T.pJ PyProof.Rows.boot_bool rfl) ag)))))))), ?_⟩
   repeat' (walk_at "rd1")
   . refine HS ?_; cases d <;> simp_all [isInt, isBool]
   . refine HS ?_; cases d <;> simp_all [isInt, isBool]
theorem rS (T : Txt K mg a) : qX P w K mg base 1 a.cE ["thing"] [] my :=
 ⟨⟨_, _, uj T, T.lQ.binds fun _ _ _ _ _ _ => .all fun us hl => match us, hl with | [_], _ => rfl, .nil⟩⟩
theorem qQ (T : Txt K mg a) : bh P w K mg base (nN P w) 2 a.bZ a.lj ["number", "least", "what"] (pY a.av) := by
 have vT : qX P w K mg base 1 a.cE ["thing"] [] my := rS T
 refine T.ip.Aw qS (fun vs H Q E h => ?_) (fun di A outer s H vs Q E hr h => ?_)
 . obtain ⟨_, _, _, rfl, _⟩ := h; rfl
 . obtain ⟨n, l, x, rfl, hx, k1, k2⟩ := h
   refine ⟨_, (aj (bD (PW.pt (pR (ot (eH (aF vT (hr.mono (by decide)) rfl T.oC T.oR (af (pv 0) ag)) (fun _ => rfl))) (qG (ay qi (pv 0) (pv 1) (ax _)))))
    (aj (oo vv rfl (af (y6 (pv 2)) ag) rfl T.gQ T.gW rfl))
    aG)), ?_⟩
   repeat' (walk_at "rd1")
   . exact k1 (by assumption)
   . exact k2 (by omega)
theorem c3 (T : Txt K mg a) : lM P w K mg base 2 a.bZ ["number", "least", "what"] [] (pY a.av) :=
 ⟨⟨_, _, qQ T, T.ip.binds fun _ _ _ _ _ _ => .all fun us hl => match us, hl with | [_, _, _], _ => rfl, .nil⟩⟩
theorem rV {C : Addr} (T : Txt K mg a) (cl : pw K C) (na : aJ K C "many") : bh P w K mg base (nN P w) 3 a.a7 a.gN ["self", "many"] (iJ C a.av) := by
 have aL := c3 (P := P) (w := w) (base := base) T
 refine T.eO.Aw og (fun vs H Q E h => ?_) (fun di A outer s H vs Q E hr h => ?_)
 . obtain ⟨_, _, _, rfl, _⟩ := h; rfl
 . obtain ⟨p, dx, m, rfl, hm, hp, k1, k2⟩ := h
   refine ⟨_, (ai (bD (ay CH (pv 1) p9 (ax _))
    (aj (bw (bE aL (hr.mono (by decide)) rfl T.aR T.aQ dh (af (pv 1) (af ah (af au ag))))))
    aG)
    (aj (gA (pv 0) (pv 1) rfl))), ?_⟩
   rcases hm with rfl | ⟨i, rfl⟩
   . repeat' (walk_at "rd1")
     exact k2 rfl
   . repeat' (walk_at "rd1")
     . intro hi; exact k1 (by simp [wt]; omega)
     . intro hi
       repeat' (walk_at "rd1")
       exact k2 (by simp [wt]; omega)
theorem gD {C : Addr} (T : Txt K mg a) (cl : pw K C) (na : aJ K C "many") : lM P w K mg base 3 a.a7 ["self", "many"] [] (iJ C a.av) :=
 ⟨⟨_, _, rV T cl na, T.eO.binds fun _ _ _ _ _ _ => .all fun us hl => match us, hl with | [_, _], _ => rfl, .nil⟩⟩
def Bt (p : Addr) (H H' : Hp) : Prop := ∀ b, b ≠ p -> H' b = H b
theorem Bt.rfl' {p : Addr} {H : Hp} : Bt p H H := fun _ _ => rfl
theorem Bt.up {p : Addr} {H : Hp} {o : HO} : Bt p H (upd H p o) := fun b hb => aK hb
def qI (C CE : Addr) (ok : List V -> Bool) (gd : List V -> Prop) (fs : List V -> List (Str × V)) : Sp := fun vs H Q E => ∃ p dx us, vs = .ref p :: us /\ gd us /\ H p = some (.ins C dx []) /\ (ok us = false -> ∀ H', Bt p H H' -> E (.ref CE) none H') /\ (ok us = true -> Q .cq (upd H p (.ins C dx (fs us))))
theorem Hs {C CE p dx : Addr} {ok : List V -> Bool} {gd : List V -> Prop} {fs : List V -> List (Str × V)} {us : List V} {H : Hp} {Q : VK} {E : XK} (hg : gd us) (hp : H p = some (.ins C dx [])) (h : ok us = false -> ∀ H', Bt p H H' -> E (.ref CE) none H') (q : ok us = true -> Q .cq (upd H p (.ins C dx (fs us)))) : qI C CE ok gd fs (.ref p :: us) H Q E := ⟨p, dx, us, rfl, hg, hp, h, q⟩
theorem vq {C CE : Addr} {ok : List V -> Bool} {gd : List V -> Prop} {fs : List V -> List (Str × V)} {us ws : List V} {H : Hp} {Q : VK} {E : XK} (e : us = ws) (hg : gd ws) (h : ok ws = false -> ∀ H', ao H H' -> E (.ref CE) none H') (q : ok ws = true -> ∀ v H', ao H H' -> tj H' v C (fs ws) -> Q v H') : wQ C (qI C CE ok gd fs) us H Q E := by
 refine ⟨ws, e, fun x dx hx NC j6 => ?_⟩
 have s0 : ∀ H', Bt x (upd (upd H dx (.own x)) x (.ins C dx [])) H' -> ao H H' := fun H' hb b o Ho => by
  have n1 : b ≠ x := fun z => by rw [z, hx] at Ho; cases Ho
  have n2 : b ≠ dx := fun z => by rw [z, NC] at Ho; cases Ho
  rw [hb b n1, aK n1, aK n2]
  exact Ho
 exact Hs hg aO (fun ho H' hb => h ho _ (s0 H' hb)) (fun ho => ⟨rfl, q ho _ _ (s0 _ Bt.up) ⟨x, dx, rfl, aO⟩⟩)
def A5 : List V -> Bool
 | [.int x, .int y] => decide (0 <= x) && decide (x <= y)
 | _ => false
def MS (us : List V) : Prop := ∃ x y, us = [.int x, .int y]
def yE : List V -> Bool
 | [.int st, .int sp, .int wd, m] => decide (0 <= st) && (decide (1 <= sp) && (decide (0 <= wd) && (decide (wd < sp) && wt m)))
 | _ => false
def v9 : List V -> Bool
 | [.int st, .int gp, .int wd, m] => decide (0 <= st) && (decide (1 <= gp) && (decide (0 <= wd) && wt m))
 | _ => false
def HV (us : List V) : Prop := ∃ x y z m, us = [.int x, .int y, .int z, m] /\ CV m
def Bc : List V -> Bool
 | [.int st, .int gp, .int mo, .int wd, m] => decide (0 <= st) && (decide (1 <= gp) && (decide (0 <= wd) && (wt m && decide (gp <= mo))))
 | _ => false
def Mq (us : List V) : Prop := ∃ x y u z m, us = [.int x, .int y, .int u, .int z, m] /\ CV m
theorem zm (T : Txt K mg a) : Binds K a.ec ["self", "first", "last"] [] := T.eV.binds fun _ _ _ _ _ _ s us kx hl => by
 obtain ⟨o, n, h1, h2⟩ := T.iU.ex
 have hl : us.length = 3 := by simp at hl; omega
 match us, hl with
 | [_, _, _], _ => exact PySem.W.binds_K kx rfl h1 h2 rfl rfl
theorem sh (T : Txt K mg a) : bh P w K mg base (nN P w) 4 a.bB a.ec ["self", "first", "last"] (qI a.bF a.av A5 MS qw) := by
 have cl := T.ez; have n1 := T.fq; have n2 := T.dr; have n3 := T.dQ
 have aL := c3 (P := P) (w := w) (base := base) T
 have cQ := gD (P := P) (w := w) (base := base) T cl n1
 refine T.eV.Aw gK (fun vs H Q E h => ?_) (fun di A outer s H vs Q E hr h => ?_)
 . obtain ⟨_, _, _, rfl, ⟨_, _, rfl⟩, _⟩ := h; rfl
 . obtain ⟨p, dx, _, rfl, ⟨x, y, rfl⟩, hp, k1, k2⟩ := h
   refine ⟨_, (ai (bw (bE aL (hr.mono (by decide)) rfl T.aR T.aQ dh (af (pv 1) (af ah (af au ag)))))
    (ai (bD (ay AQ (pv 2) p9 (ax _))
     (aj (cw (i := 2) gK.nd rfl (Or.inl rfl) (pv 1)))
     aG)
    (ai (bw (bE aL (hr.mono (by decide)) rfl T.aR T.aQ dh (af (pv 2) (af (pv 1) (af au ag)))))
    (ai (bw (pF rfl T.pz T.dw cQ (hr.mono (by decide)) dh (af (pv 0) (af ah ag))))
    (ai (gA (pv 0) (pv 1) rfl)
    (aj (gA (pv 0) (pv 2) rfl))))))), ?_⟩
   repeat' (walk_at "rd1")
   . intro hx; exact k1 (by simp [A5]; omega) _ Bt.rfl'
   . intro hx
     repeat' (walk_at "rd1")
     . intro hy; exact k1 (by simp [A5]; omega) _ Bt.rfl'
     . intro hy
       repeat' (walk_at "rd1")
       . intro z; cases z
       . intro _
         repeat' (walk_at "rd1")
         simp only [pH]
         exact k2 (by simp [A5]; omega)
theorem uR (T : Txt K mg a) : lM P w K mg base 4 a.bB ["self", "first", "last"] [] (qI a.bF a.av A5 MS qw) :=
 ⟨⟨_, _, sh T, zm T, .nil⟩⟩
theorem zH (T : Txt K mg a) : Binds K a.d9 ["self", "start", "step", "wide", "many"] [] := T.eQ.binds fun _ _ _ _ _ _ s us kx hl => by
 obtain ⟨o, n, h1, h2⟩ := T.i9.ex
 have hl : us.length = 5 := by simp at hl; omega
 match us, hl with
 | [_, _, _, _, _], _ => exact PySem.W.binds_K kx rfl h1 h2 rfl rfl
theorem r9 (T : Txt K mg a) : bh P w K mg base (nN P w) 4 a.bz a.d9 ["self", "start", "step", "wide", "many"] (qI a.bo a.av yE HV qy) := by
 have cl := T.et; have n1 := T.d7; have n2 := T.dq; have n3 := T.dS; have n4 := T.dX
 have aL := c3 (P := P) (w := w) (base := base) T
 have cQ := gD (P := P) (w := w) (base := base) T cl n1
 refine T.eQ.Aw nV (fun vs H Q E h => ?_) (fun di A outer s H vs Q E hr h => ?_)
 . obtain ⟨_, _, _, rfl, ⟨_, _, _, _, rfl, _⟩, _⟩ := h; rfl
 . obtain ⟨p, dx, _, rfl, ⟨x, y, z, m, rfl, hm⟩, hp, k1, k2⟩ := h
   refine ⟨_, (ai (bw (bE aL (hr.mono (by decide)) rfl T.aR T.aQ dh (af (pv 1) (af ah (af au ag)))))
    (ai (bw (bE aL (hr.mono (by decide)) rfl T.aR T.aQ dh (af (pv 2) (af ah (af au ag)))))
    (ai (bw (bE aL (hr.mono (by decide)) rfl T.aR T.aQ dh (af (pv 3) (af ah (af au ag)))))
    (ai (bD (ay Dy (pv 3) (pv 2) (ax _))
     (aj (oo vv rfl (af au ag) rfl T.gQ T.gW rfl))
     aG)
    (ai (bw (pF rfl T.pz T.dw cQ (hr.mono (by decide)) dh (af (pv 0) (af (pv 4) ag))))
    (ai (gA (pv 0) (pv 1) rfl)
    (ai (gA (pv 0) (pv 2) rfl)
    (aj (gA (pv 0) (pv 3) rfl))))))))), ?_⟩
   repeat' (walk_at "rd1")
   . intro hx; exact k1 (by simp [yE]; omega) _ Bt.rfl'
   . intro hx
     repeat' (walk_at "rd1")
     . intro hy; exact k1 (by simp [yE]; omega) _ Bt.rfl'
     . intro hy
       repeat' (walk_at "rd1")
       . intro hz; exact k1 (by simp [yE]; omega) _ Bt.rfl'
       . intro hz
         repeat' (walk_at "rd1")
         . exact k1 (by simp [yE]; omega) _ Bt.rfl'
         . intro K2; exact k1 (by simp [yE, K2]) _ Bt.rfl'
         . intro Ky
           repeat' (walk_at "rd1")
           simp only [pH]
           exact k2 (by simp [yE, Ky]; omega)
theorem vy (T : Txt K mg a) : lM P w K mg base 4 a.bz ["self", "start", "step", "wide", "many"] [] (qI a.bo a.av yE HV qy) :=
 ⟨⟨_, _, r9 T, zH T, .nil⟩⟩
theorem vM (T : Txt K mg a) : Binds K a.dG ["self", "start", "gap", "wide", "many"] [] := T.d6.binds fun _ _ _ _ _ _ s us kx hl => by
 obtain ⟨o, n, h1, h2⟩ := T.fX.ex
 have hl : us.length = 5 := by simp at hl; omega
 match us, hl with
 | [_, _, _, _, _], _ => exact PySem.W.binds_K kx rfl h1 h2 rfl rfl
theorem qa {C : Addr} (T : Txt K mg a) (cl : pw K C) (n1 : aJ K C "many") (n2 : aJ K C "start") (n3 : aJ K C "gap") (n4 : aJ K C "wide") : bh P w K mg base (nN P w) 4 a.aI a.dG ["self", "start", "gap", "wide", "many"] (qI C a.av v9 HV fV) := by
 have aL := c3 (P := P) (w := w) (base := base) T
 have cQ := gD (P := P) (w := w) (base := base) T cl n1
 refine T.d6.Aw lx (fun vs H Q E h => ?_) (fun di A outer s H vs Q E hr h => ?_)
 . obtain ⟨_, _, _, rfl, ⟨_, _, _, _, rfl, _⟩, _⟩ := h; rfl
 . obtain ⟨p, dx, _, rfl, ⟨x, y, z, m, rfl, hm⟩, hp, k1, k2⟩ := h
   refine ⟨_, (ai (bw (bE aL (hr.mono (by decide)) rfl T.aR T.aQ dh (af (pv 1) (af ah (af au ag)))))
    (ai (bw (bE aL (hr.mono (by decide)) rfl T.aR T.aQ dh (af (pv 2) (af ah (af au ag)))))
    (ai (bw (bE aL (hr.mono (by decide)) rfl T.aR T.aQ dh (af (pv 3) (af ah (af au ag)))))
    (ai (bw (pF rfl T.pz T.dw cQ (hr.mono (by decide)) dh (af (pv 0) (af (pv 4) ag))))
    (ai (gA (pv 0) (pv 1) rfl)
    (ai (gA (pv 0) (pv 2) rfl)
    (aj (gA (pv 0) (pv 3) rfl)))))))), ?_⟩
   repeat' (walk_at "rd1")
   . intro hx; exact k1 (by simp [v9]; omega) _ Bt.rfl'
   . intro hx
     repeat' (walk_at "rd1")
     . intro hy; exact k1 (by simp [v9]; omega) _ Bt.rfl'
     . intro hy
       repeat' (walk_at "rd1")
       . intro hz; exact k1 (by simp [v9]; omega) _ Bt.rfl'
       . intro hz
         repeat' (walk_at "rd1")
         . intro K2; exact k1 (by simp [v9, K2]) _ Bt.rfl'
         . intro Ky
           repeat' (walk_at "rd1")
           simp only [pH]
           exact k2 (by simp [v9, Ky]; omega)
theorem jd {C : Addr} (T : Txt K mg a) (cl : pw K C) (n1 : aJ K C "many") (n2 : aJ K C "start") (n3 : aJ K C "gap") (n4 : aJ K C "wide") : lM P w K mg base 4 a.aI ["self", "start", "gap", "wide", "many"] [] (qI C a.av v9 HV fV) :=
 ⟨⟨_, _, qa T cl n1 n2 n3 n4, vM T, .nil⟩⟩
theorem su (T : Txt K mg a) : lM P w K mg base 4 a.aI ["self", "start", "gap", "wide", "many"] [] (qI a.aD a.av v9 HV fV) := jd T T.cT T.cX T.cO T.dn T.c4
theorem t5 (T : Txt K mg a) : Binds K a.dj ["self", "start", "gap", "most", "wide", "many"] [] := T.dF.binds fun _ _ _ _ _ _ s us kx hl => by
 obtain ⟨o, n, h1, h2⟩ := T.fH.ex
 have hl : us.length = 6 := by simp at hl; omega
 match us, hl with
 | [_, _, _, _, _, _], _ => exact PySem.W.binds_K kx rfl h1 h2 rfl rfl
theorem px (T : Txt K mg a) : bh P w K mg base (nN P w) 5 a.aS a.dj ["self", "start", "gap", "most", "wide", "many"] (qI a.aw a.av Bc Mq fw) := by
 have cl := T.cb; have n1 := T.cR
 have aL := c3 (P := P) (w := w) (base := base) T
 have mQ := jd (P := P) (w := w) (base := base) T cl T.cM T.cx T.cZ T.cN
 refine T.dF.Aw j4 (fun vs H Q E h => ?_) (fun di A outer s H vs Q E hr h => ?_)
 . obtain ⟨_, _, _, rfl, ⟨_, _, _, _, _, rfl, _⟩, _⟩ := h; rfl
 . obtain ⟨p, dx, _, rfl, ⟨x, y, u, z, m, rfl, hm⟩, hp, k1, k2⟩ := h
   refine ⟨_, (ai (bw (pF rfl T.nX T.gv mQ (hr.mono (by decide)) dh (af (pv 0) (af (pv 1) (af (pv 2) (af (pv 4) (af (pv 5) ag)))))))
    (ai (bw (bE aL (hr.mono (by decide)) rfl T.aR T.aQ dh (af (pv 3) (af (pv 2) (af au ag)))))
    (aj (gA (pv 0) (pv 3) rfl)))), ?_⟩
   repeat' (walk_at "rd1")
   refine Hs ⟨_, _, _, _, rfl, hm⟩ hp (fun h0 H' hb => k1 ?_ _ hb) (fun h1 => ?_)
   . simp only [v9, Bc, Bool.and_eq_false_iff] at h0 ⊢
     rcases h0 with h0 | h0 | h0 | h0 <;> simp [h0]
   . simp only [v9, Bool.and_eq_true, decide_eq_true_eq] at h1
     obtain ⟨b1, b2, b3, b4⟩ := h1
     repeat' (walk_at "rd1")
     . intro hx; exact k1 (by simp [Bc]; omega) _ Bt.up
     . intro hx
       repeat' (walk_at "rd1")
       simp only [pH]
       exact k2 (by simp [Bc, b4]; omega)
theorem qW (T : Txt K mg a) : lM P w K mg base 5 a.aS ["self", "start", "gap", "most", "wide", "many"] [] (qI a.aw a.av Bc Mq fw) :=
 ⟨⟨_, _, px T, t5 T, .nil⟩⟩
def mh (n : Int) : Str := (toString n : String)
theorem uc {n : Int} (h0 : 0 <= n) (h : n < 10 ^ 64) : (mh n).length <= 65 := by
 have e : (toString n).length <= 64 + 1 := PySem.int_text_length_le10 (by decide) (by omega)
 have : (mh n).length = (toString n).length := PySem.ofString_length _
 omega
def vp : Sp := fun vs H Q _ => ∃ n, vs = [.int n] /\ 0 <= n /\ n < 10 ^ 64 /\ ∀ H', ao H H' -> Q (.str (mh n)) H'
theorem Hd {H : Hp} {Q : VK} {E : XK} {n : Int} (h0 : 0 <= n) (h1 : n < 10 ^ 64) (q : ∀ H', ao H H' -> Q (.str (mh n)) H') : vp [.int n] H Q E := ⟨n, rfl, h0, h1, q⟩
theorem vD (T : Txt K mg a) : bh P w K mg base qL 1 a.dH a.qp ["number"] vp := by
 refine T.oi.ok iN (fun vs H Q E h => ?_) (fun di A outer s H vs Q E hr h => ?_)
 . obtain ⟨_, rfl, _⟩ := h; rfl
 . obtain ⟨n, rfl, h0, h1, q⟩ := h
   have Pq := uc h0 h1
   refine ⟨_, (ai (bD (ay qi (pv 0) ah (ax _))
    (aj uo)
    aG)
    (ai (cw (i := 1) iN.nd rfl (Or.inl rfl) (aM Az ah ah))
    (ai (cw (i := 2) iN.nd rfl (Or.inl rfl) (bu ag))
    (ai (zt PassesOwn.never (ay Dy (pv 0) (pv 1) (ax _))
     (ai uo
     (aj (cw (i := 0) iN.nd rfl (Or.inl rfl) (aM fL (pv 0) (pv 1))))))
    (ai (bw (qz PySem.F.plainAttrs_list PySem.F.slot_list_append PySem.F.type_list_append yy (pv 2) (af (a6 bx rfl T.cJ PyProof.Rows.boot_str (af (pv 0) ag)) ag)))
    (ai (bw (Gy PySem.F.plainAttrs_list PySem.F.slot_list_reverse PySem.F.type_list_reverse uU (pv 2)))
    (aj (aB (qz PySem.F.plainAttrs_str PySem.F.slot_str_join PySem.F.type_str_join sv au (af (pv 2) ag)))))))))), ?_⟩
   repeat' (walk_at "rd1")
   rename_i p H1 Ou Oa yI
   refine Ce (fun m σ' H' => σ' = [some (.int n), some (.int (10 ^ 64)), some (.ref p)] /\ H' = H1) ⟨0, rfl, rfl⟩ ?_
   rintro m σ' H' ⟨rfl, rfl⟩
   repeat' (walk_at "rd1")
   rename_i H4 m4 l4 H5 m5 l5
   refine sS (ss := [mh n]) (dk.dv l5) ?_ ?_
   . have e0 : (Str.ofString "").length = 0 := by decide
     simp only [List.map_cons, List.map_nil, List.sum_cons, List.sum_nil, List.length_cons, List.length_nil, e0]
     omega
   . have e : Txt.join (Str.ofString "") [mh n] = mh n := rfl
     rw [e]
     exact q _ (by walk_at "same")
theorem tJ (T : Txt K mg a) : qX P w K mg base 1 a.dH ["number"] [] vp :=
 ⟨⟨_, _, vD T, T.oi.binds fun _ _ _ _ _ _ => .all fun us hl => match us, hl with | [_], _ => rfl, .nil⟩⟩
def oP : PyData -> Str
 | .int n => mh n
 | _ => "ever"
def g0 (d : PyData) : Prop := d = .none \/ ∃ n, d = .int n /\ 0 <= n /\ n < 10 ^ 64
def sQ : Sp := fun vs H Q _ => ∃ v d, vs = [v] /\ Dv H v d /\ g0 d /\ ∀ H', ao H H' -> Q (.str (oP d)) H'
theorem F9 {H : Hp} {Q : VK} {E : XK} {v : V} {d : PyData} (h : Dv H v d) (hn : g0 d) (q : ∀ H', ao H H' -> Q (.str (oP d)) H') : sQ [v] H Q E := ⟨v, d, rfl, h, hn, q⟩
local macro_rules | `(tactic| walk_at "use") => `(tactic| first
 | ((with_reducible refine' Hd ?e1 ?e2 (fun _ _ => ?_)); (case e1 => omega); (case e2 => omega))
 | ((with_reducible refine' F9 ?e1 ?e2 (fun _ _ => ?_)); (case e1 => walk_at "dat"); (case e2 => assumption))
 | fail)
theorem vJ (T : Txt K mg a) : bh P w K mg base qL 2 a.dI a.pO ["number"] sQ := by
 have yg := tJ (P := P) (w := w) (base := base) T
 refine T.nP.ok vG (fun vs H Q E h => ?_) (fun di A outer s H vs Q E hr h => ?_)
 . obtain ⟨_, _, rfl, _⟩ := h; rfl
 . obtain ⟨v, d, rfl, hd, hn, q⟩ := h
   refine ⟨_, (aj (aB (ni (ay AQ (pv 0) p9 (ax _)) au (aF yg (hr.mono (by decide)) rfl T.p0 T.pL (af (pv 0) ag))))), ?_⟩
   rcases hn with rfl | ⟨n, rfl, h0, h1⟩
   . cases hd
     repeat' (walk_at "rd1")
     exact q _ (by walk_at "same")
   . cases hd
     repeat' (walk_at "rd1")
     exact q _ (by walk_at "same")
theorem uh (T : Txt K mg a) : qX P w K mg base 2 a.dI ["number"] [] sQ :=
 ⟨⟨_, _, vJ T, T.nP.binds fun _ _ _ _ _ _ => .all fun us hl => match us, hl with | [_], _ => rfl, .nil⟩⟩
theorem yi {d : PyData} (h : g0 d) : (oP d).length <= 65 := by
 rcases h with rfl | ⟨n, rfl, h0, h1⟩
 . show (Str.ofString "ever").length <= 65
   decide
 . exact uc h0 h1
theorem rB : ∀ {ds : List PyData}, (∀ d ∈ ds, g0 d) -> ((ds.map oP).map (·.length)).sum <= 65 * ds.length
 | [], _ => Nat.zero_le _
 | d :: ds, h => by
   have h1 := yi (h d List.mem_cons_self)
   have h2 := rB fun x hx => h x (List.mem_cons_of_mem _ hx)
   simp only [List.map_cons, List.sum_cons, List.length_cons]
   omega
def o6 (kd : Str) (ds : List PyData) : Str := Txt.join (Str.ofString " ") (kd :: ds.map oP)
def vF : Sp := fun vs H Q _ => ∃ kd v ds, vs = [.str kd, v] /\ Dv H v (.list ds) /\ ds.length <= 10 /\ kd.length <= 20 /\ (∀ d ∈ ds, g0 d) /\ ∀ H', ao H H' -> Q (.str (o6 kd ds)) H'
theorem IG {H : Hp} {Q : VK} {E : XK} {kd : Str} {v : V} {ds : List PyData} (h : Dv H v (.list ds)) (h1 : ds.length <= 10) (h2 : kd.length <= 20) (h3 : ∀ d ∈ ds, g0 d) (q : ∀ H', ao H H' -> Q (.str (o6 kd ds)) H') : vF [.str kd, v] H Q E := ⟨kd, v, ds, rfl, h, h1, h2, h3, q⟩
theorem yo (T : Txt K mg a) : bh P w K mg base qL 3 a.eF a.rN ["kind", "numbers"] vF := by
 have yj := uh (P := P) (w := w) (base := base) T
 refine T.qe.ok xT (fun vs H Q E h => ?_) (fun di A outer s H vs Q E hr h => ?_)
 . obtain ⟨_, _, _, rfl, _⟩ := h; rfl
 . obtain ⟨kd, v, ds, rfl, hd, hl, hk, gF, q⟩ := h
   refine ⟨_, (aj (aB (qz PySem.F.plainAttrs_str PySem.F.slot_str_join PySem.F.type_str_join sv au (af (aM eN (bu (af (pv 0) ag)) (DU (T := ["number"]) (M := ["kind", "numbers"]) (Io (ak mR) ["kind", "numbers"] rfl rfl (by decide +kernel)) rfl (pG (pv 1)) (fun _ _ _ _ _ => (gw (i := 0) (show List.Nodup (["number", "kind", "numbers"] : List Str) by decide +kernel) rfl (Or.inl rfl))) (gL (by decide)) (fun _ _ _ _ _ => mn) (fun _ _ _ _ _ => (aF yj (hr.mono (by decide)) rfl T.qc T.pT (af (pv 0) ag))))) ag)))), ?_⟩
   repeat' (walk_at "rd1")
   rename_i p1 H1 Ou Oa yI
   refine HI (cs := ds) (gd := fun d => d) (fun _ => true) (fun d => .str (oP d)) (by rw [List.map_id']; walk_at "dat") (by omega) (fun _ => rfl) (fun x c H' N hc B2 uN yes no => ?_) (fun pq H5 A4 D8 vV => ?_)
   . have O4 := gF c hc
     repeat' (walk_at "rd1")
     show GV _ N _ true _
     refine qA (fun _ => ?_) (fun hb => by cases hb)
     repeat' (walk_at "rd1")
     exact yes rfl _ _ (by walk_at "same") (by walk_at "dat")
   . have e : ds.filter (fun _ => true) = ds := List.filter_eq_self.mpr (by simp)
     rw [e] at vV
     repeat' (walk_at "rd1")
     rename_i p6 H6 Pb OL MM
     have OD : Dv H6 (.ref p6) (.list ((kd :: ds.map oP).map PyData.str)) := by
      have z := dk.dv MM
      rw [List.map_cons, List.map_map]
      exact z
     refine sS OD ?_ ?_
     . have hs := rB gF
       have e1 : (Str.ofString " ").length = 1 := by decide
       rw [e1]
       simp only [List.map_cons, List.sum_cons, List.length_cons, List.length_map]
       omega
     . exact q _ (by walk_at "same")
theorem iC (T : Txt K mg a) : qX P w K mg base 3 a.eF ["kind", "numbers"] [] vF :=
 ⟨⟨_, _, yo T, T.qe.binds fun _ _ _ _ _ _ => .all fun us hl => match us, hl with | [_, _], _ => rfl, .nil⟩⟩
theorem g0.int {n : Int} (h0 : 0 <= n) (h1 : n < 10 ^ 64) : g0 (.int n) := .inr ⟨n, rfl, h0, h1⟩
def d5 (C : Addr) (kd : Str) (fs : List (Str × V)) (ds : List PyData) : Sp := fun vs H Q _ => ∃ v, vs = [v] /\ tj H v C fs /\ ∀ H', ao H H' -> Q (.str (o6 kd ds)) H'
theorem pE {C : Addr} {kd : Str} {fs : List (Str × V)} {ds : List PyData} {H : Hp} {Q : VK} {E : XK} {v : V} (hp : tj H v C fs) (q : ∀ H', ao H H' -> Q (.str (o6 kd ds)) H') : d5 C kd fs ds [v] H Q E := ⟨v, rfl, hp, q⟩
local macro_rules | `(tactic| walk_at "use") => `(tactic| first
 | ((with_reducible refine' IG ?e1 ?e2 ?e3 ?e4 (fun _ _ => ?_)); (case e1 => walk_at "dat"); (case e2 => exact Nat.le_of_ble_eq_true rfl); (case e3 => exact Nat.le_of_ble_eq_true rfl); (case e4 => assumption))
 | fail)
theorem vP {f l : Int} (T : Txt K mg a) (h1 : 0 <= f) (h2 : f < 10 ^ 64) (h3 : 0 <= l) (h4 : l < 10 ^ 64) : bh P w K mg base qL 4 a.cF a.kI ["self"] (d5 a.bF "once" [("many", .int 1), ("first", .int f), ("last", .int l)] [.int f, .int l]) := by
 have fv := iC (P := P) (w := w) (base := base) T
 have n1 := T.dr; have n2 := T.dQ; have cl := T.ez
 refine T.iO.ok qT (fun vs H Q E h => ?_) (fun di A outer s H vs Q E hr h => ?_)
 . obtain ⟨_, rfl, _⟩ := h; rfl
 . obtain ⟨v, rfl, hp, q⟩ := h
   have hn : ∀ d ∈ [PyData.int f, .int l], g0 d := by
    intro d hd
    simp only [List.mem_cons, List.not_mem_nil, or_false] at hd
    rcases hd with rfl | rfl
    . exact .int h1 h2
    . exact .int h3 h4
   refine ⟨_, (aj (aB (aF fv (hr.mono (by decide)) rfl T.g9 T.gH (af au (af (bu (af (dE (pv 0) rfl) (af (dE (pv 0) rfl) ag))) ag))))), ?_⟩
   repeat' (walk_at "rd1")
   exact q _ (by walk_at "same")
def mH (m : V) (d : PyData) : Prop := (m = .cq /\ d = .none) \/ ∃ i, m = .int i /\ d = .int i /\ 0 <= i /\ i < 10 ^ 64
theorem mH.ok {m : V} {d : PyData} (h : mH m d) : g0 d := by
 rcases h with ⟨_, e⟩ | ⟨i, _, e, h0, h1⟩
 . exact .inl e
 . exact .inr ⟨i, e, h0, h1⟩
theorem mH.dv {m : V} {d : PyData} {H : Hp} (h : mH m d) : Dv H m d := by
 rcases h with ⟨rfl, rfl⟩ | ⟨i, rfl, rfl, _⟩
 . exact .cq
 . exact .int i
local macro_rules | `(tactic| walk_at "dat") => `(tactic| first
 | ((refine' mH.dv ?m); (case m => assumption))
 | fail)
theorem vO {st sp wd : Int} {m : V} {d : PyData} (T : Txt K mg a) (a0 : 0 <= st) (b0 : st < 10 ^ 64) (a1 : 0 <= sp) (b1 : sp < 10 ^ 64) (a2 : 0 <= wd) (b2 : wd < 10 ^ 64) (hm : mH m d) : bh P w K mg base qL 4 a.cG a.lh ["self"] (d5 a.bo "each" [("many", m), ("start", .int st), ("step", .int sp), ("wide", .int wd)] [.int st, .int sp, .int wd, d]) := by
 have fv := iC (P := P) (w := w) (base := base) T
 have n0 := T.d7; have n1 := T.dq; have n2 := T.dS; have n3 := T.dX; have cl := T.et
 refine T.ia.ok qV (fun vs H Q E h => ?_) (fun di A outer s H vs Q E hr h => ?_)
 . obtain ⟨_, rfl, _⟩ := h; rfl
 . obtain ⟨v, rfl, hp, q⟩ := h
   have hn : ∀ x ∈ ([.int st, .int sp, .int wd, d] : List PyData), g0 x := by
    intro x hx
    simp only [List.mem_cons, List.not_mem_nil, or_false] at hx
    rcases hx with rfl | rfl | rfl | rfl
    . exact .int a0 b0
    . exact .int a1 b1
    . exact .int a2 b2
    . exact hm.ok
   refine ⟨_, (aj (aB (aF fv (hr.mono (by decide)) rfl T.g9 T.gH (af au (af (bu (af (dE (pv 0) rfl) (af (dE (pv 0) rfl) (af (dE (pv 0) rfl) (af (dE (pv 0) rfl) ag))))) ag))))), ?_⟩
   repeat' (walk_at "rd1")
   exact q _ (by walk_at "same")
theorem vX {st gp wd : Int} {m : V} {d : PyData} (T : Txt K mg a) (a0 : 0 <= st) (b0 : st < 10 ^ 64) (a1 : 0 <= gp) (b1 : gp < 10 ^ 64) (a2 : 0 <= wd) (b2 : wd < 10 ^ 64) (hm : mH m d) : bh P w K mg base qL 4 a.bN a.jc ["self"] (d5 a.aD "behind" [("many", m), ("start", .int st), ("gap", .int gp), ("wide", .int wd)] [.int st, .int gp, .int wd, d]) := by
 have fv := iC (P := P) (w := w) (base := base) T
 have n0 := T.cX; have n1 := T.cO; have n2 := T.dn; have n3 := T.c4; have cl := T.cT
 refine T.fC.ok o9 (fun vs H Q E h => ?_) (fun di A outer s H vs Q E hr h => ?_)
 . obtain ⟨_, rfl, _⟩ := h; rfl
 . obtain ⟨v, rfl, hp, q⟩ := h
   have hn : ∀ x ∈ ([.int st, .int gp, .int wd, d] : List PyData), g0 x := by
    intro x hx
    simp only [List.mem_cons, List.not_mem_nil, or_false] at hx
    rcases hx with rfl | rfl | rfl | rfl
    . exact .int a0 b0
    . exact .int a1 b1
    . exact .int a2 b2
    . exact hm.ok
   refine ⟨_, (aj (aB (aF fv (hr.mono (by decide)) rfl T.g9 T.gH (af au (af (bu (af (dE (pv 0) rfl) (af (dE (pv 0) rfl) (af (dE (pv 0) rfl) (af (dE (pv 0) rfl) ag))))) ag))))), ?_⟩
   repeat' (walk_at "rd1")
   exact q _ (by walk_at "same")
theorem uV {st gp mo wd : Int} {m : V} {d : PyData} (T : Txt K mg a) (a0 : 0 <= st) (b0 : st < 10 ^ 64) (a1 : 0 <= gp) (b1 : gp < 10 ^ 64) (a2 : 0 <= mo) (b2 : mo < 10 ^ 64) (a3 : 0 <= wd) (b3 : wd < 10 ^ 64) (hm : mH m d) : bh P w K mg base qL 4 a.bA a.gM ["self"] (d5 a.aw "slowing" [("many", m), ("start", .int st), ("gap", .int gp), ("wide", .int wd), ("most", .int mo)] [.int st, .int gp, .int mo, .int wd, d]) := by
 have fv := iC (P := P) (w := w) (base := base) T
 have n0 := T.cM; have n1 := T.cx; have n2 := T.cZ; have n3 := T.cN; have n4 := T.cR; have cl := T.cb
 refine T.eT.ok oA (fun vs H Q E h => ?_) (fun di A outer s H vs Q E hr h => ?_)
 . obtain ⟨_, rfl, _⟩ := h; rfl
 . obtain ⟨v, rfl, hp, q⟩ := h
   have hn : ∀ x ∈ ([.int st, .int gp, .int mo, .int wd, d] : List PyData), g0 x := by
    intro x hx
    simp only [List.mem_cons, List.not_mem_nil, or_false] at hx
    rcases hx with rfl | rfl | rfl | rfl | rfl
    . exact .int a0 b0
    . exact .int a1 b1
    . exact .int a2 b2
    . exact .int a3 b3
    . exact hm.ok
   refine ⟨_, (aj (aB (aF fv (hr.mono (by decide)) rfl T.g9 T.gH (af au (af (bu (af (dE (pv 0) rfl) (af (dE (pv 0) rfl) (af (dE (pv 0) rfl) (af (dE (pv 0) rfl) (af (dE (pv 0) rfl) ag)))))) ag))))), ?_⟩
   repeat' (walk_at "rd1")
   exact q _ (by walk_at "same")
def mD : V -> PyData
 | .int i => .int i
 | _ => .none
structure WO where
 (f l : Int)
 (h0 : 0 <= f) (h1 : f < 10 ^ 64) (h2 : 0 <= l) (h3 : l < 10 ^ 64)
structure W3 where
 (st sp wd : Int) (m : V) (d : PyData)
 (h0 : 0 <= st) (h1 : st < 10 ^ 64) (h2 : 0 <= sp) (h3 : sp < 10 ^ 64) (h4 : 0 <= wd) (h5 : wd < 10 ^ 64) (hm : mH m d)
structure W4 where
 (st gp mo wd : Int) (m : V) (d : PyData)
 (h0 : 0 <= st) (h1 : st < 10 ^ 64) (h2 : 0 <= gp) (h3 : gp < 10 ^ 64) (h4 : 0 <= mo) (h5 : mo < 10 ^ 64) (h6 : 0 <= wd) (h7 : wd < 10 ^ 64) (hm : mH m d)
def Dm (C : Addr) : Sp := fun vs H Q E => ∃ i : WO, d5 C "once" [("many", .int 1), ("first", .int i.f), ("last", .int i.l)] [.int i.f, .int i.l] vs H Q E
def Dr (C : Addr) : Sp := fun vs H Q E => ∃ i : W3, d5 C "each" [("many", i.m), ("start", .int i.st), ("step", .int i.sp), ("wide", .int i.wd)] [.int i.st, .int i.sp, .int i.wd, i.d] vs H Q E
def DJ (C : Addr) : Sp := fun vs H Q E => ∃ i : W3, d5 C "behind" [("many", i.m), ("start", .int i.st), ("gap", .int i.sp), ("wide", .int i.wd)] [.int i.st, .int i.sp, .int i.wd, i.d] vs H Q E
def DX (C : Addr) : Sp := fun vs H Q E => ∃ i : W4, d5 C "slowing" [("many", i.m), ("start", .int i.st), ("gap", .int i.gp), ("wide", .int i.wd), ("most", .int i.mo)] [.int i.st, .int i.gp, .int i.mo, .int i.wd, i.d] vs H Q E
theorem Ek (T : Txt K mg a) : qX P w K mg base 4 a.cF ["self"] [] (Dm a.bF) :=
 ⟨⟨_, _, bh.ex fun i : WO => vP T i.h0 i.h1 i.h2 i.h3, T.iO.binds fun _ _ _ _ _ _ => .all fun us hl => match us, hl with | [_], _ => rfl, .nil⟩⟩
theorem EC (T : Txt K mg a) : qX P w K mg base 4 a.cG ["self"] [] (Dr a.bo) :=
 ⟨⟨_, _, bh.ex fun i : W3 => vO T i.h0 i.h1 i.h2 i.h3 i.h4 i.h5 i.hm, T.ia.binds fun _ _ _ _ _ _ => .all fun us hl => match us, hl with | [_], _ => rfl, .nil⟩⟩
theorem E9 (T : Txt K mg a) : qX P w K mg base 4 a.bN ["self"] [] (DJ a.aD) :=
 ⟨⟨_, _, bh.ex fun i : W3 => vX T i.h0 i.h1 i.h2 i.h3 i.h4 i.h5 i.hm, T.fC.binds fun _ _ _ _ _ _ => .all fun us hl => match us, hl with | [_], _ => rfl, .nil⟩⟩
theorem Fw (T : Txt K mg a) : qX P w K mg base 4 a.bA ["self"] [] (DX a.aw) :=
 ⟨⟨_, _, bh.ex fun i : W4 => uV T i.h0 i.h1 i.h2 i.h3 i.h4 i.h5 i.h6 i.h7 i.hm, T.eT.binds fun _ _ _ _ _ _ => .all fun us hl => match us, hl with | [_], _ => rfl, .nil⟩⟩
theorem Lf {C : Addr} {H : Hp} {Q : VK} {E : XK} {v : V} {f l : Int} (hp : tj H v C [("many", .int 1), ("first", .int f), ("last", .int l)]) (h : 0 <= f /\ f < 10 ^ 64 /\ 0 <= l /\ l < 10 ^ 64) (q : ∀ H', ao H H' -> Q (.str (o6 "once" [.int f, .int l])) H') : Dm C [v] H Q E := ⟨⟨f, l, h.1, h.2.1, h.2.2.1, h.2.2.2⟩, pE hp q⟩
theorem Ly {C : Addr} {H : Hp} {Q : VK} {E : XK} {v : V} {st sp wd : Int} {m : V} (hp : tj H v C [("many", m), ("start", .int st), ("step", .int sp), ("wide", .int wd)]) (hm : mH m (mD m)) (h : 0 <= st /\ st < 10 ^ 64 /\ 0 <= sp /\ sp < 10 ^ 64 /\ 0 <= wd /\ wd < 10 ^ 64) (q : ∀ H', ao H H' -> Q (.str (o6 "each" [.int st, .int sp, .int wd, mD m])) H') : Dr C [v] H Q E := ⟨⟨st, sp, wd, m, _, h.1, h.2.1, h.2.2.1, h.2.2.2.1, h.2.2.2.2.1, h.2.2.2.2.2, hm⟩, pE hp q⟩
theorem Ls {C : Addr} {H : Hp} {Q : VK} {E : XK} {v : V} {st sp wd : Int} {m : V} (hp : tj H v C [("many", m), ("start", .int st), ("gap", .int sp), ("wide", .int wd)]) (hm : mH m (mD m)) (h : 0 <= st /\ st < 10 ^ 64 /\ 0 <= sp /\ sp < 10 ^ 64 /\ 0 <= wd /\ wd < 10 ^ 64) (q : ∀ H', ao H H' -> Q (.str (o6 "behind" [.int st, .int sp, .int wd, mD m])) H') : DJ C [v] H Q E := ⟨⟨st, sp, wd, m, _, h.1, h.2.1, h.2.2.1, h.2.2.2.1, h.2.2.2.2.1, h.2.2.2.2.2, hm⟩, pE hp q⟩
theorem Lk {C : Addr} {H : Hp} {Q : VK} {E : XK} {v : V} {st gp mo wd : Int} {m : V} (hp : tj H v C [("many", m), ("start", .int st), ("gap", .int gp), ("wide", .int wd), ("most", .int mo)]) (hm : mH m (mD m)) (h : 0 <= st /\ st < 10 ^ 64 /\ 0 <= gp /\ gp < 10 ^ 64 /\ 0 <= mo /\ mo < 10 ^ 64 /\ 0 <= wd /\ wd < 10 ^ 64) (q : ∀ H', ao H H' -> Q (.str (o6 "slowing" [.int st, .int gp, .int mo, .int wd, mD m])) H') : DX C [v] H Q E := ⟨⟨st, gp, mo, wd, m, _, h.1, h.2.1, h.2.2.1, h.2.2.2.1, h.2.2.2.2.1, h.2.2.2.2.2.1, h.2.2.2.2.2.2.1, h.2.2.2.2.2.2.2, hm⟩, pE hp q⟩
local macro_rules | `(tactic| walk_at "use") => `(tactic| first
 | ((with_reducible refine' Lf ?e0 ?e1 (fun _ _ => ?_)); (case e0 => walk_at "ins"); (case e1 => assumption))
 | ((with_reducible refine' Ly ?e0 ?e1 ?e2 (fun _ _ => ?_)); (case e0 => walk_at "ins"); (case e1 => assumption); (case e2 => assumption))
 | ((with_reducible refine' Ls ?e0 ?e1 ?e2 (fun _ _ => ?_)); (case e0 => walk_at "ins"); (case e1 => assumption); (case e2 => assumption))
 | ((with_reducible refine' Lk ?e0 ?e1 ?e2 (fun _ _ => ?_)); (case e0 => walk_at "ins"); (case e1 => assumption); (case e2 => assumption))
 | fail)
def dig (c : Nat) : Bool := decide (48 <= c) && decide (c <= 57)
def cL (l : List Nat) : List Nat := if (l.head? == some 45) = true then l.drop 1 else l
def qO (l : List Nat) : Bool := (decide (1 <= (cL l).length) && decide ((cL l).length <= 60)) && ((cL l).all dig && (l == [48] || (cL l).head? != some 48))
def fK (x : Str) : Bool := qO x.cps.toList
def jh (n : Nat) (x : Str) : Prop := x.length <= n /\ ∀ c ∈ x.cps.toList, c < 128
theorem jh.up {n m : Nat} {x : Str} (h : jh n x) (hm : n <= m) : jh m x := ⟨Nat.le_trans h.1 hm, h.2⟩
theorem fi (x : Str) : x.length = x.cps.toList.length := by show x.cps.size = _; simp
theorem pW {x : Str} (h : fK x = true) (hl : x.length <= 700) : ∃ n, PySem.intText? x = some n := by
 unfold fK qO at h
 simp only [Bool.and_eq_true, decide_eq_true_eq] at h
 obtain ⟨⟨h1, h2⟩, h3, h4⟩ := h
 have hd : PySem.NumText.AllDigits (cL x.cps.toList) := fun c hc => by
  have := List.all_eq_true.mp h3 c hc
  unfold dig at this
  simpa using this
 have j6 : cL x.cps.toList ≠ [] := fun e => by rw [e] at h1; simp at h1
 unfold cL at hd j6
 split at hd
 . rename_i c
   rw [if_pos c] at j6
   obtain ⟨r, er⟩ : ∃ r, x.cps.toList = 45 :: r := by
    cases e : x.cps.toList with
    | nil => rw [e] at c; simp at c
    | cons d r => rw [e] at c; simp at c; subst c; exact ⟨r, rfl⟩
   rw [er] at hd j6
   exact ⟨_, PySem.intText_neg er hd j6 (by omega)⟩
 . rename_i c
   rw [if_neg c] at j6
   exact ⟨_, PySem.intText_digits hd j6 (by omega)⟩
theorem MC : ∀ c : Fin 128, (Builtin.Str.occurrences "0123456789" ⟨#[c.val]⟩ 0 (Str.length "0123456789") 1).isEmpty = !dig c.val := by decide +kernel
theorem yR {n : Int} (h1 : -(10 ^ 60) < n) (h2 : n < 10 ^ 60) : jh 61 (toString n : String) := by
 have e : (toString n).length <= 60 + 1 := PySem.int_text_length_le10 (by decide) (by omega)
 refine ⟨by have : (Str.ofString (toString n)).length = (toString n).length := PySem.ofString_length _; omega, fun c hc => ?_⟩
 by_cases h : c < 128
 . exact h
 . exact absurd hc (PyProof.Rows.int_text_free' c ⟨by omega, by omega⟩ n)
def qf : Sp := fun vs H Q _ => ∃ x : Str, vs = [.str x] /\ jh 700 x /\ ∀ H', ao H H' -> Q (.bl (fK x)) H'
theorem BF {H : Hp} {Q : VK} {E : XK} {x : Str} (h : jh 700 x) (q : ∀ H', ao H H' -> Q (.bl (fK x)) H') : qf [.str x] H Q E := ⟨x, rfl, h, q⟩
local macro_rules | `(tactic| walk_at "use") => `(tactic| first
 | ((with_reducible refine' BF ?e1 (fun _ _ => ?_)); (case e1 => assumption))
 | fail)
theorem MG : (Str.ofString "-") = ⟨#[45]⟩ := by decide +kernel
theorem Kl : (Str.ofString "0") = ⟨#[48]⟩ := by decide +kernel
theorem Af {l : List Nat} {c : Nat} (h : c ∈ cL l) : c ∈ l := by
 unfold cL at h
 split at h
 . exact List.mem_of_mem_drop h
 . exact h
theorem z0 (l : List Nat) : (cL l).length <= l.length := by
 unfold cL
 split
 . rw [List.length_drop]; omega
 . exact Nat.le_refl _
def GX (x : Str) : Str := ⟨(cL x.cps.toList).toArray⟩
theorem CP {x : Str} {n : Nat} (h : jh n x) : ∃ r : Str, GX x = r /\ r.cps.toList = cL x.cps.toList /\ jh n r := by
 refine ⟨_, rfl, rfl, ?_, fun c hc => h.2 c (Af hc)⟩
 have h1 := z0 x.cps.toList
 have h2 := h.1
 rw [fi] at h2 ⊢
 show (cL x.cps.toList).length <= n
 omega
theorem CI {x : Str} (h : (x.cps.toList.head? == some 45) = true) : lB x (some 1) none = GX x := by
 rw [vA]
 unfold GX cL
 rw [if_pos h]
theorem B6 {x : Str} (h : (x.cps.toList.head? == some 45) = false) : x = GX x := by
 unfold GX cL
 rw [if_neg (by rw [h]; decide)]
theorem tY {x : Str} (h : ¬ (cL x.cps.toList).length <= 60) : fK x = false := by
 unfold fK qO
 rw [decide_eq_false h]
 simp
theorem rG {x : Str} (h : ¬ 1 <= (cL x.cps.toList).length) : fK x = false := by
 unfold fK qO
 rw [decide_eq_false h]
 simp
theorem BZ {x : Str} (h : (cL x.cps.toList).all dig = false) : fK x = false := by
 unfold fK qO
 rw [h]
 simp
theorem CZ {x : Str} (h1 : 1 <= (cL x.cps.toList).length) (h2 : (cL x.cps.toList).length <= 60) (h3 : (cL x.cps.toList).all dig = true) : fK x = (x.cps.toList == [48] || (cL x.cps.toList).head? != some 48) := by
 unfold fK qO
 rw [h3, decide_eq_true h1, decide_eq_true h2]
 rfl
theorem Bk (c : Nat) (t : List Nat) : (!decide (V.str ⟨#[c]⟩ = V.str (Str.ofString "0"))) = ((c :: t).head? != some 48) := by
 rw [Kl, Bool.eq_iff_iff]
 simp
theorem ua {x : Str} (h : V.str x = V.str (Str.ofString "0")) : fK x = true := by
 rw [Kl] at h
 cases h
 decide
theorem uf {r : Str} {l : List Nat} (h : r.cps.toList = l) (h1 : 1 <= l.length) : ∃ c t, l = c :: t /\ oI r.cps.toList 0 = some c := by
 subst h
 cases e : r.cps.toList with
 | nil => rw [e] at h1; simp at h1
 | cons c t => exact ⟨c, t, rfl, by have z : oI (c :: t) ((0 : Nat) : Int) = some c := jU rfl; exact z⟩
theorem Od (x : Str) : decide (V.str x = V.str (Str.ofString "0")) = (x.cps.toList == [48]) := by
 rw [Kl, Bool.eq_iff_iff, decide_eq_true_eq, beq_iff_eq]
 constructor
 . intro h; cases h; rfl
 . intro h
   obtain ⟨⟨l⟩⟩ := x
   cases (show l = [48] from h)
   rfl
theorem wO {x : Str} {c : Nat} {t : List Nat} (h : ¬ V.str x = V.str (Str.ofString "0")) (hl : cL x.cps.toList = c :: t) (h2 : (cL x.cps.toList).length <= 60) (h3 : (cL x.cps.toList).all dig = true) : fK x = !decide (V.str ⟨#[c]⟩ = V.str (Str.ofString "0")) := by
 rw [CZ (by rw [hl]; simp) h2 h3, <- Od, decide_eq_false h, hl, Bk c t]
 rfl
theorem sP (T : Txt K mg a) : bh P w K mg base qL 1 a.cA a.mL ["text"] qf := by
 refine T.jC.ok mO (fun vs H Q E h => ?_) (fun di A outer s H vs Q E hr h => ?_)
 . obtain ⟨_, rfl, _⟩ := h; rfl
 . obtain ⟨x, rfl, hx, q⟩ := h
   have GH := hx.1
   refine ⟨_, (mj (cw (i := 1) mO.nd rfl (Or.inl rfl) (ni (eH (qz PySem.F.plainAttrs_str PySem.F.slot_str_startswith PySem.F.type_str_startswith xA (pv 0) (af au ag)) (fun _ => rfl)) (bt BO (pv 0) (bP ah) cm) (pv 0)))
    (ai (bD (PW.pt (pR (ot (za rg rg ah (aU cu rfl T.dZ PySem.boot_len (af (pv 1) ag)) (iM (v := .int 60) rfl T.iW ⟨_, rfl⟩))) (qG (ot (eH (aU (x8 rfl) rfl T.sD PyProof.Rows.boot_all (af (DU (T := ["sign"]) (M := ["text", "row"]) (Io (ak gb) ["text", "row"] rfl rfl (by decide +kernel)) rfl (zq (pv 1)) (fun _ _ _ _ _ => (gw (i := 0) (show List.Nodup (["sign", "text", "row"] : List Str) by decide +kernel) rfl (Or.inl rfl))) (gL (by decide)) (fun _ _ _ _ _ => mn) (fun _ _ _ _ _ => (dt C0 (pv 0) (iM (v := .str "0123456789") rfl T.qx ⟨_, rfl⟩) rfl))) ag)) (fun _ => rfl))))))
     (aj (aB rE))
     aG)
    (aj (aB (Iq (dt (aY hr.kc) (pv 0) au (ax _)) (jI (dt (vR hr.kc) (a8 cV (pv 1) ah (fun _ _ => rfl)) au (ax _)))))))), ?_⟩
   refine rQ (fun σ' H' => H' = H /\ σ' = [some (.str x), some (.str (GX x))]) ?_ ?_
   . repeat' (walk_at "rd1")
     . rename_i hb
       rw [MG, qF] at hb
       rw [CI hb]
       exact ⟨rfl, rfl⟩
     . rename_i hb
       rw [MG, qF] at hb
       exact ⟨rfl, by rw [<- B6 hb]; rfl⟩
   rintro σ' H' ⟨rfl, rfl⟩
   obtain ⟨r, er, JG, Mx⟩ := CP hx
   rw [er]
   have O2 := Mx.1
   have L9 : r.length = (cL x.cps.toList).length := by rw [fi, JG]
   repeat' (walk_at "rd1")
   . rename_i b1 b2
     have := q H' (ao.refl _)
     rw [tY (by omega)] at this
     exact this
   . rename_i b1 b2
     refine Jr (fun _ => true) (fun c => .bool (dig c)) (by show r.length <= 4000; omega) (fun _ => rfl) (fun c H2 N hc sm yes no => ?_) (fun pq H2 sm hn vV => ?_)
     . have ho := MC ⟨c, Mx.2 c hc⟩
       repeat' (walk_at "rd1")
       refine qA (fun _ => ?_) (fun hb => by cases hb)
       repeat' (walk_at "rd1")
       refine yes rfl _ _ (ao.refl _) ?_
       have oW : (!(Builtin.Str.occurrences "0123456789" ⟨#[c]⟩ 0 (Str.length "0123456789") 1).isEmpty) = dig c := by rw [ho, Bool.not_not]
       rw [<- oW]
       exact .bl _
     . have Nx : dk H2 pq ((r.cps.toList.map dig).map PyData.bool) := by
        have e : (r.cps.toList.filter fun _ => true) = r.cps.toList := List.filter_eq_self.mpr (fun _ _ => rfl)
        rw [e] at vV
        rw [List.map_map]
        exact vV
       have gF : (r.cps.toList.map dig).all id = (cL x.cps.toList).all dig := by rw [List.all_map, JG]; rfl
       repeat' (walk_at "rd1")
       . rename_i hb
         rw [gF] at hb
         have := q H2 sm
         rw [BZ hb] at this
         exact this
       . rename_i hb hz
         have := q H2 sm
         rw [ua hz] at this
         exact this
       . rename_i hb hz
         obtain ⟨c, t, el, ei⟩ := uf JG (by omega)
         refine yS (by rw [PySem.sizeLine_eq]; omega) ei ?_
         repeat' (walk_at "rd1")
         have := q H2 sm
         rw [wO hz el (by omega) (by rw [<- gF]; exact hb)] at this
         exact this
   . rename_i b1 b2
     have := q H' (ao.refl _)
     rw [rG (by omega)] at this
     exact this
theorem qZ (T : Txt K mg a) : qX P w K mg base 1 a.cA ["text"] [] qf :=
 ⟨⟨_, _, sP T, T.jC.binds fun _ _ _ _ _ _ => .all fun us hl => match us, hl with | [_], _ => rfl, .nil⟩⟩
def rd (x : Str) : Option Int := if fK x = true then PySem.intText? x else none
def aW (x : Str) : Int := match rd x with
 | some n => if 0 <= n then n else -1
 | none => -1
theorem Ef : ∀ (cs : List Nat), PySem.NumText.AllDigits cs -> ∀ k, cs.foldl (fun acc c => acc * 10 + (c - 48)) k < (k + 1) * 10 ^ cs.length
 | [], _, k => by simp
 | c :: cs, h, k => by
   have h1 := Ef cs h.tail (k * 10 + (c - 48))
   have h2 := h.head
   rw [List.foldl_cons, List.length_cons]
   have h3 : (k * 10 + (c - 48) + 1) * 10 ^ cs.length <= ((k + 1) * 10) * 10 ^ cs.length := Nat.mul_le_mul_right _ (by omega)
   have h4 : (k + 1) * 10 ^ (cs.length + 1) = ((k + 1) * 10) * 10 ^ cs.length := by rw [Nat.pow_succ, Nat.mul_comm (10 ^ cs.length) 10, Nat.mul_assoc]
   omega
theorem Cd {cs : List Nat} (h : PySem.NumText.AllDigits cs) (hl : cs.length <= 60) : PySem.NumText.digitsVal cs < 10 ^ 60 := by
 have h1 := Ef cs h 0
 have h2 : (10 : Nat) ^ cs.length <= 10 ^ 60 := Nat.pow_le_pow_right (by decide) hl
 unfold PySem.NumText.digitsVal
 omega
theorem uD : ∀ {cs : List Nat}, PySem.NumText.AllDigits cs -> (cs.map Char.ofNat).map Char.toNat = cs
 | [], _ => rfl
 | c :: cs, h => by
   have h1 := h.head
   have : (Char.ofNat c).toNat = c := by
    have z : ∀ c < 58, (Char.ofNat c).toNat = c := by decide
    exact z c (by omega)
   rw [List.map_cons, List.map_cons, this, uD h.tail]
theorem xc {cs : List Nat} (h : cs.all dig = true) : PySem.NumText.AllDigits cs := fun c hc => by
 have := List.all_eq_true.mp h c hc
 unfold dig at this
 simpa using this
theorem str_list {x y : Str} (h : x.cps.toList = y.cps.toList) : x = y := by
 obtain ⟨⟨l⟩⟩ := x
 obtain ⟨⟨m⟩⟩ := y
 cases (show l = m from h)
 rfl
theorem zg {x : Str} (h : PySem.NumText.AllDigits x.cps.toList) (j6 : x.cps.toList ≠ []) (hz : x.cps.toList = [48] \/ x.cps.toList.head? ≠ some 48) : x = mh (PySem.NumText.digitsVal x.cps.toList : Nat) := by
 refine str_list ?_
 unfold mh
 rw [PySem.W.KIN.signs_num, PySem.NumText.toDigits_all _ h]
 rcases hz with e | e
 . rw [e]; decide
 . cases el : x.cps.toList with
   | nil => exact absurd el j6
   | cons c r =>
     rw [el] at e h
     have hc : ¬ c = 48 := fun z => e (by rw [z]; rfl)
     rw [List.dropWhile_cons, if_neg (by rw [beq_iff_eq]; exact hc)]
     exact (uD h).symm
theorem qq (x : Str) : (rd x = none /\ aW x = -1) \/ (∃ n, n < 0 /\ rd x = some n /\ aW x = -1) \/ ∃ n : Int, 0 <= n /\ n < 10 ^ 60 /\ rd x = some n /\ aW x = n /\ x = mh n /\ x.cps.toList.all dig = true := by
 by_cases hn : fK x = true
 . have e : rd x = PySem.intText? x := if_pos hn
   have h := hn
   unfold fK qO at h
   simp only [Bool.and_eq_true, decide_eq_true_eq] at h
   obtain ⟨⟨h1, h2⟩, h3, h4⟩ := h
   have hd := xc h3
   have j6 : cL x.cps.toList ≠ [] := fun z => by rw [z] at h1; simp at h1
   have hlen : x.length <= 61 := by
    rw [fi]
    unfold cL at h2
    split at h2
    . rw [List.length_drop] at h2; omega
    . omega
   by_cases c : (x.cps.toList.head? == some 45) = true
   . obtain ⟨r, er⟩ : ∃ r, x.cps.toList = 45 :: r := by
      cases e : x.cps.toList with
      | nil => rw [e] at c; simp at c
      | cons d r => rw [e] at c; simp at c; subst c; exact ⟨r, rfl⟩
     have rr : cL x.cps.toList = r := by unfold cL; rw [if_pos c, er]; rfl
     rw [rr] at hd j6 h4
     have e2 := PySem.intText_neg er hd j6 (by omega)
     have sy : 0 < PySem.NumText.digitsVal r := by
      cases r with
      | nil => exact absurd rfl j6
      | cons d t =>
        have := hd.head
        have Om : d ≠ 48 := fun z => by rw [er, z] at h4; simp at h4
        exact PySem.NumText.digitsVal_pos (by omega)
     refine .inr (.inl ⟨_, ?_, e.trans e2, ?_⟩)
     . omega
     . unfold aW
       rw [e, e2]
       simp only
       rw [if_neg (by omega)]
   . have rr : cL x.cps.toList = x.cps.toList := by unfold cL; rw [if_neg c]
     rw [rr] at hd j6 h4 h2 h3
     have e2 := PySem.intText_digits hd j6 (by omega)
     have hz : x.cps.toList = [48] \/ x.cps.toList.head? ≠ some 48 := by simpa using h4
     have rJ := Cd hd h2
     refine .inr (.inr ⟨_, Int.natCast_nonneg _, by omega, e.trans e2, ?_, zg hd j6 hz, h3⟩)
     unfold aW
     rw [e, e2]
     simp only
     rw [if_pos (Int.natCast_nonneg _)]
 . left
   have e : rd x = none := if_neg hn
   exact ⟨e, by unfold aW; rw [e]⟩
theorem eh {x : Str} (h : 0 <= aW x) : rd x = some (aW x) /\ x = mh (aW x) /\ aW x < 10 ^ 60 := by
 rcases qq x with ⟨_, e⟩ | ⟨_, _, _, e⟩ | ⟨n, h0, h1, e1, e2, e3, _⟩
 . omega
 . omega
 . rw [e2]; exact ⟨e1, e3, h1⟩
theorem nG {x : Str} {n : Int} (h : rd x = some n) : (n < 0 /\ aW x = -1) \/ (0 <= n /\ n < 10 ^ 60 /\ aW x = n /\ x = mh n) := by
 rcases qq x with ⟨e, _⟩ | ⟨m, h1, e, e2⟩ | ⟨m, h0, h1, e, e2, e3, _⟩
 . rw [e] at h; cases h
 . rw [e] at h; cases h; exact .inl ⟨h1, e2⟩
 . rw [e] at h; cases h; exact .inr ⟨h0, h1, e2, e3⟩
def uJ (x : Str) : Option V := if x = Str.ofString "ever" then some .cq else (rd x).map V.int
theorem nh {x : Str} {m : V} (h : uJ x = some m) : (x = Str.ofString "ever" /\ m = .cq) \/ ∃ n, ¬ x = Str.ofString "ever" /\ rd x = some n /\ m = .int n := by
 unfold uJ at h
 split at h
 . rename_i e
   cases h
   exact .inl ⟨e, rfl⟩
 . rename_i e
   cases e2 : rd x with
   | none => rw [e2] at h; cases h
   | some n => rw [e2] at h; cases h; exact .inr ⟨n, e, rfl, rfl⟩
inductive pK : List Str -> Str -> List V -> Prop
 | once {w1 w2 : Str} {f l : Int} : rd w1 = some f -> rd w2 = some l -> pK [Str.ofString "once", w1, w2] (Str.ofString "once") [.int f, .int l]
 | each {w1 w2 w3 w4 : Str} {x y z : Int} {m : V} : rd w1 = some x -> rd w2 = some y -> rd w3 = some z -> uJ w4 = some m -> pK [Str.ofString "each", w1, w2, w3, w4] (Str.ofString "each") [.int x, .int y, .int z, m]
 | behind {w1 w2 w3 w4 : Str} {x y z : Int} {m : V} : rd w1 = some x -> rd w2 = some y -> rd w3 = some z -> uJ w4 = some m -> pK [Str.ofString "behind", w1, w2, w3, w4] (Str.ofString "behind") [.int x, .int y, .int z, m]
 | jJ {w1 w2 w3 w4 w5 : Str} {x y u z : Int} {m : V} : rd w1 = some x -> rd w2 = some y -> rd w3 = some u -> rd w4 = some z -> uJ w5 = some m -> pK [Str.ofString "slowing", w1, w2, w3, w4, w5] (Str.ofString "slowing") [.int x, .int y, .int u, .int z, m]
def wJ (kd : Str) (us : List V) : Bool := if kd = Str.ofString "once" then A5 us else if kd = Str.ofString "each" then yE us else if kd = Str.ofString "behind" then v9 us else Bc us
theorem tB : ¬ Str.ofString "each" = Str.ofString "once" := by decide +kernel
theorem t4 : ¬ Str.ofString "behind" = Str.ofString "once" := by decide +kernel
theorem uy : ¬ Str.ofString "slowing" = Str.ofString "once" := by decide +kernel
theorem vk : ¬ Str.ofString "behind" = Str.ofString "each" := by decide +kernel
theorem xR : ¬ Str.ofString "slowing" = Str.ofString "each" := by decide +kernel
theorem yx : ¬ Str.ofString "slowing" = Str.ofString "behind" := by decide +kernel
theorem xl {us : List V} : wJ (Str.ofString "once") us = A5 us := if_pos rfl
theorem xg {us : List V} : wJ (Str.ofString "each") us = yE us := by unfold wJ; rw [if_neg tB, if_pos rfl]
theorem xu {us : List V} : wJ (Str.ofString "behind") us = v9 us := by unfold wJ; rw [if_neg t4, if_neg vk, if_pos rfl]
theorem wu {us : List V} : wJ (Str.ofString "slowing") us = Bc us := by unfold wJ; rw [if_neg uy, if_neg xR, if_neg yx]
def GoodW (ws : List Str) : Prop := ∃ kd us, pK ws kd us /\ wJ kd us = true
theorem pK.det {ws : List Str} {k1 k2 : Str} {u1 u2 : List V} (h : pK ws k1 u1) (g : pK ws k2 u2) : k1 = k2 /\ u1 = u2 := by
 have e : ∀ {α : Type} {o : Option α} {x y : α}, o = some x -> o = some y -> x = y := fun h g => Option.some.inj (h.symm.trans g)
 generalize ew : ws = OQ at g
 cases h with
 | once a1 a2 =>
   cases g with
   | once b1 b2 =>
     injection ew with _ ew; injection ew with e1 ew; injection ew with e2 _
     subst e1; subst e2
     rw [e a1 b1, e a2 b2]; exact ⟨rfl, rfl⟩
   | each => simp at ew
   | behind => simp at ew
   | jJ => simp at ew
 | each a1 a2 a3 a4 =>
   cases g with
   | once => simp at ew
   | each b1 b2 b3 b4 =>
     injection ew with _ ew; injection ew with e1 ew; injection ew with e2 ew; injection ew with e3 ew; injection ew with e4 _
     subst e1; subst e2; subst e3; subst e4
     rw [e a1 b1, e a2 b2, e a3 b3, e a4 b4]; exact ⟨rfl, rfl⟩
   | behind => injection ew with e0 _; exact absurd e0.symm vk
   | jJ => simp at ew
 | behind a1 a2 a3 a4 =>
   cases g with
   | once => simp at ew
   | each => injection ew with e0 _; exact absurd e0 vk
   | behind b1 b2 b3 b4 =>
     injection ew with _ ew; injection ew with e1 ew; injection ew with e2 ew; injection ew with e3 ew; injection ew with e4 _
     subst e1; subst e2; subst e3; subst e4
     rw [e a1 b1, e a2 b2, e a3 b3, e a4 b4]; exact ⟨rfl, rfl⟩
   | jJ => simp at ew
 | jJ a1 a2 a3 a4 a5 =>
   cases g with
   | once => simp at ew
   | each => simp at ew
   | behind => simp at ew
   | jJ b1 b2 b3 b4 b5 =>
     injection ew with _ ew; injection ew with e1 ew; injection ew with e2 ew; injection ew with e3 ew; injection ew with e4 ew; injection ew with e5 _
     subst e1; subst e2; subst e3; subst e4; subst e5
     rw [e a1 b1, e a2 b2, e a3 b3, e a4 b4, e a5 b5]; exact ⟨rfl, rfl⟩
def yU (C : Addr) : Sp := fun vs H Q E => ∃ x, vs = [.str x] /\ jh 700 x /\ (rd x = none -> ∀ H', ao H H' -> E (.ref C) none H') /\ (∀ n, rd x = some n -> ∀ H', ao H H' -> Q (.int n) H')
theorem Ac {C : Addr} {H : Hp} {Q : VK} {E : XK} {x : Str} (hx : jh 700 x) (h : rd x = none -> ∀ H', ao H H' -> E (.ref C) none H') (q : ∀ n, rd x = some n -> ∀ H', ao H H' -> Q (.int n) H') : yU C [.str x] H Q E := ⟨x, rfl, hx, h, q⟩
theorem Hm (T : Txt K mg a) : bh P w K mg base (nN P w) 2 a.bU a.kX ["text"] (yU a.aq) := by
 have jv := lr (P := P) (w := w) (base := base) T
 have uH := qZ (P := P) (w := w) (base := base) T
 refine T.iq.Aw qN (fun vs H Q E h => ?_) (fun di A outer s H vs Q E hr h => ?_)
 . obtain ⟨_, rfl, _⟩ := h; rfl
 . obtain ⟨x, rfl, hx, e, q⟩ := h
   have GH := hx.1
   refine ⟨_, (ai (bw (bE jv (hr.mono (by decide)) rfl T.jY T.jV dh (af (jH (aU nE rfl T.aX PyProof.Rows.boot_isinstance (af (pv 0) (af (pB (v := .ty "str") rfl T.cJ PyProof.Rows.boot_str rfl) ag))) (jI (aF uH (hr.mono (by decide)) rfl T.lT T.lY (af (pv 0) ag)))) ag)))
    (aj (aB (a6 rO rfl T.nR PyProof.Rows.boot_int (af (pv 0) ag))))), ?_⟩
   repeat' (walk_at "rd1")
   . intro hn
     exact e (if_neg (by rw [hn]; decide)) _ (by walk_at "same")
   . intro hn
     obtain ⟨n, en⟩ := pW hn hx.1
     have er : rd x = some n := by unfold rd; rw [if_pos hn, en]
     have Lw : x.length <= 640 := by
      unfold fK qO at hn
      simp only [Bool.and_eq_true, decide_eq_true_eq] at hn
      have h2 := hn.1.2
      rw [fi]
      unfold cL at h2
      split at h2
      . rw [List.length_drop] at h2; omega
      . omega
     repeat' (walk_at "rd1")
     exact q n er _ (by walk_at "same")
theorem yO (T : Txt K mg a) : lM P w K mg base 2 a.bU ["text"] [] (yU a.aq) :=
 ⟨⟨_, _, Hm T, T.iq.binds fun _ _ _ _ _ _ => .all fun us hl => match us, hl with | [_], _ => rfl, .nil⟩⟩
def AB (C : Addr) : Sp := fun vs H Q E => ∃ x, vs = [.str x] /\ jh 700 x /\ (uJ x = none -> ∀ H', ao H H' -> E (.ref C) none H') /\ (∀ m, uJ x = some m -> ∀ H', ao H H' -> Q m H')
theorem EH {C : Addr} {H : Hp} {Q : VK} {E : XK} {x : Str} (hx : jh 700 x) (h : uJ x = none -> ∀ H', ao H H' -> E (.ref C) none H') (q : ∀ m, uJ x = some m -> ∀ H', ao H H' -> Q m H') : AB C [.str x] H Q E := ⟨x, rfl, hx, h, q⟩
theorem G9 (T : Txt K mg a) : bh P w K mg base (nN P w) 3 a.cD a.lU ["word"] (AB a.aq) := by
 have fe := yO (P := P) (w := w) (base := base) T
 refine T.jy.Aw sJ (fun vs H Q E h => ?_) (fun di A outer s H vs Q E hr h => ?_)
 . obtain ⟨_, rfl, _⟩ := h; rfl
 . obtain ⟨x, rfl, hx, e, q⟩ := h
   refine ⟨_, (aj (aB (ni (ay (aY hr.kc) (pv 0) au (ax _)) p9 (bE fe (hr.mono (by decide)) rfl T.eC T.eo dh (af (pv 0) ag))))), ?_⟩
   repeat' (walk_at "rd1")
   . rename_i hb
     injection hb with hb
     exact q _ (if_pos hb) _ (ao.refl _)
   . rename_i hb
     have hb : ¬ x = Str.ofString "ever" := fun z => hb (by rw [z])
     refine Ac hx (fun e1 H' s' => e ?_ H' s') (fun n e1 H' s' => ?_)
     . unfold uJ; rw [if_neg hb, e1]; rfl
     . repeat' (walk_at "rd1")
       exact q _ (by unfold uJ; rw [if_neg hb, e1]; rfl) _ s'
theorem FO (T : Txt K mg a) : lM P w K mg base 3 a.cD ["word"] [] (AB a.aq) :=
 ⟨⟨_, _, G9 T, T.jy.binds fun _ _ _ _ _ _ => .all fun us hl => match us, hl with | [_], _ => rfl, .nil⟩⟩
theorem BU : yH a9 (Str.ofString "once") = some 2 := by decide +kernel
theorem CT : yH a9 (Str.ofString "each") = some 4 := by decide +kernel
theorem yw : yH a9 (Str.ofString "behind") = some 4 := by decide +kernel
theorem Bm : yH a9 (Str.ofString "slowing") = some 5 := by decide +kernel
theorem CM {k : Str} (h1 : ¬ k = Str.ofString "once") (h2 : ¬ k = Str.ofString "each") (h3 : ¬ k = Str.ofString "behind") (h4 : ¬ k = Str.ofString "slowing") : yH a9 k = none := by
 unfold yH
 simp only [List.find?_cons, decide_eq_false (fun z => h1 (Eq.symm z)), decide_eq_false (fun z => h2 (Eq.symm z)), decide_eq_false (fun z => h3 (Eq.symm z)), decide_eq_false (fun z => h4 (Eq.symm z)), List.find?_nil, Option.map_none]
def uY (C : Addr) : Sp := fun vs H Q E => ∃ p w0 rest, vs = [.ref p] /\ dk H p (.str w0 :: rest.map PyData.str) /\ (∀ x ∈ rest, jh 700 x) /\ rest.length <= 1000 /\ ((¬ ∃ kd us, pK (w0 :: rest) kd us) -> ∀ H', ao H H' -> E (.ref C) none H') /\ (∀ kd us, pK (w0 :: rest) kd us -> ∀ v H', ao H H' -> Dv H' v (.tuple [.str kd, .list (us.map mD)]) -> Q v H')
theorem Hx {C : Addr} {H : Hp} {Q : VK} {E : XK} {p : Addr} {w0 : Str} {rest : List Str} (hd : dk H p (.str w0 :: rest.map PyData.str)) (ha : ∀ x ∈ rest, jh 700 x) (hl : rest.length <= 1000) (h : (¬ ∃ kd us, pK (w0 :: rest) kd us) -> ∀ H', ao H H' -> E (.ref C) none H') (q : ∀ kd us, pK (w0 :: rest) kd us -> ∀ v H', ao H H' -> Dv H' v (.tuple [.str kd, .list (us.map mD)]) -> Q v H') : uY C [.ref p] H Q E := ⟨p, w0, rest, rfl, hd, ha, hl, h, q⟩
local macro_rules | `(tactic| walk_at "rd1") => `(tactic| first
 | with_reducible refine Fc ?_
 | with_reducible refine BH ?_
 | ((with_reducible refine' IA ?e1 ?_); (case e1 => assumption))
 | ((with_reducible refine' Gg ?e1 ?_); (case e1 => assumption))
 | ((with_reducible refine' Eo ?e1 ?_); (case e1 => assumption))
 | fail)
theorem wC {x : PyData} {l : List Str} {n : Int} (h : id (decide (V.int ((x :: l.map PyData.str).length : Nat) = V.int (n + 1))) = true) : (l.length : Int) = n := by
 simp only [id, decide_eq_true_eq, V.int.injEq, List.length_cons, List.length_map] at h; omega
theorem wq {x : PyData} {l : List Str} {n : Int} (h : id (decide (V.int ((x :: l.map PyData.str).length : Nat) = V.int (n + 1))) = false) : ¬ (l.length : Int) = n := by
 simp only [id, decide_eq_false_iff_not, V.int.injEq, List.length_cons, List.length_map] at h; omega
def GY (x : Str) (d : PyData) : Prop := ∃ n, rd x = some n /\ d = .int n
theorem pA (x : Str) (d : PyData) (h : GY x d) : sR d = true := by obtain ⟨n, _, rfl⟩ := h; rfl
theorem nM : ∀ {ws : List Str} {ds : List PyData}, ds.length = ws.length -> (∀ (i : Nat) c d, ws[i]? = some c -> ds[i]? = some d -> GY c d) -> ∃ ns : List Int, ds = ns.map PyData.int /\ ws.map rd = ns.map some
 | [], [], _, _ => ⟨[], rfl, rfl⟩
 | w :: ws, d :: ds, hl, h => by
   obtain ⟨n, h1, rfl⟩ := h 0 w d rfl rfl
   obtain ⟨ns, h2, h3⟩ := nM (by simpa using hl) fun i c d hc hd => h (i + 1) c d (by simpa using hc) (by simpa using hd)
   exact ⟨n :: ns, by rw [h2]; rfl, by rw [List.map_cons, h1, h3]; rfl⟩
theorem iS {w0 : Str} {rest : List Str} {kd : Str} {us : List V} (h : pK (w0 :: rest) kd us) : kd = w0 /\ us.length = rest.length /\ ((w0 = Str.ofString "once" /\ rest.length = 2) \/ (w0 = Str.ofString "each" /\ rest.length = 4) \/ (w0 = Str.ofString "behind" /\ rest.length = 4) \/ (w0 = Str.ofString "slowing" /\ rest.length = 5)) := by
 cases h with
 | once => exact ⟨rfl, rfl, .inl ⟨rfl, rfl⟩⟩
 | each => exact ⟨rfl, rfl, .inr (.inl ⟨rfl, rfl⟩)⟩
 | behind => exact ⟨rfl, rfl, .inr (.inr (.inl ⟨rfl, rfl⟩))⟩
 | jJ => exact ⟨rfl, rfl, .inr (.inr (.inr ⟨rfl, rfl⟩))⟩
theorem pI {w0 x : Str} {rest : List Str} (hx : x ∈ if w0 = Str.ofString "once" then rest else rest.dropLast) (h : rd x = none) : ¬ ∃ kd us, pK (w0 :: rest) kd us := by
 rintro ⟨kd, us, hs⟩
 cases hs with
 | once a1 a2 =>
   rw [if_pos rfl] at hx
   simp only [List.mem_cons, List.not_mem_nil, or_false] at hx
   rcases hx with rfl | rfl <;> simp_all
 | each a1 a2 a3 a4 =>
   rw [if_neg tB] at hx
   simp only [List.dropLast, List.mem_cons, List.not_mem_nil, or_false] at hx
   rcases hx with rfl | rfl | rfl <;> simp_all
 | behind a1 a2 a3 a4 =>
   rw [if_neg t4] at hx
   simp only [List.dropLast, List.mem_cons, List.not_mem_nil, or_false] at hx
   rcases hx with rfl | rfl | rfl <;> simp_all
 | jJ a1 a2 a3 a4 a5 =>
   rw [if_neg uy] at hx
   simp only [List.dropLast, List.mem_cons, List.not_mem_nil, or_false] at hx
   rcases hx with rfl | rfl | rfl | rfl <;> simp_all
theorem pN {w0 x : Str} {rest : List Str} (h0 : ¬ w0 = Str.ofString "once") (hx : rest.getLast? = some x) (h : uJ x = none) : ¬ ∃ kd us, pK (w0 :: rest) kd us := by
 rintro ⟨kd, us, hs⟩
 cases hs with
 | once => exact h0 rfl
 | each a1 a2 a3 a4 => simp at hx; subst hx; rw [h] at a4; cases a4
 | behind a1 a2 a3 a4 => simp at hx; subst hx; rw [h] at a4; cases a4
 | jJ a1 a2 a3 a4 a5 => simp at hx; subst hx; rw [h] at a5; cases a5
theorem wg {x : Str} {m : V} {H : Hp} (h : uJ x = some m) : Dv H m (mD m) /\ aP [mD m] = true := by
 rcases nh h with ⟨_, rfl⟩ | ⟨n, _, _, rfl⟩
 . exact ⟨.cq, rfl⟩
 . exact ⟨.int n, rfl⟩
local macro_rules | `(tactic| walk_at "rd1") => `(tactic| first
 | ((with_reducible refine' vm ?e1 ?e2 ?e3 (fun _ _ _ _ _ => ?_)); (case e1 => exact uz rfl); (case e2 => walk_at "dats"); (case e3 => assumption))
 | fail)
theorem FU (T : Txt K mg a) (aT : gP w K a.bJ a9) : bh P w K mg base (nN P w) 4 a.bT a.kC ["words"] (uY a.aq) := by
 have jv := lr (P := P) (w := w) (base := base) T
 have fe := yO (P := P) (w := w) (base := base) T
 have ud := FO (P := P) (w := w) (base := base) T
 refine T.iw.Aw kz (fun vs H Q E h => ?_) (fun di A outer s H vs Q E hr h => ?_)
 . obtain ⟨_, _, _, rfl, _⟩ := h; rfl
 . obtain ⟨p, w0, rest, rfl, hd, ha, hlen, e, q⟩ := h
   refine ⟨_, (ai (cw (i := 1) kz.nd rfl (Or.inl rfl) (ni (eH (pv 0) (fun _ => rfl)) (a8 cV (pv 0) ah (fun _ _ => rfl)) au))
    (ai (bw (bE jv (hr.mono (by decide)) rfl T.jY T.jV dh (af (jH (Es (FV aT (pv 1) (iM (v := .ref a.bJ) rfl T.ic rfl)) rfl) (jI (dt (aY hr.kc) (aU cu rfl T.dZ PySem.boot_len (af (pv 0) ag)) (aM lD (Bi aT (iM (v := .ref a.bJ) rfl T.ic rfl) (pv 1) (fun _ _ => rfl)) ah) (ax _)))) ag)))
    (ai (bD (ay (aY hr.kc) (pv 1) au (ax _))
     (aj (aB (wL (af (pv 1) (af (AA (T := ["word"]) (M := ["words", "kind"]) (Io (ak dR) ["words", "kind"] rfl rfl (by decide +kernel)) rfl (pG (bt cn (pv 0) (bP ah) cm)) (fun _ _ _ _ _ => (gw (i := 0) (show List.Nodup (["word", "words", "kind"] : List Str) by decide +kernel) rfl (Or.inl rfl))) (gL (by decide)) (fun _ _ _ _ _ => mn) ⟨rfl, rfl, rfl⟩ Ea (fun _ _ _ _ _ _ _ KP => (bE fe (hr.mono (by decide)) rfl T.eC T.eo KP (af (pv 0) ag)))) ag)))))
     aG)
    (aj (aB (wL (af (pv 1) (af (aM eN (AA (T := ["word"]) (M := ["words", "kind"]) (Io (ak dR) ["words", "kind"] rfl rfl (by decide +kernel)) rfl (pG (bt cn (pv 0) (bP ah) (bP (qd lJ ah)))) (fun _ _ _ _ _ => (gw (i := 0) (show List.Nodup (["word", "words", "kind"] : List Str) by decide +kernel) rfl (Or.inl rfl))) (gL (by decide)) (fun _ _ _ _ _ => mn) ⟨rfl, rfl, rfl⟩ Ea (fun _ _ _ _ _ _ _ KP => (bE fe (hr.mono (by decide)) rfl T.eC T.eo KP (af (pv 0) ag)))) (bu (af (bE ud (hr.mono (by decide)) rfl T.ml T.ng dh (af (a8 cV (pv 0) (qd lJ ah) (fun _ _ => rfl)) ag)) ag))) ag)))))))), ?_⟩
   have i0 : oI (PyData.str w0 :: rest.map PyData.str) 0 = some (.str w0) := jU (j := 0) rfl
   by_cases k1 : w0 = Str.ofString "once"
   . subst k1
     have hk := BU
     repeat' (walk_at "rd1")
     refine k7 (.inr hd.dv) i0 ?_
     repeat' (walk_at "rd1")
     . intro hb
       have hb := wq hb
       refine e (fun ⟨kd, us, hs⟩ => ?_) _ (ao.refl _)
       obtain ⟨_, _, z | z | z | z⟩ := iS hs
       all_goals (first | exact hb (by omega) | exact absurd z.1.symm tB | exact absurd z.1.symm t4 | exact absurd z.1.symm uy | exact absurd z.1.symm vk | exact absurd z.1.symm xR | exact absurd z.1.symm yx | exact absurd z.1 tB | exact absurd z.1 t4 | exact absurd z.1 uy | exact absurd z.1 vk | exact absurd z.1 xR | exact absurd z.1 yx)
     . intro hb
       have hb := wC hb
       obtain ⟨w1, w2, rfl⟩ : ∃ w1 w2, rest = [w1, w2] := by
        match rest, hb with
        | [w1, w2], _ => exact ⟨_, _, rfl⟩
       simp only [List.map_cons, List.map_nil] at hd
       repeat' (walk_at "rd1")
       refine sE 1 hd (fun q1 H1 s1 n1 A9 => ?_)
       refine sf (cs := [w1, w2]) (gd := PyData.str) GY A9.dv (Nat.le_of_ble_eq_true rfl) pA (fun x c H' N hc B2 uN yes => ?_) (fun pq H5 ds A4 D8 vV yK yL => ?_)
       . cases uN
         repeat' (walk_at "rd1")
         refine qA (fun _ => ?_) (fun hb => by cases hb)
         repeat' (walk_at "rd1")
         refine Ac (ha c hc) (fun e1 H6 s6 => e (pI (by rw [if_pos rfl]; exact hc) e1) _ ((s1.trans B2).trans s6)) (fun n e1 H6 s6 => yes _ _ _ s6 ⟨n, e1, rfl⟩ (.int n))
       . obtain ⟨ns, rfl, en⟩ := nM yK yL
         match ns, en with
         | [m1, m2], en =>
           simp only [List.map_cons, List.map_nil, List.cons.injEq, and_true] at en
           repeat' (walk_at "rd1")
           exact q _ _ (.once en.1 en.2) _ _ (by walk_at "same") (by walk_at "dat")
   by_cases k2 : w0 = Str.ofString "each"
   . subst k2
     have hk := CT
     repeat' (walk_at "rd1")
     refine k7 (.inr hd.dv) i0 ?_
     repeat' (walk_at "rd1")
     . intro hb
       have hb := wq hb
       refine e (fun ⟨kd, us, hs⟩ => ?_) _ (ao.refl _)
       obtain ⟨_, _, z | z | z | z⟩ := iS hs
       all_goals (first | exact hb (by omega) | exact absurd z.1.symm tB | exact absurd z.1.symm t4 | exact absurd z.1.symm uy | exact absurd z.1.symm vk | exact absurd z.1.symm xR | exact absurd z.1.symm yx | exact absurd z.1 tB | exact absurd z.1 t4 | exact absurd z.1 uy | exact absurd z.1 vk | exact absurd z.1 xR | exact absurd z.1 yx)
     . intro hb
       have hb := wC hb
       obtain ⟨w1, w2, w3, w4, rfl⟩ : ∃ w1 w2 w3 w4, rest = [w1, w2, w3, w4] := by
        match rest, hb with
        | [w1, w2, w3, w4], _ => exact ⟨_, _, _, _, rfl⟩
       simp only [List.map_cons, List.map_nil] at hd
       repeat' (walk_at "rd1")
       . exact absurd (V.str.inj (by assumption)) tB
       . refine u0 hd (Nat.le_of_ble_eq_true rfl) (fun q1 H1 s1 n1 A9 => ?_)
         refine sf (cs := [w1, w2, w3]) (gd := PyData.str) GY A9.dv (Nat.le_of_ble_eq_true rfl) pA (fun x c H' N hc B2 uN yes => ?_) (fun pq H5 ds A4 D8 vV yK yL => ?_)
         . cases uN
           repeat' (walk_at "rd1")
           refine qA (fun _ => ?_) (fun hb => by cases hb)
           repeat' (walk_at "rd1")
           refine Ac (ha c (List.mem_append_left [_] hc)) (fun e1 H6 s6 => e (pI (by rw [if_neg tB]; exact hc) e1) _ ((s1.trans B2).trans s6)) (fun n e1 H6 s6 => yes _ _ _ s6 ⟨n, e1, rfl⟩ (.int n))
         . obtain ⟨ns, rfl, en⟩ := nM yK yL
           match ns, en with
           | [m1, m2, m3], en =>
             simp only [List.map_cons, List.map_nil, List.cons.injEq, and_true] at en
             repeat' (walk_at "rd1")
             refine EH (ha w4 (by simp)) (fun e1 H6 s6 => e (pN tB rfl e1) _ ((s1.trans A4).trans s6)) (fun m e1 H6 s6 => ?_)
             obtain ⟨dm, im⟩ := wg (H := H6) e1
             repeat' (walk_at "rd1")
             exact q _ _ (.each en.1 en.2.1 en.2.2 e1) _ _ (by walk_at "same") (by walk_at "dat")
   by_cases k3 : w0 = Str.ofString "behind"
   . subst k3
     have hk := yw
     repeat' (walk_at "rd1")
     refine k7 (.inr hd.dv) i0 ?_
     repeat' (walk_at "rd1")
     . intro hb
       have hb := wq hb
       refine e (fun ⟨kd, us, hs⟩ => ?_) _ (ao.refl _)
       obtain ⟨_, _, z | z | z | z⟩ := iS hs
       all_goals (first | exact hb (by omega) | exact absurd z.1.symm tB | exact absurd z.1.symm t4 | exact absurd z.1.symm uy | exact absurd z.1.symm vk | exact absurd z.1.symm xR | exact absurd z.1.symm yx | exact absurd z.1 tB | exact absurd z.1 t4 | exact absurd z.1 uy | exact absurd z.1 vk | exact absurd z.1 xR | exact absurd z.1 yx)
     . intro hb
       have hb := wC hb
       obtain ⟨w1, w2, w3, w4, rfl⟩ : ∃ w1 w2 w3 w4, rest = [w1, w2, w3, w4] := by
        match rest, hb with
        | [w1, w2, w3, w4], _ => exact ⟨_, _, _, _, rfl⟩
       simp only [List.map_cons, List.map_nil] at hd
       repeat' (walk_at "rd1")
       . exact absurd (V.str.inj (by assumption)) t4
       . refine u0 hd (Nat.le_of_ble_eq_true rfl) (fun q1 H1 s1 n1 A9 => ?_)
         refine sf (cs := [w1, w2, w3]) (gd := PyData.str) GY A9.dv (Nat.le_of_ble_eq_true rfl) pA (fun x c H' N hc B2 uN yes => ?_) (fun pq H5 ds A4 D8 vV yK yL => ?_)
         . cases uN
           repeat' (walk_at "rd1")
           refine qA (fun _ => ?_) (fun hb => by cases hb)
           repeat' (walk_at "rd1")
           refine Ac (ha c (List.mem_append_left [_] hc)) (fun e1 H6 s6 => e (pI (by rw [if_neg t4]; exact hc) e1) _ ((s1.trans B2).trans s6)) (fun n e1 H6 s6 => yes _ _ _ s6 ⟨n, e1, rfl⟩ (.int n))
         . obtain ⟨ns, rfl, en⟩ := nM yK yL
           match ns, en with
           | [m1, m2, m3], en =>
             simp only [List.map_cons, List.map_nil, List.cons.injEq, and_true] at en
             repeat' (walk_at "rd1")
             refine EH (ha w4 (by simp)) (fun e1 H6 s6 => e (pN t4 rfl e1) _ ((s1.trans A4).trans s6)) (fun m e1 H6 s6 => ?_)
             obtain ⟨dm, im⟩ := wg (H := H6) e1
             repeat' (walk_at "rd1")
             exact q _ _ (.behind en.1 en.2.1 en.2.2 e1) _ _ (by walk_at "same") (by walk_at "dat")
   by_cases k4 : w0 = Str.ofString "slowing"
   . subst k4
     have hk := Bm
     repeat' (walk_at "rd1")
     refine k7 (.inr hd.dv) i0 ?_
     repeat' (walk_at "rd1")
     . intro hb
       have hb := wq hb
       refine e (fun ⟨kd, us, hs⟩ => ?_) _ (ao.refl _)
       obtain ⟨_, _, z | z | z | z⟩ := iS hs
       all_goals (first | exact hb (by omega) | exact absurd z.1.symm tB | exact absurd z.1.symm t4 | exact absurd z.1.symm uy | exact absurd z.1.symm vk | exact absurd z.1.symm xR | exact absurd z.1.symm yx | exact absurd z.1 tB | exact absurd z.1 t4 | exact absurd z.1 uy | exact absurd z.1 vk | exact absurd z.1 xR | exact absurd z.1 yx)
     . intro hb
       have hb := wC hb
       obtain ⟨w1, w2, w3, w4, w5, rfl⟩ : ∃ w1 w2 w3 w4 w5, rest = [w1, w2, w3, w4, w5] := by
        match rest, hb with
        | [w1, w2, w3, w4, w5], _ => exact ⟨_, _, _, _, _, rfl⟩
       simp only [List.map_cons, List.map_nil] at hd
       repeat' (walk_at "rd1")
       . exact absurd (V.str.inj (by assumption)) uy
       . refine u0 hd (Nat.le_of_ble_eq_true rfl) (fun q1 H1 s1 n1 A9 => ?_)
         refine sf (cs := [w1, w2, w3, w4]) (gd := PyData.str) GY A9.dv (Nat.le_of_ble_eq_true rfl) pA (fun x c H' N hc B2 uN yes => ?_) (fun pq H5 ds A4 D8 vV yK yL => ?_)
         . cases uN
           repeat' (walk_at "rd1")
           refine qA (fun _ => ?_) (fun hb => by cases hb)
           repeat' (walk_at "rd1")
           refine Ac (ha c (List.mem_append_left [_] hc)) (fun e1 H6 s6 => e (pI (by rw [if_neg uy]; exact hc) e1) _ ((s1.trans B2).trans s6)) (fun n e1 H6 s6 => yes _ _ _ s6 ⟨n, e1, rfl⟩ (.int n))
         . obtain ⟨ns, rfl, en⟩ := nM yK yL
           match ns, en with
           | [m1, m2, m3, m4], en =>
             simp only [List.map_cons, List.map_nil, List.cons.injEq, and_true] at en
             repeat' (walk_at "rd1")
             refine EH (ha w5 (by simp)) (fun e1 H6 s6 => e (pN uy rfl e1) _ ((s1.trans A4).trans s6)) (fun m e1 H6 s6 => ?_)
             obtain ⟨dm, im⟩ := wg (H := H6) e1
             repeat' (walk_at "rd1")
             exact q _ _ (.jJ en.1 en.2.1 en.2.2.1 en.2.2.2 e1) _ _ (by walk_at "same") (by walk_at "dat")
   . have hk := CM k1 k2 k3 k4
     repeat' (walk_at "rd1")
     refine k7 (.inr hd.dv) i0 ?_
     repeat' (walk_at "rd1")
     . intro _
       refine e (fun ⟨kd, us, hs⟩ => ?_) _ (ao.refl _)
       obtain ⟨_, _, z | z | z | z⟩ := iS hs
       . exact k1 z.1
       . exact k2 z.1
       . exact k3 z.1
       . exact k4 z.1
     . intro z; cases z
theorem Bq (T : Txt K mg a) (aT : gP w K a.bJ a9) : lM P w K mg base 4 a.bT ["words"] [] (uY a.aq) :=
 ⟨⟨_, _, FU T aT, T.iw.binds fun _ _ _ _ _ _ => .all fun us hl => match us, hl with | [_], _ => rfl, .nil⟩⟩
def InK (a : Ad) (H : Hp) (v : V) (kd : Str) (us : List V) : Prop := if kd = Str.ofString "once" then tj H v a.bF (qw us) else if kd = Str.ofString "each" then tj H v a.bo (qy us) else if kd = Str.ofString "behind" then tj H v a.aD (fV us) else tj H v a.aw (fw us)
theorem Ds {H : Hp} {v : V} {us : List V} : InK a H v (Str.ofString "once") us = tj H v a.bF (qw us) := if_pos rfl
theorem zr {H : Hp} {v : V} {us : List V} : InK a H v (Str.ofString "each") us = tj H v a.bo (qy us) := by unfold InK; rw [if_neg tB, if_pos rfl]
theorem Ai {H : Hp} {v : V} {us : List V} : InK a H v (Str.ofString "behind") us = tj H v a.aD (fV us) := by unfold InK; rw [if_neg t4, if_neg vk, if_pos rfl]
theorem zF {H : Hp} {v : V} {us : List V} : InK a H v (Str.ofString "slowing") us = tj H v a.aw (fw us) := by unfold InK; rw [if_neg uy, if_neg xR, if_neg yx]
def uX (a : Ad) : Sp := fun vs H Q E => ∃ v kd us ws, vs = [.str kd, v] /\ pK ws kd us /\ Dv H v (.list (us.map mD)) /\ (wJ kd us = false -> ∀ H', ao H H' -> E (.ref a.av) none H') /\ (wJ kd us = true -> ∀ v' H', ao H H' -> InK a H' v' kd us -> Q v' H')
theorem HB {H : Hp} {Q : VK} {E : XK} {v : V} {kd : Str} {us : List V} {ws : List Str} (hs : pK ws kd us) (hd : Dv H v (.list (us.map mD))) (h : wJ kd us = false -> ∀ H', ao H H' -> E (.ref a.av) none H') (q : wJ kd us = true -> ∀ v' H', ao H H' -> InK a H' v' kd us -> Q v' H') : uX a [.str kd, v] H Q E := ⟨v, kd, us, ws, rfl, hs, hd, h, q⟩
theorem Gz (T : Txt K mg a) : bh P w K mg base (nN P w) 7 a.cB a.nA ["kind", "numbers"] (uX a) := by
 have AZ := uR (P := P) (w := w) (base := base) T
 have zB := vy (P := P) (w := w) (base := base) T
 have vz := su (P := P) (w := w) (base := base) T
 have ur := qW (P := P) (w := w) (base := base) T
 have g1 : ¬ V.str (Str.ofString "each") = V.str (Str.ofString "once") := fun z => tB (V.str.inj z)
 have g2 : ¬ V.str (Str.ofString "behind") = V.str (Str.ofString "once") := fun z => t4 (V.str.inj z)
 have g3 : ¬ V.str (Str.ofString "slowing") = V.str (Str.ofString "once") := fun z => uy (V.str.inj z)
 have g4 : ¬ V.str (Str.ofString "behind") = V.str (Str.ofString "each") := fun z => vk (V.str.inj z)
 have g5 : ¬ V.str (Str.ofString "slowing") = V.str (Str.ofString "each") := fun z => xR (V.str.inj z)
 have g6 : ¬ V.str (Str.ofString "slowing") = V.str (Str.ofString "behind") := fun z => yx (V.str.inj z)
 refine T.jO.Aw sT (fun vs H Q E h => ?_) (fun di A outer s H vs Q E hr h => ?_)
 . obtain ⟨_, _, _, _, rfl, _⟩ := h; rfl
 . obtain ⟨v, kd, us, ws, rfl, hs, hd, e, q⟩ := h
   refine ⟨_, (ai (bD (ay (aY hr.kc) (pv 0) au (ax _))
    (aj (aB (pD T.An AZ (hr.mono (by decide)) rfl T.wm dh (af (a8 cV (pv 1) ah (fun _ _ => rfl)) (af (a8 cV (pv 1) ah (fun _ _ => rfl)) ag)))))
    aG)
    (ai (bD (ay (aY hr.kc) (pv 0) au (ax _))
     (aj (aB (pD T.zv zB (hr.mono (by decide)) rfl T.wz dh (af (a8 cV (pv 1) ah (fun _ _ => rfl)) (af (a8 cV (pv 1) ah (fun _ _ => rfl)) (af (a8 cV (pv 1) ah (fun _ _ => rfl)) (af (a8 cV (pv 1) ah (fun _ _ => rfl)) ag)))))))
     aG)
    (ai (bD (ay (aY hr.kc) (pv 0) au (ax _))
     (aj (aB (pD T.tR vz (hr.mono (by decide)) rfl T.nX dh (af (a8 cV (pv 1) ah (fun _ _ => rfl)) (af (a8 cV (pv 1) ah (fun _ _ => rfl)) (af (a8 cV (pv 1) ah (fun _ _ => rfl)) (af (a8 cV (pv 1) ah (fun _ _ => rfl)) ag)))))))
     aG)
    (aj (aB (pD T.rD ur (hr.mono (by decide)) rfl T.pX dh (af (a8 cV (pv 1) ah (fun _ _ => rfl)) (af (a8 cV (pv 1) ah (fun _ _ => rfl)) (af (a8 cV (pv 1) ah (fun _ _ => rfl)) (af (a8 cV (pv 1) ah (fun _ _ => rfl)) (af (a8 cV (pv 1) ah (fun _ _ => rfl)) ag))))))))))), ?_⟩
   cases hs with
   | once a1 a2 =>
     rw [xl] at e q
     simp only [List.map_cons, List.map_nil, mD] at hd
     repeat' (walk_at "rd1")
     refine vq rfl ⟨_, _, rfl⟩ e (fun ho v' H' s' hi => ?_)
     repeat' (walk_at "rd1")
     exact q ho _ _ s' (Ds ▸ hi)
   | each a1 a2 a3 am =>
     rw [xg] at e q
     rcases nh am with ⟨_, rfl⟩ | ⟨n, _, _, rfl⟩
     . simp only [List.map_cons, List.map_nil, mD] at hd
       repeat' (walk_at "rd1")
       all_goals (first | exact absurd (by assumption) g1 | exact absurd (by assumption) g2 | exact absurd (by assumption) g3 | exact absurd (by assumption) g4 | exact absurd (by assumption) g5 | exact absurd (by assumption) g6 | skip)
       refine vq rfl ⟨_, _, _, _, rfl, .inl rfl⟩ e (fun ho v' H' s' hi => ?_)
       repeat' (walk_at "rd1")
       exact q ho _ _ s' (zr ▸ hi)
     . simp only [List.map_cons, List.map_nil, mD] at hd
       repeat' (walk_at "rd1")
       all_goals (first | exact absurd (by assumption) g1 | exact absurd (by assumption) g2 | exact absurd (by assumption) g3 | exact absurd (by assumption) g4 | exact absurd (by assumption) g5 | exact absurd (by assumption) g6 | skip)
       refine vq rfl ⟨_, _, _, _, rfl, .inr ⟨_, rfl⟩⟩ e (fun ho v' H' s' hi => ?_)
       repeat' (walk_at "rd1")
       exact q ho _ _ s' (zr ▸ hi)
   | behind a1 a2 a3 am =>
     rw [xu] at e q
     rcases nh am with ⟨_, rfl⟩ | ⟨n, _, _, rfl⟩
     . simp only [List.map_cons, List.map_nil, mD] at hd
       repeat' (walk_at "rd1")
       all_goals (first | exact absurd (by assumption) g1 | exact absurd (by assumption) g2 | exact absurd (by assumption) g3 | exact absurd (by assumption) g4 | exact absurd (by assumption) g5 | exact absurd (by assumption) g6 | skip)
       refine vq rfl ⟨_, _, _, _, rfl, .inl rfl⟩ e (fun ho v' H' s' hi => ?_)
       repeat' (walk_at "rd1")
       exact q ho _ _ s' (Ai ▸ hi)
     . simp only [List.map_cons, List.map_nil, mD] at hd
       repeat' (walk_at "rd1")
       all_goals (first | exact absurd (by assumption) g1 | exact absurd (by assumption) g2 | exact absurd (by assumption) g3 | exact absurd (by assumption) g4 | exact absurd (by assumption) g5 | exact absurd (by assumption) g6 | skip)
       refine vq rfl ⟨_, _, _, _, rfl, .inr ⟨_, rfl⟩⟩ e (fun ho v' H' s' hi => ?_)
       repeat' (walk_at "rd1")
       exact q ho _ _ s' (Ai ▸ hi)
   | jJ a1 a2 a3 a4 am =>
     rw [wu] at e q
     rcases nh am with ⟨_, rfl⟩ | ⟨n, _, _, rfl⟩
     . simp only [List.map_cons, List.map_nil, mD] at hd
       repeat' (walk_at "rd1")
       all_goals (first | exact absurd (by assumption) g1 | exact absurd (by assumption) g2 | exact absurd (by assumption) g3 | exact absurd (by assumption) g4 | exact absurd (by assumption) g5 | exact absurd (by assumption) g6 | skip)
       refine vq rfl ⟨_, _, _, _, _, rfl, .inl rfl⟩ e (fun ho v' H' s' hi => ?_)
       repeat' (walk_at "rd1")
       exact q ho _ _ s' (zF ▸ hi)
     . simp only [List.map_cons, List.map_nil, mD] at hd
       repeat' (walk_at "rd1")
       all_goals (first | exact absurd (by assumption) g1 | exact absurd (by assumption) g2 | exact absurd (by assumption) g3 | exact absurd (by assumption) g4 | exact absurd (by assumption) g5 | exact absurd (by assumption) g6 | skip)
       refine vq rfl ⟨_, _, _, _, _, rfl, .inr ⟨_, rfl⟩⟩ e (fun ho v' H' s' hi => ?_)
       repeat' (walk_at "rd1")
       exact q ho _ _ s' (zF ▸ hi)
theorem Dj (T : Txt K mg a) : lM P w K mg base 7 a.cB ["kind", "numbers"] [] (uX a) :=
 ⟨⟨_, _, Gz T, T.jO.binds fun _ _ _ _ _ _ => .all fun us hl => match us, hl with | [_, _], _ => rfl, .nil⟩⟩
local macro_rules | `(tactic| walk_at "rd1") => `(tactic| first
 | ((with_reducible refine' Fq ?e1 ?e2 ?e3 ?_); (case e1 => walk_at "at"); (case e2 => assumption); (case e3 => assumption))
 | fail)
def tU (d : PyData) : Prop := ∃ x, d = .str x /\ GoodW (Txt.split x (Str.ofString " "))
def w9 (d : PyData) : Prop := ∀ x, d = .str x -> jh 700 x
theorem uG {x z : Str} {n : Nat} (h : jh n x) (hz : z ∈ Txt.split x (Str.ofString " ")) : jh n z := by
 refine ⟨Nat.le_trans (PyProof.Rows.part_short hz) h.1, fun c hc => ?_⟩
 refine h.2 c ?_
 have h1 := StrLaws.join_split x (Str.ofString " ")
 rw [<- StrLaws.glued_eq_join] at h1
 change Txt.join (Str.ofString " ") _ = _ at h1
 rw [<- h1]
 generalize Txt.split x (Str.ofString " ") = ps at hz
 cases ps with
 | nil => cases hz
 | cons p ps =>
   rw [mG, List.mem_append]
   rcases List.mem_cons.mp hz with rfl | hz
   . exact .inl hc
   . exact .inr (List.mem_flatMap.mpr ⟨z, hz, List.mem_append_right _ hc⟩)
theorem Ex {tb : (St -> XK) -> TS} {hit : Addr -> Bool -> Prop} {ta : TA} {CN : Addr} {EX : XK} {D : Ends} {σ : St} {H : Hp} (h : tb (fun σ' c od H' => ∃ C, c = .ref C /\ hit C true /\ ∀ a, H' a = none -> ta σ' (upd H' a (.ext (vC a C od))) fun vs H1 => vs.length <= sizeLine /\ H1 a = some (.ext (vC a C od)) /\ EX (.ref CN) none H1) D σ H) : DV tb hit ta CN EX D σ H := h
def AJ (a : Ad) : Sp := fun vs H Q E => ∃ v d, vs = [v] /\ Dv H v d /\ w9 d /\ (¬ tU d -> ∀ H', ao H H' -> E (.ref a.aq) none H') /\ (∀ x kd us, d = .str x -> pK (Txt.split x (Str.ofString " ")) kd us -> wJ kd us = true -> ∀ v' H', ao H H' -> InK a H' v' kd us -> Q v' H')
theorem y7 {H : Hp} {Q : VK} {E : XK} {v : V} {d : PyData} (hd : Dv H v d) (hs : w9 d) (h : ¬ tU d -> ∀ H', ao H H' -> E (.ref a.aq) none H') (q : ∀ x kd us, d = .str x -> pK (Txt.split x (Str.ofString " ")) kd us -> wJ kd us = true -> ∀ v' H', ao H H' -> InK a H' v' kd us -> Q v' H') : AJ a [v] H Q E := ⟨v, d, rfl, hd, hs, h, q⟩
theorem Ig (T : Txt K mg a) (aT : gP w K a.bJ a9) : bh P w K mg base (Bb P w) 9 a.cC a.ny ["text"] (AJ a) := by
 have jv := lr (P := P) (w := w) (base := base) T
 have rT := Bq (P := P) (base := base) T aT
 have tX := Dj (P := P) (w := w) (base := base) T
 refine T.jP.NS fm (fun vs H Q E h => ?_) (fun di A outer s H vs Q E hr h => ?_)
 . obtain ⟨_, _, rfl, _⟩ := h; rfl
 . obtain ⟨v, d, rfl, hv, hs, e, q⟩ := h
   refine ⟨_, (ai (bw (bE jv (hr.mono (by decide)) rfl T.jY T.jV AK (af (aU nE rfl T.aX PyProof.Rows.boot_isinstance (af (pv 0) (af (pB (v := .ty "str") rfl T.cJ PyProof.Rows.boot_str rfl) ag))) ag)))
    (ai (y8 (bE rT (hr.mono (by decide)) rfl T.kW T.kK AK (af (qz PySem.F.plainAttrs_str PySem.F.slot_str_split PySem.F.type_str_split tI (pv 0) (af au ag)) ag)) (FK (n := 2) rfl (ui (gw (i := 1) fm.nd rfl (Or.inl rfl)) (ui (gw (i := 2) fm.nd rfl (Or.inl rfl)) C3))))
    (aj (BG (fun _ _ _ hP => (aj (aB (bE tX (hr.mono (by decide)) rfl T.nK T.mP hP (af (pv 1) (af (pv 2) ag))))))
     (Ci rfl T.gQ T.ub) (fun ae => (af au ag)) IV rfl T.j1 T.hV fm.nd rfl rfl rfl)))), ?_⟩
   cases d with
   | str x =>
     obtain rfl := hv.str_inv
     have hx := hs x rfl
     have GH := hx.1
     repeat' (walk_at "rd1")
     . intro z; cases z
     . intro _
       repeat' (walk_at "rd1")
       refine xn (by decide) (by omega) (fun p1 H1 s1 n1 yI => ?_)
       have Lz := PyProof.Rows.split_pos x (Str.ofString " ")
       have k8 := PyProof.Rows.split_le x (Str.ofString " ")
       have Kj : ∀ z ∈ Txt.split x (Str.ofString " "), jh 700 z := fun z hz => uG hx hz
       have eg : ¬ GoodW (Txt.split x (Str.ofString " ")) -> ¬ tU (.str x) := fun h ⟨y, ey, hy⟩ => by cases ey; exact h hy
       have q := fun kd us => q x kd us rfl
       generalize Txt.split x (Str.ofString " ") = ws at *
       cases ws with
       | nil => simp at Lz
       | cons w0 rest =>
         repeat' (walk_at "rd1")
         refine Hx yI (fun z hz => Kj z (List.mem_cons_of_mem _ hz)) (by rw [List.length_cons] at k8; omega) (fun hn H2 s2 => e (eg fun ⟨kd, us, h, _⟩ => hn ⟨kd, us, h⟩) _ (s1.trans s2)) (fun kd us pP v2 H2 s2 CU => ?_)
         repeat' (walk_at "rd1")
         refine GB CU (fun v3 v4 h3 h4 => ?_)
         cases h3
         repeat' (walk_at "rd1")
         with_reducible refine Ex ?_
         repeat' (walk_at "rd1")
         refine HB pP h4 (fun Kk H3 s3 => ⟨_, rfl, T.nc, fun ae vw => ?_⟩) (fun bf v5 H3 s3 hi => ?_)
         . have s4 : ao H3 (upd H3 ae (.ext (vC ae a.av none))) := bC vw
           have fin := e (eg fun ⟨JO, JK, h, ho⟩ => by
            obtain ⟨rfl, rfl⟩ := pP.det h
            rw [Kk] at ho; cases ho) _ (((s1.trans s2).trans s3).trans s4)
           have NB : upd H3 ae (.ext (vC ae a.av none)) ae = some (.ext (vC ae a.av none)) := aO
           generalize upd H3 ae (.ext (vC ae a.av none)) = H4 at *
           repeat' (walk_at "rd1")
           exact ⟨by rw [PySem.sizeLine_eq]; simp, NB, fin⟩
         . repeat' (walk_at "rd1")
           exact q _ _ pP bf _ _ ((s1.trans s2).trans s3) hi
   | _ =>
     repeat' (walk_at "rd1")
     . intro _; exact e (fun ⟨y, ey, _⟩ => by cases ey) _ (ao.refl _)
     . intro z; cases z
theorem z5 (T : Txt K mg a) (aT : gP w K a.bJ a9) : Ja P w K mg base 9 a.cC ["text"] [] (AJ a) :=
 ⟨⟨_, _, Ig T aT, T.jP.binds fun _ _ _ _ _ _ => .all fun us hl => match us, hl with | [_], _ => rfl, .nil⟩⟩
def tf : Sp := fun vs H Q _ => ∃ v d, vs = [v] /\ Dv H v d /\ w9 d /\ ¬ tU d /\ ∀ H', ao H H' -> Q (.bl true) H'
theorem Ag {H : Hp} {Q : VK} {E : XK} {v : V} {d : PyData} (hd : Dv H v d) (hs : w9 d) (hn : ¬ tU d) (q : ∀ H', ao H H' -> Q (.bl true) H') : tf [v] H Q E := ⟨v, d, rfl, hd, hs, hn, q⟩
theorem B4 (T : Txt K mg a) (aT : gP w K a.bJ a9) : bh P w K mg base qL 10 a.bq a.iV ["_law_thing"] tf := by
 have dJ := z5 (P := P) (base := base) T aT
 have te := T.rm; have i1 := T.dy; have i2 := T.de; have i3 := T.c9
 refine T.fF.ok je (fun vs H Q E h => ?_) (fun di A outer s H vs Q E hr h => ?_)
 . obtain ⟨_, _, rfl, _⟩ := h; rfl
 . obtain ⟨v, d, rfl, hv, hb, hn, q⟩ := h
   refine ⟨_, (ai (CL (fun _ _ _ hP => (aj (bw (mY dJ (hr.mono (by decide)) rfl T.dc T.da hP (af (pv 0) ag)))))
    aG
    (ly.cons (i := some 1) (Bp rfl T.nB T.uw) (fun ae => (ai (bD (PW.pt (pR (rA (K := K) rfl (aU (lA (K := K) rfl) rfl T.aX PyProof.Rows.boot_isinstance (af (pv 1) (af (iM (v := .ref a.eB) rfl T.t8 rfl) ag))) (fun _ => rfl)) (qG (rA (K := K) rfl (aU (lA (K := K) rfl) rfl T.aX PyProof.Rows.boot_isinstance (af (pv 1) (af (iM (v := .ref a.av) rfl T.gQ rfl) ag))) (fun _ => rfl)))))
     (aj (aB rE))
     aG)
    (aj (aB (aU (lA (K := K) rfl) rfl T.aX PyProof.Rows.boot_isinstance (af (pv 1) (af (iM (v := .ref a.aq) rfl T.j1 rfl) ag))))))) ⟨rfl, rfl⟩
    ly.nil) je.nd rfl rfl rfl)
    (aj (aB rE))), ?_⟩
   repeat' (walk_at "rd1")
   with_reducible refine FC ?_
   repeat' (walk_at "rd1")
   refine y7 (by walk_at "dat") hb (fun _ H1 s1 => ⟨_, rfl, .inl ⟨T.jq, fun ae vw => ?_⟩⟩) (fun x kd us ed pP ho v' H1 s1 hi => absurd ⟨x, ed, kd, us, pP, ho⟩ hn)
   have s2 : ao H1 (upd H1 ae (.ext (uZ ae a.aq none))) := bC vw
   have hH : upd H1 ae (.ext (uZ ae a.aq none)) ae = some (.ext (uZ ae a.aq none)) := aO
   have fin := q _ (s1.trans s2)
   generalize upd H1 ae (.ext (uZ ae a.aq none)) = H2 at *
   repeat' (walk_at "rd1")
   exact fin
theorem z7 (T : Txt K mg a) (aT : gP w K a.bJ a9) : qX P w K mg base 10 a.bq ["_law_thing"] [] tf :=
 ⟨⟨_, _, B4 T aT, T.fF.binds fun _ _ _ _ _ _ => .all fun us hl => match us, hl with | [_], _ => rfl, .nil⟩⟩
def Aj (K : PySem.W.Frag) : Sp := fun vs H Q _ => ∃ (l : Addr) (ns : List Int), vs = [.ref l] /\ gf K H l (ns.map V.int) /\ ns.length <= 63 /\ ∀ H', Q (.bl true) H'
theorem x6 (T : Txt K mg a) (s : Shared) (u : Value) : BindsTo s a.sq ⟨[u], []⟩ [("_law_script", u)] := by
 obtain ⟨oc, od, kV, doc, pm, an, di, ct, yl, e, lk, uM⟩ := T.Ae.ex
 rw [e]
 exact .of_eq rfl
theorem qg (T : Txt K mg a) : bh P w K mg base qL 1 a.bj a.i6 ["_law_script", "_law_k"] (wc K) := by
 refine T.fA.ok o8 (fun vs H Q E h => ?_) (fun di A outer s H vs Q E hr h => ?_)
 . obtain ⟨_, _, _, rfl, _⟩ := h; rfl
 . obtain ⟨l, ns, i, rfl, hl, h0, k⟩ := h
   refine ⟨_, (ai (bD (ay qi (pv 1) (aU cu rfl T.dZ PySem.boot_len (af (pv 0) ag)) (ax _))
    (aj (aB (a8 cV (pv 0) (pv 1) (fun _ _ => rfl))))
    aG)
    (aj (aB ah))), ?_⟩
   repeat' (walk_at "rd1")
   . exact Je hl (Bd h0 (by assumption)) k
   . rw [CW h0 (by assumption)] at k; exact k
theorem jg (T : Txt K mg a) : qX P w K mg base 1 a.bj ["_law_script", "_law_k"] [] (wc K) :=
 ⟨⟨_, _, qg T, T.fA.binds fun _ _ _ _ _ _ => .all fun us hl => match us, hl with | [_, _], _ => rfl, .nil⟩⟩
local macro_rules | `(tactic| walk_at "use") => `(tactic| first
 | ((with_reducible refine' Fi ?e1 ?e2 ?_); (case e1 => walk_at "sql"); (case e2 => omega))
 | fail)
def sV : Sp := fun vs H Q _ => ∃ c, vs = [.int c] /\ ∀ n : Int, 0 <= n -> n < 10 ^ 39 -> Q (.int n) H
theorem F1 {H : Hp} {Q : VK} {E : XK} {c : Int} (q : ∀ n : Int, 0 <= n -> n < 10 ^ 39 -> Q (.int n) H) : sV [.int c] H Q E := ⟨c, rfl, q⟩
set_option hygiene false in
local macro_rules | `(tactic| walk_at "use") => `(tactic| first
 | with_reducible refine F1 (fun _ _ _ => ?_)
 | fail)
theorem B9 (T : Txt K mg a) : bh P w K mg base qL 1 a.bG a.ju ["_law_cell"] sV := by
 refine T.gB.ok qJ (fun vs H Q E h => ?_) (fun di A outer s H vs Q E hr h => ?_)
 . obtain ⟨_, rfl, _⟩ := h; rfl
 . obtain ⟨c, rfl, q⟩ := h
   refine ⟨_, (ai (bD (ay (aY hr.kc) (aM bW (pv 0) ah) ah (ax _))
    (aj (aB (aM bW (aM fL (pv 0) ah) ah)))
    aG)
    (ai (bD (ay (aY hr.kc) (aM bW (pv 0) ah) ah (ax _))
     (aj (aB (aM bW (aM fL (pv 0) ah) ah)))
     aG)
    (aj (aB (aM bW (aM fL (pv 0) ah) (aM Az ah ah)))))), ?_⟩
   repeat' (walk_at "rd1")
   all_goals exact q _ (by omega) (by omega)
theorem uF (T : Txt K mg a) : qX P w K mg base 1 a.bG ["_law_cell"] [] sV :=
 ⟨⟨_, _, B9 T, T.gB.binds fun _ _ _ _ _ _ => .all fun us hl => match us, hl with | [_], _ => rfl, .nil⟩⟩
def vo : Sp := fun vs H Q _ => ∃ x, vs = [.str x] /\ jh 700 x /\ Q (.int (aW x)) H
theorem Ij {H : Hp} {Q : VK} {E : XK} {x : Str} (h : jh 700 x) (q : Q (.int (aW x)) H) : vo [.str x] H Q E := ⟨x, rfl, h, q⟩
theorem B7 {x : Str} (h : x.cps.toList.all dig = false) : aW x = -1 := by
 rcases qq x with ⟨_, e⟩ | ⟨_, _, _, e⟩ | ⟨n, h0, h1, e1, e2, e3, e4⟩
 . exact e
 . exact e
 . rw [e4] at h; cases h
theorem qv {x : Str} (h : x.cps.toList.all dig = true) : cL x.cps.toList = x.cps.toList := by
 unfold cL
 rw [if_neg]
 intro z
 cases e : x.cps.toList with
 | nil => rw [e] at z; simp at z
 | cons c r =>
   rw [e] at z h
   have hc : c = 45 := by simpa using z
   rw [List.all_cons, hc] at h
   have : dig 45 = false := by decide
   rw [this] at h; cases h
theorem sU {x : Str} (h : fK x = false) : aW x = -1 := by
 unfold aW rd
 rw [if_neg (by rw [h]; decide)]
theorem xm {x : Str} {n : Int} (h : fK x = true) (hd : x.cps.toList.all dig = true) (hn : PySem.intText? x = some n) : aW x = n := by
 have e : rd x = some n := by unfold rd; rw [if_pos h, hn]
 rcases nG e with ⟨h1, _⟩ | ⟨_, _, h2, _⟩
 . exfalso
   have j6 : x.cps.toList ≠ [] := fun z => by
    unfold fK qO at h
    rw [qv hd, z] at h
    simp at h
   have hl : x.length <= 4300 := by
    unfold fK qO at h
    rw [qv hd] at h
    simp only [Bool.and_eq_true, decide_eq_true_eq] at h
    rw [fi]; omega
   rw [PySem.intText_digits (xc hd) j6 hl] at hn
   cases hn
   omega
 . exact h2
theorem Ge (T : Txt K mg a) : bh P w K mg base qL 1 a.bS a.ky ["_law_word"] vo := by
 refine T.iL.ok kP (fun vs H Q E h => ?_) (fun di A outer s H vs Q E hr h => ?_)
 . obtain ⟨_, rfl, _⟩ := h; rfl
 . obtain ⟨x, rfl, hx, q⟩ := h
   have GH := hx.1
   refine ⟨_, (ai (Fy PassesOwn.never rfl (zq (pv 0)) (gw (i := 1) kP.nd rfl (Or.inl rfl))
    (aj (bD (ay zf (pv 1) au rfl)
     (aj (aB (aM Ao ah ah)))
     aG)))
    (ai (bD (PW.pt (pR (ay (aY hr.kc) (pv 0) au (ax _)) (pR (ay xf (aU cu rfl T.dZ PySem.boot_len (af (pv 0) ag)) ah (ax _)) (qG (PW.pt (vH (ay (vR hr.kc) (pv 0) au (ax _)) (sO (ay (aY hr.kc) (a8 cV (pv 0) ah (fun _ _ => rfl)) au (ax _)))))))))
     (aj (aB (aM Ao ah ah)))
     aG)
    (aj (aB (a6 rO rfl T.nR PyProof.Rows.boot_int (af (pv 0) ag)))))), ?_⟩
   repeat' (walk_at "rd1")
   refine K0 (fun j σ' H2 => ∃ z, σ' = [some (.str x), z] /\ H2 = H /\ ∀ i c, i < j -> x.cps[i]? = some c -> dig c = true) ⟨_, rfl, rfl, fun i c h => by omega⟩ ?_ ?_
   . rintro i c σ' H2 hc ⟨z, rfl, rfl, gF⟩
     have Mu : c ∈ x.cps.toList := List.mem_of_getElem? (by rw [Array.getElem?_toList]; exact hc)
     have ho := MC ⟨c, hx.2 c Mu⟩
     repeat' (walk_at "rd1")
     . rename_i hb
       have LZ : dig c = false := by simpa [ho] using hb
       rw [B7 (by rw [List.all_eq_false]; exact ⟨c, Mu, by simp [LZ]⟩)] at q
       exact q
     . rename_i hb
       have LZ : dig c = true := by simpa [ho] using hb
       refine ⟨_, rfl, rfl, fun j d hj hd => ?_⟩
       by_cases e : j = i
       . subst e
         rw [hc] at hd
         cases hd
         exact LZ
       . exact gF j d (by omega) hd
   . rintro σ' H2 ⟨z, rfl, rfl, gF⟩
     have F3 : x.cps.toList.all dig = true := by
      rw [List.all_eq_true]
      intro c hc
      obtain ⟨i, hi, e⟩ := List.getElem_of_mem hc
      exact gF i c (by simpa using hi) (by rw [<- Array.getElem?_toList, List.getElem?_eq_getElem hi, e])
     have qj := qv F3
     have HP : x.length = (cL x.cps.toList).length := by rw [qj, fi]
     have Kp : (cL x.cps.toList).all dig = true := by rw [qj]; exact F3
     repeat' (walk_at "rd1")
     . rename_i hb
       have e0 : x = Str.ofString "" := V.str.inj hb
       have := sU (x := x) (rG (by rw [<- HP, e0]; decide))
       rw [this] at q
       exact q
     . rename_i hb
       rw [sU (x := x) (tY (by omega))] at q
       exact q
     . rename_i b1 b2 b3
       have sy : 1 <= x.cps.toList.length := by
        cases e : x.cps.toList with
        | nil => exact absurd (congrArg V.str (str_list (by rw [e]; decide))) b1
        | cons c r => simp
       obtain ⟨c, t, el, ei⟩ := uf rfl sy
       have j6 := wO (x := x) b3 (by rw [qj]; exact el) (by omega) Kp
       refine yS (by rw [PySem.sizeLine_eq]; omega) ei ?_
       repeat' (walk_at "rd1")
       . rename_i b4
         rw [sU (x := x) (by rw [j6, decide_eq_true b4]; rfl)] at q
         exact q
       . rename_i b4
         have hn : fK x = true := by rw [j6, decide_eq_false b4]; rfl
         obtain ⟨n, en⟩ := pW hn hx.1
         rw [xm hn F3 en] at q
         repeat' (walk_at "rd1")
         exact q
     . rename_i b1 b2 b3
       have hn := ua b3
       obtain ⟨n, en⟩ := pW hn hx.1
       rw [xm hn F3 en] at q
       repeat' (walk_at "rd1")
       exact q
theorem C9 (T : Txt K mg a) : qX P w K mg base 1 a.bS ["_law_word"] [] vo :=
 ⟨⟨_, _, Ge T, T.iL.binds fun _ _ _ _ _ _ => .all fun us hl => match us, hl with | [_], _ => rfl, .nil⟩⟩
theorem wH {H : Hp} {y : V} {d : PyData} (hy : Dv H y d) : ∀ {xs : List V} {ds : List PyData} (j : Nat), cj H xs ds -> cj H (xs.set j y) (ds.set j d)
 | [], [], _, _ => .nil
 | _ :: _, _ :: _, 0, .cons _ t => .cons hy t
 | _ :: _, _ :: _, j + 1, .cons h t => .cons h (wH hy j t)
theorem pZ {d : PyData} (hd : sR d = true) {ds : List PyData} (j : Nat) (h : aP ds = true) : aP (ds.set j d) = true := by
 rw [c7] at h ⊢
 intro x hx
 rcases List.mem_or_eq_of_mem_set hx with h1 | rfl
 . exact h x h1
 . exact hd
theorem Ez {D : Ends} {σ : St} {H : Hp} {to ti te : TE} {t : Cv} (h : te σ H fun v H1 => to σ H1 fun o H2 => ti σ H2 fun i H3 => t o i v H3 fun H4 => D.nx σ H4) : yB te (HA to ti t) D σ H := h
theorem zJ {H : Hp} {p : Addr} {ds : List PyData} {j : Nat} {k : Int} {y : V} {d : PyData} {R : Hp -> Prop} (hp : dk H p ds) (hk : yb ds.length k = some j) (hy : Dv H y d) (hi : sR d = true) (h : ∀ H2, Mv [p] H H2 -> dk H2 p (ds.set j d) -> R H2) : DH (.ref p) (.int k) y H R := by
 obtain ⟨xs, e, dv, im⟩ := hp
 have m : Mv [p] H (upd H p (.lst (xs.set j y))) := .wa e (by intro _ z; cases z)
 exact ⟨p, xs, k, j, rfl, rfl, e, by rw [dv.length]; exact hk, h _ m ⟨_, aO, m.AX (pZ hi j im) (wH hy j dv), pZ hi j im⟩⟩
local macro_rules | `(tactic| walk_at "rd1") => `(tactic| first
 | with_reducible refine Ez ?_
 | ((with_reducible refine' zJ ?e1 ?e2 ?e3 ?e4 (fun _ _ _ => ?_)); (case e1 => walk_at "lat"); (case e2 => exact rfl); (case e3 => walk_at "dat"); (case e4 => exact rfl))
 | fail)
abbrev GK : Str := Str.ofString "ever"
def uK (rest : List Str) : List Int := if rest.getLast? = some GK then (rest.map aW).set (rest.length - 1) 1 else rest.map aW
theorem CF (rest : List Str) : (uK rest).length = rest.length := by unfold uK; split <;> simp
def vE (x : Str) : Int := if x = GK then 1 else aW x
theorem q9 (x : Str) : 1 <= vE x ↔ ∃ m, uJ x = some m /\ wt m = true := by
 unfold vE uJ
 by_cases h : x = GK
 . rw [if_pos h, if_pos h]
   exact ⟨fun _ => ⟨_, rfl, rfl⟩, fun _ => by decide⟩
 . rw [if_neg h, if_neg h]
   constructor
   . intro h1
     obtain ⟨e, _⟩ := eh (x := x) (by omega)
     rw [e]
     exact ⟨_, rfl, by simp [wt]; omega⟩
   . rintro ⟨m, e, hm⟩
     cases e1 : rd x with
     | none => rw [e1] at e; cases e
     | some n =>
       rw [e1] at e
       cases e
       simp only [wt, decide_eq_true_eq] at hm
       rcases nG e1 with ⟨h1, _⟩ | ⟨_, _, h2, _⟩
       . omega
       . omega
theorem tE (w1 w2 w3 w4 : Str) : uK [w1, w2, w3, w4] = [aW w1, aW w2, aW w3, vE w4] := by
 unfold uK vE
 by_cases h : w4 = GK
 . rw [if_pos (by rw [h]; rfl), if_pos h]; rfl
 . rw [if_neg (by simpa using h), if_neg h]; rfl
theorem Ak (w1 w2 w3 w4 w5 : Str) : uK [w1, w2, w3, w4, w5] = [aW w1, aW w2, aW w3, aW w4, vE w5] := by
 unfold uK vE
 by_cases h : w5 = GK
 . rw [if_pos (by rw [h]; rfl), if_pos h]; rfl
 . rw [if_neg (by simpa using h), if_neg h]; rfl
theorem dB {x : Str} {n : Int} (h : rd x = some n) (h0 : 0 <= n) : aW x = n := by
 rcases nG h with ⟨h1, _⟩ | ⟨_, _, h2, _⟩
 . omega
 . exact h2
theorem nY {rest : List Str} : GoodW (Str.ofString "once" :: rest) ↔ ∃ w1 w2, rest = [w1, w2] /\ 0 <= aW w1 /\ aW w1 <= aW w2 := by
 constructor
 . rintro ⟨kd, us, hs, ho⟩
   generalize e : Str.ofString "once" :: rest = ws at hs
   cases hs with
   | once a1 a2 =>
     injection e with _ e
     rw [xl] at ho
     simp only [A5, Bool.and_eq_true, decide_eq_true_eq] at ho
     exact ⟨_, _, e, by rw [dB a1 ho.1]; exact ho.1, by rw [dB a1 ho.1, dB a2 (by omega)]; exact ho.2⟩
   | each => injection e with e _; exact absurd e.symm tB
   | behind => injection e with e _; exact absurd e.symm t4
   | jJ => injection e with e _; exact absurd e.symm uy
 . rintro ⟨w1, w2, rfl, h1, h2⟩
   refine ⟨_, _, .once (eh h1).1 (eh (x := w2) (by omega)).1, ?_⟩
   rw [xl]
   simp [A5, h1, h2]
theorem nS {rest : List Str} : GoodW (Str.ofString "each" :: rest) ↔ ∃ w1 w2 w3 w4, rest = [w1, w2, w3, w4] /\ 0 <= aW w1 /\ 0 <= aW w3 /\ aW w3 < aW w2 /\ 1 <= vE w4 := by
 constructor
 . rintro ⟨kd, us, hs, ho⟩
   generalize e : Str.ofString "each" :: rest = ws at hs
   cases hs with
   | once => injection e with e _; exact absurd e tB
   | each a1 a2 a3 a4 =>
     injection e with _ e
     rw [xg] at ho
     simp only [yE, Bool.and_eq_true, decide_eq_true_eq] at ho
     obtain ⟨o1, o2, o3, o4, o5⟩ := ho
     refine ⟨_, _, _, _, e, by rw [dB a1 o1]; exact o1, by rw [dB a3 o3]; exact o3, by rw [dB a3 o3, dB a2 (by omega)]; exact o4, (q9 _).mpr ⟨_, a4, o5⟩⟩
   | behind => injection e with e _; exact absurd e.symm vk
   | jJ => injection e with e _; exact absurd e.symm xR
 . rintro ⟨w1, w2, w3, w4, rfl, h1, h2, h3, h4⟩
   obtain ⟨m, e4, hm⟩ := (q9 w4).mp h4
   refine ⟨_, _, .each (eh h1).1 (eh (x := w2) (by omega)).1 (eh h2).1 e4, ?_⟩
   rw [xg]
   simp [yE, h1, h2, h3, hm]
   omega
theorem jn {rest : List Str} : GoodW (Str.ofString "behind" :: rest) ↔ ∃ w1 w2 w3 w4, rest = [w1, w2, w3, w4] /\ 0 <= aW w1 /\ 0 < aW w2 /\ 0 <= aW w3 /\ 1 <= vE w4 := by
 constructor
 . rintro ⟨kd, us, hs, ho⟩
   generalize e : Str.ofString "behind" :: rest = ws at hs
   cases hs with
   | once => injection e with e _; exact absurd e t4
   | each => injection e with e _; exact absurd e vk
   | behind a1 a2 a3 a4 =>
     injection e with _ e
     rw [xu] at ho
     simp only [v9, Bool.and_eq_true, decide_eq_true_eq] at ho
     obtain ⟨o1, o2, o3, o5⟩ := ho
     refine ⟨_, _, _, _, e, by rw [dB a1 o1]; exact o1, by rw [dB a2 (by omega)]; omega, by rw [dB a3 o3]; exact o3, (q9 _).mpr ⟨_, a4, o5⟩⟩
   | jJ => injection e with e _; exact absurd e.symm yx
 . rintro ⟨w1, w2, w3, w4, rfl, h1, h2, h3, h4⟩
   obtain ⟨m, e4, hm⟩ := (q9 w4).mp h4
   refine ⟨_, _, .behind (eh h1).1 (eh (x := w2) (by omega)).1 (eh h3).1 e4, ?_⟩
   rw [xu]
   simp [v9, h1, h3, hm]
   omega
theorem jW {rest : List Str} : GoodW (Str.ofString "slowing" :: rest) ↔ ∃ w1 w2 w3 w4 w5, rest = [w1, w2, w3, w4, w5] /\ 0 <= aW w1 /\ 1 <= aW w2 /\ aW w2 <= aW w3 /\ 0 <= aW w4 /\ 1 <= vE w5 := by
 constructor
 . rintro ⟨kd, us, hs, ho⟩
   generalize e : Str.ofString "slowing" :: rest = ws at hs
   cases hs with
   | once => injection e with e _; exact absurd e uy
   | each => injection e with e _; exact absurd e xR
   | behind => injection e with e _; exact absurd e yx
   | jJ a1 a2 a3 a4 a5 =>
     injection e with _ e
     rw [wu] at ho
     simp only [Bc, Bool.and_eq_true, decide_eq_true_eq] at ho
     obtain ⟨o1, o2, o3, o4, o5⟩ := ho
     refine ⟨_, _, _, _, _, e, by rw [dB a1 o1]; exact o1, by rw [dB a2 (by omega)]; omega, by rw [dB a2 (by omega), dB a3 (by omega)]; exact o5, by rw [dB a4 o3]; exact o3, (q9 _).mpr ⟨_, a5, o4⟩⟩
 . rintro ⟨w1, w2, w3, w4, w5, rfl, h1, h2, h3, h4, h5⟩
   obtain ⟨m, e5, hm⟩ := (q9 w5).mp h5
   refine ⟨_, _, .jJ (eh h1).1 (eh (x := w2) (by omega)).1 (eh (x := w3) (by omega)).1 (eh h4).1 e5, ?_⟩
   rw [wu]
   simp [Bc, h1, h2, h3, h4, hm]
theorem xI {w0 : Str} {rest : List Str} (h1 : ¬ w0 = Str.ofString "once") (h2 : ¬ w0 = Str.ofString "each") (h3 : ¬ w0 = Str.ofString "behind") (h4 : ¬ w0 = Str.ofString "slowing") : ¬ GoodW (w0 :: rest) := by
 rintro ⟨kd, us, hs, _⟩
 obtain ⟨_, _, z | z | z | z⟩ := iS hs
 . exact h1 z.1
 . exact h2 z.1
 . exact h3 z.1
 . exact h4 z.1
theorem zT {w0 : Str} {rest : List Str} (h1 : ¬ w0 = Str.ofString "once") (h : GoodW (w0 :: rest)) : 4 <= (uK rest).length /\ (∀ m ∈ uK rest, 0 <= m) /\ ∀ v, (uK rest).getLast? = some v -> 1 <= v := by
 have hk := h
 obtain ⟨kd, us, hs, _⟩ := hk
 obtain ⟨_, _, z | z | z | z⟩ := iS hs
 . exact absurd z.1 h1
 . obtain ⟨rfl, _⟩ := z
   obtain ⟨w1, w2, w3, w4, rfl, a1, a2, a3, a4⟩ := nS.mp h
   rw [tE]
   refine ⟨by simp, fun m hm => ?_, fun v hv => ?_⟩
   . simp only [List.mem_cons, List.not_mem_nil, or_false] at hm
     rcases hm with rfl | rfl | rfl | rfl <;> omega
   . simp at hv; omega
 . obtain ⟨rfl, _⟩ := z
   obtain ⟨w1, w2, w3, w4, rfl, a1, a2, a3, a4⟩ := jn.mp h
   rw [tE]
   refine ⟨by simp, fun m hm => ?_, fun v hv => ?_⟩
   . simp only [List.mem_cons, List.not_mem_nil, or_false] at hm
     rcases hm with rfl | rfl | rfl | rfl <;> omega
   . simp at hv; omega
 . obtain ⟨rfl, _⟩ := z
   obtain ⟨w1, w2, w3, w4, w5, rfl, a1, a2, a3, a4, a5⟩ := jW.mp h
   rw [Ak]
   refine ⟨by simp, fun m hm => ?_, fun v hv => ?_⟩
   . simp only [List.mem_cons, List.not_mem_nil, or_false] at hm
     rcases hm with rfl | rfl | rfl | rfl | rfl <;> omega
   . simp at hv; omega
theorem wU {α : Type} {xs : List α} {v : α} (h : xs.getLast? = some v) : oI xs (-1) = some v := by
 obtain ⟨ys, rfl⟩ : ∃ ys, xs = ys ++ [v] := by
  rw [List.getLast?_eq_some_iff] at h
  exact h
 exact zh ys v
theorem Br {n : Nat} (h : 0 < n) : yb n (-1) = some (n - 1) := by
 unfold yb
 rw [if_neg (by decide), if_pos (by omega)]
 congr 1
 omega
theorem KQ {l : List Str} (h : l.length = 2) : ∃ w1 w2, l = [w1, w2] := by
 match l, h with
 | [a, b], _ => exact ⟨a, b, rfl⟩
theorem IL {l : List Str} (h : l.length = 4) : ∃ w1 w2 w3 w4, l = [w1, w2, w3, w4] := by
 match l, h with
 | [a, b, c, d], _ => exact ⟨a, b, c, d, rfl⟩
theorem Kx {l : List Str} (h : l.length = 5) : ∃ w1 w2 w3 w4 w5, l = [w1, w2, w3, w4, w5] := by
 match l, h with
 | [a, b, c, d, e], _ => exact ⟨a, b, c, d, e, rfl⟩
def sr : Sp := fun vs H Q _ => ∃ x, vs = [.str x] /\ jh 700 x /\ ∀ H' b, ao H H' -> (b = true ↔ GoodW (Txt.split x (Str.ofString " "))) -> Q (.bl b) H'
theorem Gi {H : Hp} {Q : VK} {E : XK} {x : Str} (h : jh 700 x) (q : ∀ H' b, ao H H' -> (b = true ↔ GoodW (Txt.split x (Str.ofString " "))) -> Q (.bl b) H') : sr [.str x] H Q E := ⟨x, rfl, h, q⟩
theorem Bl (T : Txt K mg a) : bh P w K mg base qL 2 a.cz a.mq ["_law_text"] sr := by
 have sI := C9 (P := P) (w := w) (base := base) T
 refine T.jD.ok iQ (fun vs H Q E h => ?_) (fun di A outer s H vs Q E hr h => ?_)
 . obtain ⟨_, rfl, _⟩ := h; rfl
 . obtain ⟨x, rfl, hx, q⟩ := h
   have GH := hx.1
   refine ⟨_, (ai (cw (i := 1) iQ.nd rfl (Or.inl rfl) (qz PySem.F.plainAttrs_str PySem.F.slot_str_split PySem.F.type_str_split tI (pv 0) (af au ag)))
    (ai (IM (i := 2) iQ.nd rfl (Or.inl rfl) (T := ["_law_word"]) (M := ["_law_text", "_law_words_here", "_law_numbers"]) (Io (ak fU) ["_law_text", "_law_words_here", "_law_numbers"] rfl rfl (by decide +kernel)) rfl (pG (bt cn (pv 1) (bP ah) cm)) (fun _ _ _ _ _ => (gw (i := 0) (show List.Nodup (["_law_word", "_law_text", "_law_words_here", "_law_numbers"] : List Str) by decide +kernel) rfl (Or.inl rfl))) (gL (by decide)) (fun _ _ _ _ _ => mn) (fun _ _ _ _ _ => (aF sI (hr.mono (by decide)) rfl T.kq T.kO (af (pv 0) ag))) rfl)
    (ai (bD (ay (aY hr.kc) (a8 cV (pv 1) ah (fun _ _ => rfl)) au (ax _))
     (aj (aB (jH (dt (aY hr.kc) (aU cu rfl T.dZ PySem.boot_len (af (pv 2) ag)) ah (ax _)) (jI (uC rg rg ah (a8 cV (pv 2) ah (fun _ _ => rfl)) (a8 cV (pv 2) ah (fun _ _ => rfl)))))))
     aG)
    (mj (bD (PW.pt (vH (ay xf (aU cu rfl T.dZ PySem.boot_len (af (pv 2) ag)) ah (ax _)) (sO (ay (aY hr.kc) (a8 cV (pv 1) (qd lJ ah) (fun _ _ => rfl)) au (ax _)))))
     (aj (y8 ah (Fd (pv 2) (qd lJ ah) set_list)))
     aG)
    (ai (bD (PW.pt (pR (ay qi (aU cu rfl T.dZ PySem.boot_len (af (pv 2) ag)) ah (ax _)) (pR (ay qi (aU (x9 rfl) rfl T.si PyProof.Rows.boot_min (af (pv 2) ag)) ah (ax _)) (qG (ay qi (a8 cV (pv 2) (qd lJ ah) (fun _ _ => rfl)) ah (ax _))))))
     (aj (aB rE))
     aG)
    (ai (bD (ay (aY hr.kc) (a8 cV (pv 1) ah (fun _ _ => rfl)) au (ax _))
     (aj (aB (jH (dt (aY hr.kc) (aU cu rfl T.dZ PySem.boot_len (af (pv 2) ag)) ah (ax _)) (jI (dt qi (a8 cV (pv 2) ah (fun _ _ => rfl)) (a8 cV (pv 2) ah (fun _ _ => rfl)) (ax _))))))
     aG)
    (ai (bD (ay (aY hr.kc) (a8 cV (pv 1) ah (fun _ _ => rfl)) au (ax _))
     (aj (aB (jH (dt (aY hr.kc) (aU cu rfl T.dZ PySem.boot_len (af (pv 2) ag)) ah (ax _)) (jI (dt xf (a8 cV (pv 2) ah (fun _ _ => rfl)) ah (ax _))))))
     aG)
    (aj (aB (jH (dt (aY hr.kc) (a8 cV (pv 1) ah (fun _ _ => rfl)) au (ax _)) (jH (dt (aY hr.kc) (aU cu rfl T.dZ PySem.boot_len (af (pv 2) ag)) ah (ax _)) (jI (uC rg rg ah (a8 cV (pv 2) ah (fun _ _ => rfl)) (a8 cV (pv 2) ah (fun _ _ => rfl))))))))))))))), ?_⟩
   repeat' (walk_at "rd1")
   refine xn (by decide) (by omega) (fun p1 H1 s1 n1 yI => ?_)
   have Lz := PyProof.Rows.split_pos x (Str.ofString " ")
   have k8 := PyProof.Rows.split_le x (Str.ofString " ")
   have Kj : ∀ z ∈ Txt.split x (Str.ofString " "), jh 700 z := fun z hz => uG hx hz
   generalize Txt.split x (Str.ofString " ") = ws at *
   cases ws with
   | nil => simp at Lz
   | cons w0 rest =>
     have JG : rest.length <= 800 := by rw [List.length_cons] at k8; omega
     have i0 : oI ((w0 :: rest).map PyData.str) 0 = some (.str w0) := jU (j := 0) rfl
     repeat' (walk_at "rd1")
     refine sE 1 yI (fun q1 H2 s2 n2 A9 => ?_)
     refine HI (cs := rest) (gd := PyData.str) (fun _ => true) (fun c => .int (aW c)) A9.dv (by omega) (fun _ => rfl) (fun x c H' N hc B2 uN yes no => ?_) (fun pq H5 A4 D8 vV => ?_)
     . cases uN
       have M7 := Kj c (List.mem_cons_of_mem _ hc)
       repeat' (walk_at "rd1")
       refine qA (fun _ => ?_) (fun hb => by cases hb)
       repeat' (walk_at "rd1")
       refine Ij M7 ?_
       exact yes rfl _ _ (ao.refl _) (.int _)
     . have ef : (rest.filter fun _ => true) = rest := List.filter_eq_self.mpr (by simp)
       rw [ef] at vV
       have vV : dk H5 pq ((rest.map aW).map PyData.int) := by rw [List.map_map]; exact vV
       have Ms : ao H1 H5 := s2.trans A4
       have JR : dk H5 p1 ((w0 :: rest).map PyData.str) := yI.keeps Ms
       have sH : ao H H5 := s1.trans Ms
       have Nk : H pq = none := s1.none (s2.none D8)
       have NY : pq ≠ p1 := fun z => by
        obtain ⟨xs, e, _⟩ := yI
        have := s2.none D8
        rw [z, e] at this; cases this
       clear A9 s2 A4 D8 ef yI
       repeat' (walk_at "rd1")
       . rename_i b1 b2 b3
         obtain rfl : w0 = Str.ofString "once" := V.str.inj b1
         have b2 : rest.length = 2 := by simp only [List.length_map] at b2; omega
         obtain ⟨w1, w2, rfl⟩ := KQ b2
         refine q _ _ sH ?_
         have b3 : 0 <= aW w1 := b3
         rw [nY]
         constructor
         . intro z
           have z : aW w1 <= aW w2 := of_decide_eq_true z
           exact ⟨w1, w2, rfl, b3, z⟩
         . rintro ⟨y1, y2, e, _, z⟩
           cases e
           exact decide_eq_true z
       . rename_i b1 b2 b3
         obtain rfl : w0 = Str.ofString "once" := V.str.inj b1
         refine q _ _ sH ?_
         rw [nY]
         refine ⟨(fun z => by cases z), fun ⟨y1, y2, e, z, _⟩ => ?_⟩
         subst e
         exact absurd z b3
       . rename_i b1 b2
         obtain rfl : w0 = Str.ofString "once" := V.str.inj b1
         refine q _ _ sH ?_
         rw [nY]
         refine ⟨(fun z => by cases z), fun ⟨y1, y2, e, z, _⟩ => ?_⟩
         subst e
         exact absurd rfl b2
       . rename_i b1
         have h1 : ¬ w0 = Str.ofString "once" := fun z => b1 (congrArg V.str z)
         refine rQ (fun σ' H' => ao H H' /\ dk H' p1 ((w0 :: rest).map PyData.str) /\ dk H' pq ((uK rest).map PyData.int) /\ σ' = [some (.str x), some (.ref p1), some (.ref pq)]) ?_ ?_
         . by_cases Lx : rest = []
           . subst Lx
             repeat' (walk_at "rd1")
             all_goals first | exact ⟨sH, JR, vV, rfl⟩ | (exfalso; rename_i b2 b3; simp at b2) | (exfalso; rename_i b2; simp at b2)
           . obtain ⟨wl, Gs⟩ : ∃ wl, rest.getLast? = some wl := by
              cases e : rest.getLast? with
              | none => exact absurd (List.getLast?_eq_none_iff.mp e) Lx
              | some wl => exact ⟨wl, rfl⟩
             have sy : 0 < rest.length := List.length_pos_iff.mpr Lx
             have il : oI ((w0 :: rest).map PyData.str) (-1) = some (.str wl) := wU (by rw [List.getLast?_map, List.getLast?_cons, Gs]; rfl)
             repeat' (walk_at "rd1")
             . refine k7 (.inr JR.dv) il ?_
               repeat' (walk_at "rd1")
               . rename_i b2
                 have e2 : wl = GK := V.str.inj b2
                 refine zJ (d := .int 1) vV (by rw [List.length_map, List.length_map]; exact Br sy) (.int 1) rfl (fun H6 MK JI => ?_)
                 have s6 : ao H H6 := by
                  refine Mv.Du sH MK Nk
                 refine ⟨s6, JR.mv MK (by simpa using NY.symm), ?_, rfl⟩
                 unfold uK
                 rw [if_pos (by rw [Gs, e2])]
                 rw [List.map_set]
                 exact JI
               . rename_i b2
                 refine ⟨sH, JR, ?_, rfl⟩
                 unfold uK
                 rw [if_neg (by rw [Gs]; exact fun z => b2 (congrArg V.str (Option.some.inj z)))]
                 exact vV
             . rename_i b2
               exfalso
               simp only [List.length_map] at b2
               omega
         rintro σ' H6 ⟨s6, MM, JI, rfl⟩
         have Pm := CF rest
         have ga := fun h => zT (rest := rest) h1 h
         have no : (¬ GoodW (w0 :: rest)) -> Q (.bl false) H6 := fun h => q _ _ s6 ⟨(fun z => by cases z), fun z => absurd z h⟩
         repeat' (walk_at "rd1")
         . rename_i b2
           exact no fun h => by have := (ga h).1; omega
         . rename_i b2
           refine Fl JI.dv (by omega) (fun m hm hle => ?_)
           obtain ⟨vl, Dw⟩ : ∃ vl, (uK rest).getLast? = some vl := by
            cases e : (uK rest).getLast? with
            | none => rw [List.getLast?_eq_none_iff.mp e] at b2; simp at b2
            | some vl => exact ⟨vl, rfl⟩
           have il : oI ((uK rest).map PyData.int) (-1) = some (.int vl) := wU (by rw [List.getLast?_map, Dw]; rfl)
           repeat' (walk_at "rd1")
           . rename_i b3
             exact no fun h => by have := (ga h).2.1 m hm; omega
           . rename_i b3
             refine k7 (.inr JI.dv) il ?_
             have gF : ∀ k ∈ uK rest, 0 <= k := fun k hk => by have := hle k hk; omega
             repeat' (walk_at "rd1")
             . rename_i b4
               exact no fun h => by have := (ga h).2.2 vl Dw; omega
             . rename_i b4 b5 b6
               obtain rfl : w0 = Str.ofString "each" := V.str.inj b5
               obtain ⟨w1, w2, w3, w4, rfl⟩ := IL (l := rest) (by omega)
               rw [tE] at gF Dw
               have hv : 1 <= vE w4 := by simp at Dw; omega
               have g1 := gF (aW w1) (by simp)
               have g3 := gF (aW w3) (by simp)
               refine q _ _ s6 ?_
               rw [nS, tE]
               constructor
               . intro z
                 have z : aW w3 < aW w2 := of_decide_eq_true z
                 exact ⟨w1, w2, w3, w4, rfl, g1, g3, z, hv⟩
               . rintro ⟨y1, y2, y3, y4, e, _, _, z, _⟩
                 cases e
                 exact decide_eq_true z
             . rename_i b4 b5 b6
               obtain rfl : w0 = Str.ofString "each" := V.str.inj b5
               refine no fun h => ?_
               obtain ⟨y1, y2, y3, y4, e, _⟩ := nS.mp h
               subst e
               exact b6 (by rw [tE]; rfl)
             . rename_i b4 b5 b6 b7
               obtain rfl : w0 = Str.ofString "behind" := V.str.inj b6
               obtain ⟨w1, w2, w3, w4, rfl⟩ := IL (l := rest) (by omega)
               rw [tE] at gF Dw
               have hv : 1 <= vE w4 := by simp at Dw; omega
               have g1 := gF (aW w1) (by simp)
               have g3 := gF (aW w3) (by simp)
               refine q _ _ s6 ?_
               rw [jn, tE]
               constructor
               . intro z
                 have z : 0 < aW w2 := of_decide_eq_true z
                 exact ⟨w1, w2, w3, w4, rfl, g1, z, g3, hv⟩
               . rintro ⟨y1, y2, y3, y4, e, _, z, _, _⟩
                 cases e
                 exact decide_eq_true z
             . rename_i b4 b5 b6 b7
               obtain rfl : w0 = Str.ofString "behind" := V.str.inj b6
               refine no fun h => ?_
               obtain ⟨y1, y2, y3, y4, e, _⟩ := jn.mp h
               subst e
               exact b7 (by rw [tE]; rfl)
             . rename_i b4 b5 b6 b7 b8 b9
               obtain rfl : w0 = Str.ofString "slowing" := V.str.inj b7
               obtain ⟨w1, w2, w3, w4, w5, rfl⟩ := Kx (l := rest) (by omega)
               rw [Ak] at gF Dw b9
               have hv : 1 <= vE w5 := by simp at Dw; omega
               have g1 := gF (aW w1) (by simp)
               have g4 := gF (aW w4) (by simp)
               have b9 : 1 <= aW w2 := b9
               refine q _ _ s6 ?_
               rw [jW, Ak]
               constructor
               . intro z
                 have z : aW w2 <= aW w3 := of_decide_eq_true z
                 exact ⟨w1, w2, w3, w4, w5, rfl, g1, b9, z, g4, hv⟩
               . rintro ⟨y1, y2, y3, y4, y5, e, _, _, z, _⟩
                 cases e
                 exact decide_eq_true z
             . rename_i b4 b5 b6 b7 b8 b9
               obtain rfl : w0 = Str.ofString "slowing" := V.str.inj b7
               refine no fun h => ?_
               obtain ⟨y1, y2, y3, y4, y5, e, _, z, _⟩ := jW.mp h
               subst e
               rw [Ak] at b9
               exact b9 z
             . rename_i b4 b5 b6 b7 b8
               obtain rfl : w0 = Str.ofString "slowing" := V.str.inj b7
               refine no fun h => ?_
               obtain ⟨y1, y2, y3, y4, y5, e, _⟩ := jW.mp h
               subst e
               exact b8 (by rw [Ak]; rfl)
             . rename_i b4 b5 b6 b7
               exact no (xI h1 (fun z => b5 (congrArg V.str z)) (fun z => b6 (congrArg V.str z)) (fun z => b7 (congrArg V.str z)))
theorem Au (T : Txt K mg a) : qX P w K mg base 2 a.cz ["_law_text"] [] sr :=
 ⟨⟨_, _, Bl T, T.jD.binds fun _ _ _ _ _ _ => .all fun us hl => match us, hl with | [_], _ => rfl, .nil⟩⟩
def ej (ws : List Str) : Prop := ∀ x ∈ ws, jh 61 x
def wk (K : PySem.W.Frag) : Sp := fun vs H Q _ => ∃ (l : Addr) (ns : List Int), vs = [.ref l] /\ gf K H l (ns.map V.int) /\ ∀ p H' ws, ao H H' -> H p = none -> dk H' p (ws.map PyData.str) -> ws ≠ [] -> ws.length <= 6 -> ej ws -> Q (.ref p) H'
theorem IT {H : Hp} {Q : VK} {E : XK} {l : Addr} {ns : List Int} (hl : gf K H l (ns.map V.int)) (q : ∀ p H' ws, ao H H' -> H p = none -> dk H' p (ws.map PyData.str) -> ws ≠ [] -> ws.length <= 6 -> ej ws -> Q (.ref p) H') : wk K [.ref l] H Q E := ⟨l, ns, rfl, hl, q⟩
theorem rR {H : Hp} {Q : VK} {v : V} {ds : List PyData} {i : Int} (hp : Dv H v (.list ds)) (h0 : 0 <= i) (h1 : i < ds.length) (h : ∀ d ∈ ds, ∀ x, Dv H x d -> Q x H) : Am K v (.int i) H Q := by
 obtain ⟨m, rfl⟩ := Int.eq_ofNat_of_zero_le h0
 have hi : m < ds.length := by omega
 exact k7 (.inr hp) (jU (List.getElem?_eq_getElem hi)) (xr fun x hx => h _ (List.getElem_mem hi) x hx)
theorem m8 {n : Int} (h0 : -(10 ^ 60) < n) (h1 : n < 10 ^ 60) : jh 61 (Str.ofString (toString n)) := yR h0 h1
theorem AO : jh 61 (Str.ofString "ever") := ⟨by decide +kernel, by decide +kernel⟩
theorem nJ : jh 61 (Str.ofString "once") := ⟨by decide +kernel, by decide +kernel⟩
theorem mK : jh 61 (Str.ofString "each") := ⟨by decide +kernel, by decide +kernel⟩
theorem ib : jh 61 (Str.ofString "behind") := ⟨by decide +kernel, by decide +kernel⟩
theorem m9 : jh 61 (Str.ofString "slowing") := ⟨by decide +kernel, by decide +kernel⟩
theorem EF (T : Txt K mg a) : bh P w K mg base qL 2 a.bY a.kJ ["_law_script"] (wk K) := by
 have aE := jg (P := P) (w := w) (base := base) T
 have cg := uF (P := P) (w := w) (base := base) T
 refine T.iI.ok cS (fun vs H Q E h => ?_) (fun di A outer s H vs Q E hr h => ?_)
 . obtain ⟨_, _, rfl, _⟩ := h; rfl
 . obtain ⟨l, ns, rfl, hl, q⟩ := h
   refine ⟨_, (ai (cw (i := 1) cS.nd rfl (Or.inl rfl) (aM bW (aF aE (hr.mono (by decide)) rfl T.az T.aA (af (pv 0) (af ah ag))) ah))
    (ai (cw (i := 2) cS.nd rfl (Or.inl rfl) (aF cg (hr.mono (by decide)) rfl T.bM T.bL (af (aF aE (hr.mono (by decide)) rfl T.az T.aA (af (pv 0) (af ah ag))) ag)))
    (ai (cw (i := 3) cS.nd rfl (Or.inl rfl) (aM lD ah (aF cg (hr.mono (by decide)) rfl T.bM T.bL (af (aF aE (hr.mono (by decide)) rfl T.az T.aA (af (pv 0) (af ah ag))) ag))))
    (ai (cw (i := 4) cS.nd rfl (Or.inl rfl) (aF cg (hr.mono (by decide)) rfl T.bM T.bL (af (aF aE (hr.mono (by decide)) rfl T.az T.aA (af (pv 0) (af ah ag))) ag)))
    (ai (cw (i := 5) cS.nd rfl (Or.inl rfl) (a8 cV (bu (af au (af (a6 bx rfl T.cJ PyProof.Rows.boot_str (af (aM lD ah (aF cg (hr.mono (by decide)) rfl T.bM T.bL (af (aM fL (aF aE (hr.mono (by decide)) rfl T.az T.aA (af (pv 0) (af ah ag))) ah) ag))) ag)) ag))) (aM bW (aF aE (hr.mono (by decide)) rfl T.az T.aA (af (pv 0) (af ah ag))) ah) (fun _ _ => rfl)))
    (ai (bD (ay (aY hr.kc) (pv 1) ah (ax _))
     (aj (aB (bu (af au (af (a6 bx rfl T.cJ PyProof.Rows.boot_str (af (pv 2) ag)) (af (a6 bx rfl T.cJ PyProof.Rows.boot_str (af (aM lD (pv 2) (pv 4)) ag)) ag))))))
     aG)
    (ai (bD (ay (aY hr.kc) (pv 1) ah (ax _))
     (aj (aB (bu (af au (af (a6 bx rfl T.cJ PyProof.Rows.boot_str (af (pv 2) ag)) (af (a6 bx rfl T.cJ PyProof.Rows.boot_str (af (pv 3) ag)) (af (a6 bx rfl T.cJ PyProof.Rows.boot_str (af (aM bW (pv 4) (pv 3)) ag)) (af (pv 5) ag))))))))
     aG)
    (ai (bD (ay (aY hr.kc) (pv 1) ah (ax _))
     (aj (aB (bu (af au (af (a6 bx rfl T.cJ PyProof.Rows.boot_str (af (pv 2) ag)) (af (a6 bx rfl T.cJ PyProof.Rows.boot_str (af (pv 3) ag)) (af (a6 bx rfl T.cJ PyProof.Rows.boot_str (af (pv 4) ag)) (af (pv 5) ag))))))))
     aG)
    (aj (aB (bu (af au (af (a6 bx rfl T.cJ PyProof.Rows.boot_str (af (pv 2) ag)) (af (a6 bx rfl T.cJ PyProof.Rows.boot_str (af (pv 3) ag)) (af (a6 bx rfl T.cJ PyProof.Rows.boot_str (af (aM lD (pv 3) (aF cg (hr.mono (by decide)) rfl T.bM T.bL (af (aF aE (hr.mono (by decide)) rfl T.az T.aA (af (pv 0) (af ah ag))) ag))) ag)) (af (a6 bx rfl T.cJ PyProof.Rows.boot_str (af (pv 4) ag)) (af (pv 5) ag))))))))))))))))), ?_⟩
   repeat' (walk_at "rd1")
   rename_i x4 _ _ p1 H1 s1 n1 yI _ _
   refine rR (by walk_at "dat") (by assumption) (by simp only [List.length_cons, List.length_nil]; omega) (fun d hd x hx => ?_)
   obtain ⟨tx, rfl, A2⟩ : ∃ tx, x = .str tx /\ jh 61 tx := by
    simp only [List.mem_cons, List.not_mem_nil, or_false] at hd
    rcases hd with rfl | rfl
    . exact ⟨_, hx.str_inv, AO⟩
    . exact ⟨_, hx.str_inv, m8 (by omega) (by omega)⟩
   clear hx hd
   repeat' (walk_at "rd1")
   . refine q _ _ [_, _, _] (by walk_at "same") (by walk_at "none") (by assumption) (by simp) (by simp) (fun z hz => ?_)
     simp only [List.mem_cons, List.not_mem_nil, or_false] at hz
     rcases hz with rfl | rfl | rfl
     all_goals first | exact nJ | exact mK | exact ib | exact m9 | assumption | exact m8 (by omega) (by omega)
   . refine q _ _ [_, _, _, _, _] (by walk_at "same") (by walk_at "none") (by assumption) (by simp) (by simp) (fun z hz => ?_)
     simp only [List.mem_cons, List.not_mem_nil, or_false] at hz
     rcases hz with rfl | rfl | rfl | rfl | rfl
     all_goals first | exact nJ | exact mK | exact ib | exact m9 | assumption | exact m8 (by omega) (by omega)
   . refine q _ _ [_, _, _, _, _] (by walk_at "same") (by walk_at "none") (by assumption) (by simp) (by simp) (fun z hz => ?_)
     simp only [List.mem_cons, List.not_mem_nil, or_false] at hz
     rcases hz with rfl | rfl | rfl | rfl | rfl
     all_goals first | exact nJ | exact mK | exact ib | exact m9 | assumption | exact m8 (by omega) (by omega)
   . refine q _ _ [_, _, _, _, _, _] (by walk_at "same") (by walk_at "none") (by assumption) (by simp) (by simp) (fun z hz => ?_)
     simp only [List.mem_cons, List.not_mem_nil, or_false] at hz
     rcases hz with rfl | rfl | rfl | rfl | rfl | rfl
     all_goals first | exact nJ | exact mK | exact ib | exact m9 | assumption | exact m8 (by omega) (by omega)
theorem BP (T : Txt K mg a) : qX P w K mg base 2 a.bY ["_law_script"] [] (wk K) :=
 ⟨⟨_, _, EF T, T.iI.binds fun _ _ _ _ _ _ => .all fun us hl => match us, hl with | [_], _ => rfl, .nil⟩⟩
section
variable {H : Hp} {Q : VK} {p : Addr} {ws : List Str}
theorem Jf (xs : List V) : sx xs none (some (-1)) = xs.take (xs.length - 1) := by
 have h1 : HT.fM xs.length xs.length (some (-1)) = xs.length - 1 := by
  simp only [HT.fM]
  rw [if_pos (by omega)]
  omega
 show (xs.drop (HT.fM xs.length 0 none)).take (HT.fM xs.length xs.length (some (-1)) - HT.fM xs.length 0 none) = _
 rw [h1, show HT.fM xs.length 0 none = 0 from rfl, List.drop_zero, Nat.sub_zero]
theorem HJ (xs : List V) : sx xs (some (-1)) none = xs.drop (xs.length - 1) := by
 have h1 : HT.fM xs.length 0 (some (-1)) = xs.length - 1 := by
  simp only [HT.fM]
  rw [if_pos (by omega)]
  omega
 have h2 : HT.fM xs.length xs.length none = xs.length := rfl
 show (xs.drop (HT.fM xs.length 0 (some (-1)))).take (HT.fM xs.length xs.length none - HT.fM xs.length 0 (some (-1))) = _
 rw [h1, h2]
 exact List.take_of_length_le (by rw [List.length_drop]; omega)
theorem KI (j : Int) (h0 : 0 <= j) (hp : dk H p (ws.map PyData.str)) (k : ∀ q H', ao H H' -> H q = none -> dk H' q ((ws.take j.toNat).map PyData.str) -> Q (.ref q) H') : t6 K (.ref p) none (some j) H Q := by
 obtain ⟨m, rfl⟩ := Int.eq_ofNat_of_zero_le h0
 exact AW m hp (fun q H' s n h => k q H' s n (by rw [List.map_take]; exact h))
theorem Kt (j : Int) (h0 : 0 <= j) (hp : dk H p (ws.map PyData.str)) (k : ∀ q H', ao H H' -> H q = none -> dk H' q ((ws.drop j.toNat).map PyData.str) -> Q (.ref q) H') : t6 K (.ref p) (some j) none H Q := by
 obtain ⟨m, rfl⟩ := Int.eq_ofNat_of_zero_le h0
 exact sE m hp (fun q H' s n h => k q H' s n (by rw [List.map_drop]; exact h))
theorem Lg (hp : dk H p (ws.map PyData.str)) (k : ∀ q H', ao H H' -> H q = none -> dk H' q ((ws.take (ws.length - 1)).map PyData.str) -> Q (.ref q) H') : t6 K (.ref p) none (some (-1)) H Q := by
 obtain ⟨xs, e, dv, im⟩ := hp
 refine ⟨p, xs, rfl, gf.of e, fun q hq => ?_⟩
 have hl := dv.length
 rw [List.length_map] at hl
 rw [Jf, hl]
 exact k q _ (bC hq) hq (by rw [List.map_take]; exact iE hq (dv.take _) (jG _ im))
theorem L5 (hp : dk H p (ws.map PyData.str)) (k : ∀ q H', ao H H' -> H q = none -> dk H' q ((ws.drop (ws.length - 1)).map PyData.str) -> Q (.ref q) H') : t6 K (.ref p) (some (-1)) none H Q := by
 obtain ⟨xs, e, dv, im⟩ := hp
 refine ⟨p, xs, rfl, gf.of e, fun q hq => ?_⟩
 have hl := dv.length
 rw [List.length_map] at hl
 rw [HJ, hl]
 exact k q _ (bC hq) hq (by rw [List.map_drop]; exact iE hq (dv.drop _) (js _ im))
theorem IW {q : Addr} {zs : List Str} (hp : dk H p (ws.map PyData.str)) (hq : dk H q (zs.map PyData.str)) (hl : ws.length + zs.length <= 4000) (k : ∀ r H', ao H H' -> H r = none -> dk H' r ((ws ++ zs).map PyData.str) -> Q (.ref r) H') : FA (.ref p) (.ref q) H Q :=
 z9 hp hq (by rw [List.length_map, List.length_map]; exact hl) fun r H' s n h => k r H' s n (by rw [List.map_append]; exact h)
theorem IQ {x : Str} (h : ∀ r H', ao H H' -> H r = none -> dk H' r ([x].map PyData.str) -> Q (.ref r) H') : zP [.str x] H Q :=
 vm (ds := [.str x]) (uz rfl) (.cons (.str x) .nil) rfl (fun r H' s n hr => h r H' s n hr)
end
local macro_rules | `(tactic| walk_at "rd1") => `(tactic| first
 | with_reducible refine IQ (fun _ _ _ _ _ => ?_)
 | ((with_reducible refine' KI _ ?e0 ?e1 (fun _ _ _ _ _ => ?_)); (case e1 => walk_at "lat"); (case e0 => omega))
 | ((with_reducible refine' Kt _ ?e0 ?e1 (fun _ _ _ _ _ => ?_)); (case e1 => walk_at "lat"); (case e0 => omega))
 | ((with_reducible refine' Lg ?e1 (fun _ _ _ _ _ => ?_)); (case e1 => walk_at "lat"))
 | ((with_reducible refine' L5 ?e1 (fun _ _ _ _ _ => ?_)); (case e1 => walk_at "lat"))
 | ((with_reducible refine' IW ?e1 ?e2 ?e3 (fun _ _ _ _ _ => ?_)); (case e1 => walk_at "lat"); (case e2 => walk_at "lat"); (case e3 => (simp only [List.length_append, List.length_take, List.length_drop, List.length_cons, List.length_nil]; omega)))
 | fail)
theorem ej.take {ws : List Str} (h : ej ws) (n : Nat) : ej (ws.take n) := fun x hx => h x (List.mem_of_mem_take hx)
theorem ej.drop {ws : List Str} (h : ej ws) (n : Nat) : ej (ws.drop n) := fun x hx => h x (List.mem_of_mem_drop hx)
theorem ej.app {ws zs : List Str} (h : ej ws) (g : ej zs) : ej (ws ++ zs) := fun x hx => (List.mem_append.mp hx).elim (h x) (g x)
theorem ej.one {x : Str} (h : jh 61 x) : ej [x] := fun y hy => by rw [List.mem_singleton.mp hy]; exact h
def vf : Sp := fun vs H Q _ => ∃ p ws c, vs = [.ref p, .int c] /\ dk H p (ws.map PyData.str) /\ ws ≠ [] /\ ws.length <= 20 /\ ej ws /\ ∀ r H' zs, ao H H' -> H r = none -> dk H' r (zs.map PyData.str) -> zs.length <= ws.length + 1 -> ej zs -> Q (.ref r) H'
theorem DB {H : Hp} {Q : VK} {E : XK} {p : Addr} {ws : List Str} {c : Int} (h : dk H p (ws.map PyData.str)) (h1 : ws ≠ []) (h2 : ws.length <= 20) (h3 : ej ws) (q : ∀ r H' zs, ao H H' -> H r = none -> dk H' r (zs.map PyData.str) -> zs.length <= ws.length + 1 -> ej zs -> Q (.ref r) H') : vf [.ref p, .int c] H Q E := ⟨p, ws, c, rfl, h, h1, h2, h3, q⟩
theorem F4 (T : Txt K mg a) : bh P w K mg base qL 1 a.bp a.iZ ["_law_words_here", "_law_cell"] vf := by
 refine T.fx.ok du (fun vs H Q E h => ?_) (fun di A outer s H vs Q E hr h => ?_)
 . obtain ⟨_, _, _, rfl, _⟩ := h; rfl
 . obtain ⟨p, ws, c, rfl, hp, j6, hl, ha, q⟩ := h
   have sy : 0 < ws.length := List.length_pos_iff.mpr j6
   refine ⟨_, (ai (cw (i := 2) du.nd rfl (Or.inl rfl) (aM bW (aM fL (pv 1) ah) (aU cu rfl T.dZ PySem.boot_len (af (pv 0) ag))))
    (ai (cw (i := 3) du.nd rfl (Or.inl rfl) (bu (af au (af au (af au (af au (af au (af au (af au (af au (af au (af au (af au (af au (af au ag)))))))))))))))
    (ai (cw (i := 4) du.nd rfl (Or.inl rfl) (a8 cV (aM eN (pv 3) (bu (af (aM C8 au ah) (af au (af au (af au (af au ag))))))) (aM bW (aM fL (pv 1) ah) ah) (fun _ _ => rfl)))
    (ai (bD (ay (aY hr.kc) (aM bW (pv 1) ah) ah (ax _))
     (aj (aB (aM eN (bt cn (pv 0) cm (bP (pv 2))) (bt cn (pv 0) (bP (aM lD (pv 2) ah)) cm))))
     aG)
    (ai (bD (ay (aY hr.kc) (aM bW (pv 1) ah) ah (ax _))
     (aj (aB (aM eN (aM eN (bt cn (pv 0) cm (bP (pv 2))) (bu (af (a8 cV (pv 0) (pv 2) (fun _ _ => rfl)) ag))) (bt cn (pv 0) (bP (pv 2)) cm))))
     aG)
    (ai (bD (ay (aY hr.kc) (aM bW (pv 1) ah) ah (ax _))
     (aj (aB (aM eN (aM eN (bt cn (pv 0) cm (bP (pv 2))) (bu (af (pv 4) ag))) (bt cn (pv 0) (bP (pv 2)) cm))))
     aG)
    (ai (bD (ay (aY hr.kc) (aM bW (pv 1) ah) ah (ax _))
     (aj (aB (aM eN (aM eN (bt cn (pv 0) cm (bP (pv 2))) (bu (af (pv 4) ag))) (bt cn (pv 0) (bP (aM lD (pv 2) ah)) cm))))
     aG)
    (aj (aB (aM eN (aM eN (bt cn (bt cn (pv 0) cm (bP (pv 2))) cm (bP (qd lJ ah))) (bt cn (pv 0) (bP (pv 2)) cm)) (bt cn (bt cn (pv 0) cm (bP (pv 2))) (bP (qd lJ ah)) cm))))))))))), ?_⟩
   repeat' (walk_at "rd1")
   rename_i p2 H2 s2 n2 Jv n9 Nz NW p3 H3 s3 n3 MR p4 H4 s4 n4 MD i0 i1
   refine rR (by walk_at "dat") i0 (by simp only [List.length_append, List.length_cons, List.length_nil]; omega) (fun d hd x hx => ?_)
   obtain ⟨tx, rfl, A2⟩ : ∃ tx, x = .str tx /\ jh 61 tx := by
    have h9 : jh 61 n9 := ⟨by rw [Nz]; decide, fun c hc => by
     have := NW c hc
     rw [show (Str.ofString "9").cps.toList = [57] by decide +kernel] at this
     rw [List.mem_singleton.mp this]; decide⟩
    simp only [List.cons_append, List.nil_append, List.mem_cons, List.not_mem_nil, or_false] at hd
    rcases hd with rfl | rfl | rfl | rfl | rfl | rfl | rfl | rfl | rfl | rfl | rfl | rfl | rfl | rfl | rfl | rfl | rfl | rfl
    all_goals first | exact ⟨_, hx.str_inv, h9⟩ | exact ⟨_, hx.str_inv, by decide +kernel, by decide +kernel⟩
   clear hx hd
   have NZ : jh 61 (ws.getD (c / 5 % ws.length).toNat default) := by
    have hi : (c / 5 % ws.length).toNat < ws.length := by omega
    rw [List.getD_eq_getElem?_getD, List.getElem?_eq_getElem hi]
    exact ha _ (List.getElem_mem hi)
   repeat' (walk_at "rd1")
   all_goals refine q _ _ _ (by walk_at "same") (by walk_at "none") (by assumption) (by simp only [List.length_append, List.length_take, List.length_drop, List.length_cons, List.length_nil]; omega) ?_
   all_goals repeat' first | exact ha | exact .one A2 | exact .one NZ | refine ej.app ?_ ?_ | refine ej.take ?_ _ | refine ej.drop ?_ _
theorem BI (T : Txt K mg a) : qX P w K mg base 1 a.bp ["_law_words_here", "_law_cell"] [] vf :=
 ⟨⟨_, _, F4 T, T.fx.binds fun _ _ _ _ _ _ => .all fun us hl => match us, hl with | [_, _], _ => rfl, .nil⟩⟩
theorem B1 {n : Nat} {x : Str} (h : jh n x) : PyData.canLay0 (.str x) = true := by
 show x.cps.all (· < 0x110000) = true
 rw [Array.all_eq_true']
 intro c hc
 have := h.2 c (by simpa using hc)
 exact decide_eq_true (by omega)
theorem t7 : ∀ {ss : List Str}, ej ss -> PyData.canLayAll0 (ss.map PyData.str) = true
 | [], _ => rfl
 | x :: r, h => by
   simp only [List.map_cons, PyData.canLayAll0, B1 (h x List.mem_cons_self), Bool.true_and]
   exact t7 fun y hy => h y (List.mem_cons_of_mem _ hy)
theorem rp : ∀ ws : List Str, PyData.depthAll (ws.map PyData.str) <= 1
 | [] => by simp [PyData.depthAll]
 | _ :: r => by have := rp r; simp only [List.map_cons, PyData.depthAll, PyData.depth]; omega
theorem zQ {H : Hp} {Q : VK} {f : Bool -> Bool} {x y : V} {ss : List Str} (h1 : Dv H x (.list (ss.map PyData.str))) (h2 : Dv H y (.list [])) (hs : ej ss) (h : Q (.bl (f ss.isEmpty)) H) : zY K f x y H Q := by
 have e : PyData.eqv (.list (ss.map PyData.str)) (.list []) = ss.isEmpty := by cases ss <;> rfl
 refine DI h1 h2 (by rw [PyData.canLay0]; exact t7 hs) rfl ?_ (by rw [e]; exact h)
 have := rp ss
 rw [PyData.depth]; omega
theorem vL : ∀ {ws : List Str}, ej ws -> (ws.map (·.length)).sum <= 61 * ws.length
 | [], _ => Nat.zero_le _
 | x :: r, h => by
   have h1 := (h x List.mem_cons_self).1
   have h2 := vL (ws := r) fun y hy => h y (List.mem_cons_of_mem _ hy)
   simp only [List.map_cons, List.sum_cons, List.length_cons]
   omega
theorem zp (ws : List Str) : (ws.flatMap fun p => (Str.ofString " ").cps.toList ++ p.cps.toList).length = (ws.map (·.length)).sum + ws.length := by
 have e1 : (Str.ofString " ").cps.toList.length = 1 := by decide +kernel
 induction ws with
 | nil => rfl
 | cons x r ih =>
   rw [List.flatMap_cons, List.length_append, List.length_append, ih, e1, List.map_cons, List.sum_cons, List.length_cons, <- fi]
   omega
theorem AG {ws : List Str} (h : ej ws) (hl : ws.length <= 8) : jh 700 (Txt.join (Str.ofString " ") ws) := by
 cases ws with
 | nil => exact ⟨by decide +kernel, by decide +kernel⟩
 | cons x r =>
   have h1 := (h x List.mem_cons_self).1
   have h2 := vL (ws := r) fun y hy => h y (List.mem_cons_of_mem _ hy)
   have h3 := zp r
   rw [List.length_cons] at hl
   refine ⟨?_, fun c hc => ?_⟩
   . rw [fi, mG, List.length_append, h3, <- fi]
     omega
   . rw [mG, List.mem_append] at hc
     rcases hc with hc | hc
     . exact (h x List.mem_cons_self).2 c hc
     . obtain ⟨p, hp, hc⟩ := List.mem_flatMap.mp hc
       rcases List.mem_append.mp hc with hc | hc
       . have : (Str.ofString " ").cps.toList = [32] := by decide +kernel
         rw [this] at hc
         rw [List.mem_singleton.mp hc]; decide
       . exact (h p (List.mem_cons_of_mem _ hp)).2 c hc
theorem vW {x : Str} {m : V} (h : uJ x = some m) (hm : wt m = true) : x = oP (mD m) /\ mH m (mD m) := by
 rcases nh h with ⟨rfl, rfl⟩ | ⟨n, _, e, rfl⟩
 . exact ⟨rfl, .inl ⟨rfl, rfl⟩⟩
 . simp only [wt, decide_eq_true_eq] at hm
   rcases nG e with ⟨h1, _⟩ | ⟨h0, h1, _, h2⟩
   . omega
   . exact ⟨h2, .inr ⟨n, rfl, rfl, h0, by omega⟩⟩
theorem eW {x : Str} {n : Int} (h : rd x = some n) (h0 : 0 <= n) : x = mh n /\ n < 10 ^ 64 := by
 rcases nG h with ⟨h1, _⟩ | ⟨_, h1, _, h2⟩
 . omega
 . exact ⟨h2, by omega⟩
theorem xP {x : Str} : Txt.join (Str.ofString " ") (Txt.split x (Str.ofString " ")) = x := by
 have h1 := StrLaws.join_split x (Str.ofString " ")
 rw [<- StrLaws.glued_eq_join] at h1
 exact h1
theorem Gd (T : Txt K mg a) (aT : gP w K a.bJ a9) : bh P w K mg base qL 11 a.ll a.sq ["_law_script"] (Aj K) := by
 have aE := jg (P := P) (w := w) (base := base) T
 have cg := uF (P := P) (w := w) (base := base) T
 have sG := BP (P := P) (w := w) (base := base) T
 have jT := BI (P := P) (w := w) (base := base) T
 have jL := z7 (P := P) (base := base) T aT
 have tN := Au (P := P) (w := w) (base := base) T
 have dJ := z5 (P := P) (base := base) T aT
 have sF := Ek (P := P) (w := w) (base := base) T
 have sd := EC (P := P) (w := w) (base := base) T
 have pU := E9 (P := P) (w := w) (base := base) T
 have pj := Fw (P := P) (w := w) (base := base) T
 have OW := T.ez; have OX := T.et; have O5 := T.cT; have O1 := T.cb
 have m1 := T.iB; have m2 := T.ik; have m3 := T.fz; have m4 := T.eS
 refine T.Ae.ok oy (fun vs H Q E h => ?_) (fun di A outer s H vs Q E hr h => ?_)
 . obtain ⟨_, _, rfl, _⟩ := h; rfl
 . obtain ⟨l, ns, rfl, hl, hn, q⟩ := h
   refine ⟨_, (ai (cw (i := 1) oy.nd rfl (Or.inl rfl) (aF sG (hr.mono (by decide)) rfl T.kE T.ke (af (pv 0) ag)))
    (mj (bD (ay xf (aM bW (aF aE (hr.mono (by decide)) rfl T.az T.aA (af (pv 0) (af ah ag))) ah) ah (ax _))
     (aj (cw (i := 1) oy.nd rfl (Or.inl rfl) (aF jT (hr.mono (by decide)) rfl T.eY T.eI (af (pv 1) (af (aF aE (hr.mono (by decide)) rfl T.az T.aA (af (pv 0) (af ah ag))) ag)))))
     aG)
    (mj (bD (PW.pt (vH (ay (aY hr.kc) (aM bW (aF aE (hr.mono (by decide)) rfl T.az T.aA (af (pv 0) (af ah ag))) ah) ah (ax _)) (sO (ay (vR hr.kc) (pv 1) (bu ag) (ax _)))))
     (aj (cw (i := 1) oy.nd rfl (Or.inl rfl) (aF jT (hr.mono (by decide)) rfl T.eY T.eI (af (pv 1) (af (aF aE (hr.mono (by decide)) rfl T.az T.aA (af (pv 0) (af ah ag))) ag)))))
     aG)
    (ai (cw (i := 2) oy.nd rfl (Or.inl rfl) (qz PySem.F.plainAttrs_str PySem.F.slot_str_join PySem.F.type_str_join sv au (af (pv 1) ag)))
    (ai (cw (i := 3) oy.nd rfl (Or.inl rfl) (a8 cV (bu (af (aF cg (hr.mono (by decide)) rfl T.bM T.bL (af (aF aE (hr.mono (by decide)) rfl T.az T.aA (af (pv 0) (af ah ag))) ag)) (af p9 (af (bu (af (pv 2) ag)) (af (pv 1) (af rE ag)))))) (aM bW (aF aE (hr.mono (by decide)) rfl T.az T.aA (af (pv 0) (af ah ag))) ah) (fun _ _ => rfl)))
    (ai (bD (ot (eH (aF jL (hr.mono (by decide)) rfl T.eK T.eP (af (pv 3) ag)) (fun _ => rfl)))
     (aj (aB rE))
     aG)
    (ai (bD (ot (eH (aF tN (hr.mono (by decide)) rfl T.nu T.nD (af (pv 2) ag)) (fun _ => rfl)))
     (aj (aB (aF jL (hr.mono (by decide)) rfl T.eK T.eP (af (pv 2) ag))))
     aG)
    (aj (aB (dt (aY hr.kc) (uP (mE (mY dJ (hr.mono (by decide)) rfl T.dc T.da sL (af (pv 2) ag)) T.ez T.iB sF (hr.mono (by decide))) (uP (mE (mY dJ (hr.mono (by decide)) rfl T.dc T.da sL (af (pv 2) ag)) T.et T.ik sd (hr.mono (by decide))) (uP (mE (mY dJ (hr.mono (by decide)) rfl T.dc T.da sL (af (pv 2) ag)) T.cT T.fz pU (hr.mono (by decide))) (mE (mY dJ (hr.mono (by decide)) rfl T.dc T.da sL (af (pv 2) ag)) T.cb T.eS pj (hr.mono (by decide)))))) (pv 2) (ax _))))))))))), ?_⟩
   repeat' (walk_at "rd1")
   refine IT hl (fun p1 H1 ws s1 n1 yI j6 O0 Mz => ?_)
   repeat' (walk_at "rd1")
   refine rQ (fun σ' H' => ∃ p zs, ao H H' /\ dk H' p (zs.map PyData.str) /\ zs.length <= 7 /\ ej zs /\ σ' = [some (.ref l), some (.ref p), none, none]) ?_ ?_
   . repeat' (walk_at "rd1")
     . refine DB yI j6 (by omega) Mz (fun r H2 zs s2 n2 L9 Lw GQ => ?_)
       repeat' (walk_at "rd1")
       exact ⟨_, _, s1.trans s2, L9, by omega, GQ, rfl⟩
     . exact ⟨_, _, s1, yI, by omega, Mz, rfl⟩
   rintro σ' H2 ⟨p2, zs, s2, Jv, Lw, GQ, rfl⟩
   have NP := ao.seq s2 hl
   refine rQ (fun σ' H' => ∃ p zs, ao H H' /\ dk H' p (zs.map PyData.str) /\ zs.length <= 8 /\ ej zs /\ σ' = [some (.ref l), some (.ref p), none, none]) ?_ ?_
   . repeat' (walk_at "rd1")
     . rename_i p4 H4 s4 n4 MD
       refine zQ (Jv.keeps s4).dv MD.dv GQ ?_
       repeat' (walk_at "rd1")
       . rename_i b4
         have Kz : zs ≠ [] := fun z => by rw [z] at b4; simp at b4
         refine DB (Jv.keeps s4) Kz (by omega) GQ (fun r H5 ys s5 n5 M3 Pg Nw => ?_)
         repeat' (walk_at "rd1")
         exact ⟨_, _, (s2.trans s4).trans s5, M3, by omega, Nw, rfl⟩
       . exact ⟨_, _, s2.trans s4, Jv.keeps s4, by omega, GQ, rfl⟩
     . exact ⟨_, _, s2, Jv, by omega, GQ, rfl⟩
   rintro σ' H3 ⟨p3, ys, s3, MR, Oj, MX, rfl⟩
   have Oz := ao.seq s3 hl
   repeat' (walk_at "rd1")
   refine sS MR.dv ?_ ?_
   . have h1 := vL MX
     have e1 : (Str.ofString " ").length = 1 := by decide +kernel
     rw [e1]
     omega
   have A2 := AG MX Oj
   generalize Txt.join (Str.ofString " ") ys = tx at *
   have OV := A2.1
   repeat' (walk_at "rd1")
   rename_i p5 H5 s5 n5 NN Nv Jk i0 i1
   have O3 : ao H3 H5 := by walk_at "same"
   refine rR Jk i0 (by simp only [List.length_cons, List.length_nil]; omega) (fun d hd x hx => ?_)
   have FR : ∀ y, ¬ d = .str y := by
    simp only [List.mem_cons, List.not_mem_nil, or_false] at hd
    rcases hd with rfl | rfl | rfl | rfl | rfl <;> (intro y z; cases z)
   clear NN Nv Jk hd
   repeat' (walk_at "rd1")
   refine Ag hx (fun y e => absurd e (FR y)) (fun ⟨y, e, _⟩ => FR y e) (fun H6 s6 => ?_)
   repeat' (walk_at "rd1")
   refine Gi A2 (fun H7 b s7 hb => ?_)
   cases b with
   | false =>
     have Nr : ¬ GoodW (Txt.split tx (Str.ofString " ")) := fun z => by cases hb.mpr z
     repeat' (walk_at "rd1")
     refine Ag (.str tx) (fun y e => by cases e; exact A2) (fun ⟨y, e, z⟩ => by cases e; exact Nr z) (fun H8 s8 => ?_)
     repeat' (walk_at "rd1")
     exact q _
   | true =>
     have hg := hb.mp rfl
     have uv := xP (x := tx)
     repeat' ((fail_if_success (with_reducible refine oJ ?_)); walk_at "rd1")
     have Nt := hg
     obtain ⟨kd, us, pP, ho⟩ := Nt
     generalize JY : Txt.split tx (Str.ofString " ") = OM at pP uv
     cases pP with
     | @once w1 w2 i1 i2 a1 a2 =>
       rw [xl] at ho
       simp only [A5, Bool.and_eq_true, decide_eq_true_eq] at ho
       obtain ⟨o1, o2⟩ := ho
       obtain ⟨e1, b1⟩ := eW a1 o1
       obtain ⟨e2, b2⟩ := eW a2 (by omega)
       have Kf : 0 <= i1 /\ i1 < 10 ^ 64 /\ 0 <= i2 /\ i2 < 10 ^ 64 := ⟨o1, b1, by omega, b2⟩
       have qj : o6 (Str.ofString "once") [.int i1, .int i2] = tx := by rw [<- uv, e1, e2]; rfl
       with_reducible refine wB ?_
       repeat' (walk_at "rd1")
       refine y7 (.str tx) (fun y e => by cases e; exact A2) (fun hn => absurd ⟨_, rfl, hg⟩ hn) (fun y JO JK ed qo oW v' H8 s8 hi => ?_)
       cases ed
       rw [JY] at qo
       obtain ⟨rfl, rfl⟩ := (pK.det (.once a1 a2) qo)
       rw [Ds] at hi
       simp only [qw] at hi
       repeat' (walk_at "rd1")
       rw [qj]
       simp only [decide_true, id]
       exact q _
     | @each w1 w2 w3 w4 i1 i2 i3 mm a1 a2 a3 a4 =>
       rw [xg] at ho
       simp only [yE, Bool.and_eq_true, decide_eq_true_eq] at ho
       obtain ⟨o1, o2, o3, o4, o5⟩ := ho
       obtain ⟨e1, b1⟩ := eW a1 o1
       obtain ⟨e2, b2⟩ := eW a2 (by omega)
       obtain ⟨e3, b3⟩ := eW a3 o3
       obtain ⟨e4, hm⟩ := vW a4 o5
       have Kf : 0 <= i1 /\ i1 < 10 ^ 64 /\ 0 <= i2 /\ i2 < 10 ^ 64 /\ 0 <= i3 /\ i3 < 10 ^ 64 := ⟨o1, b1, by omega, b2, o3, b3⟩
       have qj : o6 (Str.ofString "each") [.int i1, .int i2, .int i3, mD mm] = tx := by rw [<- uv, e1, e2, e3, e4]; rfl
       with_reducible refine oJ ?_
       with_reducible refine wB ?_
       repeat' (walk_at "rd1")
       refine y7 (.str tx) (fun y e => by cases e; exact A2) (fun hn => absurd ⟨_, rfl, hg⟩ hn) (fun y JO JK ed qo oW v' H8 s8 hi => ?_)
       cases ed
       rw [JY] at qo
       obtain ⟨rfl, rfl⟩ := (pK.det (.each a1 a2 a3 a4) qo)
       rw [zr] at hi
       simp only [qy] at hi
       repeat' (walk_at "rd1")
       rw [qj]
       simp only [decide_true, id]
       exact q _
     | @behind w1 w2 w3 w4 i1 i2 i3 mm a1 a2 a3 a4 =>
       rw [xu] at ho
       simp only [v9, Bool.and_eq_true, decide_eq_true_eq] at ho
       obtain ⟨o1, o2, o3, o5⟩ := ho
       obtain ⟨e1, b1⟩ := eW a1 o1
       obtain ⟨e2, b2⟩ := eW a2 (by omega)
       obtain ⟨e3, b3⟩ := eW a3 o3
       obtain ⟨e4, hm⟩ := vW a4 o5
       have Kf : 0 <= i1 /\ i1 < 10 ^ 64 /\ 0 <= i2 /\ i2 < 10 ^ 64 /\ 0 <= i3 /\ i3 < 10 ^ 64 := ⟨o1, b1, by omega, b2, o3, b3⟩
       have qj : o6 (Str.ofString "behind") [.int i1, .int i2, .int i3, mD mm] = tx := by rw [<- uv, e1, e2, e3, e4]; rfl
       with_reducible refine oJ ?_
       with_reducible refine oJ ?_
       with_reducible refine wB ?_
       repeat' (walk_at "rd1")
       refine y7 (.str tx) (fun y e => by cases e; exact A2) (fun hn => absurd ⟨_, rfl, hg⟩ hn) (fun y JO JK ed qo oW v' H8 s8 hi => ?_)
       cases ed
       rw [JY] at qo
       obtain ⟨rfl, rfl⟩ := (pK.det (.behind a1 a2 a3 a4) qo)
       rw [Ai] at hi
       simp only [fV] at hi
       repeat' (walk_at "rd1")
       rw [qj]
       simp only [decide_true, id]
       exact q _
     | @jJ w1 w2 w3 w4 w5 i1 i2 i3 i4 mm a1 a2 a3 a4 a5 =>
       rw [wu] at ho
       simp only [Bc, Bool.and_eq_true, decide_eq_true_eq] at ho
       obtain ⟨o1, o2, o3, o5, o4⟩ := ho
       obtain ⟨e1, b1⟩ := eW a1 o1
       obtain ⟨e2, b2⟩ := eW a2 (by omega)
       obtain ⟨e3, b3⟩ := eW a3 (by omega)
       obtain ⟨e4, b4⟩ := eW a4 o3
       obtain ⟨e5, hm⟩ := vW a5 o5
       have Kf : 0 <= i1 /\ i1 < 10 ^ 64 /\ 0 <= i2 /\ i2 < 10 ^ 64 /\ 0 <= i3 /\ i3 < 10 ^ 64 /\ 0 <= i4 /\ i4 < 10 ^ 64 := ⟨o1, b1, by omega, b2, by omega, b3, o3, b4⟩
       have qj : o6 (Str.ofString "slowing") [.int i1, .int i2, .int i3, .int i4, mD mm] = tx := by rw [<- uv, e1, e2, e3, e4, e5]; rfl
       with_reducible refine oJ ?_
       with_reducible refine oJ ?_
       with_reducible refine oJ ?_
       repeat' (walk_at "rd1")
       refine y7 (.str tx) (fun y e => by cases e; exact A2) (fun hn => absurd ⟨_, rfl, hg⟩ hn) (fun y JO JK ed qo oW v' H8 s8 hi => ?_)
       cases ed
       rw [JY] at qo
       obtain ⟨rfl, rfl⟩ := (pK.det (.jJ a1 a2 a3 a4 a5) qo)
       rw [zF] at hi
       simp only [fw] at hi
       repeat' (walk_at "rd1")
       rw [qj]
       simp only [decide_true, id]
       exact q _
end
end My
open PySem PySem.W PyProof.Rows
local macro_rules | `(tactic| walk_at "k_dg") => `(tactic| (refine' ⟨?a, ⟨_, L2.wM ?l ?c⟩, ?k⟩; (case a => k_is); (case l => k_is); (case c => k_is); (case k => k_is)))
local macro_rules | `(tactic| walk_at "k_dm") => `(tactic| (refine' ⟨?a, ⟨_, L2.wM ?l ?c⟩, ?k, ?i⟩; (case a => k_is); (case l => k_is); (case c => k_is); (case k => k_is); (case i => k_is)))
local macro_rules | `(tactic| walk_at "k_dt") => `(tactic| (refine' My.Cq ?l; (case l => k_is)))
local macro_rules | `(tactic| walk_at "k_ck") => `(tactic| (refine' ⟨?a, ?b, ?c, ?d, ?e, ?f, ?g⟩; (case a => k_is); (case b => k_is); (case c => k_is); (case d => k_is); (case e => k_is); (case f => k_is); (case g => k_is)))
theorem PySem.W.Fast.tw5901380773691174992 : True := trivial
theorem PySem.W.Fast.tw9066644274189400370 : True := trivial
theorem PySem.W.Fast.tw9073455084446072394 : True := trivial
theorem PySem.W.Fast.tw14913057877548836175 : True := trivial
theorem PySem.W.Fast.tw7739251087341806355 : True := trivial
theorem PySem.W.Fast.tw2915355735860325614 : True := trivial
theorem PySem.W.Fast.tw17706590598619627915 : True := trivial
theorem PySem.W.Fast.tw3672352669011612280 : True := trivial
theorem PySem.W.Fast.tw2411822159965402122 : True := trivial
theorem PySem.W.Fast.tw17886231327388124569 : True := trivial
theorem PySem.W.Fast.tw13275280597415816255 : True := trivial
theorem PySem.W.Fast.tw9299590636440498109 : True := trivial
theorem PySem.W.Fast.tw2826235916477670552 : True := trivial
set_option maxRecDepth 100000 in
set_option maxHeartbeats 0 in
theorem PySem.Challenge.cw_wakefew_k74_words_that_are_no_rule_holds : PySem.Challenge.rw_wakefew_k74_words_that_are_no_rule.Holds := by
 w_on; o_law; k_head; (case hw => w_witness2)
 k_fill
 refine L2.zU (l := PySem.Challenge.rw_wakefew_k74_words_that_are_no_rule) (n := 63) (k := 30) (x := "_law_script") (CX := L2.qL) (sp := My.Aj) rfl (by decide) rfl ⟨rfl, by decide, by decide⟩ (fun w h Y => PySem.W.kIn_of Y) ?F ?S ?C
 case F =>
  intro w mg fa h KX G HY
  have T : ∃ a : My.Ad, a.ll = a.ll /\ My.Txt (L2.JN KX) mg a := by
   dsimp only [L2.JN]
   refine' My.ER KX G ?h0 ?h1 ?h2 ?h3 ?h4 ?h5 ?h6 ?h7 ?h8 ?h9 ?h10 ?h11 ?h12 ?h13 ?h14 ?h15 ?h16 ?h17 ?h18 ?h19 ?h20 ?h21 ?h22 ?h23 ?h24 ?h25 ?h26 ?h27 ?h28 ?h29 ?h30 ?h31 ?h32 ?h33 ?h34 ?h35 ?h36 ?h37 ?h38 ?h39 ?h40 ?h41 ?h42 ?h43 ?h47 ?h48 ?h49 ?h50 ?h51 ?h52 ?h53 ?h54 ?h55 ?h56 ?h57 ?h58 ?h59 ?h60 ?h61 ?h62 ?h63 ?h64 ?h65 ?h66 ?h67 ?h68 ?h69 ?h70 ?h71 ?h72 ?h73 ?h74 ?h76 ?h77 ?h78 ?h79 ?h80 ?h81 ?h82 ?h83 ?h84 ?h95 ?h99 ?h100 ?h101 ?h102 ?h103 ?h105 ?h106 ?h107 ?h108 ?h109 ?h110 ?h111 ?h112 ?h113 ?h114 ?h115 ?h116 ?h117 ?h118 ?h119 ?h120 ?h121 ?h122 ?h123 ?h124 ?h125 ?h126
   (case h0 => k_is)
   (case h1 => k_is)
   (case h2 => k_is)
   (case h3 => k_is)
   (case h4 => k_is)
   (case h5 => k_is)
   (case h6 => k_is)
   (case h7 => k_is)
   (case h8 => k_is)
   (case h9 => k_is)
   (case h10 => k_is)
   (case h11 => walk_at "k_dg")
   (case h12 => walk_at "k_dg")
   (case h13 => walk_at "k_dg")
   (case h14 => walk_at "k_dg")
   (case h15 => walk_at "k_dg")
   (case h16 => walk_at "k_dm")
   (case h17 => walk_at "k_dm")
   (case h18 => walk_at "k_dt")
   (case h19 => walk_at "k_dm")
   (case h20 => walk_at "k_dm")
   (case h21 => walk_at "k_dt")
   (case h22 => walk_at "k_dm")
   (case h23 => walk_at "k_dm")
   (case h24 => walk_at "k_dt")
   (case h25 => walk_at "k_dm")
   (case h26 => walk_at "k_dm")
   (case h27 => walk_at "k_dt")
   (case h28 => walk_at "k_dm")
   (case h29 => walk_at "k_dg")
   (case h30 => walk_at "k_dg")
   (case h31 => walk_at "k_dg")
   (case h32 => walk_at "k_dg")
   (case h33 => walk_at "k_dg")
   (case h34 => walk_at "k_dg")
   (case h35 => walk_at "k_dg")
   (case h36 => walk_at "k_dg")
   (case h37 => walk_at "k_dg")
   (case h38 => walk_at "k_dg")
   (case h39 => walk_at "k_dg")
   (case h40 => walk_at "k_dg")
   (case h41 => walk_at "k_dg")
   (case h42 => walk_at "k_dg")
   (case h43 => walk_at "k_dg")
   (case h47 => walk_at "k_ck")
   (case h48 => k_is)
   (case h49 => k_is)
   (case h50 => k_is)
   (case h51 => k_is)
   (case h52 => k_is)
   (case h53 => walk_at "k_ck")
   (case h54 => k_is)
   (case h55 => k_is)
   (case h56 => k_is)
   (case h57 => k_is)
   (case h58 => k_is)
   (case h59 => k_is)
   (case h60 => walk_at "k_ck")
   (case h61 => k_is)
   (case h62 => k_is)
   (case h63 => k_is)
   (case h64 => k_is)
   (case h65 => k_is)
   (case h66 => k_is)
   (case h67 => walk_at "k_ck")
   (case h68 => k_is)
   (case h69 => k_is)
   (case h70 => k_is)
   (case h71 => k_is)
   (case h72 => k_is)
   (case h73 => k_is)
   (case h74 => k_is)
   (case h76 => k_is)
   (case h77 => k_is)
   (case h78 => k_exc)
   (case h79 => k_is)
   (case h80 => k_is)
   (case h81 => k_exc)
   (case h82 => k_is)
   (case h83 => k_is)
   (case h84 => k_exc)
   (case h95 => k_is)
   (case h99 => k_is)
   (case h100 => k_is)
   (case h101 => k_is)
   (case h102 => k_is)
   (case h103 => k_is)
   (case h105 => k_is)
   (case h106 => decide)
   (case h107 => k_is)
   (case h108 => decide)
   (case h109 => k_is)
   (case h110 => k_is)
   (case h111 => k_is)
   (case h112 => k_is)
   (case h113 => k_is)
   (case h114 => k_is)
   (case h115 => k_is)
   (case h116 => k_is)
   (case h117 => k_is)
   (case h118 => k_is)
   (case h119 => k_is)
   (case h120 => k_is)
   (case h121 => k_is)
   (case h122 => k_is)
   (case h123 => k_is)
   (case h124 => k_is)
   (case h125 => k_is)
   (case h126 => k_is)
  obtain ⟨a, _, T⟩ := T
  have e0 := HY.symm.trans T.Av
  cases e0
  have gd : ∃ A, mg "LENGTHS" = some (.ref A) /\ L2.gP w (L2.JN KX) A My.a9 := by
   dsimp only [L2.JN]
   refine' L2.HK KX G ?h0 ?h1 ?h2 ?h3 (by decide +kernel)
   (case h0 => k_is)
   (case h1 => k_is)
   (case h2 => decide)
   (case h3 => exact (.cons _ _ _ _ (.cons _ _ _ _ (.cons _ _ _ _ (.cons _ _ _ _ .nil)))))
  obtain ⟨A, eA, gd⟩ := gd
  have e1 := eA.symm.trans T.ic
  cases e1
  exact ⟨a.sq, fun s u => My.x6 T s u, fun base kb nb => (My.Gd T gd).mono (by decide)⟩
 case S => exact fun K H l ns hl hO hS => ⟨l, ns, rfl, hS, hl, fun _ => rfl⟩
 case C => exact fun H s e s' h => h
