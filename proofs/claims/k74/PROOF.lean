import PyProof.Rows.All
import Wide.All
import OpenK.AllK
import Wide.FinOn
import Lean
import PyProof.EqAt
import PyProof.EqKinds
import PyProof.TupleCall
import PyProof.StrLawsRepr
import PySem.Challenge.RW_wakefew_k74_words_that_are_no_rule
set_option compiler.extract_closed false
set_option Elab.async false
set_option linter.all false
set_option maxRecDepth 100000
namespace L2
open PySem PySem.Spec PyProof.Rows
abbrev Key := Sum Int Str
def lj : Key -> Value -> Bool
 | .inl k, v => Value.isInt k v
 | .inr x, v => Value.isStrOf x v
def LJ (w : World) : Key -> Int
 | .inl k => hashInt k
 | .inr x => hashStr w x
theorem bZ : ∀ {k : Key} {v : Value}, lj k v = true -> (∃ i t, k = Sum.inl i /\ v = Value.int i t) \/ (∃ x t, k = Sum.inr x /\ v = Value.str x t)
 | .inl i, v, h => by
   obtain ⟨t, e⟩ := Value.isInt_shape (k := i) (v := v) h
   exact .inl ⟨i, t, rfl, e⟩
 | .inr x, v, h => by
   obtain ⟨t, e⟩ := Value.isStrOf_shape (x := x) (v := v) h
   exact .inr ⟨x, t, rfl, e⟩
theorem yj (i : Int) (t : Tok) : lj (.inl i) (.int i t) = true := by simp [lj, Value.isInt]
theorem yh (x : Str) (t : Tok) : lj (.inr x) (.str x t) = true := by simp [lj, Value.isStrOf]
theorem Fs (a b : Int) : decide ((Sum.inl a : Key) = Sum.inl b) = (a == b) := by
 by_cases e : a = b
 . subst e; simp
 . have h : ¬ (Sum.inl a : Key) = Sum.inl b := fun q => e (Sum.inl.inj q)
   rw [decide_eq_false h]
   exact (beq_eq_false_iff_ne.mpr e).symm
theorem Gw (a b : Str) : decide ((Sum.inr a : Key) = Sum.inr b) = decide (a = b) := by
 by_cases e : a = b
 . subst e; simp
 . have h : ¬ (Sum.inr a : Key) = Sum.inr b := fun q => e (Sum.inr.inj q)
   rw [decide_eq_false h, decide_eq_false e]
theorem Fy (a : Int) (b : Str) : decide ((Sum.inl a : Key) = Sum.inr b) = false := decide_eq_false (fun q => nomatch q)
theorem E1 (a : Str) (b : Int) : decide ((Sum.inr a : Key) = Sum.inl b) = false := decide_eq_false (fun q => nomatch q)
def eB (prog : Program) (w : World) : PySem.KeyKind prog w Key where
 is := lj
 hash := LJ w
 inj := fun v a b ha hb => by
  rcases bZ ha with ⟨i, t, rfl, rfl⟩ | ⟨x, t, rfl, rfl⟩
  . rcases bZ hb with ⟨j, u, rfl, e⟩ | ⟨y, u, rfl, e⟩
    . injection e with e1 _; rw [e1]
    . exact nomatch e
  . rcases bZ hb with ⟨j, u, rfl, e⟩ | ⟨y, u, rfl, e⟩
    . exact nomatch e
    . injection e with e1 _; rw [e1]
 byValue := fun k v h => by
  rcases bZ h with ⟨i, t, rfl, rfl⟩ | ⟨x, t, rfl, rfl⟩ <;> rfl
 pyHash := fun hv h => by
  rcases bZ hv with ⟨i, t, rfl, rfl⟩ | ⟨x, t, rfl, rfl⟩
  . exact wpAny_pyHash_int h
  . exact wpAny_pyHash_str h
 eqBool := fun hu hv h => by
  rcases bZ hu with ⟨i, t, rfl, rfl⟩ | ⟨x, t, rfl, rfl⟩
  . rcases bZ hv with ⟨j, u, rfl, rfl⟩ | ⟨y, u, rfl, rfl⟩
    . rw [Fs] at h; exact wpAny_eqBool_int h
    . rw [Fy] at h; exact SeqAt.EqAt.int_str i t y u _ _ _ _ h
  . rcases bZ hv with ⟨j, u, rfl, rfl⟩ | ⟨y, u, rfl, rfl⟩
    . rw [E1] at h; exact SeqAt.EqAt.str_int x t j u _ _ _ _ h
    . rw [Gw] at h; exact wpAny_eqBool_str h
 «strs» := fun k x t v h => by
  rcases bZ h with ⟨i, u, rfl, e⟩ | ⟨y, u, rfl, e⟩
  . exact nomatch e
  . injection e with e1 _
    subst e1
    cases v <;> rfl
theorem tK (prog : Program) (w : World) (i : Int) (t : Tok) : (eB prog w).is (.inl i) (.int i t) = true := yj i t
theorem uc (prog : Program) (w : World) (x : Str) (t : Tok) : (eB prog w).is (.inr x) (.str x t) = true := yh x t
inductive V where
 | cn | bl (b : Bool) | int (i : Int) | str (x : Str) | xf (b : Array UInt8) | F5 (b : UInt64) | ref (a : Addr) | ty (n : String)
 deriving DecidableEq
def RelV : V -> Value -> Prop
 | .cn, u => u = Value.none
 | .bl b, u => u = Value.bool b
 | .int i, u => ∃ t, u = Value.int i t
 | .str x, u => ∃ t, u = Value.str x t
 | .xf b, u => ∃ t, u = Value.bytes b t
 | .F5 b, u => ∃ t, u = Value.float b t
 | .ref a, u => u = Value.ref a
 | .ty n, u => u = Value.type n
abbrev Vals : List V -> List Value -> Prop := Paired RelV
theorem Vals.length {xs : List V} {us : List Value} (r : Vals xs us) : xs.length = us.length := Paired.length r
theorem Vals.get : ∀ {xs : List V} {us : List Value} {i : Nat} {x : V}, Vals xs us -> xs[i]? = some x -> ∃ u, us[i]? = some u /\ RelV x u
 | _, _, _, _, .nil, e => by simp at e
 | _, _, 0, _, .cons r _, e => by simp at e; subst e; exact ⟨_, rfl, r⟩
 | _, _, i + 1, x, .cons _ t, e => by
   obtain ⟨u, h1, h2⟩ := Vals.get (i := i) (x := x) t (by simpa using e)
   exact ⟨u, by simpa using h1, h2⟩
theorem Vals.set {x : V} {u : Value} (r : RelV x u) : ∀ {xs : List V} {us : List Value} (i : Nat), Vals xs us -> Vals (xs.set i x) (us.set i u)
 | _, _, _, .nil => .nil
 | _, _, 0, .cons _ t => .cons r t
 | _, _, i + 1, .cons q t => .cons q (Vals.set r i t)
theorem Vals.append : ∀ {xs ys : List V} {us ws : List Value}, Vals xs us -> Vals ys ws -> Vals (xs ++ ys) (us ++ ws)
 | _, _, _, _, .nil, s => s
 | _, _, _, _, .cons r t, s => .cons r (Vals.append t s)
theorem Vals.take : ∀ {xs : List V} {us : List Value} (n : Nat), Vals xs us -> Vals (xs.take n) (us.take n)
 | _, _, 0, _ => .nil
 | _, _, _ + 1, .nil => .nil
 | _, _, n + 1, .cons r t => .cons r (Vals.take n t)
theorem Vals.drop : ∀ {xs : List V} {us : List Value} (n : Nat), Vals xs us -> Vals (xs.drop n) (us.drop n)
 | _, _, 0, r => r
 | _, _, _ + 1, .nil => .nil
 | _, _, n + 1, .cons _ t => Vals.drop n t
def my : Option V -> Option Value -> Prop
 | some v, some u => RelV v u
 | none, none => True
 | _, _ => False
def KV {κ : Type} : List (κ × V) -> List (κ × Value) -> Prop := Paired fun (p : κ × V) (q : κ × Value) => p.1 = q.1 /\ RelV p.2 q.2
def kV : Key -> V
 | .inl i => .int i
 | .inr x => .str x
inductive HO where
 | lst (xs : List V)
 | tup (xs : List V)
 | dK (d8 : List (Key × V)) | dT (d8 : List (List Key × V))
 | set (S : Int -> Bool) (n : Nat)
 | ins (C dx : Addr) (fs : List (Str × V))
 | own (x : Addr)
 | xd (fs : List (Str × V))
 | met (f x : Addr)
 | J2 (lo hi : Int)
 | uN (o : Obj) (u : HO)
 | D6 (ps : Array Value)
 | ext (φ : Heap -> Prop)
abbrev Hp := Addr -> Option HO
def upd (H : Hp) (a : Addr) (o : HO) : Hp := fun b => if b = a then some o else H b
theorem aO {H : Hp} {a : Addr} {o : HO} : upd H a o a = some o := by unfold upd; rw [if_pos rfl]
theorem aK {H : Hp} {a b : Addr} {o : HO} (h : b ≠ a) : upd H a o b = H b := by unfold upd; rw [if_neg h]
theorem pD {H : Hp} {a : Addr} {o u : HO} : upd (upd H a o) a u = upd H a u := by
 funext b; unfold upd; split <;> rfl
theorem cf {H : Hp} {a b : Addr} {o : HO} (h : H a = some o) (h' : H b = none) : a ≠ b := by
 intro e; subst e; rw [h] at h'; cases h'
section
variable (P : Program) (w : World)
def c7 (H : Hp) (h : Heap) (a : Addr) : HO -> Prop
 | .lst xs => xs.length <= sizeLine /\ ∃ (aV : List Value) (n : Nat), Vals xs aV /\ h.get? a = some { cls := .type "list", data := .seq aV.toArray n }
 | .tup xs => xs.length <= sizeLine /\ ∃ aV : List Value, Vals xs aV /\ IsTup h a aV.toArray
 | .dK d8 => d8.length <= sizeLine /\ (a == sysModules) = false /\ ∃ vs, KV d8 vs /\ h.DictOf (eB P w) a vs
 | .dT d8 => d8.length <= sizeLine /\ (a == sysModules) = false /\ ∃ xs : List (List Key × Addr × Value),
  Paired (fun (p : List Key × V) (q : List Key × Addr × Value) => p.1 = q.1 /\ H q.2.1 = some (.tup (p.1.map kV)) /\ RelV p.2 q.2.2) d8 xs /\
  ∃ o es ep, h.get? a = some o /\ o.ExactDict /\ o.data = .dict es ep /\ es.toList = xs.map (entryOfKey (tupleKind (eB P w))) /\ (xs.map (·.1)).Nodup
 | .set S n => h.SetOf (intKind P w) a S n
 | .ins C dx fs => H dx = some (.own a) /\ fs.length <= 1000 /\ dx ≠ a /\ h.get? a = some (PySem.W.instObj C dx) /\
  ∃ mA, h.Ns1 dx mA /\ (∀ f, my (fs.lookup f) (mA f)) /\ PySem.Within mA (fs.map (·.1))
 | .own _ => ∃ o, h.get? a = some o
 | .xd fs => ∃ mA, h.Ns1 a mA /\ ∀ f, my (fs.lookup f) (mA f)
 | .J2 lo hi => ∃ t u v, h.get? a = some { cls := .type "range", data := .fields #[.int lo t, .int hi u, .int 1 v] }
 | .uN o u => h.get? a = some o /\ c7 H h a u
 | .D6 ps => h.get? a = some { cls := .none, data := .fields ps }
 | .met f x => h.get? a = some (PySem.W.methodObj (.ref f) (.ref x))
 | .ext φ => φ h /\ (∃ o, h.get? a = some o) /\ ∀ h1 h2 : Heap, φ h1 -> (∀ o, h1.get? a = some o -> h2.get? a = some o) -> φ h2
def lS (H : Hp) (h : Heap) : Prop := ∀ a o, H a = some o -> c7 P w H h a o
end
section
variable {P : Program} {w : World} {H H' : Hp} {h h' : Heap} {a : Addr} {o : HO}
theorem c7.lt (x : c7 P w H h a o) : a < h.objs.size := by
 cases o with
 | lst xs => obtain ⟨_, _, _, _, e⟩ := x; exact Heap.lt_size e
 | tup xs => obtain ⟨_, _, _, p⟩ := x; exact p.lt
 | dK d8 => obtain ⟨_, _, _, _, o, _, _, e, _⟩ := x; exact Heap.lt_size e
 | dT d8 => obtain ⟨_, _, _, _, o, _, _, e, _⟩ := x; exact Heap.lt_size e
 | set S n => obtain ⟨o, _, _, _, e, _⟩ := x; exact Heap.lt_size e
 | ins C dx fs => obtain ⟨_, _, _, e, _⟩ := x; exact Heap.lt_size e
 | own y => obtain ⟨_, e⟩ := x; exact Heap.lt_size e
 | xd fs => obtain ⟨_, ⟨_, _, _, e, _⟩, _⟩ := x; exact Heap.lt_size e
 | J2 lo hi => obtain ⟨_, _, _, e⟩ := x; exact Heap.lt_size e
 | uN ob u => obtain ⟨e, _⟩ := x; exact Heap.lt_size e
 | D6 ps => exact Heap.lt_size (show h.get? a = some _ from x)
 | met f y => exact Heap.lt_size (show h.get? a = some _ from x)
 | ext φ => obtain ⟨_, ⟨_, e⟩, _⟩ := x; exact Heap.lt_size e
theorem Paired.JD {α β : Type} {F G : α -> β -> Prop} : ∀ {l₁ : List α} {l₂ : List β}, Paired F l₁ l₂ -> (∀ a b, F a b -> G a b) -> Paired G l₁ l₂
 | _, _, .nil, _ => .nil
 | _, _, .cons r t, f => .cons (f _ _ r) (Paired.JD t f)
theorem c7.pe (x : c7 P w H h a o) (k : ∀ b u, (b = a \/ H b = some (.own a)) -> h.get? b = some u -> h'.get? b = some u)
 (ho : ∀ b, H b = some (.own a) -> H' b = some (.own a)) (ht : ∀ b xs, H b = some (.tup xs) -> H' b = some (.tup xs)) : c7 P w H' h' a o := by
 induction o with
 | lst xs => obtain ⟨z, aV, n, r, e⟩ := x; exact ⟨z, aV, n, r, k _ _ (.inl rfl) e⟩
 | tup xs => obtain ⟨z, aV, r, ob, e, c⟩ := x; exact ⟨z, aV, r, ob, k _ _ (.inl rfl) e, c⟩
 | dK d8 => obtain ⟨z, y, vs, r, ob, es, ep, e, c⟩ := x; exact ⟨z, y, vs, r, ob, es, ep, k _ _ (.inl rfl) e, c⟩
 | dT d8 =>
   obtain ⟨z, y, xs, r, ob, es, ep, e, c⟩ := x
   exact ⟨z, y, xs, Paired.JD r fun p q z => ⟨z.1, ht _ _ z.2.1, z.2.2⟩, ob, es, ep, k _ _ (.inl rfl) e, c⟩
 | set S n => obtain ⟨ob, es, ep, t, e, c⟩ := x; exact ⟨ob, es, ep, t, k _ _ (.inl rfl) e, c⟩
 | ins C dx fs =>
   obtain ⟨d, z, ne, e, mA, ⟨od, es, ep, e2, c⟩, r⟩ := x
   exact ⟨ho _ d, z, ne, k _ _ (.inl rfl) e, mA, ⟨od, es, ep, k _ _ (.inr d) e2, c⟩, r⟩
 | own y => obtain ⟨ob, e⟩ := x; exact ⟨ob, k _ _ (.inl rfl) e⟩
 | xd fs => obtain ⟨mA, ⟨od, es, ep, e, c⟩, r⟩ := x; exact ⟨mA, ⟨od, es, ep, k _ _ (.inl rfl) e, c⟩, r⟩
 | J2 lo hi => obtain ⟨t, u, v, e⟩ := x; exact ⟨t, u, v, k _ _ (.inl rfl) e⟩
 | uN ob u ih => obtain ⟨e, q⟩ := x; exact ⟨k _ _ (.inl rfl) e, ih q⟩
 | D6 ps =>
   have e : h.get? a = some { cls := .none, data := .fields ps } := x
   show h'.get? a = some { cls := .none, data := .fields ps }
   exact k a _ (.inl rfl) e
 | met f y =>
   have e : h.get? a = some (PySem.W.methodObj (.ref f) (.ref y)) := x
   show h'.get? a = some (PySem.W.methodObj (.ref f) (.ref y))
   exact k a _ (.inl rfl) e
 | ext φ => obtain ⟨p, ⟨o, e⟩, st⟩ := x; exact ⟨st _ _ p fun o q => k _ _ (.inl rfl) q, ⟨o, k _ _ (.inl rfl) e⟩, st⟩
theorem lS.lt (x : lS P w H h) (e : H a = some o) : a < h.objs.size := (x a o e).lt
theorem lS.fresh (x : lS P w H h) (e : h.objs.size <= a) : H a = none := by
 cases q : H a with
 | none => rfl
 | some u => exact absurd (Nat.lt_of_lt_of_le (x.lt q) e) (Nat.lt_irrefl _)
theorem lS.kept (x : lS P w H h) (k : ∀ b u, h.get? b = some u -> h'.get? b = some u) : lS P w H h' := fun a o e =>
 (x a o e).pe (fun b u _ q => k b u q) (fun _ q => q) fun _ _ q => q
theorem lS.laid (x : lS P w H h) (k : ∀ b u, h.get? b = some u -> h'.get? b = some u) (hp : h.objs.size <= a) (new : c7 P w (upd H a o) h' a o) : lS P w (upd H a o) h' := fun b u e => by
 have hn := x.fresh hp
 by_cases hb : b = a
 . subst hb; rw [aO] at e; cases e; exact new
 . rw [aK hb] at e
   exact (x b u e).pe (fun c v _ q => k c v q) (fun c q => by rw [aK (cf q hn)]; exact q) fun c xs q => by rw [aK (cf q hn)]; exact q
end
def Rd (H : Hp) (a : Addr) (u : HO) : Prop := H a = some u \/ ∃ o, H a = some (.uN o u)
theorem Rd.of {H : Hp} {a : Addr} {u : HO} (h : H a = some u) : Rd H a u := .inl h
theorem Rd.ok {P : Program} {w : World} {H : Hp} {h : Heap} {a : Addr} {u : HO} (r : Rd H a u) (x : lS P w H h) : c7 P w H h a u := by
 rcases r with r | ⟨o, r⟩
 . exact x a u r
 . obtain ⟨_, q⟩ := x a _ r
   exact q
def JU : Option HO -> Prop
 | some (.lst _) => True
 | some (.dK _) => True
 | some (.dT _) => True
 | some (.set _ _) => True
 | some (.ins _ _ _) => True
 | some (.ext _) => True
 | _ => False
section
variable {P : Program} {w : World} {H : Hp} {h h' : Heap} {x e : Addr} {o' : HO}
theorem lS.write (ok : lS P w H h) (mu : JU (H x)) (he : e = x \/ H e = some (.own x)) (k : ∀ b u, b ≠ e -> h.get? b = some u -> h'.get? b = some u) (GY : ∃ u, h'.get? e = some u)
 (new : c7 P w (upd H x o') h' x o') : lS P w (upd H x o') h' := fun b u q => by
 have HF : ∀ c y, H c = some (.own y) -> c ≠ x := fun c y r z => by subst z; rw [r] at mu; exact mu
 have KY : ∀ c xs, H c = some (.tup xs) -> c ≠ x := fun c xs r z => by subst z; rw [r] at mu; exact mu
 by_cases hb : b = x
 . subst hb; rw [aO] at q; cases q; exact new
 . rw [aK hb] at q
   by_cases F4 : b = e
   . have q' : H b = some (.own x) := by
      rcases he with z | z
      . exact absurd (F4.trans z) hb
      . rw [F4]; exact z
     rw [q] at q'; cases q'
     obtain ⟨v, hv⟩ := GY
     exact ⟨v, by rw [F4]; exact hv⟩
   . refine (ok b u q).pe (fun c v hc r => k c v ?_ r) (fun c r => by rw [aK (HF c b r)]; exact r) fun c xs r => by rw [aK (KY c xs r)]; exact r
     rcases hc with rfl | hc
     . exact F4
     . rintro rfl
       rcases he with z | z
       . exact HF c b hc z
       . rw [hc] at z; cases z; exact hb rfl
end
structure Un (fs ex : List Addr) (H H' : Hp) (h h' : Heap) : Prop where
 keep : ∀ b o, h.get? b = some o -> H b = none -> b ∉ fs -> b ∉ ex -> h'.get? b = some o
 slot : ∀ b o, h.get? b = some o -> H b = none -> b ∈ fs -> b ∉ ex -> ∃ sl, h'.get? b = some { o with slots := sl }
 free : ∀ b o, h.get? b = some o -> H b = none -> b ∉ ex -> H' b = none
 there : ∀ b o, h.get? b = some o -> b ∉ ex -> ∃ o', h'.get? b = some o'
 j8 : ∀ b xs, H b = some (.tup xs) -> H' b = some (.tup xs)
 jB : ∀ b o u, H b = some (.uN o u) -> H' b = some (.uN o u)
 lR : ∀ b ps, H b = some (.D6 ps) -> ∃ more, H' b = some (.D6 (ps ++ more))
section
variable {fs JY ex O8 : List Addr} {H H1 H2 : Hp} {h h1 h2 h' : Heap} {a x e : Addr} {o : HO}
theorem Un.any (u : Un fs ex H H1 h h1) {b : Addr} {ob : Obj} (q : h.get? b = some ob) (n : H b = none) (hx : b ∉ ex) : ∃ sl, h1.get? b = some { ob with slots := sl } := by
 by_cases hb : b ∈ fs
 . exact u.slot b ob q n hb hx
 . exact ⟨ob.slots, u.keep b ob q n hb hx⟩
theorem Un.kept (k : ∀ b u, h.get? b = some u -> h'.get? b = some u) : Un fs ex H H h h' :=
 ⟨fun b ob q _ _ _ => k b ob q, fun b ob q _ _ _ => ⟨ob.slots, k b ob q⟩, fun _ _ _ n _ => n, fun b ob q _ => ⟨ob, k b ob q⟩, fun _ _ q => q, fun _ _ _ q => q, fun _ ps q => ⟨#[], by rw [q]; simp⟩⟩
theorem Un.refl : Un fs ex H H h h := Un.kept fun _ _ q => q
theorem Un.laid (k : ∀ b u, h.get? b = some u -> h'.get? b = some u) (hp : h.objs.size <= a) (hn : H a = none) : Un fs ex H (upd H a o) h h' where
 keep := fun b u q _ _ _ => k b u q
 slot := fun b u q _ _ _ => ⟨u.slots, k b u q⟩
 free := fun b u q n _ => by rw [aK (Nat.ne_of_lt (Nat.lt_of_lt_of_le (Heap.lt_size q) hp))]; exact n
 there := fun b u q _ => ⟨u, k b u q⟩
 j8 := fun b xs q => by rw [aK (cf q hn)]; exact q
 jB := fun b u xs q => by rw [aK (cf q hn)]; exact q
 lR := fun b ps q => ⟨#[], by rw [aK (cf q hn), q]; simp⟩
theorem Un.write (mu : JU (H x)) (he : e = x \/ H e = some (.own x)) (k : ∀ b u, b ≠ e -> h.get? b = some u -> h'.get? b = some u) (GY : ∃ u, h'.get? e = some u) : Un fs ex H (upd H x o) h h' := by
 have hx : ∀ b, H b = none -> b ≠ x := fun b n z => by subst z; rw [n] at mu; exact mu
 have hb : ∀ b, H b = none -> b ≠ e := fun b n z => by
  subst z
  rcases he with r | r
  . exact hx b n r
  . rw [n] at r; cases r
 have hm : ∀ b u, H b = some u -> ¬ JU (some u) -> b ≠ x := fun b u q nm z => by subst z; rw [q] at mu; exact nm mu
 refine ⟨fun b u q n _ _ => k b u (hb b n) q, fun b u q n _ _ => ⟨u.slots, k b u (hb b n) q⟩, fun b u q n _ => by rw [aK (hx b n)]; exact n, fun b u q _ => ?_,
  fun b xs q => by rw [aK (hm b _ q fun z => z)]; exact q, fun b u xs q => by rw [aK (hm b _ q fun z => z)]; exact q, fun b ps q => ⟨#[], by rw [aK (hm b _ q fun z => z), q]; simp⟩⟩
 by_cases F4 : b = e
 . subst F4; exact GY
 . exact ⟨u, k b u F4 q⟩
end
def JN (h : Heap) (H : Hp) : List Addr := (List.range h.objs.size).filter fun a => (H a).isSome
def tf (h : Heap) (H : Hp) : Heap := PySem.W.hideAll h (JN h H)
theorem yk (h : Heap) (H : Hp) : (tf h H).objs.size = h.objs.size := PySem.W.hideAll_size _ _
theorem z7 {h : Heap} {H : Hp} {b : Addr} {o : Obj} (e : h.get? b = some o) (n : H b = none) : (tf h H).get? b = some o :=
 PySem.W.hideAll_get _ e fun hm => by
  have q : (H b).isSome = true := (List.mem_filter.mp hm).2
  rw [n] at q; simp at q
theorem BX {h : Heap} {H : Hp} {b : Addr} {o : Obj} (e : (tf h H).get? b = some o) : h.get? b = some o /\ H b = none := by
 have e' : h.get? b = some o := PySem.W.of_hideAll (JN h H) e
 refine ⟨e', ?_⟩
 cases q : H b with
 | none => rfl
 | some x =>
   have hm : b ∈ JN h H := List.mem_filter.mpr ⟨List.mem_range.mpr (Heap.lt_size e'), by simp [q]⟩
   have z : (tf h H).get? b = none := PySem.W.hideAll_none (JN h H) hm
   rw [z] at e; cases e
def B5 (g h : Heap) (L : Addr) : List (Addr × Obj) := (List.range h.objs.size).filterMap fun a => if a = L \/ (g.get? a).isSome = true then none else (h.get? a).map fun o => (a, o)
def rest (g h : Heap) (L d : Addr) : List (Addr × Obj) := (B5 g h L).filter fun p => decide (p.1 ≠ d)
structure Mod (K : PySem.W.Frag) (mg : Str -> Option Value) (base : Heap) : Prop where
 Bh : K.In base
 glob : base.Ns mainGlobals mg
 blt : ∃ mb, base.Ns builtinsNs mb /\ ∀ x : Str, x ≠ "__name__" -> mb x = bootBuiltins x
 nolimit : base.NoLimit
structure Cx where
 prog : Program
 w : World
 K : PySem.W.Frag
 mg : Str -> Option Value
 base : Heap
 A : Around
 N : List Str
 cJ : Shared
 zu : Hp
 env : Env
 outer : List Env
 stack : List Env
 ex : List Addr
 fn : Str -> Bool
 calm : Bool
 pn : List (Addr × Obj)
 xe : Value -> Shared -> Prop
def j3 (l : List Env) : List Addr := l.filterMap (·.frame)
abbrev Cx.fs (X : Cx) : List Addr := j3 X.outer
def GW (sc : Scope) (x : Str) : Prop := sc.names.lookup x = some .local \/ sc.names.lookup x = some .cell \/ sc.names.lookup x = some .free
def Loc (sc : Scope) (x : Str) : Prop := sc.names.lookup x = some .local \/ sc.names.lookup x = some .cell
def Look (env : Env) (h : Heap) (m : Str -> Option Value) (x : Str) (u : Value) : Prop :=
 (env.kindOf x = some .local /\ m x = some u) \/ ((env.kindOf x = some .cell \/ env.kindOf x = some .free) /\ ∃ c, env.cells.lookup x = some c /\ h.IsCell c (some u))
structure Cx.Ok (X : Cx) : Prop where
 mod : Mod X.K X.mg X.base
 kind : X.env.scope.kind = .function
 glob : X.env.globals = mainGlobals
 blt : X.env.builtins = builtinsNs
 above : X.cJ.heap.objs.size <= X.env.locals
 inj : ∀ x y c, X.env.cells.lookup x = some c -> X.env.cells.lookup y = some c -> x = y
 has : ∀ x, (X.env.kindOf x = some .cell \/ X.env.kindOf x = some .free) -> ∃ c, X.env.cells.lookup x = some c
 Df : ∀ x c, X.fn x = true -> X.env.cells.lookup x = some c -> X.cJ.heap.objs.size <= c
 hd : X.calm = true -> X.A.handled = none
 frames : X.A.frames = some X.stack
 El : X.stack = X.outer \/ (X.stack = X.env :: X.outer /\ X.env.frame = some X.env.locals)
 A9 : ∀ b ∈ X.ex, b ≠ X.env.locals /\ ∀ x c, X.env.cells.lookup x = some c -> c ≠ b
 bs : ∀ b o, X.base.get? b = some o -> X.cJ.heap.get? b = some o /\ X.zu b = none
 wF : X.base.objs.size <= X.cJ.heap.objs.size
 sG : ∀ b o, X.base.get? b = some o -> b ∉ X.ex
 qS : ∀ b ∈ X.ex, b ∉ X.fs
 j5 : X.cJ.heap.FunFrames X.base X.outer
 yW : ∀ b ∈ X.fs, X.zu b = none
structure Inv (X : Cx) (pins : List (Addr × Obj)) (σ : List (Option V)) (H : Hp) (s : Shared) : Prop where
 ok : X.Ok
 os : s.os = X.cJ.os
 bare : AllBare s.gens
 base : Un X.fs X.ex X.zu H X.cJ.heap s.heap
 loc : ∃ m, s.heap.Ns X.env.locals m /\ ∀ (i : Nat) (x : Str) (v : V), X.N[i]? = some x -> σ[i]? = some (some v) -> GW X.env.scope x -> ∃ u, RelV v u /\ Look X.env s.heap m x u
 cell : ∀ x c, X.env.cells.lookup x = some c -> ∃ v, s.heap.IsCell c v
 free : H X.env.locals = none
 dX : ∀ x c, X.env.cells.lookup x = some c -> H c = none
 pin : ∀ p ∈ X.pn ++ pins, s.heap.get? p.1 = some p.2 /\ H p.1 = none /\ p.1 ≠ X.env.locals /\ p.1 ∉ X.fs /\ ∀ v, p.2.data ≠ .cell v
 bf : lS X.prog X.w H s.heap
 len : σ.length = X.N.length
section
variable {X : Cx} {pins : List (Addr × Obj)} {σ : List (Option V)} {H H' : Hp} {s : Shared} {h' : Heap}
theorem Cx.Ok.K9 (ok : X.Ok) {b : Addr} {o : Obj} (e : X.base.get? b = some o) : b ∉ X.fs := fun hb => by
 have := (ok.j5.mem hb).1
 rw [e] at this; cases this
theorem Inv.bs (I : Inv X pins σ H s) : ∀ b o, X.base.get? b = some o -> s.heap.get? b = some o /\ H b = none := fun b o e =>
 ⟨I.base.keep b o (I.ok.bs b o e).1 (I.ok.bs b o e).2 (I.ok.K9 e) (I.ok.sG b o e), I.base.free b o (I.ok.bs b o e).1 (I.ok.bs b o e).2 (I.ok.sG b o e)⟩
theorem Inv.bk (I : Inv X pins σ H s) : ∀ b o, X.base.get? b = some o -> s.heap.get? b = some o := fun b o e => (I.bs b o e).1
theorem Inv.mod (I : Inv X pins σ H s) : Mod X.K X.mg X.base := I.ok.mod
theorem Inv.iZ (I : Inv X pins σ H s) : X.K.In s.heap := I.ok.mod.Bh.keeps I.bk
theorem Inv.fr (I : Inv X pins σ H s) : ∃ m, Fr X.base X.env.locals s.heap m :=
 let ⟨m, hn, _⟩ := I.loc
 ⟨m, hn, I.bk, Nat.le_trans I.ok.wF I.ok.above⟩
theorem Inv.lt (I : Inv X pins σ H s) : X.env.locals < s.heap.objs.size := let ⟨_, hn, _⟩ := I.loc; hn.lt
theorem Inv.sz (I : Inv X pins σ H s) : X.cJ.heap.objs.size <= s.heap.objs.size := Nat.le_trans I.ok.above (Nat.le_of_lt I.lt)
theorem Inv.KD (I : Inv X pins σ H s) {a : Addr} (h : s.heap.objs.size <= a) : a ∉ X.fs := fun hb => by
 obtain ⟨_, o, ho, _⟩ := I.ok.j5.mem hb
 exact absurd (Nat.lt_of_lt_of_le (Heap.lt_size ho) (Nat.le_trans I.sz h)) (Nat.lt_irrefl _)
theorem Inv.CH (I : Inv X pins σ H s) : ∀ x c, X.env.cells.lookup x = some c -> c ≠ X.env.locals := fun x c e z => by
 obtain ⟨v, o, ho, hd⟩ := I.cell x c e
 obtain ⟨m, ⟨o', es, ep, oZ, uO, _⟩, _⟩ := I.loc
 rw [z, oZ] at ho; cases ho; rw [uO] at hd; cases hd
theorem Inv.j5 (I : Inv X pins σ H s) : s.heap.FunFrames X.base X.outer := by
 have all : ∀ (l : List Env), (∀ b ∈ j3 l, b ∈ X.fs) -> X.cJ.heap.FunFrames X.base l -> s.heap.FunFrames X.base l := by
  intro l
  induction l with
  | nil => intro _ _; trivial
  | cons env r ih =>
    intro hs hl
    obtain ⟨hk, ⟨L, o, hf, hn, ho, hd⟩, hr⟩ := hl
    have hL : L ∈ X.fs := hs L (by unfold j3; rw [List.filterMap_cons, hf]; exact List.mem_cons_self)
    obtain ⟨sl, e⟩ := I.base.slot L o ho (I.ok.yW L hL) hL fun z => I.ok.qS L z hL
    exact ⟨hk, ⟨L, _, hf, hn, e, hd⟩, ih (fun b hb => hs b (by unfold j3; rw [List.filterMap_cons, hf]; exact List.mem_cons_of_mem _ hb)) hr⟩
 exact all X.outer (fun _ hb => hb) I.ok.j5
theorem Inv.stack (I : Inv X pins σ H s) : s.heap.FunFrames X.base X.stack := by
 rcases I.ok.El with e | ⟨e, hf⟩
 . rw [e]; exact I.j5
 . rw [e]
   obtain ⟨m, hn, _⟩ := I.loc
   refine .cons (by rw [I.ok.kind]; decide) hf hn ?_ I.j5
   exact Heap.get?_none_of_le (Nat.le_trans I.ok.wF I.ok.above)
theorem Inv.si (I : Inv X pins σ H s) : ∀ b ∈ j3 X.stack, b ∈ X.env.locals :: X.fs := fun b hb => by
 rcases I.ok.El with e | ⟨e, hf⟩
 . rw [e] at hb; exact List.mem_cons_of_mem _ hb
 . rw [e] at hb
   unfold j3 at hb
   rw [List.filterMap_cons, hf] at hb
   exact hb
theorem Inv.lW (I : Inv X pins σ H s) : ∀ b ∈ j3 X.stack, H b = none := fun b hb => by
 rcases List.mem_cons.mp (I.si b hb) with e | hb
 . rw [e]; exact I.free
 . obtain ⟨_, o, ho, _⟩ := I.ok.j5.mem hb
   exact I.base.free b o ho (I.ok.yW b hb) fun z => I.ok.qS b z hb
theorem Inv.step {g' : Array GenState} {t' : Nat} {d' : Drawn} {ch : List Addr} (I : Inv X pins σ H s)
 (Bb : ∀ b ∈ ch, (b ∈ X.ex \/ X.cJ.heap.objs.size <= b) /\ b ≠ X.env.locals /\ (∀ x c, X.env.cells.lookup x = some c -> c ≠ b) /\ ∀ p ∈ X.pn ++ pins, p.1 ≠ b)
 (keep : ∀ b o, b ≠ X.env.locals -> b ∉ X.fs -> b ∉ ch -> s.heap.get? b = some o -> H b = none -> h'.get? b = some o)
 (slot : ∀ b o, b ≠ X.env.locals -> b ∈ X.fs -> b ∉ ch -> s.heap.get? b = some o -> H b = none -> ∃ sl, h'.get? b = some { o with slots := sl }) (free : ∀ b o, b ∉ ch -> s.heap.get? b = some o -> H b = none -> H' b = none)
 (there : ∀ b o, b ∉ ch -> s.heap.get? b = some o -> ∃ o', h'.get? b = some o')
 (j8 : ∀ b xs, H b = some (.tup xs) -> H' b = some (.tup xs)) (jB : ∀ b o u, H b = some (.uN o u) -> H' b = some (.uN o u)) (lR : ∀ b ps, H b = some (.D6 ps) -> ∃ more, H' b = some (.D6 (ps ++ more)))
 (ns : ∀ m, s.heap.Ns X.env.locals m -> h'.Ns X.env.locals m) (bf : lS X.prog X.w H' h') (hg : AllBare g') :
 Inv X pins σ H' { s with heap := h', gens := g', drawn := d', toks := t' } := by
 have Mt : ∀ b o, X.cJ.heap.get? b = some o -> b ≠ X.env.locals := fun b o e => Nat.ne_of_lt (Nat.lt_of_lt_of_le (Heap.lt_size e) I.ok.above)
 have Ii : ∀ b o, X.cJ.heap.get? b = some o -> b ∉ X.ex -> b ∉ ch := fun b o e hx hb => by
  rcases (Bb b hb).1 with z | z
  . exact hx z
  . exact absurd (Nat.lt_of_lt_of_le (Heap.lt_size e) z) (Nat.lt_irrefl _)
 have cellK : ∀ x c, X.env.cells.lookup x = some c -> ∀ v, s.heap.IsCell c v -> h'.IsCell c v := fun x c e v ⟨o, ho, hd⟩ => by
  have Ho : c ∉ ch := fun z => (Bb c z).2.2.1 x c e rfl
  by_cases hc : c ∈ X.fs
  . obtain ⟨sl, q⟩ := slot c o (I.CH x c e) hc Ho ho (I.dX x c e)
    exact ⟨_, q, hd⟩
  . exact ⟨o, keep c o (I.CH x c e) hc Ho ho (I.dX x c e), hd⟩
 refine ⟨I.ok, I.os, hg, ⟨fun b o e n hb hx => ?_, fun b o e n hb hx => ?_, fun b o e n hx => ?_, fun b o e hx => ?_, fun b xs e => j8 b xs (I.base.j8 b xs e), fun b o xs e => jB b o xs (I.base.jB b o xs e), fun b ps e => ?_⟩, ?_, fun x c e => ?_, ?_, fun x c e => ?_, fun p hp => ?_, bf, I.len⟩
 . exact keep b o (Mt b o e) hb (Ii b o e hx) (I.base.keep b o e n hb hx) (I.base.free b o e n hx)
 . obtain ⟨sl, e1⟩ := I.base.slot b o e n hb hx
   obtain ⟨Lh, e2⟩ := slot b _ (Mt b o e) hb (Ii b o e hx) e1 (I.base.free b o e n hx)
   exact ⟨Lh, e2⟩
 . obtain ⟨o', e1⟩ := I.base.there b o e hx
   exact free b o' (Ii b o e hx) e1 (I.base.free b o e n hx)
 . obtain ⟨o', e1⟩ := I.base.there b o e hx
   exact there b o' (Ii b o e hx) e1
 . obtain ⟨m1, e1⟩ := I.base.lR b ps e
   obtain ⟨m2, e2⟩ := lR b _ e1
   exact ⟨m1 ++ m2, by rw [e2, Array.append_assoc]⟩
 . obtain ⟨m, hn, hl⟩ := I.loc
   refine ⟨m, ns m hn, fun i x v e1 e2 e3 => ?_⟩
   obtain ⟨u, r, l⟩ := hl i x v e1 e2 e3
   refine ⟨u, r, ?_⟩
   rcases l with l | ⟨k, c, e, z⟩
   . exact .inl l
   . exact .inr ⟨k, c, e, cellK x c e _ z⟩
 . obtain ⟨v, z⟩ := I.cell x c e
   exact ⟨v, cellK x c e v z⟩
 . obtain ⟨m, ⟨o, _, _, ho, _⟩, _⟩ := I.loc
   exact free _ o (fun z => (Bb _ z).2.1 rfl) ho I.free
 . obtain ⟨v, o, ho, hd⟩ := I.cell x c e
   exact free c o (fun z => (Bb c z).2.2.1 x c e rfl) ho (I.dX x c e)
 . obtain ⟨e, n, ne, nf, d⟩ := I.pin p hp
   have Ho : p.1 ∉ ch := fun z => (Bb p.1 z).2.2.2 p hp rfl
   exact ⟨keep p.1 p.2 ne nf Ho e n, free p.1 p.2 Ho e n, ne, nf, d⟩
theorem Inv.un {t' : Nat} (I : Inv X pins σ H s) (u : Un X.fs [] H H' s.heap h') (bf : lS X.prog X.w H' h') : Inv X pins σ H' { s with heap := h', toks := t' } := by
 obtain ⟨m, ⟨o, es, ep, ho, r⟩, _⟩ := id I.loc
 obtain ⟨sl, hL⟩ := u.any ho I.free (by simp)
 exact I.step (g' := s.gens) (d' := s.drawn) (ch := []) (fun _ z => nomatch z) (fun b o _ hb _ e n => u.keep b o e n hb (by simp)) (fun b o _ hb _ e n => u.slot b o e n hb (by simp)) (fun b o _ e n => u.free b o e n (by simp)) (fun b o _ e => u.there b o e (by simp)) u.j8 u.jB u.lR (fun m' hm => by
  obtain ⟨o', Ly, KH, oZ, r'⟩ := hm
  rw [ho] at oZ; cases oZ
  exact ⟨_, Ly, KH, hL, r'⟩) bf I.bare
theorem Inv.call {g' : Array GenState} {t' : Nat} {d' : Drawn} {ch : List Addr} (I : Inv X pins σ H s) (u : Un (j3 X.stack) ch H H' s.heap h') (bf : lS X.prog X.w H' h') (hg : AllBare g')
 (Bb : ∀ b ∈ ch, (b ∈ X.ex \/ X.cJ.heap.objs.size <= b) /\ b ≠ X.env.locals /\ (∀ x c, X.env.cells.lookup x = some c -> c ≠ b) /\ ∀ p ∈ X.pn ++ pins, p.1 ≠ b) :
 Inv X pins σ H' { s with heap := h', gens := g', drawn := d', toks := t' } := by
 obtain ⟨m, ⟨o, es, ep, ho, r⟩, _⟩ := id I.loc
 obtain ⟨sl, hL⟩ := u.any ho I.free fun z => (Bb _ z).2.1 rfl
 exact I.step (ch := ch) Bb (fun b o hL hb hc e n => u.keep b o e n (fun z => (List.mem_cons.mp (I.si b z)).elim hL hb) hc) (fun b o _ _ hc e n => u.any e n hc) (fun b o hc e n => u.free b o e n hc) (fun b o hc e => u.there b o e hc) u.j8 u.jB u.lR (fun m' hm => by
  obtain ⟨o', Ly, KH, oZ, r'⟩ := hm
  rw [ho] at oZ; cases oZ
  exact ⟨_, Ly, KH, hL, r'⟩) bf hg
theorem Inv.turned {t' : Nat} {it : Addr} (I : Inv X pins σ H s) (k : ∀ b o, b ≠ it -> s.heap.get? b = some o -> h'.get? b = some o) (hn : H it = none) (hL : it ≠ X.env.locals)
 (h1 : it ∈ X.ex \/ X.cJ.heap.objs.size <= it) (h2 : ∀ x c, X.env.cells.lookup x = some c -> c ≠ it) (h3 : ∀ p ∈ X.pn ++ pins, p.1 ≠ it) : Inv X pins σ H { s with heap := h', toks := t' } := by
 have MG : ∀ b u, H b = some u -> b ≠ it := fun b u e z => by rw [z, hn] at e; cases e
 refine I.step (g' := s.gens) (d' := s.drawn) (ch := [it]) (fun b hb => ?_) (fun b o _ _ hc e _ => k b o (fun z => hc (by simp [z])) e) (fun b o _ _ hc e _ => ⟨o.slots, k b o (fun z => hc (by simp [z])) e⟩) (fun _ _ _ _ n => n)
  (fun b o hc e => ⟨o, k b o (fun z => hc (by simp [z])) e⟩) (fun _ _ e => e) (fun _ _ _ e => e) (fun b ps e => ⟨#[], by rw [e]; simp⟩) (fun m hm => ?_) (fun b u e => ?_) I.bare
 . have e : b = it := by simpa using hb
   subst e
   exact ⟨h1, hL, h2, h3⟩
 . obtain ⟨o, es, ep, ho, r⟩ := hm
   exact ⟨o, es, ep, k _ o (Ne.symm hL) ho, r⟩
 . refine (I.bf b u e).pe (fun c v hc q => k c v ?_ q) (fun _ q => q) fun _ _ q => q
   rcases hc with z | z
   . rw [z]; exact MG b u e
   . exact MG c _ z
theorem Inv.tok (I : Inv X pins σ H s) (t : Nat) : Inv X pins σ H { s with toks := t } := I.un (h' := s.heap) (t' := t) Un.refl I.bf
theorem Inv.kept {t' : Nat} (I : Inv X pins σ H s) (k : ∀ b u, s.heap.get? b = some u -> h'.get? b = some u) : Inv X pins σ H { s with heap := h', toks := t' } := I.un (Un.kept k) (I.bf.kept k)
theorem Inv.laid {a : Addr} {o : HO} {t' : Nat} (I : Inv X pins σ H s) (k : ∀ b u, s.heap.get? b = some u -> h'.get? b = some u) (hp : s.heap.objs.size <= a) (new : c7 X.prog X.w (upd H a o) h' a o) :
 Inv X pins σ (upd H a o) { s with heap := h', toks := t' } := I.un (Un.laid k hp (I.bf.fresh hp)) (I.bf.laid k hp new)
theorem Inv.write {x e : Addr} {o : HO} {t' : Nat} (I : Inv X pins σ H s) (mu : JU (H x)) (he : e = x \/ H e = some (.own x)) (k : ∀ b u, b ≠ e -> s.heap.get? b = some u -> h'.get? b = some u) (GY : ∃ u, h'.get? e = some u)
 (new : c7 X.prog X.w (upd H x o) h' x o) : Inv X pins σ (upd H x o) { s with heap := h', toks := t' } := I.un (Un.write mu he k GY) (I.bf.write mu he k GY new)
theorem Inv.weak {σ' : List (Option V)} (I : Inv X pins σ H s) (hl : σ'.length = σ.length) (w : ∀ (i : Nat) v, σ'[i]? = some (some v) -> σ[i]? = some (some v)) : Inv X pins σ' H s :=
 ⟨I.ok, I.os, I.bare, I.base, let ⟨m, hn, C4⟩ := I.loc; ⟨m, hn, fun i x v e1 e2 e3 => C4 i x v e1 (w i v e2) e3⟩, I.cell, I.free, I.dX, I.pin, I.bf, hl.trans I.len⟩
theorem Inv.gb {pV : List (Addr × Obj)} (I : Inv X pins σ H s) (h : ∀ p ∈ pV, s.heap.get? p.1 = some p.2 /\ H p.1 = none /\ p.1 ≠ X.env.locals /\ p.1 ∉ X.fs /\ ∀ v, p.2.data ≠ .cell v) : Inv X pV σ H s :=
 ⟨I.ok, I.os, I.bare, I.base, I.loc, I.cell, I.free, I.dX, fun p hp => (List.mem_append.mp hp).elim (fun z => I.pin p (List.mem_append_left _ z)) (h p), I.bf, I.len⟩
theorem qA {N : List Str} (hN : N.Nodup) {i j : Nat} {x : Str} (a : N[i]? = some x) (b : N[j]? = some x) : i = j := by
 obtain ⟨h1, e1⟩ := List.getElem?_eq_some_iff.mp a
 obtain ⟨h2, e2⟩ := List.getElem?_eq_some_iff.mp b
 exact (List.getElem_inj hN).mp (e1.trans e2.symm)
theorem rk {M : Model} {A : Around} {E : Value -> Shared -> Prop} {i : Nat} {x : Str} {v : V} {u : Value} {Q : Unit -> Shared -> Prop} (I : Inv X pins σ H s) (hN : X.N.Nodup) (hi : X.N[i]? = some x) (hx : Loc X.env.scope x) (r : RelV v u)
 (h : ∀ s', Inv X pins (σ.set i (some v)) H s' -> (∃ a, Heap.SameBut a s.heap s'.heap /\ (a = X.env.locals \/ X.env.cells.lookup x = some a)) -> Q () s') (hf : X.fn x = true \/ X.env.scope.names.lookup x = some .local := by first | exact .inl rfl | exact .inr rfl | assumption) : wpAny M A (storeName X.env x u) Q E s := by
 obtain ⟨m, hn, hl⟩ := id I.loc
 have BJ : (X.env.scope.kind == .class || (X.env.scope.kind == .module && X.env.locals != X.env.globals)) = false := by rw [I.ok.kind]; rfl
 have Jn : i < σ.length := by rw [I.len]; exact (List.getElem?_eq_some_iff.mp hi).1
 have CH := I.CH
 have tracked : ∀ {a : Addr} {h' : Heap}, (∃ o, s.heap.get? a = some o /\ H a = none) -> Heap.SameBut a s.heap h' -> lS X.prog X.w H h' := fun {a h'} ha hs b ob e => by
  obtain ⟨_, _, Ek⟩ := ha
  refine (I.bf b ob e).pe (fun c w' hc q => (hs.2 c ?_).trans q) (fun _ q => q) fun _ _ q => q
  rintro rfl
  rcases hc with rfl | hc
  . rw [Ek] at e; cases e
  . rw [Ek] at hc; cases hc
 rcases hx with hk | hk
 . refine wpAny_storeName_local hk hn (fun h' Oq hs => ?_) BJ
   obtain ⟨oL, _, _, N1, _⟩ := id hn
   refine h _ ⟨I.ok, I.os, I.bare, ⟨fun b o e n hb hx => ?_, fun b o e n hb hx => ?_, I.base.free, fun b o e hx => ?_, I.base.j8, I.base.jB, I.base.lR⟩, ⟨_, Oq, fun j y v' e1 e2 e3 => ?_⟩, fun y c e => ?_, I.free, I.dX, fun p hp => ?_, tracked ⟨oL, N1, I.free⟩ hs, by simpa using I.len⟩ ⟨_, hs, .inl rfl⟩
   . exact (hs.2 b (Nat.ne_of_lt (Nat.lt_of_lt_of_le (Heap.lt_size e) I.ok.above))).trans (I.base.keep b o e n hb hx)
   . obtain ⟨sl, e1⟩ := I.base.slot b o e n hb hx
     exact ⟨sl, (hs.2 b (Nat.ne_of_lt (Nat.lt_of_lt_of_le (Heap.lt_size e) I.ok.above))).trans e1⟩
   . obtain ⟨o', e1⟩ := I.base.there b o e hx
     exact ⟨o', (hs.2 b (Nat.ne_of_lt (Nat.lt_of_lt_of_le (Heap.lt_size e) I.ok.above))).trans e1⟩
   . by_cases hj : j = i
     . subst hj
       rw [hi] at e1; cases e1
       rw [List.getElem?_set_self Jn] at e2
       cases e2
       exact ⟨u, r, .inl ⟨hk, by simp⟩⟩
     . rw [List.getElem?_set_ne (Ne.symm hj)] at e2
       obtain ⟨u', r', q⟩ := hl j y v' e1 e2 e3
       refine ⟨u', r', ?_⟩
       rcases q with ⟨k, e⟩ | ⟨k, c, e, z⟩
       . refine .inl ⟨k, ?_⟩
         have : y ≠ x := fun e => hj (qA hN e1 (e ▸ hi))
         simp [this, e]
       . exact .inr ⟨k, c, e, z.sameBut hs (CH y c e)⟩
   . obtain ⟨w', z⟩ := I.cell y c e
     exact ⟨w', z.sameBut hs (CH y c e)⟩
   . obtain ⟨e, n, ne, nf, d⟩ := I.pin p hp
     exact ⟨(hs.2 p.1 ne).trans e, n, ne, nf, d⟩
 . have LX : X.fn x = true := by
    rcases hf with z | z
    . exact z
    . rw [z] at hk; cases hk
   obtain ⟨c, hc⟩ := I.ok.has x (.inl hk)
   obtain ⟨w', z⟩ := I.cell x c hc
   refine wpAny_storeName_cell I.ok.kind hk hc z (fun h' sq hs => ?_)
   obtain ⟨oc, M7, KJ⟩ := id z
   refine h { s with heap := h' } ⟨I.ok, I.os, I.bare, ⟨fun b o e n hb hx => ?_, fun b o e n hb hx => ?_, I.base.free, fun b o e hx => ?_, I.base.j8, I.base.jB, I.base.lR⟩, ⟨m, hn.sameBut hs (Ne.symm (CH x c hc)), fun j y v' e1 e2 e3 => ?_⟩, fun y c' e => ?_, I.free, I.dX, fun p hp => ?_, tracked ⟨oc, M7, I.dX x c hc⟩ hs, by simpa using I.len⟩ ⟨c, hs, .inr hc⟩
   . exact (hs.2 b (Nat.ne_of_lt (Nat.lt_of_lt_of_le (Heap.lt_size e) (I.ok.Df x c LX hc)))).trans (I.base.keep b o e n hb hx)
   . obtain ⟨sl, e1⟩ := I.base.slot b o e n hb hx
     exact ⟨sl, (hs.2 b (Nat.ne_of_lt (Nat.lt_of_lt_of_le (Heap.lt_size e) (I.ok.Df x c LX hc)))).trans e1⟩
   . obtain ⟨o', e1⟩ := I.base.there b o e hx
     exact ⟨o', (hs.2 b (Nat.ne_of_lt (Nat.lt_of_lt_of_le (Heap.lt_size e) (I.ok.Df x c LX hc)))).trans e1⟩
   . by_cases hj : j = i
     . subst hj
       rw [hi] at e1; cases e1
       rw [List.getElem?_set_self Jn] at e2
       cases e2
       exact ⟨u, r, .inr ⟨.inl hk, c, hc, sq⟩⟩
     . rw [List.getElem?_set_ne (Ne.symm hj)] at e2
       obtain ⟨u', r', q⟩ := hl j y v' e1 e2 e3
       refine ⟨u', r', ?_⟩
       rcases q with q | ⟨k, c', e, z'⟩
       . exact .inl q
       . refine .inr ⟨k, c', e, z'.sameBut hs ?_⟩
         rintro rfl
         exact hj (qA hN e1 (I.ok.inj _ _ _ e hc ▸ hi))
   . by_cases JT : c' = c
     . subst JT; exact ⟨_, sq⟩
     . obtain ⟨w2, z2⟩ := I.cell y c' e
       exact ⟨w2, z2.sameBut hs JT⟩
   . obtain ⟨e, n, ne, nf, d⟩ := I.pin p hp
     refine ⟨(hs.2 p.1 ?_).trans e, n, ne, nf, d⟩
     intro q
     rw [q, M7] at e
     have q' : oc = p.2 := Option.some.inj e
     exact d w' (by rw [<- q']; exact KJ)
theorem p0 {M : Model} {A : Around} {E : Value -> Shared -> Prop} {i : Nat} {x : Str} {v : V} {u : Value} {Q : Unit -> Shared -> Prop} (I : Inv X pins σ H s) (hN : X.N.Nodup) (hi : X.N[i]? = some x) (hx : Loc X.env.scope x) (r : RelV v u)
 (h : ∀ s', Inv X pins (σ.set i (some v)) H s' -> Q () s') (hf : X.fn x = true \/ X.env.scope.names.lookup x = some .local := by first | exact .inl rfl | exact .inr rfl | assumption) : wpAny M A (storeName X.env x u) Q E s :=
 rk I hN hi hx r (fun s' I' _ => h s' I') hf
theorem Inv.qp {s' : Shared} {ch : List Addr} (I : Inv X pins σ H s) (ho : s'.os = s.os) (u : Un (j3 X.stack) ch H H' s.heap s'.heap) (bf : lS X.prog X.w H' s'.heap) (hg : AllBare s'.gens)
 (Bb : ∀ b ∈ ch, (b ∈ X.ex \/ X.cJ.heap.objs.size <= b) /\ b ≠ X.env.locals /\ (∀ x c, X.env.cells.lookup x = some c -> c ≠ b) /\ ∀ p ∈ X.pn ++ pins, p.1 ≠ b) : Inv X pins σ H' s' := by
 obtain ⟨h', g', d', t', o'⟩ := s'
 have e : o' = s.os := ho
 subst e
 exact I.call (g' := g') (t' := t') (d' := d') u bf hg Bb
end
abbrev XK := Value -> Option Addr -> Hp -> Prop
abbrev St := List (Option V)
abbrev VK := V -> Hp -> Prop
abbrev TE := St -> Hp -> VK -> Prop
abbrev TT := St -> Hp -> (Bool -> Hp -> Prop) -> Prop
abbrev TA := St -> Hp -> (List V -> Hp -> Prop) -> Prop
structure Ends where
 nx : St -> Hp -> Prop
 rt : VK
 bk : St -> Hp -> Prop := fun _ _ => False
 ct : St -> Hp -> Prop := fun _ _ => False
abbrev TS := Ends -> St -> Hp -> Prop
def EP (X : Cx) (pins : List (Addr × Obj)) (σ : St) (Q : VK) (u : Value) (s' : Shared) : Prop := ∃ v H', Inv X pins σ H' s' /\ RelV v u /\ Q v H'
def TP (X : Cx) (pins : List (Addr × Obj)) (σ : St) (Q : Bool -> Hp -> Prop) (b : Bool) (s' : Shared) : Prop := ∃ H', Inv X pins σ H' s' /\ Q b H'
def AP (X : Cx) (pins : List (Addr × Obj)) (σ : St) (Q : List V -> Hp -> Prop) (us : List Value) (s' : Shared) : Prop := ∃ vs H', Inv X pins σ H' s' /\ Vals vs us /\ Q vs H'
def SP (X : Cx) (pins : List (Addr × Obj)) (D : Ends) (f : Flow) (s' : Shared) : Prop :=
 match f with
 | .next => ∃ σ' H', Inv X pins σ' H' s' /\ D.nx σ' H'
 | .brk => ∃ σ' H', Inv X pins σ' H' s' /\ D.bk σ' H'
 | .cont => ∃ σ' H', Inv X pins σ' H' s' /\ D.ct σ' H'
 | .ret u => ∃ v σ' H', Inv X pins σ' H' s' /\ RelV v u /\ D.rt v H'
def PE (X : Cx) (e : Expr) (t : TE) : Prop :=
 ∀ (pins : List (Addr × Obj)) (s : Shared) (σ : St) (H : Hp) (Q : VK), Inv X pins σ H s -> t σ H Q -> wpAny (model X.prog X.w) X.A (eval e X.env) (EP X pins σ Q) X.xe s
def PT (X : Cx) (e : Expr) (t : TT) : Prop :=
 ∀ (pins : List (Addr × Obj)) (s : Shared) (σ : St) (H : Hp) (Q : Bool -> Hp -> Prop), Inv X pins σ H s -> t σ H Q -> wpAny (model X.prog X.w) X.A (isTrue e X.env (eval e X.env)) (TP X pins σ Q) X.xe s
def PW (X : Cx) (e : Expr) (t : TT) : Prop :=
 ∀ (whole : Sem Value) (pins : List (Addr × Obj)) (s : Shared) (σ : St) (H : Hp) (Q : Bool -> Hp -> Prop), Inv X pins σ H s -> t σ H Q -> wpAny (model X.prog X.w) X.A (isTrue e X.env whole) (TP X pins σ Q) X.xe s
theorem PW.pt {X : Cx} {e : Expr} {t : TT} (h : PW X e t) : PT X e t := h _
def PA (X : Cx) (es : List Expr) (t : TA) : Prop :=
 ∀ (pos : Pos) (pins : List (Addr × Obj)) (s : Shared) (σ : St) (H : Hp) (Q : List V -> Hp -> Prop), Inv X pins σ H s -> t σ H Q -> wpAny (model X.prog X.w) X.A (spliced (backTo pos (starEach es X.env))) (AP X pins σ Q) X.xe s
def PS (X : Cx) (st : Stmt) (t : TS) : Prop :=
 ∀ (pins : List (Addr × Obj)) (s : Shared) (σ : St) (H : Hp) (D : Ends), Inv X pins σ H s -> t D σ H -> wpAny (model X.prog X.w) X.A (exec st X.env) (SP X pins D) X.xe s
def qN (X : Cx) (st : List Stmt) (t : TS) : Prop :=
 ∀ (pins : List (Addr × Obj)) (s : Shared) (σ : St) (H : Hp) (D : Ends), Inv X pins σ H s -> t D σ H -> wpAny (model X.prog X.w) X.A (execs st X.env) (SP X pins D) X.xe s
theorem bP {α : Type} {t : Sem α} {Q Q' : α -> Shared -> Prop} {M : Model} {A : Around} {E : Value -> Shared -> Prop} {s : Shared} (h : wpAny M A t Q E s) (hQ : ∀ a s, Q a s -> Q' a s) : wpAny M A t Q' E s := wpAny_mono h hQ fun _ _ x => x
section
variable {X : Cx}
def FV (i : Nat) : TE := fun σ H Q => ∃ v, σ[i]? = some (some v) /\ Q v H
def tC (v : V) : TE := fun _ H Q => Q v H
theorem FN {i : Nat} {x : Str} {pos : Pos} (hN : X.N[i]? = some x) (hv : GW X.env.scope x) (hd : (x == ("__debug__" : Str)) = false := by decide) (uM : (x == ("__classdict__" : Str)) = false := by decide) : PE X (.Name x pos) (FV i) := by
 intro pins s σ H Q I h
 obtain ⟨v, e, h⟩ := h
 obtain ⟨m, hn, hl⟩ := I.loc
 obtain ⟨u, r, l⟩ := hl i x v hN e hv
 have fin : EP X pins σ Q u s := ⟨v, H, I, r, h⟩
 rcases l with ⟨hk, hm⟩ | ⟨hk, c, hc, rC⟩
 . exact wpAny_Name (wpAny_loadName_local I.ok.kind hk hn hm fin) hd
 . rcases hk with hk | hk
   . exact wpAny_Name (wpAny_loadName_cell I.ok.kind hk hc rC fin) hd
   . exact wpAny_Name (wpAny_loadName_free I.ok.kind hk hc rC fin uM) hd
theorem ah {i j pos} : PE X (.Constant (.int i) j pos) (tC (.int i)) := fun _ _ _ H _ I h => wpAny_Constant_int ⟨.int i, H, I.tok _, ⟨_, rfl⟩, h⟩
theorem qy {b j pos} : PE X (.Constant (.bool b) j pos) (tC (.bl b)) := fun _ _ _ H _ I h => Constant_bool ⟨.bl b, H, I, rfl, h⟩
theorem nV {j pos} : PE X (.Constant .none j pos) (tC .cn) := fun _ _ _ H _ I h => Constant_none ⟨.cn, H, I, rfl, h⟩
theorem av {x j pos} : PE X (.Constant (.str x) j pos) (tC (.str x)) := fun _ _ _ H _ I h => Calls.Constant_str ⟨.str x, H, I.tok _, ⟨_, rfl⟩, h⟩
def Gl (X : Cx) (x : Str) : Prop := X.env.kindOf x = some .globalImplicit
theorem ez {E : Value -> Shared -> Prop} {pins : List (Addr × Obj)} {s : Shared} {σ : St} {H : Hp} {x : Str} {u : Value} {pos : Pos} {Q : Value -> Shared -> Prop} (I : Inv X pins σ H s) (hg : Gl X x) (hm : X.mg x = some u) (h : Q u s)
 (hd : (x == ("__debug__" : Str)) = false := by decide) : wpAny (model X.prog X.w) X.A (eval (.Name x pos) X.env) Q E s :=
 Calls.Name_function_global I.ok.kind hg (Calls.loadGlobal_global (by rw [I.ok.glob]; exact I.mod.glob.keeps I.bk) hm h) hd
theorem vk {E : Value -> Shared -> Prop} {pins : List (Addr × Obj)} {s : Shared} {σ : St} {H : Hp} {x : Str} {u : Value} {pos : Pos} {Q : Value -> Shared -> Prop} (I : Inv X pins σ H s) (hg : Gl X x) (hm : X.mg x = none) (hv : bootBuiltins x = some u) (h : Q u s)
 (hn : x ≠ "__name__" := by decide) (hd : (x == ("__debug__" : Str)) = false := by decide) : wpAny (model X.prog X.w) X.A (eval (.Name x pos) X.env) Q E s := by
 obtain ⟨mb, h1, h2⟩ := I.mod.blt
 exact Calls.Name_function_global I.ok.kind hg (Calls.loadGlobal_builtin (by rw [I.ok.glob]; exact I.mod.glob.keeps I.bk) hm (by rw [I.ok.blt]; exact h1.keeps I.bk) ((h2 x hn).trans hv) h) hd
theorem iD {x : Str} {v : V} {u : Value} {pos : Pos} (hg : Gl X x) (hm : X.mg x = some u) (r : RelV v u) (hd : (x == ("__debug__" : Str)) = false := by decide) : PE X (.Name x pos) (tC v) :=
 fun _ _ _ H _ I h => ez I hg hm ⟨v, H, I, r, h⟩ hd
theorem pL {x : Str} {v : V} {u : Value} {pos : Pos} (hg : Gl X x) (hm : X.mg x = none) (hv : bootBuiltins x = some u) (r : RelV v u) (hn : x ≠ "__name__" := by decide) (hd : (x == ("__debug__" : Str)) = false := by decide) : PE X (.Name x pos) (tC v) :=
 fun _ _ _ H _ I h => vk I hg hm hv ⟨v, H, I, r, h⟩ hn hd
variable {a b : Expr} {ta tb : TE} {pos : Pos}
def PC (X : Cx) (op : CmpOp) (a b : Expr) (t : TE) : Prop :=
 ∀ (pins : List (Addr × Obj)) (s : Shared) (σ : St) (H : Hp) (Q : VK), Inv X pins σ H s -> t σ H Q ->
   wpAny (model X.prog X.w) X.A (eval a X.env) (fun v s₁ => wpAny (model X.prog X.w) X.A (eval b X.env) (fun u s₂ => wpAny (model X.prog X.w) X.A (compareOp op v u) (EP X pins σ Q) X.xe s₂) X.xe s₁) X.xe s
theorem Fo {op : CmpOp} {t : TE} (h : PC X op a b t) (h1 : behindInMarks op b = false := by first | exact Hl _ (by decide) (by decide) | rfl) : PE X (.Compare a [op] [b] pos) t := fun pins s σ H Q I hw => wpAny_Compare1 (h pins s σ H Q I hw) h1
variable {tA J1 : TT} {rest : List Expr}
def Ip (t u : TT) : TT := fun σ H Q => t σ H fun c H1 => if c = true then u σ H1 Q else Q false H1
def MU (t u : TT) : TT := fun σ H Q => t σ H fun c H1 => if c = true then Q true H1 else u σ H1 Q
def Jh (t : TT) : TT := fun σ H Q => t σ H fun c H1 => Q (!c) H1
theorem sW (ha : PT X a tA) : PW X (.BoolOp .And [a] pos) tA := by
 intro wh pins s σ H Q I h
 refine isTrue_and (bP (ha pins s σ H Q I h) fun c s1 e => ?_)
 cases c with
 | true => exact isTrue_and_nil e
 | false => exact e
theorem qG (ha : PT X a tA) : PW X (.BoolOp .Or [a] pos) tA := by
 intro wh pins s σ H Q I h
 refine isTrue_or (bP (ha pins s σ H Q I h) fun c s1 e => ?_)
 cases c with
 | false => exact isTrue_or_nil e
 | true => exact e
theorem vW (ha : PT X a tA) (hb : PW X (.BoolOp .And (b :: rest) pos) J1) : PW X (.BoolOp .And (a :: b :: rest) pos) (Ip tA J1) := by
 intro wh pins s σ H Q I h
 refine isTrue_and (bP (ha pins s σ H _ I h) fun c s1 ⟨H1, I1, q1⟩ => ?_)
 cases c with
 | true => exact hb wh pins s1 σ H1 Q I1 q1
 | false => exact ⟨H1, I1, q1⟩
theorem pX (ha : PT X a tA) (hb : PW X (.BoolOp .Or (b :: rest) pos) J1) : PW X (.BoolOp .Or (a :: b :: rest) pos) (MU tA J1) := by
 intro wh pins s σ H Q I h
 refine isTrue_or (bP (ha pins s σ H _ I h) fun c s1 ⟨H1, I1, q1⟩ => ?_)
 cases c with
 | true => exact ⟨H1, I1, q1⟩
 | false => exact hb wh pins s1 σ H1 Q I1 q1
theorem nR (ha : PT X a tA) : PT X (.UnaryOp .Not a pos) (Jh tA) := by
 intro pins s σ H Q I h
 exact isTrue_not (ha pins s σ H (fun c H1 => Q (!c) H1) I h)
def DP (ta tb : TE) : TE := fun σ H Q => ta σ H fun x H1 => ∃ c, x = .bl c /\ if c = true then tb σ H1 Q else Q (.bl false) H1
def Iy (ta tb : TE) : TE := fun σ H Q => ta σ H fun x H1 => ∃ c, x = .bl c /\ if c = true then Q (.bl true) H1 else tb σ H1 Q
def DW (ta : TE) : TE := fun σ H Q => ta σ H fun x H1 => ∃ c, x = .bl c /\ Q (.bl (!c)) H1
theorem jJ {op} {t : TE} (h : PE X a t) : PE X (.BoolOp op [a] pos) t := fun pins s σ H Q I hw => BoolOp_one (h pins s σ H Q I hw)
theorem jL (ha : PE X a ta) (hb : PE X (.BoolOp .And (b :: rest) pos) tb) : PE X (.BoolOp .And (a :: b :: rest) pos) (DP ta tb) := by
 intro pins s σ H Q I h
 refine BoolOp_and (bP (ha pins s σ H _ I h) fun v s1 ⟨x, H1, I1, r1, q1⟩ => ?_)
 obtain ⟨c, rfl, q1⟩ := q1
 cases r1
 refine wpAny_truthy_bool ?_
 cases c with
 | true => exact hb pins s1 σ H1 Q I1 q1
 | false => exact ⟨.bl false, H1, I1, rfl, q1⟩
theorem Jt (ha : PE X a ta) (hb : PE X (.BoolOp .Or (b :: rest) pos) tb) : PE X (.BoolOp .Or (a :: b :: rest) pos) (Iy ta tb) := by
 intro pins s σ H Q I h
 refine BoolOp_or (bP (ha pins s σ H _ I h) fun v s1 ⟨x, H1, I1, r1, q1⟩ => ?_)
 obtain ⟨c, rfl, q1⟩ := q1
 cases r1
 refine wpAny_truthy_bool ?_
 cases c with
 | false => exact hb pins s1 σ H1 Q I1 q1
 | true => exact ⟨.bl true, H1, I1, rfl, q1⟩
theorem EB (ha : PE X a ta) : PE X (.UnaryOp .Not a pos) (DW ta) := by
 intro pins s σ H Q I h
 refine UnaryOp_ (bP (ha pins s σ H _ I h) fun v s1 ⟨x, H1, I1, r1, q1⟩ => ?_)
 obtain ⟨c, rfl, q1⟩ := q1
 cases r1
 exact not_of (wpAny_truthy_bool ⟨.bl (!c), H1, I1, rfl, q1⟩)
def MY (t : TT) (ta tb : TE) : TE := fun σ H Q => t σ H fun c H1 => if c = true then ta σ H1 Q else tb σ H1 Q
theorem m8 {c : Expr} (hc : PT X c tA) (ha : PE X a ta) (hb : PE X b tb) : PE X (.IfExp c a b pos) (MY tA ta tb) := by
 intro pins s σ H Q I h
 refine wpAny_IfExp (bP (hc pins s σ H _ I h) fun d s1 ⟨H1, I1, q1⟩ => ?_)
 cases d with
 | true => exact ha pins s1 σ H1 Q I1 q1
 | false => exact hb pins s1 σ H1 Q I1 q1
end
def fW (K : PySem.W.Frag) (H : Hp) (a : Addr) (xs : List V) : Prop :=
 Rd H a (.lst xs) \/
  ∃ (o : Obj) (aV : Array Value) (n : Nat), K.lookup a = some o /\ o.cls = .type "list" /\ o.dict = none /\ o.data = .seq aV n /\ aV.size <= sizeLine /\ Vals xs aV.toList
def xJ (K : PySem.W.Frag) (H : Hp) (a : Addr) (xs : List V) : Prop :=
 Rd H a (.tup xs) \/
  ∃ (o : Obj) (aV : Array Value) (n : Nat), K.lookup a = some o /\ o.cls = .type "tuple" /\ o.data = .seq aV n /\ aV.size <= sizeLine /\ Vals xs aV.toList
def Kn : Value -> Option V
 | .none => some .cn
 | .bool b => some (.bl b)
 | .int i _ => some (.int i)
 | .str x _ => some (.str x)
 | .bytes b _ => some (.xf b)
 | .float b _ => some (.F5 b)
 | .ref a => some (.ref a)
 | .type n => some (.ty n)
 | _ => none
theorem RelV.abs {x : V} {u : Value} (r : RelV x u) : Kn u = some x := by
 cases x with
 | cn => cases r; rfl
 | bl _ => cases r; rfl
 | int _ => obtain ⟨t, rfl⟩ := r; rfl
 | str _ => obtain ⟨t, rfl⟩ := r; rfl
 | xf _ => obtain ⟨t, rfl⟩ := r; rfl
 | F5 _ => obtain ⟨t, rfl⟩ := r; rfl
 | ref _ => cases r; rfl
 | ty _ => cases r; rfl
theorem RelV.inj {x y : V} {u : Value} (r : RelV x u) (q : RelV y u) : x = y := Option.some.inj (r.abs.symm.trans q.abs)
theorem Vals.inj : ∀ {xs ys : List V} {us : List Value}, Vals xs us -> Vals ys us -> xs = ys
 | _, _, _, .nil, .nil => rfl
 | _, _, _, .cons r t, .cons r' t' => by rw [r.inj r', Vals.inj t t']
section
variable {X : Cx} {pins : List (Addr × Obj)} {σ : St} {H : Hp} {s : Shared} {a : Addr} {xs ys : List V}
theorem fW.of {K : PySem.W.Frag} (h : H a = some (.lst xs)) : fW K H a xs := .inl (.inl h)
theorem xJ.of {K : PySem.W.Frag} (h : H a = some (.tup xs)) : xJ K H a xs := .inl (.inl h)
theorem Inv.list (I : Inv X pins σ H s) (h : fW X.K H a xs) : ∃ aV : List Value, Vals xs aV /\ PlainL s.heap a aV.toArray /\ xs.length <= sizeLine := by
 rcases h with h | ⟨o, aV, n, hk, hc, hd, hs, hz, r⟩
 . obtain ⟨z, aV, n, r, e⟩ := h.ok I.bf
   exact ⟨aV, r, ⟨_, n, e, rfl, rfl, rfl⟩, z⟩
 . refine ⟨aV.toList, r, ⟨o, n, I.iZ a o hk, hc, hd, by simpa using hs⟩, ?_⟩
   have e := r.length
   simp only [Array.length_toList] at e
   omega
theorem Inv.tuple (I : Inv X pins σ H s) (h : xJ X.K H a xs) : ∃ aV : List Value, Vals xs aV /\ IsTup s.heap a aV.toArray /\ xs.length <= sizeLine := by
 rcases h with h | ⟨o, aV, n, hk, hc, hs, hz, r⟩
 . obtain ⟨z, aV, r, p⟩ := h.ok I.bf
   exact ⟨aV, r, p, z⟩
 . refine ⟨aV.toList, r, ⟨o, I.iZ a o hk, hc, n, by simpa using hs⟩, ?_⟩
   have e := r.length
   simp only [Array.length_toList] at e
   omega
theorem Inv.za (I : Inv X pins σ H s) (h : fW X.K H a xs) (h' : fW X.K H a ys) : xs = ys := by
 obtain ⟨aV, r, ⟨o, n, e, _, _, d⟩, _⟩ := I.list h
 obtain ⟨its', r', ⟨o', n', e', _, _, d'⟩, _⟩ := I.list h'
 rw [e] at e'; cases e'
 rw [d] at d'
 injection d' with d1 _
 have : aV = its' := by simpa using congrArg Array.toList d1
 subst this
 exact r.inj r'
end
abbrev Cx.qP (X : Cx) (E : Value -> Shared -> Prop) : Cx := { X with xe := E }
abbrev Cx.Kb (X : Cx) : Cx := X.qP fun _ _ => False
theorem Cx.Ok.qP {X : Cx} (ok : X.Ok) (E : Value -> Shared -> Prop) : (X.qP E).Ok :=
 ⟨ok.mod, ok.kind, ok.glob, ok.blt, ok.above, ok.inj, ok.has, ok.Df, ok.hd, ok.frames, ok.El, ok.A9, ok.bs, ok.wF, ok.sG, ok.qS, ok.j5, ok.yW⟩
theorem Cx.Ok.jv {X : Cx} {E : Value -> Shared -> Prop} (ok : (X.qP E).Ok) : X.Ok :=
 ⟨ok.mod, ok.kind, ok.glob, ok.blt, ok.above, ok.inj, ok.has, ok.Df, ok.hd, ok.frames, ok.El, ok.A9, ok.bs, ok.wF, ok.sG, ok.qS, ok.j5, ok.yW⟩
section
variable {X : Cx} {pins : List (Addr × Obj)} {σ : St} {H : Hp} {s : Shared} {E : Value -> Shared -> Prop}
theorem Inv.qP (I : Inv X pins σ H s) (E : Value -> Shared -> Prop) : Inv (X.qP E) pins σ H s := ⟨I.ok.qP E, I.os, I.bare, I.base, I.loc, I.cell, I.free, I.dX, I.pin, I.bf, I.len⟩
theorem Inv.jv (I : Inv (X.qP E) pins σ H s) : Inv X pins σ H s := ⟨I.ok.jv, I.os, I.bare, I.base, I.loc, I.cell, I.free, I.dX, I.pin, I.bf, I.len⟩
theorem SP.jv {D : Ends} {f : Flow} {s' : Shared} (h : SP (X.qP E) pins D f s') : SP X pins D f s' := by
 cases f with
 | next => obtain ⟨σ', H', I, q⟩ := h; exact ⟨σ', H', I.jv, q⟩
 | brk => obtain ⟨σ', H', I, q⟩ := h; exact ⟨σ', H', I.jv, q⟩
 | cont => obtain ⟨σ', H', I, q⟩ := h; exact ⟨σ', H', I.jv, q⟩
 | ret u => obtain ⟨v, σ', H', I, r, q⟩ := h; exact ⟨v, σ', H', I.jv, r, q⟩
theorem qN.Kb {st : List Stmt} {t : TS} (h : qN X.Kb st t) : qN X st t := fun pins s σ H D I hw =>
 wpAny_mono (h pins s σ H D (I.qP _) hw) (fun _ _ q => q.jv) fun _ _ z => False.elim z
end
section
variable {X : Cx} {st : Stmt} {rest : List Stmt} {t u : TS} {e : Expr} {te : TE} {pos : Pos}
def Dz : TS := fun D σ H => D.nx σ H
theorem aF : qN X [] Dz := fun _ _ σ H _ I h => wpAny_execs_nil ⟨σ, H, I, h⟩
theorem aj (h1 : PS X st t) : qN X [st] t := by
 intro pins s σ H D I h
 refine wpAny_execs_cons (bP (h1 pins s σ H D I h) fun f s1 q => ?_)
 cases f with
 | next => exact wpAny_execs_nil q
 | ret v => exact q
 | brk => exact q
 | cont => exact q
theorem Inv.quiet {pins : List (Addr × Obj)} {σ : St} {H : Hp} {s : Shared} (I : Inv X pins σ H s) : interactive X.env = false := by simp [interactive, I.ok.kind]
def DX (te : TE) : TS := fun D σ H => te σ H fun _ H1 => D.nx σ H1
theorem bx (he : PE X e te) (hs : swapsWith e none pos.line X.env = pure false := by rfl) : PS X (.Expr e pos) (DX te) := by
 intro pins s σ H D I h
 exact wpAny_Expr_any (bP (he pins s σ H _ I h) fun v s1 ⟨x, H1, I1, r1, q1⟩ => ⟨σ, H1, I1, q1⟩) I.quiet hs
def JH (te : TE) : TS := fun D σ H => te σ H D.rt
theorem aB (he : PE X e te) : PS X (.Return (some e) pos) (JH te) := by
 intro pins s σ H D I h
 exact wpAny_Return_some (bP (he pins s σ H _ I h) fun v s1 ⟨x, H1, I1, r1, q1⟩ => ⟨x, σ, H1, I1, r1, q1⟩)
def Hq (c : TT) (t u : TS) : TS := fun D σ H => c σ H fun b H1 => if b = true then t D σ H1 else u D σ H1
theorem bE {c : Expr} {a b : List Stmt} {tc : TT} (hc : PT X c tc) (ha : qN X a t) (hb : qN X b u) : PS X (.If c a b pos) (Hq tc t u) := by
 intro pins s σ H D I h
 refine wpAny_If (bP (hc pins s σ H _ I h) fun d s1 ⟨H1, I1, q1⟩ => ?_)
 cases d with
 | true => exact ha pins s1 σ H1 D I1 q1
 | false => exact hb pins s1 σ H1 D I1 q1
def Gr : TS := fun _ _ _ => False
theorem uJ : PS X st Gr := fun _ _ _ _ _ _ h => h.elim
end
abbrev TG := V -> St -> Hp -> (St -> Hp -> Prop) -> Prop
abbrev En := List V -> St -> Hp -> (St -> Hp -> Prop) -> Prop
def PG (X : Cx) (target : Expr) (t : TG) : Prop :=
 ∀ (pins : List (Addr × Obj)) (s : Shared) (σ : St) (H : Hp) (v : V) (u : Value) (Q : St -> Hp -> Prop), Inv X pins σ H s -> RelV v u -> t v σ H Q ->
   wpAny (model X.prog X.w) X.A (assign target X.env u) (fun _ s' => ∃ σ' H', Inv X pins σ' H' s' /\ Q σ' H') X.xe s
def JR (X : Cx) (ts : List Expr) (t : En) : Prop :=
 ∀ (pins : List (Addr × Obj)) (s : Shared) (σ : St) (H : Hp) (vs : List V) (us : List Value) (Q : St -> Hp -> Prop), Inv X pins σ H s -> Vals vs us -> t vs σ H Q ->
   wpAny (model X.prog X.w) X.A (assignInOrder ((assignEach ts X.env).map (·.2)) us) (fun _ s' => ∃ σ' H', Inv X pins σ' H' s' /\ Q σ' H') X.xe s
abbrev CB := V -> V -> V -> Hp -> (Hp -> Prop) -> Prop
def Hn (X : Cx) (t : CB) : Prop :=
 ∀ (pins : List (Addr × Obj)) (s : Shared) (σ : St) (H : Hp) (o i v : V) (ov iv u : Value) (Q : Hp -> Prop), Inv X pins σ H s -> RelV o ov -> RelV i iv -> RelV v u -> t o i v H Q ->
   wpAny (model X.prog X.w) X.A (setItem ov iv u) (fun _ s' => ∃ H', Inv X pins σ H' s' /\ Q H') X.xe s
section
variable {X : Cx} {pos : Pos}
def i6 (i : Nat) : TG := fun v σ H Q => Q (σ.set i (some v)) H
theorem fO {i : Nat} {x : Str} (hN : X.N.Nodup) (hi : X.N[i]? = some x) (hx : Loc X.env.scope x) (hf : X.fn x = true \/ X.env.scope.names.lookup x = some .local := by first | exact .inl rfl | exact .inr rfl | assumption) : PG X (.Name x pos) (i6 i) := by
 intro pins s σ H v u Q I r h
 exact wpAny_assign_Name (p0 I hN hi hx r (fun s' I' => ⟨_, H, I', h⟩) hf)
def Bz : En := fun vs σ H Q => vs = [] /\ Q σ H
def qg (t : TG) (u : En) : En := fun vs σ H Q => ∃ v r, vs = v :: r /\ t v σ H fun σ' H' => u r σ' H' Q
theorem Cy : JR X [] Bz := by
 intro pins s σ H vs us Q I r h
 obtain ⟨e, h⟩ := h
 subst e
 cases r
 exact assignInOrder_nil ⟨σ, H, I, h⟩
theorem t7 {e : Expr} {es : List Expr} {t : TG} {u : En} (h1 : PG X e t) (h2 : JR X es u)
 (hs : (assignEach (e :: es) X.env).map (·.2) = assign e X.env :: (assignEach es X.env).map (·.2) := by rfl) : JR X (e :: es) (qg t u) := by
 intro pins s σ H vs us Q I r h
 obtain ⟨v, vr, e1, h⟩ := h
 subst e1
 cases r with
 | cons r rr =>
   rw [hs]
   refine assignInOrder_cons (bP (h1 pins s σ H _ _ _ I r h) fun _ s1 ⟨σ1, H1, I1, q1⟩ => ?_)
   exact h2 pins s1 σ1 H1 _ _ Q I1 rr q1
def Ca (K : PySem.W.Frag) (n : Nat) (t : En) : TG := fun v σ H Q => ∃ a xs, v = .ref a /\ xJ K H a xs /\ xs.length = n /\ t xs σ H Q
theorem Ew {es : List Expr} {k : Nat} {t : En} {n : Nat} (hc : X.calm = true) (h : JR X es t)
 (hn : (assignEach es X.env).length = n := by rfl) (tq : (assignEach es X.env).findIdx? (·.1) = none := by rfl) : PG X (.Tuple es k pos) (Ca X.K n t) := by
 intro pins s σ H v u Q I r hw
 obtain ⟨a, xs, e1, hq, hl, hw⟩ := hw
 subst e1
 cases r
 obtain ⟨aV, rv, ht, hz⟩ := I.tuple hq
 refine assign_Tuple_tuple (I.ok.hd hc) ht (by simp [hn, <- hl, rv.length]) tq fun h' hx => ?_
 have I1 : Inv X pins σ H { s with heap := h' } := I.kept (t' := s.toks) fun b o e => hx b o (Nat.ne_of_lt (Heap.lt_size e)) e
 exact h pins _ σ H xs _ Q I1 (by simpa using rv) hw
def IA (to ti : TE) (t : CB) : TG := fun v σ H Q => to σ H fun o H1 => ti σ H1 fun i H2 => t o i v H2 fun H3 => Q σ H3
theorem FC {o i : Expr} {to ti : TE} {t : CB} (ho : PE X o to) (hi : PE X i ti) (hs : Hn X t)
 (ha : ∀ v, assign (.Subscript o i pos) X.env v = (do
  let ov <- holding [v] (eval o X.env)
  let iv <- holding [v, ov] (eval i X.env)
  standAt pos
  holding [v, ov, iv] (setItem ov iv v)
  release [v, ov, iv] []) := by intro _; rfl) : PG X (.Subscript o i pos) (IA to ti t) := by
 intro pins s σ H v u Q I r h
 rw [ha]
 refine wpAny_bind (wpAny_holding (bP (ho pins s σ H _ I h) fun ov s1 ⟨x, H1, I1, r1, q1⟩ => ?_))
 refine wpAny_bind (wpAny_holding (bP (hi pins s1 σ H1 _ I1 q1) fun iv s2 ⟨y, H2, I2, r2, q2⟩ => ?_))
 refine wpAny_bind (wpAny_standAt (wpAny_bind (wpAny_holding (bP (hs pins s2 σ H2 x y v ov iv u _ I2 r1 r2 r q2) fun _ s3 ⟨H3, I3, q3⟩ => ?_))))
 exact wpAny_release ⟨σ, H3, I3, q3⟩
def yC (te : TE) (g : TG) : TS := fun D σ H => te σ H fun x H1 => g x σ H1 D.nx
theorem y6 {tg e : Expr} {te : TE} {g : TG} (he : PE X e te) (hg : PG X tg g) (hs : swapsWithSole [tg] e pos.line X.env = pure false := by rfl) (hw : swappedStores [tg] e X.env = pure none := by rfl)
 (h1 : (assignEach [tg] X.env).map (·.2) = [assign tg X.env] := by rfl) : PS X (.Assign [tg] e pos) (yC te g) := by
 intro pins s σ H D I h
 refine wpAny_Assign_stores (bP (he pins s σ H _ I h) fun v s1 ⟨x, H1, I1, r1, q1⟩ => ?_) hs hw
 rw [h1]
 exact bP (hg pins s1 σ H1 x v _ I1 r1 q1) fun _ s2 q => q
theorem cx {i : Nat} {x : Str} {e : Expr} {te : TE} {pos' : Pos} (hN : X.N.Nodup) (hi : X.N[i]? = some x) (hx : Loc X.env.scope x) (he : PE X e te) (hs : swapsWith e (some (.Name x pos')) pos.line X.env = pure false := by rfl) (hf : X.fn x = true \/ X.env.scope.names.lookup x = some .local := by first | exact .inl rfl | exact .inr rfl | assumption) :
 PS X (.Assign [.Name x pos'] e pos) (yC te (i6 i)) := by
 intro pins s σ H D I h
 refine wpAny_Assign_Name (bP (he pins s σ H _ I h) fun v s1 ⟨y, H1, I1, r1, q1⟩ => ?_) hs
 exact p0 I1 hN hi hx r1 (fun s2 I2 => ⟨_, H1, I2, q1⟩) hf
end
section
variable {X : Cx} {pos : Pos}
def AG (c : TT) (tb : TS) : TS := fun D σ H => ∃ W : Nat -> St -> Hp -> Prop, (∃ m, W m σ H) /\ ∀ m σ H, W m σ H ->
 c σ H fun b H1 => if b = true then ∃ N : St -> Hp -> Prop, (∀ σ' H', N σ' H' -> ∃ m', m' < m /\ W m' σ' H') /\ tb { D with nx := N, ct := N, bk := D.nx } σ H1 else D.nx σ H1
theorem Aa {c : Expr} {body : List Stmt} {tc : TT} {tb : TS} (hp : PassesOwn (model X.prog X.w) X.A X.env X.xe) (hc : PT X c tc) (hb : qN X body tb) : PS X (.While c body [] pos) (AG tc tb) := by
 intro pins s σ H D I h
 obtain ⟨W, ⟨m0, w0⟩, turn⟩ := h
 refine wpAny_While (codeAny_whileLoop (fun n s' => ∃ σ' H', Inv X pins σ' H' s' /\ W n σ' H') ?_ m0 ⟨σ, H, I, w0⟩)
 rintro n s1 ⟨σ1, H1, I1, w1⟩
 refine wpAny_passesOwn hp (bP (hc pins s1 σ1 H1 _ I1 (turn n σ1 H1 w1)) fun b s2 ⟨H2, I2, q2⟩ => ?_)
 cases b with
 | true =>
   obtain ⟨N, hN, q2⟩ := q2
   rw [if_pos rfl]
   refine wpAny_passesOwn hp (bP (hb pins s2 σ1 H2 _ I2 q2) fun f s3 q3 => ?_)
   cases f with
   | next =>
     obtain ⟨σ3, H3, I3, n3⟩ := q3
     obtain ⟨m', hm, w3⟩ := hN σ3 H3 n3
     exact ⟨m', hm, σ3, H3, I3, w3⟩
   | cont =>
     obtain ⟨σ3, H3, I3, n3⟩ := q3
     obtain ⟨m', hm, w3⟩ := hN σ3 H3 n3
     exact ⟨m', hm, σ3, H3, I3, w3⟩
   | brk => exact q3
   | ret v => exact q3
 | false =>
   rw [if_neg Bool.false_ne_true]
   exact wpAny_execs_nil ⟨σ1, H2, I2, q2⟩
end
structure It where
 go : Nat -> Hp -> Prop
 JZ : Nat -> Hp -> V -> Hp -> Prop
 stop : Nat -> Hp -> Prop
def j9 (X : Cx) (pins : List (Addr × Obj)) (H : Hp) (b : Addr) : Prop :=
 H b = none /\ b ≠ X.env.locals /\ b ∉ X.fs /\ (b ∈ X.ex \/ X.cJ.heap.objs.size <= b) /\ (∀ x c, X.env.cells.lookup x = some c -> c ≠ b) /\ ∀ p ∈ X.pn ++ pins, p.1 ≠ b
theorem Inv.Cg {X : Cx} {pins : List (Addr × Obj)} {σ : St} {H H' : Hp} {s : Shared} {b : Addr} (I : Inv X pins σ H s) (hb : s.heap.objs.size <= b) (hn : H' b = none) : j9 X pins H' b := by
 refine ⟨hn, Nat.ne_of_gt (Nat.lt_of_lt_of_le I.lt hb), I.KD hb, .inr (Nat.le_trans I.sz hb), fun x c e z => ?_, fun p hp z => ?_⟩
 . obtain ⟨v, q⟩ := I.cell x c e
   exact absurd (Nat.lt_of_lt_of_le q.lt (by rw [z]; exact hb)) (Nat.lt_irrefl _)
 . exact absurd (Nat.lt_of_lt_of_le (Heap.lt_size (I.pin p hp).1) (by rw [z]; exact hb)) (Nat.lt_irrefl _)
structure Turn (P : Program) (w : World) (K : PySem.W.Frag) (tg : Expr) (J : It) (fp : List Addr) (it : Addr) (tn : Nat -> Heap -> Prop) : Prop where
 mem : it ∈ fp
 obj : ∀ i h, tn i h -> ∀ b ∈ fp, ∃ o, h.get? b = some o /\ ∀ v, o.data ≠ .cell v
 keep : ∀ i h h', tn i h -> (∀ b ∈ fp, ∀ o, h.get? b = some o -> h'.get? b = some o) -> tn i h'
 item : ∀ (X : Cx), X.prog = P -> X.w = w -> X.K = K -> X.calm = true -> ∀ (i : Nat) (pins : List (Addr × Obj)) (s : Shared) (σ : St) (H : Hp) (E : Value -> Shared -> Prop), Inv X pins σ H s -> (∀ b ∈ fp, j9 X pins H b) -> tn i s.heap -> J.go i H ->
  wpAny (model P w) X.A (pyNext (.ref it)) (fun r s1 => ∃ u, r = some u /\
   wpAny (model P w) X.A (letOwnedTupleGo tg (.ref it) u) (fun _ s2 => ∃ x H', Inv X pins σ H' s2 /\ RelV x u /\ J.JZ i H x H' /\ tn (i + 1) s2.heap /\ ∀ b ∈ fp, H' b = none) E s1) E s
 done : ∀ (X : Cx), X.prog = P -> X.w = w -> X.K = K -> X.calm = true -> ∀ (i : Nat) (pins : List (Addr × Obj)) (s : Shared) (σ : St) (H : Hp) (E : Value -> Shared -> Prop), Inv X pins σ H s -> (∀ b ∈ fp, j9 X pins H b) -> tn i s.heap -> J.stop i H ->
  wpAny (model P w) X.A (pyNext (.ref it)) (fun r s1 => r = none /\ Inv X pins σ H s1) E s
 self : ∀ (A : Around) (i : Nat) (s : Shared) (Q : Value -> Shared -> Prop) (E : Value -> Shared -> Prop), tn i s.heap -> Q (.ref it) s -> wpAny (model P w) A (pyIter (.ref it)) Q E s
abbrev TI := St -> Hp -> (It -> Hp -> Prop) -> Prop
def Nk (X : Cx) (pins : List (Addr × Obj)) (σ : St) (tg : Expr) (R : It -> Hp -> Prop) (H9 : Value) (s2 : Shared) : Prop :=
 ∃ (it : Addr) (fp : List Addr) (tn : Nat -> Heap -> Prop) (J : It) (H' : Hp), H9 = .ref it /\ Inv X pins σ H' s2 /\ Turn X.prog X.w X.K tg J fp it tn /\ tn 0 s2.heap /\ (∀ b ∈ fp, j9 X pins H' b) /\ R J H'
def PI (X : Cx) (tg iter : Expr) (wi : TI) : Prop :=
 ∀ (pins : List (Addr × Obj)) (s : Shared) (σ : St) (H : Hp) (R : It -> Hp -> Prop), Inv X pins σ H s -> wi σ H R ->
   wpAny (model X.prog X.w) X.A (eval iter X.env) (fun v s1 => wpAny (model X.prog X.w) X.A (pyIter v) (Nk X pins σ tg R) X.xe s1) X.xe s
theorem D7 {M : Model} {A : Around} {E : Value -> Shared -> Prop} {s : Shared} {tg : Expr} {it : Addr} {u : Value} {o : Obj} {n : String} {vs : Array Value} {Q : Unit -> Shared -> Prop} (ho : s.heap.get? it = some o) (hc : o.cls = .type n) (hd : o.data = .fields vs)
 (hn : ["enumerate", "zip", "dict_itemiterator", "dict_reverseitemiterator", "odict_iterator", "itertools.zip_longest", "itertools.pairwise"].contains n = false) (hQ : Q () s) : wpAny M A (letOwnedTupleGo tg (.ref it) u) Q E s := by
 unfold letOwnedTupleGo
 cases tg <;> first
  | exact wpAny_pure hQ
  | (cases u <;> first
   | exact wpAny_pure hQ
   | (refine wpAny_bind (wpAny_load ho ?_)
      rw [hc, hd]
      show wpAny M A (if (["enumerate", "zip", "dict_itemiterator", "dict_reverseitemiterator", "odict_iterator", "itertools.zip_longest", "itertools.pairwise"].contains n && vs[0]? == some (rawInt _)) = true then _ else _) Q E s
      rw [if_neg (by intro h; rw [hn, Bool.false_and] at h; cases h)]
      exact wpAny_pure hQ))
def IX (K : PySem.W.Frag) (a : Addr) : It :=
 ⟨fun i H => ∃ xs x, fW K H a xs /\ xs[i]? = some x, fun i H x H' => H' = H /\ ∀ xs, fW K H a xs -> xs[i]? = some x, fun i H => ∃ xs, fW K H a xs /\ xs.length <= i⟩
theorem yI {P : Program} {w : World} {K : PySem.W.Frag} {tg : Expr} (a it : Addr) : Turn P w K tg (IX K a) [it] it (fun i h => h.IsListIter it a i) where
 mem := by simp
 obj := fun i h st b hb => by
  have e : b = it := by simpa using hb
  subst e
  obtain ⟨o, e, c, d⟩ := st
  exact ⟨o, e, fun v z => by rw [d] at z; cases z⟩
 keep := fun i h h' st k => st.at fun o e => k it (by simp) o e
 item := by
  intro X hP hw hK hc i pins s σ H E I hf st hg
  subst hP hw hK
  obtain ⟨xs, x, hq, hx⟩ := hg
  obtain ⟨aV, rv, p, hz⟩ := I.list hq
  obtain ⟨u, hu, ru⟩ := rv.get hx
  obtain ⟨f0, f1, f2, f3, f4, f5⟩ := hf it (by simp)
  refine wpAny_pyNext_list_item st p.isList (x := u) (by simpa using hu) fun h' Jo sb => ?_
  have I1 : Inv X pins σ H { s with heap := h' } := I.turned (t' := s.toks) (fun b o hb e => (sb.2 b hb).trans e) f0 f1 f3 f4 f5
  obtain ⟨o, e, c, d⟩ := id Jo
  exact ⟨u, rfl, D7 (s := { s with heap := h' }) e c d (by decide) ⟨x, H, I1, ru, ⟨rfl, fun ys hy => by rw [I.za hy hq]; exact hx⟩, Jo, fun b hb => (hf b hb).1⟩⟩
 done := by
  intro X hP hw hK hc i pins s σ H E I hf st hg
  subst hP hw hK
  obtain ⟨xs, hq, hx⟩ := hg
  obtain ⟨aV, rv, p, hz⟩ := I.list hq
  obtain ⟨f0, f1, f2, f3, f4, f5⟩ := hf it (by simp)
  have hl := rv.length
  exact wpAny_pyNext_list_end (I.ok.hd hc) st p.isList (by simp; omega) fun h' eb => ⟨rfl, I.turned (t' := s.toks) (fun b o hb e => eb b o hb e) f0 f1 f3 f4 f5⟩
 self := fun _ _ _ _ _ st h => wpAny_pyIter_listiter st h
section
variable {X : Cx} {tg : Expr}
def D0 (K : PySem.W.Frag) (tl : TE) : TI := fun σ H R => tl σ H fun x H1 => ∃ a, x = .ref a /\ (∃ xs, fW K H1 a xs) /\ R (IX K a) H1
theorem pG {l : Expr} {tl : TE} (hl : PE X l tl) : PI X tg l (D0 X.K tl) := by
 intro pins s σ H R I h
 refine bP (hl pins s σ H _ I h) fun v s1 ⟨x, H1, I1, r1, q1⟩ => ?_
 obtain ⟨a, e, ⟨xs, hq⟩, q⟩ := q1
 subst e
 cases r1
 obtain ⟨aV, rv, p, hz⟩ := I1.list hq
 refine wpAny_pyIter_list p.isList ?_
 refine ⟨s1.heap.objs.size, [s1.heap.objs.size], _, _, H1, rfl, I1.kept (t' := s1.toks) fun b o e => Heap.get?_push_of_some _ e, yI a _, ⟨_, Heap.get?_push_size _ rfl, rfl, rfl⟩, fun b hb => ?_, q⟩
 have e : b = s1.heap.objs.size := by simpa using hb
 subst e
 exact I1.Cg (Nat.le_refl _) (I1.bf.fresh (Nat.le_refl _))
def HW (wi : TI) (g : TG) (tb : TS) : TS := fun D σ H => wi σ H fun J H1 => ∃ W : Nat -> Nat -> St -> Hp -> Prop, (∃ m, W 0 m σ H1) /\ ∀ i m σ H, W i m σ H ->
 (J.stop i H /\ D.nx σ H) \/ (J.go i H /\ ∃ N : St -> Hp -> Prop, (∀ σ' H', N σ' H' -> ∃ m', m' < m /\ W (i + 1) m' σ' H') /\ ∀ x H', J.JZ i H x H' -> g x σ H' fun σ2 H2 => tb { D with nx := N, ct := N, bk := D.nx } σ2 H2)
def lI (fp : List Addr) (h : Heap) : List (Addr × Obj) := fp.filterMap fun b => (h.get? b).map fun o => (b, o)
theorem dF {fp : List Addr} {h : Heap} {b : Addr} {o : Obj} (hb : b ∈ fp) (e : h.get? b = some o) : (b, o) ∈ lI fp h := List.mem_filterMap.mpr ⟨b, hb, by rw [e]; rfl⟩
theorem xZ {fp : List Addr} {h : Heap} {p : Addr × Obj} (hp : p ∈ lI fp h) : p.1 ∈ fp /\ h.get? p.1 = some p.2 := by
 obtain ⟨b, hb, e⟩ := List.mem_filterMap.mp hp
 cases q : h.get? b with
 | none => rw [q] at e; cases e
 | some o =>
   rw [q] at e
   have e' : (b, o) = p := Option.some.inj e
   subst e'
   exact ⟨hb, q⟩
theorem Inv.pinned {pins : List (Addr × Obj)} {σ : St} {H : Hp} {s : Shared} {fp : List Addr} (I : Inv X pins σ H s) (hf : ∀ b ∈ fp, j9 X pins H b) (ho : ∀ b ∈ fp, ∃ o, s.heap.get? b = some o /\ ∀ v, o.data ≠ .cell v) : Inv X (pins ++ lI fp s.heap) σ H s :=
 I.gb fun p hp => (List.mem_append.mp hp).elim (fun z => I.pin p (List.mem_append_right _ z)) fun z => by
  obtain ⟨hb, e⟩ := xZ z
  obtain ⟨f0, f1, f2, _⟩ := hf p.1 hb
  obtain ⟨o, e', d⟩ := ho p.1 hb
  rw [e] at e'; cases e'
  exact ⟨e, f0, f1, f2, d⟩
theorem Inv.pP {pins pl : List (Addr × Obj)} {σ : St} {H : Hp} {s : Shared} (I : Inv X (pins ++ pl) σ H s) : Inv X pins σ H s := I.gb fun p hp => I.pin p (List.mem_append_right _ (List.mem_append_left _ hp))
theorem FQ {iter : Expr} {body : List Stmt} {wi : TI} {g : TG} {tb : TS} {pos : Pos} (hp : PassesOwn (model X.prog X.w) X.A X.env X.xe) (hc : X.calm = true) (hi : PI X tg iter wi) (hg : PG X tg g) (hb : qN X body tb)
 (hs : ∀ x, foldedSetIterable iter X.env x = pure x := by intro _; rfl) : PS X (.For tg iter body [] pos) (HW wi g tb) := by
 intro pins s σ H D I h
 refine wpAny_For (bP (hi pins s σ H _ I h) fun v s1 h1 => bP h1 fun H9 s2 h2 => ?_) hs
 obtain ⟨it, fp, tn, J, H2, e, I2, T, Nn, f2, W, ⟨m0, w0⟩, turn⟩ := h2
 subst e
 have stat : ∀ {H' : Hp}, (∀ b ∈ fp, H' b = none) -> ∀ b ∈ fp, j9 X pins H' b := fun hn b hb => ⟨hn b hb, (f2 b hb).2⟩
 refine codeAny_forLoop_any (fun n s' => ∃ i σ' H', Inv X pins σ' H' s' /\ tn i s'.heap /\ (∀ b ∈ fp, H' b = none) /\ W i n σ' H') ?_ m0 ⟨0, σ, H2, I2, Nn, fun b hb => (f2 b hb).1, w0⟩
 rintro n s3 ⟨i, σ3, H3, I3, DE, D3, w3⟩
 rcases turn i n σ3 H3 w3 with ⟨stop, qn⟩ | ⟨go, N, hN, step⟩
 . refine wpAny_passesOwn hp (bP (T.done X rfl rfl rfl hc i pins s3 σ3 H3 X.xe I3 (stat D3) DE stop) fun r s4 ⟨hr, I4⟩ => ?_)
   subst hr
   exact wpAny_execs_nil ⟨σ3, H3, I4, qn⟩
 . refine wpAny_passesOwn hp (bP (T.item X rfl rfl rfl hc i pins s3 σ3 H3 X.xe I3 (stat D3) DE go) fun r s4 ⟨u, hr, h4⟩ => ?_)
   subst hr
   refine wpAny_passesOwn hp (bP h4 fun _ s5 ⟨x, H5, I5, r5, y5, yM, IU⟩ => ?_)
   have Jb := I5.pinned (stat IU) (T.obj _ _ yM)
   refine wpAny_passesOwn hp (bP (hg _ s5 σ3 H5 x u _ Jb r5 (step x H5 y5)) fun _ s6 ⟨σ6, H6, I6, q6⟩ => ?_)
   refine wpAny_passesOwn hp (bP (hb _ s6 σ6 H6 _ I6 q6) fun f s7 q7 => ?_)
   have again : ∀ {σ7 : St} {H7 : Hp}, Inv X (pins ++ lI fp s5.heap) σ7 H7 s7 -> N σ7 H7 -> ∃ m, m < n /\ ∃ i σ' H', Inv X pins σ' H' s7 /\ tn i s7.heap /\ (∀ b ∈ fp, H' b = none) /\ W i m σ' H' := fun {σ7 H7} I7 n7 => by
    obtain ⟨m', hm, w7⟩ := hN σ7 H7 n7
    refine ⟨m', hm, i + 1, σ7, H7, I7.pP, T.keep _ _ _ yM fun b hb o e => (I7.pin (b, o) (List.mem_append_right _ (List.mem_append_right _ (dF hb e)))).1, fun b hb => ?_, w7⟩
    obtain ⟨o, e, d⟩ := T.obj _ _ yM b hb
    exact (I7.pin (b, o) (List.mem_append_right _ (List.mem_append_right _ (dF hb e)))).2.1
   cases f with
   | next => obtain ⟨σ7, H7, I7, n7⟩ := q7; exact again I7 n7
   | cont => obtain ⟨σ7, H7, I7, n7⟩ := q7; exact again I7 n7
   | brk => obtain ⟨σ7, H7, I7, q7⟩ := q7; exact ⟨σ7, H7, I7.pP, q7⟩
   | ret v => obtain ⟨x7, σ7, H7, I7, r7, q7⟩ := q7; exact ⟨x7, σ7, H7, I7.pP, r7, q7⟩
end
abbrev R2 := V -> V -> Hp -> VK -> Prop
def jW (X : Cx) (f : Value -> Value -> Sem Value) (r : R2) : Prop :=
 ∀ (pins : List (Addr × Obj)) (s : Shared) (σ : St) (H : Hp) (x y : V) (v u : Value) (Q : VK), Inv X pins σ H s -> RelV x v -> RelV y u -> r x y H Q ->
   wpAny (model X.prog X.w) X.A (f v u) (EP X pins σ Q) X.xe s
def KU (X : Cx) (f : Value -> Sem Value) (r : V -> Hp -> VK -> Prop) : Prop :=
 ∀ (pins : List (Addr × Obj)) (s : Shared) (σ : St) (H : Hp) (x : V) (v : Value) (Q : VK), Inv X pins σ H s -> RelV x v -> r x H Q ->
   wpAny (model X.prog X.w) X.A (f v) (EP X pins σ Q) X.xe s
def fX (X : Cx) (f : Value) (r : List V -> Hp -> VK -> Prop) : Prop :=
 ∀ (pins : List (Addr × Obj)) (s : Shared) (σ : St) (H : Hp) (xs : List V) (us : List Value) (Q : VK), Inv X pins σ H s -> Vals xs us -> r xs H Q ->
   wpAny (model X.prog X.w) X.A (call f us) (EP X pins σ Q) X.xe s
def KO (X : Cx) (r : V -> Hp -> (Bool -> Hp -> Prop) -> Prop) : Prop :=
 ∀ (pins : List (Addr × Obj)) (s : Shared) (σ : St) (H : Hp) (x : V) (v : Value) (Q : Bool -> Hp -> Prop), Inv X pins σ H s -> RelV x v -> r x H Q ->
   wpAny (model X.prog X.w) X.A (truthy v) (TP X pins σ Q) X.xe s
def HJ (r : R2) (ta tb : TE) : TE := fun σ H Q => ta σ H fun x H1 => tb σ H1 fun y H2 => r x y H2 Q
def M9 (r : V -> Hp -> VK -> Prop) (ta : TE) : TE := fun σ H Q => ta σ H fun x H1 => r x H1 Q
def rI (C : Int -> Int -> Prop) (g : Int -> Int -> V) : R2 := fun x y H Q => ∃ i j, x = .int i /\ y = .int j /\ C i j /\ Q (g i j) H
def Bx (g : Int -> Int -> V) : R2 := fun x y H Q => ∃ i j, x = .int i /\ y = .int j /\ Q (g i j) H
def rU (g : Int -> V) : V -> Hp -> VK -> Prop := fun x H Q => ∃ i, x = .int i /\ Q (g i) H
section
variable {X : Cx} {a b c : Expr} {ta tb tc : TE} {pos : Pos}
theorem FP (ha : PE X a ta) (hb : PE X b tb) {pins : List (Addr × Obj)} {s : Shared} {σ : St} {H : Hp} {R : V -> V -> Hp -> Prop} (I : Inv X pins σ H s)
 (h : ta σ H fun x H1 => tb σ H1 fun y H2 => R x y H2) {Q : Value -> Shared -> Prop} {f : Value -> Value -> Sem Value}
 (hf : ∀ v u s2 x y H2, Inv X pins σ H2 s2 -> RelV x v -> RelV y u -> R x y H2 -> wpAny (model X.prog X.w) X.A (f v u) Q X.xe s2) :
 wpAny (model X.prog X.w) X.A (eval a X.env) (fun v s₁ => wpAny (model X.prog X.w) X.A (eval b X.env) (fun u s₂ => wpAny (model X.prog X.w) X.A (f v u) Q X.xe s₂) X.xe s₁) X.xe s := by
 refine bP (ha pins s σ H _ I h) fun v s1 ⟨x, H1, I1, r1, q1⟩ => ?_
 refine bP (hb pins s1 σ H1 _ I1 q1) fun u s2 ⟨y, H2, I2, r2, q2⟩ => ?_
 exact hf v u s2 x y H2 I2 r1 r2 q2
theorem aM {op : Operator} {r : R2} (ho : jW X (binaryOp op) r) (ha : PE X a ta) (hb : PE X b tb) : PE X (.BinOp a op b pos) (HJ r ta tb) := by
 intro pins s σ H Q I h
 exact wpAny_BinOp (FP ha hb I h fun v u s2 x y H2 I2 rx ry q => ho pins s2 σ H2 x y v u Q I2 rx ry q)
theorem qC {op : UnaryOp} {r : V -> Hp -> VK -> Prop} (ho : KU X (unaryOp op) r) (ha : PE X a ta) : PE X (.UnaryOp op a pos) (M9 r ta) := by
 intro pins s σ H Q I h
 exact UnaryOp_ (bP (ha pins s σ H _ I h) fun v s1 ⟨x, H1, I1, r1, q1⟩ => ho pins s1 σ H1 x v Q I1 r1 q1)
theorem Ma {f : Value -> Value -> Sem Value} {C : Int -> Int -> Prop} {g : Int -> Int -> Int}
 (rule : ∀ (i j : Int) (t u : Tok) (s : Shared) (Q : Value -> Shared -> Prop) (E : Value -> Shared -> Prop), C i j -> Q (.int (g i j) s.toks) { s with toks := s.toks + 1 } -> wpAny (model X.prog X.w) X.A (f (.int i t) (.int j u)) Q E s) :
 jW X f (rI C fun i j => .int (g i j)) := by
 intro pins s σ H x y v u Q I rx ry h
 obtain ⟨i, j, rfl, rfl, hc, q⟩ := h
 obtain ⟨t, rfl⟩ := rx
 obtain ⟨t', rfl⟩ := ry
 exact rule i j t t' s _ _ hc ⟨.int (g i j), H, I.tok _, ⟨_, rfl⟩, q⟩
theorem Jf {f : Value -> Value -> Sem Value} {g : Int -> Int -> Int}
 (rule : ∀ (i j : Int) (t u : Tok) (s : Shared) (Q : Value -> Shared -> Prop) (E : Value -> Shared -> Prop), Q (.int (g i j) s.toks) { s with toks := s.toks + 1 } -> wpAny (model X.prog X.w) X.A (f (.int i t) (.int j u)) Q E s) :
 jW X f (Bx fun i j => .int (g i j)) := by
 intro pins s σ H x y v u Q I rx ry h
 obtain ⟨i, j, rfl, rfl, q⟩ := h
 obtain ⟨t, rfl⟩ := rx
 obtain ⟨t', rfl⟩ := ry
 exact rule i j t t' s _ _ ⟨.int (g i j), H, I.tok _, ⟨_, rfl⟩, q⟩
theorem Bq {f : Value -> Value -> Sem Value} {g : Int -> Int -> Bool}
 (rule : ∀ (i j : Int) (t u : Tok) (s : Shared) (Q : Value -> Shared -> Prop) (E : Value -> Shared -> Prop), Q (.bool (g i j)) s -> wpAny (model X.prog X.w) X.A (f (.int i t) (.int j u)) Q E s) :
 jW X f (Bx fun i j => .bl (g i j)) := by
 intro pins s σ H x y v u Q I rx ry h
 obtain ⟨i, j, rfl, rfl, q⟩ := h
 obtain ⟨t, rfl⟩ := rx
 obtain ⟨t', rfl⟩ := ry
 exact rule i j t t' s _ _ ⟨.bl (g i j), H, I, rfl, q⟩
def Gb (i j : Int) : Prop := 0 <= j /\ j <= 1000000 /\ i.natAbs < 2 ^ 64
theorem lM : jW X (binaryOp .Add) (Bx fun i j => .int (i + j)) := Jf fun _ _ _ _ _ _ _ q => add_int q
theorem Ar : jW X (binaryOp .Sub) (Bx fun i j => .int (i - j)) := Jf fun _ _ _ _ _ _ _ q => sub_int q
theorem Ep : jW X (binaryOp .Mod) (rI (fun _ j => 0 < j) fun i j => .int (i % j)) := Ma fun i j _ _ _ _ _ hc q => by
 have h1 : (0 : Int) < j := hc
 exact mod_int' (by omega) (by rw [Int.fmod_eq_emod_of_nonneg i (by omega)]; exact q)
theorem AZ : jW X (binaryOp .Pow) (rI Gb fun i j => .int (i ^ j.toNat)) := Ma fun _ _ _ _ _ _ _ hc q => pow_int_small hc.1 hc.2.1 hc.2.2 q
theorem Oc {f : Value -> Sem Value} {g : Int -> Int}
 (rule : ∀ (i : Int) (t : Tok) (s : Shared) (Q : Value -> Shared -> Prop) (E : Value -> Shared -> Prop), Q (.int (g i) s.toks) { s with toks := s.toks + 1 } -> wpAny (model X.prog X.w) X.A (f (.int i t)) Q E s) :
 KU X f (rU fun i => .int (g i)) := by
 intro pins s σ H x v Q I rx h
 obtain ⟨i, rfl, q⟩ := h
 obtain ⟨t, rfl⟩ := rx
 exact rule i t s _ _ ⟨.int (g i), H, I.tok _, ⟨_, rfl⟩, q⟩
theorem lL : KU X (unaryOp .USub) (rU fun i => .int (-i)) := Oc fun _ _ _ _ _ q => neg_int q
end
def B1 : V -> V -> Bool
 | .cn, .cn => true | .cn, .int _ => true | .int _, .cn => true | .cn, .bl _ => true | .bl _, .cn => true | .cn, .str _ => true | .str _, .cn => true
 | .int _, .int _ => true | .bl _, .bl _ => true | .str _, .str _ => true | .xf _, .xf _ => true
 | .int _, .str _ => true | .str _, .int _ => true | .bl _, .str _ => true | .str _, .bl _ => true
 | _, _ => false
def OT : R2 := fun x y H Q => B1 x y = true /\ Q (.bl (decide (x = y))) H
def Ox : R2 := fun x y H Q => B1 x y = true /\ Q (.bl (!decide (x = y))) H
theorem xr {i j : Int} : decide (V.int i = V.int j) = (i == j) := by
 rw [Bool.eq_iff_iff]
 simp
theorem y8 {i j : Bool} : decide (V.bl i = V.bl j) = (i == j) := by
 rw [Bool.eq_iff_iff]
 simp
theorem wt {i j : Str} : decide (V.str i = V.str j) = (i == j) := by
 rw [Bool.eq_iff_iff]
 simp
theorem wV {i j : Array UInt8} : decide (V.xf i = V.xf j) = (i.toList == j.toList) := by
 rw [Bool.eq_iff_iff]
 cases i
 cases j
 simp
section
variable {X : Cx} {a b c : Expr} {ta tb tc : TE} {pos : Pos}
theorem aN {pins : List (Addr × Obj)} {σ : St} {H : Hp} {s : Shared} {Q : VK} {k k' : Bool} (I : Inv X pins σ H s) (q : Q (.bl k) H) (e : k = k') : EP X pins σ Q (.bool k') s := by
 subst e
 exact ⟨.bl k, H, I, rfl, q⟩
theorem II : jW X (compareOp .Eq) OT := by
 intro pins s σ H x y v u Q I rx ry h
 obtain ⟨hs, q⟩ := h
 cases x with
 | cn =>
   cases rx
   cases y with
   | cn => cases ry; exact PySem.EqNone.eq_none_none (aN I q (by simp))
   | bl j => cases ry; exact PySem.EqNone.eq_none_bool (aN I q (by simp))
   | int j => obtain ⟨t', rfl⟩ := ry; exact PySem.EqNone.eq_none_int (aN I q (by simp))
   | str j => obtain ⟨t', rfl⟩ := ry; exact PySem.EqNone.eq_none_str (aN I q (by simp))
   | _ => exact absurd (show false = true from hs) Bool.false_ne_true
 | bl i =>
   cases rx
   cases y with
   | cn => cases ry; exact PySem.EqNone.eq_bool_none (aN I q (by simp))
   | bl j => cases ry; exact eq_bool (aN I q y8)
   | str j => obtain ⟨t', rfl⟩ := ry; exact PySem.EqMixed.eq_bool_str (aN I q (by simp))
   | _ => exact absurd (show false = true from hs) Bool.false_ne_true
 | int i =>
   obtain ⟨t, rfl⟩ := rx
   cases y with
   | cn => cases ry; exact PySem.EqNone.eq_int_none (aN I q (by simp))
   | int j => obtain ⟨t', rfl⟩ := ry; exact eq_int (aN I q xr)
   | str j => obtain ⟨t', rfl⟩ := ry; exact PySem.EqMixed.eq_int_str (aN I q (by simp))
   | _ => exact absurd (show false = true from hs) Bool.false_ne_true
 | str i =>
   obtain ⟨t, rfl⟩ := rx
   cases y with
   | cn => cases ry; exact PySem.EqNone.eq_str_none (aN I q (by simp))
   | bl j => cases ry; exact PySem.EqMixed.eq_str_bool (aN I q (by simp))
   | int j => obtain ⟨t', rfl⟩ := ry; exact PySem.EqMixed.eq_str_int (aN I q (by simp))
   | str j => obtain ⟨t', rfl⟩ := ry; exact eq_str (aN I q wt)
   | _ => exact absurd (show false = true from hs) Bool.false_ne_true
 | xf i =>
   obtain ⟨t, rfl⟩ := rx
   cases y with
   | xf j => obtain ⟨t', rfl⟩ := ry; exact PySem.W.eq_bytes (aN I q wV)
   | _ => exact absurd (show false = true from hs) Bool.false_ne_true
 | _ => cases y <;> exact absurd (show false = true from hs) Bool.false_ne_true
theorem Iv : jW X (compareOp .NotEq) Ox := by
 intro pins s σ H x y v u Q I rx ry h
 obtain ⟨hs, q⟩ := h
 cases x with
 | cn =>
   cases rx
   cases y with
   | cn => cases ry; exact PySem.EqNone.ne_none_none (aN I q (by simp))
   | bl j => cases ry; exact PySem.EqNone.ne_none_bool (aN I q (by simp))
   | int j => obtain ⟨t', rfl⟩ := ry; exact PySem.EqNone.ne_none_int (aN I q (by simp))
   | str j => obtain ⟨t', rfl⟩ := ry; exact PySem.EqNone.ne_none_str (aN I q (by simp))
   | _ => exact absurd (show false = true from hs) Bool.false_ne_true
 | bl i =>
   cases rx
   cases y with
   | cn => cases ry; exact PySem.EqNone.ne_bool_none (aN I q (by simp))
   | bl j => cases ry; exact ne_bool (aN I q (congrArg not y8))
   | str j => obtain ⟨t', rfl⟩ := ry; exact PySem.EqMixed.ne_bool_str (aN I q (by simp))
   | _ => exact absurd (show false = true from hs) Bool.false_ne_true
 | int i =>
   obtain ⟨t, rfl⟩ := rx
   cases y with
   | cn => cases ry; exact PySem.EqNone.ne_int_none (aN I q (by simp))
   | int j => obtain ⟨t', rfl⟩ := ry; exact ne_int (aN I q (congrArg not xr))
   | str j => obtain ⟨t', rfl⟩ := ry; exact PySem.EqMixed.ne_int_str (aN I q (by simp))
   | _ => exact absurd (show false = true from hs) Bool.false_ne_true
 | str i =>
   obtain ⟨t, rfl⟩ := rx
   cases y with
   | cn => cases ry; exact PySem.EqNone.ne_str_none (aN I q (by simp))
   | bl j => cases ry; exact PySem.EqMixed.ne_str_bool (aN I q (by simp))
   | int j => obtain ⟨t', rfl⟩ := ry; exact PySem.EqMixed.ne_str_int (aN I q (by simp))
   | str j => obtain ⟨t', rfl⟩ := ry; exact ne_str (aN I q (congrArg not wt))
   | _ => exact absurd (show false = true from hs) Bool.false_ne_true
 | xf i =>
   obtain ⟨t, rfl⟩ := rx
   cases y with
   | xf j => obtain ⟨t', rfl⟩ := ry; exact PySem.W.ne_bytes (aN I q (congrArg not wV))
   | _ => exact absurd (show false = true from hs) Bool.false_ne_true
 | _ => cases y <;> exact absurd (show false = true from hs) Bool.false_ne_true
theorem qd : jW X (compareOp .Lt) (Bx fun i j => .bl (decide (i < j))) := Bq fun _ _ _ _ _ _ _ q => lt_int q
theorem rJ : jW X (compareOp .LtE) (Bx fun i j => .bl (decide (i <= j))) := Bq fun _ _ _ _ _ _ _ q => le_int q
theorem wN : jW X (compareOp .Gt) (Bx fun i j => .bl (decide (j < i))) := Bq fun _ _ _ _ _ _ _ q => gt_int q
theorem DA : jW X (compareOp .GtE) (Bx fun i j => .bl (decide (j <= i))) := Bq fun _ _ _ _ _ _ _ q => ge_int q
theorem xG : jW X (compareOp .In) (fun x y H Q => ∃ i j, x = .str i /\ y = .str j /\ Q (.bl (!(Builtin.Str.occurrences j i 0 j.length 1).isEmpty)) H) := by
 intro pins s σ H x y v u Q I rx ry h
 obtain ⟨i, j, rfl, rfl, q⟩ := h
 obtain ⟨t, rfl⟩ := rx
 obtain ⟨t', rfl⟩ := ry
 exact in_str (aN I q rfl)
theorem AW : jW X (compareOp .Is) (fun x y H Q => y = .cn /\ Q (.bl (decide (x = .cn))) H) := by
 intro pins s σ H x y v u Q I rx ry h
 obtain ⟨rfl, q⟩ := h
 cases ry
 refine is_none_gen (aN I q ?_)
 cases x <;> first
  | (cases rx; rfl)
  | (obtain ⟨t, rfl⟩ := rx; rfl)
theorem Cz : jW X (compareOp .IsNot) (fun x y H Q => y = .cn /\ Q (.bl (!decide (x = .cn))) H) := by
 intro pins s σ H x y v u Q I rx ry h
 obtain ⟨rfl, q⟩ := h
 cases ry
 refine isnot_none_gen (aN I q ?_)
 cases x <;> first
  | (cases rx; rfl)
  | (obtain ⟨t, rfl⟩ := rx; rfl)
theorem sO : jW X (compareOp .NotIn) (fun x y H Q => ∃ i j, x = .str i /\ y = .str j /\ Q (.bl (!(!(Builtin.Str.occurrences j i 0 j.length 1).isEmpty))) H) := by
 intro pins s σ H x y v u Q I rx ry h
 obtain ⟨i, j, rfl, rfl, q⟩ := h
 obtain ⟨t, rfl⟩ := rx
 obtain ⟨t', rfl⟩ := ry
 exact notIn_str (aN I q rfl)
theorem ax (b : Expr) {op : CmpOp} (h : op ≠ .In := by decide) (h2 : op ≠ .NotIn := by decide) : behindInMarks op b = false := by
 have e1 : (op == CmpOp.In) = false := by cases op <;> first | rfl | exact absurd rfl h
 have e2 : (op == CmpOp.NotIn) = false := by cases op <;> first | rfl | exact absurd rfl h2
 cases b <;> simp [behindInMarks, e1, e2]
theorem dy {op : CmpOp} {r : R2} (ho : jW X (compareOp op) r) (ha : PE X a ta) (hb : PE X b tb) (hm : behindInMarks op b = false) : PE X (.Compare a [op] [b] pos) (HJ r ta tb) := by
 intro pins s σ H Q I h
 exact wpAny_Compare1 (FP ha hb I h fun v u s2 x y H2 I2 rx ry q => ho pins s2 σ H2 x y v u Q I2 rx ry q) hm
def zK (t : TE) : TT := fun σ H Q => t σ H fun x H' => ∃ k, x = .bl k /\ Q k H'
theorem aA {op : CmpOp} {r : R2} (ho : jW X (compareOp op) r) (ha : PE X a ta) (hb : PE X b tb) (hm : behindInMarks op b = false) : PT X (.Compare a [op] [b] pos) (zK (HJ r ta tb)) := by
 intro pins s σ H Q I h
 refine wpAny_isTrue_Compare1 (bP (ha pins s σ H _ I h) fun v s1 ⟨x, H1, I1, r1, q1⟩ => bP (hb pins s1 σ H1 _ I1 q1) fun u s2 ⟨y, H2, I2, r2, q2⟩ =>
  bP (ho pins s2 σ H2 x y v u _ I2 r1 r2 q2) fun c s3 ⟨z, H3, I3, r3, k, e, q3⟩ => ?_) hm
 subst e
 cases r3
 exact wpAny_truthy_bool ⟨H3, I3, q3⟩
def vi (r r' : R2) (ta tb tc : TE) : TE := fun σ H Q => ta σ H fun x H1 => tb σ H1 fun y H2 => r x y H2 fun z H3 => ∃ k, z = .bl k /\
 (if k = true then tc σ H3 fun w' H4 => r' y w' H4 Q else Q (.bl false) H3)
theorem um {op EK : CmpOp} {r r' : R2} (ho : jW X (compareOp op) r) (oZ : jW X (compareOp EK) r') (ha : PE X a ta) (hb : PE X b tb) (hc : PE X c tc)
 (hm : lastMarks [op, EK] [b, c] = false := by with_unfolding_all rfl) : PE X (.Compare a [op, EK] [b, c] pos) (vi r r' ta tb tc) := by
 intro pins s σ H Q I h
 refine Compare_chain (bP (ha pins s σ H _ I h) fun v s1 ⟨x, H1, I1, r1, q1⟩ => chain_link (bP (hb pins s1 σ H1 _ I1 q1) fun u s2 ⟨y, H2, I2, r2, q2⟩ =>
  bP (ho pins s2 σ H2 x y v u _ I2 r1 r2 q2) fun d s3 ⟨z, H3, I3, r3, k, e, q3⟩ => ?_)) hm
 subst e
 cases r3
 refine wpAny_truthy_bool ?_
 cases k with
 | false => exact ite_ff ⟨.bl false, H3, I3, rfl, q3⟩
 | true => exact ite_tt (chain_last (bP (hc pins s3 σ H3 _ I3 q3) fun w' s4 ⟨z', H4, I4, r4, q4⟩ => oZ pins s4 σ H4 y z' u w' Q I4 r2 r4 q4))
theorem zc {op EK : CmpOp} {r r' : R2} (ho : jW X (compareOp op) r) (oZ : jW X (compareOp EK) r') (ha : PE X a ta) (hb : PE X b tb) (hc : PE X c tc)
 (hm : lastMarks [op, EK] [b, c] = false := by with_unfolding_all rfl) : PT X (.Compare a [op, EK] [b, c] pos) (zK (vi r r' ta tb tc)) := by
 intro pins s σ H Q I h
 refine isTrue_chain (bP (ha pins s σ H _ I h) fun v s1 ⟨x, H1, I1, r1, q1⟩ => test_link (bP (hb pins s1 σ H1 _ I1 q1) fun u s2 ⟨y, H2, I2, r2, q2⟩ =>
  bP (ho pins s2 σ H2 x y v u _ I2 r1 r2 q2) fun d s3 ⟨z, H3, I3, r3, k, e, q3⟩ => ?_)) hm
 subst e
 cases r3
 refine wpAny_truthy_bool ?_
 cases k with
 | false =>
   obtain ⟨k', e', q'⟩ := q3
   cases e'
   exact ite_ff ⟨H3, I3, q'⟩
 | true =>
   refine ite_tt (test_last (bP (hc pins s3 σ H3 _ I3 q3) fun w' s4 ⟨z', H4, I4, r4, q4⟩ => bP (oZ pins s4 σ H4 y z' u w' _ I4 r2 r4 q4) fun d' s5 ⟨z2, H5, I5, r5, k2, e2, q5⟩ => ?_))
   subst e2
   cases r5
   exact wpAny_truthy_bool ⟨H5, I5, q5⟩
def yr (K : PySem.W.Frag) (x : V) (H : Hp) (k : Bool) : Prop :=
 match x with
 | .cn => k = false
 | .bl b => k = b
 | .int i => k = (i != 0)
 | .str y => y.length <= sizeLine /\ k = ((y.length : Int) != 0)
 | .xf y => y.size <= sizeLine /\ k = ((y.size : Int) != 0)
 | .ref p => (∃ xs, fW K H p xs /\ k = !xs.isEmpty) \/ (∃ xs, xJ K H p xs /\ k = !xs.isEmpty) \/ ∃ d8, H p = some (.dK d8) /\ k = !d8.isEmpty
 | _ => False
theorem vd {κ : Type} {d8 : List (κ × V)} {vs : List (κ × Value)} (r : KV d8 vs) : (!vs.isEmpty) = !d8.isEmpty := by
 cases r <;> rfl
theorem qc {xs : List V} {aV : List Value} (r : Vals xs aV) : (!aV.toArray.isEmpty) = !xs.isEmpty := by
 cases r <;> simp
theorem lN : (sizeLine : Nat) < 2 ^ 63 := by rw [sizeLine_eq]; decide
theorem Es : KO X (fun x H Q => ∃ k, yr X.K x H k /\ Q k H) := by
 intro pins s σ H x v Q I rx h
 obtain ⟨k, e, q⟩ := h
 have hl := lN
 have hs : sizeLine = 16777216 := sizeLine_eq
 cases x with
 | cn =>
   cases rx
   have e' : k = false := e
   subst e'
   exact truthy_none ⟨H, I, q⟩
 | bl b =>
   cases rx
   have e' : k = b := e
   subst e'
   exact wpAny_truthy_bool ⟨H, I, q⟩
 | int i =>
   obtain ⟨t, rfl⟩ := rx
   have e' : k = (i != 0) := e
   subst e'
   exact PySem.P.truthy_int ⟨H, I, q⟩
 | str y =>
   obtain ⟨t, rfl⟩ := rx
   obtain ⟨hy, e'⟩ : y.length <= sizeLine /\ k = ((y.length : Int) != 0) := e
   subst e'
   exact PySem.P.truthy_str (by omega) ⟨H, I.tok _, q⟩
 | xf y =>
   obtain ⟨t, rfl⟩ := rx
   obtain ⟨hy, e'⟩ : y.size <= sizeLine /\ k = ((y.size : Int) != 0) := e
   subst e'
   exact PySem.W.truthy_bytes (by omega) ⟨H, I.tok _, q⟩
 | ref p =>
   cases rx
   have e' : (∃ xs, fW X.K H p xs /\ k = !xs.isEmpty) \/ (∃ xs, xJ X.K H p xs /\ k = !xs.isEmpty) \/ ∃ d8, H p = some (.dK d8) /\ k = !d8.isEmpty := e
   rcases e' with ⟨xs, hx, e'⟩ | ⟨xs, hx, e'⟩ | ⟨d8, hx, e'⟩
   . subst e'
     obtain ⟨aV, r, pl, hz⟩ := I.list hx
     have hlen := r.length
     exact wpAny_truthy_list pl.isList (by simp only [List.size_toArray]; omega) ⟨H, I.tok _, by rw [qc r]; exact q⟩
   . subst e'
     obtain ⟨aV, r, pl, hz⟩ := I.tuple hx
     have hlen := r.length
     exact truthy_tuple pl (by simp only [List.size_toArray]; omega) ⟨H, I.tok _, by rw [qc r]; exact q⟩
   . subst e'
     obtain ⟨hz, hS, vs, r, m⟩ : d8.length <= sizeLine /\ (p == sysModules) = false /\ ∃ vs, KV d8 vs /\ s.heap.DictOf (eB X.prog X.w) p vs := I.bf p _ hx
     have hlen : d8.length = vs.length := Paired.length r
     exact wpAny_truthy_dict hS m (by omega) ⟨H, I.tok _, by rw [vd r]; exact q⟩
 | _ => exact (show False from e).elim
theorem eF (ha : PE X a ta) (he : ∀ whole, isTrue a X.env whole = (do let v <- whole; standAt a.pos; holding [v] (truthy v))) :
 PT X a (fun σ H Q => ta σ H fun x H' => ∃ k, yr X.K x H' k /\ Q k H') := by
 intro pins s σ H Q I h
 exact isTrue_plain (bP (ha pins s σ H _ I h) fun v s1 ⟨x, H1, I1, r1, q1⟩ => Es pins s1 σ H1 x v Q I1 r1 q1) (he _)
theorem vals1 {x : V} {us : List Value} (r : Vals [x] us) : ∃ u, us = [u] /\ RelV x u := by
 cases r with
 | cons r1 r2 => cases r2; exact ⟨_, rfl, r1⟩
theorem vals2 {x y : V} {us : List Value} (r : Vals [x, y] us) : ∃ u w', us = [u, w'] /\ RelV x u /\ RelV y w' := by
 cases r with
 | cons r1 r2 =>
   cases r2 with
   | cons r3 r4 => cases r4; exact ⟨_, _, rfl, r1, r3⟩
theorem rV : fX X (.type "str") (fun xs H Q => ∃ i, xs = [.int i] /\ i.natAbs.log2 < 1920 /\ Q (.str (toString i)) H) := by
 intro pins s σ H xs us Q I r h
 obtain ⟨i, rfl, hz, q⟩ := h
 obtain ⟨u, rfl, t, rfl⟩ := vals1 r
 exact PySem.P.str_of_int hz ⟨.str _, H, I.tok _, ⟨_, rfl⟩, q⟩
end
structure wc (h : Heap) (x dx C : Addr) (mA : Str -> Option Value) : Prop where
 obj : h.get? x = some (PySem.W.instObj C dx)
 ns : h.Ns1 dx mA
 ne : dx ≠ x
theorem yx {h : Heap} {dx : Addr} {mA : Str -> Option Value} (n : h.Ns1 dx mA) : ∃ od, h.get? dx = some od /\ ∀ name, PySem.W.lookIn name od = some (mA name) := by
 obtain ⟨o, es, ep, ho, hd, hk, _, hm⟩ := n
 refine ⟨o, ho, fun name => ?_⟩
 have e := hm name
 unfold nsFind findBy at e
 rw [<- Array.find?_toList] at e
 unfold PySem.W.lookIn
 rw [hd]
 dsimp only
 split
 . rename_i y q
   rw [q] at e
   exact congrArg some e
 . rename_i q
   rw [q] at e
   have a : es.toList.any (·.refKey) = false := by
    rw [List.any_eq_false]
    intro y hy
    obtain ⟨z, t, K7⟩ := hk y (Array.mem_toList_iff.mp hy)
    simp [DictEntry.refKey, K7]
   have a' : ¬ es.toList.any (·.refKey) = true := by rw [a]; exact Bool.false_ne_true
   rw [if_neg a']
   exact congrArg some e
theorem wc.look {h : Heap} {x dx C : Addr} {mA : Str -> Option Value} (I : wc h x dx C mA) : ∃ od, PySem.W.InstAt h x (PySem.W.instObj C dx) C (some od) /\ ∀ name, PySem.W.lookIn name od = some (mA name) :=
 let ⟨od, ho, hl⟩ := yx I.ns
 ⟨od, ⟨I.obj, rfl, rfl, ho⟩, hl⟩
section
variable {prog : Program} {w : World} {A : Around} {E : Value -> Shared -> Prop} {s : Shared} {K : PySem.W.Frag} {x dx C f : Addr} {mA : Str -> Option Value} {name : Str} {v : Value}
theorem get_map {expr : Bool} {Q : Value -> Shared -> Prop} (X : K.In s.heap) (I : wc s.heap x dx C mA) (hg : PySem.W.plainGet K C name = true) (hh : PySem.W.hasDictIn K C = true)
 (ha : PySem.W.findIn K (.ref C) name = some none) (hv : mA name = some v) (Nf : PySem.W.handedIn v = true) (h : Q v { s with toks := s.toks + 1 }) :
 wpAny (model prog w) A (getAttr (.ref x) name expr) Q E s := by
 obtain ⟨od, J, hl⟩ := I.look
 exact PySem.W.get_value X J (PySem.W.plainGet_of hg).1 (PySem.W.findObj_own hh ha rfl (by rw [hl, hv])) Nf h
theorem zV {pl : Sem Bool} {Q : Value × List Value -> Shared -> Prop} (X : K.In s.heap) (I : wc s.heap x dx C mA) (hg : PySem.W.plainGet K C name = true)
 (hf : PySem.W.findIn K (.ref C) name = some (some (.ref f))) (ht : PySem.W.isFn K (.ref f) = true) (hv : mA name = none) (h : Q (.ref f, [.ref x]) s) :
 wpAny (model prog w) A (getMethod (.ref x) name pl) Q E s := by
 obtain ⟨od, J, hl⟩ := I.look
 exact PySem.W.method_fn X J (PySem.W.plainGet_of hg).1 (PySem.W.plainGet_of hg).2 hf (beq_iff_eq.mp ht) (by show (PySem.W.lookIn name od).map (·.isSome) = some false; rw [hl, hv]; rfl) h
theorem B8 {ns : List Str} {Q : Unit -> Shared -> Prop} (X : K.In s.heap) (I : wc s.heap x dx C mA)
 (hs : PySem.W.findIn K (.ref C) "__setattr__" = some (some (.builtin "object.__setattr__"))) (hp : PySem.W.plainOver K C = true) (ht : PySem.W.takerIn K C name = some none) (hh : PySem.W.hasDictIn K C = true)
 (hw : PySem.Within mA ns) (hsz : ns.length <= sizeLine)
 (h : ∀ h', wc h' x dx C (fun y => if y = name then some v else mA y) -> Heap.SameBut dx s.heap h' -> Q () { s with heap := h', toks := s.toks + 2 }) :
 wpAny (model prog w) A (setAttr (.ref x) name v) Q E s := by
 obtain ⟨od, J, hl⟩ := I.look
 refine PySem.W.set_plain X J hs (PySem.W.osa_open (s := { s with toks := s.toks + 1 }) (r := none) X J hp ht fun b => ?_)
 obtain ⟨cd, hc, uO⟩ := PySem.W.any_some hh
 have hx : s.heap.get? x = some ⟨.ref C, some dx, .plain, #[]⟩ := I.obj
 refine wpAny_bind (wpAny_pure (wpAny_bind (wpAny_bind (wpAny_loadPart hx (wpAny_bind (PySem.W.Looks.here (s := { s with toks := s.toks + 1 }) (PySem.W.looks_clsIn X hc) ?_))))))
 rw [uO]
 refine wpAny_pure (a := some dx) (wpAny_bind (wpAny_pure (wpAny_bind ?_)))
 refine wpAny_nsSet1 (s := { s with toks := s.toks + 1 }) I.ns fun h' G1 J9 => ?_
 obtain ⟨oD, Pa, Pp, Nz, Ow, C5⟩ := G1.count (PySem.Within.cons name v hw)
 refine wpAny_bind (wpAny_lookBehind Nz (by rw [Ow]; exact pastItsLine_dict (Nat.le_trans C5 (by rw [List.length_cons]; omega))) ?_)
 exact wpAny_pure (h _ ⟨(J9.2 _ (Ne.symm I.ne)).trans I.obj, G1, I.ne⟩ J9)
theorem zG {R : Result -> Shared -> Prop} {vs : List Value} {kw : List (Str × Value)} (X : K.In s.heap) (hm : PySem.W.makesIn K C = true)
 (hi : PySem.W.findIn K (.ref C) "__init__" = some (some (.ref f))) (hf : PySem.W.typeIn K (.ref f) = some (.type "function"))
 (h : codeAny (model prog w) (A.under (.builtin "type.__call__" ⟨.ref C :: vs, kw⟩)) (.call (.ref f) ⟨.ref (s.heap.objs.size + 1) :: vs, kw⟩) (PySem.W.InitBack (s.heap.objs.size + 1) R)
  { s with heap := (s.heap.push PySem.W.emptyDict).push (PySem.W.instObj C s.heap.objs.size) }) :
 codeAny (model prog w) A (.call (.ref C) ⟨vs, kw⟩) R s := by
 obtain ⟨hh, g, d, t, os⟩ := s
 exact PySem.W.make_core (PySem.W.makes_of X hm) (PySem.W.looks_findIn X hi) (fun self => PySem.W.bind_fn X self hf) (.inl rfl) h
end
def hZ (f : Str) (v : V) : List (Str × V) -> List (Str × V)
 | [] => [(f, v)]
 | (g, x) :: r => if g = f then (g, v) :: r else (g, x) :: hZ f v r
theorem oO (f g : Str) (v : V) : ∀ fs : List (Str × V), (hZ f v fs).lookup g = if g = f then some v else fs.lookup g
 | [] => by
   show List.lookup g [(f, v)] = _
   by_cases h : g = f
   . have hb : (g == f) = true := beq_iff_eq.mpr h
     simp only [List.lookup, hb, if_pos h]
   . have hb : (g == f) = false := beq_eq_false_iff_ne.mpr h
     simp only [List.lookup, hb, if_neg h]
 | (k, x) :: r => by
   have ih := oO f g v r
   rw [show hZ f v ((k, x) :: r) = (if k = f then (k, v) :: r else (k, x) :: hZ f v r) from rfl]
   by_cases hk : k = f
   . rw [if_pos hk]
     by_cases h : g = k
     . have hb : (g == k) = true := beq_iff_eq.mpr h
       simp only [List.lookup, hb, if_pos (h.trans hk)]
     . have hb : (g == k) = false := beq_eq_false_iff_ne.mpr h
       simp only [List.lookup, hb, if_neg (fun e : g = f => h (e.trans hk.symm))]
   . rw [if_neg hk]
     by_cases h : g = k
     . have hb : (g == k) = true := beq_iff_eq.mpr h
       simp only [List.lookup, hb, if_neg (fun e : g = f => hk (h.symm.trans e))]
     . have hb : (g == k) = false := beq_eq_false_iff_ne.mpr h
       simp only [List.lookup, hb]
       exact ih
theorem oC (f : Str) (v : V) : ∀ fs : List (Str × V), f ∈ (hZ f v fs).map (·.1) /\ ∀ g, g ∈ fs.map (·.1) -> g ∈ (hZ f v fs).map (·.1)
 | [] => ⟨by simp [hZ], fun g h => by simp at h⟩
 | (k, x) :: r => by
   obtain ⟨i1, i2⟩ := oC f v r
   rw [show hZ f v ((k, x) :: r) = (if k = f then (k, v) :: r else (k, x) :: hZ f v r) from rfl]
   by_cases hk : k = f
   . rw [if_pos hk]
     subst hk
     exact ⟨by simp, fun g h => by simpa using h⟩
   . rw [if_neg hk]
     refine ⟨?_, fun g h => ?_⟩
     . rw [List.map_cons]
       exact List.mem_cons_of_mem _ i1
     . rw [List.map_cons] at h ⊢
       rcases List.mem_cons.mp h with e | e
       . exact List.mem_cons.mpr (.inl e)
       . exact List.mem_cons_of_mem _ (i2 g e)
theorem oW (f : Str) (v : V) : ∀ fs : List (Str × V), (hZ f v fs).length <= fs.length + 1
 | [] => by simp [hZ]
 | (k, x) :: r => by
   have ih := oW f v r
   rw [show hZ f v ((k, x) :: r) = (if k = f then (k, v) :: r else (k, x) :: hZ f v r) from rfl]
   by_cases hk : k = f
   . rw [if_pos hk, List.length_cons, List.length_cons]; omega
   . rw [if_neg hk, List.length_cons, List.length_cons]; omega
theorem my.some_of {v : V} {o : Option Value} (r : my (some v) o) : ∃ u, o = some u /\ RelV v u := by
 cases o with
 | none => exact (show False from r).elim
 | some u => exact ⟨u, rfl, r⟩
theorem my.none_of {o : Option Value} (r : my none o) : o = none := by
 cases o with
 | none => rfl
 | some u => exact (show False from r).elim
theorem yp {v : V} {u : Value} (r : RelV v u) : PySem.W.handedIn u = true := by
 cases v with
 | cn => cases (show u = Value.none from r); rfl
 | bl b => cases (show u = Value.bool b from r); rfl
 | int i => obtain ⟨t, e⟩ := (show ∃ t, u = Value.int i t from r); cases e; rfl
 | str x => obtain ⟨t, e⟩ := (show ∃ t, u = Value.str x t from r); cases e; rfl
 | xf b => obtain ⟨t, e⟩ := (show ∃ t, u = Value.bytes b t from r); cases e; rfl
 | F5 b => obtain ⟨t, e⟩ := (show ∃ t, u = Value.float b t from r); cases e; rfl
 | ref a => cases (show u = Value.ref a from r); rfl
 | ty n => cases (show u = Value.type n from r); rfl
section
variable {P : Program} {w : World} {H H' : Hp} {h h' : Heap} {a C dx : Addr} {fs JY : List (Str × V)}
theorem pB (bf : lS P w H h) (e : H a = some (.ins C dx fs)) : ∃ mA, wc h a dx C mA /\ (∀ f, my (fs.lookup f) (mA f)) /\ PySem.Within mA (fs.map (·.1)) /\ fs.length <= 1000 /\ H dx = some (.own a) := by
 obtain ⟨d, z, ne, ob, mA, n, r, q⟩ := (show c7 P w H h a (.ins C dx fs) from bf a _ e)
 exact ⟨mA, ⟨ob, n, ne⟩, r, q, z, d⟩
end
structure pk (K : PySem.W.Frag) (C : Addr) : Prop where
 pg : PySem.W.plainGet K C Str.empty = true
 hd : PySem.W.hasDictIn K C = true
 po : PySem.W.plainOver K C = true
 sa : PySem.W.findIn K (.ref C) "__setattr__" = some (some (.builtin "object.__setattr__"))
theorem pk.get {K : PySem.W.Frag} {C : Addr} (c : pk K C) (f : Str) : PySem.W.plainGet K C f = true := c.pg
def aJ (K : PySem.W.Frag) (C : Addr) (f : Str) : Prop := PySem.W.findIn K (.ref C) f = some none
theorem aJ.HP {K : PySem.W.Frag} {C : Addr} {f : Str} (n : aJ K C f) : PySem.W.takerIn K C f = some none := by
 unfold PySem.W.takerIn
 rw [show PySem.W.findIn K (.ref C) f = some none from n]
 rfl
structure O4 (K : PySem.W.Frag) (C : Addr) (f : Str) (v : V) (u : Value) : Prop where
 at_ : PySem.W.findIn K (.ref C) f = some (some u)
 rel : RelV v u
 get : PySem.W.specialIn K u "__get__" = some none
 cp : PySem.W.copiedNames.contains f = false
structure Meth (K : PySem.W.Frag) (C : Addr) (m : Str) (f : Addr) : Prop where
 at_ : PySem.W.findIn K (.ref C) m = some (some (.ref f))
 fn : PySem.W.isFn K (.ref f) = true
 kp : PySem.W.keepIn K (.ref f) = true
section
variable {X : Cx} {pins : List (Addr × Obj)} {σ : St} {H : Hp} {s : Shared} {a C dx : Addr} {fs : List (Str × V)} {f : Str} {v : V} {A : Around} {E : Value -> Shared -> Prop}
theorem vp {b : Bool} {Q : Value -> Shared -> Prop} (I : Inv X pins σ H s) (e : H a = some (.ins C dx fs)) (c : pk X.K C) (n : aJ X.K C f) (l : fs.lookup f = some v)
 (h : ∀ u s', Inv X pins σ H s' -> RelV v u -> Q u s') : wpAny (model X.prog X.w) A (getAttr (.ref a) f b) Q E s := by
 obtain ⟨mA, O, r, _, _, _⟩ := pB I.bf e
 obtain ⟨u, hu, ru⟩ := my.some_of (v := v) (o := mA f) (by rw [<- l]; exact r f)
 exact get_map I.iZ O (c.get f) c.hd n hu (yp ru) (h u _ (I.tok _) ru)
theorem vv {m : Str} {g : Addr} {pl : Sem Bool} {Q : Value × List Value -> Shared -> Prop} (I : Inv X pins σ H s) (e : H a = some (.ins C dx fs)) (c : pk X.K C) (k : Meth X.K C m g) (l : fs.lookup m = none)
 (h : Q (.ref g, [.ref a]) s) : wpAny (model X.prog X.w) A (getMethod (.ref a) m pl) Q E s := by
 obtain ⟨mA, O, r, _, _, _⟩ := pB I.bf e
 have hn : mA m = none := my.none_of (by rw [<- l]; exact r m)
 exact zV I.iZ O (c.get m) k.at_ k.fn hn h
theorem wm {y : V} {u : Value} {Q : Unit -> Shared -> Prop} (I : Inv X pins σ H s) (e : H a = some (.ins C dx fs)) (c : pk X.K C) (n : aJ X.K C f) (hl : fs.length < 1000) (ry : RelV y u)
 (h : ∀ s', Inv X pins σ (upd H a (.ins C dx (hZ f y fs))) s' -> Q () s') : wpAny (model X.prog X.w) A (setAttr (.ref a) f u) Q E s := by
 obtain ⟨mA, O, r, wi, _, ho⟩ := pB I.bf e
 have hz : (fs.map (·.1)).length <= sizeLine := by rw [List.length_map, sizeLine_eq]; omega
 refine B8 I.iZ O c.sa c.po n.HP c.hd wi hz fun h' O' sb => h _ ?_
 have hd : ∃ o, h'.get? dx = some o := let ⟨o, _, _, e', _⟩ := O'.ns; ⟨o, e'⟩
 refine I.write (x := a) (e := dx) (by rw [e]; exact True.intro) (.inr ho) (fun b q hb z => (sb.2 b hb).trans z) hd ?_
 refine ⟨by rw [aK O.ne]; exact ho, ?_, O.ne, O'.obj, _, O'.ns, fun g => ?_, fun g hg => ?_⟩
 . have := oW f y fs; omega
 . show my ((hZ f y fs).lookup g) (if g = f then some u else mA g)
   rw [oO]
   by_cases q : g = f
   . rw [if_pos q, if_pos q]; exact ry
   . rw [if_neg q, if_neg q]; exact r g
 . by_cases q : g = f
   . rw [q]; exact (oC f y fs).1
   . refine (oC f y fs).2 g (wi g fun z => hg ?_)
     show (if g = f then some u else mA g) = none
     rw [if_neg q]; exact z
theorem Inv.made (I : Inv X pins σ H s) : Inv X pins σ (upd (upd H s.heap.objs.size (.own (s.heap.objs.size + 1))) (s.heap.objs.size + 1) (.ins C s.heap.objs.size []))
 { s with heap := (s.heap.push PySem.W.emptyDict).push (PySem.W.instObj C s.heap.objs.size) } := by
 have e1 : (s.heap.push PySem.W.emptyDict).get? s.heap.objs.size = some PySem.W.emptyDict := Heap.get?_push_size s.heap rfl
 have e2 : ((s.heap.push PySem.W.emptyDict).push (PySem.W.instObj C s.heap.objs.size)).get? (s.heap.objs.size + 1) = some (PySem.W.instObj C s.heap.objs.size) := by
  have := Heap.get?_push_size (s.heap.push PySem.W.emptyDict) (o := PySem.W.instObj C s.heap.objs.size) rfl
  rwa [Heap.size_push] at this
 have e3 : (s.heap.push PySem.W.emptyDict).Ns s.heap.objs.size (fun _ => none) := ⟨PySem.W.emptyDict, #[], _, e1, rfl, (fun e he => absurd he (by simp)), fun _ => rfl⟩
 have I1 := I.laid (a := s.heap.objs.size) (o := .own (s.heap.objs.size + 1)) (h' := s.heap.push PySem.W.emptyDict) (t' := s.toks) (fun b u q => Heap.get?_push_of_some _ q) (Nat.le_refl _) ⟨_, e1⟩
 refine I1.laid (a := s.heap.objs.size + 1) (o := .ins C s.heap.objs.size []) (t' := s.toks) (fun b u q => Heap.get?_push_of_some _ q) (Nat.le_of_eq (Heap.size_push _ _)) ?_
 have ne : s.heap.objs.size ≠ s.heap.objs.size + 1 := Nat.ne_of_lt (Nat.lt_succ_self _)
 refine ⟨by rw [aK ne, aO], Nat.zero_le _, ne, e2, fun _ => none, (Heap.Ns1.of_empty e3).at fun o q => Heap.get?_push_of_some _ q, fun _ => True.intro, fun y hy => absurd rfl hy⟩
theorem Dq {prog : Program} {w : World} {env : Env} {e : Expr} {f : Str} {pos : Pos} {s : Shared} {Q : Value -> Shared -> Prop} (hb : attributeBase e f env (eval e env) = eval e env)
 (h : wpAny (model prog w) A (eval e env) (fun o s₁ => wpAny (model prog w) A (getAttr o f true) Q E s₁) E s) : wpAny (model prog w) A (eval (.Attribute e f pos) env) Q E s :=
 Attribute_any_ h (by rw [arm_eval_Attribute, hb])
end
def Ig (K : PySem.W.Frag) (ta : TE) (f : Str) : TE := fun σ H Q => ta σ H fun x H1 => ∃ a C dx fs v, x = .ref a /\ H1 a = some (.ins C dx fs) /\ pk K C /\ aJ K C f /\ fs.lookup f = some v /\ Q v H1
def Jk (K : PySem.W.Frag) (ta tv : TE) (f : Str) : TS := fun D σ H => tv σ H fun y H1 => ta σ H1 fun x H2 => ∃ a C dx fs, x = .ref a /\ H2 a = some (.ins C dx fs) /\ pk K C /\ aJ K C f /\ fs.length < 1000 /\
 D.nx σ (upd H2 a (.ins C dx (hZ f y fs)))
section
variable {X : Cx} {o e value : Expr} {f : Str} {pos pos' LN : Pos} {ta tv : TE}
theorem dH (he : PE X e ta) (hb : attributeBase e f X.env (eval e X.env) = eval e X.env) : PE X (.Attribute e f pos) (Ig X.K ta f) := by
 intro pins s σ H Q I h
 refine Dq hb (bP (he pins s σ H _ I h) fun u s1 ⟨x, H1, I1, rx, a, C, dx, fs, v, ex, ea, c, n, l, q⟩ => ?_)
 subst ex
 obtain rfl : u = Value.ref a := rx
 exact vp I1 ea c n l fun u' s2 I2 ru => ⟨v, H1, I2, ru, q⟩
theorem gH (ha : PE X o ta) (hv : PE X value tv) (hs : swapsWith value (some (.Attribute o f pos')) pos.line X.env = pure false) : PS X (.Assign [.Attribute o f pos'] value pos) (Jk X.K ta tv f) := by
 intro pins s σ H D I h
 refine plainObj_wpAny_Assign_Attribute (bP (hv pins s σ H _ I h) fun u s1 ⟨y, H1, I1, ry, q⟩ => bP (ha pins s1 σ H1 _ I1 q) fun ov s2 ⟨x, H2, I2, rx, a, C, dx, fs, ex, ea, c, n, l, q2⟩ => ?_) hs
 subst ex
 obtain rfl : ov = Value.ref a := rx
 exact wm I2 ea c n l ry fun s3 I3 => ⟨σ, _, I3, q2⟩
end
section
variable {X : Cx} {pins : List (Addr × Obj)} {σ : St} {H : Hp} {s : Shared} {A : Around} {E : Value -> Shared -> Prop} {Q : Value -> Shared -> Prop} {c : Value} {b : Bool}
inductive mI (K : PySem.W.Frag) (H : Hp) : V -> Value -> Prop where
 | cn : mI K H .cn (.type "NoneType")
 | bl (x : Bool) : mI K H (.bl x) (.type "bool")
 | int (i : Int) : mI K H (.int i) (.type "int")
 | str (x : Str) : mI K H (.str x) (.type "str")
 | F5 (x : UInt64) : mI K H (.F5 x) (.type "float")
 | lst {a : Addr} {xs : List V} (e : H a = some (.lst xs)) : mI K H (.ref a) (.type "list")
 | uN {a : Addr} {o : Obj} {xs : List V} (e : H a = some (.uN o (.lst xs))) : mI K H (.ref a) (.type "list")
 | tup {a : Addr} {xs : List V} (e : H a = some (.tup xs)) : mI K H (.ref a) (.type "tuple")
 | dK {a : Addr} {d8 : List (Key × V)} (e : H a = some (.dK d8)) : mI K H (.ref a) (.type "dict")
 | dT {a : Addr} {d8 : List (List Key × V)} (e : H a = some (.dT d8)) : mI K H (.ref a) (.type "dict")
 | ins {a C dx : Addr} {fs : List (Str × V)} (e : H a = some (.ins C dx fs)) (cl : pk K C) (ha : PySem.W.findIn K (.ref C) "__class__" = some (some (.builtin "object.__class__")))
  (hn : PySem.W.specialIn K (.builtin "object.__class__") "__get__" = some (some (.builtin "getset_descriptor.__get__"))) (D9 : PySem.W.takesIn K (.builtin "object.__class__") = some true)
  (hm : PySem.W.mroIn K C (.type "object") = some true) : mI K H (.ref a) (.ref C)
theorem yF {x : V} {u t : Value} (I : Inv X pins σ H s) (rx : RelV x u) (ty : mI X.K H x t) (e : PySem.W.kitOne X.K t c = some b) (h : ∀ tk, Q (.bool b) { s with toks := tk }) :
 wpAny (model X.prog X.w) A (call (.builtin "isinstance") [u, c]) Q E s := by
 cases ty with
 | cn => cases (show u = Value.none from rx); exact PySem.W.kia_one PySem.W.kitx_none I.iZ True.intro e (fun z => nomatch z) h
 | bl y => cases (show u = Value.bool y from rx); exact PySem.W.kia_one PySem.W.kitx_bool I.iZ True.intro e (fun z => nomatch z) h
 | int i => obtain ⟨t, q⟩ := (show ∃ t, u = Value.int i t from rx); cases q; exact PySem.W.kia_one PySem.W.kitx_int I.iZ True.intro e (fun z => nomatch z) h
 | str y => obtain ⟨t, q⟩ := (show ∃ t, u = Value.str y t from rx); cases q; exact PySem.W.kia_one PySem.W.kitx_str I.iZ True.intro e (fun z => nomatch z) h
 | F5 y => obtain ⟨t, q⟩ := (show ∃ t, u = Value.float y t from rx); cases q; exact PySem.W.kia_one PySem.W.kitx_float I.iZ True.intro e (fun z => nomatch z) h
 | @lst a xs ea =>
   cases (show u = Value.ref a from rx)
   obtain ⟨_, _, n, _, h1⟩ := (show c7 X.prog X.w H s.heap a (.lst xs) from I.bf a _ ea)
   exact PySem.W.kia_one PySem.W.kitx_list I.iZ ⟨_, h1, rfl⟩ e (fun z => nomatch z) h
 | @uN a ob xs ea =>
   cases (show u = Value.ref a from rx)
   obtain ⟨_, _, _, n, _, h1⟩ := (show c7 X.prog X.w H s.heap a (.uN ob (.lst xs)) from I.bf a _ ea)
   exact PySem.W.kia_one PySem.W.kitx_list I.iZ ⟨_, h1, rfl⟩ e (fun z => nomatch z) h
 | @tup a xs ea =>
   cases (show u = Value.ref a from rx)
   obtain ⟨_, _, _, p⟩ := (show c7 X.prog X.w H s.heap a (.tup xs) from I.bf a _ ea)
   obtain ⟨o, h1, h2, _⟩ := p
   exact PySem.W.kia_one PySem.W.kitx_tuple I.iZ ⟨o, h1, h2⟩ e (fun z => nomatch z) h
 | @dK a d8 ea =>
   cases (show u = Value.ref a from rx)
   obtain ⟨_, _, vs, _, p⟩ := (show c7 X.prog X.w H s.heap a (.dK d8) from I.bf a _ ea)
   obtain ⟨o, es, ep, h1, h2, _⟩ := p
   exact PySem.W.kia_one PySem.W.kitx_dict I.iZ ⟨o, h1, h2.1⟩ e (fun z => nomatch z) h
 | @dT a d8 ea =>
   cases (show u = Value.ref a from rx)
   obtain ⟨_, _, xs, _, o, es, ep, h1, h2, _⟩ := (show c7 X.prog X.w H s.heap a (.dT d8) from I.bf a _ ea)
   exact PySem.W.kia_one PySem.W.kitx_dict I.iZ ⟨o, h1, h2.1⟩ e (fun z => nomatch z) h
 | @ins a C dx fs ea cl ha hn D9 hm =>
   cases (show u = Value.ref a from rx)
   obtain ⟨mA, O, _⟩ := pB I.bf ea
   obtain ⟨od, J, _⟩ := O.look
   exact PySem.W.kia_one (PySem.W.kitx_own (cl.get _) cl.hd ha hn D9 hm) I.iZ J e (fun z => nomatch z) h
end
structure c6 (k : Nat) (A : Around) : Prop where
 hd : A.handled = none
 dp : A.depth + 3 * k + 5 < recursionLimit
 un : A.units + 16 * k + 200 < cLine
theorem c6.mono {j k : Nat} {A : Around} (r : c6 k A) (h : j <= k) : c6 j A := ⟨r.hd, by have := r.dp; omega, by have := r.un; omega⟩
theorem c6.deeper {k : Nat} {A : Around} (r : c6 (k + 1) A) (env : Env) : c6 k (A.deeper env) :=
 ⟨r.hd, by have := r.dp; show A.depth + 1 + 3 * k + 5 < _; omega, by have := r.un; show A.units + 3 + 16 * k + 200 < _; omega⟩
theorem vy {A : Around} {C : Addr} {us : List Value} {kw : List (Str × Value)} : (A.under (.builtin "type.__call__" ⟨.ref C :: us, kw⟩)).depth = A.depth + 1 := by
 first | rfl | simp [Around.under, Code.weight, Code.isCreation, Code.isGuard, Code.isCaller, Code.frames, Code.isFrame, guardIds]
theorem vX {A : Around} {C : Addr} {us : List Value} {kw : List (Str × Value)} : (A.under (.builtin "type.__call__" ⟨.ref C :: us, kw⟩)).units = A.units + 1 := by
 first | rfl | simp [Around.under, Code.cUnits, Code.frames, Code.isFrame]
theorem c6.make {k : Nat} {A : Around} (r : c6 (k + 1) A) (C : Addr) (us : List Value) (kw : List (Str × Value)) : c6 k (A.under (.builtin "type.__call__" ⟨.ref C :: us, kw⟩)) :=
 ⟨r.hd, by have := r.dp; rw [vy]; omega, by have := r.un; rw [vX]; omega⟩
theorem c6.depth {k : Nat} {A : Around} (r : c6 k A) : A.depth < recursionLimit := by have := r.dp; omega
theorem c6.units {k : Nat} {A : Around} (r : c6 k A) : A.units + 64 < cLine := by have := r.un; omega
def AB : TA := fun _ H Q => Q [] H
def Dx (ta : TE) (tr : TA) : TA := fun σ H Q => ta σ H fun x H1 => tr σ H1 fun xs H2 => Q (x :: xs) H2
section
variable {X : Cx} {e : Expr} {es : List Expr} {te : TE} {t : TA} {pos : Pos}
theorem ag : PA X [] AB := fun _ _ _ _ H Q I h => Calls.spliced_nil ⟨[], H, I, .nil, h⟩
theorem af (ha : PE X e te) (hr : PA X es t) (hs : starEach (e :: es) X.env = (false, eval e X.env) :: starEach es X.env := by rfl) : PA X (e :: es) (Dx te t) := by
 intro pos pins s σ H Q I h
 rw [hs]
 show wpAny _ _ (spliced ((false, eval e X.env) :: backTo pos (starEach es X.env))) _ _ s
 refine Calls.spliced_cons (bP (ha pins s σ H _ I h) fun u s1 ⟨x, H1, I1, r1, q1⟩ => ?_)
 exact bP (hr pos pins s1 σ H1 _ I1 q1) fun us s2 ⟨xs, H2, I2, r2, q2⟩ => ⟨x :: xs, H2, I2, .cons r1 r2, q2⟩
def LR (t : TA) : TE := fun σ H Q => t σ H fun xs H1 => xs.length <= sizeLine /\ ∀ p, H1 p = none -> Q (.ref p) (upd H1 p (.tup xs))
def Ls (t : TA) : TE := fun σ H Q => t σ H fun xs H1 => xs.length <= sizeLine /\ ∀ p, H1 p = none -> Q (.ref p) (upd H1 p (.lst xs))
theorem Gk {x1} (h : PA X es t) : PE X (.Tuple es x1 pos) (LR t) := by
 intro pins s σ H Q I hq
 refine wpAny_Tuple_spliced (bP (h pos pins s σ H _ I hq) fun us s1 ⟨xs, H1, I1, r, z, q⟩ => ⟨by rw [<- r.length]; exact z, ?_⟩)
 have hf : H1 s1.heap.objs.size = none := I1.bf.fresh (Nat.le_refl _)
 refine ⟨.ref s1.heap.objs.size, upd H1 s1.heap.objs.size (.tup xs), I1.laid (t' := s1.toks) (fun b u e => Heap.get?_push_of_some _ e) (Nat.le_refl _) ?_, rfl, q _ hf⟩
 exact ⟨z, us, r, ⟨_, Heap.get?_push_size _ rfl, rfl, _, rfl⟩⟩
theorem Gj (h : PA X es t) : PE X (.List es pos) (Ls t) := by
 intro pins s σ H Q I hq
 refine wpAny_List_spliced (bP (h pos pins s σ H _ I hq) fun us s1 ⟨xs, H1, I1, r, z, q⟩ => ⟨by rw [<- r.length]; exact z, ?_⟩)
 have hf : H1 s1.heap.objs.size = none := I1.bf.fresh (Nat.le_refl _)
 refine ⟨.ref s1.heap.objs.size, upd H1 s1.heap.objs.size (.lst xs), I1.laid (t' := s1.toks) (fun b u e => Heap.get?_push_of_some _ e) (Nat.le_refl _) ?_, rfl, q _ hf⟩
 exact ⟨z, us, 0, r, Heap.get?_push_size _ rfl⟩
end
abbrev Sp := List V -> Hp -> VK -> XK -> Prop
abbrev qe := List Env -> Hp -> Shared -> XK -> Value -> Shared -> Prop
structure uR (P : Program) (w : World) (K : PySem.W.Frag) (mg : Str -> Option Value) (base : Heap) (A : Around) (outer : List Env) (s : Shared) (H : Hp) : Prop where
 frames : A.frames = some outer
 mod : Mod K mg base
 bs : ∀ b o, base.get? b = some o -> s.heap.get? b = some o /\ H b = none
 wF : base.objs.size <= s.heap.objs.size
 j5 : s.heap.FunFrames base outer
 yW : ∀ b ∈ j3 outer, H b = none
 bf : lS P w H s.heap
 bare : AllBare s.gens
def CE (outer : List Env) (P : Program) (w : World) (H : Hp) (s : Shared) (Q : VK) (u : Value) (s' : Shared) : Prop :=
 ∃ v H', s'.os = s.os /\ AllBare s'.gens /\ Un (j3 outer) [] H H' s.heap s'.heap /\ lS P w H' s'.heap /\ RelV v u /\ Q v H'
def CR (CX : qe) (outer : List Env) (P : Program) (w : World) (H : Hp) (s : Shared) (Q : VK) (E : XK) (r : Result) (s' : Shared) : Prop :=
 match r with
 | .ok (.ret u) => CE outer P w H s Q u s'
 | .ok _ => False
 | .error e => CX outer H s E e s'
structure bh (P : Program) (w : World) (K : PySem.W.Frag) (mg : Str -> Option Value) (base : Heap) (CX : qe) (k : Nat) (f : Addr) (fd : FuncData) (ps : List Str) (sp : Sp) : Prop where
 len : ∀ vs H Q E, sp vs H Q E -> vs.length = ps.length
 run : ∀ (A : Around) (outer : List Env) (s : Shared) (H : Hp) (args : Args) (us : List Value) (vs : List V) (Q : VK) (E : XK), c6 k A -> uR P w K mg base A outer s H -> BindsTo s fd args (ps.zip us) -> Vals vs us -> sp vs H Q E ->
  codeAny (model P w) A (.call (.ref f) args) (CR CX outer P w H s Q E) s
theorem bh.mono {P : Program} {w : World} {K : PySem.W.Frag} {mg : Str -> Option Value} {base : Heap} {CX : qe} {j k : Nat} {f : Addr} {fd : FuncData} {ps : List Str} {sp : Sp} (F : bh P w K mg base CX j f fd ps sp) (h : j <= k) :
 bh P w K mg base CX k f fd ps sp := ⟨F.len, fun A outer s H args us vs Q E hr => F.run A outer s H args us vs Q E (hr.mono h)⟩
theorem uR.make {P : Program} {w : World} {K : PySem.W.Frag} {mg : Str -> Option Value} {base : Heap} {A : Around} {outer : List Env} {s : Shared} {H : Hp} (e : uR P w K mg base A outer s H) (C : Addr) (us : List Value) (kw : List (Str × Value)) :
 uR P w K mg base (A.under (.builtin "type.__call__" ⟨.ref C :: us, kw⟩)) outer s H := ⟨by first | exact e.frames | (simpa [Around.under, Code.envs, Code.isFrame, pushEnvs] using e.frames), e.mod, e.bs, e.wF, e.j5, e.yW, e.bf, e.bare⟩
section
variable {X : Cx} {pins : List (Addr × Obj)} {σ : St} {H : Hp} {s s' : Shared}
theorem Inv.Fw (I : Inv X pins σ H s) : uR X.prog X.w X.K X.mg X.base X.A X.stack s H :=
 ⟨I.ok.frames, I.ok.mod, I.bs, Nat.le_trans I.ok.wF I.sz, I.stack, I.lW, I.bf, I.bare⟩
theorem Inv.after {Q : VK} {u : Value} (I : Inv X pins σ H s) (h : CE X.stack X.prog X.w H s Q u s') : EP X pins σ Q u s' := by
 obtain ⟨v, H', os, bare, un, bf, r, q⟩ := h
 obtain ⟨hh, g, d, t, Nb⟩ := s'
 obtain rfl : Nb = s.os := os
 exact ⟨v, H', I.call (h' := hh) (g' := g) (d' := d) (t' := t) (ch := []) un bf bare (fun b z => absurd z (by simp)), r, q⟩
end
def wH (sp : Sp) (cV : List V) (E : XK) (t : TA) : TE := fun σ H Q => t σ H fun vs H1 => sp (vs ++ cV) H1 Q E
def xx (C : Addr) (m : Str) (sp : Sp) (cV : List V) (E : XK) (ta : TE) (t : TA) : TE := fun σ H Q => ta σ H fun x H1 => ∃ a dx fs, x = .ref a /\ H1 a = some (.ins C dx fs) /\ fs.lookup m = none /\
 t σ H1 fun vs H2 => sp (x :: (vs ++ cV)) H2 Q E
def Binds (K : PySem.W.Frag) (fd : FuncData) (ps : List Str) (ds : List Value) : Prop :=
 ∀ (s : Shared) (us : List Value), K.In s.heap -> (us ++ ds).length = ps.length -> BindsTo s fd ⟨us, []⟩ (ps.zip (us ++ ds))
theorem Binds.all {K : PySem.W.Frag} {fd : FuncData} {ps : List Str} (h : ∀ us : List Value, us.length = ps.length -> bindArgs fd ⟨us, []⟩ = pure (ps.zip us)) : Binds K fd ps [] := fun s us _ hl => by
 rw [List.append_nil] at hl ⊢
 exact .of_eq (h us hl)
def Passes (CX : qe) (X : Cx) (E : XK) : Prop := ∀ (pins : List (Addr × Obj)) (σ : St) (H : Hp) (s : Shared) (e : Value) (s' : Shared), Inv X pins σ H s -> CX X.stack H s E e s' -> X.xe e s'
section
variable {X : Cx} {CX : qe} {k : Nat} {f C : Addr} {fd : FuncData} {ps : List Str} {sp : Sp} {cV : List V} {ds : List Value} {E : XK} {x m : Str} {p pos apos : Pos} {e o : Expr} {es : List Expr} {ta : TE} {t : TA}
theorem Au {pins : List (Addr × Obj)} {σ : St} {H : Hp} {s : Shared} {Q : VK} {us : List Value} {vs : List V} (F : bh X.prog X.w X.K X.mg X.base CX k f fd ps sp) (hr : c6 k X.A) (hb : Binds X.K fd ps ds) (hd : Vals cV ds) (hx : Passes CX X E)
 (I : Inv X pins σ H s) (r : Vals vs us) (h : sp (vs ++ cV) H Q E) : wpAny (model X.prog X.w) X.A (call (.ref f) us) (EP X pins σ Q) X.xe s := by
 have r2 : Vals (vs ++ cV) (us ++ ds) := r.append hd
 have hl : (us ++ ds).length = ps.length := by rw [<- r2.length]; exact F.len _ _ _ _ h
 refine wpAny_call (codeAny_mono (F.run X.A X.stack s H ⟨us, []⟩ (us ++ ds) (vs ++ cV) Q E hr I.Fw (hb s us I.iZ hl) r2 h) fun r s' hq => ?_)
 cases r with
 | error e => exact hx pins σ H s e s' I hq
 | ok fl =>
   cases fl with
   | ret u => exact I.after hq
   | next => exact False.elim hq
   | brk => exact False.elim hq
   | cont => exact False.elim hq
theorem Cw (F : bh X.prog X.w X.K X.mg X.base CX k f fd ps sp) (hr : c6 k X.A) (hg : Gl X x) (hm : X.mg x = some (.ref f)) (hk : PySem.W.keepIn X.K (.ref f) = true) (hb : Binds X.K fd ps ds) (hd : Vals cV ds) (hx : Passes CX X E)
 (ha : PA X (e :: es) t) (pA : (x == ("__debug__" : Str)) = false := by decide) (he : starEach (e :: es) X.env = (false, eval e X.env) :: starEach es X.env := by rfl) (kH : (backTo pos (starEach es X.env)).any (·.1) = false := by rfl) :
 PE X (.Call (.Name x p) (e :: es) [] pos) (wH sp cV E t) := by
 intro pins s σ H Q I h
 refine wpAny_Call_Name_kw (ez I hg hm ?_ pA)
 refine PySem.W.callWith_K (h₀ := X.base) I.ok.mod.Bh hk (bP (ha pos pins s σ H _ I h) fun us s1 ⟨vs, H1, I1, r, q⟩ => ⟨I1.iZ, ?_⟩) he kH
 exact Au F hr hb hd hx I1 r q
theorem yO {pl : Sem Bool} (he : PE X o ta) (c : pk X.K C) (hm : Meth X.K C m f) (F : bh X.prog X.w X.K X.mg X.base CX k f fd ps sp) (hr : c6 k X.A) (hb : Binds X.K fd ps ds) (hd : Vals cV ds) (hx : Passes CX X E)
 (ht : eval (.Call (.Attribute o m apos) [] [] pos) X.env = (do
  let ov <- eval o X.env
  standAt apos.atName
  let (f, first) <- holding [ov] (getMethod ov m pl)
  callWith pos f first (backTo pos (starEach [] X.env)) (backToKw pos (keywordEach [] X.env))) := by rfl) :
 PE X (.Call (.Attribute o m apos) [] [] pos) (xx C m sp cV E ta AB) := by
 intro pins s σ H Q I h
 refine PySem.W.methodCall_KW (pl := pl) (bP (he pins s σ H _ I h) fun u s1 ⟨x, H1, I1, rx, a, dx, fs, ex, ea, l, q⟩ => ?_) ht
 subst ex
 obtain rfl : u = Value.ref a := rx
 refine vv I1 ea c hm l ?_
 exact PySem.W.callWith_K0 (first := [.ref a]) I1.iZ hm.kp (Au (us := [.ref a]) (vs := [.ref a]) F hr hb hd hx I1 (.cons rfl .nil) q)
structure Mk (K : PySem.W.Frag) (C f : Addr) : Prop where
 makes : PySem.W.makesIn K C = true
 init : PySem.W.findIn K (.ref C) "__init__" = some (some (.ref f))
 fn : PySem.W.isFn K (.ref f) = true
 kp : PySem.W.keepIn K (.ref C) = true
end
section
variable {X : Cx} {CX : qe} {k : Nat} {f C : Addr} {fd : FuncData} {ps ks : List Str} {sp : Sp} {E : XK} {x m : Str} {p pos apos K5 : Pos} {e o : Expr} {es : List Expr} {Pg : List Keyword} {te ta : TE} {t tk : TA} {nm : Option Str}
structure La (K : PySem.W.Frag) (fd : FuncData) (ps ks : List Str) (g : List Value -> List Value -> List Value) (gV : List V -> List V -> List V) : Prop where
 to : ∀ (s : Shared) (us ws : List Value), K.In s.heap -> (g us ws).length = ps.length -> BindsTo s fd ⟨us, ks.zip ws⟩ (ps.zip (g us ws))
 rel : ∀ {vs : List V} {us : List Value} {zs : List V} {ws : List Value}, Vals vs us -> Vals zs ws -> Vals (gV vs zs) (g us ws)
variable {g : List Value -> List Value -> List Value} {gV : List V -> List V -> List V}
end
structure aH (N P : List Str) (sc : Scope) : Prop where
 kind : sc.kind = .function
 co : sc.isCoroutine = false
 gen : sc.isGenerator = false
 nd : N.Nodup
 pre : N.take P.length = P
 par : ∀ x ∈ P, sc.names.lookup x = some .local \/ sc.names.lookup x = some .cell
 GD : ∀ y ∈ sc.names, y.2 ≠ .free
theorem rL {kindOf : Str -> Option NameKind} {x : Str} : ∀ {binds : List (Str × Value)} {m : Str -> Option Value}, (∀ v, (x, v) ∉ binds) -> bindL kindOf binds m x = m x
 | [], _, _ => rfl
 | (n, v) :: r, m, h => by
   unfold bindL
   rw [rL fun w hw => h w (List.mem_cons_of_mem _ hw)]
   split
   . have : x ≠ n := by rintro rfl; exact h v List.mem_cons_self
     simp [this]
   . rfl
theorem rN {kindOf : Str -> Option NameKind} {x : Str} : ∀ {binds : List (Str × Value)} {m : Str -> Option Value}, (∀ v, (x, v) ∉ binds) -> bindC kindOf binds m x = m x
 | [], _, _ => rfl
 | (n, v) :: r, m, h => by
   unfold bindC
   rw [rN fun w hw => h w (List.mem_cons_of_mem _ hw)]
   split
   . rfl
   . have : x ≠ n := by rintro rfl; exact h v List.mem_cons_self
     simp [this]
theorem rp {kindOf : Str -> Option NameKind} {x : Str} {v : Value} : ∀ {P : List Str} {vs : List Value} {i : Nat} {m : Str -> Option Value}, P.Nodup -> P[i]? = some x -> vs[i]? = some v -> kindOf x = some .local ->
 bindL kindOf (P.zip vs) m x = some v
 | [], _, _, _, _, h, _, _ => by simp at h
 | _ :: _, [], _, _, _, _, h, _ => by simp at h
 | p :: P, w :: vs, 0, m, nd, h1, h2, hk => by
   simp at h1 h2; subst h1; subst h2
   show bindL kindOf ((p, w) :: P.zip vs) m p = _
   unfold bindL
   rw [rL fun v hv => (List.nodup_cons.mp nd).1 (List.of_mem_zip hv).1, if_pos hk]
   simp
 | p :: P, w :: vs, i + 1, m, nd, h1, h2, hk => by
   show bindL kindOf ((p, w) :: P.zip vs) m x = _
   unfold bindL
   exact rp (i := i) (List.nodup_cons.mp nd).2 (by simpa using h1) (by simpa using h2) hk
theorem rG {kindOf : Str -> Option NameKind} {x : Str} {v : Value} : ∀ {P : List Str} {vs : List Value} {i : Nat} {m : Str -> Option Value}, P.Nodup -> P[i]? = some x -> vs[i]? = some v -> kindOf x ≠ some .local ->
 bindC kindOf (P.zip vs) m x = some v
 | [], _, _, _, _, h, _, _ => by simp at h
 | _ :: _, [], _, _, _, _, h, _ => by simp at h
 | p :: P, w :: vs, 0, m, nd, h1, h2, hk => by
   simp at h1 h2; subst h1; subst h2
   show bindC kindOf ((p, w) :: P.zip vs) m p = _
   unfold bindC
   rw [rN fun v hv => (List.nodup_cons.mp nd).1 (List.of_mem_zip hv).1, if_neg hk]
   simp
 | p :: P, w :: vs, i + 1, m, nd, h1, h2, hk => by
   show bindC kindOf ((p, w) :: P.zip vs) m x = _
   unfold bindC
   exact rG (i := i) (List.nodup_cons.mp nd).2 (by simpa using h1) (by simpa using h2) hk
def start (N : List Str) (vs : List V) : St := vs.map some ++ List.replicate (N.length - vs.length) none
def gD (CX : qe) (P : Program) (w : World) (K : PySem.W.Frag) (mg : Str -> Option Value) (base : Heap) (N : List Str) (qual : Str) (scope : Scope) (f : Addr) (cd : Value) (A : Around) (outer : List Env) (s : Shared) (H : Hp) (E : XK) : Cx where
 prog := P
 w := w
 K := K
 mg := mg
 base := base
 A := A.deeper (envOfC qual scope s.heap.objs.size f cd)
 N := N
 cJ := s
 zu := H
 env := envOfC qual scope s.heap.objs.size f cd
 outer := outer
 stack := envOfC qual scope s.heap.objs.size f cd :: outer
 ex := []
 calm := true
 fn := fun _ => true
 pn := []
 xe := fun e s' => wpAny (model P w) (A.deeper (envOfC qual scope s.heap.objs.size f cd)) (leaving (envOfC qual scope s.heap.objs.size f cd) e) (fun _ K1 => CX outer H s E e K1) (fun e' K1 => CX outer H s E e' K1) s'
theorem tL {sc : Scope} {n : Nat} {x : Str} (h : sc.names.lookup x = some .cell) : ∃ c, (cellsFrom n sc.names []).lookup x = some c := by
 have q := PySem.W.cellsFrom_some sc.names n [] (.inl h)
 exact Option.isSome_iff_exists.mp q
theorem yD {CX : qe} {P : Program} {w : World} {K : PySem.W.Frag} {mg : Str -> Option Value} {base : Heap} {N ps : List Str} {qual : Str} {scope : Scope} {f : Addr} {cd : Value} {A : Around} {outer : List Env} {s s1 : Shared} {H : Hp} {E : XK} {us : List Value} {vs : List V}
 (S : aH N ps scope) (hd : A.handled = none) (e0 : uR P w K mg base A outer s H) (hl : vs.length = ps.length) (r : Vals vs us)
 (x : InCallC s s.heap.objs.size (bindL (envOfC qual scope s.heap.objs.size f cd).kindOf (ps.zip us) fun _ => none) (cellsFrom (s.heap.objs.size + 1) scope.names []) (bindC (envOfC qual scope s.heap.objs.size f cd).kindOf (ps.zip us) fun _ => none) s1) :
 Inv (gD CX P w K mg base N qual scope f cd A outer s H E) [] (start N vs) H s1 := by
 have kH : ps.length <= N.length := by have := congrArg List.length S.pre; rw [List.length_take] at this; omega
 obtain ⟨h1, tk, rfl, hk⟩ := x.done
 have IP : ∀ b : Addr, b ∉ (gD CX P w K mg base N qual scope f cd A outer s H E).ex := fun b z => absurd (show b ∈ ([] : List Addr) from z) (by simp)
 refine ⟨⟨e0.mod, S.kind, rfl, rfl, Nat.le_refl _, fun y z c h1 h2 => ?_, fun y hy => ?_, fun y c _ h => ?_, fun _ => hd, Around.frames_deeper e0.frames, .inr ⟨rfl, rfl⟩, fun b z => absurd z (IP b), e0.bs, e0.wF, fun b _ _ => IP b, fun b z => absurd z (IP b), e0.j5, e0.yW⟩,
  rfl, e0.bare, Un.kept hk, ⟨_, x.toInCall.ns, fun i y v h1 h2 h3 => ?_⟩, fun y c h => ⟨_, x.cell y c h⟩, e0.bf.fresh (Nat.le_refl _), fun y c h => ?_, fun p hp => absurd (show p ∈ ([] : List (Addr × Obj)) from hp) (by simp), e0.bf.kept hk, ?_⟩
 . exact name_of_addr x.apart (PySem.mem_of_lookup h1) (PySem.mem_of_lookup h2)
 . have hy : scope.names.lookup y = some .cell \/ scope.names.lookup y = some .free := hy
   rcases hy with hy | hy
   . exact tL hy
   . exact absurd rfl (S.GD _ (PySem.mem_of_lookup hy))
 . exact Nat.le_of_lt (x.above y c (PySem.mem_of_lookup h))
 . have hi : i < vs.length := by
    unfold start at h2
    by_cases hi : i < vs.length
    . exact hi
    . rw [List.getElem?_append_right (by simpa using hi)] at h2
      rw [List.getElem?_replicate] at h2
      split at h2 <;> cases h2
   have ha : vs[i]? = some v := by
    unfold start at h2
    rw [List.getElem?_append_left (by simpa using hi), List.getElem?_map] at h2
    cases e : vs[i]? with
    | none => rw [e] at h2; cases h2
    | some a => rw [e] at h2; cases h2; rfl
   obtain ⟨u, hu, rv⟩ := r.get ha
   have hp : ps[i]? = some y := by
    rw [<- S.pre, List.getElem?_take_of_lt (by omega)]; exact h1
   have MM : ps.Nodup := by rw [<- S.pre]; exact S.nd.sublist (List.take_sublist _ _)
   refine ⟨u, rv, ?_⟩
   rcases S.par y (List.mem_of_getElem? hp) with k | k
   . exact .inl ⟨k, rp MM hp hu k⟩
   . obtain ⟨c, e⟩ := tL (n := s.heap.objs.size + 1) k
     refine .inr ⟨.inl k, c, e, ?_⟩
     have q := x.cell y c e
     rw [rG MM hp hu (by show scope.names.lookup y ≠ _; rw [k]; decide)] at q
     exact q
 . exact e0.bf.fresh (Nat.le_of_lt (x.above y c (PySem.mem_of_lookup h)))
 . unfold start
   show _ = N.length
   rw [List.length_append, List.length_map, List.length_replicate]
   omega
theorem zW {CX : qe} {P : Program} {w : World} {K : PySem.W.Frag} {mg : Str -> Option Value} {base : Heap} {k : Nat} {f : Addr} {name qual : Str} {params : Arguments} {body : List Stmt} {scope : Scope} {dV kV doc pm dk ct oc : Value} {an od : Option Addr}
 {yc : Array (Option Value)} {N ps : List Str} {sp : Sp} (lk : K.lookup f = some ⟨oc, od, .func (PySem.W.fnOf name qual params body scope dV kV doc pm an dk ct), yc⟩) (uM : PySem.W.codeIn K dk qual = true) (S : aH N ps scope)
 (len : ∀ vs H Q E, sp vs H Q E -> vs.length = ps.length)
 (qu : ∀ (A : Around) (outer : List Env) (s : Shared) (H : Hp) (vs : List V) (Q : VK) (E : XK), c6 k (A.deeper (envOfC qual scope s.heap.objs.size f dk)) -> sp vs H Q E ->
  ∃ t, qN (gD CX P w K mg base N qual scope f dk A outer s H E) body t /\ t { nx := fun _ H' => Q .cn H', rt := Q } (start N vs) H) :
 bh P w K mg base CX (k + 1) f (PySem.W.fnOf name qual params body scope dV kV doc pm an dk ct) ps sp := by
 refine ⟨len, fun A outer s H args us vs Q E hr e0 hb r pZ => ?_⟩
 have hl := len _ _ _ _ pZ
 have KX : K.In s.heap := e0.mod.Bh.keeps fun b o e => (e0.bs b o e).1
 have lim : s.heap.NoLimit := e0.mod.nolimit.keeps fun b o e => (e0.bs b o e).1
 have Hd : ∀ y ∈ ps.zip us, scope.names.lookup y.1 = some .local \/ (scope.names.lookup y.1 = some .cell /\ ((cellsFrom (s.heap.objs.size + 1) scope.names []).lookup y.1).isSome = true) := fun ⟨n, v⟩ hy => by
  rcases S.par n (List.of_mem_zip hy).1 with q | q
  . exact .inl q
  . exact .inr ⟨q, PySem.W.cellsFrom_some _ _ _ (.inl q)⟩
 refine codeAny_call_function hr.depth (KX _ _ lk) rfl S.co S.gen rfl (PySem.W.codeRec_of KX uM) (hb _ _ _ _ ?_)
 refine wpAny_newFunctionEnv_cells S.kind Hd fun env he s1 x => ?_
 subst he
 refine ⟨lim.keeps x.toInCall.keep, codeAny_func ?_⟩
 obtain ⟨t, ht, hq⟩ := qu A outer s H vs Q E (hr.deeper _) pZ
 have I : Inv (gD CX P w K mg base N qual scope f dk A outer s H E) [] (start N vs) H s1 := yD S hr.hd e0 hl r x
 refine wpAny_mono (ht [] s1 (start N vs) H _ I hq) (fun fl s' hs => ?_) fun e s' hs => hs
 have fin : ∀ {σ' : St} {H' : Hp} {v : V} {u : Value}, Inv (gD CX P w K mg base N qual scope f dk A outer s H E) [] σ' H' s' -> RelV v u -> Q v H' -> CE outer P w H s Q u s' :=
  fun {σ' H' v u} J rv q => ⟨v, H', J.os, J.bare, J.base, J.bf, rv, q⟩
 cases fl with
 | ret u =>
   obtain ⟨v, σ', H', J, rv, q⟩ := hs
   exact fin J rv q
 | next =>
   obtain ⟨σ', H', J, q⟩ := hs
   exact fin (v := V.cn) (u := Value.none) J rfl q
 | brk =>
   obtain ⟨_, _, _, q⟩ := hs
   exact False.elim q
 | cont =>
   obtain ⟨_, _, _, q⟩ := hs
   exact False.elim q
section
variable {X : Cx} {x : Str} {p pos : Pos} {e : Expr} {es : List Expr} {t : TA} {id T : String} {r : List V -> Hp -> VK -> Prop}
def Lk (r : List V -> Hp -> VK -> Prop) (t : TA) : TE := fun σ H Q => t σ H fun vs H1 => r vs H1 Q
theorem aU (hc : fX X (.builtin id) r) (hg : Gl X x) (hm : X.mg x = none) (hv : bootBuiltins x = some (.builtin id)) (ha : PA X (e :: es) t) (hn : x ≠ "__name__" := by decide) (pA : (x == ("__debug__" : Str)) = false := by decide)
 (he : starEach (e :: es) X.env = (false, eval e X.env) :: starEach es X.env := by rfl) (kH : (backTo pos (starEach es X.env)).any (·.1) = false := by rfl) : PE X (.Call (.Name x p) (e :: es) [] pos) (Lk r t) := by
 intro pins s σ H Q I h
 refine wpAny_Call_Name_kw (vk I hg hm hv ?_ hn pA)
 exact PyProof.Rows.callWith_builtin1 (bP (ha pos pins s σ H _ I h) fun us s1 ⟨vs, H1, I1, r1, q1⟩ => hc pins s1 σ H1 vs us Q I1 r1 q1) he kH
theorem a6 (hc : fX X (.type T) r) (hg : Gl X x) (hm : X.mg x = none) (hv : bootBuiltins x = some (.type T)) (ha : PA X (e :: es) t) (hn : x ≠ "__name__" := by decide) (pA : (x == ("__debug__" : Str)) = false := by decide)
 (he : starEach (e :: es) X.env = (false, eval e X.env) :: starEach es X.env := by rfl) (kH : (backTo pos (starEach es X.env)).any (·.1) = false := by rfl) : PE X (.Call (.Name x p) (e :: es) [] pos) (Lk r t) := by
 intro pins s σ H Q I h
 refine wpAny_Call_Name_kw (vk I hg hm hv ?_ hn pA)
 exact PyProof.Rows.callWith_type1 (bP (ha pos pins s σ H _ I h) fun us s1 ⟨vs, H1, I1, r1, q1⟩ => hc pins s1 σ H1 vs us Q I1 r1 q1) he kH
end
end L2
namespace HT
open PySem PyProof.Rows
section
open PySem.SeqAt
open PySem.AutoSeq1 (wpAny_loadPart')
open PySem.MeetsSeq PySem.MeetsSeq2 PySem.MeetsSeq3
end
section
variable {prog : Program} {w : World} {A : Around} {E : Value -> Shared -> Prop} {s : Shared}
def fN (n d : Nat) : Option Int -> Nat
 | none => d
 | some v => if v < 0 then (v + (n : Int)).toNat else min v.toNat n
end
end HT
namespace L2
open PySem PySem.Spec PyProof.Rows
abbrev TO := St -> Hp -> (Option Int -> Hp -> Prop) -> Prop
def PO (X : Cx) (e : Option Expr) (t : TO) : Prop :=
 ∀ (pins : List (Addr × Obj)) (s : Shared) (σ : St) (H : Hp) (Q : Option Int -> Hp -> Prop), Inv X pins σ H s -> t σ H Q ->
   wpAny (model X.prog X.w) X.A (evalPart e X.env) (fun u s' => ∃ o H', Inv X pins σ H' s' /\ IsPart u o /\ Q o H') X.xe s
def wQ : TO := fun _ H Q => Q none H
def DQ (t : TE) : TO := fun σ H Q => t σ H fun x H1 => ∃ i, x = .int i /\ Q (some i) H1
section
variable {X : Cx} {e : Expr} {te : TE} {lo hi : Option Expr} {tl th : TO} {pos p2 : Pos}
theorem cu : PO X none wQ := by
 intro pins s σ H Q I h
 rw [evalPart_none]
 exact wpAny_pure ⟨none, H, I, .none, h⟩
theorem bQ (h : PE X e te) : PO X (some e) (DQ te) := by
 intro pins s σ H Q I hw
 rw [evalPart_some]
 refine bP (h pins s σ H _ I hw) fun u s1 ⟨x, H1, I1, r1, q1⟩ => ?_
 obtain ⟨i, rfl, q⟩ := q1
 obtain ⟨t, rfl⟩ := r1
 exact ⟨some i, H1, I1, .int i t, q⟩
def Ko (X : Cx) (r : V -> Option Int -> Option Int -> Hp -> VK -> Prop) : Prop :=
 ∀ (pins : List (Addr × Obj)) (s : Shared) (σ : St) (H : Hp) (x : V) (v vl vu : Value) (lo hi : Option Int) (sl : Addr) (Q : VK), Inv X pins σ H s -> RelV x v -> s.heap.IsSliceOf sl vl vu .none -> IsPart vl lo -> IsPart vu hi -> r x lo hi H Q ->
   ∃ T id, typeLookup (.type T) "__getitem__" = pure (some (.builtin id)) /\ s.TypeIs v T /\ wpAny (model X.prog X.w) X.A (getItem v (.ref sl)) (EP X pins σ Q) X.xe s
def M4 (r : V -> Option Int -> Option Int -> Hp -> VK -> Prop) (te : TE) (tl th : TO) : TE := fun σ H Q => te σ H fun x H1 => tl σ H1 fun l H2 => th σ H2 fun u H3 => r x l u H3 Q
theorem bj {r : V -> Option Int -> Option Int -> Hp -> VK -> Prop} (hr : Ko X r) (he : PE X e te) (hl : PO X lo tl) (hu : PO X hi th) : PE X (.Subscript e (.Slice lo hi none p2) pos) (M4 r te tl th) := by
 intro pins s σ H Q I h
 refine Subscript_ (bP (he pins s σ H _ I h) fun v s1 ⟨x, H1, I1, r1, q1⟩ => ?_)
 refine wpAny_Slice (bP (hl pins s1 σ H1 _ I1 q1) fun vl s2 ⟨l, H2, I2, pl, q2⟩ => bP (hu pins s2 σ H2 _ I2 q2) fun vu s3 ⟨u, H3, I3, pu, q3⟩ => ?_)
 rw [evalPart_none]
 refine wpAny_pure ?_
 have I4 : Inv X pins σ H3 { s3 with heap := s3.heap.push { cls := .type "slice", data := .fields #[vl, vu, .none] } } := I3.kept (t' := s3.toks) fun b ob q => Heap.get?_push_of_some _ q
 obtain ⟨T, id, hT, ht, hg⟩ := hr pins { s3 with heap := s3.heap.push { cls := .type "slice", data := .fields #[vl, vu, .none] } } σ H3 x v vl vu l u s3.heap.objs.size Q I4 r1 (Heap.IsSliceOf.new ..) pl pu q3
 show wpAny (model X.prog X.w) X.A (subscriptTail e (.Slice lo hi none p2) v (.ref s3.heap.objs.size)) (EP X pins σ Q) X.xe { s3 with heap := s3.heap.push { cls := .type "slice", data := .fields #[vl, vu, .none] } }
 exact tail_any (ops := [.ref s3.heap.objs.size, v]) ht hT hg (by with_unfolding_all rfl)
def sd (xs : List V) (lo hi : Option Int) : List V := (xs.drop (HT.fN xs.length 0 lo)).take (HT.fN xs.length xs.length hi - HT.fN xs.length 0 lo)
theorem uf (xs : List V) (lo hi : Option Int) : (sd xs lo hi).length <= xs.length := by
 unfold sd
 rw [List.length_take, List.length_drop]
 omega
end
def xF (n : Nat) (i : Int) : Option Nat := if 0 <= i then (if i < n then some i.toNat else none) else if -(n : Int) <= i then some (i + n).toNat else none
def oM {α : Type} (xs : List α) (i : Int) : Option α := (xF xs.length i).bind fun j => xs[j]?
theorem xn {n : Nat} {i : Int} {j : Nat} (h : xF n i = some j) : seqIndex? i n = some j /\ j < n /\ -(n : Int) <= i /\ i < n := by
 unfold xF at h
 by_cases h0 : 0 <= i
 . rw [if_pos h0] at h
   by_cases h1 : i < n
   . rw [if_pos h1] at h
     have e : i.toNat = j := Option.some.inj h
     exact ⟨by rw [seqIndex_of h0 h1, e], by omega, by omega, h1⟩
   . rw [if_neg h1] at h; cases h
 . rw [if_neg h0] at h
   by_cases h1 : -(n : Int) <= i
   . rw [if_pos h1] at h
     have e : (i + n).toNat = j := Option.some.inj h
     exact ⟨by rw [seqIndex_neg (by omega) h1, e], by omega, h1, by omega⟩
   . rw [if_neg h1] at h; cases h
theorem sh {α : Type} {xs : List α} {i : Int} {v : α} (h : oM xs i = some v) : ∃ j, seqIndex? i xs.length = some j /\ xs[j]? = some v /\ j < xs.length /\ -(xs.length : Int) <= i /\ i < xs.length := by
 unfold oM at h
 cases e : xF xs.length i with
 | none => rw [e] at h; cases h
 | some j =>
   rw [e] at h
   obtain ⟨h1, h2, h3, h4⟩ := xn e
   exact ⟨j, h1, h, h2, h3, h4⟩
theorem jV {α : Type} {xs : List α} {j : Nat} {v : α} (h : xs[j]? = some v) : oM xs (j : Int) = some v := by
 have hj : j < xs.length := (List.getElem?_eq_some_iff.mp h).1
 have e : xF xs.length (j : Int) = some j := by
  unfold xF
  rw [if_pos (by omega), if_pos (by omega)]; simp
 unfold oM; rw [e]; exact h
theorem zi {α : Type} (xs : List α) (v : α) : oM (xs ++ [v]) (-1) = some v := by
 have hl : (xs ++ [v]).length = xs.length + 1 := by simp
 have e : xF (xs ++ [v]).length (-1) = some xs.length := by
  unfold xF
  rw [hl, if_neg (by decide), if_pos (by omega)]
  congr 1
  omega
 unfold oM
 rw [e]
 show (xs ++ [v])[xs.length]? = some v
 simp
def BD (b : Expr) : Prop := ∀ o i, subscripted b false o i = operate [o, i] (getItem o i)
def zq (X : Cx) (r : R2) : Prop :=
 ∀ (value slice : Expr) (pins : List (Addr × Obj)) (s : Shared) (σ : St) (H : Hp) (x y : V) (v u : Value) (Q : VK), Inv X pins σ H s -> RelV x v -> RelV y u -> r x y H Q ->
   subscripted slice false v u = operate [v, u] (getItem v u) -> wpAny (model X.prog X.w) X.A (subscriptTail value slice v u) (EP X pins σ Q) X.xe s
def IL (X : Cx) (id : String) (r : V -> List V -> Hp -> VK -> Prop) : Prop :=
 ∀ (pins : List (Addr × Obj)) (s : Shared) (σ : St) (H : Hp) (x : V) (xs : List V) (v : Value) (us : List Value) (Q : VK), Inv X pins σ H s -> RelV x v -> Vals xs us -> r x xs H Q ->
   wpAny (model X.prog X.w) X.A (call (.builtin id) (v :: us)) (EP X pins σ Q) X.xe s
section
variable {X : Cx} {a b : Expr} {ta tb : TE} {pos : Pos}
theorem zq.or {r r' : R2} (h : zq X r) (h' : zq X r') : zq X (fun x y H Q => r x y H Q \/ r' x y H Q) := by
 intro value slice pins s σ H x y v u Q I rx ry q hs
 rcases q with q | q
 . exact h value slice pins s σ H x y v u Q I rx ry q hs
 . exact h' value slice pins s σ H x y v u Q I rx ry q hs
theorem a8 {r : R2} (hr : zq X r) (ha : PE X a ta) (hb : PE X b tb) (hs : BD b) : PE X (.Subscript a b pos) (HJ r ta tb) := by
 intro pins s σ H Q I h
 exact Subscript_ (FP ha hb I h fun v u s2 x y H2 I2 rx ry q => hr a b pins s2 σ H2 x y v u Q I2 rx ry q (hs _ _))
def E7 (K : PySem.W.Frag) : R2 := fun x y H Q => ∃ p xs i v, x = .ref p /\ y = .int i /\ fW K H p xs /\ oM xs i = some v /\ Q v H
def JA (K : PySem.W.Frag) : R2 := fun x y H Q => ∃ p xs i v, x = .ref p /\ y = .int i /\ xJ K H p xs /\ oM xs i = some v /\ Q v H
def GJ : R2 := fun x y H Q => ∃ z i c, x = .str z /\ y = .int i /\ z.length <= sizeLine /\ oM z.cps.toList i = some c /\ Q (.str ⟨#[c]⟩) H
theorem xm : zq X (E7 X.K) := by
 intro value slice pins s σ H x y v u Q I rx ry h hs
 obtain ⟨p, xs, i, z, rfl, rfl, hq, he, q⟩ := h
 cases rx
 obtain ⟨t, rfl⟩ := ry
 obtain ⟨aV, r, pl, hz⟩ := I.list hq
 obtain ⟨j, h1, h2, h3, h4, h5⟩ := sh he
 obtain ⟨w, ew, HA⟩ := r.get h2
 have hl := r.length
 have hn := lN
 have fin : EP X pins σ Q w s := ⟨z, H, I, HA, q⟩
 by_cases h0 : 0 <= i
 . have hj : i.toNat = j := by
    rw [seqIndex_of h0 h5] at h1
    exact Option.some.inj h1
   exact item_listR pl.isList h0 (by omega) (by rw [hj]; simpa using ew) fin hs
 . have hj : (i + (aV.toArray.size : Int)).toNat = j := by
    rw [seqIndex_neg (by omega) h4] at h1
    rw [List.size_toArray, <- hl]
    exact Option.some.inj h1
   exact subscriptTail_builtinR (x := w) pl.isList.typeIs slot_list_getitem.lookup
    (wpAny_getItem_list_neg (Q := fun r s' => r = w /\ EP X pins σ Q r s') pl.isList (by omega) (by rw [List.size_toArray] <;> omega) (by omega) (by rw [hj]; simpa using ew) ⟨rfl, fin⟩) hs
theorem FD : zq X (JA X.K) := by
 intro value slice pins s σ H x y v u Q I rx ry h hs
 obtain ⟨p, xs, i, z, rfl, rfl, hq, he, q⟩ := h
 cases rx
 obtain ⟨t, rfl⟩ := ry
 obtain ⟨aV, r, pl, hz⟩ := I.tuple hq
 obtain ⟨j, h1, h2, h3, h4, h5⟩ := sh he
 obtain ⟨w, ew, HA⟩ := r.get h2
 have hl := r.length
 have hn := lN
 have fin : EP X pins σ Q w s := ⟨z, H, I, HA, q⟩
 exact subscriptTail_builtinR (x := w) pl.typeIs slot_tuple_getitem.lookup
  (getItem_tuple (j := j) (Q := fun r s' => r = w /\ EP X pins σ Q r s') pl (by omega) (by omega) (by rw [List.size_toArray, <- hl]; exact h1) (by simpa using ew) ⟨rfl, fin⟩) hs
theorem Gh : zq X GJ := by
 intro value slice pins s σ H x y v u Q I rx ry h hs
 obtain ⟨z, i, c, rfl, rfl, hz, he, q⟩ := h
 obtain ⟨t, rfl⟩ := rx
 obtain ⟨t', rfl⟩ := ry
 obtain ⟨j, h1, h2, h3, h4, h5⟩ := sh he
 have hl : z.cps.toList.length = z.length := by simp [Str.length]
 rw [hl] at h1 h4 h5
 have hn := lN
 exact tail_any (typeIs_str s z t) slot_str_getitem.lookup (getItem_str (c := c) (by
  have e1 : decide (i < -(2 ^ 63 : Int)) = false := decide_eq_false (by omega)
  have e2 : decide (i ≥ 2 ^ 63) = false := decide_eq_false (by omega)
  rw [e1, e2, Bool.or_false]) (by rw [h1]; simpa using h2) ⟨.str ⟨#[c]⟩, H, I.tok _, ⟨_, rfl⟩, q⟩) hs
def Ms (K : PySem.W.Frag) : R2 := fun x y H Q => E7 K x y H Q \/ JA K x y H Q \/ GJ x y H Q
theorem FL : zq X (Ms X.K) := xm.or (FD.or Gh)
theorem u5 (aV : List Value) (n j : Nat) (u : Value) : Obj.mapSeq (·.setIfInBounds j u) { cls := .type "list", data := .seq aV.toArray n } = { cls := .type "list", data := .seq (aV.set j u).toArray n } := by
 simp [Obj.mapSeq]
theorem Inv.lst {pins : List (Addr × Obj)} {σ : St} {H : Hp} {s : Shared} {p : Addr} {xs : List V} (I : Inv X pins σ H s) (h : H p = some (.lst xs)) :
 ∃ (aV : List Value) (n : Nat), Vals xs aV /\ s.heap.get? p = some { cls := .type "list", data := .seq aV.toArray n } /\ xs.length <= sizeLine := by
 obtain ⟨z, aV, n, r, e⟩ := I.bf p _ h
 exact ⟨aV, n, r, e, z⟩
theorem Inv.GF {pins : List (Addr × Obj)} {σ : St} {H : Hp} {s : Shared} {p : Addr} {xs ys : List V} {aV its' : List Value} {n n' : Nat} {f : Obj -> Obj} (I : Inv X pins σ H s) (h : H p = some (.lst xs))
 (ho : s.heap.get? p = some { cls := .type "list", data := .seq aV.toArray n }) (hf : f { cls := .type "list", data := .seq aV.toArray n } = { cls := .type "list", data := .seq its'.toArray n' }) (r : Vals ys its') (hz : ys.length <= sizeLine) (t : Nat) :
 Inv X pins σ (upd H p (.lst ys)) { s with heap := s.heap.update p f, toks := t } := by
 have e : (s.heap.update p f).get? p = some { cls := .type "list", data := .seq its'.toArray n' } := by
  rw [Heap.get?_update_self f ho (by rw [hf] <;> rfl), hf]
 refine I.write (x := p) (e := p) (by rw [h]; trivial) (.inl rfl) (fun b u hb q => (Heap.get?_update_other _ _ (Ne.symm hb)).trans q) ⟨_, e⟩ ?_
 exact ⟨hz, its', n', r, e⟩
def DY : V -> V -> V -> Hp -> (Hp -> Prop) -> Prop := fun o i v H Q => ∃ p xs k j, o = .ref p /\ i = .int k /\ H p = some (.lst xs) /\ xF xs.length k = some j /\ Q (upd H p (.lst (xs.set j v)))
theorem set_list : Hn X DY := by
 intro pins s σ H o i v ov iv u Q I ro ri rv h
 obtain ⟨p, xs, k, j, rfl, rfl, hp, hj, q⟩ := h
 cases ro
 obtain ⟨t, rfl⟩ := ri
 obtain ⟨aV, n, r, ho, hz⟩ := I.lst hp
 obtain ⟨h1, h2, h3, h4⟩ := xn hj
 have hl := r.length
 have hn := lN
 have I' : Inv X pins σ (upd H p (.lst (xs.set j v))) { s with heap := s.heap.update p (Obj.mapSeq (·.setIfInBounds j u)) } :=
  I.GF hp ho (u5 aV n j u) (r.set rv j) (by rw [List.length_set]; exact hz) s.toks
 by_cases h0 : 0 <= k
 . have hk : k.toNat = j := by
    rw [seqIndex_of h0 h4] at h1
    exact Option.some.inj h1
   exact PySem.W.ki_setAt ho h0 (by omega) (by rw [List.size_toArray, <- hl]; exact h4) (by rw [hk]; exact ⟨_, I', q⟩)
 . have hk : (k + (aV.toArray.size : Int)).toNat = j := by
    rw [seqIndex_neg (by omega) h3] at h1
    rw [List.size_toArray, <- hl]
    exact Option.some.inj h1
   exact PySem.W.ki_setBack ho (by omega) (by rw [List.size_toArray, <- hl]; exact h3) (by omega) (by rw [hk]; exact ⟨_, I', q⟩)
theorem sM (lo hi : Option Int) (n : Nat) : (sliceBounds lo hi none n).1 = ((HT.fN n 0 lo : Nat) : Int) /\ (sliceBounds lo hi none n).2.1 = ((HT.fN n n hi : Nat) : Int) /\ (sliceBounds lo hi none n).2.2 = 1 := by
 refine ⟨?_, ?_, rfl⟩
 . cases lo with
   | none => simp [sliceBounds, HT.fN]
   | some i =>
     simp only [sliceBounds, HT.fN, Option.getD_none, show (1 : Int) > 0 by decide, if_true]
     by_cases h : i < 0
     . simp only [h, if_true] <;> omega
     . simp only [h, if_false] <;> omega
 . cases hi with
   | none => simp [sliceBounds, HT.fN]
   | some i =>
     simp only [sliceBounds, HT.fN, Option.getD_none, show (1 : Int) > 0 by decide, if_true]
     by_cases h : i < 0
     . simp only [h, if_true] <;> omega
     . simp only [h, if_false] <;> omega
theorem q9 (aV : List Value) (lo hi : Option Int) : slicePick aV.toArray lo hi none = ((aV.drop (HT.fN aV.length 0 lo)).take (HT.fN aV.length aV.length hi - HT.fN aV.length 0 lo)).toArray := by
 obtain ⟨h1, h2, h3⟩ := sM lo hi aV.toArray.size
 unfold slicePick
 rw [h1, h2, h3]
 simp only [sliceRange_one, pick_run, List.size_toArray] <;> rfl
def tZ (K : PySem.W.Frag) : V -> Option Int -> Option Int -> Hp -> VK -> Prop := fun x lo hi H Q => ∃ a xs, x = .ref a /\ fW K H a xs /\ ∀ p, H p = none -> Q (.ref p) (upd H p (.lst (sd xs lo hi)))
theorem cq : Ko X (tZ X.K) := by
 intro pins s σ H x v vl vu lo hi sl Q I rx hs pl pu h
 obtain ⟨a, xs, rfl, hx, q⟩ := h
 cases rx
 obtain ⟨aV, r, ht, hz⟩ := I.list hx
 have hlen := r.length
 refine ⟨"list", _, slot_list_getitem.lookup, ht.isList.typeIs, ?_⟩
 refine wpAny_getItem_list_slice ht.isList hs pl pu .none (by simp) ?_ (by rw [List.size_toArray] <;> omega)
 rw [q9, <- hlen]
 refine ⟨.ref s.heap.objs.size, _, I.laid (t' := s.toks) (o := .lst (sd xs lo hi)) (fun b ob q => Heap.get?_push_of_some _ q) (Nat.le_refl _) ?_, rfl, q _ (I.bf.fresh (Nat.le_refl _))⟩
 exact ⟨Nat.le_trans (uf xs lo hi) hz, _, 0, (r.drop (HT.fN xs.length 0 lo)).take (HT.fN xs.length xs.length hi - HT.fN xs.length 0 lo), Heap.get?_push_size _ rfl⟩
theorem ip : fX X (.builtin "len") (fun xs H Q => ∃ p ys, xs = [.ref p] /\ (fW X.K H p ys \/ xJ X.K H p ys) /\ Q (.int ys.length) H) := by
 intro pins s σ H xs us Q I r h
 obtain ⟨p, ys, rfl, hq, q⟩ := h
 obtain ⟨u, rfl, rx⟩ := vals1 r
 cases rx
 have hn := lN
 rcases hq with hq | hq
 . obtain ⟨aV, r', pl, hz⟩ := I.list hq
   have hlen := r'.length
   exact Calls.call_len_list pl.isList (by simp only [List.size_toArray] <;> omega) ⟨.int ys.length, H, I.tok _, ⟨s.toks + 1, by rw [List.size_toArray, hlen]⟩, q⟩
 . obtain ⟨aV, r', pl, hz⟩ := I.tuple hq
   have hlen := r'.length
   exact len_tuple pl (by simp only [List.size_toArray] <;> omega) ⟨.int ys.length, H, I.tok _, ⟨s.toks + 1, by rw [List.size_toArray, hlen]⟩, q⟩
theorem sf : fX X (.builtin "len") (fun xs H Q => ∃ z, xs = [.str z] /\ z.length <= sizeLine /\ Q (.int z.length) H) := by
 intro pins s σ H xs us Q I r h
 obtain ⟨z, rfl, hz, q⟩ := h
 obtain ⟨u, rfl, t, rfl⟩ := vals1 r
 have hn := lN
 exact len_str (by omega) ⟨.int z.length, H, I.tok _, ⟨_, rfl⟩, q⟩
def Gg (K : PySem.W.Frag) (T : String) (x : V) (H : Hp) : Prop := match x with
 | .str _ => T = "str"
 | .int _ => T = "int"
 | .ref p => (T = "list" /\ ∃ xs, fW K H p xs) \/ (T = "tuple" /\ ∃ o, K.lookup p = some o /\ o.cls = .type "tuple" /\ o.dict = none) \/
  (T = "dict" /\ ((∃ d8, H p = some (.dK d8)) \/ ∃ d8, H p = some (.dT d8))) \/ (T = "set" /\ ∃ S n, H p = some (.set S n))
 | _ => False
theorem Az {pins : List (Addr × Obj)} {σ : St} {H : Hp} {s : Shared} {T : String} {x : V} {v : Value} (I : Inv X pins σ H s) (r : RelV x v) (ty : Gg X.K T x H) :
 s.TypeIs v T /\ ∀ a, v = .ref a -> ∃ ob, s.heap.get? a = some ob /\ ob.dict = none := by
 cases x with
 | str z =>
   obtain ⟨t, rfl⟩ := r
   cases (show T = "str" from ty)
   exact ⟨typeIs_str s z t, fun _ e => nomatch e⟩
 | int i =>
   obtain ⟨t, rfl⟩ := r
   cases (show T = "int" from ty)
   exact ⟨typeIs_int s i t, fun _ e => nomatch e⟩
 | ref p =>
   cases r
   rcases ty with ⟨rfl, xs, hq⟩ | ⟨rfl, o, hk, hc, hd⟩ | ⟨rfl, hk⟩ | ⟨rfl, S, n, hk⟩
   . obtain ⟨aV, _, pl, _⟩ := I.list hq
     refine ⟨pl.isList.typeIs, fun a e => ?_⟩
     cases e
     obtain ⟨o, n, e, c, hd, _⟩ := pl
     exact ⟨o, e, hd⟩
   . refine ⟨⟨o, I.iZ p o hk, hc⟩, fun a e => ?_⟩
     cases e
     exact ⟨o, I.iZ _ o hk, hd⟩
   . have z : ∃ o, s.heap.get? p = some o /\ o.ExactDict := by
      rcases hk with ⟨d8, hk⟩ | ⟨d8, hk⟩
      . obtain ⟨_, _, _, _, o, _, _, e, ex, _⟩ := I.bf p _ hk
        exact ⟨o, e, ex⟩
      . obtain ⟨_, _, _, _, o, _, _, e, ex, _⟩ := I.bf p _ hk
        exact ⟨o, e, ex⟩
     obtain ⟨o, e, ex⟩ := z
     refine ⟨⟨o, e, ex.1⟩, fun a e2 => ?_⟩
     cases e2
     exact ⟨o, e, ex.2.1⟩
   . obtain ⟨o, _, _, _, e, ex, _⟩ := I.bf p _ hk
     refine ⟨⟨o, e, ex.1⟩, fun a e2 => ?_⟩
     cases e2
     exact ⟨o, e, ex.2.1⟩
 | _ => exact False.elim ty
def JE (K : PySem.W.Frag) (T : String) (r : V -> List V -> Hp -> VK -> Prop) (to : TE) : TE := fun σ H Q => to σ H fun x H1 => Gg K T x H1 /\ r x [] H1 Q
def MB (K : PySem.W.Frag) (T : String) (r : V -> List V -> Hp -> VK -> Prop) (to : TE) (t : TA) : TE := fun σ H Q => to σ H fun x H1 => Gg K T x H1 /\ t σ H1 fun xs H2 => r x xs H2 Q
variable {o e : Expr} {es : List Expr} {to : TE} {t : TA} {name : Str} {apos dc : Pos} {T id : String} {r : V -> List V -> Hp -> VK -> Prop}
theorem Ez (pa : PlainAttrs T) (slot : Slot T name id) (Lr : typeOf (.builtin id) = pure (.type "method_descriptor")) (hm : IL X id r) (ho : PE X o to)
 (p9 : attributeBase o name X.env (eval o X.env) = eval o X.env := by rfl) (hline : (apos.endLine == dc.line) = true := by rfl) : PE X (.Call (.Attribute o name apos) [] [] dc) (JE X.K T r to) := by
 intro pins s σ H Q I h
 refine wpAny_Call_method0_late p9 hline (bP (ho pins s σ H _ I h) fun v s1 ⟨x, H1, I1, r1, ty, q1⟩ => ?_)
 obtain ⟨h1, h2⟩ := Az I1 r1 ty
 exact ⟨T, id, pa, slot, Lr, h1, h2, Calls.callWith_builtin rfl (PySem.evalArgs_none (hm pins s1 σ H1 x [] v [] Q I1 r1 .nil q1))⟩
theorem qh (pa : PlainAttrs T) (slot : Slot T name id) (Lr : typeOf (.builtin id) = pure (.type "method_descriptor")) (hm : IL X id r) (ho : PE X o to) (ha : PA X (e :: es) t)
 (p9 : attributeBase o name X.env (eval o X.env) = eval o X.env := by rfl)
 (Le : ((backTo dc (starEach (e :: es) X.env)).all (fun x => !x.1) && (backToKw dc (keywordEach [] X.env)).all (fun x => x.1.isSome)
  && decide ((e :: es).length + ([] : List Keyword).length + (if ([] : List Keyword).isEmpty then 0 else 1) < 30)) = true := by rfl)
 (hline : (apos.endLine == dc.line) = true := by rfl) (hs : starEach (e :: es) X.env = (false, eval e X.env) :: starEach es X.env := by rfl) (lK : (backTo dc (starEach es X.env)).any (·.1) = false := by rfl) :
 PE X (.Call (.Attribute o name apos) (e :: es) [] dc) (MB X.K T r to t) := by
 intro pins s σ H Q I h
 refine wpAny_Call_method_late p9 Le hline rfl (bP (ho pins s σ H _ I h) fun v s1 ⟨x, H1, I1, r1, ty, q1⟩ => ?_)
 obtain ⟨h1, h2⟩ := Az I1 r1 ty
 refine ⟨T, id, pa, slot, Lr, h1, h2, ?_⟩
 have hA := ha dc pins s1 σ H1 _ I1 q1
 rw [hs] at hA ⊢
 refine Calls.callWith_builtin (by show (false || (backTo dc (starEach es X.env)).any (·.1)) = false; rw [lK] <;> rfl) (Calls.evalArgs_plain ?_)
 exact bP hA fun us s2 ⟨vs, H2, I2, r2, q2⟩ => hm pins s2 σ H2 x vs v us Q I2 r1 r2 q2
end
def Mw (X : Cx) (id : String) (r : V -> List V -> Hp -> VK -> Prop) : Prop :=
 ∀ (pins : List (Addr × Obj)) (s : Shared) (σ : St) (H : Hp) (x : V) (xs : List V) (v : Value) (us : List Value) (Q : VK), Inv X pins σ H s -> RelV x v -> Vals xs us -> r x xs H Q ->
   wpAny (model X.prog X.w) X.A (call (.builtin id) (v :: us)) (EP X pins σ Q) X.xe s
theorem Vals.one : ∀ {x : V} {us : List Value}, Vals [x] us -> ∃ u, us = [u] /\ RelV x u
 | _, _, .cons r .nil => ⟨_, rfl, r⟩
theorem Vals.zero : ∀ {us : List Value}, Vals [] us -> us = []
 | _, .nil => rfl
theorem Vals.dropLast {xs : List V} {us : List Value} (h : Vals xs us) : Vals xs.dropLast us.dropLast := by
 induction h with
 | nil => exact .nil
 | cons r t ih =>
   cases t with
   | nil => exact .nil
   | cons q t' => exact .cons r ih
theorem Vals.reverse {xs : List V} {us : List Value} (h : Vals xs us) : Vals xs.reverse us.reverse := by
 induction h with
 | nil => exact .nil
 | cons r t ih => rw [List.reverse_cons, List.reverse_cons]; exact Vals.append ih (.cons r .nil)
section
variable {X : Cx} {pins : List (Addr × Obj)} {σ : St} {H : Hp} {s : Shared} {l b : Addr} {xs ys zs : List V}
theorem Inv.IH {aV its' : List Value} {n : Nat} {f : Array Value -> Array Value} {t' : Nat} (I : Inv X pins σ H s) (hH : H l = some (.lst xs))
 (e : s.heap.get? l = some { cls := .type "list", data := .seq aV.toArray n }) (hf : f aV.toArray = its'.toArray) (hv : Vals ys its') (hz : ys.length <= sizeLine) :
 Inv X pins σ (upd H l (.lst ys)) { s with heap := s.heap.update l (Obj.mapSeq f), toks := t' } := by
 have q := PySem.IsL.update e f
 rw [hf] at q
 refine I.write (x := l) (e := l) (by rw [hH]; exact trivial) (.inl rfl) (fun b' u hb hu => (Heap.get?_update_other s.heap (Obj.mapSeq f) (Ne.symm hb)).trans hu) ⟨_, q⟩ ?_
 exact ⟨hz, its', _, hv, q⟩
theorem Inv.Kp {aV : List Value} {t' : Nat} (I : Inv X pins σ H s) (hv : Vals ys aV) (hz : ys.length <= sizeLine) :
 Inv X pins σ (upd H s.heap.objs.size (.lst ys)) { s with heap := s.heap.push { cls := .type "list", data := .seq aV.toArray }, toks := t' } :=
 I.laid (fun _ _ q => Heap.get?_push_of_some _ q) (Nat.le_refl _) ⟨hz, aV, 0, hv, Heap.get?_push_size _ rfl⟩
theorem Inv.fresh (I : Inv X pins σ H s) : H s.heap.objs.size = none := I.bf.fresh (Nat.le_refl _)
theorem Inv.B4 (I : Inv X pins σ H s) (hH : H l = some (.lst xs)) : xs.length <= sizeLine /\ ∃ (aV : List Value) (n : Nat), Vals xs aV /\ xs.length = aV.length /\ s.heap.get? l = some { cls := .type "list", data := .seq aV.toArray n } := by
 obtain ⟨z, aV, n, r, e⟩ := I.bf l _ hH
 exact ⟨z, aV, n, r, r.length, e⟩
end
section
variable {X : Cx}
def wD : V -> List V -> Hp -> VK -> Prop := fun x vs H Q => ∃ l xs y, x = .ref l /\ vs = [y] /\ H l = some (.lst xs) /\ xs.length < sizeLine /\ Q .cn (upd H l (.lst (xs ++ [y])))
theorem xM : Mw X "list.append" wD := by
 intro pins s σ H x vs v us Q I rx rv h
 obtain ⟨l, xs, y, rfl, rfl, hH, hz, q⟩ := h
 cases rx
 obtain ⟨u, rfl, ru⟩ := rv.one
 obtain ⟨z, aV, n, r, hl, e⟩ := I.B4 hH
 refine call_meets F.slot_list_append ⟨_, e, rfl⟩ F.entry_list_append (F.args_list_append_2 _ _) (PySem.list_append l aV.toArray n u (by rw [List.size_toArray]; omega)) ⟨e, ?_⟩
 refine ⟨.cn, _, I.IH (its' := aV ++ [u]) hH e (by simp) (r.append (.cons ru .nil)) ?_, rfl, q⟩
 rw [List.length_append, List.length_singleton]
 omega
def uA : V -> List V -> Hp -> VK -> Prop := fun x vs H Q => ∃ l xs, x = .ref l /\ vs = [] /\ H l = some (.lst xs) /\ Q .cn (upd H l (.lst xs.reverse))
theorem vD : Mw X "list.reverse" uA := by
 intro pins s σ H x vs v us Q I rx rv h
 obtain ⟨l, xs, rfl, rfl, hH, q⟩ := h
 cases rx
 have Nw := rv.zero
 subst Nw
 obtain ⟨z, aV, n, r, hl, e⟩ := I.B4 hH
 refine call_meets F.slot_list_reverse ⟨_, e, rfl⟩ F.entry_list_reverse (F.args_list_reverse_1 _) (AutoSeq1.list_reverse_list_0 l aV.toArray n (by rw [List.size_toArray]; omega)) ⟨e, ?_⟩
 refine ⟨.cn, _, I.IH (its' := aV.reverse) hH e (by simp) r.reverse ?_, rfl, q⟩
 rw [List.length_reverse]
 omega
def E2 : R2 := fun x y H Q => ∃ l b xs zs, x = .ref l /\ y = .ref b /\ H l = some (.lst xs) /\ H b = some (.lst zs) /\ xs.length + zs.length <= sizeLine /\ ∀ p, H p = none -> Q (.ref p) (upd H p (.lst (xs ++ zs)))
theorem eS : jW X (binaryOp .Add) E2 := by
 intro pins s σ H x y v u Q I rx ry h
 obtain ⟨l, b, xs, zs, rfl, rfl, hH, hB, hz, q⟩ := h
 cases rx
 cases ry
 obtain ⟨z, aV, n, r, hl, e⟩ := I.B4 hH
 obtain ⟨z2, HZ, n2, r2, Ln, e2⟩ := I.B4 hB
 refine PySem.P.add_list e e2 ?_ (by rw [List.size_toArray, List.size_toArray]; omega)
 have ea : aV.toArray ++ HZ.toArray = (aV ++ HZ).toArray := by simp
 rw [ea]
 exact ⟨.ref _, _, I.Kp (t' := s.toks) (r.append r2) (by rw [List.length_append]; omega), rfl, q _ I.fresh⟩
end
section
variable {prog : Program} {w : World} {A : Around} {E : Value -> Shared -> Prop} {s : Shared}
set_option maxRecDepth 100000 in
end
section
variable {X : Cx}
end
section
variable {κ : Type} [DecidableEq κ]
def ug (d8 : List (κ × V)) (k : κ) : Option V := (d8.find? fun kv => decide (kv.1 = k)).map (·.2)
theorem z8 {p : κ × V} {r : List (κ × V)} {k : κ} (e : p.1 = k) : ug (p :: r) k = some p.2 := by simp [ug, List.find?_cons, e]
theorem zT {p : κ × V} {r : List (κ × V)} {k : κ} (e : ¬ p.1 = k) : ug (p :: r) k = ug r k := by simp [ug, List.find?_cons, e]
theorem my.xI {o : Option V} {u : Option Value} (r : my o u) : o.isSome = u.isSome := by
 cases o with
 | none => cases u with
   | none => rfl
   | some _ => exact (show False from r).elim
 | some _ => cases u with
   | none => exact (show False from r).elim
   | some _ => rfl
theorem KV.val {d8 : List (κ × V)} {vs : List (κ × Value)} (r : KV d8 vs) (k : κ) : my (ug d8 k) (valueAt vs k) := by
 unfold KV at r
 induction r with
 | nil => exact True.intro
 | @cons p q ps qs h t ih =>
   obtain ⟨h1, h2⟩ := h
   by_cases e : p.1 = k
   . have e' : q.1 = k := h1.symm.trans e
     have b : valueAt (q :: qs) k = some q.2 := by simp [valueAt, List.find?_cons, e']
     rw [z8 e, b]; exact h2
   . have e' : ¬ q.1 = k := fun z => e (h1.trans z)
     have b : valueAt (q :: qs) k = valueAt qs k := by simp [valueAt, List.find?_cons, e']
     rw [zT e, b]; exact ih
end
theorem Ea {P : Program} {w : World} {k : Key} {u : Value} (r : RelV (kV k) u) : (eB P w).is k u = true := by
 cases k with
 | inl i => obtain ⟨t, e⟩ := (show ∃ t, u = Value.int i t from r); subst e; exact tK P w i t
 | inr x => obtain ⟨t, e⟩ := (show ∃ t, u = Value.str x t from r); subst e; exact uc P w x t
section
variable {P : Program} {w : World} {H : Hp} {h : Heap} {a : Addr}
end
section
variable {X : Cx} {pins : List (Addr × Obj)} {σ : St} {H : Hp} {s : Shared} {a : Addr} {y v : V} {u r : Value} {o : Option V} {A : Around} {E : Value -> Shared -> Prop}
end
section
variable {X : Cx} {pins : List (Addr × Obj)} {σ : St} {H : Hp} {s : Shared} {a : Addr} {d8 : List (Key × V)} {k : Key} {u : Value} {A : Around} {E : Value -> Shared -> Prop}
end
def IY (i : Expr) : Prop := ∀ ov iv, subscripted i false ov iv = operate [ov, iv] (getItem ov iv)
theorem Bs {prog : Program} {w : World} {A : Around} {E : Value -> Shared -> Prop} {s : Shared} {env : Env} {value slice : Expr} {pos : Pos} {T id : String} {Q : Value -> Shared -> Prop}
 (hl : typeLookup (.type T) "__getitem__" = pure (some (.builtin id))) (hs : IY slice)
 (h : wpAny (model prog w) A (eval value env) (fun o s₁ => wpAny (model prog w) A (eval slice env) (fun i s₂ => s₂.TypeIs o T /\ wpAny (model prog w) A (getItem o i) Q E s₂) E s₁) E s) :
 wpAny (model prog w) A (eval (.Subscript value slice pos) env) Q E s := by
 refine Subscript_ (wpAny_mono h (fun o s₁ h₁ => wpAny_mono h₁ (fun i s₂ h₂ => ?_) fun _ _ x => x) fun _ _ x => x)
 obtain ⟨hT, h₂⟩ := h₂
 unfold subscriptTail
 refine wpAny_bind ?_
 rw [getitemInPython_of_ne hT.not_modules]
 refine wpAny_bind (wpAny_specialOf hT hl ?_)
 have fin : wpAny (model prog w) A (subscripted slice false o i) (fun r s₃ => wpAny (model prog w) A (letTemporaryGo value o r >>= fun _ => pure r) Q E s₃) E s₂ := by
  rw [hs o i]
  exact wpAny_operating (wpAny_mono h₂ (fun r s₃ h₃ => wpAny_bind (wpAny_letTemporaryGo (wpAny_pure h₃))) fun _ _ x => x)
 first
  | exact wpAny_pure (wpAny_bind fin)
  | exact wpAny_bind (wpAny_pure (wpAny_bind fin))
  | exact wpAny_bind fin
section
variable {X : Cx} {o i e value : Expr} {pos pos' LN : Pos} {td ty tv : TE}
end
section
variable {X : Cx} {pos : Pos}
end
structure M1 (X : Cx) (o : Expr) (m : Str) (apos : Pos) (e : Expr) (dc : Pos) : Prop where
 base : attributeBase o m X.env (eval o X.env) = eval o X.env
 few : ((backTo dc (starEach [e] X.env)).all (fun x => !x.1) && (backToKw dc (keywordEach [] X.env)).all (fun x => x.1.isSome)
  && decide (([e] : List Expr).length + ([] : List Keyword).length + (if ([] : List Keyword).isEmpty then 0 else 1) < 30)) = true
 line : (apos.endLine == dc.line) = true
 trees : backTo dc (starEach [e] X.env) = [(false, eval e X.env)]
structure M2 (X : Cx) (o : Expr) (m : Str) (apos : Pos) (e f : Expr) (dc : Pos) : Prop where
 base : attributeBase o m X.env (eval o X.env) = eval o X.env
 few : ((backTo dc (starEach [e, f] X.env)).all (fun x => !x.1) && (backToKw dc (keywordEach [] X.env)).all (fun x => x.1.isSome)
  && decide (([e, f] : List Expr).length + ([] : List Keyword).length + (if ([] : List Keyword).isEmpty then 0 else 1) < 30)) = true
 line : (apos.endLine == dc.line) = true
 trees : backTo dc (starEach [e, f] X.env) = [(false, eval e X.env), (false, eval f X.env)]
section
variable {X : Cx} {pins : List (Addr × Obj)} {σ : St} {H : Hp} {s : Shared} {a : Addr} {y d : V} {u r : Value} {o : Option V} {A : Around} {E : Value -> Shared -> Prop}
end
section
variable {X : Cx} {o e f : Expr} {apos dc : Pos} {td ty tx : TE}
end
section
variable {X : Cx} {pins : List (Addr × Obj)} {σ : St} {H : Hp} {s : Shared} {a : Addr} {d8 : List (Key × V)} {A : Around} {E : Value -> Shared -> Prop}
end
section
variable {X : Cx} {pins : List (Addr × Obj)} {σ : St} {H : Hp} {s : Shared} {a : Addr} {y : V} {u : Value} {A : Around} {E : Value -> Shared -> Prop}
end
end L2
namespace MH
open PySem PySem.W PySem.Calls PyProof.Rows
theorem pd {P : Params} {h : Heap} : ∀ (ns : List Int) (vs : List Value), WellAll P h vs (ns.map WData.int) -> IntsAre vs ns := by
 intro ns
 induction ns with
 | nil =>
   intro vs w
   rw [List.map_nil] at w
   cases w
   exact .nil
 | cons n ns ih =>
   intro vs w
   rw [List.map_cons] at w
   cases w with
   | cons a b =>
     cases a
     exact .cons _ _ (ih _ b)
theorem xU {l : OpenLaw} {n : Nat} (hn : l.most = some n) {P : Params} {h : Heap} {args : List WData} {vals : List Value}
 (BO : l.row.toRowW.claim.pre args = true) (Gn : WellAll P h vals args) :
 ∃ a vs ns, vals = [Value.ref a] /\ args = [WData.list (ns.map WData.int)] /\ h.get? a = some { cls := .type "list", data := .seq vs.toArray } /\ IntsAre vs ns /\ ns.length <= n := by
 have Nu : WShape.hasAll [] args [.list .int] = true := (pre_splitW BO).1
 have hc : l.pre.holds [] { args := args } = true := (pre_splitW BO).2
 obtain ⟨d, r, rfl, h1, h2⟩ := hasAllW_cons Nu
 obtain rfl := hasAllW_nil h2
 obtain ⟨xs, rfl, h3⟩ := hasW_list h1
 obtain ⟨ns, rfl⟩ := items_int h3
 have hlen : ns.length <= n := by
  unfold OpenLaw.pre at hc
  have h4 : (WTm.not (.lt (.lit (.int (n : Int))) (.len (.arg 0)))).holds [] { args := [.list (ns.map .int)] } = true := by
   have h4 := (holds_andW hc).1
   rw [hn] at h4
   exact h4
  have h5 := condW_of h4 (w_not (w_lt w_lit (w_len_list (w_arg rfl))))
  rw [List.length_map] at h5
  refine Nat.le_of_not_lt fun q => ?_
  have q' : (n : Int) < ((ns.length : Nat) : Int) := by omega
  first
   | (rw [decide_eq_true q'] at h5; exact absurd h5 (by decide))
   | (simp at h5; omega)
 cases Gn with
 | cons w1 w2 =>
   cases w2
   cases w1 with
   | list ho gF => exact ⟨_, _, ns, rfl, rfl, ho, pd ns _ gF, hlen⟩
theorem x5 (l : OpenLaw) (args : List WData) : l.row.toRowW.claim.post args (.bool true) args = true :=
 postW_of (r := l.row.toRowW) (X := (true == true))
  (show WShape.has [] (.bool true) .bool = true by first | rfl | decide | simp [WShape.has, WShape.arms, WShape.armsAll])
  (show (WTm.eq .res (.lit (.bool true))).value [] { args := args, res := some (.bool true), after := args } = some (.bool (true == true)) from w_eq_bool (w_res rfl) w_lit) rfl
theorem t4 {l : OpenLaw} {n : Nat} {q : Program} {loose : List Str} {XP : (Str -> Option Value) -> Heap -> Prop} {YP : World -> Heap -> Prop} {d : DefRec}
 (hn : l.most = some n) (Ic : d.params.defaults = [])
 (call : ∀ (w : World) (cJ s₁ : Shared) (mg mb : Str -> Option Value) (fa : Addr) (o : Obj) (pm cd doc : Value) (a : Addr) (vs : List Value) (ns : List Int),
  Ground q loose [] XP w cJ mg mb s₁.heap -> YP w s₁.heap ->
  s₁.heap.get? fa = some o -> o.data = .func (docDef d.name d.params d.body d.scope pm cd doc) -> s₁.heap.CodeRec cd d.name -> mg d.name = some (.ref fa) ->
  s₁.heap.get? a = some { cls := .type "list", data := .seq vs.toArray } -> IntsAre vs ns -> ns.length <= n -> s₁.gens = #[] ->
  codeAny (model l.prog w) callerA (.call (.ref fa) ⟨[.ref a], []⟩) (fun r s' => r = .ok (.ret (.bool true)) /\ OldK s₁.heap s'.heap /\ s'.os = s₁.os /\ AllBare s'.gens) s₁) :
 WalkO q loose XP YP l.row.toRowW d [] (fun f vs => PySem.call f vs) := by
 intro w cJ s₁ mg mb G Y fa o pm cd doc dV kV ho hd uM hD Jp hg args vals as BO OD PF Gn Pj
 obtain rfl : dV = .none := Dflts.none hD Ic
 obtain rfl : kV = .none := Dflts.noKw hD
 obtain ⟨a, vs, ns, rfl, rfl, EY, hints, hlen⟩ := xU hn BO Gn
 refine enter_call (codeAny_mono (call w cJ s₁ mg mb fa o pm cd doc a vs ns G Y ho (fd_plain hd) uM Jp EY hints hlen hg) fun r s' hq => ?_)
 obtain ⟨rfl, h2, h3, h4⟩ := hq
 exact ⟨.inl ⟨.bool true, .bool true, [], rfl, fun _ => rfl, .bool true, x5 l _, fun _ => ⟨List.Pairwise.nil, fun _ hm => (nomatch hm)⟩⟩, h2, h3, h4⟩
section
variable {prog : Program} {w : World} {A : Around} {E : Value -> Shared -> Prop} {s : Shared} {K : Frag}
end
end MH
namespace L2
open PySem PySem.Spec PyProof.Rows
theorem rj : ∀ {vs : List Value} {ns : List Int}, IntsAre vs ns -> Vals (ns.map V.int) vs
 | _, _, .nil => .nil
 | _, _, .cons n t h => .cons ⟨t, rfl⟩ (rj h)
def BF (H : Hp) : Prop := ∀ b, H b = none \/ ∃ o xs, H b = some (.uN o (.lst xs))
theorem AY {P : Program} {w : World} {K : PySem.W.Frag} {mg mb : Str -> Option Value} {CX : qe} {k : Nat} {fa a : Addr} {fd : FuncData} {x : Str} {sp : Sp} {s₁ : Shared} {vs : List Value} {ns : List Int}
 (KX : K.In s₁.heap) (F3 : s₁.heap.Ns mainGlobals mg) (hb : s₁.heap.Ns builtinsNs mb) (NU : ∀ x : Str, x ≠ "__name__" -> mb x = bootBuiltins x) (Lg : s₁.heap.NoLimit) (hg : s₁.gens = #[])
 (ha : s₁.heap.get? a = some { cls := .type "list", data := .seq vs.toArray }) (hi : IntsAre vs ns) (hl : ns.length <= sizeLine) (hr : c6 k callerA)
 (F : ∀ base : Heap, K.In base -> base.Ns mainGlobals mg -> bh P w K mg base CX k fa fd [x] sp) (HU : ∀ (s : Shared) (u : Value), BindsTo s fd ⟨[u], []⟩ [(x, u)])
 (pZ : ∀ H : Hp, BF H -> fW K H a (ns.map V.int) -> sp [.ref a] H (fun v _ => v = .bl true) fun _ _ _ => False)
 (Jj : ∀ H e s', CX [] H s₁ (fun _ _ _ => False) e s' -> False) :
 codeAny (model P w) callerA (.call (.ref fa) ⟨[.ref a], []⟩) (fun r s' => r = .ok (.ret (.bool true)) /\ OldK s₁.heap s'.heap /\ s'.os = s₁.os /\ AllBare s'.gens) s₁ := by
 have rv := rj hi
 have Kl := hi.length
 have core : ∀ H : Hp, BF H -> fW K H a (ns.map V.int) -> lS P w H s₁.heap -> (∀ b, H b ≠ none -> b = a) -> (H a ≠ none -> K.lookup a = none) ->
  codeAny (model P w) callerA (.call (.ref fa) ⟨[.ref a], []⟩) (fun r s' => r = .ok (.ret (.bool true)) /\ OldK s₁.heap s'.heap /\ s'.os = s₁.os /\ AllBare s'.gens) s₁ := by
  intro H hO hS bf hA hK
  have wx : ∀ {b : Addr} {o : Obj}, s₁.heap.get? b = some o -> H b = none -> (tf s₁.heap H).get? b = some o := fun e n => z7 e n
  have IP : ∀ {b : Addr} {o : Obj} {es : Array DictEntry} {ep : Nat}, s₁.heap.get? b = some o -> o.data = .dict es ep -> H b = none := fun {b o es ep} e d => by
   cases q : H b with
   | none => rfl
   | some u =>
     have e' : b = a := hA b (by rw [q]; simp)
     subst e'
     rw [ha] at e; cases e
     have d' : Data.seq vs.toArray _ = Data.dict es ep := d
     cases d'
  have JQ : ∀ {b : Addr} {m : Str -> Option Value}, s₁.heap.Ns b m -> (tf s₁.heap H).Ns b m := fun {b m} ⟨o, es, ep, e, d, r⟩ => ⟨o, es, ep, wx e (IP e d), d, r⟩
  have MO : K.In (tf s₁.heap H) := fun b o e => wx (KX b o e) (by
   cases q : H b with
   | none => rfl
   | some u =>
     have e' : b = a := hA b (by rw [q]; simp)
     subst e'
     rw [hK (by rw [q]; simp)] at e; cases e)
  have hM : Mod K mg (tf s₁.heap H) := ⟨MO, JQ F3, ⟨mb, JQ hb, NU⟩, let ⟨mc, h1, h2⟩ := Lg; ⟨mc, JQ h1, h2⟩⟩
  have e0 : uR P w K mg (tf s₁.heap H) callerA [] s₁ H := ⟨rfl, hM, fun b o e => BX e, Nat.le_of_eq (yk _ _), trivial, fun b hb => absurd (show b ∈ ([] : List Addr) from hb) (by simp), bf, .of_eq hg⟩
  refine codeAny_mono ((F _ MO (JQ F3)).run callerA [] s₁ H ⟨[.ref a], []⟩ [.ref a] [.ref a] _ _ hr e0 (HU s₁ (.ref a)) (.cons rfl .nil) (pZ H hO hS)) fun r s' h => ?_
  cases r with
  | error e => exact (Jj H e s' h).elim
  | ok fl =>
    cases fl with
    | next => exact False.elim h
    | brk => exact False.elim h
    | cont => exact False.elim h
    | ret u =>
      obtain ⟨v, H', os, bare, un, Kf, r', q⟩ := h
      have q' : v = .bl true := q
      subst q'
      obtain rfl : u = Value.bool true := r'
      refine ⟨rfl, OldK.of_keep fun b o e => ?_, os, bare⟩
      cases q : H b with
      | none => exact un.keep b o e q (by intro z; exact absurd (show b ∈ ([] : List Addr) from z) (by simp)) (by simp)
      | some u =>
        rcases hO b with z | ⟨ob, xs, z⟩
        . rw [q] at z; cases z
        . have z2 := un.jB b ob _ z
          obtain ⟨e1, _⟩ := bf b _ z
          obtain ⟨e2, _⟩ := Kf b _ z2
          rw [e] at e1; cases e1
          exact e2
 cases hk : K.lookup a with
 | some o =>
   have e := KX a o hk
   rw [ha] at e
   cases e
   refine core (fun _ => none) (fun _ => .inl rfl) (.inr ⟨_, vs.toArray, _, hk, rfl, rfl, rfl, by rw [List.size_toArray, Kl]; exact hl, by simpa using rv⟩) (fun b u z => by have z' : (none : Option HO) = some u := z; cases z') (fun b z => absurd rfl z) fun z => absurd rfl z
 | none =>
   refine core (fun b => if b = a then some (.uN { cls := .type "list", data := .seq vs.toArray } (.lst (ns.map V.int))) else none) (fun b => ?_) (.inl (.inr ⟨{ cls := .type "list", data := .seq vs.toArray }, if_pos rfl⟩)) (fun b u z => ?_) (fun b z => ?_) fun _ => hk
   . by_cases hb : b = a
     . exact .inr ⟨_, _, if_pos hb⟩
     . exact .inl (if_neg hb)
   . by_cases hb : b = a
     . have z' := (if_pos hb).symm.trans z
       cases z'
       subst hb
       exact ⟨ha, by rw [List.length_map]; exact hl, vs, _, rv, ha⟩
     . have z' := (if_neg hb).symm.trans z
       cases z'
   . by_cases hb : b = a
     . exact hb
     . exact absurd (if_neg hb) z
abbrev JM {K : PySem.W.Frag} {h : Heap} (_ : K.In h) : PySem.W.Frag := K
theorem Ci {l : PySem.W.OpenLaw} {n k : Nat} {q : Program} {loose : List Str} {XP : (Str -> Option Value) -> Heap -> Prop} {YP : World -> Heap -> Prop} {d : DefRec} {K : Params -> PySem.W.Frag} {CX : World -> qe} {sp : World -> Sp} {x : Str}
 (hn : l.most = some n) (G1 : n <= sizeLine) (Ic : d.params.defaults = []) (hr : c6 k callerA)
 (hY : ∀ (w : World) (h : Heap), YP w h -> (K w.params).In h)
 (F : ∀ (w : World) (mg : Str -> Option Value) (fa : Addr) (h : Heap), (K w.params).In h -> h.Ns mainGlobals mg -> mg d.name = some (.ref fa) ->
  ∃ fd : FuncData, (∀ (s : Shared) (u : Value), BindsTo s fd ⟨[u], []⟩ [(x, u)]) /\
    ∀ base : Heap, (K w.params).In base -> base.Ns mainGlobals mg -> bh l.prog w (K w.params) mg base (CX w) k fa fd [x] (sp w))
 (pZ : ∀ (w : World) (H : Hp) (a : Addr) (ns : List Int), ns.length <= n -> BF H -> fW (K w.params) H a (ns.map V.int) -> sp w [.ref a] H (fun v _ => v = .bl true) fun _ _ _ => False)
 (Jj : ∀ (w : World) (H : Hp) (s : Shared) (e : Value) (s' : Shared), CX w [] H s (fun _ _ _ => False) e s' -> False) :
 PySem.W.WalkO q loose XP YP l.row.toRowW d [] (fun f vs => PySem.call f vs) := by
 refine MH.t4 hn Ic fun w cJ s₁ mg mb fa o pm cd doc a vs ns G Y ho hd uM Jp EY hints hlen hg => ?_
 have KX := hY w _ Y
 obtain ⟨fd, hb, hF⟩ := F w mg fa _ KX G.T.g Jp
 exact AY KX G.T.g G.T.b G.T.builtins G.T.nolimit hg EY hints (Nat.le_trans hlen G1) hr hF hb (fun H hO hS => pZ w H a ns hlen hO hS) fun H e s' => Jj w H s₁ e s'
theorem yQ {l : PySem.W.OpenLaw} {n k : Nat} {q : Program} {loose : List Str} {XP : (Str -> Option Value) -> Heap -> Prop} {YP : World -> Heap -> Prop} {d : DefRec} {K : Params -> PySem.W.Frag} {CX : qe} {sp : PySem.W.Frag -> Sp} {x : Str}
 (hn : l.most = some n) (G1 : n <= sizeLine) (Ic : d.params.defaults = []) (hr : c6 k callerA)
 (hY : ∀ (w : World) (h : Heap), YP w h -> (K w.params).In h)
 (F : ∀ (w : World) (mg : Str -> Option Value) (fa : Addr) (h : Heap), (K w.params).In h -> h.Ns mainGlobals mg -> mg d.name = some (.ref fa) ->
  ∃ fd : FuncData, (∀ (s : Shared) (u : Value), BindsTo s fd ⟨[u], []⟩ [(x, u)]) /\
    ∀ base : Heap, (K w.params).In base -> base.Ns mainGlobals mg -> bh l.prog w (K w.params) mg base CX k fa fd [x] (sp (K w.params)))
 (pZ : ∀ (K : PySem.W.Frag) (H : Hp) (a : Addr) (ns : List Int), ns.length <= n -> BF H -> fW K H a (ns.map V.int) -> sp K [.ref a] H (fun v _ => v = .bl true) fun _ _ _ => False)
 (Jj : ∀ (H : Hp) (s : Shared) (e : Value) (s' : Shared), CX [] H s (fun _ _ _ => False) e s' -> False) :
 PySem.W.WalkO q loose XP YP l.row.toRowW d [] (fun f vs => PySem.call f vs) :=
 Ci (K := K) (CX := fun _ => CX) (sp := fun w => sp (K w.params)) hn G1 Ic hr hY F (fun w H a ns h1 h2 h3 => pZ (K w.params) H a ns h1 h2 h3) fun _ H s e s' => Jj H s e s'
def inClass (s : Stmt) (j : Nat) : Stmt := match s with
 | .ClassDef _ _ _ body _ _ _ _ _ _ _ => body.getD j (.Pass ⟨0, 0, 0, 0⟩)
 | _ => .Pass ⟨0, 0, 0, 0⟩
def mR (s : Stmt) : Arguments := match s with
 | .FunctionDef _ a _ _ _ _ _ _ _ _ => a
 | _ => { posonlyargs := [], args := [], vararg := none, kwonlyargs := [], kw_defaults := [], kwarg := none, defaults := [] }
def gx (s : Stmt) : List Stmt := match s with
 | .FunctionDef _ _ b _ _ _ _ _ _ _ => b
 | _ => []
def ak (s : Stmt) : Scope := match s with
 | .FunctionDef _ _ _ _ _ _ sc _ _ _ => sc
 | _ => { kind := .function, names := [], isGenerator := false, isCoroutine := false }
abbrev qM : qe := fun _ _ _ _ _ _ => False
abbrev E0 : XK := fun _ _ _ => False
theorem DN {X : Cx} : Passes qM X E0 := fun _ _ _ _ _ _ _ h => h.elim
structure PH (K : PySem.W.Frag) (x qual : Str) (st : Stmt) (f : Addr) (fd : FuncData) : Prop where
 ex : ∃ (oc : Value) (od : Option Addr) (kV doc pm : Value) (an : Option Addr) (dk ct : Value) (yc : Array (Option Value)),
  fd = PySem.W.fnOf x qual (mR st) (gx st) (ak st) .none kV doc pm an dk ct /\ K.lookup f = some ⟨oc, od, .func fd, yc⟩ /\ PySem.W.codeIn K dk qual = true
 kp : PySem.W.keepIn K (.ref f) = true
section
variable {P : Program} {w : World} {K : PySem.W.Frag} {mg : Str -> Option Value} {base : Heap}
end
section
variable {X : Cx}
theorem pv (i : Nat) {x : Str} {pos : Pos} (hN : X.N[i]? = some x := by rfl) (hv : GW X.env.scope x := by first | exact Or.inl rfl | exact Or.inr (Or.inl rfl) | exact Or.inr (Or.inr rfl)) (hd : (x == ("__debug__" : Str)) = false := by decide)
 (uM : (x == ("__classdict__" : Str)) = false := by decide) : PE X (.Name x pos) (FV i) := FN hN hv hd uM
end
theorem LC {A B : Prop} (h : B) : if false = true then A else B := by
 rw [if_neg Bool.false_ne_true]
 exact h
theorem Lj {A B : Prop} (h : A) : if true = true then A else B := by
 rw [if_pos rfl]
 exact h
def ao (H H' : Hp) : Prop := ∀ b o, H b = some o -> H' b = some o
theorem ao.refl (H : Hp) : ao H H := fun _ _ h => h
theorem ao.trans {H H1 H2 : Hp} (a : ao H H1) (b : ao H1 H2) : ao H H2 := fun c o h => b c o (a c o h)
theorem ao.seq {K : PySem.W.Frag} {H H' : Hp} {a : Addr} {xs : List V} (e : ao H H') (h : fW K H a xs) : fW K H' a xs := by
 rcases h with (h | ⟨o, h⟩) | h
 . exact .inl (.inl (e _ _ h))
 . exact .inl (.inr ⟨o, e _ _ h⟩)
 . exact .inr h
section
variable {κ : Type} [DecidableEq κ]
end
section
variable {X : Cx}
def Du (_ j : Int) : Prop := 0 < j /\ j.natAbs < 2 ^ 2000
theorem fw : jW X (binaryOp .FloorDiv) (rI Du fun i j => .int (i / j)) := Ma fun i j _ _ _ _ _ hc q => by
 have e : i.fdiv j = i / j := Int.fdiv_eq_ediv_of_nonneg _ (Int.le_of_lt hc.1)
 have hl : j.natAbs.log2 < 9000 := by
  have h0 : j.natAbs ≠ 0 := by have := hc.1; omega
  have h2 : j.natAbs.log2 < 2000 := (Nat.log2_lt h0).mpr hc.2
  omega
 refine floordiv_int (by have := hc.1; omega) ?_ (.inl (PyProof.noPylong_of_log2 hl))
 rw [e]; exact q
inductive CW : V -> Value -> Prop where
 | ty (n : String) : CW (.ty n) (.type n)
 | ref (C : Addr) : CW (.ref C) (.ref C)
def zA (K : PySem.W.Frag) : List V -> Hp -> VK -> Prop := fun xs H Q => ∃ x c cv t b, xs = [x, c] /\ CW c cv /\ mI K H x t /\ PySem.W.kitOne K t cv = some b /\ Q (.bl b) H
theorem ni : fX X (.builtin "isinstance") (zA X.K) := by
 intro pins s σ H xs us Q I r h
 obtain ⟨x, c, cv, t, b, rfl, hc, ty, e, q⟩ := h
 obtain ⟨u, w', rfl, r1, r2⟩ := vals2 r
 have ew : w' = cv := by cases hc <;> exact r2
 subst ew
 exact yF I r1 ty e fun tk => ⟨.bl b, H, I.tok tk, rfl, q⟩
structure A2 (K : PySem.W.Frag) (C : Addr) (m : Str) (f : Addr) : Prop where
 ga : PySem.W.specialIn K (.ref C) "__getattribute__" = some (some (.builtin "type.__getattribute__"))
 rd : PySem.W.readsIn K C (.type "type") = true
 fd : PySem.W.findCls K (.ref C) (.type "type") m = some (.val (.ref f))
 kp : PySem.W.keepIn K (.ref f) = true
end
mutual
inductive jU (K : PySem.W.Frag) (H : Hp) : V -> PyData -> Prop where
 | cn : jU K H .cn .none
 | bl (b : Bool) : jU K H (.bl b) (.bool b)
 | int (i : Int) : jU K H (.int i) (.int i)
 | str (x : Str) : jU K H (.str x) (.str x)
 | tup {a : Addr} {xs : List V} {ds : List PyData} (h : xJ K H a xs) (r : eI K H xs ds) : jU K H (.ref a) (.tuple ds)
 | lst {a : Addr} {xs : List V} {ds : List PyData} (h : fW K H a xs) (r : eI K H xs ds) : jU K H (.ref a) (.list ds)
inductive eI (K : PySem.W.Frag) (H : Hp) : List V -> List PyData -> Prop where
 | nil : eI K H [] []
 | cons {x : V} {d : PyData} {xs : List V} {ds : List PyData} (h : jU K H x d) (r : eI K H xs ds) : eI K H (x :: xs) (d :: ds)
end
theorem xJ.keeps {K : PySem.W.Frag} {H H' : Hp} {a : Addr} {xs : List V} (e : ao H H') (h : xJ K H a xs) : xJ K H' a xs := by
 rcases h with (h | ⟨o, h⟩) | h
 . exact .inl (.inl (e _ _ h))
 . exact .inl (.inr ⟨o, e _ _ h⟩)
 . exact .inr h
mutual
theorem jU.keeps {K : PySem.W.Frag} {H H' : Hp} (e : ao H H') : ∀ {v : V} {d : PyData}, jU K H v d -> jU K H' v d
 | _, _, .cn => .cn
 | _, _, .bl b => .bl b
 | _, _, .int i => .int i
 | _, _, .str x => .str x
 | _, _, .tup h r => .tup (xJ.keeps e h) (eI.keeps e r)
 | _, _, .lst h r => .lst (ao.seq e h) (eI.keeps e r)
theorem eI.keeps {K : PySem.W.Frag} {H H' : Hp} (e : ao H H') : ∀ {vs : List V} {ds : List PyData}, eI K H vs ds -> eI K H' vs ds
 | _, _, .nil => .nil
 | _, _, .cons h r => .cons (jU.keeps e h) (eI.keeps e r)
end
section
variable {X : Cx} {pins : List (Addr × Obj)} {σ : St} {H : Hp} {s : Shared}
mutual
theorem jU.reads (I : Inv X pins σ H s) : ∀ {v : V} {d : PyData} {u : Value}, jU X.K H v d -> RelV v u -> ∃ as, Reads s.heap u d as
 | _, _, _, .cn, r => by cases r; exact ⟨_, .none⟩
 | _, _, _, .bl b, r => by cases r; exact ⟨_, .bool b⟩
 | _, _, _, .int i, r => by obtain ⟨t, rfl⟩ := r; exact ⟨_, .int i t⟩
 | _, _, _, .str x, r => by obtain ⟨t, rfl⟩ := r; exact ⟨_, .str x t⟩
 | _, _, _, .tup h q, r => by
   cases r
   obtain ⟨aV, rv, ⟨o, h1, h2, n, h3⟩, _⟩ := I.tuple h
   obtain ⟨as, ra⟩ := eI.reads I q rv
   exact ⟨_, .tuple h1 h2 h3 (by simpa using ra)⟩
 | _, _, _, .lst h q, r => by
   cases r
   obtain ⟨aV, rv, ⟨o, n, h1, h2, _, h3⟩, _⟩ := I.list h
   obtain ⟨as, ra⟩ := eI.reads I q rv
   exact ⟨_, .list h1 h2 h3 (by simpa using ra)⟩
theorem eI.reads (I : Inv X pins σ H s) : ∀ {vs : List V} {ds : List PyData} {us : List Value}, eI X.K H vs ds -> Vals vs us -> ∃ as, ReadsAll s.heap us ds as
 | _, _, _, .nil, r => by cases r; exact ⟨_, .nil⟩
 | _, _, _, .cons h q, r => by
   cases r with
   | cons r1 r2 =>
     obtain ⟨as, ra⟩ := jU.reads I h r1
     obtain ⟨bs, rb⟩ := eI.reads I q r2
     exact ⟨_, .cons ra rb⟩
end
end
section
variable {X : Cx}
def JG (K : PySem.W.Frag) (f : Bool -> Bool) : R2 := fun x y H Q => ∃ d e, jU K H x d /\ jU K H y e /\ d.canLay0 = true /\ e.canLay0 = true /\ d.depth <= 8 /\ Q (.bl (f (PyData.eqv d e))) H
theorem Fv (hu : X.A.units + 8 < cLine) : jW X (compareOp .Eq) (JG X.K id) := by
 intro pins s σ H x y v u Q I rx ry h
 obtain ⟨d, e, hd, he, c1, c2, hn, q⟩ := h
 obtain ⟨as, ra⟩ := hd.reads I rx
 obtain ⟨bs, rb⟩ := he.reads I ry
 exact SeqAt.compareEq_reads ra rb c1 c2 (by have := Nat.min_le_left d.depth e.depth; omega) ⟨.bl _, H, I, rfl, q⟩
theorem Fb (hu : X.A.units + 8 < cLine) : jW X (compareOp .NotEq) (JG X.K not) := by
 intro pins s σ H x y v u Q I rx ry h
 obtain ⟨d, e, hd, he, c1, c2, hn, q⟩ := h
 obtain ⟨as, ra⟩ := hd.reads I rx
 obtain ⟨bs, rb⟩ := he.reads I ry
 exact SeqAt.compareNe_reads ra rb c1 c2 (by have := Nat.min_le_left d.depth e.depth; omega) ⟨.bl _, H, I, rfl, q⟩
end
structure qO (P : Program) (w : World) (K : PySem.W.Frag) (mg : Str -> Option Value) (base : Heap) (k : Nat) (f : Addr) (ps : List Str) (cV : List V) (sp : Sp) : Prop where
 ex : ∃ (fd : FuncData) (ds : List Value), bh P w K mg base qM k f fd ps sp /\ Binds K fd ps ds /\ Vals cV ds
section
variable {X : Cx} {k : Nat} {f C : Addr} {ps : List Str} {sp : Sp} {cV : List V} {x m : Str} {p pos apos : Pos} {e o : Expr} {es : List Expr} {ta : TE} {t : TA}
theorem Dp (c : qO X.prog X.w X.K X.mg X.base k f ps cV sp) (hr : c6 k X.A) (hg : Gl X x) (hm : X.mg x = some (.ref f)) (hk : PySem.W.keepIn X.K (.ref f) = true)
 (ha : PA X (e :: es) t) (pA : (x == ("__debug__" : Str)) = false := by decide) (he : starEach (e :: es) X.env = (false, eval e X.env) :: starEach es X.env := by rfl) (kH : (backTo pos (starEach es X.env)).any (·.1) = false := by rfl) :
 PE X (.Call (.Name x p) (e :: es) [] pos) (wH sp cV E0 t) := by
 obtain ⟨fd, ds, F, hb, hd⟩ := c.ex
 exact Cw F hr hg hm hk hb hd DN ha pA he kH
theorem zt {pl : Sem Bool} (he : PE X o ta) (c : pk X.K C) (hm : Meth X.K C m f) (F : qO X.prog X.w X.K X.mg X.base k f ps cV sp) (hr : c6 k X.A)
 (ht : eval (.Call (.Attribute o m apos) [] [] pos) X.env = (do
  let ov <- eval o X.env
  standAt apos.atName
  let (f, first) <- holding [ov] (getMethod ov m pl)
  callWith pos f first (backTo pos (starEach [] X.env)) (backToKw pos (keywordEach [] X.env))) := by rfl) :
 PE X (.Call (.Attribute o m apos) [] [] pos) (xx C m sp cV E0 ta AB) := by
 obtain ⟨fd, ds, F, hb, hd⟩ := F.ex
 exact yO he c hm F hr hb hd DN ht
end
structure cz (K : PySem.W.Frag) (x qual : Str) (st : Stmt) (f : Addr) (dV : Value) (fd : FuncData) : Prop where
 ex : ∃ (oc : Value) (od : Option Addr) (kV doc pm : Value) (an : Option Addr) (dk ct : Value) (yc : Array (Option Value)),
  fd = PySem.W.fnOf x qual (mR st) (gx st) (ak st) dV kV doc pm an dk ct /\ K.lookup f = some ⟨oc, od, .func fd, yc⟩ /\ PySem.W.codeIn K dk qual = true
theorem xh {K : PySem.W.Frag} {x qual : Str} {st : Stmt} {f : Addr} {oc : Value} {od an : Option Addr} {yc : Array (Option Value)} {dV kV doc pm dk ct : Value} (l : K.lookup f = some ⟨oc, od, .func (PySem.W.fnOf x qual (mR st) (gx st) (ak st) dV kV doc pm an dk ct), yc⟩)
 (c : PySem.W.codeIn K dk qual = true) : cz K x qual st f dV (PySem.W.fnOf x qual (mR st) (gx st) (ak st) dV kV doc pm an dk ct) := ⟨⟨oc, od, kV, doc, pm, an, dk, ct, yc, rfl, l, c⟩⟩
section
variable {P : Program} {w : World} {K : PySem.W.Frag} {mg : Str -> Option Value} {base : Heap}
theorem cz.ok {x qual : Str} {st : Stmt} {f : Addr} {dV : Value} {fd : FuncData} {N ps : List Str} {k : Nat} {sp : Sp} (F : cz K x qual st f dV fd) (S : aH N ps (ak st)) (len : ∀ vs H Q E, sp vs H Q E -> vs.length = ps.length)
 (qu : ∀ (dk : Value) (A : Around) (outer : List Env) (s : Shared) (H : Hp) (vs : List V) (Q : VK) (E : XK), c6 k (A.deeper (envOfC qual (ak st) s.heap.objs.size f dk)) -> sp vs H Q E ->
  ∃ t, qN (gD qM P w K mg base N qual (ak st) f dk A outer s H E).Kb (gx st) t /\ t { nx := fun _ H' => Q .cn H', rt := Q } (start N vs) H) : bh P w K mg base qM (k + 1) f fd ps sp := by
 obtain ⟨oc, od, kV, doc, pm, an, dk, ct, yc, rfl, lk, uM⟩ := F.ex
 refine zW lk uM S len fun A outer s H vs Q E hr pZ => ?_
 obtain ⟨t, h, q⟩ := qu dk A outer s H vs Q E hr pZ
 exact ⟨t, h.Kb, q⟩
theorem cz.binds {x qual : Str} {st : Stmt} {f : Addr} {dV : Value} {fd : FuncData} {ps : List Str} {ds : List Value} (F : cz K x qual st f dV fd)
 (h : ∀ (kV doc pm : Value) (an : Option Addr) (dk ct : Value), Binds K (PySem.W.fnOf x qual (mR st) (gx st) (ak st) dV kV doc pm an dk ct) ps ds) : Binds K fd ps ds := by
 obtain ⟨oc, od, kV, doc, pm, an, dk, ct, yc, rfl, lk, uM⟩ := F.ex
 exact h kV doc pm an dk ct
end
structure sI (K : PySem.W.Frag) (T : Addr) (items : Array Value) : Prop where
 ex : ∃ (o : Obj) (n : Nat), K.lookup T = some o /\ o.data = .seq items n
structure IJ (K : PySem.W.Frag) (C : Addr) : Prop where
 ha : PySem.W.findIn K (.ref C) "__class__" = some (some (.builtin "object.__class__"))
 hn : PySem.W.specialIn K (.builtin "object.__class__") "__get__" = some (some (.builtin "getset_descriptor.__get__"))
 ht : PySem.W.takesIn K (.builtin "object.__class__") = some true
 hm : PySem.W.mroIn K C (.type "object") = some true
section
variable {σ : St} {H : Hp} {Q : VK} {D : Ends} {K : PySem.W.Frag}
theorem Fc (h : D.nx σ H) : Dz D σ H := h
theorem Im {te : TE} (h : te σ H D.rt) : JH te D σ H := h
theorem Fi {te : TE} (h : te σ H fun _ H1 => D.nx σ H1) : DX te D σ H := h
theorem Jr {c : TT} {t u : TS} (h : c σ H fun b H1 => if b = true then t D σ H1 else u D σ H1) : Hq c t u D σ H := h
theorem Iw {te : TE} {i : Nat} (h : te σ H fun x H1 => D.nx (σ.set i (some x)) H1) : yC te (i6 i) D σ H := h
theorem DC {i : Nat} {v : V} (e : σ[i]? = some (some v)) (h : Q v H) : FV i σ H Q := ⟨v, e, h⟩
theorem N8 {v : V} (h : Q v H) : tC v σ H Q := h
theorem Kx {r : R2} {ta tb : TE} (h : ta σ H fun x H1 => tb σ H1 fun y H2 => r x y H2 Q) : HJ r ta tb σ H Q := h
theorem Lf {r : V -> Hp -> VK -> Prop} {ta : TE} (h : ta σ H fun x H1 => r x H1 Q) : M9 r ta σ H Q := h
theorem L8 {g : Int -> Int -> V} {i j : Int} (h : Q (g i j) H) : Bx g (.int i) (.int j) H Q := ⟨i, j, rfl, rfl, h⟩
theorem OM {C : Int -> Int -> Prop} {g : Int -> Int -> V} {i j : Int} (c : C i j) (h : Q (g i j) H) : rI C g (.int i) (.int j) H Q := ⟨i, j, rfl, rfl, c, h⟩
theorem Nx {g : Int -> V} {i : Int} (h : Q (g i) H) : rU g (.int i) H Q := ⟨i, rfl, h⟩
theorem Gz {t : TE} {Q : Bool -> Hp -> Prop} (h : t σ H fun x H' => ∃ k, x = .bl k /\ Q k H') : zK t σ H Q := h
theorem Iu {t u : TT} {Q : Bool -> Hp -> Prop} (h : t σ H fun c H1 => if c = true then u σ H1 Q else Q false H1) : Ip t u σ H Q := h
theorem KW {t u : TT} {Q : Bool -> Hp -> Prop} (h : t σ H fun c H1 => if c = true then Q true H1 else u σ H1 Q) : MU t u σ H Q := h
theorem HM {t : TT} {Q : Bool -> Hp -> Prop} (h : t σ H fun c H1 => Q (!c) H1) : Jh t σ H Q := h
theorem Eu {ta tb : TE} (h : ta σ H fun x H1 => ∃ c, x = .bl c /\ if c = true then tb σ H1 Q else Q (.bl false) H1) : DP ta tb σ H Q := h
theorem Hm {ta tb : TE} (h : ta σ H fun x H1 => ∃ c, x = .bl c /\ if c = true then Q (.bl true) H1 else tb σ H1 Q) : Iy ta tb σ H Q := h
theorem E9 {ta : TE} (h : ta σ H fun x H1 => ∃ c, x = .bl c /\ Q (.bl (!c)) H1) : DW ta σ H Q := h
theorem Ia {t : TT} {ta tb : TE} (h : t σ H fun c H1 => if c = true then ta σ H1 Q else tb σ H1 Q) : MY t ta tb σ H Q := h
theorem LD {b : Bool} {R : Bool -> Prop} (h : R b) : ∃ k, V.bl b = .bl k /\ R k := ⟨b, rfl, h⟩
theorem Jd {Q : List V -> Hp -> Prop} (h : Q [] H) : AB σ H Q := h
theorem Fd {ta : TE} {tr : TA} {Q : List V -> Hp -> Prop} (h : ta σ H fun x H1 => tr σ H1 fun xs H2 => Q (x :: xs) H2) : Dx ta tr σ H Q := h
theorem Kq {r : List V -> Hp -> VK -> Prop} {t : TA} (h : t σ H fun vs H1 => r vs H1 Q) : Lk r t σ H Q := h
theorem Hs {ta : TE} {f : Str} (h : ta σ H fun x H1 => ∃ a C dx fs v, x = .ref a /\ H1 a = some (.ins C dx fs) /\ pk K C /\ aJ K C f /\ fs.lookup f = some v /\ Q v H1) : Ig K ta f σ H Q := h
theorem AV {A B : Prop} (h : A) : if true = true then A else B := by rw [if_pos rfl]; exact h
theorem xT {A B : Prop} (h : B) : if false = true then A else B := by rw [if_neg Bool.false_ne_true]; exact h
end
section
variable {X : Cx} {e : Expr} {es : List Expr}
theorem PE.or {t u : TE} (h1 : PE X e t) (h2 : PE X e u) : PE X e (fun σ H Q => t σ H Q \/ u σ H Q) := fun pins s σ H Q I h => h.elim (h1 pins s σ H Q I) (h2 pins s σ H Q I)
theorem PE.weak {t u : TE} (h1 : PE X e t) (h : ∀ σ H Q, u σ H Q -> t σ H Q) : PE X e u := fun pins s σ H Q I q => h1 pins s σ H Q I (h σ H Q q)
def mA (t : TA) : TA := fun σ H Q => ∃ Q' : List V -> Hp -> Prop, t σ H Q' /\ ∀ v H', Q' v H' -> Q v H'
theorem PA.m {t : TA} (h : PA X es t) : PA X es (mA t) := fun pos pins s σ H Q I ⟨Q', q, m⟩ => bP (h pos pins s σ H Q' I q) fun _ _ ⟨v, H', I', r, z⟩ => ⟨v, H', I', r, m v H' z⟩
end
def KG : Key -> PyData
 | .inl i => .int i
 | .inr x => .str x
mutual
inductive Dv (H : Hp) : V -> PyData -> Prop where
 | cn : Dv H .cn .none
 | bl (b : Bool) : Dv H (.bl b) (.bool b)
 | int (i : Int) : Dv H (.int i) (.int i)
 | str (x : Str) : Dv H (.str x) (.str x)
 | tup {a : Addr} {xs : List V} {ds : List PyData} (h : H a = some (.tup xs)) (r : ck H xs ds) : Dv H (.ref a) (.tuple ds)
 | lst {a : Addr} {xs : List V} {ds : List PyData} (h : Rd H a (.lst xs)) (r : ck H xs ds) : Dv H (.ref a) (.list ds)
 | dct {a : Addr} {d8 : List (Key × V)} {ds : List (PyData × PyData)} (h : H a = some (.dK d8)) (r : C3 H d8 ds) : Dv H (.ref a) (.dict ds)
inductive C3 (H : Hp) : List (Key × V) -> List (PyData × PyData) -> Prop where
 | nil : C3 H [] []
 | cons {k : Key} {x : V} {d : PyData} {xs : List (Key × V)} {ds : List (PyData × PyData)} (h : Dv H x d) (r : C3 H xs ds) : C3 H ((k, x) :: xs) ((KG k, d) :: ds)
inductive ck (H : Hp) : List V -> List PyData -> Prop where
 | nil : ck H [] []
 | cons {x : V} {d : PyData} {xs : List V} {ds : List PyData} (h : Dv H x d) (r : ck H xs ds) : ck H (x :: xs) (d :: ds)
end
mutual
theorem Dv.has {K : PySem.W.Frag} {H : Hp} : ∀ {v : V} {d : PyData}, Dv H v d -> d.canLay0 = true -> jU K H v d
 | _, _, .cn, _ => .cn
 | _, _, .bl b, _ => .bl b
 | _, _, .int i, _ => .int i
 | _, _, .str x, _ => .str x
 | _, _, .tup h r, c => .tup (.of h) (ck.has r (by simpa [PyData.canLay0] using c))
 | _, _, .lst h r, c => .lst (.inl h) (ck.has r (by simpa [PyData.canLay0] using c))
 | _, _, .dct h r, c => by simp [PyData.canLay0] at c
theorem ck.has {K : PySem.W.Frag} {H : Hp} : ∀ {v : List V} {d : List PyData}, ck H v d -> PyData.canLayAll0 d = true -> eI K H v d
 | _, _, .nil, _ => .nil
 | _, _, .cons h r, c => by
   have c' := c
   simp only [PyData.canLayAll0, Bool.and_eq_true] at c'
   exact .cons (Dv.has h c'.1) (ck.has r c'.2)
end
theorem ao.rd {H H' : Hp} {a : Addr} {u : HO} (e : ao H H') (h : Rd H a u) : Rd H' a u := by
 rcases h with h | ⟨o, h⟩
 . exact .inl (e _ _ h)
 . exact .inr ⟨o, e _ _ h⟩
mutual
theorem Dv.keeps {H H' : Hp} (e : ao H H') : ∀ {v : V} {d : PyData}, Dv H v d -> Dv H' v d
 | _, _, .cn => .cn
 | _, _, .bl b => .bl b
 | _, _, .int i => .int i
 | _, _, .str x => .str x
 | _, _, .tup h r => .tup (e _ _ h) (ck.keeps e r)
 | _, _, .lst h r => .lst (e.rd h) (ck.keeps e r)
 | _, _, .dct h r => .dct (e _ _ h) (C3.keeps e r)
theorem C3.keeps {H H' : Hp} (e : ao H H') : ∀ {v : List (Key × V)} {d : List (PyData × PyData)}, C3 H v d -> C3 H' v d
 | _, _, .nil => .nil
 | _, _, .cons h r => .cons (Dv.keeps e h) (C3.keeps e r)
theorem ck.keeps {H H' : Hp} (e : ao H H') : ∀ {v : List V} {d : List PyData}, ck H v d -> ck H' v d
 | _, _, .nil => .nil
 | _, _, .cons h r => .cons (Dv.keeps e h) (ck.keeps e r)
end
theorem ck.length {H : Hp} : ∀ {xs : List V} {ds : List PyData}, ck H xs ds -> xs.length = ds.length
 | _, _, .nil => rfl
 | _, _, .cons _ r => by simp [ck.length r]
theorem ck.get {H : Hp} : ∀ {xs : List V} {ds : List PyData} {i : Nat} {d : PyData}, ck H xs ds -> ds[i]? = some d -> ∃ x, xs[i]? = some x /\ Dv H x d
 | _, _, _, _, .nil, e => by simp at e
 | _, _, 0, _, .cons h _, e => by simp at e; subst e; exact ⟨_, rfl, h⟩
 | _, _, i + 1, x, .cons _ r, e => by
   obtain ⟨d, h1, h2⟩ := ck.get (i := i) (d := x) r (by simpa using e)
   exact ⟨d, by simpa using h1, h2⟩
theorem ck.append {H : Hp} : ∀ {xs ys : List V} {ds es : List PyData}, ck H xs ds -> ck H ys es -> ck H (xs ++ ys) (ds ++ es)
 | _, _, _, _, .nil, s => s
 | _, _, _, _, .cons r t, s => .cons r (ck.append t s)
theorem Dv.str_inv {H : Hp} {v : V} {i : Str} (h : Dv H v (.str i)) : v = .str i := by cases h; rfl
def su (H : Hp) (d : PyData) (Q : VK) : Prop := match d with
 | .none => Q .cn H
 | .bool b => Q (.bl b) H
 | .int i => Q (.int i) H
 | .str x => Q (.str x) H
 | d => ∀ v, Dv H v d -> Q v H
theorem su.use {H : Hp} {d : PyData} {Q : VK} (g : su H d Q) {v : V} (h : Dv H v d) : Q v H := by
 cases h with
 | cn => exact g
 | bl b => exact g
 | int i => exact g
 | str x => exact g
 | tup h r => exact g _ (.tup h r)
 | lst h r => exact g _ (.lst h r)
 | dct h r => exact g _ (.dct h r)
theorem wq {H : Hp} {xs : List V} {ds : List PyData} {i : Int} {d : PyData} (r : ck H xs ds) (h : oM ds i = some d) : ∃ x, oM xs i = some x /\ Dv H x d := by
 unfold oM at h ⊢
 rw [r.length]
 cases e : xF ds.length i with
 | none => rw [e] at h; simp at h
 | some j =>
   rw [e] at h
   have h' : ds[j]? = some d := by simpa using h
   obtain ⟨x, h1, h2⟩ := r.get h'
   exact ⟨x, by simpa using h1, h2⟩
def rK (H : Hp) (v : V) (ds : List PyData) : Prop := Dv H v (.tuple ds) \/ Dv H v (.list ds)
def Ir : R2 := fun x y H Q => ∃ ds i d, y = .int i /\ rK H x ds /\ oM ds i = some d /\ su H d Q
theorem CO {K : PySem.W.Frag} {x y : V} {H : Hp} {Q : VK} (h : Ir x y H Q) : Ms K x y H Q := by
 obtain ⟨ds, i, d, rfl, hs, hi, g⟩ := h
 rcases hs with hs | hs
 . cases hs with
   | tup h r =>
     obtain ⟨v, h1, h2⟩ := wq r hi
     exact .inr (.inl ⟨_, _, i, v, rfl, rfl, .of h, h1, g.use h2⟩)
 . cases hs with
   | lst h r =>
     obtain ⟨v, h1, h2⟩ := wq r hi
     exact .inl ⟨_, _, i, v, rfl, rfl, .inl h, h1, g.use h2⟩
section
variable {X : Cx}
def EW : R2 := fun x y H Q => Ir x y H Q \/ GJ x y H Q
theorem K3 : zq X EW := fun value slice pins s σ H x y v u Q I r1 r2 h => FL value slice pins s σ H x y v u Q I r1 r2 (h.elim CO fun z => .inr (.inr z))
def zh : List V -> Hp -> VK -> Prop := fun xs H Q => (∃ v ds, xs = [v] /\ rK H v ds /\ Q (.int (ds.length : Nat)) H) \/ ∃ z, xs = [.str z] /\ z.length <= sizeLine /\ Q (.int (z.length : Nat)) H
theorem xK : fX X (.builtin "len") zh := fun pins s σ H xs us Q I r h => by
 rcases h with ⟨v, ds, rfl, hs, q⟩ | h
 . rcases hs with hs | hs
   . cases hs with
     | tup h t => exact ip pins s σ H _ us Q I r ⟨_, _, rfl, .inr (.of h), by rw [t.length]; exact q⟩
   . cases hs with
     | lst h t => exact ip pins s σ H _ us Q I r ⟨_, _, rfl, .inl (.inl h), by rw [t.length]; exact q⟩
 . exact sf pins s σ H _ us Q I r h
def JL : PyData -> String
 | .none => "NoneType" | .bool _ => "bool" | .int _ => "int" | .str _ => "str" | .list _ => "list" | .tuple _ => "tuple" | .dict _ => "dict"
def zD (t n : String) : Option Bool := if ((Value.type t) == (Value.type n)) = true then some true else if PySem.W.kitMeta n = true then (PySem.fastBuiltinMro t).map (·.contains (.type n)) else none
theorem zL {K : PySem.W.Frag} {t n : String} {b : Bool} (h : zD t n = some b) : PySem.W.kitOne K (.type t) (.type n) = some b := h
def Er (t n : String) : Bool := t == n || (t == "bool" && n == "int")
theorem xD : (["NoneType", "bool", "int", "str", "list", "tuple", "dict"].all fun t => ["int", "bool", "str", "list", "tuple", "dict"].all fun n => zD t n == some (Er t n)) = true := by decide +kernel
theorem yU {t n : String} (ht : t ∈ ["NoneType", "bool", "int", "str", "list", "tuple", "dict"]) (hn : n ∈ ["int", "bool", "str", "list", "tuple", "dict"]) : zD t n = some (Er t n) := by
 have h := List.all_eq_true.mp (List.all_eq_true.mp xD t ht) n hn
 exact beq_iff_eq.mp h
theorem CL (d : PyData) : JL d ∈ ["NoneType", "bool", "int", "str", "list", "tuple", "dict"] := by
 cases d <;> simp [JL]
theorem Dv.ty {K : PySem.W.Frag} {H : Hp} {v : V} {d : PyData} (h : Dv H v d) : mI K H v (.type (JL d)) := by
 cases h with
 | cn => exact .cn
 | bl b => exact .bl b
 | int i => exact .int i
 | str x => exact .str x
 | tup h r => exact .tup h
 | lst h r =>
   rcases h with h | ⟨o, h⟩
   . exact .lst h
   . exact .uN h
 | dct h r => exact .dK h
theorem vG {K : PySem.W.Frag} {H : Hp} {v : V} {d : PyData} {n : String} {Q : VK} (h : Dv H v d) (hn : n ∈ ["int", "bool", "str", "list", "tuple", "dict"]) (q : Q (.bl (Er (JL d) n)) H) : zA K [v, .ty n] H Q :=
 ⟨v, .ty n, .type n, _, _, rfl, .ty n, h.ty, zL (yU (CL d) hn), q⟩
def Ac (K : PySem.W.Frag) (f : Bool -> Bool) : R2 := fun x y H Q => (B1 x y = true /\ Q (.bl (f (decide (x = y)))) H) \/ ∃ d e, Dv H x d /\ Dv H y e /\ d.canLay0 = true /\ e.canLay0 = true /\ d.depth <= 8 /\ Q (.bl (f (PyData.eqv d e))) H
theorem aY (hu : X.A.units + 8 < cLine) : jW X (compareOp .Eq) (Ac X.K id) := fun pins s σ H x y v u Q I rx ry h => by
 rcases h with h | ⟨d, e, h1, h2, h3, h4, h5, h6⟩
 . exact II pins s σ H x y v u Q I rx ry h
 . exact Fv hu pins s σ H x y v u Q I rx ry ⟨d, e, h1.has h3, h2.has h4, h3, h4, h5, h6⟩
theorem vn (hu : X.A.units + 8 < cLine) : jW X (compareOp .NotEq) (Ac X.K not) := fun pins s σ H x y v u Q I rx ry h => by
 rcases h with h | ⟨d, e, h1, h2, h3, h4, h5, h6⟩
 . exact Iv pins s σ H x y v u Q I rx ry h
 . exact Fb hu pins s σ H x y v u Q I rx ry ⟨d, e, h1.has h3, h2.has h4, h3, h4, h5, h6⟩
variable {es : List Expr} {t : TA} {pos : Pos}
def FU (xs : List V) (H1 : Hp) (Q : VK) : Prop := xs.length <= sizeLine /\ ∃ ds, ck H1 xs ds /\ ∀ p H2, ao H1 H2 -> H1 p = none -> H2 p = some (.tup xs) -> Dv H2 (.ref p) (.tuple ds) -> Q (.ref p) H2
def zf (xs : List V) (H1 : Hp) (Q : VK) : Prop := xs.length <= sizeLine /\ ∃ ds, ck H1 xs ds /\ ∀ p H2, ao H1 H2 -> H1 p = none -> H2 p = some (.lst xs) -> ck H2 xs ds -> Dv H2 (.ref p) (.list ds) -> Q (.ref p) H2
def Eg (t : TA) : TE := fun σ H Q => t σ H fun xs H1 => FU xs H1 Q
theorem wG {x1} (h : PA X es t) : PE X (.Tuple es x1 pos) (Eg t) := PE.weak (Gk h.m) fun σ H Q q => ⟨_, q, fun xs H1 ⟨hl, ds, hd, k⟩ => ⟨hl, fun p hp => by
 have sm : ao H1 (upd H1 p (.tup xs)) := fun b u e => by rw [aK (cf e hp)]; exact e
 exact k p _ sm hp aO (.tup aO (hd.keeps sm))⟩⟩
def DG (t : TA) : TE := fun σ H Q => t σ H fun xs H1 => zf xs H1 Q
theorem bz (h : PA X es t) : PE X (.List es pos) (DG t) := PE.weak (Gj h.m) fun σ H Q q => ⟨_, q, fun xs H1 ⟨hl, ds, hd, k⟩ => ⟨hl, fun p hp => by
 have sm : ao H1 (upd H1 p (.lst xs)) := fun b u e => by rw [aK (cf e hp)]; exact e
 exact k p _ sm hp aO (hd.keeps sm) (.lst (.of aO) (hd.keeps sm))⟩⟩
variable {st : Stmt} {rest : List Stmt}
def F8 (t u : TS) : TS := fun D σ H => ∃ R : St -> Hp -> Prop, t { D with nx := R } σ H /\ ∀ σ' H', R σ' H' -> u D σ' H'
theorem ai {t u : TS} (h1 : PS X st t) (h2 : qN X rest u) : qN X (st :: rest) (F8 t u) := by
 intro pins s σ H D I ⟨R, h, k⟩
 refine wpAny_execs_cons (bP (h1 pins s σ H { D with nx := R } I h) fun f s1 q => ?_)
 cases f with
 | next =>
   obtain ⟨σ', H', I', q⟩ := q
   exact h2 pins s1 σ' H' D I' (k _ _ q)
 | ret v => exact q
 | brk => exact q
 | cont => exact q
end
section
variable {σ : St} {H : Hp} {Q : VK} {D : Ends} {K : PySem.W.Frag}
theorem Eo {t u : TS} (h : t { D with nx := u D } σ H) : F8 t u D σ H := ⟨u D, h, fun _ _ z => z⟩
theorem FX {t : TA} (h : t σ H fun xs H1 => FU xs H1 Q) : Eg t σ H Q := h
theorem FE {xs : List V} {ds : List PyData} (hl : xs.length <= sizeLine) (hd : ck H xs ds) (k : ∀ v H2, ao H H2 -> Dv H2 v (.tuple ds) -> Q v H2) : FU xs H Q := ⟨hl, ds, hd, fun p H2 s _ _ d => k (.ref p) H2 s d⟩
theorem Et {t : TA} (h : t σ H fun xs H1 => zf xs H1 Q) : DG t σ H Q := h
theorem HN {f : Bool -> Bool} {x y : V} (e : B1 x y = true) (h : Q (.bl (f (decide (x = y)))) H) : Ac K f x y H Q := .inl ⟨e, h⟩
theorem DL {f : Bool -> Bool} {x y : V} {d e : PyData} (h1 : Dv H x d) (h2 : Dv H y e) (h3 : d.canLay0 = true) (h4 : e.canLay0 = true) (h5 : d.depth <= 8) (h : Q (.bl (f (PyData.eqv d e))) H) : Ac K f x y H Q := .inr ⟨d, e, h1, h2, h3, h4, h5, h⟩
theorem Il {x : V} {ds : List PyData} {i : Int} {d : PyData} (hs : rK H x ds) (hi : oM ds i = some d) (g : su H d Q) : EW x (.int i) H Q := .inl ⟨ds, i, d, rfl, hs, hi, g⟩
theorem EA {v : V} {ds : List PyData} (hs : rK H v ds) (h : Q (.int (ds.length : Nat)) H) : zh [v] H Q := .inl ⟨v, ds, rfl, hs, h⟩
theorem C8 {i : Int} (h : Q (.int i) H) : su H (.int i) Q := h
theorem BE (h : Q .cn H) : su H .none Q := h
theorem BZ {i : Str} (h : Q (.str i) H) : su H (.str i) Q := h
theorem Hu {b : Bool} {A B : Prop} (h1 : b = true -> A) (h2 : b = false -> B) : if b = true then A else B := by
 cases b
 . exact LC (h2 rfl)
 . exact Lj (h1 rfl)
end
theorem c6.kR {k : Nat} {A : Around} (r : c6 k A) : A.units + 8 < cLine := Nat.lt_of_le_of_lt (by omega) r.units
theorem bD {H : Hp} {t : Addr} {o : HO} (h : H t = none) : ao H (upd H t o) := fun b u e => by rw [aK (cf e h)]; exact e
section
variable {σ : St} {H : Hp} {Q : VK} {D : Ends} {K : PySem.W.Frag}
theorem HR {v : V} {R : St -> Hp -> Prop} {rt : VK} {bk ct : St -> Hp -> Prop} (h : rt v H) : (Ends.mk R rt bk ct).rt v H := h
end
theorem vP {K : PySem.W.Frag} {C : Addr} {b : Value} {r : Bool} (h : PySem.W.mroIn K C b = some r) : (PySem.W.clsIn K C).isSome = true := by
 obtain ⟨cd, e, _⟩ := Option.bind_eq_some_iff.mp h
 rw [e]; rfl
theorem xt {K : PySem.W.Frag} {C D : Addr} {b : Bool} (h2 : PySem.W.mroIn K D (.type "object") = some true) (h3 : PySem.W.typeIn K (.ref D) = some (.type "type")) (h : PySem.W.mroIn K C (.ref D) = some b) (hb : C = D -> b = true := by intro _; rfl) : PySem.W.kitOne K (.ref C) (.ref D) = some b := by
 unfold PySem.W.kitOne
 split
 . rename_i e
   have : C = D := by
    have := beq_iff_eq.mp e
    cases this; rfl
   rw [hb this]
 . show (if ((PySem.W.clsIn K D).isSome && PySem.W.typeIn K (.ref D) == some (.type "type")) = true then PySem.W.subIn K (.ref C) (.ref D) else none) = some b
   rw [vP h2, h3]
   rw [if_pos (by decide +kernel)]
   exact h
def isInt : PyData -> Bool | .int _ => true | .bool _ => true | _ => false
def isBool : PyData -> Bool | .bool _ => true | _ => false
def isStr : PyData -> Bool | .str _ => true | _ => false
def IC : PyData -> Bool | .list _ => true | _ => false
def isTup : PyData -> Bool | .tuple _ => true | _ => false
def Je : PyData -> Bool | .dict _ => true | _ => false
section
variable {K : PySem.W.Frag} {H : Hp} {v : V} {d : PyData} {Q : VK}
theorem x6 (h : Dv H v d) (q : Q (.bl (isInt d)) H) : zA K [v, .ty "int"] H Q := vG h (by decide) (by cases d <;> exact q)
theorem vm (h : Dv H v d) (q : Q (.bl (isBool d)) H) : zA K [v, .ty "bool"] H Q := vG h (by decide) (by cases d <;> exact q)
theorem yy (h : Dv H v d) (q : Q (.bl (isStr d)) H) : zA K [v, .ty "str"] H Q := vG h (by decide) (by cases d <;> exact q)
def tm (H : Hp) (v : V) (C : Addr) (fs : List (Str × V)) : Prop := ∃ p dx, v = .ref p /\ H p = some (.ins C dx fs)
theorem F1 {R : V -> Prop} {C : Addr} {fs : List (Str × V)} {f : Str} {x : V} (hp : tm H v C fs) (c : pk K C) (n : aJ K C f) (l : fs.lookup f = some x) (h : R x) :
 ∃ a C dx fs x, v = .ref a /\ H a = some (.ins C dx fs) /\ pk K C /\ aJ K C f /\ fs.lookup f = some x /\ R x := by
 obtain ⟨p, dx, rfl, e⟩ := hp
 exact ⟨p, C, dx, fs, x, rfl, e, c, n, l, h⟩
theorem xg {C : Addr} {m : Str} {fs : List (Str × V)} {R : Prop} (hp : tm H v C fs) (hl : fs.lookup m = none) (h : R) : ∃ a dx fs, v = .ref a /\ H a = some (.ins C dx fs) /\ fs.lookup m = none /\ R := by
 obtain ⟨p, dx, rfl, e⟩ := hp
 exact ⟨p, dx, fs, rfl, e, hl, h⟩
end
def look (f : Str) : List (Str × V) -> Option V
 | [] => none
 | (g, v) :: r => if f = g then some v else look f r
theorem oJ (f : Str) : ∀ fs : List (Str × V), fs.lookup f = look f fs
 | [] => rfl
 | (g, v) :: r => by
   show (match f == g with | true => some v | false => r.lookup f) = if f = g then some v else look f r
   by_cases h : f = g
   . subst h; rw [if_pos rfl, beq_self_eq_true]
   . rw [if_neg h, beq_eq_false_iff_ne.mpr h]; exact oJ f r
section
variable {X : Cx}
def yZ (K : PySem.W.Frag) : R2 := fun x y H Q => EW x y H Q \/ E7 K x y H Q
theorem cW : zq X (yZ X.K) := fun value slice pins s σ H x y v u Q I r1 r2 h => h.elim (K3 value slice pins s σ H x y v u Q I r1 r2) (xm value slice pins s σ H x y v u Q I r1 r2)
def tG (K : PySem.W.Frag) : List V -> Hp -> VK -> Prop := fun xs H Q => zh xs H Q \/ ∃ p ys, xs = [.ref p] /\ fW K H p ys /\ Q (.int ys.length) H
theorem cy : fX X (.builtin "len") (tG X.K) := fun pins s σ H xs us Q I r h => by
 rcases h with h | ⟨p, ys, e, hl, q⟩
 . exact xK pins s σ H xs us Q I r h
 . exact ip pins s σ H xs us Q I r ⟨p, ys, e, .inl hl, q⟩
end
section
variable {σ : St} {H : Hp} {Q : VK} {D : Ends} {K : PySem.W.Frag}
theorem kP {x : V} {ds : List PyData} {i : Int} {d : PyData} (hs : rK H x ds) (hi : oM ds i = some d) (g : su H d Q) : yZ K x (.int i) H Q := .inl (Il hs hi g)
theorem Ih {p : Addr} {xs : List V} {i : Int} {v : V} (hs : fW K H p xs) (hi : oM xs i = some v) (g : Q v H) : yZ K (.ref p) (.int i) H Q := .inr ⟨p, xs, i, v, rfl, rfl, hs, hi, g⟩
theorem z0 {v : V} {ds : List PyData} (hs : rK H v ds) (h : Q (.int (ds.length : Nat)) H) : tG K [v] H Q := .inl (EA hs h)
theorem EL {p : Addr} {xs : List V} (hs : fW K H p xs) (h : Q (.int xs.length) H) : tG K [.ref p] H Q := .inr ⟨p, xs, rfl, hs, h⟩
theorem Ex {ta tv : TE} {f : Str} (h : tv σ H fun y H1 => ta σ H1 fun x H2 => ∃ a C dx fs, x = .ref a /\ H2 a = some (.ins C dx fs) /\ pk K C /\ aJ K C f /\ fs.length < 1000 /\ D.nx σ (upd H2 a (.ins C dx (hZ f y fs)))) : Jk K ta tv f D σ H := h
theorem Bk {p C dx : Addr} {fs JY : List (Str × V)} {f : Str} {y : V} (hp : H p = some (.ins C dx fs)) (c : pk K C) (n : aJ K C f) (hl : fs.length < 1000) (e : hZ f y fs = JY) (h : D.nx σ (upd H p (.ins C dx JY))) :
 ∃ a C dx fs, V.ref p = .ref a /\ H a = some (.ins C dx fs) /\ pk K C /\ aJ K C f /\ fs.length < 1000 /\ D.nx σ (upd H a (.ins C dx (hZ f y fs))) := ⟨p, C, dx, fs, rfl, hp, c, n, hl, by rw [e]; exact h⟩
theorem K4 {R : Prop} (h : R) : V.cn = V.cn /\ R := ⟨rfl, h⟩
end
theorem bg {i : Int} (h1 : -(10 ^ 200) < i) (h2 : i < 10 ^ 200) : i.natAbs < 2 ^ 2000 := by
 have : (10 : Nat) ^ 200 < 2 ^ 2000 := by decide +kernel
 have h3 : i.natAbs < 10 ^ 200 := by
  have e : ((10 : Nat) ^ 200 : Nat) = ((10 : Int) ^ 200).toNat := by decide +kernel
  rw [e]
  generalize (10 : Int) ^ 200 = m at h1 h2 ⊢
  omega
 exact Nat.lt_trans h3 this
theorem IM {i j : Int} (h1 : 0 < j) (h2 : j < 10 ^ 200) : Du i j := ⟨h1, bg (Int.lt_trans (by decide) h1) h2⟩
def cell (ns : List Int) (k : Nat) : Int := ns.getD k 0
def vH (K : PySem.W.Frag) : Sp := fun vs H Q _ => ∃ l ns k, vs = [.ref l, .int k] /\ fW K H l (ns.map V.int) /\ 0 <= k /\ Q (.int (cell ns k.toNat)) H
theorem GC {K : PySem.W.Frag} {H : Hp} {Q : VK} {E : XK} {l : Addr} {ns : List Int} {k : Int} (h : fW K H l (ns.map V.int)) (hk : 0 <= k) (q : Q (.int (cell ns k.toNat)) H) : vH K [.ref l, .int k] H Q E := ⟨l, ns, k, rfl, h, hk, q⟩
theorem CY {ns : List Int} {k : Int} (h0 : 0 <= k) (h : k < (ns.map V.int).length) : oM (ns.map V.int) k = some (.int (cell ns k.toNat)) := by
 obtain ⟨n, rfl⟩ := Int.eq_ofNat_of_zero_le h0
 refine jV ?_
 have hn : n < ns.length := by simpa using h
 simp [cell, hn, List.getD_eq_getElem?_getD]
theorem Ct {ns : List Int} {k : Int} (h0 : 0 <= k) (h : ¬ k < (ns.map V.int).length) : cell ns k.toNat = 0 := by
 have : ns.length <= k.toNat := by simp at h; omega
 simp [cell, List.getD_eq_getElem?_getD, this]
def gg (sp : Sp) (vs : List V) (H : Hp) (Q : VK) (E : XK) : Prop := ∃ ws, vs = ws /\ sp ws H Q E
theorem uz (sp : Sp) (vs : List V) (H : Hp) (Q : VK) (E : XK) : gg sp vs H Q E = sp vs H Q E := propext ⟨fun ⟨_, e, h⟩ => e ▸ h, fun h => ⟨vs, rfl, h⟩⟩
def tj (sp : Sp) (cV : List V) (E : XK) (t : TA) : TE := fun σ H Q => t σ H fun vs H1 => gg sp (vs ++ cV) H1 Q E
theorem xS (sp : Sp) (cV : List V) (E : XK) (t : TA) : tj sp cV E t = wH sp cV E t := by
 funext σ H Q; unfold tj wH; congr 1; funext vs H1; exact uz _ _ _ _ _
def r6 (C : Addr) (m : Str) (sp : Sp) (cV : List V) (E : XK) (ta : TE) (t : TA) : TE := fun σ H Q => ta σ H fun x H1 => ∃ a dx fs, x = .ref a /\ H1 a = some (.ins C dx fs) /\ fs.lookup m = none /\
 t σ H1 fun vs H2 => gg sp (x :: (vs ++ cV)) H2 Q E
theorem yE (C : Addr) (m : Str) (sp : Sp) (cV : List V) (E : XK) (ta : TE) (t : TA) : r6 C m sp cV E ta t = xx C m sp cV E ta t := by
 funext σ H Q; unfold r6 xx; congr 1; funext x H1
 have : ∀ H2 : Hp, (fun vs H2 => gg sp (x :: (vs ++ cV)) H2 Q E) = fun vs H2 => sp (x :: (vs ++ cV)) H2 Q E := fun _ => by funext vs H2; exact uz _ _ _ _ _
 rw [this H1]
def xi (C : Addr) (sp : Sp) (vs : List V) (H1 : Hp) (Q : VK) (E : XK) : Prop := ∃ ws, vs = ws /\ ∀ x dx, H1 x = none -> H1 dx = none -> dx ≠ x ->
 sp (.ref x :: ws) (upd (upd H1 dx (.own x)) x (.ins C dx [])) (fun v H2 => v = .cn /\ Q (.ref x) H2) E
section
variable {X : Cx} {k : Nat} {f C : Addr} {ps : List Str} {sp : Sp} {cV : List V} {x m : Str} {p pos apos : Pos} {e o : Expr} {es : List Expr} {ta : TE} {t : TA}
theorem aG (c : qO X.prog X.w X.K X.mg X.base k f ps cV sp) (hr : c6 k X.A) (hg : Gl X x) (hm : X.mg x = some (.ref f)) (hk : PySem.W.keepIn X.K (.ref f) = true)
 (ha : PA X (e :: es) t) (pA : (x == ("__debug__" : Str)) = false := by decide) (he : starEach (e :: es) X.env = (false, eval e X.env) :: starEach es X.env := by rfl) (kH : (backTo pos (starEach es X.env)).any (·.1) = false := by rfl) :
 PE X (.Call (.Name x p) (e :: es) [] pos) (tj sp cV E0 t) := by rw [xS]; exact Dp c hr hg hm hk ha pA he kH
theorem nI {pl : Sem Bool} (he : PE X o ta) (c : pk X.K C) (hm : Meth X.K C m f) (F : qO X.prog X.w X.K X.mg X.base k f ps cV sp) (hr : c6 k X.A)
 (ht : eval (.Call (.Attribute o m apos) [] [] pos) X.env = (do
  let ov <- eval o X.env
  standAt apos.atName
  let (f, first) <- holding [ov] (getMethod ov m pl)
  callWith pos f first (backTo pos (starEach [] X.env)) (backToKw pos (keywordEach [] X.env))) := by rfl) :
 PE X (.Call (.Attribute o m apos) [] [] pos) (r6 C m sp cV E0 ta AB) := by rw [yE]; exact zt he c hm F hr ht
end
section
variable {σ : St} {H : Hp} {Q : VK} {D : Ends} {K : PySem.W.Frag}
theorem B6 {sp : Sp} {cV : List V} {E : XK} {t : TA} (h : t σ H fun vs H1 => gg sp (vs ++ cV) H1 Q E) : tj sp cV E t σ H Q := h
theorem uZ {sp : Sp} {vs ws : List V} {E : XK} (e : vs = ws) (h : sp ws H Q E) : gg sp vs H Q E := ⟨ws, e, h⟩
theorem wI {C : Addr} {m : Str} {sp : Sp} {cV : List V} {E : XK} {ta : TE} {t : TA} (h : ta σ H fun x H1 => ∃ a dx fs, x = .ref a /\ H1 a = some (.ins C dx fs) /\ fs.lookup m = none /\ t σ H1 fun vs H2 => gg sp (x :: (vs ++ cV)) H2 Q E) : r6 C m sp cV E ta t σ H Q := h
theorem Fu {b : Bool} {R : Bool -> Prop} (h : R b) : ∃ k, yr K (.bl b) H k /\ R k := ⟨b, rfl, h⟩
end
theorem uh {n : Nat} (h : Nat.ble n 64 = true) : n <= sizeLine := Nat.le_trans (Nat.le_of_ble_eq_true h) (by decide)
theorem wz {H : Hp} {d : PyData} {Q : VK} (h : ∀ v, Dv H v d -> Q v H) : su H d Q := by
 cases d with
 | none => exact h _ .cn
 | bool b => exact h _ (.bl b)
 | int i => exact h _ (.int i)
 | str x => exact h _ (.str x)
 | list l => exact h
 | tuple l => exact h
 | dict l => exact h
section
variable {X : Cx} {st : Stmt} {rest : List Stmt}
def D8 (t u : TS) : TS := F8 t u
theorem mG {t u : TS} (h1 : PS X st t) (h2 : qN X rest u) : qN X (st :: rest) (D8 t u) := ai h1 h2
end
section
variable {σ : St} {H : Hp} {Q : VK} {D : Ends} {K : PySem.W.Frag}
theorem sk {t u : TS} (R : St -> Hp -> Prop) (h : t { D with nx := R } σ H) (k : ∀ σ' H', R σ' H' -> u D σ' H') : D8 t u D σ H := ⟨R, h, k⟩
theorem Gv {xs : List V} {ds : List PyData} (hl : xs.length <= sizeLine) (hd : ck H xs ds) (k : ∀ p H2, ao H H2 -> H p = none -> H2 p = some (.lst xs) -> ck H2 xs ds -> Dv H2 (.ref p) (.list ds) -> Q (.ref p) H2) : zf xs H Q := ⟨hl, ds, hd, k⟩
end
section
variable {X : Cx}
def DU : R2 := fun x y H Q => ∃ i j, x = .int i /\ y = .int j /\ 0 < j /\ (0 <= i % j -> i % j < j -> Q (.int (i % j)) H)
theorem bU : jW X (binaryOp .Mod) DU := fun pins s σ H x y v u Q I rx ry ⟨i, j, e1, e2, hj, h⟩ => Ep pins s σ H x y v u Q I rx ry ⟨i, j, e1, e2, hj, h (Int.emod_nonneg _ (by omega)) (Int.emod_lt_of_pos _ hj)⟩
end
section
variable {σ : St} {H : Hp} {Q : VK} {D : Ends} {K : PySem.W.Frag}
theorem GL {i j : Int} (hj : 0 < j) (h : 0 <= i % j -> i % j < j -> Q (.int (i % j)) H) : DU (.int i) (.int j) H Q := ⟨i, j, rfl, rfl, hj, h⟩
end
theorem bh.ex {ι : Type} {P : Program} {w : World} {K : PySem.W.Frag} {mg : Str -> Option Value} {base : Heap} {CX : qe} {k : Nat} {f : Addr} {fd : FuncData} {ps : List Str} {sp : ι -> Sp} (h : ∀ i, bh P w K mg base CX k f fd ps (sp i)) :
 bh P w K mg base CX k f fd ps (fun vs H Q E => ∃ i, sp i vs H Q E) :=
 ⟨fun vs H Q E ⟨i, q⟩ => (h i).len vs H Q E q, fun A outer s H args us vs Q E hr he hb hv ⟨i, q⟩ => (h i).run A outer s H args us vs Q E hr he hb hv q⟩
section
variable {σ : St} {H : Hp} {Q : VK} {D : Ends} {K : PySem.W.Frag}
def G8 (Pv : Nat -> St -> Hp -> Prop) (m : Nat) (tb : TS) (D : Ends) (σ : St) (H1 : Hp) : Prop := ∃ N : St -> Hp -> Prop, (∀ σ' H', N σ' H' -> ∃ m', m' < m /\ Pv m' σ' H') /\ tb { D with nx := N, ct := N, bk := D.nx } σ H1
theorem CG {c : TT} {tb : TS} (Pv : Nat -> St -> Hp -> Prop) (h0 : ∃ m, Pv m σ H) (hs : ∀ m σ H, Pv m σ H -> c σ H fun b H1 => if b = true then G8 Pv m tb D σ H1 else D.nx σ H1) : AG c tb D σ H := ⟨Pv, h0, hs⟩
end
end L2
namespace L2
theorem C7 {n : Nat} (h : Nat.blt n 1000 = true) : n < 1000 := by
 unfold Nat.blt at h
 exact Nat.le_of_ble_eq_true h
end L2
namespace L2
open PySem PySem.Spec PyProof.Rows
section
variable {X : Cx}
def DK : List V -> Hp -> VK -> Prop := fun xs H Q => ∃ i, xs = [.int i] /\ i.natAbs.log2 < 1920 /\ Q (.str (toString i)) H
theorem bw : fX X (.type "str") DK := fun pins s σ H xs us Q I r h => rV pins s σ H xs us Q I r h
end
theorem Cj {i : Int} (h1 : -(10 ^ 200) < i) (h2 : i < 10 ^ 200) : i.natAbs.log2 < 1920 := by
 by_cases h0 : i.natAbs = 0
 . rw [h0]; decide
 . refine (Nat.log2_lt h0).mpr ?_
   have h3 : i.natAbs < 10 ^ 200 := by
    have e : ((10 : Nat) ^ 200 : Nat) = ((10 : Int) ^ 200).toNat := by decide +kernel
    rw [e]
    generalize (10 : Int) ^ 200 = m at h1 h2 ⊢
    omega
   exact Nat.lt_trans h3 (by decide +kernel)
section
variable {σ : St} {H : Hp} {Q : VK} {D : Ends} {K : PySem.W.Frag}
theorem E4 {i : Int} (h1 : -(10 ^ 200) < i) (h2 : i < 10 ^ 200) (h : Q (.str (toString i)) H) : DK [.int i] H Q := ⟨i, rfl, Cj h1 h2, h⟩
end
theorem Fl {H : Hp} {Q : VK} {i j p : Int} (c : Gb i j) (e : i ^ j.toNat = p) (h : Q (.int p) H) : rI Gb (fun i j => .int (i ^ j.toNat)) (.int i) (.int j) H Q := ⟨i, j, rfl, rfl, c, by show Q (.int (i ^ j.toNat)) H; rw [e]; exact h⟩
section
variable {X : Cx} {e : Expr}
def Gi (t u : TE) : TE := fun σ H Q => t σ H Q \/ u σ H Q
theorem vZ {t u : TE} (h1 : PE X e t) (h2 : PE X e u) : PE X e (Gi t u) := PE.or h1 h2
end
section
variable {σ : St} {H : Hp} {Q : VK} {D : Ends} {K : PySem.W.Frag}
theorem wy {t u : TE} (h : t σ H Q) : Gi t u σ H Q := .inl h
theorem oX {t u : TE} (h : u σ H Q) : Gi t u σ H Q := .inr h
def KS (K : PySem.W.Frag) (x : V) (i j : Nat) (D : Ends) (σ : St) (H : Hp) : Prop := Ca K 2 (qg (i6 i) (qg (i6 j) Bz)) x σ H D.nx
theorem GA {te : TE} {i j : Nat} (h : te σ H fun x H1 => KS K x i j D σ H1) : yC te (Ca K 2 (qg (i6 i) (qg (i6 j) Bz))) D σ H := h
end
end L2
namespace L2
end L2
namespace L2
open PySem PySem.Spec PyProof.Rows PySem.W
structure Od (lt : Nat -> Nat -> Bool) : Prop where
 O3 : ∀ a, lt a a = false
 Pn : ∀ a b, lt a b = true -> lt b a = false
 Py : ∀ a b c, lt a b = false -> lt b c = false -> lt a c = false
section
variable {lt : Nat -> Nat -> Bool} {n : Nat} {S : Shared -> Prop} {cmp : Nat -> Nat -> (Bool -> Shared -> Prop) -> Shared -> Prop}
structure Ix (n : Nat) (p : Array Nat) : Prop where
 sz : p.size = n
 pm : p.toList.Perm (List.range n)
def LI (n : Nat) (lt : Nat -> Nat -> Bool) (S : Shared -> Prop) (cmp : Nat -> Nat -> (Bool -> Shared -> Prop) -> Shared -> Prop) : Prop :=
 ∀ i j C s, i < n -> j < n -> S s -> (∀ s', S s' -> C (lt i j) s') -> cmp i j C s
variable (w : Od lt) (ha : LI n lt S cmp)
include w ha
end
section
variable {X : Cx} {pins : List (Addr × Obj)} {σ : St} {H H' : Hp} {s : Shared} {a : Addr}
end
section
variable {prog : Program} {w : World} {A : Around} {E : Value -> Shared -> Prop} {s : Shared}
end
section
variable {X : Cx} {pins : List (Addr × Obj)} {σ : St} {H : Hp} {s : Shared} {k : Nat} {f : Addr} {fd : FuncData} {ps : List Str} {sp : Sp} {kf : V -> Int × Str} {A : Around}
structure NM (X : Cx) (pins : List (Addr × Obj)) (σ : St) (H : Hp) (kf : V -> Int × Str) (a kS : Addr) (oa : Obj) (xs : List V) (s' : Shared) : Prop where
 mk ::
 ex : ∃ H' us e ys, Inv X pins σ H' s' /\ ao H H' /\ H' a = none /\ H' kS = none /\ s'.heap.get? a = some oa /\ s'.heap.get? kS = some (seqObj "list" (List.toArray us) e) /\ Vals ys us /\ ck H' ys (xs.map fun v => .tuple [.int (kf v).1, .str (kf v).2])
end
section
variable {X : Cx} {pins : List (Addr × Obj)} {σ : St} {H : Hp} {s : Shared} {k : Nat} {f : Addr} {fd : FuncData} {ps : List Str} {sp : Sp} {kf : V -> Int × Str} {A : Around}
end
section
variable {X : Cx} {k : Nat} {f : Addr} {ps : List Str} {sp : Sp} {e : Expr} {t : TA} {x : Str} {p p2 pos K5 : Pos}
end
end L2
namespace L2
open PySem PySem.Spec PyProof.Rows
theorem lE {scope : Scope} {env : Env} (h : ∀ x ∈ scope.names, x.2 = .free -> ∃ c, env.cells.lookup x.1 = some c) :
 ∃ cl, closureFor scope env = pure cl /\ (∀ x c, cl.lookup x = some c -> env.cells.lookup x = some c) /\ ∀ x ∈ scope.names, x.2 = .free -> ∃ c, cl.lookup x.1 = some c := by
 have key : ∀ (l : List (Str × NameKind)) (acc : List (Str × Addr)), (∀ x ∈ l, x.2 = .free -> ∃ c, env.cells.lookup x.1 = some c) -> (∀ x c, acc.lookup x = some c -> env.cells.lookup x = some c) ->
  ∃ cl, (forIn l acc (fun (x : Str × NameKind) (r : List (Str × Addr)) => (match x with
    | (name, kind) => if (kind == NameKind.free) = true then (do let c <- cellOf env name; pure (ForInStep.yield ((name, c) :: r))) else pure (ForInStep.yield r) : Sem (ForInStep (List (Str × Addr))))) : Sem _) = pure cl /\
    (∀ x c, cl.lookup x = some c -> env.cells.lookup x = some c) /\ (∀ x ∈ l, x.2 = .free -> ∃ c, cl.lookup x.1 = some c) /\ ∀ x, (∃ c, acc.lookup x = some c) -> ∃ c, cl.lookup x = some c := by
  intro l
  induction l with
  | nil => intro acc _ ha; exact ⟨acc, rfl, ha, fun _ z => (nomatch z), fun _ z => z⟩
  | cons p r ih =>
    intro acc hl ha
    obtain ⟨n, k⟩ := p
    rw [List.forIn_cons]
    by_cases hk : k = .free
    . subst hk
      obtain ⟨c, hc⟩ := hl (n, .free) List.mem_cons_self rfl
      have rC : cellOf env n = pure c := by unfold cellOf; rw [hc]
      obtain ⟨cl, e, h1, h2, h3⟩ := ih ((n, c) :: acc) (fun x hx => hl x (List.mem_cons_of_mem _ hx)) (fun x d hd => by
       rw [List.lookup_cons] at hd
       by_cases hx : x = n
       . subst hx; rw [beq_self_eq_true] at hd; cases hd; exact hc
       . rw [beq_eq_false_iff_ne.mpr hx] at hd; exact ha x d hd)
      refine ⟨cl, ?_, h1, fun x hx hf => ?_, fun x ⟨d, hd⟩ => h3 x ?_⟩
      . simp only [beq_self_eq_true, if_true, rC]
        exact e
      . rcases List.mem_cons.mp hx with rfl | hx
        . exact h3 n ⟨c, by rw [List.lookup_cons, beq_self_eq_true]⟩
        . exact h2 x hx hf
      . rw [List.lookup_cons]
        by_cases hx : x = n
        . subst hx; rw [beq_self_eq_true]; exact ⟨c, rfl⟩
        . rw [beq_eq_false_iff_ne.mpr hx]; exact ⟨d, hd⟩
    . obtain ⟨cl, e, h1, h2, h3⟩ := ih acc (fun x hx => hl x (List.mem_cons_of_mem _ hx)) ha
      refine ⟨cl, ?_, h1, fun x hx hf => ?_, h3⟩
      . have : (k == NameKind.free) = false := by simpa using hk
        simp only [this, Bool.false_eq_true, if_false]
        exact e
      . rcases List.mem_cons.mp hx with rfl | hx
        . exact absurd hf hk
        . exact h2 x hx hf
 obtain ⟨cl, e, h1, h2, _⟩ := key scope.names [] h (fun _ _ z => by simp at z)
 refine ⟨cl, ?_, h1, h2⟩
 unfold closureFor
 show (forIn scope.names [] _ >>= fun cs => pure cs) = _
 refine Eq.trans (congrArg (· >>= _) e) rfl
theorem iy {env : Env} {scope : Scope} {x : Str} : (relabel scope env).names.lookup x = (scope.names.lookup x).map fun k => if (k == NameKind.free && env.scope.kind == .function && env.kindOf x == some .cell) = true then .cell else k := by
 unfold relabel
 show List.lookup x (List.map _ scope.names) = _
 generalize scope.names = l
 induction l with
 | nil => rfl
 | cons p r ih =>
   obtain ⟨n, k⟩ := p
   rw [List.map_cons]
   dsimp only
   by_cases hx : x = n
   . subst hx
     by_cases hc : (k == NameKind.free && env.scope.kind == .function && env.kindOf x == some .cell) = true
     . rw [if_pos hc, List.lookup_cons, List.lookup_cons, beq_self_eq_true]; simp only [Option.map_some, if_pos hc]
     . rw [if_neg hc, List.lookup_cons, List.lookup_cons, beq_self_eq_true]; simp only [Option.map_some, if_neg hc]
   . have hb : (x == n) = false := beq_eq_false_iff_ne.mpr hx
     by_cases hc : (k == NameKind.free && env.scope.kind == .function && env.kindOf n == some .cell) = true
     . rw [if_pos hc, List.lookup_cons, List.lookup_cons, hb]; exact ih
     . rw [if_neg hc, List.lookup_cons, List.lookup_cons, hb]; exact ih
theorem mem_lookup {α : Type} {x : Str} {k : α} : ∀ {l : List (Str × α)}, l.lookup x = some k -> (x, k) ∈ l
 | [], h => by simp at h
 | (n, j) :: r, h => by
   rw [List.lookup_cons] at h
   by_cases hx : x = n
   . subst hx; rw [beq_self_eq_true] at h; cases h; exact List.mem_cons_self
   . rw [beq_eq_false_iff_ne.mpr hx] at h; exact List.mem_cons_of_mem _ (mem_lookup h)
def cm (X : Cx) (N : List Str) (scope : Scope) (cl : List (Str × Addr)) (C : Addr) (s : Shared) (H : Hp) (fp : List Addr) : Cx :=
 { X with N := N, cJ := s, zu := H, env := compEnvC scope cl C X.env, outer := X.stack, stack := X.stack, ex := fp, fn := fun _ => false, pn := [], xe := fun _ _ => False }
structure fR (X : Cx) (T M : List Str) (scope : Scope) : Prop where
 kind : scope.kind = .function
 cell : ∀ y ∈ scope.names, y.2 ≠ .cell
 names : ∀ y ∈ scope.names, y.2 = .local -> scope.names.lookup y.1 = some .local
 free : ∀ y ∈ scope.names, y.2 = .free -> X.env.scope.names.lookup y.1 = some .cell \/ X.env.scope.names.lookup y.1 = some .free
 len : M.length = X.N.length
 old : ∀ (i : Nat) x, M[i]? = some x -> X.N[i]? = some x /\ scope.names.lookup x = some .free \/ scope.names.lookup x = none
section
variable {X : Cx} {pins : List (Addr × Obj)} {σ : St} {H : Hp} {s : Shared} {T M : List Str} {scope : Scope} {cl : List (Str × Addr)} {fp : List Addr}
theorem Hk {C : Addr} (I : Inv X pins σ H s) (hN : fR X T M scope) (h1 : ∀ x c, cl.lookup x = some c -> X.env.cells.lookup x = some c) (h2 : ∀ x ∈ scope.names, x.2 = .free -> ∃ c, cl.lookup x.1 = some c)
 (hC : s.heap.objs.size <= C) (hf : ∀ b ∈ fp, j9 X pins H b) (BU : ∀ b ∈ fp, b < s.heap.objs.size) : (cm X (T ++ M) scope cl C s H fp).Ok where
 mod := I.ok.mod
 kind := hN.kind
 glob := I.ok.glob
 blt := I.ok.blt
 above := hC
 inj := fun x y c e1 e2 => I.ok.inj x y c (h1 x c e1) (h1 y c e2)
 has := fun x hx => by
  have ud : (relabel scope X.env).names.lookup x = some .cell \/ (relabel scope X.env).names.lookup x = some .free := hx
  rw [iy] at ud
  cases e : scope.names.lookup x with
  | none => rw [e] at ud; simp at ud
  | some k =>
    have hm := mem_lookup e
    have hk : k = .free := by
     rw [e] at ud
     simp only [Option.map_some, Option.some.injEq] at ud
     by_cases hf : k = .free
     . exact hf
     . have : (k == NameKind.free) = false := by simpa using hf
       simp only [this, Bool.false_and, Bool.false_eq_true, if_false] at ud
       rcases ud with ud | ud
       . exact absurd ud (hN.cell _ hm)
       . exact ud
    exact h2 (x, k) hm hk
 Df := fun _ _ z => by cases z
 hd := I.ok.hd
 frames := I.ok.frames
 El := .inl rfl
 A9 := fun b hb => ⟨Nat.ne_of_lt (Nat.lt_of_lt_of_le (BU b hb) hC), fun x c e => (hf b hb).2.2.2.2.1 x c (h1 x c e)⟩
 bs := I.bs
 wF := Nat.le_trans I.ok.wF I.sz
 sG := fun b o e hb => by
  rcases (hf b hb).2.2.2.1 with z | z
  . exact I.ok.sG b o e z
  . exact absurd (Nat.lt_of_lt_of_le (Heap.lt_size e) (Nat.le_trans I.ok.wF z)) (Nat.lt_irrefl _)
 qS := fun b hb z => by
  rcases List.mem_cons.mp (I.si b z) with e | e
  . exact (hf b hb).2.1 e
  . exact (hf b hb).2.2.1 e
 j5 := I.stack
 yW := I.lW
theorem tD {C : Addr} {h₁ : Heap} {tk : Nat} (I : Inv X pins σ H s) (hN : fR X T M scope) (h1 : ∀ x c, cl.lookup x = some c -> X.env.cells.lookup x = some c) (h2 : ∀ x ∈ scope.names, x.2 = .free -> ∃ c, cl.lookup x.1 = some c)
 (hC : s.heap.objs.size <= C) (hf : ∀ b ∈ fp, j9 X pins H b) (BU : ∀ b ∈ fp, b < s.heap.objs.size)
 {m : Str -> Option Value} (hn : h₁.Ns C m) (old : ∀ b o, s.heap.get? b = some o -> h₁.get? b = some o) :
 Inv (cm X (T ++ M) scope cl C s H fp) [] (List.replicate T.length none ++ σ) H { s with heap := h₁, toks := tk } where
 ok := Hk I hN h1 h2 hC hf BU
 os := rfl
 bare := I.bare
 base := Un.kept old
 loc := by
  refine ⟨m, hn, fun i x v e1 e2 e3 => ?_⟩
  have Mp : (T ++ M)[i]? = some x := e1
  by_cases hi : i < T.length
  . rw [List.getElem?_append_left (by simpa using hi), List.getElem?_replicate, if_pos hi] at e2
    cases e2
  . have Ke : T.length <= i := Nat.le_of_not_lt hi
    rw [List.getElem?_append_right Ke] at Mp
    rw [List.getElem?_append_right (by simpa using Ke), List.length_replicate] at e2
    have Ky : GW (relabel scope X.env) x := e3
    rcases hN.old _ x Mp with ⟨hx, oB⟩ | Kg
    . obtain ⟨m0, Px, Ge⟩ := I.loc
      have hk := hN.free _ (mem_lookup oB) rfl
      have Kh : X.env.scope.names.lookup x = some .cell \/ X.env.scope.names.lookup x = some .free := hk
      obtain ⟨u, r, l⟩ := Ge _ x v hx e2 (.inr Kh)
      refine ⟨u, r, .inr ?_⟩
      rcases l with ⟨z, _⟩ | ⟨_, c, hc, rC⟩
      . have z' : X.env.scope.names.lookup x = some .local := z
        rw [z'] at Kh; rcases Kh with q | q <;> cases q
      . obtain ⟨c', sq⟩ := h2 _ (mem_lookup oB) rfl
        have : c' = c := by have := h1 _ _ sq; rw [hc] at this; exact (Option.some.inj this).symm
        subst this
        refine ⟨?_, c', sq, ?_⟩
        . show (relabel scope X.env).names.lookup x = some .cell \/ (relabel scope X.env).names.lookup x = some .free
          rw [iy, oB]
          simp only [Option.map_some, Option.some.injEq]
          by_cases hc : (NameKind.free == NameKind.free && X.env.scope.kind == .function && X.env.kindOf x == some .cell) = true
          . left; rw [if_pos hc]
          . right; rw [if_neg hc]
        . obtain ⟨o, ho, hd⟩ := rC
          exact ⟨o, old _ _ ho, hd⟩
    . unfold GW at Ky
      rw [iy, Kg] at Ky
      simp at Ky
 cell := fun x c e => by
  obtain ⟨v, o, ho, hd⟩ := I.cell x c (h1 x c e)
  exact ⟨v, o, old _ _ ho, hd⟩
 free := I.bf.fresh hC
 dX := fun x c e => I.dX x c (h1 x c e)
 pin := fun p hp => nomatch hp
 bf := I.bf.kept old
 len := by
  show (List.replicate T.length none ++ σ).length = (T ++ M).length
  rw [List.length_append, List.length_append, List.length_replicate, hN.len, I.len]
theorem wL {C D : Addr} {s' : Shared} {σ' : St} {H' : Hp} {acc : List V} {aV : List Value} {n : Nat} (I : Inv X pins σ H s) (I' : Inv (cm X (T ++ M) scope cl C s H fp) [] σ' H' s')
 (hf : ∀ b ∈ fp, j9 X pins H b) (hD : s.heap.objs.size <= D) (hn : H' D = none) (hl : acc.length <= sizeLine) (r : Vals acc aV) (hd : s'.heap.get? D = some { cls := .type "list", data := .seq aV.toArray n }) :
 Inv X pins σ (upd H' D (.lst acc)) s' := by
 have U : Un (j3 X.stack) fp H H' s.heap s'.heap := I'.base
 have Nh : ∀ b o, s.heap.get? b = some o -> b ≠ D := fun b o e => Nat.ne_of_lt (Nat.lt_of_lt_of_le (Heap.lt_size e) hD)
 have neT : ∀ b u, H' b = some u -> b ≠ D := fun b u e => cf e hn
 refine I.qp (ch := fp) I'.os ⟨U.keep, U.slot, fun b o e1 e2 e3 => ?_, U.there, fun b xs e => ?_, fun b o u e => ?_, fun b ps e => ?_⟩ (fun b u e => ?_) I'.bare (fun b hb => ⟨(hf b hb).2.2.2.1, (hf b hb).2.1, (hf b hb).2.2.2.2.1, (hf b hb).2.2.2.2.2⟩)
 . rw [aK (Nh b o e1)]; exact U.free b o e1 e2 e3
 . rw [aK (neT b _ (U.j8 b xs e))]; exact U.j8 b xs e
 . rw [aK (neT b _ (U.jB b o u e))]; exact U.jB b o u e
 . obtain ⟨more, q⟩ := U.lR b ps e
   exact ⟨more, by rw [aK (neT b _ q)]; exact q⟩
 . by_cases hb : b = D
   . subst hb
     rw [aO] at e
     cases e
     exact ⟨hl, aV, n, r, hd⟩
   . rw [aK hb] at e
     exact (I'.bf b u e).pe (fun c v _ q => q) (fun c q => by rw [aK (neT c _ q)]; exact q) fun c xs q => by rw [aK (neT c _ q)]; exact q
end
theorem vM {prog : Program} {w : World} {A : Around} {R : Result -> Shared -> Prop} {s : Shared} {elt target iter : Expr} {ifs : List Expr} {scope : Scope} {pos : Pos} {it acc : Value} {env : Env} (I : Nat -> Shared -> Prop)
 (turn : ∀ n s, I n s -> wpAny (model prog w) A (pyNext it) (fun r s₁ => match r with
  | none => R (.ok .next) s₁
  | some v => wpAny (model prog w) A (letOwnedTupleGo target it v) (fun _ tS => wpAny (model prog w) A (assign target env v) (fun _ s₂ =>
   wpAny (model prog w) A (forIn ifs true fun c r => if r = true then do let ok <- isTrue c env (eval c env); pure (ForInStep.yield ok) else pure (ForInStep.yield r)) (fun ok s₃ =>
    if ok = true then wpAny (model prog w) A (eval elt env) (fun x s₄ =>
     wpAny (model prog w) A (call (.builtin "list.append") [acc, x]) (fun _ s₅ => ∃ m, m < n /\ I m s₅) (fun _ _ => False) s₄) (fun _ _ => False) s₃
    else ∃ m, m < n /\ I m s₃) (fun _ _ => False) s₂) (fun _ _ => False) tS) (fun _ _ => False) s₁) (fun _ _ => False) s)
 (n : Nat) (h : I n s) :
 codeAny (model prog w) A (.compLoop (.ListComp elt [⟨target, iter, ifs, 0⟩] scope pos) 0 it acc env) R s := by
 refine codeAny_loop rfl I (fun n s hI => ?_) n h
 show wpAny _ A ((compTurn (.ListComp elt [⟨target, iter, ifs, 0⟩] scope pos) 0 it acc env).onRaise (fun x => do noteFrame x env; theTreesLotGoes x)) _ _ s
 refine wpAny_noted ?_
 rw [compTurn_list]
 refine wpAny_bind (wpAny_standAt (wpAny_bind (wpAny_mono (turn n s hI) (fun r s₁ h₁ => ?_) fun _ _ h' => h'.elim)))
 cases r with
 | none => exact wpAny_pure h₁
 | some v =>
   refine wpAny_bind (wpAny_mono h₁ (fun _ tS zQ => ?_) fun _ _ h' => h'.elim)
   refine wpAny_bind (wpAny_mono zQ (fun _ s₂ h₂ => wpAny_bind (wpAny_mono h₂ (fun ok s₃ h₃ => ?_) fun _ _ h' => h'.elim)) fun _ _ h' => h'.elim)
   cases ok with
   | false => exact wpAny_pure ⟨rfl, h₃⟩
   | true =>
     exact wpAny_bind (wpAny_bind (wpAny_mono h₃ (fun x s₄ h₄ => wpAny_bind (wpAny_mono h₄ (fun _ s₅ h₅ => wpAny_pure (wpAny_pure ⟨rfl, h₅⟩)) fun _ _ h' => h'.elim)) fun _ _ h' => h'.elim))
def GO (X : Cx) (ifs : List Expr) (t : TT) : Prop :=
 ∀ (pins : List (Addr × Obj)) (s : Shared) (σ : St) (H : Hp) (Q : Bool -> Hp -> Prop), Inv X pins σ H s -> t σ H Q ->
   wpAny (model X.prog X.w) X.A (forIn ifs true fun c r => if r = true then do let ok <- isTrue c X.env (eval c X.env); pure (ForInStep.yield ok) else pure (ForInStep.yield r)) (TP X pins σ Q) X.xe s
def Km : TT := fun _ H Q => Q true H
theorem mw {X : Cx} : GO X [] Km := fun _ _ _ H _ I h => wpAny_tests_nil ⟨H, I, h⟩
def D2 (k : Nat) (g : TG) (tc : TT) (te : TE) (Fin : List V -> Hp -> Prop) (σ : St) (J : It) (H1 : Hp) : Prop :=
 ∃ W : Nat -> Nat -> List V -> Hp -> Prop, (∃ m, W 0 m [] H1) /\ ∀ i m acc H, W i m acc H ->
   (J.stop i H /\ Fin acc H) \/ (J.go i H /\ acc.length < sizeLine /\ ∀ x H', J.JZ i H x H' -> g x (List.replicate k none ++ σ) H' fun σ2 H2 => tc σ2 H2 fun b H3 =>
    if b = true then te σ2 H3 fun y H4 => ∃ m', m' < m /\ W (i + 1) m' (acc ++ [y]) H4 else ∃ m', m' < m /\ W (i + 1) m' acc H3)
section
variable {X : Cx} {pins : List (Addr × Obj)} {σ : St} {H : Hp} {s : Shared} {T M : List Str} {scope : Scope} {cl : List (Str × Addr)} {fp : List Addr} {g : TG} {tc : TT} {te : TE} {tg elt iter : Expr} {ifs : List Expr} {pos : Pos}
theorem Inv.forget {X : Cx} {pins : List (Addr × Obj)} {σ σ' : St} {H : Hp} {s : Shared} (I : Inv X pins σ' H s) (k : Nat) (hk : k + σ.length = σ'.length) (h : σ'.drop k = σ) : Inv X pins (List.replicate k none ++ σ) H s := by
 refine I.weak (by simp [hk]) (fun i v e => ?_)
 by_cases hi : i < k
 . rw [List.getElem?_append_left (by simpa using hi), List.getElem?_replicate, if_pos hi] at e; cases e
 . rw [List.getElem?_append_right (by simpa using hi), List.length_replicate, <- h, List.getElem?_drop] at e
   have : k + (i - k) = i := by omega
   rw [this] at e; exact e
theorem zo {it : Addr} {tn : Nat -> Heap -> Prop} {J : It} {RR : Value -> Addr -> Result -> Shared -> Prop} {Fin : List V -> Hp -> Prop} {E : Value -> Shared -> Prop}
 (hN : fR X T M scope) (jm : X.calm = true) (h1 : ∀ x c, cl.lookup x = some c -> X.env.cells.lookup x = some c) (h2 : ∀ x ∈ scope.names, x.2 = .free -> ∃ c, cl.lookup x.1 = some c)
 (hg : ∀ cl C s H fp, PG (cm X (T ++ M) scope cl C s H fp) tg g) (Mh : ∀ v H Q, g v (List.replicate T.length none ++ σ) H Q -> g v (List.replicate T.length none ++ σ) H fun σ2 H2 => Q σ2 H2 /\ T.length + σ.length = σ2.length /\ σ2.drop T.length = σ)
 (hc : ∀ cl C s H fp, GO (cm X (T ++ M) scope cl C s H fp) ifs tc) (he : ∀ cl C s H fp, PE (cm X (T ++ M) scope cl C s H fp) elt te)
 (I : Inv X pins σ H s) (Tn : Turn X.prog X.w X.K tg J fp it tn) (st : tn 0 s.heap) (hf : ∀ b ∈ fp, j9 X pins H b) (hW : D2 T.length g tc te Fin σ J H)
 (hR : ∀ D C s' H' acc m, s.heap.objs.size <= D -> s.heap.objs.size <= C -> C ≠ D -> s'.heap.Ns C m -> H' C = none -> H' D = none -> Inv X pins σ (upd H' D (.lst acc)) s' -> Fin acc H' -> RR (.ref D) C (.ok .next) s') :
 wpAny (model X.prog X.w) X.A (newList []) (fun acc s₃ => wpAny (model X.prog X.w) X.A (newFunctionEnv scope X.env.globals cl [] X.env.qual none .none (some X.env)) (fun pW s₄ =>
  codeAny (model X.prog X.w) X.A (.compStart (.ListComp elt [⟨tg, iter, ifs, 0⟩] scope pos) 0 (.ref it) acc { pW with scope := relabel scope X.env }) (RR acc pW.locals) s₄) E s₃) E s := by
 refine wpAny_newObj_type (wpAny_newFunctionEnv hN.cell (by intro y hy; simp at hy) (fun h₁ lJ iM => ?_) hN.kind)
 dsimp only at lJ iM ⊢
 generalize Gm : s.heap.push { cls := .type "list", dict := none, data := .seq ([] : List Value).toArray } = H2 at lJ iM ⊢
 have hC : H2.objs.size = s.heap.objs.size + 1 := by rw [<- Gm, Heap.size_push]
 have BI : s.heap.objs.size ≠ H2.objs.size := by rw [hC]; exact Nat.ne_of_lt (Nat.lt_succ_self _)
 have uy : s.heap.objs.size <= H2.objs.size := by rw [hC]; exact Nat.le_succ _
 have BU : ∀ b ∈ fp, b < s.heap.objs.size := fun b hb => by obtain ⟨o, ho, _⟩ := Tn.obj _ _ st b hb; exact Heap.lt_size ho
 have old : ∀ b o, s.heap.get? b = some o -> h₁.get? b = some o := fun b o e => iM.extBut b o (Nat.ne_of_lt (Nat.lt_of_lt_of_le (Heap.lt_size e) uy)) (Heap.get?_push_of_some _ (Gm ▸ Heap.get?_push_of_some _ e))
 have iT : h₁.PlainList s.heap.objs.size #[] := ⟨_, iM.extBut _ _ BI (Heap.get?_push_of_some _ (Gm ▸ Heap.get?_push_size _ rfl))⟩
 generalize vN : s.heap.objs.size = D at *
 generalize HC : H2.objs.size = C at *
 have I0 : Inv (cm X (T ++ M) scope cl C s H fp) [] (List.replicate T.length none ++ σ) H { s with heap := h₁, toks := s.toks + ([] : List (Str × Value)).length } :=
  tD I hN h1 h2 (by rw [vN]; exact uy) hf (by rw [vN]; exact BU) lJ old
 have Ji : tn 0 h₁ := Tn.keep _ _ _ st fun b _ o e => old b o e
 obtain ⟨W, ⟨m0, w0⟩, turn⟩ := hW
 have IG : ∀ b ∈ fp, b ≠ D := fun b hb => Nat.ne_of_lt (BU b hb)
 have stat : ∀ {H' : Hp} {pl : List (Addr × Obj)}, (∀ b ∈ fp, H' b = none) -> (∀ p ∈ pl, p.1 = D) -> ∀ b ∈ fp, j9 (cm X (T ++ M) scope cl C s H fp) pl H' b := fun {H' pl} hn hp b hb => by
  have ok := I0.ok
  refine ⟨hn b hb, (ok.A9 b hb).1, ok.qS b hb, .inl hb, (ok.A9 b hb).2, fun p hq => ?_⟩
  have Ce : p ∈ pl := hq
  rw [hp p Ce]; exact Ne.symm (IG b hb)
 have loop : codeAny (model X.prog X.w) X.A (.compLoop (.ListComp elt [⟨tg, iter, ifs, 0⟩] scope pos) 0 (.ref it) (.ref D) (compEnvC scope cl C X.env)) (RR (.ref D) C) { s with heap := h₁, toks := s.toks + ([] : List (Str × Value)).length } := by
  refine vM (fun n s' => ∃ i acc H' aV, Inv (cm X (T ++ M) scope cl C s H fp) [] (List.replicate T.length none ++ σ) H' s' /\ tn i s'.heap /\ (∀ b ∈ fp, H' b = none) /\ s'.heap.PlainList D aV /\ H' D = none /\ Vals acc aV.toList /\ acc.length <= sizeLine /\ W i n acc H') ?_ m0
   ⟨0, [], H, #[], I0, Ji, fun b hb => (hf b hb).1, iT, I.bf.fresh (by rw [vN]; exact Nat.le_refl _), .nil, Nat.zero_le _, w0⟩
  rintro n s3 ⟨i, acc, H3, aV, I3, DE, D3, ⟨nn, ho⟩, EI, hv, hlen, w3⟩
  have Fq : ∀ {H'} {s'} {σ'} {o : Obj}, Inv (cm X (T ++ M) scope cl C s H fp) [] σ' H' s' -> s'.heap.get? D = some o -> (∀ v, o.data ≠ .cell v) -> H' D = none -> Inv (cm X (T ++ M) scope cl C s H fp) [(D, o)] σ' H' s' := fun {H' s' σ' o} I' e d hn => by
   refine I'.gb fun p hp => ?_
   have e' : p = (D, o) := by simpa using hp
   subst e'
   refine ⟨e, hn, BI, fun z => ?_, d⟩
   have z' : D ∈ j3 X.stack := z
   obtain ⟨_, o', oZ, _⟩ := I.stack.mem z'
   exact absurd (Heap.lt_size oZ) (by rw [vN]; exact Nat.lt_irrefl _)
  have Js := Fq I3 ho (fun v z => by cases z) EI
  rcases turn i n acc H3 w3 with ⟨stop, fin⟩ | ⟨go, hl, step⟩
  . refine bP (Tn.done (cm X (T ++ M) scope cl C s H fp) rfl rfl rfl jm i _ s3 _ H3 _ Js (stat D3 (by simp)) DE stop) fun r s4 ⟨hr, I4⟩ => ?_
    subst hr
    have e4 := (I4.pin (D, _) (List.mem_append_right _ List.mem_cons_self)).1
    have FY : Inv (cm X (T ++ M) scope cl C s H fp) [] (List.replicate T.length none ++ σ) H3 s4 := I4.gb fun p hp => nomatch hp
    obtain ⟨m4, n4, _⟩ := FY.loc
    exact hR D C s4 H3 acc m4 (Nat.le_refl _) uy (Ne.symm BI) n4 FY.free EI (wL I FY hf (by rw [vN]; exact Nat.le_refl _) EI hlen hv (by simpa using e4)) fin
  . refine bP (Tn.item (cm X (T ++ M) scope cl C s H fp) rfl rfl rfl jm i _ s3 _ H3 _ Js (stat D3 (by simp)) DE go) fun r s4 ⟨u, hr, h4⟩ => ?_
    subst hr
    refine bP h4 fun _ s5 ⟨x, H5, I5, r5, y5, yM, IU⟩ => ?_
    have Jb := I5.pinned (stat IU (by simp)) (Tn.obj _ _ yM)
    refine bP (hg _ _ _ _ _ _ s5 _ H5 x u _ Jb r5 (Mh _ _ _ (step x H5 y5))) fun _ s6 ⟨σ6, H6, I6, q6, Ks, K8⟩ => ?_
    refine bP (hc _ _ _ _ _ _ s6 σ6 H6 _ I6 q6) fun b s7 ⟨H7, I7, q7⟩ => ?_
    have rest : ∀ {s8 : Shared} {H8 : Hp}, Inv (cm X (T ++ M) scope cl C s H fp) ([(D, _)] ++ lI fp s5.heap) σ6 H8 s8 -> tn (i + 1) s8.heap /\ (∀ b ∈ fp, H8 b = none) /\ s8.heap.PlainList D aV /\ H8 D = none /\ Inv (cm X (T ++ M) scope cl C s H fp) [] (List.replicate T.length none ++ σ) H8 s8 := fun {s8 H8} I8 => by
     refine ⟨Tn.keep _ _ _ yM fun b hb o e => (I8.pin (b, o) (List.mem_append_right _ (List.mem_append_right _ (dF hb e)))).1, fun b hb => ?_, ⟨nn, (I8.pin (D, _) (List.mem_append_right _ (List.mem_append_left _ List.mem_cons_self))).1⟩, (I8.pin (D, _) (List.mem_append_right _ (List.mem_append_left _ List.mem_cons_self))).2.1, (I8.forget T.length Ks K8).gb fun p hp => nomatch hp⟩
     obtain ⟨o, e, d⟩ := Tn.obj _ _ yM b hb
     exact (I8.pin (b, o) (List.mem_append_right _ (List.mem_append_right _ (dF hb e)))).2.1
    cases b with
    | false =>
      obtain ⟨m', hm, w7⟩ := q7
      obtain ⟨a1, a2, a3, a4, a5⟩ := rest I7
      exact ⟨m', hm, i + 1, acc, H7, aV, a5, a1, a2, a3, a4, hv, hlen, w7⟩
    | true =>
      refine bP (he _ _ _ _ _ _ s7 σ6 H7 _ I7 q7) fun y s8 ⟨yv, H8, I8, r8, m', hm, w8⟩ => ?_
      obtain ⟨a1, a2, a3, a4, a5⟩ := rest I8
      have hsz : aV.size <= sizeLine := by have := hv.length; simp at this; omega
      refine wpAny_list_append_plain (hsz := hsz) a3 fun h9 Md Ie => ?_
      refine ⟨m', hm, i + 1, acc ++ [yv], H8, aV.push y, ?_, ?_, a2, Md, a4, ?_, by simp; omega, w8⟩
      . exact a5.turned (t' := s8.toks) (it := D) (fun b o hb e => (Ie.2 b hb).trans e) a4 BI (.inr (by show s.heap.objs.size <= D; rw [vN]; exact Nat.le_refl _)) (fun x c e z => by
         obtain ⟨v, o, ho, _⟩ := I.cell x c (h1 x c e)
         exact absurd (Heap.lt_size ho) (by rw [vN, z]; exact Nat.lt_irrefl _)) (fun p hp => nomatch hp)
      . exact Tn.keep _ _ _ a1 fun b hb o e => (Ie.2 b (IG b hb)).trans e
      . simpa using Vals.append hv (.cons r8 .nil)
 exact codeAny_compStart_list loop (Tn.self _ _ _ _ _ Ji loop)
end
def Bw (k : Nat) (g : TG) : Prop := ∀ v (τ σ : St) H Q, τ.length = k -> g v (τ ++ σ) H Q -> g v (τ ++ σ) H fun σ2 H2 => Q σ2 H2 /\ ∃ τ', τ'.length = k /\ σ2 = τ' ++ σ
theorem g8 {k i : Nat} (h : i < k) : Bw k (i6 i) := fun v τ σ H Q hl q => by
 have e : (τ ++ σ).set i (some v) = τ.set i (some v) ++ σ := List.set_append_left _ _ (by omega)
 exact ⟨q, τ.set i (some v), by simp [hl], e⟩
def rH (Q : VK) (acc : List V) (H : Hp) : Prop := ∀ p, H p = none -> Q (.ref p) (upd H p (.lst acc))
def GX (k : Nat) (wi : TI) (g : TG) (tc : TT) (te : TE) : TE := fun σ H Q => wi σ H fun J H1 => D2 k g tc te (rH Q) σ J H1
section
variable {X : Cx} {T M : List Str} {scope : Scope} {g : TG} {tc : TT} {te : TE} {wi : TI} {tg elt iter : Expr} {ifs : List Expr} {pos : Pos}
theorem Eh (hN : fR X T M scope) (jm : X.calm = true) (hi : PI X tg iter wi) (hg : ∀ cl C s H fp, PG (cm X (T ++ M) scope cl C s H fp) tg g) (Jl : Bw T.length g)
 (hc : ∀ cl C s H fp, GO (cm X (T ++ M) scope cl C s H fp) ifs tc) (he : ∀ cl C s H fp, PE (cm X (T ++ M) scope cl C s H fp) elt te)
 (hs : ∀ x, foldedSetIterable iter X.env x = pure x := by intro _; rfl) : PE X (.ListComp elt [⟨tg, iter, ifs, 0⟩] scope pos) (GX T.length wi g tc te) := by
 intro pins s σ H Q I h
 obtain ⟨cl, Ec, h1, h2⟩ := lE (scope := scope) (env := X.env) fun x hx hf => I.ok.has x.1 (hN.free x hx hf)
 rw [eval_ListComp]
 refine wpAny_comprehension_free (use := none) rfl hs Ec hN.kind hN.names (bP (hi pins s σ H _ I h) fun xv s1 Hf => bP Hf fun H9 s2 Hw => ?_)
 obtain ⟨it, fp, tn, J, H2, e, I2, Tn, st, hf, hW⟩ := Hw
 subst e
 refine zo (RR := fun acc C => compPost (model X.prog X.w) X.A X.xe none (EP X pins σ Q) acc C) hN jm h1 h2 hg (fun v H Q q => ?_) hc he I2 Tn st hf hW ?_
 . have := Jl v (List.replicate T.length none) σ H Q (by simp) q
   refine (by
    have e : (fun (σ2 : St) (H2 : Hp) => Q σ2 H2 /\ T.length + σ.length = σ2.length /\ σ2.drop T.length = σ) = fun σ2 H2 => Q σ2 H2 /\ ∃ τ' : St, τ'.length = T.length /\ σ2 = τ' ++ σ := by
     funext σ2 H2
     refine propext ⟨fun ⟨a, b, c⟩ => ⟨a, σ2.take T.length, by rw [List.length_take]; omega, by rw [<- c, List.take_append_drop]⟩, fun ⟨a, τ', b, c⟩ => ⟨a, by rw [c, List.length_append, b], by rw [c, <- b, List.drop_left]⟩⟩
    rw [e]; exact this)
 . intro D C s' H' acc m hD hC j6 hn IQ Jm Ib fin
   refine ⟨m, hn, fun h' B7 => ⟨.ref D, _, ?_, rfl, fin D Jm⟩⟩
   exact Ib.turned (t' := s'.toks) (it := C) (fun b o hb e => (B7.2 b hb).trans e) (by rw [aK j6]; exact IQ) (Nat.ne_of_gt (Nat.lt_of_lt_of_le I2.lt hC)) (.inr (Nat.le_trans I2.sz hC)) (fun x c e z => by
    obtain ⟨v, q⟩ := I2.cell x c e
    exact absurd (Nat.lt_of_lt_of_le q.lt (by rw [z]; exact hC)) (Nat.lt_irrefl _)) (fun p hp z => absurd (Nat.lt_of_lt_of_le (Heap.lt_size (I2.pin p hp).1) (by rw [z]; exact hC)) (Nat.lt_irrefl _))
theorem Hc {i : Nat} {y : Str} {py He : Pos} (Ov : X.N.Nodup) (Ke : X.N[i]? = some y) (hy : Loc X.env.scope y) (hN : fR X T M scope) (jm : X.calm = true) (hi : PI X tg iter wi) (hg : ∀ cl C s H fp, PG (cm X (T ++ M) scope cl C s H fp) tg g) (Jl : Bw T.length g)
 (hc : ∀ cl C s H fp, GO (cm X (T ++ M) scope cl C s H fp) ifs tc) (he : ∀ cl C s H fp, PE (cm X (T ++ M) scope cl C s H fp) elt te)
 (Ol : swapsWith (.ListComp elt [⟨tg, iter, ifs, 0⟩] scope pos) (some (.Name y py)) He.line X.env = pure true)
 (hs : ∀ x, foldedSetIterable iter X.env x = pure x := by intro _; rfl) (Oz : X.fn y = true \/ X.env.scope.names.lookup y = some .local := by first | exact .inl rfl | exact .inr rfl | assumption) :
 PS X (.Assign [.Name y py] (.ListComp elt [⟨tg, iter, ifs, 0⟩] scope pos) He) (yC (GX T.length wi g tc te) (i6 i)) := by
 intro pins s σ H D' I h
 have h : GX T.length wi g tc te σ H fun x H1 => D'.nx (σ.set i (some x)) H1 := h
 obtain ⟨cl, Ec, h1, h2⟩ := lE (scope := scope) (env := X.env) fun x hx hf => I.ok.has x.1 (hN.free x hx hf)
 rw [exec_Assign_Name_used _ _ _ _ Ol]
 refine wpAny_bind (wpAny_standAt (wpAny_bind ?_))
 show wpAny _ X.A (do let _ <- comprehension (.ListComp elt [⟨tg, iter, ifs, 0⟩] scope pos) scope X.env _ (newList []) false (eval iter X.env) (some (assign (.Name y py) X.env))) _ _ s
 refine wpAny_bind (wpAny_mono (wpAny_comprehension_free (use := some (assign (.Name y py) X.env)) (Q := fun _ s' => SP X pins D' .next s') rfl hs Ec hN.kind hN.names
  (bP (hi pins s σ H _ I h) fun xv s1 Hf => bP Hf fun H9 s2 Hw => ?_)) (fun _ s' hq => wpAny_pure (wpAny_pure hq)) fun _ _ e => e)
 obtain ⟨it, fp, tn, J, H2, e, I2, Tn, st, hf, hW⟩ := Hw
 subst e
 refine zo (RR := fun acc C => compPost (model X.prog X.w) X.A X.xe (some (assign (.Name y py) X.env)) (fun _ s' => SP X pins D' .next s') acc C) hN jm h1 h2 hg (fun v H Q q => ?_) hc he I2 Tn st hf hW ?_
 . have := Jl v (List.replicate T.length none) σ H Q (by simp) q
   refine (by
    have e : (fun (σ2 : St) (H2 : Hp) => Q σ2 H2 /\ T.length + σ.length = σ2.length /\ σ2.drop T.length = σ) = fun σ2 H2 => Q σ2 H2 /\ ∃ τ' : St, τ'.length = T.length /\ σ2 = τ' ++ σ := by
     funext σ2 H2
     refine propext ⟨fun ⟨a, b, c⟩ => ⟨a, σ2.take T.length, by rw [List.length_take]; omega, by rw [<- c, List.take_append_drop]⟩, fun ⟨a, τ', b, c⟩ => ⟨a, by rw [c, List.length_append, b], by rw [c, <- b, List.drop_left]⟩⟩
    rw [e]; exact this)
 . intro D C s' H' acc m hD hC j6 hn IQ Jm Ib fin
   show wpAny _ X.A (assign (.Name y py) X.env (.ref D)) _ _ _
   refine wpAny_assign_Name (rk Ib Ov Ke hy (v := .ref D) rfl (fun s3 I3 ⟨a, sb, ha⟩ => ?_) Oz)
   have Mz : C ≠ X.env.locals := Nat.ne_of_gt (Nat.lt_of_lt_of_le I2.lt hC)
   have M3 : ∀ x c, X.env.cells.lookup x = some c -> c ≠ C := fun x c e z => by
    obtain ⟨v, q⟩ := I2.cell x c e
    exact absurd (Nat.lt_of_lt_of_le q.lt (by rw [z]; exact hC)) (Nat.lt_irrefl _)
   have N7 : C ≠ a := by
    rcases ha with rfl | ha
    . exact Mz
    . exact Ne.symm (M3 _ _ ha)
   refine ⟨m, hn.sameBut sb N7, fun h' B7 => ⟨_, _, ?_, fin D Jm⟩⟩
   exact I3.turned (t' := s3.toks) (it := C) (fun b o hb e => (B7.2 b hb).trans e) (by rw [aK j6]; exact IQ) Mz (.inr (Nat.le_trans I2.sz hC)) M3 (fun p hp z => absurd (Nat.lt_of_lt_of_le (Heap.lt_size (I2.pin p hp).1) (by rw [z]; exact hC)) (Nat.lt_irrefl _))
end
end L2
namespace L2
open PySem PySem.Spec PyProof.Rows PySem.W
mutual
def sD : PyData -> Bool
 | .none => true
 | .bool _ => true
 | .int _ => true
 | .str _ => true
 | .tuple ds => aR ds
 | .list _ => false
 | .dict _ => false
def aR : List PyData -> Bool
 | [] => true
 | d :: ds => sD d && aR ds
end
theorem cY : ∀ {ds : List PyData}, aR ds = true ↔ ∀ d ∈ ds, sD d = true
 | [] => by simp [aR]
 | d :: ds => by simp [aR, cY (ds := ds)]
theorem gE {ds es : List PyData} (h1 : aR ds = true) (h2 : aR es = true) : aR (ds ++ es) = true := by
 rw [cY] at *
 intro d hd
 rcases List.mem_append.mp hd with h | h
 . exact h1 d h
 . exact h2 d h
theorem lH {α : Type} {f : α -> PyData} (h : ∀ x, sD (f x) = true) (xs : List α) : aR (xs.map f) = true := by
 rw [cY]
 intro d hd
 obtain ⟨x, _, rfl⟩ := List.mem_map.mp hd
 exact h x
structure Mv (S : List Addr) (H H' : Hp) : Prop where
 kp : ∀ a o, a ∉ S -> H a = some o -> H' a = some o
 tp : ∀ a xs, H a = some (.tup xs) -> H' a = some (.tup xs)
 dm : ∀ a, H' a = none -> H a = none
theorem ao.mv {S : List Addr} {H H' : Hp} (s : ao H H') : Mv S H H' := ⟨fun a o _ h => s a o h, fun a xs h => s a _ h, fun a h => by
 cases e : H a with
 | none => rfl
 | some o => rw [s a o e] at h; cases h⟩
theorem Mv.at {S : List Addr} {H H' : Hp} {a : Addr} {o : HO} (m : Mv S H H') (n : a ∉ S) (h : H a = some o) : H' a = some o := m.kp a o n h
theorem ao.none {H H' : Hp} {a : Addr} (m : ao H H') (h : H' a = none) : H a = none := (m.mv (S := [])).dm a h
theorem Mv.vF {H : Hp} {p : Addr} {o u : HO} (h : H p = some u) (nt : ∀ xs, u ≠ .tup xs) : Mv [p] H (upd H p o) := ⟨fun a v n e => by
 rw [aK (fun z => n (by simp [z]))]; exact e, fun a xs e => by
 rw [aK (fun z => by subst z; rw [h] at e; exact nt xs (Option.some.inj e))]; exact e, fun a e => by
 by_cases z : a = p
 . subst z; rw [aO] at e; cases e
 . rw [aK z] at e; exact e⟩
mutual
theorem Dv.GV {H H' : Hp} (t : ∀ a xs, H a = some (.tup xs) -> H' a = some (.tup xs)) : ∀ {v : V} {d : PyData}, Dv H v d -> sD d = true -> Dv H' v d
 | _, _, .cn, _ => .cn
 | _, _, .bl b, _ => .bl b
 | _, _, .int i, _ => .int i
 | _, _, .str x, _ => .str x
 | _, _, .tup h r, c => .tup (t _ _ h) (ck.GV t r (by simpa [sD] using c))
 | _, _, .lst h r, c => by simp [sD] at c
 | _, _, .dct h r, c => by simp [sD] at c
theorem ck.GV {H H' : Hp} (t : ∀ a xs, H a = some (.tup xs) -> H' a = some (.tup xs)) : ∀ {v : List V} {d : List PyData}, ck H v d -> aR d = true -> ck H' v d
 | _, _, .nil, _ => .nil
 | _, _, .cons h r, c => by
   have c' := c
   simp only [aR, Bool.and_eq_true] at c'
   exact .cons (Dv.GV t h c'.1) (ck.GV t r c'.2)
end
theorem Mv.zP {S : List Addr} {H H' : Hp} {v : List V} {d : List PyData} (m : Mv S H H') (i : aR d = true) (h : ck H v d) : ck H' v d := h.GV m.tp i
def dn (H : Hp) (p : Addr) (ds : List PyData) : Prop := ∃ xs, H p = some (.lst xs) /\ ck H xs ds /\ aR ds = true
theorem dn.dv {H : Hp} {p : Addr} {ds : List PyData} (h : dn H p ds) : Dv H (.ref p) (.list ds) := let ⟨_, e, d, _⟩ := h; .lst (.of e) d
theorem dn.keeps {H H' : Hp} {p : Addr} {ds : List PyData} (s : ao H H') (h : dn H p ds) : dn H' p ds := let ⟨xs, e, d, i⟩ := h; ⟨xs, s _ _ e, d.keeps s, i⟩
theorem dn.mv {S : List Addr} {H H' : Hp} {p : Addr} {ds : List PyData} (m : Mv S H H') (n : p ∉ S) (h : dn H p ds) : dn H' p ds := let ⟨xs, e, d, i⟩ := h; ⟨xs, m.at n e, m.zP i d, i⟩
theorem iz {H : Hp} {p : Addr} {xs : List V} {ds : List PyData} (hn : H p = none) (d : ck H xs ds) (i : aR ds = true) : dn (upd H p (.lst xs)) p ds := ⟨xs, aO, d.keeps (bD hn), i⟩
theorem AU {p q : Addr} (h : p ≠ q) : p ∉ [q] := by simpa using h
theorem small {n m : Nat} (h : n <= m) (hm : m <= 4000 := by decide) : n <= sizeLine := Nat.le_trans h (Nat.le_trans hm (by decide))
theorem fQ {n : Nat} (h : n <= 4000) : n < sizeLine := Nat.lt_of_le_of_lt h (by decide)
section
variable {σ : St} {H : Hp} {Q : VK} {D : Ends} {K : PySem.W.Frag} {p : Addr} {ds : List PyData}
theorem LK {T : String} {r : V -> List V -> Hp -> VK -> Prop} {to : TE} {t : TA} (h : to σ H fun x H1 => Gg K T x H1 /\ t σ H1 fun xs H2 => r x xs H2 Q) : MB K T r to t σ H Q := h
theorem IT {T : String} {r : V -> List V -> Hp -> VK -> Prop} {to : TE} (h : to σ H fun x H1 => Gg K T x H1 /\ r x [] H1 Q) : JE K T r to σ H Q := h
theorem Hj {R : Prop} (hp : dn H p ds) (h : R) : Gg K "list" (.ref p) H /\ R := let ⟨xs, e, _, _⟩ := hp; ⟨.inl ⟨rfl, xs, fW.of e⟩, h⟩
theorem HB {y : V} {d : PyData} (hp : dn H p ds) (hl : ds.length <= 4000) (hy : Dv H y d) (hi : sD d = true) (h : ∀ H2, Mv [p] H H2 -> dn H2 p (ds ++ [d]) -> Q .cn H2) : wD (.ref p) [y] H Q := by
 obtain ⟨xs, e, dv, i⟩ := hp
 have m : Mv [p] H (upd H p (.lst (xs ++ [y]))) := .vF e (by intro _ z; cases z)
 refine ⟨p, xs, y, rfl, rfl, e, by rw [dv.length]; exact fQ hl, h _ m ⟨_, aO, m.zP (gE i (by simp [aR, hi])) (dv.append (.cons hy .nil)), gE i (by simp [aR, hi])⟩⟩
theorem u0 {xs : List V} (hl : xs.length <= sizeLine) (hd : ck H xs ds) (hi : aR ds = true) (k : ∀ p H2, ao H H2 -> H p = none -> dn H2 p ds -> Q (.ref p) H2) : zf xs H Q :=
 ⟨hl, ds, hd, fun p H2 s n e d _ => k p H2 s n ⟨xs, e, d, hi⟩⟩
end
mutual
theorem Dv.fn {H : Hp} : ∀ {v : V} {d e : PyData}, Dv H v d -> Dv H v e -> sD d = true -> d = e
 | _, _, _, .cn, h, _ => by cases h; rfl
 | _, _, _, .bl b, h, _ => by cases h; rfl
 | _, _, _, .int i, h, _ => by cases h; rfl
 | _, _, _, .str x, h, _ => by cases h; rfl
 | _, _, _, .tup h r, h2, c => by
   cases h2 with
   | tup h' r' =>
     have c' := (by simpa [sD] using c : aR _ = true)
     rw [h] at h'
     cases h'
     rw [ck.fn r r' c']
   | lst h' r' =>
     rcases h' with h' | ⟨o, h'⟩ <;> rw [h] at h' <;> cases h'
   | dct h' r' => rw [h] at h'; cases h'
 | _, _, _, .lst h r, _, c => by simp [sD] at c
 | _, _, _, .dct h r, _, c => by simp [sD] at c
theorem ck.fn {H : Hp} : ∀ {v : List V} {d e : List PyData}, ck H v d -> ck H v e -> aR d = true -> d = e
 | _, _, _, .nil, h, _ => by cases h; rfl
 | _, _, _, .cons h r, h2, c => by
   have c' := c
   simp only [aR, Bool.and_eq_true] at c'
   cases h2 with
   | cons h' r' => rw [Dv.fn h h' c'.1, ck.fn r r' c'.2]
end
theorem Dv.lst_inv {H : Hp} {v : V} {ds : List PyData} (h : Dv H v (.list ds)) : ∃ a xs, v = .ref a /\ (∀ K : PySem.W.Frag, fW K H a xs) /\ ck H xs ds := by
 cases h with
 | lst h r => exact ⟨_, _, rfl, fun _ => .inl h, r⟩
section
variable {σ : St} {H : Hp} {Q : VK} {D : Ends} {K : PySem.W.Frag} {p : Addr} {v : V} {ds : List PyData}
def GP (te : TE) (N : Option V -> Hp -> Prop) (σ2 : St) (b : Bool) (H3 : Hp) : Prop := if b = true then te σ2 H3 (fun y H4 => N (some y) H4) else N none H3
theorem Hr {k : Nat} {tl : TE} {g : TG} {tc : TT} {te : TE} (h : tl σ H fun x H1 => ∃ a, x = .ref a /\ (∃ xs, fW K H1 a xs) /\ D2 k g tc te (rH Q) σ (IX K a) H1) : GX k (D0 K tl) g tc te σ H Q := h
theorem JC {k : Nat} {g : TG} {tc : TT} {te : TE} {α : Type} {cs : List α} {gd : α -> PyData} (pf : α -> Bool) (fd : α -> PyData) (hl : Dv H v (.list (cs.map gd))) (hlen : cs.length <= 4000) (hi : ∀ c, sD (fd c) = true)
 (turn : ∀ x c H' (N : Option V -> Hp -> Prop), c ∈ cs -> ao H H' -> Dv H' x (gd c) -> (pf c = true -> ∀ y H4, ao H' H4 -> Dv H4 y (fd c) -> N (some y) H4) -> (pf c = false -> ∀ H3, ao H' H3 -> N none H3) ->
  g x (List.replicate k none ++ σ) H' fun σ2 H2 => tc σ2 H2 fun b H3 => GP te N σ2 b H3)
 (kk : ∀ q H', ao H H' -> H q = none -> dn H' q ((cs.filter pf).map fd) -> Q (.ref q) H') : ∃ a, v = .ref a /\ (∃ xs, fW K H a xs) /\ D2 k g tc te (rH Q) σ (IX K a) H := by
 obtain ⟨p, xs, rfl, e, dv⟩ := hl.lst_inv
 have Ge : fW K H p xs := e K
 have GQ : xs.length = cs.length := by rw [dv.length, List.length_map]
 refine ⟨p, rfl, ⟨xs, Ge⟩, fun i m acc H' => i <= cs.length /\ m = cs.length - i /\ ao H H' /\ ck H' acc (((cs.take i).filter pf).map fd), ⟨cs.length, Nat.zero_le _, rfl, ao.refl _, by simpa using ck.nil⟩, ?_⟩
 rintro i m acc H' ⟨MX, hm, sm, iT⟩
 have C4 : fW K H' p xs := ao.seq sm Ge
 have EV : acc.length <= cs.length := by
  rw [iT.length, List.length_map]
  exact Nat.le_trans (List.length_filter_le _ _) (by rw [List.length_take]; omega)
 by_cases hc : i = cs.length
 . left
   refine ⟨⟨xs, C4, by omega⟩, fun q hq => ?_⟩
   rw [hc, List.take_length] at iT
   have Ny : ao H (upd H' q (.lst acc)) := sm.trans (bD hq)
   exact kk q _ Ny (sm.none hq) ⟨acc, aO, iT.keeps (bD hq), lH hi _⟩
 . right
   have rM : i < cs.length := by omega
   have Hz : i < xs.length := by omega
   refine ⟨⟨xs, xs[i], C4, List.getElem?_eq_getElem Hz⟩, fQ (by omega), fun x H2 hy => ?_⟩
   obtain ⟨rfl, hy⟩ := hy
   have hx := hy xs C4
   have IB : cs[i]? = some cs[i] := List.getElem?_eq_getElem rM
   obtain ⟨x', ud, hd⟩ := dv.get (i := i) (d := gd cs[i]) (by rw [List.getElem?_map, IB]; rfl)
   rw [hx] at ud
   cases ud
   have D9 : cs.take (i + 1) = cs.take i ++ [cs[i]] := by rw [List.take_add_one, IB]; rfl
   exact turn x cs[i] H2 (fun o H4 => match o with | some y => ∃ m', m' < m /\ i + 1 <= cs.length /\ m' = cs.length - (i + 1) /\ ao H H4 /\ ck H4 (acc ++ [y]) (((cs.take (i + 1)).filter pf).map fd) | none => ∃ m', m' < m /\ i + 1 <= cs.length /\ m' = cs.length - (i + 1) /\ ao H H4 /\ ck H4 acc (((cs.take (i + 1)).filter pf).map fd))
    (List.getElem_mem rM) sm (hd.keeps sm)
    (fun hp y H4 s4 d4 => ⟨cs.length - (i + 1), by omega, rM, rfl, sm.trans s4, by
     rw [D9, List.filter_append, List.map_append]
     simp only [List.filter_cons, hp, if_true, List.filter_nil, List.map_cons, List.map_nil]
     exact ck.append (iT.keeps s4) (.cons d4 .nil)⟩)
    (fun hp H3 s3 => ⟨cs.length - (i + 1), by omega, rM, rfl, sm.trans s3, by
     rw [D9, List.filter_append, List.map_append]
     simp only [List.filter_cons, hp, Bool.false_eq_true, if_false, List.filter_nil, List.map_nil, List.append_nil]
     exact iT.keeps s3⟩)
end
def wC (scope sc : Scope) (N M : List Str) : Bool :=
 (scope.kind == .function) && scope.names.all (fun y => y.2 != .cell) && scope.names.all (fun y => y.2 != .local || scope.names.lookup y.1 == some .local) &&
  scope.names.all (fun y => y.2 != .free || (sc.names.lookup y.1 == some .cell || sc.names.lookup y.1 == some .free)) && (M.length == N.length) &&
  (M.zip N).all fun p => (p.1 == p.2 && scope.names.lookup p.1 == some .free) || scope.names.lookup p.1 == none
theorem G9 {X : Cx} {T M : List Str} {scope : Scope} (sc : Scope) (N : List Str) (hs : X.env.scope = sc) (hN : X.N = N) (h : wC scope sc N M = true) : fR X T M scope := by
 unfold wC at h
 simp only [Bool.and_eq_true, List.all_eq_true, Bool.or_eq_true, bne_iff_ne, beq_iff_eq, ne_eq] at h
 obtain ⟨⟨⟨⟨⟨h1, h2⟩, h3⟩, h4⟩, h5⟩, h6⟩ := h
 refine ⟨h1, h2, fun y hy e => ?_, fun y hy e => ?_, by rw [hN]; exact h5, fun i x hx => ?_⟩
 . rcases h3 y hy with z | z
   . exact absurd e z
   . exact z
 . rw [hs]
   rcases h4 y hy with z | z
   . exact absurd e z
   . exact z
 . have hi : i < M.length := (List.getElem?_eq_some_iff.mp hx).1
   have Mq : i < N.length := by omega
   have hz : (M.zip N)[i]? = some (x, N[i]) := by
    rw [List.getElem?_zip_eq_some]
    exact ⟨hx, List.getElem?_eq_getElem Mq⟩
   rcases h6 _ (List.mem_of_getElem? hz) with ⟨a, b⟩ | a
   . left
     refine ⟨?_, b⟩
     rw [hN, List.getElem?_eq_getElem Mq]
     have a' : x = N[i] := a
     rw [a']
   . exact .inr a
section
variable {σ : St} {H : Hp} {Q : VK} {D : Ends} {K : PySem.W.Frag} {p : Addr} {v : V} {ds : List PyData}
theorem zR {z : Str} {i : Int} {c : Nat} (hl : z.length <= sizeLine) (hi : oM z.cps.toList i = some c) (h : Q (.str ⟨#[c]⟩) H) : yZ K (.str z) (.int i) H Q := .inl (.inr ⟨z, i, c, rfl, rfl, hl, hi, h⟩)
theorem A3 {R : Bool -> Prop} (hp : Dv H v (.list ds)) (h : R (!ds.isEmpty)) : ∃ k, yr K v H k /\ R k := by
 obtain ⟨p, xs, rfl, e, dv⟩ := hp.lst_inv
 refine ⟨_, .inl ⟨xs, e K, rfl⟩, ?_⟩
 have : xs.isEmpty = ds.isEmpty := by cases dv <;> rfl
 rw [this]; exact h
theorem KA {te : TE} {tl th : TO} {r : V -> Option Int -> Option Int -> Hp -> VK -> Prop} (h : te σ H fun x H1 => tl σ H1 fun l H2 => th σ H2 fun u H3 => r x l u H3 Q) : M4 r te tl th σ H Q := h
theorem EG {t : TE} {R : Option Int -> Hp -> Prop} (h : t σ H fun x H1 => ∃ i, x = .int i /\ R (some i) H1) : DQ t σ H R := h
theorem yR {R : Option Int -> Hp -> Prop} (h : R none H) : wQ σ H R := h
theorem BQ {i : Int} {R : Int -> Prop} (h : R i) : ∃ j, V.int i = .int j /\ R j := ⟨i, rfl, h⟩
end
end L2
namespace L2
theorem zg {H H1 H2 : Hp} (a : ∀ x, H1 x = none -> H x = none) (b : ∀ x, H2 x = none -> H1 x = none) : ∀ x, H2 x = none -> H x = none := fun x h => a x (b x h)
theorem EH {H H' : Hp} {p : PySem.Addr} (s : ∀ x, H' x = none -> H x = none) (h : H' p = none) : H p = none := s p h
theorem ao.OW {H H' : Hp} (s : ao H H') : ∀ x, H' x = Option.none -> H x = Option.none := (s.mv (S := [])).dm
end L2
namespace L2
open PySem
theorem yP {α β : Type} [Inhabited α] {f : α -> β} {xs : List α} {i : Int} (h0 : 0 <= i) (h1 : i < xs.length) : oM (xs.map f) i = some (f (xs.getD i.toNat default)) := by
 obtain ⟨m, rfl⟩ := Int.eq_ofNat_of_zero_le h0
 have hm : m < xs.length := by omega
 refine jV ?_
 rw [List.getElem?_map, List.getElem?_eq_getElem hm]
 simp [hm]
theorem Fe {α : Type} {g : α -> PyData} {xs : List α} {K : PySem.W.Frag} {H : Hp} {Q : VK} {v : V} (hs : Dv H v (.list (xs.map g))) (h : Q (.int (xs.length : Nat)) H) : tG K [v] H Q := z0 (.inr hs) (by rw [List.length_map]; exact h)
theorem Dl {i : Nat} {v : V} {σ : St} {H : Hp} {R : St -> Hp -> Prop} (h : R (σ.set i (some v)) H) : i6 i v σ H R := h
theorem Mv.D4 {p : Addr} {H H1 H2 : Hp} (s : ao H H1) (m : Mv [p] H1 H2) (n : H p = Option.none) : ao H H2 := fun a o e => m.kp a o (AU (cf e n)) (s a o e)
theorem Fg {K : PySem.W.Frag} {H : Hp} {v : V} {ds : List PyData} {R : Bool -> Prop} (hp : Dv H v (.list ds)) (hn : ds ≠ []) (h : R true) : ∃ k, yr K v H k /\ R k := A3 hp (by
 cases ds with
 | nil => exact absurd rfl hn
 | cons d ds => exact h)
theorem pN {te : TE} {N : Option V -> Hp -> Prop} {σ2 : St} {b : Bool} {H3 : Hp} (h1 : b = true -> te σ2 H3 (fun y H4 => N (some y) H4)) (h2 : b = false -> N none H3) : GP te N σ2 b H3 := by
 unfold GP
 cases b with
 | true => rw [if_pos rfl]; exact h1 rfl
 | false => rw [if_neg (by simp)]; exact h2 rfl
end L2
namespace L2
open PySem PySem.Spec PyProof.Rows
section
variable {X : Cx} {K : PySem.W.Frag} {a b e : Expr} {es : List Expr} {ta : TE} {pos : Pos}
theorem rz (h : X.K = K) (ha : PE X a ta) (he : ∀ whole, isTrue a X.env whole = (do let v <- whole; standAt a.pos; holding [v] (truthy v))) : PT X a (fun σ H Q => ta σ H fun x H' => ∃ k, yr K x H' k /\ Q k H') := by rw [<- h]; exact eF ha he
end
end L2
namespace L2
open PySem PySem.Spec PyProof.Rows PySem.W
inductive JO (H : Hp) : List (Key × V) -> List (Str × PyData) -> Prop where
 | nil : JO H [] []
 | cons {k : Str} {v : V} {d : PyData} {d8 : List (Key × V)} {m : List (Str × PyData)} (h : Dv H v d) (i : sD d = true) (r : JO H d8 m) : JO H ((.inr k, v) :: d8) ((k, d) :: m)
def JP (H : Hp) (p : Addr) (m : List (Str × PyData)) : Prop := ∃ d8, H p = some (.dK d8) /\ JO H d8 m
section
variable {σ : St} {H : Hp} {Q : VK} {D : Ends} {K : PySem.W.Frag} {p : Addr} {m : List (Str × PyData)} {k : Str}
theorem Cp {r r' : R2} {ta tb tc : TE} (h : ta σ H fun x H1 => tb σ H1 fun y H2 => r x y H2 fun z H3 => ∃ k, z = .bl k /\ if k = true then tc σ H3 fun u H4 => r' y u H4 Q else Q (.bl false) H3) : vi r r' ta tb tc σ H Q := h
end
end L2
namespace L2
end L2
namespace L2
open PySem
end L2
namespace L2
open PySem PySem.Spec PyProof.Rows PySem.W
def EC (x : Str) : It := ⟨fun i _ => i < x.cps.size, fun i H v H' => H' = H /\ ∃ c, x.cps[i]? = some c /\ v = .str ⟨#[c]⟩, fun i _ => i = x.cps.size⟩
theorem tu {P : Program} {w : World} {K : PySem.W.Frag} {tg : Expr} {it : Addr} {x : Str} {t : Tok} {T : String} (hT : ["enumerate", "zip", "dict_itemiterator", "dict_reverseitemiterator", "odict_iterator", "itertools.zip_longest", "itertools.pairwise"].contains T = false)
 (W : ∀ A : Around, A.handled = none -> Walks P w A it [it] [it] x.cps.size (SignAt x) (fun i h => h.IsStrIter it T x t i))
 (self : ∀ (A : Around) (i : Nat) (s : Shared) (Q : Value -> Shared -> Prop) (E : Value -> Shared -> Prop), s.heap.IsStrIter it T x t i -> Q (.ref it) s -> wpAny (model P w) A (pyIter (.ref it)) Q E s) :
 Turn P w K tg (EC x) [it] it (fun i h => h.IsStrIter it T x t i) where
 mem := by simp
 obj := fun i h st b hb => by
  have e : b = it := by simpa using hb
  subst e
  obtain ⟨o, e, c, d⟩ := st
  exact ⟨o, e, fun v z => by rw [d] at z; cases z⟩
 keep := fun i h h' st k => let ⟨o, e, r⟩ := st; ⟨o, k it (by simp) o e, r⟩
 item := by
  intro X hP hw hK hc i pins s σ H E I hf st hg
  subst hP hw hK
  obtain ⟨f0, f1, f2, f3, f4, f5⟩ := hf it (by simp)
  refine (W X.A (I.ok.hd hc)).item i s _ _ hg st fun v h' tk hv Jo kk => ?_
  obtain ⟨c, u, Nj, rfl⟩ := hv
  have I1 : Inv X pins σ H { s with heap := h', toks := tk } := I.turned (fun b o hb e => kk b o (by simpa using hb) e) f0 f1 f3 f4 f5
  obtain ⟨o, e, cl, d⟩ := id Jo
  exact ⟨_, rfl, D7 (s := { s with heap := h', toks := tk }) e cl d hT ⟨.str ⟨#[c]⟩, H, I1, ⟨u, rfl⟩, ⟨rfl, c, Nj, rfl⟩, Jo, fun b hb => (hf b hb).1⟩⟩
 done := by
  intro X hP hw hK hc i pins s σ H E I hf st hg
  subst hP hw hK
  obtain ⟨f0, f1, f2, f3, f4, f5⟩ := hf it (by simp)
  have NR : i = x.cps.size := hg
  subst NR
  exact (W X.A (I.ok.hd hc)).done s _ _ st fun h' tk kk => ⟨rfl, I.turned (fun b o hb e => kk b o (by simpa using hb) e) f0 f1 f3 f4 f5⟩
 self := self
def ED (tl : TE) : TI := fun σ H R => tl σ H fun v H1 => ∃ x, v = .str x /\ R (EC x) H1
section
variable {X : Cx} {tg : Expr}
theorem AI {l : Expr} {tl : TE} (hl : PE X l tl) : PI X tg l (ED tl) := by
 intro pins s σ H R I h
 refine bP (hl pins s σ H _ I h) fun v s1 ⟨y, H1, I1, r1, q1⟩ => ?_
 obtain ⟨x, e, q⟩ := q1
 subst e
 obtain ⟨t, rfl⟩ := r1
 have fin : ∀ b, b ∈ [s1.heap.objs.size] -> j9 X pins H1 b := fun b hb => by
  have e : b = s1.heap.objs.size := by simpa using hb
  subst e
  exact I1.Cg (Nat.le_refl _) (I1.bf.fresh (Nat.le_refl _))
 cases ha : x.cps.all (· < 128)
 . refine wpAny_pyIter_wide ha ?_
   exact ⟨s1.heap.objs.size, [s1.heap.objs.size], _, _, H1, rfl, I1.kept (t' := s1.toks) fun b o e => Heap.get?_push_of_some _ e, tu (t := t) (by decide) (fun A hA => Walks.strWide hA _ x t) (fun A i s Q E st q => wpAny_pyIter_striter_wide st q), ⟨_, Heap.get?_push_size _ rfl, rfl, rfl⟩, fin, q⟩
 . refine wpAny_pyIter_ascii ha ?_
   exact ⟨s1.heap.objs.size, [s1.heap.objs.size], _, _, H1, rfl, I1.kept (t' := s1.toks) fun b o e => Heap.get?_push_of_some _ e, tu (t := t) (by decide) (fun A hA => Walks.strAscii hA _ x t) (fun A i s Q E st q => wpAny_pyIter_striter_ascii st q), ⟨_, Heap.get?_push_size _ rfl, rfl, rfl⟩, fin, q⟩
def Ha : List V -> Hp -> VK -> Prop := fun xs H Q => ∃ (v : V) (bs : List Bool), xs = [v] /\ Dv H v (.list (bs.map PyData.bool)) /\ Q (.bl (bs.all id)) H
theorem uH {H : Hp} : ∀ {xs : List V} {bs : List Bool} {us : List Value}, ck H xs (bs.map PyData.bool) -> Vals xs us -> us = bs.map Value.bool
 | _, [], _, .nil, .nil => rfl
 | _, b :: bs, _, .cons h r, .cons q t => by
   cases h
   cases q
   rw [uH r t]; rfl
theorem vO {H : Hp} {pins : List (Addr × Obj)} {σ : St} {s : Shared} {v : V} {u : Value} {bs : List Bool} {A : Around} {E : Value -> Shared -> Prop} {Q : (Nat -> Bool) -> Shared -> Prop} (hA : A.handled = none) (I : Inv X pins σ H s) (rv : RelV v u) (hd : Dv H v (.list (bs.map PyData.bool)))
 (fin : ∀ h' tk, Inv X pins σ H { s with heap := h', toks := tk } -> Q (fun i => bs.getD i false) { s with heap := h', toks := tk }) :
 wpAny (model X.prog X.w) A (pyIter u) (fun it s2 => ∃ J fp wr n P St tr, it = .ref J /\ Walks X.prog X.w A J fp wr n P St /\ St 0 s2.heap /\ TruthOf X.prog X.w A P tr /\ n = bs.length /\ (tr = fun i => bs.getD i false) /\
  ∀ h' tk, (∀ b o, b ∉ wr -> s2.heap.get? b = some o -> h'.get? b = some o) -> Q tr { s2 with heap := h', toks := tk }) E s := by
 obtain ⟨p, xs, rfl, e, dv⟩ := hd.lst_inv
 obtain ⟨aV, HK, pl, _⟩ := I.list (e X.K)
 have hits := uH dv HK
 have hu : u = .ref p := rv
 subst hu
 refine wpAny_pyIter_list pl.isList ?_
 have rM : p < s.heap.objs.size := by obtain ⟨o, n, e1, _⟩ := pl; exact Heap.lt_size e1
 refine ⟨s.heap.objs.size, _, _, _, _, _, fun i => bs.getD i false, rfl, Walks.list hA _ p (Nat.ne_of_lt rM) aV.toArray, ⟨⟨_, Heap.get?_push_size _ rfl, rfl, rfl⟩, pl.isList.at fun o e => Heap.get?_push_of_some _ e⟩, ?_, ?_, rfl, fun h' tk kk => ?_⟩
 . intro i w' s3 Q3 E3 hP q
   subst hits
   have hi : (bs.map Value.bool)[i]? = some w' := by simpa using hP
   rw [List.getElem?_map] at hi
   cases hb : bs[i]? with
   | none => rw [hb] at hi; cases hi
   | some b =>
     rw [hb] at hi
     have : w' = .bool b := (Option.some.inj hi).symm
     subst this
     refine wpAny_truthy_bool ?_
     have : bs.getD i false = b := by simp [hb]
     have q' : Q3 (bs.getD i false) s3 := q
     rw [this] at q'
     exact q'
 . subst hits; simp
 . have I1 := I.kept (t' := s.toks) (h' := s.heap.push { cls := Value.type "list_iterator", data := Data.fields #[Value.ref p, Value.int 0 0] }) fun b o e => Heap.get?_push_of_some _ e
   have fp := I.Cg (H' := H) (Nat.le_refl _) (I.bf.fresh (Nat.le_refl _))
   have I2 := I1.turned (t' := tk) (h' := h') (it := s.heap.objs.size) (fun b o hb e => kk b o (by simpa using hb) e) fp.1 fp.2.1 fp.2.2.2.1 fp.2.2.2.2.1 fp.2.2.2.2.2
   exact fin h' tk I2
theorem range_all (bs : List Bool) : (List.range bs.length).all (fun i => bs.getD i false) = bs.all id := by
 rw [Bool.eq_iff_iff]
 simp only [List.all_eq_true, List.mem_range, id]
 constructor
 . intro h b hb
   obtain ⟨i, hi, e⟩ := List.getElem_of_mem hb
   have := h i hi
   simp [hi] at this
   rw [<- e]; exact this
 . intro h i hi
   simp [hi]
   exact h _ (List.getElem_mem hi)
theorem xV (hc : X.calm = true) : fX X (.builtin "all") Ha := by
 intro pins s σ H xs us Q I r h
 obtain ⟨v, bs, rfl, hd, q⟩ := h
 obtain ⟨u, rfl, ru⟩ := vals1 r
 refine call_all_walk (bP (vO (Q := fun g s' => EP X pins σ Q (.bool ((List.range bs.length).all g)) s') (show X.A.in1.handled = none from I.ok.hd hc) I ru hd (fun h' tk I' => ⟨.bl _, H, I', rfl, ?_⟩)) fun it s2 hq => ?_)
 . rw [range_all]; exact q
 . obtain ⟨J, fp, wr, n, P, St, tr, e1, W, st, tt, hn, Pt, k⟩ := hq
   subst hn
   exact ⟨J, fp, wr, _, P, St, tr, e1, W, st, tt, k⟩
section
variable {σ : St} {H : Hp} {Q : VK} {D : Ends} {K : PySem.W.Frag}
theorem Jq {v : V} {bs : List Bool} (hd : Dv H v (.list (bs.map PyData.bool))) (h : Q (.bl (bs.all id)) H) : Ha [v] H Q := ⟨v, bs, rfl, hd, h⟩
def HX (x : V) (g : TG) (tb : TS) (D : Ends) (σ : St) (H1 : Hp) : Prop := ∃ z, x = .str z /\ ∃ W : Nat -> Nat -> St -> Hp -> Prop, (∃ m, W 0 m σ H1) /\ ∀ i m σ H, W i m σ H ->
 ((EC z).stop i H /\ D.nx σ H) \/ ((EC z).go i H /\ ∃ N : St -> Hp -> Prop, (∀ σ' H', N σ' H' -> ∃ m', m' < m /\ W (i + 1) m' σ' H') /\ ∀ x H', (EC z).JZ i H x H' -> g x σ H' fun σ2 H2 => tb { D with nx := N, ct := N, bk := D.nx } σ2 H2)
theorem Gu {tl : TE} {g : TG} {tb : TS} (h : tl σ H fun x H1 => HX x g tb D σ H1) : HW (ED tl) g tb D σ H := h
theorem Kt {z : Str} {g : TG} {tb : TS} (Pv : Nat -> St -> Hp -> Prop) (h0 : Pv 0 σ H)
 (hs : ∀ i c σ H, z.cps[i]? = some c -> Pv i σ H -> g (.str ⟨#[c]⟩) σ H fun σ2 H2 => tb { D with nx := Pv (i + 1), ct := Pv (i + 1), bk := D.nx } σ2 H2) (hd : ∀ σ H, Pv z.cps.size σ H -> D.nx σ H) : HX (.str z) g tb D σ H := by
 refine ⟨z, rfl, fun i m σ H => i <= z.cps.size /\ m = z.cps.size - i /\ Pv i σ H, ⟨_, Nat.zero_le _, rfl, h0⟩, ?_⟩
 rintro i m σ H ⟨hi, rfl, hp⟩
 by_cases h : i = z.cps.size
 . left
   subst h
   exact ⟨rfl, hd σ H hp⟩
 . right
   have rM : i < z.cps.size := by omega
   refine ⟨rM, Pv (i + 1), fun σ' H' q => ⟨z.cps.size - (i + 1), by omega, by omega, rfl, q⟩, ?_⟩
   rintro x H' ⟨rfl, c, hc, rfl⟩
   exact hs i c σ _ hc hp
theorem Fj {k : Nat} {tl : TE} {g : TG} {tc : TT} {te : TE} (h : tl σ H fun x H1 => ∃ z, x = .str z /\ D2 k g tc te (rH Q) σ (EC z) H1) : GX k (ED tl) g tc te σ H Q := h
theorem Hg {k : Nat} {g : TG} {tc : TT} {te : TE} {z : Str} (pf : Nat -> Bool) (fd : Nat -> PyData) (hlen : z.cps.size <= 4000) (hi : ∀ c, sD (fd c) = true)
 (turn : ∀ c H' (N : Option V -> Hp -> Prop), c ∈ z.cps.toList -> ao H H' -> (pf c = true -> ∀ y H4, ao H' H4 -> Dv H4 y (fd c) -> N (some y) H4) -> (pf c = false -> ∀ H3, ao H' H3 -> N none H3) ->
  g (.str ⟨#[c]⟩) (List.replicate k none ++ σ) H' fun σ2 H2 => tc σ2 H2 fun b H3 => GP te N σ2 b H3)
 (kk : ∀ q H', ao H H' -> H q = none -> dn H' q ((z.cps.toList.filter pf).map fd) -> Q (.ref q) H') : ∃ w, V.str z = .str w /\ D2 k g tc te (rH Q) σ (EC w) H := by
 refine ⟨z, rfl, fun i m acc H' => i <= z.cps.size /\ m = z.cps.size - i /\ ao H H' /\ ck H' acc (((z.cps.toList.take i).filter pf).map fd), ⟨_, Nat.zero_le _, rfl, ao.refl _, by simpa using ck.nil⟩, ?_⟩
 rintro i m acc H' ⟨MX, hm, sm, iT⟩
 have EV : acc.length <= z.cps.size := by
  rw [iT.length, List.length_map]
  exact Nat.le_trans (List.length_filter_le _ _) (by rw [List.length_take]; simp; omega)
 by_cases hc : i = z.cps.size
 . left
   refine ⟨hc, fun q hq => ?_⟩
   have e : z.cps.toList.take i = z.cps.toList := List.take_of_length_le (by rw [hc]; simp)
   rw [e] at iT
   exact kk q _ (sm.trans (bD hq)) (sm.none hq) ⟨acc, aO, iT.keeps (bD hq), lH hi _⟩
 . right
   have rM : i < z.cps.size := by omega
   refine ⟨rM, fQ (by omega), fun x H2 hy => ?_⟩
   obtain ⟨rfl, c, JT, rfl⟩ := hy
   have Ec : z.cps.toList[i]? = some c := by rw [Array.getElem?_toList]; exact JT
   have D9 : z.cps.toList.take (i + 1) = z.cps.toList.take i ++ [c] := by rw [List.take_add_one, Ec]; rfl
   exact turn c H2 (fun o H4 => match o with | some y => ∃ m', m' < m /\ i + 1 <= z.cps.size /\ m' = z.cps.size - (i + 1) /\ ao H H4 /\ ck H4 (acc ++ [y]) (((z.cps.toList.take (i + 1)).filter pf).map fd) | none => ∃ m', m' < m /\ i + 1 <= z.cps.size /\ m' = z.cps.size - (i + 1) /\ ao H H4 /\ ck H4 acc (((z.cps.toList.take (i + 1)).filter pf).map fd))
    (List.mem_of_getElem? Ec) sm
    (fun hp y H4 s4 d4 => ⟨z.cps.size - (i + 1), by omega, rM, rfl, sm.trans s4, by
     rw [D9, List.filter_append, List.map_append]
     simp only [List.filter_cons, hp, if_true, List.filter_nil, List.map_cons, List.map_nil]
     exact ck.append (iT.keeps s4) (.cons d4 .nil)⟩)
    (fun hp H3 s3 => ⟨z.cps.size - (i + 1), by omega, rM, rfl, sm.trans s3, by
     rw [D9, List.filter_append, List.map_append]
     simp only [List.filter_cons, hp, Bool.false_eq_true, if_false, List.filter_nil, List.map_nil, List.append_nil]
     exact iT.keeps s3⟩)
end
end
end L2
namespace L2
open PySem
section
variable {H : Hp} {Q : VK} {K : PySem.W.Frag}
theorem CM {z : Str} (hl : z.length <= 4000) (h : Q (.int (z.length : Nat)) H) : tG K [.str z] H Q := .inl (.inr ⟨z, rfl, small hl, h⟩)
def DT : R2 := fun x y H Q => ∃ i j, x = .str i /\ y = .str j /\ Q (.bl (!(!(Builtin.Str.occurrences j i 0 j.length 1).isEmpty))) H
theorem Al {X : Cx} : jW X (compareOp .NotIn) DT := sO
theorem Dg {i j : Str} (h : Q (.bl (!(!(Builtin.Str.occurrences j i 0 j.length 1).isEmpty))) H) : DT (.str i) (.str j) H Q := ⟨i, j, rfl, rfl, h⟩
def Ej : R2 := fun x y H Q => ∃ i j, x = .str i /\ y = .str j /\ Q (.bl (!(Builtin.Str.occurrences j i 0 j.length 1).isEmpty)) H
theorem Bp {X : Cx} : jW X (compareOp .In) Ej := xG
theorem FI {i j : Str} (h : Q (.bl (!(Builtin.Str.occurrences j i 0 j.length 1).isEmpty)) H) : Ej (.str i) (.str j) H Q := ⟨i, j, rfl, rfl, h⟩
end
end L2
namespace L2
open PySem PySem.Spec PyProof.Rows PySem.W
section
variable {X : Cx}
theorem xo {H : Hp} : ∀ {xs : List V} {ss : List Str} {us : List Value}, ck H xs (ss.map PyData.str) -> Vals xs us -> StrsAre us ss
 | _, [], _, .nil, .nil => .nil
 | _, b :: bs, _, .cons h r, .cons q t => by
   cases h
   obtain ⟨tk, rfl⟩ := q
   exact .cons _ _ (xo r t)
def rJoin : V -> List V -> Hp -> VK -> Prop := fun x vs H Q => ∃ (sep : Str) (v : V) (ss : List Str), x = .str sep /\ vs = [v] /\ Dv H v (.list (ss.map PyData.str)) /\ (ss.map (·.length)).sum + ss.length * sep.length <= 16777216 /\ Q (.str (Txt.join sep ss)) H
theorem rR : IL X "str.join" rJoin := by
 intro pins s σ H x vs v us Q I rx rv h
 obtain ⟨sep, y, ss, rfl, rfl, hd, hz, q⟩ := h
 obtain ⟨t, rfl⟩ := rx
 obtain ⟨u, rfl, ru⟩ := rv.one
 obtain ⟨p, xs, rfl, e, dv⟩ := hd.lst_inv
 obtain ⟨aV, HK, pl, _⟩ := I.list (e X.K)
 have hu : u = .ref p := ru
 subst hu
 have hs := xo dv HK
 refine join_list pl.isList (by simpa using hs) hz fun t' k => ?_
 exact ⟨.str _, H, I.tok _, ⟨_, rfl⟩, q⟩
end
section
variable {σ : St} {H : Hp} {Q : VK} {D : Ends} {K : PySem.W.Frag} {p : Addr} {ds : List PyData}
theorem sP {sep : Str} {v : V} {ss : List Str} (hd : Dv H v (.list (ss.map PyData.str))) (hz : (ss.map (·.length)).sum + ss.length * sep.length <= 16777216) (h : Q (.str (Txt.join sep ss)) H) : rJoin (.str sep) [v] H Q := ⟨sep, v, ss, rfl, rfl, hd, hz, h⟩
theorem HI {z : Str} {R : Prop} (h : R) : Gg K "str" (.str z) H /\ R := ⟨rfl, h⟩
theorem ck.rev {H : Hp} {xs : List V} {ds : List PyData} (h : ck H xs ds) : ck H xs.reverse ds.reverse := by
 induction xs generalizing ds with
 | nil => cases h; exact .nil
 | cons x xs ih =>
   cases h with
   | cons h r => rw [List.reverse_cons, List.reverse_cons]; exact (ih r).append (.cons h .nil)
theorem pU {ds : List PyData} (h : aR ds = true) : aR ds.reverse = true := by
 rw [cY] at *
 intro d hd
 exact h d (List.mem_reverse.mp hd)
theorem Iq (hp : dn H p ds) (h : ∀ H2, Mv [p] H H2 -> dn H2 p ds.reverse -> Q .cn H2) : uA (.ref p) [] H Q := by
 obtain ⟨xs, e, dv, i⟩ := hp
 have m : Mv [p] H (upd H p (.lst xs.reverse)) := .vF e (by intro _ z; cases z)
 exact ⟨p, xs, rfl, rfl, e, h _ m ⟨_, aO, m.zP (pU i) dv.rev, pU i⟩⟩
theorem ck.drop {H : Hp} : ∀ {xs : List V} {ds : List PyData} (n : Nat), ck H xs ds -> ck H (xs.drop n) (ds.drop n)
 | _, _, 0, h => h
 | _, _, _ + 1, .nil => .nil
 | _, _, n + 1, .cons _ r => ck.drop n r
theorem ck.take {H : Hp} : ∀ {xs : List V} {ds : List PyData} (n : Nat), ck H xs ds -> ck H (xs.take n) (ds.take n)
 | _, _, 0, _ => .nil
 | _, _, _ + 1, .nil => .nil
 | _, _, n + 1, .cons h r => .cons h (ck.take n r)
theorem jA {ds : List PyData} (n : Nat) (h : aR ds = true) : aR (ds.drop n) = true := by
 rw [cY] at *
 exact fun d hd => h d (List.mem_of_mem_drop hd)
theorem jx {ds : List PyData} (n : Nat) (h : aR ds = true) : aR (ds.take n) = true := by
 rw [cY] at *
 exact fun d hd => h d (List.mem_of_mem_take hd)
theorem yV (xs : List V) (i : Nat) : sd xs (some (i : Int)) none = xs.drop i := by
 have h1 : HT.fN xs.length 0 (some (i : Int)) = min i xs.length := by
  simp only [HT.fN]
  rw [if_neg (by omega)]
  omega
 have h2 : HT.fN xs.length xs.length none = xs.length := rfl
 show (xs.drop (HT.fN xs.length 0 (some (i : Int)))).take (HT.fN xs.length xs.length none - HT.fN xs.length 0 (some (i : Int))) = _
 rw [h1, h2]
 by_cases h : i <= xs.length
 . rw [Nat.min_eq_left h, List.take_of_length_le (by rw [List.length_drop]; omega)]
 . rw [List.drop_of_length_le (show xs.length <= min i xs.length by omega), List.drop_of_length_le (show xs.length <= i by omega), List.take_nil]
theorem Gs (xs : List V) (j : Nat) : sd xs none (some (j : Int)) = xs.take j := by
 have h1 : HT.fN xs.length xs.length (some (j : Int)) = min j xs.length := by
  simp only [HT.fN]
  rw [if_neg (by omega)]
  omega
 have h2 : HT.fN xs.length 0 none = 0 := rfl
 show (xs.drop (HT.fN xs.length 0 none)).take (HT.fN xs.length xs.length (some (j : Int)) - HT.fN xs.length 0 none) = _
 rw [h1, h2, List.drop_zero, Nat.sub_zero]
 by_cases h : j <= xs.length
 . rw [Nat.min_eq_left h]
 . rw [List.take_of_length_le (show xs.length <= min j xs.length by omega), List.take_of_length_le (show xs.length <= j by omega)]
theorem sv (i : Nat) (hp : dn H p ds) (k : ∀ q H', ao H H' -> H q = none -> dn H' q (ds.drop i) -> Q (.ref q) H') : tZ K (.ref p) (some (i : Int)) none H Q := by
 obtain ⟨xs, e, dv, im⟩ := hp
 refine ⟨p, xs, rfl, fW.of e, fun q hq => ?_⟩
 rw [yV]
 exact k q _ (bD hq) hq (iz hq (dv.drop i) (jA i im))
theorem zM (j : Nat) (hp : dn H p ds) (k : ∀ q H', ao H H' -> H q = none -> dn H' q (ds.take j) -> Q (.ref q) H') : tZ K (.ref p) none (some (j : Int)) H Q := by
 obtain ⟨xs, e, dv, im⟩ := hp
 refine ⟨p, xs, rfl, fW.of e, fun q hq => ?_⟩
 rw [Gs]
 exact k q _ (bD hq) hq (iz hq (dv.take j) (jx j im))
theorem As {q : Addr} {es : List PyData} (hp : dn H p ds) (hq : dn H q es) (hl : ds.length + es.length <= 4000) (k : ∀ r H', ao H H' -> H r = none -> dn H' r (ds ++ es) -> Q (.ref r) H') : E2 (.ref p) (.ref q) H Q := by
 obtain ⟨xs, e, dv, im⟩ := hp
 obtain ⟨zs, e2, Mm, NC⟩ := hq
 refine ⟨p, q, xs, zs, rfl, rfl, e, e2, by rw [dv.length, Mm.length]; exact small hl, fun r hr => ?_⟩
 exact k r _ (bD hr) hr (iz hr (dv.append Mm) (gE im NC))
end
end L2
namespace L2
open PySem PySem.Calls PyProof.Rows
section
variable {X : Cx} {e k : Expr} {te tk : TE} {pos p2 : Pos}
end
section
variable {X : Cx}
end
section
variable {K : PySem.W.Frag} {σ : St} {H : Hp} {Q : VK} {p : Addr} {ds : List PyData}
end
end L2
namespace L2
open PySem PySem.Spec PyProof.Rows PySem.W
theorem Cu (lo hi : Option Int) (n : Nat) : (Builtin.Str.strSliceIndices lo hi 1 n).length <= n := by
 unfold Builtin.Str.strSliceIndices sliceRange
 simp only [List.length_map, List.length_range, Int.ediv_one, show (1 : Int) > 0 by decide, if_true]
 cases lo <;> cases hi <;> simp only [] <;> (repeat' split) <;> omega
section
variable {X : Cx}
theorem rA : ∀ {us : List Value} {ss : List Str}, StrsAre us ss -> Vals (ss.map V.str) us
 | _, _, .nil => .nil
 | _, _, .cons _ t r => .cons ⟨t, rfl⟩ (rA r)
theorem tU {H : Hp} : ∀ (ss : List Str), ck H (ss.map V.str) (ss.map PyData.str)
 | [] => .nil
 | x :: r => .cons (.str x) (tU r)
theorem xu {H : Hp} : ∀ {xs : List V} {ns : List Int} {us : List Value}, ck H xs (ns.map PyData.int) -> Vals xs us -> IntsAre us ns
 | _, [], _, .nil, .nil => .nil
 | _, _ :: _, _, .cons h r, .cons q t => by
   cases h
   obtain ⟨tk, rfl⟩ := q
   exact .cons _ _ (xu r t)
end
section
variable {prog : Program} {w : World} {A : Around} {E : Value -> Shared -> Prop} {s : Shared} {it l : Addr} {aV : Array Value}
end
section
variable {X : Cx} {e : Expr} {te : TE} {p p2 pos Mb : Pos}
end
section
variable {K : PySem.W.Frag} {σ : St} {H : Hp} {Q : VK} {p : Addr} {ds : List PyData} {v : V}
end
section
variable {P : Program} {w : World} {H : Hp} {h : Heap} {d : Addr} {o : Obj} {d8 : List (Key × V)}
end
section
variable {X : Cx} {pins : List (Addr × Obj)} {σ : St} {H : Hp} {s : Shared} {d : Addr} {o : Obj} {d8 : List (Key × V)}
end
section
variable {σ : St} {H : Hp} {Q : VK} {K : PySem.W.Frag} {p : Addr} {m : List (Str × PyData)} {k : Str}
end
section
variable {X : Cx}
end
section
variable {σ : St} {H : Hp} {Q : VK} {K : PySem.W.Frag} {p : Addr} {m : List (Str × PyData)} {k : Str}
end
section
variable {σ : St} {H : Hp} {Q : VK} {K : PySem.W.Frag} {p : Addr}
end
section
variable {X : Cx}
end
section
variable {prog : Program} {w : World} {K : Type} [DecidableEq K] {knd : KeyKind prog w K} {A : Around} {E : Value -> Shared -> Prop} {s : Shared} {d : Addr} {d8 : List (K × Value)} {ep : Nat}
end
section
variable {X : Cx}
end
section
variable {σ : St} {H : Hp} {Q : VK} {p : Addr} {m : List (Str × PyData)}
theorem oN : ∀ ss : List Str, aR (ss.map PyData.str) = true
 | [] => rfl
 | _ :: r => by rw [List.map_cons, aR, oN r]; rfl
end
section
variable {σ : St} {H : Hp} {D : Ends} {p : Addr} {m : List (Str × PyData)} {g : TG} {tb : TS}
end
section
variable {σ : St} {H : Hp} {K : PySem.W.Frag}
theorem ER {x : V} {i j : Nat} {d1 d2 : PyData} {R : St -> Hp -> Prop} (hd : Dv H x (.tuple [d1, d2])) (h : ∀ v1 v2, Dv H v1 d1 -> Dv H v2 d2 -> R ((σ.set i (some v1)).set j (some v2)) H) :
 Ca K 2 (qg (i6 i) (qg (i6 j) Bz)) x σ H R := by
 cases hd with
 | tup ha r =>
   cases r with
   | cons h1 r =>
     cases r with
     | cons h2 r =>
       cases r
       exact ⟨_, _, rfl, .of ha, rfl, _, _, rfl, _, _, rfl, rfl, h _ _ h1 h2⟩
end
end L2
namespace L2
open PySem
def NB (xs : Array Nat) : Prop := ∀ i j, (hi : i < xs.size) -> (hj : j < xs.size) -> i < j -> xs[i] < xs[j]
structure Good (t : SetTable) : Prop where
 up : NB t.place
 nd : t.dummies = #[]
section
variable {prog : Program} {w : World} {A : Around} {E : Value -> Shared -> Prop} {s : Shared}
end
section
variable {prog : Program} {w : World} {A : Around} {E : Value -> Shared -> Prop} {s : Shared}
end
set_option maxRecDepth 100000
section
variable {prog : Program} {w : World} {A : Around} {E : Value -> Shared -> Prop} {s : Shared} {it a : Addr} {o : Obj} {es : Array (Int × Value)} {ep : Nat} {t : SetTable}
end
section
variable {prog : Program} {w : World} {A : Around} {E : Value -> Shared -> Prop} {s : Shared} {it a : Addr} {o : Obj} {es : Array (Int × Value)} {ep : Nat} {t : SetTable}
end
section
variable {prog : Program} {w : World} {A : Around} {E : Value -> Shared -> Prop} {s : Shared} {it a : Addr} {o : Obj} {es : Array (Int × Value)} {ep : Nat} {t : SetTable}
end
end L2
namespace L2
open PySem PySem.Spec PyProof.Rows
section
variable {prog : Program} {w : World} {A : Around} {R : Result -> Shared -> Prop} {it y : Addr} {fp wr : List Addr} {G : Array GenState -> Array GenState -> Prop} {n : Nat} {Pv : Nat -> Value -> Prop} {St : Nat -> Shared -> Prop}
end
section
variable {prog : Program} {w : World} {A : Around} {E : Value -> Shared -> Prop} {s : Shared}
set_option maxRecDepth 100000 in
set_option maxHeartbeats 3200000 in
end
section
variable {prog : Program} {w : World} {A : Around} {E : Value -> Shared -> Prop} {s : Shared} {a : Addr} {S : Int -> Bool} {n : Nat}
end
end L2
namespace L2
open PySem PySem.Spec PyProof.Rows PySem.W
section
variable {X : Cx} {e : Expr} {te : TE} {p p2 pos Mb : Pos}
end
section
variable {σ : St} {H : Hp} {Q : VK} {v : V}
end
section
variable {X : Cx}
end
section
variable {σ : St} {H : Hp} {Q : VK} {K : PySem.W.Frag} {p : Addr} {m : List (Str × PyData)}
end
def Tr (h : Heap) (a T : Addr) (c : Value) : Prop := ∃ oe vs oT ts, h.get? a = some oe /\ oe.cls = c /\ oe.dict = none /\ oe.data = .fields vs /\ vs[1]? = some (.ref T) /\ T ≠ a /\ h.get? T = some oT /\ oT.data = .fields ts /\ ts[3]? = some .none /\ vs[2]? = some .none
structure Lv (l : List Env) (S : List Addr) (h h' : Heap) : Prop where
 keep : ∀ b o, b ∉ j3 l -> b ∉ S -> h.get? b = some o -> h'.get? b = some o
 slot : ∀ b o, b ∈ j3 l -> h.get? b = some o -> ∃ sl, h'.get? b = some { o with slots := sl }
section
variable {M : Model} {A : Around} {E : Value -> Shared -> Prop} {s : Shared} {env : Env} {outer : List Env} {L a T : Addr} {c : Value} {base : Heap} {Q : Unit -> Shared -> Prop}
end
theorem c7.live {P : Program} {w : World} {H : Hp} {h : Heap} {a : Addr} {o : HO} (x : c7 P w H h a o) : ∃ ob, h.get? a = some ob := by
 induction o with
 | lst xs => obtain ⟨_, _, _, _, e⟩ := x; exact ⟨_, e⟩
 | tup xs => obtain ⟨_, _, _, ob, e, _⟩ := x; exact ⟨_, e⟩
 | dK d8 => obtain ⟨_, _, _, _, o, _, _, e, _⟩ := x; exact ⟨_, e⟩
 | dT d8 => obtain ⟨_, _, _, _, o, _, _, e, _⟩ := x; exact ⟨_, e⟩
 | set S n => obtain ⟨o, _, _, _, e, _⟩ := x; exact ⟨_, e⟩
 | ins C dx fs => obtain ⟨_, _, _, e, _⟩ := x; exact ⟨_, e⟩
 | own y => exact x
 | xd fs => obtain ⟨_, ⟨_, _, _, e, _⟩, _⟩ := x; exact ⟨_, e⟩
 | J2 lo hi => obtain ⟨_, _, _, e⟩ := x; exact ⟨_, e⟩
 | uN ob u _ => exact ⟨_, x.1⟩
 | D6 ps => exact ⟨_, x⟩
 | met f y => exact ⟨_, x⟩
 | ext φ => exact x.2.1
theorem lS.dead {P : Program} {w : World} {H : Hp} {h : Heap} {a : Addr} (ok : lS P w H h) (n : h.get? a = none) : H a = none := by
 cases e : H a with
 | none => rfl
 | some u =>
   obtain ⟨o, z⟩ := (ok a u e).live
   rw [n] at z
   cases z
def Oj (P : Program) (w : World) : qe := fun outer H s E e s' => ∃ a T C H', e = .ref a /\ s'.os = s.os /\ AllBare s'.gens /\ Un (j3 outer) [] H H' s.heap s'.heap /\ lS P w H' s'.heap /\ Tr s'.heap a T (.ref C) /\ s.heap.get? a = none /\ s.heap.get? T = none /\ H' a = none /\ H' T = none /\ E (.ref C) none H'
section
variable {P : Program} {w : World} {K : PySem.W.Frag} {mg : Str -> Option Value} {base : Heap} {N : List Str} {qual : Str} {scope : Scope} {f : Addr} {cd : Value} {A : Around} {outer : List Env} {s0 : Shared} {H0 : Hp} {E : XK} {CX : qe} {pins : List (Addr × Obj)} {σ : St} {H : Hp} {s : Shared}
end
section
variable {K : PySem.W.Frag} {h : Heap} {C : Addr} {B3 : List Value} {newId : String}
def E5 (h : Heap) (C : Addr) (B3 : List Value) (newId : String) : Prop := ∃ (bm : List Value) (N : Addr) (nm q : Str) (bs : List Value) (hd : Bool) (sn : List Str) (sub : List Value) (ab : Bool) (col : Option Bool) (dd : Option Addr) (k0 k1 k2 k3 k5 : Option Value) (mN : Str -> Option Value),
 h.get? C = some (excClassObj nm q C N bs bm hd sn sub ab col dd k0 k1 k2 k3 k5 newId) /\ h.Ns N mN /\ mN "__init__" = none /\ OwnTail h B3 bm
theorem vb (X : K.In h) (q : excIn K C B3 newId = true) : E5 h C B3 newId := by
 unfold excIn at q
 split at q
 . rename_i dd cd sl ho
   split at q
   . rename_i C' bm k0 k1 k2 k3 n k5 hm hs
     simp only [Bool.and_eq_true, beq_iff_eq, Bool.not_eq_true'] at q
     obtain ⟨⟨⟨⟨⟨rfl, rfl⟩, Hx⟩, ht⟩, bf⟩, DR⟩ := q
     obtain ⟨nm, bs, mro, ns, qn, hd, sn, sub, ab, col, del⟩ := cd
     dsimp only at hm Hx bf DR
     subst hm Hx
     obtain ⟨l⟩ := sl
     dsimp only at hs
     subst hs
     exact ⟨bm, ns, nm, qn, bs, hd, sn, sub, ab, col, dd, k0, k1, k2, k3, k5, _, X _ _ ho, .of_isNs (isNs_of_in X bf), nsMap_none_of_in X bf DR, tail_of_in X ht⟩
   . cases q
 . cases q
end
abbrev Lb : List Value := [.type "ValueError", .type "Exception", .type "BaseException", .type "object"]
def qa (K : PySem.W.Frag) (C : Addr) : Prop := excIn K C Lb "ValueError.__new__" = true
section
variable {X : Cx} {pins : List (Addr × Obj)} {σ : St} {H : Hp} {s : Shared}
theorem Inv.lv {S : List Addr} {h' : Heap} {t' : Nat} (I : Inv X pins σ H s) (lv : Lv X.stack S s.heap h') (hS : ∀ b ∈ S, H b = none /\ X.cJ.heap.get? b = none /\ b ≠ X.env.locals /\ (∀ x c, X.env.cells.lookup x = some c -> c ≠ b) /\ ∀ p ∈ X.pn ++ pins, p.1 ≠ b) : Inv X pins σ H { s with heap := h', toks := t' } := by
 have old : ∀ b o, X.cJ.heap.get? b = some o -> b ∉ S /\ b ≠ X.env.locals := fun b o e => ⟨fun z => (by rw [(hS b z).2.1] at e; cases e), Nat.ne_of_lt (Nat.lt_of_lt_of_le (Heap.lt_size e) I.ok.above)⟩
 have one : ∀ b o, b ∉ S -> s.heap.get? b = some o -> ∃ sl, h'.get? b = some { o with slots := sl } := fun b o n e => by
  by_cases m : b ∈ j3 X.stack
  . exact lv.slot b o m e
  . exact ⟨o.slots, lv.keep b o m n e⟩
 have nL : X.env.locals ∉ S := fun z => (hS _ z).2.2.1 rfl
 have cellK : ∀ x c, X.env.cells.lookup x = some c -> ∀ v, s.heap.IsCell c v -> h'.IsCell c v := fun x c e v ⟨o, ho, hd⟩ => by
  obtain ⟨sl, q⟩ := one c o (fun z => (hS c z).2.2.2.1 x c e rfl) ho
  exact ⟨_, q, hd⟩
 have MK : ∀ b, b ∉ X.fs -> b ≠ X.env.locals -> b ∉ j3 X.stack := fun b n1 n2 m => by
  rcases List.mem_cons.mp (I.si b m) with z | z
  . exact n2 z
  . exact n1 z
 refine ⟨I.ok, I.os, I.bare, ⟨fun b o e n hb hx => ?_, fun b o e n hb hx => ?_, fun b o e n hx => I.base.free b o e n hx, fun b o e hx => ?_, I.base.j8, I.base.jB, I.base.lR⟩, ?_, fun x c e => ?_, I.free, I.dX, fun p hp => ?_, fun b u e => ?_, I.len⟩
 . exact lv.keep b o (MK b hb (old b o e).2) (old b o e).1 (I.base.keep b o e n hb hx)
 . obtain ⟨sl, z⟩ := I.base.slot b o e n hb hx
   obtain ⟨D5, z2⟩ := one b _ (old b o e).1 z
   exact ⟨D5, z2⟩
 . obtain ⟨o2, z⟩ := I.base.there b o e hx
   obtain ⟨D5, z2⟩ := one b _ (old b o e).1 z
   exact ⟨_, z2⟩
 . obtain ⟨m, ⟨o, es, ep, ho, r⟩, hl⟩ := I.loc
   obtain ⟨sl, z⟩ := one _ o nL ho
   refine ⟨m, ⟨_, es, ep, z, r⟩, fun i x v e1 e2 e3 => ?_⟩
   obtain ⟨u, ru, l⟩ := hl i x v e1 e2 e3
   refine ⟨u, ru, ?_⟩
   rcases l with l | ⟨k, c, e, z⟩
   . exact .inl l
   . exact .inr ⟨k, c, e, cellK x c e _ z⟩
 . obtain ⟨v, z⟩ := I.cell x c e
   exact ⟨v, cellK x c e v z⟩
 . obtain ⟨e, n, ne, nf, d⟩ := I.pin p hp
   exact ⟨lv.keep p.1 p.2 (MK p.1 nf ne) (fun z => (hS p.1 z).2.2.2.2 p hp rfl) e, n, ne, nf, d⟩
 . refine (I.bf b u e).pe (fun c v hc q => ?_) (fun _ q => q) fun _ _ q => q
   have sq : H c ≠ none := by
    rcases hc with rfl | hc
    . rw [e]; intro z; cases z
    . rw [hc]; intro z; cases z
   exact lv.keep c v (fun m => sq (I.lW c m)) (fun m => sq (hS c m).1) q
theorem Inv.Ao {a : Addr} {φ : Heap -> Prop} (I : Inv X pins σ H s) (ha : H a = none) (hs : X.cJ.heap.get? a = none) (hL : a ≠ X.env.locals) (hc : ∀ x c, X.env.cells.lookup x = some c -> c ≠ a) (hp : ∀ p ∈ X.pn ++ pins, p.1 ≠ a)
 (new : φ s.heap /\ (∃ o, s.heap.get? a = some o) /\ ∀ h1 h2 : Heap, φ h1 -> (∀ o, h1.get? a = some o -> h2.get? a = some o) -> φ h2) : Inv X pins σ (upd H a (.ext φ)) s := by
 have kp : ∀ b u, H b = some u -> upd H a (.ext φ) b = some u := fun b u e => by rw [aK (fun z => by rw [z, ha] at e; cases e)]; exact e
 have fr : ∀ b, b ≠ a -> H b = none -> upd H a (.ext φ) b = none := fun b n e => by rw [aK n]; exact e
 refine ⟨I.ok, I.os, I.bare, ⟨I.base.keep, I.base.slot, fun b o e n hx => fr b (fun z => by rw [z, hs] at e; cases e) (I.base.free b o e n hx), I.base.there, fun b xs e => kp _ _ (I.base.j8 b xs e), fun b o u e => kp _ _ (I.base.jB b o u e), fun b ps e => ?_⟩, I.loc, I.cell, fr _ (Ne.symm hL) I.free, fun x c e => fr _ (hc x c e) (I.dX x c e), fun p MC => ?_, fun b u e => ?_, I.len⟩
 . obtain ⟨m, z⟩ := I.base.lR b ps e
   exact ⟨m, kp _ _ z⟩
 . obtain ⟨e1, e2, e3⟩ := I.pin p MC
   exact ⟨e1, fr _ (hp p MC) e2, e3⟩
 . by_cases z : b = a
   . subst z
     rw [aO] at e
     cases e
     exact new
   . rw [aK z] at e
     exact (I.bf b u e).pe (fun _ _ _ q => q) (fun c q => kp _ _ q) fun c xs q => kp _ _ q
abbrev Cx.o9 (X : Cx) (f : Value -> Shared -> Prop) (pn : List (Addr × Obj)) : Cx := { X with xe := f, pn := pn }
abbrev Cx.hand (X : Cx) (a : Addr) : Cx := { X with A := X.A.mark (some (.ref a)), calm := false, xe := fun _ _ => False }
theorem Inv.AQ {f : Value -> Shared -> Prop} (I : Inv X pins σ H s) : Inv (X.o9 f (X.pn ++ pins)) [] σ H s :=
 ⟨⟨I.ok.mod, I.ok.kind, I.ok.glob, I.ok.blt, I.ok.above, I.ok.inj, I.ok.has, I.ok.Df, I.ok.hd, I.ok.frames, I.ok.El, I.ok.A9, I.ok.bs, I.ok.wF, I.ok.sG, I.ok.qS, I.ok.j5, I.ok.yW⟩, I.os, I.bare, I.base, I.loc, I.cell, I.free, I.dX, fun p hp => I.pin p (by simpa using hp), I.bf, I.len⟩
theorem Inv.gW {f : Value -> Shared -> Prop} {pV : List (Addr × Obj)} (I : Inv (X.o9 f (X.pn ++ pins)) pV σ H s) : Inv X pins σ H s :=
 ⟨⟨I.ok.mod, I.ok.kind, I.ok.glob, I.ok.blt, I.ok.above, I.ok.inj, I.ok.has, I.ok.Df, I.ok.hd, I.ok.frames, I.ok.El, I.ok.A9, I.ok.bs, I.ok.wF, I.ok.sG, I.ok.qS, I.ok.j5, I.ok.yW⟩, I.os, I.bare, I.base, I.loc, I.cell, I.free, I.dX, fun p hp => I.pin p (List.mem_append_left _ hp), I.bf, I.len⟩
theorem Inv.oz {a : Addr} (I : Inv X pins σ H s) : Inv (X.hand a) pins σ H s :=
 ⟨⟨I.ok.mod, I.ok.kind, I.ok.glob, I.ok.blt, I.ok.above, I.ok.inj, I.ok.has, I.ok.Df, (fun z => nomatch z), I.ok.frames, I.ok.El, I.ok.A9, I.ok.bs, I.ok.wF, I.ok.sG, I.ok.qS, I.ok.j5, I.ok.yW⟩, I.os, I.bare, I.base, I.loc, I.cell, I.free, I.dX, I.pin, I.bf, I.len⟩
theorem Inv.oA {a : Addr} (I : Inv (X.hand a) pins σ H s) (ok : X.Ok) : Inv X pins σ H s :=
 ⟨ok, I.os, I.bare, I.base, I.loc, I.cell, I.free, I.dX, I.pin, I.bf, I.len⟩
end
section
variable {M : Model} {A : Around} {E : Value -> Shared -> Prop}
end
structure G0 (K : PySem.W.Frag) (C : Addr) : Prop where
 ga : PySem.W.findIn K (.ref C) "__getattribute__" = some (some (.builtin "BaseException.__getattribute__"))
 gn : PySem.W.findIn K (.ref C) "__getattr__" = some none
 mb : PySem.W.mroIn K C (.type "BaseException") = some true
 hd : PySem.W.hasDictIn K C = true
 ty : IJ K C
section
variable {X : Cx}
end
section
variable {P : Program} {w : World} {K : PySem.W.Frag} {mg : Str -> Option Value} {base : Heap}
structure Nm (P : Program) (w : World) (K : PySem.W.Frag) (mg : Str -> Option Value) (base : Heap) (k : Nat) (f : Addr) (ps : List Str) (cV : List V) (sp : Sp) : Prop where
 ex : ∃ (fd : FuncData) (ds : List Value), bh P w K mg base (Oj P w) k f fd ps sp /\ Binds K fd ps ds /\ Vals cV ds
end
section
variable {X : Cx} {k : Nat} {f : Addr} {ps : List Str} {sp : Sp} {cV : List V} {E : XK} {x : Str} {p pos : Pos} {e : Expr} {es : List Expr} {t : TA}
end
section
variable {σ : St} {H : Hp} {Q : VK} {D : Ends} {K : PySem.W.Frag} {E : XK} {C : Addr} {ta : TA}
theorem zZ {x : V} (h : E (.ref C) none H) : [x].length <= sizeLine /\ E (.ref C) none H := ⟨by rw [sizeLine_eq]; simp, h⟩
end
def lu (z : Str) (lo hi : Option Int) : Str := ⟨((Builtin.Str.strSliceIndices lo hi 1 z.length).filterMap (z.cps[·]?)).toArray⟩
def HH : V -> Option Int -> Option Int -> Hp -> VK -> Prop := fun x lo hi H Q => ∃ z : Str, x = .str z /\ z.length <= 4000 /\ Q (.str (lu z lo hi)) H
theorem CQ {lo hi : Option Int} {n : Nat} (h : (Builtin.Str.strSliceIndices lo hi 1 n).length = n) : Builtin.Str.strSliceIndices lo hi 1 n = List.range n := by
 have key : ∀ a b : Int, 0 <= a -> b <= n -> (sliceRange a b 1).length = n -> sliceRange a b 1 = List.range n := by
  intro a b ha hb hl
  unfold sliceRange at hl ⊢
  simp only [List.length_map, List.length_range, Int.ediv_one, show (1 : Int) > 0 by decide, if_true] at hl ⊢
  rw [hl]
  by_cases hn : n = 0
  . subst hn; rfl
  . have : a = 0 := by
     split at hl <;> omega
    subst this
    rw [show (fun k : Nat => ((0 : Int) + 1 * (k : Int)).toNat) = id from funext fun k => by simp, List.map_id]
 unfold Builtin.Str.strSliceIndices at h ⊢
 simp only [show (1 : Int) > 0 by decide, if_true] at h ⊢
 refine key _ _ ?_ ?_ h
 . cases lo <;> simp only [] <;> omega
 . cases hi <;> simp only [] <;> omega
theorem lz : ∀ (l : List Nat), (List.range l.length).filterMap (fun i => l[i]?) = l
 | [] => rfl
 | c :: r => by
   rw [List.length_cons, List.range_succ_eq_map, List.filterMap_cons]
   simp only [List.getElem?_cons_zero, List.filterMap_map]
   have : ((fun i => (c :: r)[i]?) ∘ Nat.succ) = fun i => r[i]? := funext fun i => by simp
   rw [this, lz r]
theorem xQ {z : Str} {lo hi : Option Int} (h : (Builtin.Str.strSliceIndices lo hi 1 z.length).length = z.length) : lu z lo hi = z := by
 unfold lu
 rw [CQ h]
 obtain ⟨⟨l⟩⟩ := z
 show (⟨((List.range l.length).filterMap fun i => (⟨l⟩ : Array Nat)[i]?).toArray⟩ : Str) = _
 have : (fun i => (⟨l⟩ : Array Nat)[i]?) = fun i => l[i]? := funext fun i => (Array.getElem?_toList (xs := ⟨l⟩)).symm
 rw [this, lz l]
theorem vQ (z : Str) : lu z (some 1) none = ⟨(z.cps.toList.drop 1).toArray⟩ := by
 obtain ⟨⟨l⟩⟩ := z
 unfold lu Builtin.Str.strSliceIndices
 have e0 : (fun i => (⟨l⟩ : Array Nat)[i]?) = fun i => l[i]? := funext fun i => (Array.getElem?_toList (xs := ⟨l⟩)).symm
 show (⟨(List.filterMap (fun i => (⟨l⟩ : Array Nat)[i]?) _).toArray⟩ : Str) = ⟨(l.drop 1).toArray⟩
 rw [e0]
 have el : Str.length ⟨⟨l⟩⟩ = l.length := rfl
 rw [el]
 cases l with
 | nil => rfl
 | cons c r =>
   have e1 : sliceRange (max 0 (min 1 ((r.length + 1 : Nat) : Int))) ((r.length + 1 : Nat) : Int) 1 = (List.range r.length).map (· + 1) := by
    unfold sliceRange
    simp only [Int.ediv_one, show (1 : Int) > 0 by decide, if_true]
    rw [show max (0 : Int) (min 1 ((r.length + 1 : Nat) : Int)) = 1 by omega]
    have e2 : (if (1 : Int) < ((r.length + 1 : Nat) : Int) then ((r.length + 1 : Nat) : Int) - 1 + 1 - 1 else 0).toNat = r.length := by split <;> omega
    rw [e2]
    exact List.map_congr_left fun k _ => by omega
   have e3 : (Builtin.Str.strSliceIndices (some 1) none 1 (c :: r).length) = (List.range r.length).map (· + 1) := e1
   show (⟨(List.filterMap (fun i => (c :: r)[i]?) (Builtin.Str.strSliceIndices (some 1) none 1 (c :: r).length)).toArray⟩ : Str) = _
   rw [e3, List.filterMap_map]
   have : ((fun i => (c :: r)[i]?) ∘ (· + 1)) = fun i => r[i]? := funext fun i => by simp
   rw [this, lz r]
   rfl
section
variable {X : Cx}
theorem C0 : Ko X HH := by
 intro pins s σ H x v vl vu lo hi sl Q I rx hs pl pu h
 obtain ⟨z, rfl, hz, q⟩ := h
 obtain ⟨t, rfl⟩ := rx
 obtain ⟨l, rfl, e1⟩ : ∃ l : Option (Int × Tok), vl = partValue l /\ l.map (·.1) = lo := by
  cases pl with
  | none => exact ⟨none, rfl, rfl⟩
  | int i t => exact ⟨some (i, t), rfl, rfl⟩
 obtain ⟨u, rfl, e2⟩ : ∃ u : Option (Int × Tok), vu = partValue u /\ u.map (·.1) = hi := by
  cases pu with
  | none => exact ⟨none, rfl, rfl⟩
  | int i t => exact ⟨some (i, t), rfl, rfl⟩
 refine ⟨"str", _, F.slot_str_getitem.lookup, typeIs_str _ _ _, ?_⟩
 refine wpAny_getItem_str_slice (l := l) (u := u) (st := none) hs rfl ?_
 have ep : slicePicked z l u none = Builtin.Str.strSliceIndices lo hi 1 z.length := by unfold slicePicked; rw [e1, e2]; rfl
 unfold sliceMade
 rw [ep]
 split
 . rename_i c
   rw [Bool.and_eq_true] at c
   have := xQ (z := z) (lo := lo) (hi := hi) (by simpa using c.2)
   rw [this] at q
   exact ⟨.str z, H, I, ⟨t, rfl⟩, q⟩
 . have hn : (List.filterMap (fun i => z.cps[i]?) (Builtin.Str.strSliceIndices lo hi 1 z.length)).length <= z.length := by
    refine Nat.le_trans (List.length_filterMap_le _ _) ?_
    exact Cu _ _ _
   have hl : (Str.mk (List.filterMap (fun i => z.cps[i]?) (Builtin.Str.strSliceIndices lo hi 1 z.length)).toArray).length <= z.length := by
    show (List.filterMap (fun i => z.cps[i]?) (Builtin.Str.strSliceIndices lo hi 1 z.length)).toArray.size <= _
    rw [List.size_toArray]; exact hn
   exact ⟨Nat.le_trans hl (Nat.le_of_lt (fQ hz)), .str _, H, I.tok _, ⟨_, rfl⟩, q⟩
def wO : V -> List V -> Hp -> VK -> Prop := fun x vs H Q => ∃ z y : Str, x = .str z /\ vs = [.str y] /\ Q (.bl (Txt.startswith z y)) H
theorem yn : IL X "str.startswith" wO := by
 intro pins s σ H x vs v us Q I rx rv h
 obtain ⟨z, y, rfl, rfl, q⟩ := h
 obtain ⟨t, rfl⟩ := rx
 obtain ⟨u, rfl, ru⟩ := rv.one
 obtain ⟨t', rfl⟩ := ru
 exact call_gives F.slot_str_startswith (typeIs_str _ _ _) F.entry_str_startswith (F.args_str_startswith_2 _ _) (gives_str_startswith z y t t') ⟨.bl _, H, I, rfl, q⟩
theorem qt (z : Str) (c : Nat) : Txt.startswith z ⟨#[c]⟩ = (z.cps.toList.head? == some c) := by
 obtain ⟨⟨l⟩⟩ := z
 unfold Txt.startswith Builtin.Str.subAt
 cases l with
 | nil => rfl
 | cons d r =>
   have e : (⟨⟨d :: r⟩⟩ : Str).cps.extract 0 (0 + (⟨#[c]⟩ : Str).length) = #[d] := by
    show (⟨d :: r⟩ : Array Nat).extract 0 1 = #[d]
    rw [List.extract_toArray]
    rfl
   rw [e]
   show (decide (0 + 1 <= r.length + 1) && ((#[d] : Array Nat) == #[c])) = (some d == some c)
   rw [decide_eq_true (by omega), Bool.true_and]
   rw [Bool.eq_iff_iff]
   simp
def Dy : List V -> Hp -> VK -> Prop := fun xs H Q => ∃ (x : Str) (n : Int), xs = [.str x] /\ PySem.intText? x = some n /\ x.length <= 640 /\ Q (.int n) H
theorem rO : fX X (.type "int") Dy := by
 intro pins s σ H xs us Q I r h
 obtain ⟨x, n, rfl, hn, hl, q⟩ := h
 obtain ⟨u, rfl, ru⟩ := vals1 r
 obtain ⟨t, rfl⟩ := ru
 exact KIN.call_text hn hl ⟨.int n, H, I.tok _, ⟨_, rfl⟩, q⟩
def Eb : R2 := fun x y H Q => ∃ (z : Str) (n : Int), x = .str z /\ y = .int n /\ z.length = 1 /\ 0 <= n /\ n <= 1000 /\ ∀ t : Str, t.length = n.toNat -> (∀ c ∈ t.cps.toList, c ∈ z.cps.toList) -> Q (.str t) H
theorem uo (c : Nat) : ∀ (n : Nat) (a : Array Nat), ((List.replicate n #[c]).foldl (· ++ ·) a) = a ++ (Array.replicate n c)
 | 0, a => by simp
 | n + 1, a => by
   rw [List.replicate_succ, List.foldl_cons, uo c n, Array.append_assoc]
   congr 1
   apply Array.toList_inj.mp
   simp [List.replicate_succ]
theorem BK : jW X (binaryOp .Mult) Eb := by
 intro pins s σ H x y v u Q I rx ry h
 obtain ⟨z, n, rfl, rfl, hz, h0, h1, q⟩ := h
 obtain ⟨t, rfl⟩ := rx
 obtain ⟨t', rfl⟩ := ry
 refine PySem.P.mul_str (by simp; omega) (fun a _ => ?_) (fun a _ => ?_) ?_
 . rw [hz]
   intro Ni
   have h2 : (1 : Int) <= (2 ^ 63 - 1) / n := Int.le_ediv_of_mul_le (by omega) (by omega)
   exact absurd h2 (Int.not_le.mpr Ni)
 . have : z.length * n.toNat <= 1000 := by rw [hz]; omega
   exact decide_eq_false (Nat.not_lt.mpr (Nat.le_trans this (Nat.le_of_lt (fQ (by decide)))))
 . split
   . rename_i c
     have : n = 0 := by omega
     subst this
     exact ⟨Nat.le_of_lt (fQ (by decide)), .str _, H, I.tok _, ⟨_, rfl⟩, q Str.empty rfl (fun c hc => by cases hc)⟩
   . split
     . rename_i c c2
       have : n = 1 := by
        rw [hz] at c2
        simpa using c2
       subst this
       exact ⟨.str _, H, I, ⟨_, rfl⟩, q z hz (fun c hc => hc)⟩
     . obtain ⟨⟨l⟩⟩ := z
       match l, hz with
       | [d], _ =>
         have e : (List.replicate n.toNat (⟨⟨[d]⟩⟩ : Str).cps).foldl (· ++ ·) #[] = Array.replicate n.toNat d := by
          have := uo d n.toNat #[]
          simpa using this
         have hl : (⟨Array.replicate n.toNat d⟩ : Str).length = n.toNat := by show (Array.replicate n.toNat d).size = _; simp
         show Made.post (Made.str ⟨_⟩) _ _
         rw [e]
         exact ⟨by rw [hl]; exact Nat.le_of_lt (fQ (by omega)), .str _, H, I.tok _, ⟨_, rfl⟩, q _ hl (fun c hc => by
          have : c ∈ List.replicate n.toNat d := by simpa using hc
          have := List.eq_of_mem_replicate this
          subst this
          simp)⟩
end
theorem wM {K : PySem.W.Frag} {C D : Addr} (h2 : PySem.W.mroIn K D (.type "object") = some true) (h3 : PySem.W.typeIn K (.ref D) = some (.type "type")) (h : PySem.W.mroIn K C (.ref D) = some false) (hb : (C == D) = false) : PySem.W.kitOne K (.ref C) (.ref D) = some false :=
 xt h2 h3 h fun e => by rw [e] at hb; simp at hb
section
variable {σ : St} {H : Hp} {Q : VK} {D : Ends} {K : PySem.W.Frag}
theorem Jw {z : Str} {lo hi : Option Int} (hl : z.length <= 4000) (h : Q (.str (lu z lo hi)) H) : HH (.str z) lo hi H Q := ⟨z, rfl, hl, h⟩
theorem zj {z y : Str} (h : Q (.bl (Txt.startswith z y)) H) : wO (.str z) [.str y] H Q := ⟨z, y, rfl, rfl, h⟩
theorem F0 {x : Str} {n : Int} (hn : PySem.intText? x = some n) (hl : x.length <= 640) (h : Q (.int n) H) : Dy [.str x] H Q := ⟨x, n, rfl, hn, hl, h⟩
theorem Ff {z : Str} {n : Int} (hz : z.length = 1) (h0 : 0 <= n) (h1 : n <= 1000) (h : ∀ t : Str, t.length = n.toNat -> (∀ c ∈ t.cps.toList, c ∈ z.cps.toList) -> Q (.str t) H) : Eb (.str z) (.int n) H Q := ⟨z, n, rfl, rfl, hz, h0, h1, h⟩
end
section
variable {X : Cx} {pins : List (Addr × Obj)} {σ : St} {H : Hp} {s : Shared} {h' : Heap}
end
section
variable {X : Cx}
end
section
variable {σ : St} {H : Hp} {Q : VK}
end
section
variable {σ : St} {H : Hp} {Q : VK} {K : PySem.W.Frag} {v : V}
end
end L2
namespace L2
open PySem
section
variable {H : Hp} {Q : VK} {K : PySem.W.Frag}
end
end L2
namespace L2
open PySem PySem.Spec PyProof.Rows PySem.W
theorem wo (num : Nat -> Int) : ∀ k, argBest (fun i j => decide (num i < num j)) k <= k /\ ∀ j, j <= k -> num (argBest (fun i j => decide (num i < num j)) k) <= num j
 | 0 => ⟨Nat.le_refl _, fun j hj => by have : j = 0 := by omega
                                       subst this; exact Int.le_refl _⟩
 | k + 1 => by
   obtain ⟨h1, h2⟩ := wo num k
   unfold argBest
   by_cases h : num (k + 1) < num (argBest (fun i j => decide (num i < num j)) k)
   . rw [if_pos (decide_eq_true h)]
     refine ⟨Nat.le_refl _, fun j hj => ?_⟩
     by_cases hk : j = k + 1
     . subst hk; exact Int.le_refl _
     . exact Int.le_trans (Int.le_of_lt h) (h2 j (by omega))
   . rw [if_neg (by simpa using h)]
     refine ⟨by omega, fun j hj => ?_⟩
     by_cases hk : j = k + 1
     . subst hk; omega
     . exact h2 j (by omega)
section
variable {X : Cx}
end
section
variable {σ : St} {H : Hp} {Q : VK}
end
section
variable {X : Cx} {pins : List (Addr × Obj)} {σ : St} {H : Hp} {s : Shared}
end
section
variable {σ : St} {H : Hp} {Q : VK}
end
section
variable {σ : St} {H : Hp} {Q : VK} {K : PySem.W.Frag} {p : Addr} {m : List (Str × PyData)} {k : Str}
end
def uK (h : Heap) (a T : Addr) (c : Value) (od : Option Addr) : Prop := ∃ oe vs oT ts, h.get? a = some oe /\ oe.cls = c /\ oe.dict = od /\ oe.data = .fields vs /\ vs[1]? = some (.ref T) /\ T ≠ a /\ h.get? T = some oT /\ oT.data = .fields ts /\ ts[3]? = some .none /\ vs[2]? = some .none
section
variable {M : Model} {A : Around} {E : Value -> Shared -> Prop} {s : Shared} {env : Env} {outer : List Env} {L a T : Addr} {c : Value} {od : Option Addr} {base : Heap} {Q : Unit -> Shared -> Prop}
theorem nP {oe : Obj} {vs : Array Value} {head : Value} {Gy : Bool} (oB : A.frames = some (env :: outer)) (hl : s.heap.FunFrames base (env :: outer)) (hf : env.frame = some L) (he : s.heap.get? a = some oe) (Av : oe.dict = od) (hd : oe.data = .fields vs) (hsz : 1 < vs.size) (Dh : vs[2]? = some .none)
 (h : ∀ h' T', uK h' a T' oe.cls od -> s.heap.get? T' = none -> Lv (env :: outer) [a] s.heap h' -> Q () { s with heap := h' }) :
 wpAny M A (do let x <- frameOf env; let pl <- entryPlaceOf L Gy; let b <- EntryCells.newEntry head x .none (rawInt L) .none pl; setField (.ref a) 1 b) (fun _ s' => wpAny M A (setFlight (.ref a) none) Q E s') E s := by
 have vL : a ∉ j3 (env :: outer) := fun m => by
  obtain ⟨_, o, ho, hn⟩ := hl.mem m
  rw [he] at ho
  cases ho
  exact hn vs hd
 refine wpAny_bind (wpAny_frameOf_fun oB hl hf fun h1 s1 => ?_)
 refine wpAny_bind (wpAny_entryPlaceOf fun pl kH => ?_)
 unfold EntryCells.newEntry newFields
 refine wpAny_bind (wpAny_newObj_type ?_ (kH.sizeOk5 _ _ _ _ _))
 have e1 : h1.get? a = some oe := (s1.2.1 a vL).trans he
 let tb : Obj := { cls := .type "traceback", dict := none, data := .fields ([head, .ref L, .none, rawInt L, .none] ++ (if pl.isEmpty then List.replicate 6 Value.none else pl)).toArray }
 have e2 : (h1.push tb).get? a = some oe := Heap.get?_push_of_some _ e1
 refine wpAny_setField e2 hd hsz ?_
 have ye : h1.objs.size ≠ a := Ne.symm (Nat.ne_of_lt (Heap.lt_size e1))
 have d3 := Obj.data_mapFields hd (·.setIfInBounds 1 (Value.ref h1.objs.size))
 have e3 := Heap.get?_update_self (Obj.mapFields (·.setIfInBounds 1 (Value.ref h1.objs.size))) e2 (Obj.isFreed_of_fields d3)
 have t3 : ((h1.push tb).update a (Obj.mapFields (·.setIfInBounds 1 (Value.ref h1.objs.size)))).get? h1.objs.size = some tb := (Heap.get?_update_other _ _ (Ne.symm ye)).trans (Heap.get?_push_size h1 rfl)
 unfold setFlight
 refine wpAny_bind (wpAny_field e3 d3 (x := .ref h1.objs.size) (by simp [hsz]) ?_)
 rw [if_pos (show (Value.ref h1.objs.size != Value.none) = true from by simp)]
 refine wpAny_setField t3 rfl (by simp only [List.size_toArray, List.length_append, List.length_cons, List.length_nil] <;> omega) (h _ h1.objs.size ?_ ?_ ?_)
 . refine ⟨_, _, _, _, (Heap.get?_update_other _ _ ye).trans e3, Obj.cls_mapFields _ _, ?_, d3, by simp [hsz], ye, Heap.get?_update_self _ t3 (Obj.isFreed_of_fields (Obj.data_mapFields rfl _)), Obj.data_mapFields rfl _, by first | (simp; done) | (rcases kH with rfl | ⟨_, _, _, _, _, _, _, rfl⟩ <;> simp), by rw [Array.getElem?_setIfInBounds_ne (by decide)]; exact Dh⟩
   obtain ⟨c0, d0, Fm, L6⟩ := oe
   cases Fm <;> first | exact Av | (cases hd)
 . cases q : s.heap.get? h1.objs.size with
   | none => rfl
   | some o =>
     obtain ⟨sl, z⟩ := s1.2.2 _ o q
     exact absurd (Heap.lt_size z) (Nat.lt_irrefl _)
 . have kp : ∀ b o, b ≠ a -> h1.get? b = some o -> (((h1.push tb).update a (Obj.mapFields (·.setIfInBounds 1 (Value.ref h1.objs.size)))).update h1.objs.size (Obj.mapFields (·.setIfInBounds 3 ((none : Option Addr).elim Value.none fun f => rawInt f)))).get? b = some o := fun b o hb q => by
    rw [Heap.get?_update_other _ _ (Ne.symm (Nat.ne_of_lt (Heap.lt_size q))), Heap.get?_update_other _ _ (Ne.symm hb)]
    exact Heap.get?_push_of_some _ q
   refine ⟨fun b o n1 n2 q => kp b o (by simpa using n2) ((s1.2.1 b n1).trans q), fun b o m q => ?_⟩
   obtain ⟨sl, z⟩ := s1.2.2 b o q
   exact ⟨sl, kp b _ (fun z => vL (z ▸ m)) z⟩
theorem tI {oe : Obj} {vs : Array Value} (oB : A.frames = some (env :: outer)) (hl : s.heap.FunFrames base (env :: outer)) (hf : env.frame = some L) (he : s.heap.get? a = some oe) (Av : oe.dict = od) (hd : oe.data = .fields vs) (h1 : vs[1]? = some .none) (Dh : vs[2]? = some .none)
 (h : ∀ h' T', uK h' a T' oe.cls od -> s.heap.get? T' = none -> Lv (env :: outer) [a] s.heap h' -> Q () { s with heap := h' }) : wpAny M A (noteFrame (.ref a) env) (fun _ s' => wpAny M A (setFlight (.ref a) none) Q E s') E s := by
 unfold noteFrame
 simp only [hf]
 refine wpAny_bind (wpAny_field he hd h1 ?_)
 rw [if_neg (by decide)]
 exact nP oB hl hf he Av hd (Array.getElem?_eq_some_iff.mp h1).1 Dh h
theorem lx (oB : A.frames = some (env :: outer)) (hl : s.heap.FunFrames base (env :: outer)) (hf : env.frame = some L) (ht : uK s.heap a T c od)
 (h : ∀ h' T', uK h' a T' c od -> (T' = T \/ s.heap.get? T' = none) -> Lv (env :: outer) [a, T] s.heap h' -> Q () { s with heap := h' }) : wpAny M A (noteFrame (.ref a) env) (fun _ s' => wpAny M A (setFlight (.ref a) none) Q E s') E s := by
 obtain ⟨oe, vs, oT, ts, e1, rfl, e3, e4, e5, e6, e7, e8, e9, qY⟩ := ht
 unfold noteFrame
 simp only [hf]
 refine wpAny_bind (wpAny_field e1 e4 e5 ?_)
 rw [if_pos (show (Value.ref T != Value.none) = true from by simp)]
 refine wpAny_bind (wpAny_field e7 e8 e9 ?_)
 rw [if_neg (show ¬ ((Value.none == rawInt L) = true) from by simp [rawInt])]
 refine wpAny_bind (wpAny_setField e7 e8 (Array.getElem?_eq_some_iff.mp e9).1 ?_)
 have kg : ∀ b, b ≠ T -> (s.heap.update T (Obj.mapFields (·.setIfInBounds 3 Value.none))).get? b = s.heap.get? b := fun b hb => Heap.get?_update_other _ _ (Ne.symm hb)
 have nT : ∀ b o, s.heap.get? b = some o -> (∀ vs, o.data ≠ .fields vs) -> b ≠ T := fun b o hb hn z => by
  rw [z, e7] at hb
  cases hb
  exact hn ts e8
 refine nP (s := { s with heap := s.heap.update T (Obj.mapFields (·.setIfInBounds 3 Value.none)) }) oB (hl.of_keeps fun b o hb hn => ⟨o, (kg b (nT b o hb hn)).trans hb, rfl⟩) hf ((kg a (Ne.symm e6)).trans e1) e3 e4 (Array.getElem?_eq_some_iff.mp e5).1 qY fun h' T' t1 t2 lv => h h' T' t1 ?_ ⟨fun b o n1 n2 q => ?_, fun b o m q => ?_⟩
 . by_cases z : T' = T
   . exact .inl z
   . exact .inr ((kg T' z).symm.trans t2)
 . have : b ≠ a /\ b ≠ T := by simpa using n2
   exact lv.keep b o n1 (by simpa using this.1) ((kg b this.2).trans q)
 . obtain ⟨_, o', q', hn⟩ := hl.mem m
   rw [q] at q'
   cases q'
   exact lv.slot b o m ((kg b (nT b o q hn)).trans q)
theorem qW (ht : uK s.heap a T c od) (h : ∀ h', uK h' a T c od -> (∀ b o, b ≠ T -> s.heap.get? b = some o -> h'.get? b = some o) -> Q () { s with heap := h' }) : wpAny M A (setFlight (.ref a) none) Q E s := by
 obtain ⟨oe, vs, oT, ts, e1, rfl, e3, e4, e5, e6, e7, e8, e9, qY⟩ := ht
 have hz := (Array.getElem?_eq_some_iff.mp e9).1
 refine wpAny_setFlight_none e1 e4 e5 e7 e8 hz (h _ ⟨oe, vs, _, _, (Heap.get?_update_other _ _ e6).trans e1, rfl, e3, e4, e5, e6, Heap.get?_update_self _ e7 (Obj.isFreed_of_fields (Obj.data_mapFields e8 _)), Obj.data_mapFields e8 _, by simp [hz], qY⟩ fun b o hb q => (Heap.get?_update_other _ _ (Ne.symm hb)).trans q)
end
def nO (P : Program) (w : World) : qe := fun outer H s E e s' => ∃ a T C od H', e = .ref a /\ s'.os = s.os /\ AllBare s'.gens /\ Un (j3 outer) [] H H' s.heap s'.heap /\ lS P w H' s'.heap /\ uK s'.heap a T (.ref C) od /\ s.heap.get? a = none /\ s.heap.get? T = none /\ H' a = none /\ H' T = none /\ E (.ref C) od H'
section
variable {P : Program} {w : World} {K : PySem.W.Frag} {mg : Str -> Option Value} {base : Heap} {N : List Str} {qual : Str} {scope : Scope} {f : Addr} {cd : Value} {A : Around} {outer : List Env} {s0 : Shared} {H0 : Hp} {E : XK} {CX : qe} {pins : List (Addr × Obj)} {σ : St} {H : Hp} {s : Shared}
theorem p7 {a T C : Addr} {od : Option Addr} {S : List Addr} {h' : Heap} (I : Inv (gD CX P w K mg base N qual scope f cd A outer s0 H0 E) pins σ H s) (lv : Lv (gD CX P w K mg base N qual scope f cd A outer s0 H0 E).stack S s.heap h') (hS : ∀ b ∈ S, H b = none /\ s0.heap.get? b = none)
 (tr : uK h' a T (.ref C) od) (ha : H a = none) (hT : H T = none) (na : s0.heap.get? a = none) (nT : s0.heap.get? T = none) (hE : E (.ref C) od H) : nO P w outer H0 s0 E (.ref a) { s with heap := h' } := by
 have eL : j3 (gD CX P w K mg base N qual scope f cd A outer s0 H0 E).stack = s0.heap.objs.size :: j3 outer := rfl
 have old : ∀ b o, s0.heap.get? b = some o -> b ∉ S /\ b ≠ s0.heap.objs.size := fun b o e => ⟨fun z => (by rw [(hS b z).2] at e; cases e), Nat.ne_of_lt (Heap.lt_size e)⟩
 refine ⟨a, T, C, od, H, rfl, I.os, I.bare, ⟨fun b o e n hb hx => ?_, fun b o e n hb hx => ?_, fun b o e n hx => I.base.free b o e n hx, fun b o e hx => ?_, I.base.j8, I.base.jB, I.base.lR⟩, fun b u e => ?_, tr, na, nT, ha, hT, hE⟩
 . have z := I.base.keep b o e n hb hx
   exact lv.keep b o (by rw [eL]; simp [(old b o e).2, hb]) (old b o e).1 z
 . obtain ⟨sl, z⟩ := I.base.slot b o e n hb hx
   obtain ⟨D5, z2⟩ := lv.slot b _ (by rw [eL]; exact List.mem_cons_of_mem _ hb) z
   exact ⟨D5, z2⟩
 . obtain ⟨o2, z⟩ := I.base.there b o e hx
   by_cases m : b ∈ j3 (gD CX P w K mg base N qual scope f cd A outer s0 H0 E).stack
   . obtain ⟨D5, z2⟩ := lv.slot b _ m z
     exact ⟨_, z2⟩
   . exact ⟨_, lv.keep b o2 m (old b o e).1 z⟩
 . refine (I.bf b u e).pe (fun c v hc q => ?_) (fun _ q => q) fun _ _ q => q
   have sq : H c ≠ none := by
    rcases hc with rfl | hc
    . rw [e]; intro z; cases z
    . rw [hc]; intro z; cases z
   exact lv.keep c v (fun m => sq (I.lW c m)) (fun m => sq (hS c m).1) q
def cX (CX : qe) (X : Cx) (E : St -> XK) : Prop := ∀ (pins : List (Addr × Obj)) (σ : St) (H : Hp) (s : Shared) (e : Value) (s' : Shared), Inv X pins σ H s -> CX X.stack H s (E σ) e s' -> X.xe e s'
theorem di : cX (nO P w) (gD (nO P w) P w K mg base N qual scope f cd A outer s0 H0 E) (fun _ => E) := by
 intro pins σ H s e s' I ⟨a, T, C, od, H', he, os, bare, un, bf, tr, na, nT, ha, hT, hE⟩
 subst he
 have I' := I.qp (ch := []) os un bf bare (fun b z => nomatch z)
 have dead : ∀ b, s.heap.get? b = none -> s0.heap.get? b = none := fun b z => by
  cases q : s0.heap.get? b with
  | none => rfl
  | some o =>
    obtain ⟨o2, z2⟩ := I.base.there b o q (by intro y; cases y)
    rw [z] at z2
    cases z2
 show wpAny _ _ (leaving _ (.ref a)) _ _ s'
 refine wpAny_bind (lx (base := base) I'.ok.frames I'.stack rfl tr fun h2 T2 Bg wB lv => ?_)
 have d' : s'.heap.get? T2 = none -> s0.heap.get? T2 = none := fun z => by
  cases q : s0.heap.get? T2 with
  | none => rfl
  | some o =>
    obtain ⟨o2, z2⟩ := I'.base.there T2 o q (by intro y; cases y)
    rw [z] at z2
    cases z2
 refine p7 I' lv (fun b hb => ?_) Bg ha ?_ (dead a na) ?_ hE
 . have : b = a \/ b = T := by simpa using hb
   rcases this with rfl | rfl
   . exact ⟨ha, dead _ na⟩
   . exact ⟨hT, dead _ nT⟩
 . rcases wB with rfl | z
   . exact hT
   . exact I'.bf.dead z
 . rcases wB with rfl | z
   . exact dead _ nT
   . exact d' z
def tR (X : Cx) (E : St -> XK) : Prop := ∀ (pins : List (Addr × Obj)) (σ : St) (H : Hp) (s : Shared) (a C : Addr) (od : Option Addr) (oe : Obj) (vs : Array Value), Inv X pins σ H s -> s.heap.get? a = some oe -> oe.cls = .ref C -> oe.dict = od -> oe.data = .fields vs -> vs[1]? = some .none -> vs[2]? = some .none ->
 H a = none -> X.cJ.heap.get? a = none -> E σ (.ref C) od H -> X.xe (.ref a) s
theorem uV : tR (gD (nO P w) P w K mg base N qual scope f cd A outer s0 H0 E) (fun _ => E) := by
 intro pins σ H s a C od oe vs I e1 e2 e3 e4 v1 v2 ha na hE
 show wpAny _ _ (leaving _ (.ref a)) _ _ s
 refine wpAny_bind (tI (base := base) I.ok.frames I.stack rfl e1 e3 e4 v1 v2 fun h2 T2 Bg wB lv => ?_)
 rw [e2] at Bg
 refine p7 I lv (fun b hb => ?_) Bg ha (I.bf.dead wB) na ?_ hE
 . have : b = a := by simpa using hb
   subst this
   exact ⟨ha, na⟩
 . cases q : s0.heap.get? T2 with
   | none => rfl
   | some o =>
     obtain ⟨o2, z2⟩ := I.base.there T2 o q (by intro y; cases y)
     rw [wB] at z2
     cases z2
end
structure lP (P : Program) (w : World) (K : PySem.W.Frag) (mg : Str -> Option Value) (base : Heap) (k : Nat) (f : Addr) (ps : List Str) (cV : List V) (sp : Sp) : Prop where
 ex : ∃ (fd : FuncData) (ds : List Value), bh P w K mg base (nO P w) k f fd ps sp /\ Binds K fd ps ds /\ Vals cV ds
theorem gg.out {sp : Sp} {vs : List V} {H : Hp} {Q : VK} {E : XK} (h : gg sp vs H Q E) : sp vs H Q E := let ⟨_, e, h⟩ := h; e ▸ h
def sQ (sp : Sp) (cV : List V) (E : St -> XK) (t : TA) : TE := fun σ H Q => t σ H fun vs H1 => gg sp (vs ++ cV) H1 Q (E σ)
def Ab (C : Addr) (sp : Sp) (cV : List V) (E : St -> XK) (t : TA) : TE := fun σ H Q => t σ H fun vs H1 => xi C sp (vs ++ cV) H1 Q (E σ)
section
variable {X : Cx} {CX : qe} {k : Nat} {f C : Addr} {fd : FuncData} {ps : List Str} {sp : Sp} {cV : List V} {ds : List Value} {E : St -> XK} {x m : Str} {p pos apos : Pos} {e o : Expr} {es : List Expr} {ta : TE} {t : TA}
theorem sx {pins : List (Addr × Obj)} {σ : St} {H : Hp} {s : Shared} {Q : VK} {us : List Value} {vs : List V} (F : bh X.prog X.w X.K X.mg X.base CX k f fd ps sp) (hr : c6 k X.A) (hb : Binds X.K fd ps ds) (hd : Vals cV ds) (hx : cX CX X E)
 (I : Inv X pins σ H s) (r : Vals vs us) (h : sp (vs ++ cV) H Q (E σ)) : wpAny (model X.prog X.w) X.A (call (.ref f) us) (EP X pins σ Q) X.xe s := by
 have r2 : Vals (vs ++ cV) (us ++ ds) := r.append hd
 have hl : (us ++ ds).length = ps.length := by rw [<- r2.length]; exact F.len _ _ _ _ h
 refine wpAny_call (codeAny_mono (F.run X.A X.stack s H ⟨us, []⟩ (us ++ ds) (vs ++ cV) Q (E σ) hr I.Fw (hb s us I.iZ hl) r2 h) fun r s' hq => ?_)
 cases r with
 | error e => exact hx pins σ H s e s' I hq
 | ok fl =>
   cases fl with
   | ret u => exact I.after hq
   | next => exact False.elim hq
   | brk => exact False.elim hq
   | cont => exact False.elim hq
theorem bG (c : lP X.prog X.w X.K X.mg X.base k f ps cV sp) (hr : c6 k X.A) (hg : Gl X x) (hm : X.mg x = some (.ref f)) (hk : PySem.W.keepIn X.K (.ref f) = true) (hx : cX (nO X.prog X.w) X E)
 (ha : PA X (e :: es) t) (pA : (x == ("__debug__" : Str)) = false := by decide) (he : starEach (e :: es) X.env = (false, eval e X.env) :: starEach es X.env := by rfl) (kH : (backTo pos (starEach es X.env)).any (·.1) = false := by rfl) :
 PE X (.Call (.Name x p) (e :: es) [] pos) (sQ sp cV E t) := by
 obtain ⟨fd, ds, F, hb, hd⟩ := c.ex
 intro pins s σ H Q I h
 refine wpAny_Call_Name_kw (ez I hg hm ?_ pA)
 refine PySem.W.callWith_K (h₀ := X.base) I.ok.mod.Bh hk (bP (ha pos pins s σ H _ I h) fun us s1 ⟨vs, H1, I1, r, q⟩ => ⟨I1.iZ, ?_⟩) he kH
 exact sx F hr hb hd hx I1 r (gg.out q)
theorem pK (M : Mk X.K C f) (F : lP X.prog X.w X.K X.mg X.base k f ps cV sp) (hr : c6 (k + 1) X.A) (hg : Gl X x) (hm : X.mg x = some (.ref C)) (hx : cX (nO X.prog X.w) X E)
 (ha : PA X (e :: es) t) (pA : (x == ("__debug__" : Str)) = false := by decide) (he : starEach (e :: es) X.env = (false, eval e X.env) :: starEach es X.env := by rfl) (kH : (backTo pos (starEach es X.env)).any (·.1) = false := by rfl) :
 PE X (.Call (.Name x p) (e :: es) [] pos) (Ab C sp cV E t) := by
 obtain ⟨fd, ds, F, hb, hd⟩ := F.ex
 intro pins s σ H Q I h
 refine wpAny_Call_Name_kw (ez I hg hm ?_ pA)
 refine PySem.W.callWith_K (h₀ := X.base) I.ok.mod.Bh M.kp (bP (ha pos pins s σ H _ I h) fun us s1 ⟨vs, H1, I1, r, q⟩ => ⟨I1.iZ, ?_⟩) he kH
 unfold xi at q
 obtain ⟨ws, ew, q⟩ := q
 have q := ew ▸ q
 have hq := q (s1.heap.objs.size + 1) s1.heap.objs.size (I1.bf.fresh (Nat.le_succ _)) (I1.bf.fresh (Nat.le_refl _)) (Nat.ne_of_lt (Nat.lt_succ_self _))
 have I2 := Inv.made (C := C) I1
 have r2 : Vals (V.ref (s1.heap.objs.size + 1) :: (vs ++ cV)) (Value.ref (s1.heap.objs.size + 1) :: (us ++ ds)) := .cons rfl (r.append hd)
 have hl : (Value.ref (s1.heap.objs.size + 1) :: us ++ ds).length = ps.length := by
  have e := r2.length
  rw [F.len _ _ _ _ hq] at e
  exact e.symm
 refine wpAny_call (zG (f := f) I1.iZ M.makes M.init (beq_iff_eq.mp M.fn) (codeAny_mono (F.run _ X.stack _ _ ⟨Value.ref (s1.heap.objs.size + 1) :: us, []⟩ (Value.ref (s1.heap.objs.size + 1) :: (us ++ ds)) _ _ (E σ) (hr.make C us [])
  (I2.Fw.make C us []) (hb _ (Value.ref (s1.heap.objs.size + 1) :: us) I2.iZ hl) r2 hq) fun r s' Ce => ?_))
 cases r with
 | error e => exact hx pins σ _ _ e s' I2 Ce
 | ok fl =>
   cases fl with
   | ret u =>
     obtain ⟨v, H', I3, rv, ev, q3⟩ := I2.after Ce
     subst ev
     exact ⟨rv, ⟨V.ref (s1.heap.objs.size + 1), H', I3, rfl, q3⟩⟩
   | next => exact False.elim Ce
   | brk => exact False.elim Ce
   | cont => exact False.elim Ce
end
section
variable {P : Program} {w : World} {K : PySem.W.Frag} {mg : Str -> Option Value} {base : Heap}
theorem cz.zE {x qual : Str} {st : Stmt} {f : Addr} {dV : Value} {fd : FuncData} {N ps : List Str} {k : Nat} {sp : Sp} (F : cz K x qual st f dV fd) (S : aH N ps (ak st)) (len : ∀ vs H Q E, sp vs H Q E -> vs.length = ps.length)
 (qu : ∀ (dk : Value) (A : Around) (outer : List Env) (s : Shared) (H : Hp) (vs : List V) (Q : VK) (E : XK), c6 k (A.deeper (envOfC qual (ak st) s.heap.objs.size f dk)) -> sp vs H Q E ->
  ∃ t, qN (gD (nO P w) P w K mg base N qual (ak st) f dk A outer s H E) (gx st) t /\ t { nx := fun _ H' => Q .cn H', rt := Q } (start N vs) H) : bh P w K mg base (nO P w) (k + 1) f fd ps sp := by
 obtain ⟨oc, od, kV, doc, pm, an, dk, ct, yc, rfl, lk, uM⟩ := F.ex
 exact zW lk uM S len fun A outer s H vs Q E hr pZ => qu dk A outer s H vs Q E hr pZ
end
section
variable {prog : Program} {w : World} {A : Around} {E : Value -> Shared -> Prop} {s : Shared} {K : PySem.W.Frag} {x C : Addr} {ox : Obj} {name : Str} {v : Value} {cd : ClassData}
open Builtin.ObjectAttr in
open Builtin.ObjectAttr in
end
def vj (a C : Addr) (od : Option Addr) : Heap -> Prop := fun h => ∃ o vs, h.get? a = some o /\ o.cls = .ref C /\ o.dict = od /\ o.data = .fields vs /\ vs[2]? = some .none
theorem vj.ext {h : Heap} {a C : Addr} {od : Option Addr} (m : vj a C od h) : vj a C od h /\ (∃ o, h.get? a = some o) /\ ∀ h1 h2 : Heap, vj a C od h1 -> (∀ o, h1.get? a = some o -> h2.get? a = some o) -> vj a C od h2 :=
 ⟨m, let ⟨o, _, e, _⟩ := m; ⟨o, e⟩, fun _ _ ⟨o, vs, e, r⟩ k => ⟨o, vs, k o e, r⟩⟩
structure OY (K : PySem.W.Frag) (C W fI : Addr) : Prop where
 cls : ∃ (nm q : Str) (N : Addr) (bs : List Value) (sn : List Str) (sub : List Value) (ab : Bool) (col : Option Bool) (dd : Option Addr) (k0 k1 k2 k3 k5 : Option Value), K.lookup C = some (excClassObj nm q C N bs (.ref W :: Lb) true sn sub ab col dd k0 k1 k2 k3 k5 "ValueError.__new__")
 up : qa K W
 init : PySem.W.findIn K (.ref C) "__init__" = some (some (.ref fI))
 fn : PySem.W.isFn K (.ref fI) = true
 te : G0 K C
 sa : PySem.W.findIn K (.ref C) "__setattr__" = some (some (.builtin "object.__setattr__"))
 tk : PySem.W.takerIn K C "name" = some none
 nm : PySem.W.findIn K (.ref C) "name" = some none
def vw (K : PySem.W.Frag) (C : Addr) : Prop := ∀ h : Heap, K.In h -> ∃ (bm : List Value) (N : Addr) (nm q : Str) (bs : List Value) (hd : Bool) (sn : List Str) (sub : List Value) (ab : Bool) (col : Option Bool) (dd : Option Addr) (k0 k1 k2 k3 k5 : Option Value),
 h.get? C = some (excClassObj nm q C N bs bm hd sn sub ab col dd k0 k1 k2 k3 k5 "ValueError.__new__") /\ OwnTail h Lb bm
theorem qa.o {K : PySem.W.Frag} {C : Addr} (h : qa K C) : vw K C := fun hp X => by
 obtain ⟨bm, N, nm, q, bs, hd, sn, sub, ab, col, dd, k0, k1, k2, k3, k5, mN, hC, _, _, T⟩ := vb X h
 exact ⟨bm, N, nm, q, bs, hd, sn, sub, ab, col, dd, k0, k1, k2, k3, k5, hC, T⟩
section
variable {prog : Program} {w : World} {A : Around} {E : Value -> Shared -> Prop} {h : Heap} {g : Array GenState} {d : Drawn} {t : Nat} {os : OsState}
variable {nm q : Str} {C N : Addr} {bs bm B3 : List Value} {hdct : Bool} {sn : List Str} {sub : List Value} {ab : Bool} {col : Option Bool} {dd : Option Addr} {k0 k1 k2 k3 k5 : Option Value} {B newId A4 : String}
end
structure MQ (K : PySem.W.Frag) (W : Addr) : Prop where
 ga : PySem.W.specialIn K (.ref W) "__getattribute__" = some (some (.builtin "type.__getattribute__"))
 rd : PySem.W.readsIn K W (.type "type") = true
 fd : PySem.W.findCls K (.ref W) (.type "type") "__init__" = some (.val (.builtin "ValueError.__init__"))
section
variable {X : Cx} {W : Addr} {x : Str} {p pos apos : Pos} {e : Expr} {es : List Expr} {t : TA} {pl : Sem Bool}
end
def del (H : Hp) (a : Addr) : Hp := fun b => if b = a then none else H b
section
variable {prog : Program} {w : World} {A : Around} {E : Value -> Shared -> Prop} {s : Shared} {env : Env}
variable {nm q : Str} {C N : Addr} {bs bm B3 : List Value} {hdct : Bool} {sn : List Str} {sub : List Value} {ab : Bool} {col : Option Bool} {dd : Option Addr} {k0 k1 k2 k3 k5 : Option Value} {newId : String}
end
def xj (C : Addr) (E : St -> XK) (ta : TA) : TS := fun _ σ H => ta σ H fun vs H1 => vs.length <= sizeLine /\ E σ (.ref C) none H1
theorem oj {X : Cx} {E : St -> XK} {C : Addr} {x : Str} {np dc pos : Pos} {e : Expr} {ta : TA} (hX : tR X E) (hc : X.calm = true) (ha : PA X [e] ta) (hg : Gl X x) (hm : X.mg x = some (.ref C)) (hq : qa X.K C) (hex : X.ex = [])
 (hs : starEach [e] X.env = (false, eval e X.env) :: starEach [] X.env := by rfl) (lK : (backTo dc (starEach [e] X.env)).any (·.1) = false := by rfl) (pA : (x == ("__debug__" : Str)) = false := by decide) :
 PS X (.Raise (some (.Call (.Name x np) [e] [] dc)) none pos) (xj C E ta) := by
 intro pins s σ H D I h
 obtain ⟨bm, N, nm, q, bs, hd, sn, sub, ab, col, dd, k0, k1, k2, k3, k5, mN, hC, hN, DR, T⟩ := vb I.mod.Bh hq
 refine wpAny_Raise_call_subT (C := C) (nm := nm) (q := q) (N := N) (bs := bs) (bm := bm) (hdct := hd) (sn := sn) (sub := sub) (ab := ab) (col := col) (dd := dd) (k0 := k0) (k1 := k1) (k2 := k2) (k3 := k3) (k5 := k5) (mN := mN) PySem.F.excBase_ValueError (T.hasType (by decide)) (I.ok.hd hc) lK DR (ez I hg hm ⟨rfl, ?_⟩ pA)
 have hA := ha dc pins s σ H _ I h
 rw [hs] at hA ⊢
 refine Calls.evalArgs_plain (bP hA fun us s1 ⟨vs, H1, I1, r1, MZ, q1⟩ => ?_)
 rw [r1.length] at MZ
 refine ⟨rfl, MZ, I1.bk _ _ hC, hN.at' fun o e => I1.bk _ _ e, T.keeps I1.bk, fun h2 a m => ?_⟩
 obtain ⟨t0, e1, _, _⟩ := m.there
 have I2 : Inv X pins σ H1 { s1 with heap := h2 } := I1.kept (t' := s1.toks) fun b u z => m.keeps b u z
 have dead : X.cJ.heap.get? a = none := by
  cases q' : X.cJ.heap.get? a with
  | none => rfl
  | some o =>
    obtain ⟨o2, z2⟩ := I1.base.there a o q' (by rw [hex]; intro y; cases y)
    rw [m.new] at z2
    cases z2
 exact hX pins σ H1 _ a C none _ _ I2 e1 rfl rfl rfl rfl rfl (I1.bf.dead m.new) dead q1
theorem qI {M : Model} {A : Around} {E : Value -> Shared -> Prop} {h : Heap} {g : Array GenState} {d : Drawn} {t : Nat} {os : OsState} {a C D N N' : Addr} {oe : Obj} {nm q Ld q' : Str} {bs bm Li IE sub Fp : List Value} {hdct Ik ab L5 : Bool} {sn Ki : List Str} {col Gf : Option Bool} {dd KQ : Option Addr} {k0 k1 k2 k3 k5 l0 l1 l2 l3 l5 : Option Value} {newId Gp : String} {Q : Bool -> Shared -> Prop} {b : Bool}
 (hC : h.get? C = some (excClassObj nm q C N bs bm hdct sn sub ab col dd k0 k1 k2 k3 k5 newId)) (hD : h.get? D = some (excClassObj Ld q' D N' Li IE Ik Ki Fp L5 Gf KQ l0 l1 l2 l3 l5 Gp)) (he : h.get? a = some oe) (BJ : oe.cls = .ref C) (hb : IE.contains (.type "BaseException") = true)
 (hit : (Value.ref C :: bm).contains (.ref D) = b) (hq : Q b ⟨h, g, d, t, os⟩) : wpAny M A (excMatches (.ref a) (.ref D)) Q E ⟨h, g, d, t, os⟩ := by
 have c1 : (Value.ref D :: IE).contains (.type "BaseException") = true := by rw [List.contains_cons, hb, Bool.or_true]
 have f := tc_notTuple
 unfold excMatches
 cases b
 . repeat (first | (with_reducible refine wpAny_loadPart_at he ?_; rw [BJ]) | with_reducible refine wpAny_loadPart_at hD ?_ | (with_reducible refine wpAny_isSubtype_exc hD ?_; rw [c1]) | (with_reducible refine wpAny_isSubtype_exc hC ?_; rw [hit]) | wp_step)
   all_goals exact hq
 . repeat (first | (with_reducible refine wpAny_loadPart_at he ?_; rw [BJ]) | with_reducible refine wpAny_loadPart_at hD ?_ | (with_reducible refine wpAny_isSubtype_exc hD ?_; rw [c1]) | (with_reducible refine wpAny_isSubtype_exc hC ?_; rw [hit]) | wp_step)
   all_goals exact hq
theorem xB {K : PySem.W.Frag} {h : Heap} {C D N : Addr} {nm q : Str} {bs bm sub : List Value} {hdct ab : Bool} {sn : List Str} {col : Option Bool} {dd : Option Addr} {k0 k1 k2 k3 k5 : Option Value} {newId : String} {b : Bool} (X : K.In h) (hC : h.get? C = some (excClassObj nm q C N bs bm hdct sn sub ab col dd k0 k1 k2 k3 k5 newId)) (hm : PySem.W.mroIn K C (.ref D) = some b) : (Value.ref C :: bm).contains (.ref D) = b := by
 unfold PySem.W.mroIn PySem.W.clsIn at hm
 split at hm
 . rename_i c' d' cd sl ho
   have z := X _ _ ho
   rw [hC] at z
   cases z
   simpa using hm
 . cases hm
theorem uK.keeps {h h' : Heap} {a T : Addr} {c : Value} {od : Option Addr} (t : uK h a T c od) (k : ∀ b o, h.get? b = some o -> h'.get? b = some o) : uK h' a T c od := by
 obtain ⟨oe, vs, oT, ts, e1, e2, e3, e4, e5, e6, e7, e8⟩ := t
 exact ⟨oe, vs, oT, ts, k _ _ e1, e2, e3, e4, e5, e6, k _ _ e7, e8⟩
def L7 (X : Cx) (cl : Expr) (hit : Addr -> Bool -> Prop) : Prop := ∀ (a C T : Addr) (od : Option Addr) (pins : List (Addr × Obj)) (σ : St) (H : Hp) (s : Shared) (Q : Bool -> Shared -> Prop) (E : Value -> Shared -> Prop) (b : Bool), Inv X pins σ H s -> uK s.heap a T (.ref C) od -> hit C b ->
 (∀ h', (∀ b o, s.heap.get? b = some o -> h'.get? b = some o) -> Q b { s with heap := h' }) ->
 wpAny (model X.prog X.w) (X.hand a).A (eval cl X.env) (fun c s1 => wpAny (model X.prog X.w) (X.hand a).A (excMatches (.ref a) c) Q E s1) E s
def BW (K : PySem.W.Frag) (D C : Addr) (b : Bool) : Prop := vw K C /\ PySem.W.mroIn K C (.ref D) = some b
theorem BH {X : Cx} {x : Str} {np : Pos} {D : Addr} (hg : Gl X x) (hm : X.mg x = some (.ref D)) (hD : vw X.K D) (pA : (x == ("__debug__" : Str)) = false := by decide) : L7 X (.Name x np) (BW X.K D) := by
 intro a C T od pins σ H s Q E b I tr hit k
 refine ez (X := { X with xe := E }.hand a) (E := E) I.oz hg hm ?_ pA
 obtain ⟨bm, N, nm, q, bs, hd, sn, sub, ab, col, dd, k0, k1, k2, k3, k5, hC, _⟩ := hit.1 _ I.iZ
 obtain ⟨IE, N', Ld, q', Li, uO, Ki, Fp, L5, Gf, KQ, l0, l1, l2, l3, l5, Mg, T'⟩ := hD _ I.iZ
 obtain ⟨oe, vs, oT, Nq, e1, e2, e3, e4, e5⟩ := id tr
 exact qI hC Mg e1 e2 (T'.hasType (by decide)) (xB I.iZ hC hit.2) (k _ fun _ _ z => z)
structure Ck where
 hit : Addr -> Bool -> Prop
 i : Option Nat
 ts : Addr -> TS
def Cb (σ : St) (i : Option Nat) (v : Option V) : St := match i with
 | some i => σ.set i v
 | none => σ
def zB (X : Cx) : Option Str -> Option Nat -> Prop
 | some n, some i => X.N[i]? = some n /\ X.env.scope.names.lookup n = some .local
 | none, none => True
 | _, _ => False
inductive Ax (X : Cx) : List ExceptHandler -> List Ck -> Prop
 | nil : Ax X [] []
 | cons {cl : Expr} {n : Option Str} {b0 : Stmt} {rn : List Stmt} {pos : Pos} {hs : List ExceptHandler} {hit : Addr -> Bool -> Prop} {i : Option Nat} {ts : Addr -> TS} {rs : List Ck} (hc : L7 X cl hit) (hb : ∀ a, qN (X.hand a) (b0 :: rn) (ts a)) (hn : zB X n i) (r : Ax X hs rs) :
  Ax X (.ExceptHandler (some cl) n (b0 :: rn) pos :: hs) (⟨hit, i, ts⟩ :: rs)
def Gd (D : Ends) (i : Option Nat) : Ends := { nx := fun σ H => D.nx (Cb σ i none) H, rt := D.rt, bk := fun σ H => D.bk (Cb σ i none) H, ct := fun σ H => D.ct (Cb σ i none) H }
theorem Inv.gone {X : Cx} {pins : List (Addr × Obj)} {σ : St} {H : Hp} {s : Shared} {h' : Heap} {m : Str -> Option Value} {n : Str} {v : Option Value} {i : Nat} {t' : Nat} (I : Inv X pins σ H s) (hN : X.N.Nodup) (hi : X.N[i]? = some n)
 (loc : ∀ (j : Nat) (x : Str) (v : V), X.N[j]? = some x -> σ[j]? = some (some v) -> GW X.env.scope x -> ∃ u, RelV v u /\ Look X.env s.heap m x u) (ns : h'.Ns X.env.locals (fun x => if x = n then v else m x)) (sb : Heap.SameBut X.env.locals s.heap h') : Inv X pins (σ.set i none) H { s with heap := h', toks := t' } := by
 have old : ∀ b o, X.cJ.heap.get? b = some o -> b ≠ X.env.locals := fun b o e => Nat.ne_of_lt (Nat.lt_of_lt_of_le (Heap.lt_size e) I.ok.above)
 refine ⟨I.ok, I.os, I.bare, ⟨fun b o e n hb hx => (sb.2 b (old b o e)).trans (I.base.keep b o e n hb hx), fun b o e n hb hx => ?_, fun b o e n hx => I.base.free b o e n hx, fun b o e hx => ?_, I.base.j8, I.base.jB, I.base.lR⟩, ⟨_, ns, fun j x w e1 e2 e3 => ?_⟩, fun x c e => ?_, I.free, I.dX, fun p hp => ?_, fun b u e => ?_, by rw [List.length_set]; exact I.len⟩
 . obtain ⟨sl, z⟩ := I.base.slot b o e n hb hx
   exact ⟨sl, (sb.2 b (old b o e)).trans z⟩
 . obtain ⟨o2, z⟩ := I.base.there b o e hx
   exact ⟨o2, (sb.2 b (old b o e)).trans z⟩
 . have MS : i ≠ j := fun y => by
    subst y
    rw [List.getElem?_set_self' ] at e2
    cases q : σ[i]? <;> rw [q] at e2 <;> cases e2
   rw [List.getElem?_set_ne MS] at e2
   obtain ⟨u, ru, l⟩ := loc j x w e1 e2 e3
   refine ⟨u, ru, ?_⟩
   have OO : x ≠ n := fun y => MS (qA hN hi (y ▸ e1))
   rcases l with ⟨k, l⟩ | ⟨k, c, e, o, ho, hd⟩
   . exact .inl ⟨k, by show (if x = n then v else m x) = _; rw [if_neg OO]; exact l⟩
   . exact .inr ⟨k, c, e, o, (sb.2 c (I.CH x c e)).trans ho, hd⟩
 . obtain ⟨v, o, ho, hd⟩ := I.cell x c e
   exact ⟨v, o, (sb.2 c (I.CH x c e)).trans ho, hd⟩
 . obtain ⟨e, n, ne, nf, d⟩ := I.pin p hp
   exact ⟨(sb.2 p.1 ne).trans e, n, ne, nf, d⟩
 . refine (I.bf b u e).pe (fun c v hc q => (sb.2 c fun z => ?_).trans q) (fun _ q => q) fun _ _ q => q
   have sq : H c ≠ none := by
    rcases hc with rfl | hc
    . rw [e]; intro z; cases z
    . rw [hc]; intro z; cases z
   exact sq (z ▸ I.free)
section
variable {X : Cx} {pins : List (Addr × Obj)} {σ : St} {H : Hp} {a C : Addr} {od : Option Addr} {Dn : Ends}
def G5 (X : Cx) (pins : List (Addr × Obj)) (b : Addr) : Prop := X.cJ.heap.get? b = none /\ b ≠ X.env.locals /\ (∀ x c, X.env.cells.lookup x = some c -> c ≠ b) /\ ∀ p ∈ X.pn ++ pins, p.1 ≠ b
end
theorem u3 {prog : Program} {w : World} {A : Around} {E : Value -> Shared -> Prop} {s : Shared} {K : PySem.W.Frag} {x D : Addr} {ox : Obj} {HQ : Option Obj} {Q : Option Value -> Shared -> Prop} (t : G0 K D) (X : K.In s.heap) (I : InstAt s.heap x ox D HQ) (h : Q (some (.ref D)) { s with toks := s.toks + 1 }) : wpAny (model prog w) A (getAttr? (.ref x) "__class__") Q E s := by
 have hf : findObj K D HQ "__class__" = some (.bind (.builtin "getset_descriptor.__get__") (.builtin "object.__class__")) := by
  obtain ⟨cd, hc, _⟩ := any_some t.hd
  unfold findObj
  rw [hc, t.ty.ha]
  simp only [Option.bind_some, t.ty.hn, t.ty.ht]
 obtain ⟨hh, g, d, tk, os⟩ := s
 have L0 := I.type (M := model prog w)
 have L1 := looks_findIn (M := model prog w) X t.ga
 have L2 := looks_findIn (M := model prog w) X t.gn
 have L3 := looks_find (M := model prog w) X I hf
 have L4 := looks_mroIn (M := model prog w) X t.mb
 have hk : builtinKind "BaseException.__getattribute__" = some .slot := by decide +kernel
 have hsplit : splitId "BaseException.__getattribute__" = some ("BaseException", "__getattribute__") := by decide +kernel
 unfold getAttr? getAttrBy? getAttrBy
 refine wpAny_bind (wpAny_mkText (wpAny_bind (wpAny_attempt (wpAny_holding (wpAny_bind (L0.at (wpAny_bind (L1.at ?_))))))))
 dsimp only
 rw [if_neg (show ¬ ((onTheHeap (Value.ref D) && Value.builtin "BaseException.__getattribute__" == Value.builtin "object.__getattribute__") = true) by rw [show (Value.builtin "BaseException.__getattribute__" == Value.builtin "object.__getattribute__") = false from by decide +kernel, Bool.and_false]; decide)]
 unfold getAttrByItsOwn
 refine wpAny_bind (show wpAny _ _ (typeLookup (.ref D) "__getattr__") _ _ _ from L2.at ?_)
 refine wpAny_bind (wpAny_attempt (wpAny_holding ?_))
 show wpAny _ _ (boundAndCalled _ _ _) _ _ _
 unfold boundAndCalled
 rw [PySem.F.attr_ValueError.ga.bind]
 refine wpAny_bind (wpAny_pure ?_)
 refine wpAny_call (codeAny_call_builtin PySem.F.attr_ValueError.ga.plain PySem.F.entry_bexc_ga ?_)
 simp only [checkBuiltinCall, hk, hsplit]
 have ha := PySem.F.args_bexc_ga (.ref x) (.str "__class__" tk)
 dsimp only at L0 L1 L2 L3 L4 X I h
 refine wpAny_bind ?_
 unfold isInstance
 refine wpAny_bind (L0.at (L4.at ?_))
 rw [if_neg (by decide)]
 repeat (any_goals (first | assumption | with_reducible refine L0.at ?_ | with_reducible refine L3.at ?_ | wp_step))
 exact class_get (s := ⟨hh, g, d, tk + 1, os⟩) (ox := ox) (od := HQ) X I t.ty.hm (wpAny_pure (handed_on rfl (wpAny_pure h)))
theorem zS {K : PySem.W.Frag} {x D : Addr} {ox : Obj} {HQ : Option Obj} (t : G0 K D) : KitX K (.ref x) (.ref D) (fun h => InstAt h x ox D HQ) where
 ty := fun _ _ _ I => I.type
 it := fun _ _ X _ => by
  obtain ⟨Nt, C5, _⟩ := any_some t.hd
  unfold clsIn at C5
  split at C5
  . rename_i c' d' NT Lh ho
    intro A' Q' E' s' k q
    unfold isType loadHead
    exact wpAny_bind (wpAny_loadPart (k _ _ (X _ _ ho)) (wpAny_pure q))
  . cases C5
 ne := fun h tp dd aV n sl X Ot => by
  obtain ⟨Nt, C5, _⟩ := any_some t.hd
  refine Bool.eq_false_iff.mpr fun q => ?_
  have e : D = tp := Value.ref.inj (beq_iff_eq.mp q)
  subst e
  unfold clsIn at C5
  split at C5
  . rename_i c' d' NT Lh ho
    have z := (X _ _ ho).symm.trans Ot
    cases z
  . cases C5
 ca := fun X I k => u3 t X I k
section
variable {X : Cx} {e : Expr} {te : TE} {y y2 : Str} {k k2 : Nat} {p1 p2 p3 pos : Pos}
end
section
variable {σ : St} {H : Hp} {Q : VK} {D : Ends} {K : PySem.W.Frag} {C : Addr} {E : St -> XK}
theorem Bu {sp : Sp} {cV : List V} {t : TA} (h : t σ H fun vs H1 => gg sp (vs ++ cV) H1 Q (E σ)) : sQ sp cV E t σ H Q := h
theorem Dd {sp : Sp} {cV : List V} {t : TA} (h : t σ H fun vs H1 => xi C sp (vs ++ cV) H1 Q (E σ)) : Ab C sp cV E t σ H Q := h
theorem zz {ta : TA} (h : ta σ H fun vs H1 => vs.length <= sizeLine /\ E σ (.ref C) none H1) : xj C E ta D σ H := h
end
section
variable {prog : Program} {w : World} {A : Around} {R : Result -> Shared -> Prop} {I S : Addr} {fp wr : List Addr} {n : Nat} {P : Nat -> Value -> Prop} {St : Nat -> Heap -> Prop} {bt : Nat -> Nat -> Bool}
end
section
variable {prog : Program} {w : World} {A : Around} {E : Value -> Shared -> Prop} {s : Shared}
end
section
variable {X : Cx}
end
section
variable {σ : St} {H : Hp} {Q : VK} {D : Ends} {K : PySem.W.Frag}
end
def Gq : Expr -> Option V
 | .Constant (.int i) _ _ => some (.int i)
 | .Constant (.str x) _ _ => some (.str x)
 | .Constant (.bool b) _ _ => some (.bl b)
 | .Constant .none _ _ => some .cn
 | _ => none
def zx : List Expr -> Option (List V)
 | [] => some []
 | e :: es => match Gq e, zx es with
   | some v, some vs => some (v :: vs)
   | _, _ => none
def Ef (vs : List V) : TA := fun _ H Q => Q vs H
theorem w6 {X : Cx} {e : Expr} {v : V} (h : Gq e = some v) : PE X e (tC v) /\ ∀ es : List Expr, starEach (e :: es) X.env = (false, eval e X.env) :: starEach es X.env := by
 unfold Gq at h
 split at h <;> cases h <;> refine ⟨?_, fun _ => rfl⟩
 . exact ah
 . exact av
 . exact qy
 . exact nV
theorem xk {X : Cx} : ∀ {es : List Expr} {vs : List V}, zx es = some vs -> PA X es (Ef vs)
 | [], vs, h => by cases h; exact ag
 | e :: es, vs, h => by
   unfold zx at h
   split at h
   . rename_i v O2 h1 h2
     cases h
     exact af (w6 h1).1 (xk h2) ((w6 h1).2 es)
   . cases h
theorem GK {σ : St} {H : Hp} {vs : List V} {Q : List V -> Hp -> Prop} (h : Q vs H) : Ef vs σ H Q := h
section
variable {X : Cx}
end
section
open PySem.SeqAt
open PySem.AutoSeq1 (wpAny_loadPart')
open PySem.MeetsSeq PySem.MeetsSeq2 PySem.MeetsSeq3
end
section
variable {X : Cx}
end
section
variable {σ : St} {H : Hp} {Q : VK} {D : Ends} {K : PySem.W.Frag}
theorem sS {k : Nat} {v : V} {g : TG} {tc : TT} {te : TE} {α : Type} {cs : List α} {gd : α -> PyData} (Pd : α -> PyData -> Prop) (hl : Dv H v (.list (cs.map gd))) (hlen : cs.length <= 4000) (hi : ∀ c d, Pd c d -> sD d = true)
 (turn : ∀ x c H' (N : Option V -> Hp -> Prop), c ∈ cs -> ao H H' -> Dv H' x (gd c) -> (∀ y d H4, ao H' H4 -> Pd c d -> Dv H4 y d -> N (some y) H4) ->
  g x (List.replicate k none ++ σ) H' fun σ2 H2 => tc σ2 H2 fun b H3 => GP te N σ2 b H3)
 (kk : ∀ q H' ds, ao H H' -> H q = none -> dn H' q ds -> ds.length = cs.length -> (∀ (i : Nat) c d, cs[i]? = some c -> ds[i]? = some d -> Pd c d) -> Q (.ref q) H') : ∃ a, v = .ref a /\ (∃ xs, fW K H a xs) /\ D2 k g tc te (rH Q) σ (IX K a) H := by
 obtain ⟨p, xs, rfl, e, dv⟩ := hl.lst_inv
 have Ge : fW K H p xs := e K
 have GQ : xs.length = cs.length := by rw [dv.length, List.length_map]
 refine ⟨p, rfl, ⟨xs, Ge⟩, fun i m acc H' => i <= cs.length /\ m = cs.length - i /\ ao H H' /\ ∃ ds, ck H' acc ds /\ ds.length = i /\ ∀ (j : Nat) c d, cs[j]? = some c -> ds[j]? = some d -> Pd c d, ⟨cs.length, Nat.zero_le _, rfl, ao.refl _, [], .nil, rfl, fun j c d _ h => by simp at h⟩, ?_⟩
 rintro i m acc H' ⟨MX, hm, sm, ds, iT, AH, yT⟩
 have C4 : fW K H' p xs := ao.seq sm Ge
 have EV : acc.length = i := by rw [iT.length, AH]
 have Lz : aR ds = true := cY.mpr fun d hd => by
  obtain ⟨j, hj⟩ := List.getElem?_of_mem hd
  have OQ : j < cs.length := by have := (List.getElem?_eq_some_iff.mp hj).1; omega
  exact hi _ d (yT j _ d (List.getElem?_eq_getElem OQ) hj)
 by_cases hc : i = cs.length
 . left
   refine ⟨⟨xs, C4, by omega⟩, fun q hq => ?_⟩
   exact kk q _ ds (sm.trans (bD hq)) (sm.none hq) ⟨acc, aO, iT.keeps (bD hq), Lz⟩ (by omega) yT
 . right
   have rM : i < cs.length := by omega
   have Hz : i < xs.length := by omega
   refine ⟨⟨xs, xs[i], C4, List.getElem?_eq_getElem Hz⟩, fQ (by omega), fun x H2 hy => ?_⟩
   obtain ⟨rfl, hy⟩ := hy
   have hx := hy xs C4
   have IB : cs[i]? = some cs[i] := List.getElem?_eq_getElem rM
   obtain ⟨x', ud, hd⟩ := dv.get (i := i) (d := gd cs[i]) (by rw [List.getElem?_map, IB]; rfl)
   rw [hx] at ud
   cases ud
   refine turn x cs[i] H2 (fun o H4 => match o with | some y => ∃ m', m' < m /\ i + 1 <= cs.length /\ m' = cs.length - (i + 1) /\ ao H H4 /\ ∃ ds, ck H4 (acc ++ [y]) ds /\ ds.length = i + 1 /\ ∀ (j : Nat) c d, cs[j]? = some c -> ds[j]? = some d -> Pd c d | none => ∃ m', m' < m /\ i + 1 <= cs.length /\ m' = cs.length - (i + 1) /\ ao H H4 /\ ∃ ds, ck H4 acc ds /\ ds.length = i + 1 /\ ∀ (j : Nat) c d, cs[j]? = some c -> ds[j]? = some d -> Pd c d)
    (List.getElem_mem rM) sm (hd.keeps sm) (fun y d H4 s4 hp d4 => ?_)
   refine ⟨cs.length - (i + 1), by omega, rM, rfl, sm.trans s4, ds ++ [d], ck.append (iT.keeps s4) (.cons d4 .nil), by simp [AH], fun j c e hc he => ?_⟩
   rw [List.getElem?_append] at he
   split at he
   . exact yT j c e hc he
   . rename_i hj
     by_cases e0 : j = ds.length
     . rw [e0] at he
       have : d = e := by simpa using he
       rw [e0, AH, IB] at hc
       cases hc
       exact this ▸ hp
     . rw [List.getElem?_eq_none (by simp; omega)] at he; cases he
end
section
variable {X : Cx}
def Ed : List V -> Hp -> VK -> Prop := fun xs H Q => ∃ (v : V) (ns : List Int), xs = [v] /\ Dv H v (.list (ns.map PyData.int)) /\ 0 < ns.length /\ ∀ m ∈ ns, (∀ k ∈ ns, m <= k) -> Q (.int m) H
theorem yK (hc : X.calm = true) : fX X (.builtin "min") Ed := by
 intro pins s σ H xs us Q I r h
 obtain ⟨v, ns, rfl, hd, sr, q⟩ := h
 obtain ⟨u, rfl, ru⟩ := vals1 r
 obtain ⟨p, ys, rfl, e, dv⟩ := hd.lst_inv
 obtain ⟨aV, HK, pl, _⟩ := I.list (e X.K)
 cases ru
 have hI := xu dv HK
 have hn : aV.toArray.size = ns.length := by rw [List.size_toArray, hI.length]
 have rM : p < s.heap.objs.size := by obtain ⟨o, n, e1, _⟩ := pl; exact Heap.lt_size e1
 have hA : X.A.in1.handled = none := I.ok.hd hc
 refine call_min_walk (wpAny_pyIter_list pl.isList ?_)
 refine ⟨s.heap.objs.size, _, _, _, _, _, fun i j => decide (ns.getD i 0 < ns.getD j 0), rfl, Walks.list hA _ p (Nat.ne_of_lt rM) aV.toArray, ⟨⟨_, Heap.get?_push_size _ rfl, rfl, rfl⟩, pl.isList.at fun o e => Heap.get?_push_of_some _ e⟩, ?_, by omega, CmpOf.ints_lt (fun i => ns.getD i 0) ?_, ?_⟩
 . intro b hb
   rw [Heap.size_push]
   have : b = s.heap.objs.size \/ b = p := by simpa using hb
   rcases this with rfl | rfl
   . exact Nat.lt_succ_self _
   . exact Nat.lt_succ_of_lt rM
 . intro i v hv
   exact hI.int_at i v (by simpa using hv)
 . intro v h' tk hP hk
   have b := wo (fun i => ns.getD i 0) (aV.toArray.size - 1)
   generalize argBest (fun i j => decide (ns.getD i 0 < ns.getD j 0)) (aV.toArray.size - 1) = ix at b hP
   obtain ⟨b1, b2⟩ := b
   obtain ⟨t, rfl⟩ := hI.int_at ix v (by simpa using hP)
   have I1 := I.kept (t' := s.toks) (h' := s.heap.push { cls := Value.type "list_iterator", data := Data.fields #[Value.ref p, Value.int 0 0] }) fun b o e => Heap.get?_push_of_some _ e
   have fp := I.Cg (H' := H) (Nat.le_refl _) (I.bf.fresh (Nat.le_refl _))
   have I2 := I1.turned (t' := tk) (h' := h') (it := s.heap.objs.size) (fun b o hb e => hk b o (by simpa using hb) e) fp.1 fp.2.1 fp.2.2.2.1 fp.2.2.2.2.1 fp.2.2.2.2.2
   have hb : ix < ns.length := by omega
   refine ⟨.int _, H, I2, ⟨t, rfl⟩, q _ ?_ ?_⟩
   . rw [List.getD_eq_getElem?_getD, List.getElem?_eq_getElem hb]; exact List.getElem_mem hb
   . intro k hk
     obtain ⟨j, hj, rfl⟩ := List.getElem_of_mem hk
     have := b2 j (by omega)
     rwa [List.getD_eq_getElem?_getD (i := j), List.getElem?_eq_getElem hj] at this
theorem Fn {H : Hp} {Q : VK} {v : V} {ns : List Int} (hp : Dv H v (.list (ns.map PyData.int))) (h0 : 0 < ns.length) (h : ∀ m ∈ ns, (∀ k ∈ ns, m <= k) -> Q (.int m) H) : Ed [v] H Q := ⟨v, ns, rfl, hp, h0, h⟩
end
structure LL (H : Hp) (p : Addr) (as : List Addr) (rs : List (Int × Int)) : Prop where
 at' : H p = some (.lst (as.map V.ref))
 nd : as.Nodup
 ne : p ∉ as
 len : as.length = rs.length
 row : ∀ (i : Nat) (b : Addr) (r : Int × Int), as[i]? = some b -> rs[i]? = some r -> dn H b [.int r.1, .int r.2]
section
variable {H H' : Hp} {p : Addr} {as : List Addr} {rs : List (Int × Int)}
end
theorem mE : ∀ (ss : List Str) (n : Nat), StrsAre (strsFrom n ss) ss
 | [], _ => .nil
 | _ :: r, n => .cons _ _ (mE r (n + 1))
def zr : V -> List V -> Hp -> VK -> Prop := fun x vs H Q => ∃ z y : Str, x = .str z /\ vs = [.str y] /\ y.length ≠ 0 /\ z.length <= 3990 /\ ∀ p, H p = none -> Q (.ref p) (upd H p (.lst ((Txt.split z y).map V.str)))
theorem rW (z y : Str) (h : 1 <= y.length) : (Txt.split z y).length <= z.length + 1 := by
 have := split_weight z y h
 omega
section
variable {X : Cx}
theorem uq : IL X "str.split" zr := by
 intro pins s σ H x vs v us Q I rx rv h
 obtain ⟨z, y, rfl, rfl, hy, hz, q⟩ := h
 obtain ⟨t, rfl⟩ := rx
 obtain ⟨u, rfl, ru⟩ := rv.one
 obtain ⟨t', rfl⟩ := ru
 have hl := rW z y (by omega)
 have hb : (Txt.split z y).length <= sizeLine := Nat.le_trans hl (Nat.le_trans (show z.length + 1 <= 4000 by omega) (by decide))
 have fin : ∀ (us : List Value) (tk : Nat), StrsAre us (Txt.split z y) -> EP X pins σ Q (.ref s.heap.objs.size) { s with heap := s.heap.push { cls := .type "list", data := .seq us.toArray }, toks := tk } := fun us tk hs =>
  ⟨.ref s.heap.objs.size, _, I.laid (t' := tk) (o := .lst ((Txt.split z y).map V.str)) (fun b u e => Heap.get?_push_of_some _ e) (Nat.le_refl _)
   ⟨by rw [List.length_map]; exact hb, us, _, rA hs, Heap.get?_push_size _ rfl⟩, rfl, q _ (I.bf.fresh (Nat.le_refl _))⟩
 unfold Txt.split at fin hb
 split at fin
 . rename_i c
   exact call_meets F.slot_str_split (typeIs_str _ _ _) F.entry_str_split (F.args_str_split_2 _ _) (meets_str_split_cannot_occur z y t t' c) (fin [.str z t] s.toks (.cons _ _ .nil))
 . rename_i c
   rw [if_neg c] at hb
   split at fin
   . rename_i c2
     exact call_meets F.slot_str_split (typeIs_str _ _ _) F.entry_str_split (F.args_str_split_2 _ _) (meets_str_split_not_found z y t t' (by simpa using c) (by simpa using hy) c2) (fin [.str z t] s.toks (.cons _ _ .nil))
   . rename_i c2
     rw [if_neg c2] at hb
     exact call_meets F.slot_str_split (typeIs_str _ _ _) F.entry_str_split (F.args_str_split_2 _ _) (meets_str_split_sep z y t t' (by simpa using c) (by simpa using hy) (by simpa using c2) (Nat.le_trans hz (by decide)) hb) (fin _ _ (mE _ _))
end
section
variable {σ : St} {H : Hp} {Q : VK}
theorem wX {z y : Str} (hy : y.length ≠ 0) (hz : z.length <= 3990) (k : ∀ p H', ao H H' -> H p = none -> dn H' p ((Txt.split z y).map PyData.str) -> Q (.ref p) H') : zr (.str z) [.str y] H Q :=
 ⟨z, y, rfl, rfl, hy, hz, fun p hp => k p _ (bD hp) hp (iz hp (tU _) (oN _))⟩
end
theorem mJ (sep : Str) : ∀ (x : Str) (r : List Str), (Txt.join sep (x :: r)).cps.toList = x.cps.toList ++ r.flatMap fun p => sep.cps.toList ++ p.cps.toList
 | x, [] => by show x.cps.toList = _; simp
 | x, y :: r => by
   have e : (Txt.join sep (x :: y :: r)) = Txt.join sep ((⟨x.cps ++ sep.cps ++ y.cps⟩ : Str) :: r) := rfl
   rw [e, mJ sep _ r]
   show (x.cps ++ sep.cps ++ y.cps).toList ++ _ = _
   simp
inductive ng (w : World) : List DictEntry -> List (Str × Int) -> Prop
 | nil : ng w [] []
 | cons {es : List DictEntry} {m : List (Str × Int)} (k : Str) (t : Tok) (n : Int) (u : Tok) (r : ng w es m) : ng w (⟨PyData.keyHash w.params k, .str k t, .int n u⟩ :: es) ((k, n) :: m)
def gK (w : World) (K : PySem.W.Frag) (A : Addr) (m : List (Str × Int)) : Prop := ∃ es ep, List.lookup A K = some ⟨.type "dict", none, .dict es ep, #[]⟩ /\ (A == sysModules) = false /\ ng w es.toList m /\ (m.map (·.1)).Nodup
def yH (m : List (Str × Int)) (k : Str) : Option Int := (m.find? fun p => decide (p.1 = k)).map (·.2)
theorem ng.keys {P : Program} {w : World} : ∀ {es : List DictEntry} {m : List (Str × Int)}, ng w es m -> ∀ e ∈ es, ∃ k, (eB P w).is k e.key = true /\ e.hash = (eB P w).hash k
 | _, _, .cons k t n u r, e, he => by
   rcases List.mem_cons.mp he with rfl | he
   . exact ⟨.inr k, by show lj (.inr k) (.str k t) = true; simp [lj, Value.isStrOf], rfl⟩
   . exact r.keys e he
theorem ng.pairs {P : Program} {w : World} : ∀ {es : List DictEntry} {m : List (Str × Int)}, ng w es m -> ∃ vs : List (Key × Value), Pairs (eB P w) es vs /\ vs.map (·.1) = m.map (fun p => Sum.inr p.1) /\ KV (m.map fun p => ((Sum.inr p.1 : Key), V.int p.2)) vs
 | _, _, .nil => ⟨[], .nil, rfl, .nil⟩
 | _, _, .cons k t n u r => by
   obtain ⟨vs, a, b, c⟩ := r.pairs (P := P)
   exact ⟨(.inr k, .int n u) :: vs, .cons (by show lj (.inr k) (.str k t) = true; simp [lj, Value.isStrOf]) rfl a, by simp [b], .cons ⟨rfl, u, rfl⟩ c⟩
theorem ui (m : List (Str × Int)) (k : Str) : ug (m.map fun p => ((Sum.inr p.1 : Key), V.int p.2)) (.inr k) = (yH m k).map V.int := by
 induction m with
 | nil => rfl
 | cons p m ih =>
   unfold yH ug at *
   rw [List.map_cons, List.find?_cons, List.find?_cons]
   by_cases e : p.1 = k
   . simp [e]
   . have e2 : ¬ (Sum.inr p.1 : Key) = Sum.inr k := fun z => e (by injection z)
     rw [decide_eq_false e, decide_eq_false e2]
     exact ih
theorem gK.at {X : Cx} {pins : List (Addr × Obj)} {σ : St} {H : Hp} {s : Shared} {A : Addr} {m : List (Str × Int)} (g : gK X.w X.K A m) (I : Inv X pins σ H s) : (A == sysModules) = false /\ ∃ vs, KV (m.map fun p => ((Sum.inr p.1 : Key), V.int p.2)) vs /\ s.heap.DictOf (eB X.prog X.w) A vs := by
 obtain ⟨es, ep, e1, e2, e3, e4⟩ := g
 obtain ⟨vs, a, b, c⟩ := e3.pairs (P := X.prog)
 refine ⟨e2, vs, c, _, es, ep, I.bk _ _ (I.mod.Bh _ _ e1), ⟨rfl, rfl, rfl⟩, rfl, fun e he => e3.keys e (by simpa using he), a, ?_⟩
 have : vs.map (fun x => x.1) = (m.map (·.1)).map Sum.inr := by rw [b, List.map_map]; rfl
 rw [this]
 exact List.Pairwise.map _ (fun _ _ z y => z (by injection y)) e4
def Bn (A : Addr) (m : List (Str × Int)) (x y : V) (H : Hp) (Q : VK) : Prop := ∃ k, x = .ref A /\ y = .str k /\ Q (.bl (yH m k).isSome) H
def Ay (A : Addr) (m : List (Str × Int)) (x y : V) (H : Hp) (Q : VK) : Prop := ∃ k n, x = .ref A /\ y = .str k /\ yH m k = some n /\ Q (.int n) H
def Ja (A : Addr) (m : List (Str × Int)) (ty td : TE) : TE := fun σ H Q => ty σ H fun y H1 => td σ H1 fun x H2 => Bn A m x y H2 Q
def DZ (A : Addr) (m : List (Str × Int)) (td ty : TE) : TE := fun σ H Q => td σ H fun x H1 => ty σ H1 fun y H2 => Ay A m x y H2 Q
section
variable {X : Cx} {o i : Expr} {pos : Pos} {td ty : TE} {A : Addr} {m : List (Str × Int)}
theorem Ey (hG : gK X.w X.K A m) (hi : PE X i ty) (ho : PE X o td) : PC X .In i o (Ja A m ty td) := by
 intro pins s σ H Q I h
 refine bP (hi pins s σ H _ I h) fun iv s1 ⟨y, H1, I1, ry, q1⟩ => bP (ho pins s1 σ H1 _ I1 q1) fun u s2 ⟨x, H2, I2, rx, k, ex, ey, q2⟩ => ?_
 subst ex
 subst ey
 obtain rfl : u = Value.ref A := rx
 obtain ⟨hd, vs, rel, dd⟩ := hG.at I2
 refine wpAny_in_of (Ea (k := .inr k) ry) hd dd.mapOf ?_
 rw [<- (rel.val (.inr k)).xI, ui, Option.isSome_map]
 exact ⟨.bl _, H2, I2.tok _, rfl, q2⟩
theorem C9 (hG : gK X.w X.K A m) (ho : PE X o td) (hi : PE X i ty) (hs : IY i) : PE X (.Subscript o i pos) (DZ A m td ty) := by
 intro pins s σ H Q I h
 refine Bs PySem.F.slot_dict_getitem.lookup hs (bP (ho pins s σ H _ I h) fun u s1 ⟨x, H1, I1, rx, q1⟩ => bP (hi pins s1 σ H1 _ I1 q1) fun iv s2 ⟨y, H2, I2, ry, k, n, ex, ey, l, q2⟩ => ?_)
 subst ex
 subst ey
 obtain rfl : u = Value.ref A := rx
 obtain ⟨hd, vs, rel, dd⟩ := hG.at I2
 obtain ⟨w', hw, HA⟩ := my.some_of (v := .int n) (o := valueAt vs (.inr k)) (by
  have z := rel.val (.inr k)
  rw [ui, l] at z
  exact z)
 exact ⟨dd.typeIs, wpAny_getItem_of (Ea (k := .inr k) ry) dd.mapOf hw ⟨.int n, H2, I2.tok _, HA, q2⟩⟩
end
section
variable {σ : St} {H : Hp} {Q : VK} {A : Addr} {m : List (Str × Int)}
theorem FO {ty td : TE} (h : ty σ H fun y H1 => td σ H1 fun x H2 => Bn A m x y H2 Q) : Ja A m ty td σ H Q := h
theorem Bo {ty td : TE} (h : td σ H fun x H1 => ty σ H1 fun y H2 => Ay A m x y H2 Q) : DZ A m td ty σ H Q := h
theorem Jy {k : Str} {n : Int} (hk : yH m k = some n) (h : Q (.bl true) H) : Bn A m (.ref A) (.str k) H Q := ⟨k, rfl, rfl, by rw [hk]; exact h⟩
theorem FZ {k : Str} (hk : yH m k = none) (h : Q (.bl false) H) : Bn A m (.ref A) (.str k) H Q := ⟨k, rfl, rfl, by rw [hk]; exact h⟩
theorem Ft {k : Str} {n : Int} (hk : yH m k = some n) (h : Q (.int n) H) : Ay A m (.ref A) (.str k) H Q := ⟨k, n, rfl, rfl, hk, h⟩
end
theorem Ij {w : World} {K : PySem.W.Frag} {h : Heap} {mg : Str -> Option Value} {A : Addr} {es : Array DictEntry} {ep : Nat} {m : List (Str × Int)} {x : Str} (X : K.In h) (G : h.Ns mainGlobals mg) (h0 : PySem.W.nsIn K mainGlobals x = some (some (.ref A)))
 (h1 : List.lookup A K = some ⟨.type "dict", none, .dict es ep, #[]⟩) (h2 : (A == sysModules) = false) (h3 : ng w es.toList m) (h4 : (m.map (·.1)).Nodup) : ∃ A, mg x = some (.ref A) /\ gK w K A m := ⟨A, PySem.W.mg_of X G h0, es, ep, h1, h2, h3, h4⟩
section
variable {H : Hp} {Q : VK} {K : PySem.W.Frag} {p : Addr} {ds : List PyData}
theorem Gx (xs : List V) (h : 1 <= xs.length) : sd xs (some 1) (some (-1)) = (xs.drop 1).take (xs.length - 2) := by
 have h1 : HT.fN xs.length 0 (some 1) = 1 := by
  simp only [HT.fN]
  rw [if_neg (by omega)]
  omega
 have h2 : HT.fN xs.length xs.length (some (-1)) = xs.length - 1 := by
  simp only [HT.fN]
  rw [if_pos (by omega)]
  omega
 show (xs.drop (HT.fN xs.length 0 (some 1))).take (HT.fN xs.length xs.length (some (-1)) - HT.fN xs.length 0 (some 1)) = _
 rw [h1, h2]
 congr 1
theorem vt (hp : dn H p ds) (h1 : 1 <= ds.length) (k : ∀ q H', ao H H' -> H q = none -> dn H' q ((ds.drop 1).take (ds.length - 2)) -> Q (.ref q) H') : tZ K (.ref p) (some 1) (some (-1)) H Q := by
 obtain ⟨xs, e, dv, im⟩ := hp
 refine ⟨p, xs, rfl, fW.of e, fun q hq => ?_⟩
 have hl := dv.length
 rw [Gx xs (by omega), hl]
 exact k q _ (bD hq) hq (iz hq ((dv.drop 1).take _) (jx _ (jA 1 im)))
end
def FW (h : Heap) (a T : Addr) (c : Value) (od : Option Addr) : Prop := ∃ oe vs oT ts v, h.get? a = some oe /\ oe.cls = c /\ oe.dict = od /\ oe.data = .fields vs /\ vs[1]? = some (.ref T) /\ T ≠ a /\ h.get? T = some oT /\ oT.data = .fields ts /\ ts[3]? = some v /\ vs[2]? = some .none
section
variable {M : Model} {A : Around} {E : Value -> Shared -> Prop} {s : Shared} {env : Env} {outer : List Env} {L a T : Addr} {c : Value} {od : Option Addr} {base : Heap} {Q : Unit -> Shared -> Prop}
theorem yg {oe : Obj} {vs : Array Value} {head : Value} {Gy : Bool} (oB : A.frames = some (env :: outer)) (hl : s.heap.FunFrames base (env :: outer)) (hf : env.frame = some L) (he : s.heap.get? a = some oe) (Av : oe.dict = od) (hd : oe.data = .fields vs) (hsz : 1 < vs.size) (Dh : vs[2]? = some .none)
 (h : ∀ h' T', FW h' a T' oe.cls od -> s.heap.get? T' = none -> Lv (env :: outer) [a] s.heap h' -> Q () { s with heap := h' }) :
 wpAny M A (do let x <- frameOf env; let pl <- entryPlaceOf L Gy; let b <- EntryCells.newEntry head x .none (rawInt L) .none pl; setField (.ref a) 1 b) Q E s := by
 have vL : a ∉ j3 (env :: outer) := fun m => by
  obtain ⟨_, o, ho, hn⟩ := hl.mem m
  rw [he] at ho
  cases ho
  exact hn vs hd
 refine wpAny_bind (wpAny_frameOf_fun oB hl hf fun h1 s1 => ?_)
 refine wpAny_bind (wpAny_entryPlaceOf fun pl kH => ?_)
 unfold EntryCells.newEntry newFields
 refine wpAny_bind (wpAny_newObj_type ?_ (kH.sizeOk5 _ _ _ _ _))
 have e1 : h1.get? a = some oe := (s1.2.1 a vL).trans he
 let tb : Obj := { cls := .type "traceback", dict := none, data := .fields ([head, .ref L, .none, rawInt L, .none] ++ (if pl.isEmpty then List.replicate 6 Value.none else pl)).toArray }
 have e2 : (h1.push tb).get? a = some oe := Heap.get?_push_of_some _ e1
 refine wpAny_setField e2 hd hsz ?_
 have ye : h1.objs.size ≠ a := Ne.symm (Nat.ne_of_lt (Heap.lt_size e1))
 have d3 := Obj.data_mapFields hd (·.setIfInBounds 1 (Value.ref h1.objs.size))
 have e3 := Heap.get?_update_self (Obj.mapFields (·.setIfInBounds 1 (Value.ref h1.objs.size))) e2 (Obj.isFreed_of_fields d3)
 have t3 : ((h1.push tb).update a (Obj.mapFields (·.setIfInBounds 1 (Value.ref h1.objs.size)))).get? h1.objs.size = some tb := (Heap.get?_update_other _ _ (Ne.symm ye)).trans (Heap.get?_push_size h1 rfl)
 refine h _ h1.objs.size ?_ ?_ ?_
 . refine ⟨_, _, _, _, rawInt L, e3, Obj.cls_mapFields _ _, ?_, d3, by simp [hsz], ye, t3, rfl, by simp, by rw [Array.getElem?_setIfInBounds_ne (by decide)]; exact Dh⟩
   obtain ⟨c0, d0, Fm, L6⟩ := oe
   cases Fm <;> first | exact Av | (cases hd)
 . cases q : s.heap.get? h1.objs.size with
   | none => rfl
   | some o =>
     obtain ⟨sl, z⟩ := s1.2.2 _ o q
     exact absurd (Heap.lt_size z) (Nat.lt_irrefl _)
 . have kp : ∀ b o, b ≠ a -> h1.get? b = some o -> ((h1.push tb).update a (Obj.mapFields (·.setIfInBounds 1 (Value.ref h1.objs.size)))).get? b = some o := fun b o hb q => by
    rw [Heap.get?_update_other _ _ (Ne.symm hb)]
    exact Heap.get?_push_of_some _ q
   refine ⟨fun b o n1 n2 q => kp b o (by simpa using n2) ((s1.2.1 b n1).trans q), fun b o m q => ?_⟩
   obtain ⟨sl, z⟩ := s1.2.2 b o q
   exact ⟨sl, kp b _ (fun z => vL (z ▸ m)) z⟩
theorem tM (oB : A.frames = some (env :: outer)) (hl : s.heap.FunFrames base (env :: outer)) (hf : env.frame = some L) (ht : uK s.heap a T c od)
 (h : ∀ h' T', FW h' a T' c od -> (T' = T \/ s.heap.get? T' = none) -> Lv (env :: outer) [a, T] s.heap h' -> Q () { s with heap := h' }) : wpAny M A (noteFrame (.ref a) env) Q E s := by
 obtain ⟨oe, vs, oT, ts, e1, rfl, e3, e4, e5, e6, e7, e8, e9, qY⟩ := ht
 unfold noteFrame
 simp only [hf]
 refine wpAny_bind (wpAny_field e1 e4 e5 ?_)
 rw [if_pos (show (Value.ref T != Value.none) = true from by simp)]
 refine wpAny_bind (wpAny_field e7 e8 e9 ?_)
 rw [if_neg (show ¬ ((Value.none == rawInt L) = true) from by simp [rawInt])]
 refine wpAny_bind (wpAny_setField e7 e8 (Array.getElem?_eq_some_iff.mp e9).1 ?_)
 have kg : ∀ b, b ≠ T -> (s.heap.update T (Obj.mapFields (·.setIfInBounds 3 Value.none))).get? b = s.heap.get? b := fun b hb => Heap.get?_update_other _ _ (Ne.symm hb)
 have nT : ∀ b o, s.heap.get? b = some o -> (∀ vs, o.data ≠ .fields vs) -> b ≠ T := fun b o hb hn z => by
  rw [z, e7] at hb
  cases hb
  exact hn ts e8
 refine yg (s := { s with heap := s.heap.update T (Obj.mapFields (·.setIfInBounds 3 Value.none)) }) oB (hl.of_keeps fun b o hb hn => ⟨o, (kg b (nT b o hb hn)).trans hb, rfl⟩) hf ((kg a (Ne.symm e6)).trans e1) e3 e4 (Array.getElem?_eq_some_iff.mp e5).1 qY fun h' T' t1 t2 lv => h h' T' t1 ?_ ⟨fun b o n1 n2 q => ?_, fun b o m q => ?_⟩
 . by_cases z : T' = T
   . exact .inl z
   . exact .inr ((kg T' z).symm.trans t2)
 . have : b ≠ a /\ b ≠ T := by simpa using n2
   exact lv.keep b o n1 (by simpa using this.1) ((kg b this.2).trans q)
 . obtain ⟨_, o', q', hn⟩ := hl.mem m
   rw [q] at q'
   cases q'
   exact lv.slot b o m ((kg b (nT b o q hn)).trans q)
theorem vV (oB : A.frames = some (env :: outer)) (hl : s.heap.FunFrames base (env :: outer)) (hf : env.frame = some L) (ht : FW s.heap a T c od)
 (h : ∀ h' T', uK h' a T' c od -> (T' = T \/ s.heap.get? T' = none) -> Lv (env :: outer) [a, T] s.heap h' -> Q () { s with heap := h' }) : wpAny M A (noteFrame (.ref a) env) (fun _ s' => wpAny M A (setFlight (.ref a) none) Q E s') E s := by
 obtain ⟨oe, vs, oT, ts, v, e1, rfl, e3, e4, e5, e6, e7, e8, e9, qY⟩ := ht
 unfold noteFrame
 simp only [hf]
 refine wpAny_bind (wpAny_field e1 e4 e5 ?_)
 rw [if_pos (show (Value.ref T != Value.none) = true from by simp)]
 refine wpAny_bind (wpAny_field e7 e8 e9 ?_)
 by_cases hv : (v == rawInt L) = true
 . rw [if_pos hv]
   have hz := (Array.getElem?_eq_some_iff.mp e9).1
   have tr : ∀ b, b ≠ T -> (s.heap.update T (Obj.mapFields (·.setIfInBounds 3 Value.none))).get? b = s.heap.get? b := fun b hb => Heap.get?_update_other _ _ (Ne.symm hb)
   refine wpAny_pure (wpAny_setFlight_none e1 e4 e5 e7 e8 hz (h _ T ⟨oe, vs, _, _, (tr a (Ne.symm e6)).trans e1, rfl, e3, e4, e5, e6, Heap.get?_update_self _ e7 (Obj.isFreed_of_fields (Obj.data_mapFields e8 _)), Obj.data_mapFields e8 _, by simp [hz], qY⟩ (.inl rfl) ⟨fun b o n1 n2 q => (tr b (by simp at n2; exact n2.2)).trans q, fun b o m q => ?_⟩))
   obtain ⟨_, o', q', hn⟩ := hl.mem m
   rw [q] at q'
   cases q'
   exact ⟨o.slots, (tr b (fun z => by rw [z, e7] at q; cases q; exact hn ts e8)).trans q⟩
 rw [if_neg hv]
 refine wpAny_bind (wpAny_setField e7 e8 (Array.getElem?_eq_some_iff.mp e9).1 ?_)
 have kg : ∀ b, b ≠ T -> (s.heap.update T (Obj.mapFields (·.setIfInBounds 3 Value.none))).get? b = s.heap.get? b := fun b hb => Heap.get?_update_other _ _ (Ne.symm hb)
 have nT : ∀ b o, s.heap.get? b = some o -> (∀ vs, o.data ≠ .fields vs) -> b ≠ T := fun b o hb hn z => by
  rw [z, e7] at hb
  cases hb
  exact hn ts e8
 refine nP (s := { s with heap := s.heap.update T (Obj.mapFields (·.setIfInBounds 3 Value.none)) }) oB (hl.of_keeps fun b o hb hn => ⟨o, (kg b (nT b o hb hn)).trans hb, rfl⟩) hf ((kg a (Ne.symm e6)).trans e1) e3 e4 (Array.getElem?_eq_some_iff.mp e5).1 qY fun h' T' t1 t2 lv => h h' T' t1 ?_ ⟨fun b o n1 n2 q => ?_, fun b o m q => ?_⟩
 . by_cases z : T' = T
   . exact .inl z
   . exact .inr ((kg T' z).symm.trans t2)
 . have : b ≠ a /\ b ≠ T := by simpa using n2
   exact lv.keep b o n1 (by simpa using this.1) ((kg b this.2).trans q)
 . obtain ⟨_, o', q', hn⟩ := hl.mem m
   rw [q] at q'
   cases q'
   exact lv.slot b o m ((kg b (nT b o q hn)).trans q)
theorem zH {α : Type} {pW : Env} {KR : String} {R : α -> Shared -> Prop} (ht : FW s.heap a T c od) (h : ∀ h', FW h' a T c od -> (∀ b o, b ≠ T -> s.heap.get? b = some o -> h'.get? b = some o) -> E (.ref a) { s with heap := h' }) : wpAny M A (PySem.passOn KR (.ref a) pW : Sem α) R E s := by
 obtain ⟨oe, vs, oT, ts, v, e1, rfl, e3, e4, e5, e6, e7, e8, e9, qY⟩ := ht
 have hz := (Array.getElem?_eq_some_iff.mp e9).1
 unfold PySem.passOn
 refine wpAny_bind (wpAny_field e1 e4 e5 ?_)
 rw [if_neg (show ¬ ((Value.ref T == Value.none) = true) from by simp)]
 refine wpAny_bind ?_
 unfold setFlight
 refine wpAny_bind (wpAny_field e1 e4 e5 ?_)
 rw [if_pos (show (Value.ref T != Value.none) = true from by simp)]
 refine wpAny_setField e7 e8 hz (wpAny_throw (h _ ⟨oe, vs, _, _, _, (Heap.get?_update_other _ _ e6).trans e1, rfl, e3, e4, e5, e6, Heap.get?_update_self _ e7 (Obj.isFreed_of_fields (Obj.data_mapFields e8 _)), Obj.data_mapFields e8 _, by simp [hz]; rfl, qY⟩ fun b o hb q => (Heap.get?_update_other _ _ (Ne.symm hb)).trans q))
end
theorem tY {prog : Program} {w : World} {A : Around} {R : Result -> Shared -> Prop} {s : Shared} {elt target iter : Expr} {ifs : List Expr} {scope : Scope} {pos : Pos} {it acc : Value} {env : Env} (I : Nat -> Shared -> Prop)
 (turn : ∀ n s, I n s -> wpAny (model prog w) A (pyNext it) (fun r s₁ => match r with
  | none => R (.ok .next) s₁
  | some v => wpAny (model prog w) A (letOwnedTupleGo target it v) (fun _ tS => wpAny (model prog w) A (assign target env v) (fun _ s₂ =>
   wpAny (model prog w) A (forIn ifs true fun c r => if r = true then do let ok <- isTrue c env (eval c env); pure (ForInStep.yield ok) else pure (ForInStep.yield r)) (fun ok s₃ =>
    if ok = true then wpAny (model prog w) A (eval elt env) (fun x s₄ =>
     wpAny (model prog w) A (call (.builtin "list.append") [acc, x]) (fun _ s₅ => ∃ m, m < n /\ I m s₅) (fun _ _ => False) s₄) (notedBy (model prog w) A env fun e s' => R (.error e) s') s₃
    else ∃ m, m < n /\ I m s₃) (fun _ _ => False) s₂) (fun _ _ => False) tS) (fun _ _ => False) s₁) (fun _ _ => False) s)
 (n : Nat) (h : I n s) :
 codeAny (model prog w) A (.compLoop (.ListComp elt [⟨target, iter, ifs, 0⟩] scope pos) 0 it acc env) R s := by
 refine codeAny_loop rfl I (fun n s hI => ?_) n h
 show wpAny _ A ((compTurn (.ListComp elt [⟨target, iter, ifs, 0⟩] scope pos) 0 it acc env).onRaise (fun x => do noteFrame x env; theTreesLotGoes x)) _ _ s
 refine wpAny_noted ?_
 rw [compTurn_list]
 refine wpAny_bind (wpAny_standAt (wpAny_bind (wpAny_mono (turn n s hI) (fun r s₁ h₁ => ?_) fun _ _ h' => h'.elim)))
 cases r with
 | none => exact wpAny_pure h₁
 | some v =>
   refine wpAny_bind (wpAny_mono h₁ (fun _ tS zQ => ?_) fun _ _ h' => h'.elim)
   refine wpAny_bind (wpAny_mono zQ (fun _ s₂ h₂ => wpAny_bind (wpAny_mono h₂ (fun ok s₃ h₃ => ?_) fun _ _ h' => h'.elim)) fun _ _ h' => h'.elim)
   cases ok with
   | false => exact wpAny_pure ⟨rfl, h₃⟩
   | true =>
     exact wpAny_bind (wpAny_bind (wpAny_mono h₃ (fun x s₄ h₄ => wpAny_bind (wpAny_mono h₄ (fun _ s₅ h₅ => wpAny_pure (wpAny_pure ⟨rfl, h₅⟩)) fun _ _ h' => h'.elim)) fun _ _ h' => h'))
def y7 (X : Cx) (E : XK) : Prop := ∀ (pins : List (Addr × Obj)) (σ : St) (H : Hp) (s : Shared) (fp : List Addr) (a T C : Addr) (od : Option Addr) (H' : Hp) (s' : Shared), Inv X pins σ H s -> (∀ b ∈ fp, j9 X pins H b) -> s'.os = s.os -> AllBare s'.gens ->
 Un (j3 X.stack) fp H H' s.heap s'.heap -> lS X.prog X.w H' s'.heap -> FW s'.heap a T (.ref C) od -> X.cJ.heap.get? a = none -> X.cJ.heap.get? T = none -> H' a = none -> H' T = none -> E (.ref C) od H' -> X.xe (.ref a) s'
section
variable {P : Program} {w : World} {K : PySem.W.Frag} {mg : Str -> Option Value} {base : Heap} {N : List Str} {qual : Str} {scope : Scope} {f : Addr} {cd : Value} {A : Around} {outer : List Env} {s0 : Shared} {H0 : Hp} {E : XK}
theorem Ei : y7 (gD (nO P w) P w K mg base N qual scope f cd A outer s0 H0 E) E := by
 intro pins σ H s fp a T C od H' s' I hf os bare un bf tr na nT ha hT hE
 have I' := I.qp (ch := fp) os un bf bare (fun b hb => ⟨(hf b hb).2.2.2.1, (hf b hb).2.1, (hf b hb).2.2.2.2.1, (hf b hb).2.2.2.2.2⟩)
 show wpAny _ _ (leaving _ (.ref a)) _ _ s'
 refine wpAny_bind (vV (base := base) I'.ok.frames I'.stack rfl tr fun h2 T2 Bg wB lv => ?_)
 have d' : s'.heap.get? T2 = none -> s0.heap.get? T2 = none := fun z => by
  cases q : s0.heap.get? T2 with
  | none => rfl
  | some o =>
    obtain ⟨o2, z2⟩ := I'.base.there T2 o q (by intro y; cases y)
    rw [z] at z2
    cases z2
 refine p7 I' lv (fun b hb => ?_) Bg ha ?_ na ?_ hE
 . have : b = a \/ b = T := by simpa using hb
   rcases this with rfl | rfl
   . exact ⟨ha, na⟩
   . exact ⟨hT, nT⟩
 . rcases wB with rfl | z
   . exact hT
   . exact I'.bf.dead z
 . rcases wB with rfl | z
   . exact nT
   . exact d' z
end
section
variable {X : Cx} {pins : List (Addr × Obj)} {σ : St} {H : Hp} {s : Shared} {T M : List Str} {scope : Scope} {cl : List (Str × Addr)} {fp : List Addr} {g : TG} {tc : TT} {te : TE} {tg elt iter : Expr} {ifs : List Expr} {pos : Pos} {EX : XK} {wi : TI}
theorem A1 {C : Addr} {pn : List (Addr × Obj)} {N : List Str} {use : Option (Value -> Sem Unit)} {Q : Value -> Shared -> Prop} {acc : Value} (tq : X.stack = X.env :: X.outer /\ X.env.frame = some X.env.locals /\ X.ex = []) (hP : y7 X EX) (I : Inv X pins σ H s) (hf : ∀ b ∈ fp, j9 X pins H b) (hC : s.heap.objs.size <= C) (Kr : ∀ b ∈ fp, ∃ o, (b, o) ∈ pn)
 (h1 : ∀ x c, cl.lookup x = some c -> X.env.cells.lookup x = some c) :
 cX (nO X.prog X.w) ((cm X N scope cl C s H fp).o9 (notedBy (model X.prog X.w) X.A (compEnvC scope cl C X.env) fun e s' => compPost (model X.prog X.w) X.A X.xe use Q acc C (.error e) s') pn) (fun _ => EX) := by
 intro pV σ' H1 s1 e s2 I1 ⟨a, T, Cc, od, H2, he, os, bare, un, bf, tr, na, nT, ha, hT, hE⟩
 subst he
 obtain ⟨Kk, J9, NP⟩ := tq
 have I2 := I1.qp (ch := []) os un bf bare (fun b z => nomatch z)
 have dead : ∀ b, s1.heap.get? b = none -> s.heap.get? b = none := fun b z => by
  cases q : s.heap.get? b with
  | none => rfl
  | some o =>
    by_cases hb : b ∈ fp
    . obtain ⟨o2, m⟩ := Kr b hb
      have := (I1.pin (b, o2) (List.mem_append_left _ m)).1
      rw [z] at this
      cases this
    . obtain ⟨o2, z2⟩ := I1.base.there b o q hb
      rw [z] at z2
      cases z2
 have DI : ∀ b, s.heap.get? b = none -> X.cJ.heap.get? b = none := fun b z => by
  cases q : X.cJ.heap.get? b with
  | none => rfl
  | some o =>
    obtain ⟨o2, z2⟩ := I.base.there b o q (by rw [NP]; intro y; cases y)
    rw [z] at z2
    cases z2
 have up : ∀ b o, s1.heap.get? b = some o -> ∃ o2, s2.heap.get? b = some o2 := fun b o e => un.there b o e (fun z => nomatch z)
 have LY : s2.heap.FunFrames X.base (X.env :: X.outer) := by rw [<- Kk]; exact I2.stack
 have oB : X.A.frames = some (X.env :: X.outer) := by rw [<- Kk]; exact I.ok.frames
 show wpAny (model X.prog X.w) X.A (noteFrame (.ref a) X.env) _ _ s2
 refine tM (base := X.base) oB LY J9 tr fun h3 T3 Bc G6 lv => ?_
 have nC : ∀ b, s1.heap.get? b = none -> b ≠ C := fun b z e => by
  obtain ⟨m, ⟨o, es, ep, ho, _⟩, _⟩ := I1.loc
  have oZ : s1.heap.get? C = some o := ho
  rw [e, oZ] at z
  cases z
 have NN : Lv X.stack [a, T] s2.heap h3 := by rw [Kk]; exact lv
 have I3 := I2.lv (h' := h3) (t' := s2.toks) NN (fun b hb => by
  have MI : b = a \/ b = T := by simpa using hb
  have nb : s1.heap.get? b = none := by rcases MI with rfl | rfl <;> assumption
  refine ⟨by rcases MI with rfl | rfl <;> assumption, dead b nb, nC b nb, fun x c e z => ?_, fun p hp z => ?_⟩
  . obtain ⟨v, o, ho, _⟩ := I1.cell x c e
    rw [z, nb] at ho
    cases ho
  . have := (I1.pin p hp).1
    rw [z, nb] at this
    cases this)
 obtain ⟨m3, n3, _⟩ := I3.loc
 have Kd : H2 T3 = none /\ s.heap.get? T3 = none := by
  rcases G6 with rfl | z
  . exact ⟨hT, dead _ nT⟩
  . refine ⟨I2.bf.dead z, dead _ ?_⟩
    cases q : s1.heap.get? T3 with
    | none => rfl
    | some o =>
      obtain ⟨o2, z2⟩ := up _ _ q
      rw [z] at z2
      cases z2
 have aC : a ≠ C := nC a na
 have Oa : T3 ≠ C := by
  rcases G6 with rfl | z
  . exact nC _ nT
  . intro e
    obtain ⟨m, ⟨o, es, ep, ho, _⟩, _⟩ := I2.loc
    have oZ : s2.heap.get? C = some o := ho
    rw [e, oZ] at z
    cases z
 have main : ∀ h', Heap.SameBut C h3 h' -> ∀ pW : Env, pW.locals = C -> wpAny (model X.prog X.w) X.A (PySem.passOn "comprehension.variables-let-go" (.ref a) pW : Sem Value) (fun _ _ => False) X.xe { s2 with heap := h' } := fun h' B7 pW _ => by
  have F2 : FW h' a T3 (.ref Cc) od := by
   obtain ⟨oe, vs, oT, ts, v, e1, e2, e3, e4, e5, e6, e7, e8, e9, qY⟩ := Bc
   exact ⟨oe, vs, oT, ts, v, (B7.2 a aC).trans e1, e2, e3, e4, e5, e6, (B7.2 T3 Oa).trans e7, e8, e9, qY⟩
  refine zH (s := { s2 with heap := h' }) F2 fun h5 JI kp => ?_
  have JK : ∀ b o, b ≠ C -> b ≠ T3 -> h3.get? b = some o -> h5.get? b = some o := fun b o n1 n2 e => kp b o n2 ((B7.2 b n1).trans e)
  have old : ∀ b o, s.heap.get? b = some o -> b ≠ C /\ b ≠ T3 := fun b o e => ⟨Nat.ne_of_lt (Nat.lt_of_lt_of_le (Heap.lt_size e) hC), fun z => by rw [z, Kd.2] at e; cases e⟩
  have U : Un (j3 X.stack) fp H H2 s.heap h3 := I3.base
  refine hP pins σ H s fp a T3 Cc od H2 _ I hf I3.os I3.bare ⟨fun b o e n hb hx => ?_, fun b o e n hb hx => ?_, U.free, fun b o e hx => ?_, U.j8, U.jB, U.lR⟩ (fun b u e => ?_) JI (DI _ (dead _ na)) (DI _ Kd.2) ha Kd.1 hE
  . exact JK b o (old b o e).1 (old b o e).2 (U.keep b o e n hb hx)
  . obtain ⟨sl, z⟩ := U.slot b o e n hb hx
    exact ⟨sl, JK b _ (old b o e).1 (old b o e).2 z⟩
  . obtain ⟨o2, z⟩ := U.there b o e hx
    exact ⟨o2, JK b _ (old b o e).1 (old b o e).2 z⟩
  . refine (I3.bf b u e).pe (fun c v hc q => ?_) (fun _ q => q) fun _ _ q => q
    have sq : H2 c ≠ none := by
     rcases hc with rfl | hc
     . rw [e]; intro z; cases z
     . rw [hc]; intro z; cases z
    exact JK c v (fun z => sq (z ▸ I3.free)) (fun z => sq (z ▸ Kd.1)) q
 cases use <;> exact ⟨m3, n3, main⟩
theorem Cd {it : Addr} {tn : Nat -> Heap -> Prop} {J : It} {RR : Value -> Addr -> Result -> Shared -> Prop} {Fin : List V -> Hp -> Prop} {E : Value -> Shared -> Prop} {EX : XK}
 (hN : fR X T M scope) (jm : X.calm = true) (h1 : ∀ x c, cl.lookup x = some c -> X.env.cells.lookup x = some c) (h2 : ∀ x ∈ scope.names, x.2 = .free -> ∃ c, cl.lookup x.1 = some c)
 (hg : ∀ cl C s H fp, PG (cm X (T ++ M) scope cl C s H fp) tg g) (Mh : ∀ v H Q, g v (List.replicate T.length none ++ σ) H Q -> g v (List.replicate T.length none ++ σ) H fun σ2 H2 => Q σ2 H2 /\ T.length + σ.length = σ2.length /\ σ2.drop T.length = σ)
 (hc : ∀ cl C s H fp, GO (cm X (T ++ M) scope cl C s H fp) ifs tc) (he : ∀ cl C s H fp xe pn, cX (nO X.prog X.w) ((cm X (T ++ M) scope cl C s H fp).o9 xe pn) (fun _ => EX) -> PE ((cm X (T ++ M) scope cl C s H fp).o9 xe pn) elt te)
 (hX : ∀ D C pn, s.heap.objs.size <= C -> (∀ b ∈ fp, ∃ o, (b, o) ∈ pn) -> cX (nO X.prog X.w) ((cm X (T ++ M) scope cl C s H fp).o9 (notedBy (model X.prog X.w) X.A (compEnvC scope cl C X.env) fun e s' => RR D C (.error e) s') pn) (fun _ => EX))
 (I : Inv X pins σ H s) (Tn : Turn X.prog X.w X.K tg J fp it tn) (st : tn 0 s.heap) (hf : ∀ b ∈ fp, j9 X pins H b) (hW : D2 T.length g tc te Fin σ J H)
 (hR : ∀ D C s' H' acc m, s.heap.objs.size <= D -> s.heap.objs.size <= C -> C ≠ D -> s'.heap.Ns C m -> H' C = none -> H' D = none -> Inv X pins σ (upd H' D (.lst acc)) s' -> Fin acc H' -> RR (.ref D) C (.ok .next) s') :
 wpAny (model X.prog X.w) X.A (newList []) (fun acc s₃ => wpAny (model X.prog X.w) X.A (newFunctionEnv scope X.env.globals cl [] X.env.qual none .none (some X.env)) (fun pW s₄ =>
  codeAny (model X.prog X.w) X.A (.compStart (.ListComp elt [⟨tg, iter, ifs, 0⟩] scope pos) 0 (.ref it) acc { pW with scope := relabel scope X.env }) (RR acc pW.locals) s₄) E s₃) E s := by
 refine wpAny_newObj_type (wpAny_newFunctionEnv hN.cell (by intro y hy; simp at hy) (fun h₁ lJ iM => ?_) hN.kind)
 dsimp only at lJ iM ⊢
 generalize Gm : s.heap.push { cls := .type "list", dict := none, data := .seq ([] : List Value).toArray } = H2 at lJ iM ⊢
 have hC : H2.objs.size = s.heap.objs.size + 1 := by rw [<- Gm, Heap.size_push]
 have BI : s.heap.objs.size ≠ H2.objs.size := by rw [hC]; exact Nat.ne_of_lt (Nat.lt_succ_self _)
 have uy : s.heap.objs.size <= H2.objs.size := by rw [hC]; exact Nat.le_succ _
 have BU : ∀ b ∈ fp, b < s.heap.objs.size := fun b hb => by obtain ⟨o, ho, _⟩ := Tn.obj _ _ st b hb; exact Heap.lt_size ho
 have old : ∀ b o, s.heap.get? b = some o -> h₁.get? b = some o := fun b o e => iM.extBut b o (Nat.ne_of_lt (Nat.lt_of_lt_of_le (Heap.lt_size e) uy)) (Heap.get?_push_of_some _ (Gm ▸ Heap.get?_push_of_some _ e))
 have iT : h₁.PlainList s.heap.objs.size #[] := ⟨_, iM.extBut _ _ BI (Heap.get?_push_of_some _ (Gm ▸ Heap.get?_push_size _ rfl))⟩
 generalize vN : s.heap.objs.size = D at *
 generalize HC : H2.objs.size = C at *
 have I0 : Inv (cm X (T ++ M) scope cl C s H fp) [] (List.replicate T.length none ++ σ) H { s with heap := h₁, toks := s.toks + ([] : List (Str × Value)).length } :=
  tD I hN h1 h2 (by rw [vN]; exact uy) hf (by rw [vN]; exact BU) lJ old
 have Ji : tn 0 h₁ := Tn.keep _ _ _ st fun b _ o e => old b o e
 obtain ⟨W, ⟨m0, w0⟩, turn⟩ := hW
 have IG : ∀ b ∈ fp, b ≠ D := fun b hb => Nat.ne_of_lt (BU b hb)
 have stat : ∀ {H' : Hp} {pl : List (Addr × Obj)}, (∀ b ∈ fp, H' b = none) -> (∀ p ∈ pl, p.1 = D) -> ∀ b ∈ fp, j9 (cm X (T ++ M) scope cl C s H fp) pl H' b := fun {H' pl} hn hp b hb => by
  have ok := I0.ok
  refine ⟨hn b hb, (ok.A9 b hb).1, ok.qS b hb, .inl hb, (ok.A9 b hb).2, fun p hq => ?_⟩
  have Ce : p ∈ pl := hq
  rw [hp p Ce]; exact Ne.symm (IG b hb)
 have loop : codeAny (model X.prog X.w) X.A (.compLoop (.ListComp elt [⟨tg, iter, ifs, 0⟩] scope pos) 0 (.ref it) (.ref D) (compEnvC scope cl C X.env)) (RR (.ref D) C) { s with heap := h₁, toks := s.toks + ([] : List (Str × Value)).length } := by
  refine tY (fun n s' => ∃ i acc H' aV, Inv (cm X (T ++ M) scope cl C s H fp) [] (List.replicate T.length none ++ σ) H' s' /\ tn i s'.heap /\ (∀ b ∈ fp, H' b = none) /\ s'.heap.PlainList D aV /\ H' D = none /\ Vals acc aV.toList /\ acc.length <= sizeLine /\ W i n acc H') ?_ m0
   ⟨0, [], H, #[], I0, Ji, fun b hb => (hf b hb).1, iT, I.bf.fresh (by rw [vN]; exact Nat.le_refl _), .nil, Nat.zero_le _, w0⟩
  rintro n s3 ⟨i, acc, H3, aV, I3, DE, D3, ⟨nn, ho⟩, EI, hv, hlen, w3⟩
  have Fq : ∀ {H'} {s'} {σ'} {o : Obj}, Inv (cm X (T ++ M) scope cl C s H fp) [] σ' H' s' -> s'.heap.get? D = some o -> (∀ v, o.data ≠ .cell v) -> H' D = none -> Inv (cm X (T ++ M) scope cl C s H fp) [(D, o)] σ' H' s' := fun {H' s' σ' o} I' e d hn => by
   refine I'.gb fun p hp => ?_
   have e' : p = (D, o) := by simpa using hp
   subst e'
   refine ⟨e, hn, BI, fun z => ?_, d⟩
   have z' : D ∈ j3 X.stack := z
   obtain ⟨_, o', oZ, _⟩ := I.stack.mem z'
   exact absurd (Heap.lt_size oZ) (by rw [vN]; exact Nat.lt_irrefl _)
  have Js := Fq I3 ho (fun v z => by cases z) EI
  rcases turn i n acc H3 w3 with ⟨stop, fin⟩ | ⟨go, hl, step⟩
  . refine bP (Tn.done (cm X (T ++ M) scope cl C s H fp) rfl rfl rfl jm i _ s3 _ H3 _ Js (stat D3 (by simp)) DE stop) fun r s4 ⟨hr, I4⟩ => ?_
    subst hr
    have e4 := (I4.pin (D, _) (List.mem_append_right _ List.mem_cons_self)).1
    have FY : Inv (cm X (T ++ M) scope cl C s H fp) [] (List.replicate T.length none ++ σ) H3 s4 := I4.gb fun p hp => nomatch hp
    obtain ⟨m4, n4, _⟩ := FY.loc
    exact hR D C s4 H3 acc m4 (Nat.le_refl _) uy (Ne.symm BI) n4 FY.free EI (wL I FY hf (by rw [vN]; exact Nat.le_refl _) EI hlen hv (by simpa using e4)) fin
  . refine bP (Tn.item (cm X (T ++ M) scope cl C s H fp) rfl rfl rfl jm i _ s3 _ H3 _ Js (stat D3 (by simp)) DE go) fun r s4 ⟨u, hr, h4⟩ => ?_
    subst hr
    refine bP h4 fun _ s5 ⟨x, H5, I5, r5, y5, yM, IU⟩ => ?_
    have Jb := I5.pinned (stat IU (by simp)) (Tn.obj _ _ yM)
    refine bP (hg _ _ _ _ _ _ s5 _ H5 x u _ Jb r5 (Mh _ _ _ (step x H5 y5))) fun _ s6 ⟨σ6, H6, I6, q6, Ks, K8⟩ => ?_
    refine bP (hc _ _ _ _ _ _ s6 σ6 H6 _ I6 q6) fun b s7 ⟨H7, I7, q7⟩ => ?_
    have rest : ∀ {s8 : Shared} {H8 : Hp}, Inv (cm X (T ++ M) scope cl C s H fp) ([(D, _)] ++ lI fp s5.heap) σ6 H8 s8 -> tn (i + 1) s8.heap /\ (∀ b ∈ fp, H8 b = none) /\ s8.heap.PlainList D aV /\ H8 D = none /\ Inv (cm X (T ++ M) scope cl C s H fp) [] (List.replicate T.length none ++ σ) H8 s8 := fun {s8 H8} I8 => by
     refine ⟨Tn.keep _ _ _ yM fun b hb o e => (I8.pin (b, o) (List.mem_append_right _ (List.mem_append_right _ (dF hb e)))).1, fun b hb => ?_, ⟨nn, (I8.pin (D, _) (List.mem_append_right _ (List.mem_append_left _ List.mem_cons_self))).1⟩, (I8.pin (D, _) (List.mem_append_right _ (List.mem_append_left _ List.mem_cons_self))).2.1, (I8.forget T.length Ks K8).gb fun p hp => nomatch hp⟩
     obtain ⟨o, e, d⟩ := Tn.obj _ _ yM b hb
     exact (I8.pin (b, o) (List.mem_append_right _ (List.mem_append_right _ (dF hb e)))).2.1
    cases b with
    | false =>
      obtain ⟨m', hm, w7⟩ := q7
      obtain ⟨a1, a2, a3, a4, a5⟩ := rest I7
      exact ⟨m', hm, i + 1, acc, H7, aV, a5, a1, a2, a3, a4, hv, hlen, w7⟩
    | true =>
      refine bP (he _ _ _ _ _ _ _ (hX (.ref D) C ([(D, _)] ++ lI fp s5.heap) uy fun b hb => (Tn.obj _ _ yM b hb).elim fun o e => ⟨o, List.mem_append_right _ (dF hb e.1)⟩) [] s7 σ6 H7 _ I7.AQ q7) fun y s8 ⟨yv, H8, N4, r8, m', hm, w8⟩ => ?_
      have I8 := N4.gW
      obtain ⟨a1, a2, a3, a4, a5⟩ := rest I8
      have hsz : aV.size <= sizeLine := by have := hv.length; simp at this; omega
      refine wpAny_list_append_plain (hsz := hsz) a3 fun h9 Md Ie => ?_
      refine ⟨m', hm, i + 1, acc ++ [yv], H8, aV.push y, ?_, ?_, a2, Md, a4, ?_, by simp; omega, w8⟩
      . exact a5.turned (t' := s8.toks) (it := D) (fun b o hb e => (Ie.2 b hb).trans e) a4 BI (.inr (by show s.heap.objs.size <= D; rw [vN]; exact Nat.le_refl _)) (fun x c e z => by
         obtain ⟨v, o, ho, _⟩ := I.cell x c (h1 x c e)
         exact absurd (Heap.lt_size ho) (by rw [vN, z]; exact Nat.lt_irrefl _)) (fun p hp => nomatch hp)
      . exact Tn.keep _ _ _ a1 fun b hb o e => (Ie.2 b (IG b hb)).trans e
      . simpa using Vals.append hv (.cons r8 .nil)
 exact codeAny_compStart_list loop (Tn.self _ _ _ _ _ Ji loop)
theorem yY (hN : fR X T M scope) (jm : X.calm = true) (hi : PI X tg iter wi) (hg : ∀ cl C s H fp, PG (cm X (T ++ M) scope cl C s H fp) tg g) (Jl : Bw T.length g)
 (hc : ∀ cl C s H fp, GO (cm X (T ++ M) scope cl C s H fp) ifs tc) (tq : X.stack = X.env :: X.outer /\ X.env.frame = some X.env.locals /\ X.ex = []) (hP : y7 X EX)
 (he : ∀ cl C s H fp xe pn, cX (nO X.prog X.w) ((cm X (T ++ M) scope cl C s H fp).o9 xe pn) (fun _ => EX) -> PE ((cm X (T ++ M) scope cl C s H fp).o9 xe pn) elt te)
 (hs : ∀ x, foldedSetIterable iter X.env x = pure x := by intro _; rfl) : PE X (.ListComp elt [⟨tg, iter, ifs, 0⟩] scope pos) (GX T.length wi g tc te) := by
 intro pins s σ H Q I h
 obtain ⟨cl, Ec, h1, h2⟩ := lE (scope := scope) (env := X.env) fun x hx hf => I.ok.has x.1 (hN.free x hx hf)
 rw [eval_ListComp]
 refine wpAny_comprehension_free (use := none) rfl hs Ec hN.kind hN.names (bP (hi pins s σ H _ I h) fun xv s1 Hf => bP Hf fun H9 s2 Hw => ?_)
 obtain ⟨it, fp, tn, J, H2, e, I2, Tn, st, hf, hW⟩ := Hw
 subst e
 refine Cd (RR := fun acc C => compPost (model X.prog X.w) X.A X.xe none (EP X pins σ Q) acc C) hN jm h1 h2 hg (fun v H Q q => ?_) hc he (fun D C pn hC Kr => A1 tq hP I2 hf hC Kr h1) I2 Tn st hf hW ?_
 . have := Jl v (List.replicate T.length none) σ H Q (by simp) q
   refine (by
    have e : (fun (σ2 : St) (H2 : Hp) => Q σ2 H2 /\ T.length + σ.length = σ2.length /\ σ2.drop T.length = σ) = fun σ2 H2 => Q σ2 H2 /\ ∃ τ' : St, τ'.length = T.length /\ σ2 = τ' ++ σ := by
     funext σ2 H2
     refine propext ⟨fun ⟨a, b, c⟩ => ⟨a, σ2.take T.length, by rw [List.length_take]; omega, by rw [<- c, List.take_append_drop]⟩, fun ⟨a, τ', b, c⟩ => ⟨a, by rw [c, List.length_append, b], by rw [c, <- b, List.drop_left]⟩⟩
    rw [e]; exact this)
 . intro D C s' H' acc m hD hC j6 hn IQ Jm Ib fin
   refine ⟨m, hn, fun h' B7 => ⟨.ref D, _, ?_, rfl, fin D Jm⟩⟩
   exact Ib.turned (t' := s'.toks) (it := C) (fun b o hb e => (B7.2 b hb).trans e) (by rw [aK j6]; exact IQ) (Nat.ne_of_gt (Nat.lt_of_lt_of_le I2.lt hC)) (.inr (Nat.le_trans I2.sz hC)) (fun x c e z => by
    obtain ⟨v, q⟩ := I2.cell x c e
    exact absurd (Nat.lt_of_lt_of_le q.lt (by rw [z]; exact hC)) (Nat.lt_irrefl _)) (fun p hp z => absurd (Nat.lt_of_lt_of_le (Heap.lt_size (I2.pin p hp).1) (by rw [z]; exact hC)) (Nat.lt_irrefl _))
end
theorem qm : entryFor table "proto.unchain" = some Builtin.«proto.unchain» := entryFor_of_fast (by kernel_rfl)
section
variable {prog : Program} {w : World} {A : Around} {E : Value -> Shared -> Prop} {s : Shared} {env : Env}
variable {nm q : Str} {C N : Addr} {bs bm B3 : List Value} {hdct : Bool} {sn : List Str} {sub : List Value} {ab : Bool} {col : Option Bool} {dd : Option Addr} {k0 k1 k2 k3 k5 : Option Value} {newId : String}
theorem ya {x : Sem Value} {Q : Flow -> Shared -> Prop} {hd : Addr} {pos : Pos} (p9 : bm.contains (.type "BaseException") = true) (hh : A.handled = some (.ref hd))
 (h : wpAny (model prog w) A x (fun v s₁ => ∃ e t oh hs, v = .ref e /\ s₁.heap.get? C = some (excClassObj nm q C N bs bm hdct sn sub ab col dd k0 k1 k2 k3 k5 newId) /\ e ≠ hd /\ e ≠ C /\ s₁.heap.get? hd = some oh /\ oh.data = .fields hs /\ hs[2]? = some .none /\
  s₁.heap.get? e = some { cls := .ref C, data := .fields #[.ref t, .none, .none, .none, .bool false, .none] } /\ ∀ h', (∀ b o, b ≠ e -> s₁.heap.get? b = some o -> h'.get? b = some o) -> h'.get? e = some { cls := .ref C, data := .fields #[.ref t, .none, .ref hd, .none, .bool true, .none] } -> E (.ref e) { s₁ with heap := h' }) E s) :
 wpAny (model prog w) A (raiseStmt env (some x) (some (pure .none >>= fun v => standAt pos >>= fun _ => pure v))) Q E s := by
 have OG : (Value.ref C :: bm).contains (.type "BaseException") = true := by rw [List.contains_cons, p9, Bool.or_true]
 unfold raiseStmt
 refine wpAny_bind (wpAny_mono h (fun v s₁ h₁ => ?_) fun _ _ x => x)
 obtain ⟨e, t, oh, hs, rfl, hC, ne, Ii, e1, e2, e3, he, hE⟩ := h₁
 obtain ⟨hp, g, d, tk, os⟩ := s₁
 repeat (first | with_reducible refine wpAny_loadPart_at he ?_ | with_reducible refine wpAny_loadPart_at hC ?_ | (with_reducible refine wpAny_isSubtype_exc hC ?_; rw [OG]) | wp_step)
 generalize hz : (hp.update e (Obj.mapFields fun x => x.setIfInBounds 3 Value.none)).update e (Obj.mapFields fun x => x.setIfInBounds 4 (Value.bool true)) = h2
 have kg : ∀ b, b ≠ e -> h2.get? b = hp.get? b := fun b hb => by
  rw [<- hz, Heap.get?_update_other _ _ (Ne.symm hb), Heap.get?_update_other _ _ (Ne.symm hb)]
 have MN : h2.get? e = some { cls := .ref C, data := .fields #[.ref t, .none, .none, .none, .bool true, .none] } := by
  rw [<- hz, Heap.get?_update_self _ (Heap.get?_update_self _ he rfl) rfl]
  rfl
 simp only [raiseNew]
 refine wpAny_bind (wpAny_handled ?_)
 rw [hh]
 have j6 : (Value.ref hd != Value.ref e) = true := by simpa using Ne.symm ne
 dsimp only
 rw [if_pos j6]
 refine wpAny_bind (wpAny_holding (wpAny_runValue (codeAny_builtin qm ?_)))
 show wpAny _ _ (field (.ref hd) 2 >>= _) _ _ _
 refine wpAny_bind (wpAny_field ((kg hd (Ne.symm ne)).trans e1) e2 e3 ?_)
 rw [if_pos (by rfl)]
 refine wpAny_pure ?_
 refine wpAny_bind (show wpAny _ _ (setField (.ref e) 2 (.ref hd)) _ _ _ from wpAny_setField MN rfl (by simp) (wpAny_throw ?_))
 refine hE _ (fun b o hb z => (Heap.get?_update_other _ _ (Ne.symm hb)).trans ((kg b hb).trans z)) ?_
 rw [Heap.get?_update_self _ MN rfl]
 rfl
theorem q0 {B A4 : String} (F : ExcBaseFacts B newId A4 B3) {mN : Str -> Option Value} {x : Str} {np dc pos kp : Pos} {kx : Nat} {args : List Expr} {Q : Flow -> Shared -> Prop} {hd : Addr}
 (p9 : bm.contains (.type "BaseException") = true) (hh : A.handled = some (.ref hd)) (lK : (backTo dc (starEach args env)).any (·.1) = false) (DR : mN "__init__" = none)
 (h : wpAny (model prog w) A (eval (.Name x np) env) (fun f s₁ => f = .ref C /\ wpAny (model prog w) A (evalArgs (.ref C) true (backTo dc (starEach args env)) [])
  (fun a s₂ => a.kw = [] /\ a.pos.length <= sizeLine /\ s₂.heap.get? C = some (excClassObj nm q C N bs bm hdct sn sub ab col dd k0 k1 k2 k3 k5 newId) /\ s₂.heap.Ns N mN /\ OwnTail s₂.heap B3 bm /\ (∃ oh hs, s₂.heap.get? hd = some oh /\ oh.data = .fields hs /\ hs[2]? = some .none) /\
   ∀ h' e t, s₂.heap.get? e = none -> (∀ b o, s₂.heap.get? b = some o -> h'.get? b = some o) -> h'.get? e = some { cls := .ref C, data := .fields #[.ref t, .none, .ref hd, .none, .bool true, .none] } -> E (.ref e) { s₂ with heap := h' }) E s₁) E s) :
 wpAny (model prog w) A (exec (.Raise (some (.Call (.Name x np) args [] dc)) (some (.Constant .none kx kp)) pos) env) Q E s := by
 rw [arm_exec_Raise]
 refine wpAny_bind (wpAny_standAt ?_)
 show wpAny _ _ (raiseStmt env (some (eval (.Call (.Name x np) args [] dc) env >>= fun v => standAt pos >>= fun _ => pure v)) (some (pure Value.none >>= fun v => standAt pos >>= fun _ => pure v))) _ _ _
 refine ya (C := C) (nm := nm) (q := q) (N := N) (bs := bs) (bm := bm) (hdct := hdct) (sn := sn) (sub := sub) (ab := ab) (col := col) (dd := dd) (k0 := k0) (k1 := k1) (k2 := k2) (k3 := k3) (k5 := k5) (newId := newId) p9 hh (wpAny_bind (wpAny_mono (wpAny_Call_ofName (wpAny_mono h (fun f s₁ h₁ => ?_) fun _ _ x => x)) (fun v s₃ h₃ => wpAny_bind (wpAny_standAt (wpAny_pure h₃))) fun _ _ x => x))
 obtain ⟨rfl, h₁⟩ := h₁
 unfold callWith
 refine wpAny_bind (wpAny_holding (wpAny_mono h₁ (fun a s₂ h₂ => wpAny_bind (wpAny_standAt ?_)) fun _ _ x => x))
 obtain ⟨apos, Ng⟩ := a
 obtain ⟨NA, hlen, hC, hn, T, ⟨oh, hs, y1, y2, y3⟩, h₂⟩ := h₂
 obtain rfl : Ng = [] := NA
 obtain ⟨hp, g, d, tk, os⟩ := s₂
 simp only [lK]
 refine wpAny_bind (wpAny_keeperOf_exc hC ?_)
 refine wpAny_bind (wpAny_call_exc_subT (hrest := hlen) F T hC hn DR fun h' e hm => wpAny_bind (wpAny_holding (wpAny_point (wpAny_pure ?_))))
 obtain ⟨t, ht, _, _⟩ := hm.there
 refine ⟨e, t, oh, hs, rfl, hm.keeps _ _ hC, fun z => ?_, fun z => ?_, hm.keeps _ _ y1, y2, y3, ht, fun h3 k3 e3 => h₂ h3 e t hm.new (fun b o z => k3 b o (fun y => ?_) (hm.keeps _ _ z)) e3⟩
 . have := hm.new
   rw [z, y1] at this
   cases this
 . have := hm.new
   rw [z, hC] at this
   cases this
 . have := hm.new
   rw [<- y, z] at this
   cases this
end
def vx (h : Heap) (a T : Addr) (c : Value) (od : Option Addr) : Prop := ∃ oe vs oT ts, h.get? a = some oe /\ oe.cls = c /\ oe.dict = od /\ oe.data = .fields vs /\ vs[1]? = some (.ref T) /\ T ≠ a /\ h.get? T = some oT /\ oT.data = .fields ts /\ ts[3]? = some .none /\ True
section
variable {M : Model} {A : Around} {E : Value -> Shared -> Prop} {s : Shared} {env : Env} {outer : List Env} {L a T : Addr} {c : Value} {od : Option Addr} {base : Heap} {Q : Unit -> Shared -> Prop}
theorem rE {oe : Obj} {vs : Array Value} {head : Value} {Gy : Bool} (oB : A.frames = some (env :: outer)) (hl : s.heap.FunFrames base (env :: outer)) (hf : env.frame = some L) (he : s.heap.get? a = some oe) (Av : oe.dict = od) (hd : oe.data = .fields vs) (hsz : 1 < vs.size) (Dh : True)
 (h : ∀ h' T', vx h' a T' oe.cls od -> s.heap.get? T' = none -> Lv (env :: outer) [a] s.heap h' -> Q () { s with heap := h' }) :
 wpAny M A (do let x <- frameOf env; let pl <- entryPlaceOf L Gy; let b <- EntryCells.newEntry head x .none (rawInt L) .none pl; setField (.ref a) 1 b) (fun _ s' => wpAny M A (setFlight (.ref a) none) Q E s') E s := by
 have vL : a ∉ j3 (env :: outer) := fun m => by
  obtain ⟨_, o, ho, hn⟩ := hl.mem m
  rw [he] at ho
  cases ho
  exact hn vs hd
 refine wpAny_bind (wpAny_frameOf_fun oB hl hf fun h1 s1 => ?_)
 refine wpAny_bind (wpAny_entryPlaceOf fun pl kH => ?_)
 unfold EntryCells.newEntry newFields
 refine wpAny_bind (wpAny_newObj_type ?_ (kH.sizeOk5 _ _ _ _ _))
 have e1 : h1.get? a = some oe := (s1.2.1 a vL).trans he
 let tb : Obj := { cls := .type "traceback", dict := none, data := .fields ([head, .ref L, .none, rawInt L, .none] ++ (if pl.isEmpty then List.replicate 6 Value.none else pl)).toArray }
 have e2 : (h1.push tb).get? a = some oe := Heap.get?_push_of_some _ e1
 refine wpAny_setField e2 hd hsz ?_
 have ye : h1.objs.size ≠ a := Ne.symm (Nat.ne_of_lt (Heap.lt_size e1))
 have d3 := Obj.data_mapFields hd (·.setIfInBounds 1 (Value.ref h1.objs.size))
 have e3 := Heap.get?_update_self (Obj.mapFields (·.setIfInBounds 1 (Value.ref h1.objs.size))) e2 (Obj.isFreed_of_fields d3)
 have t3 : ((h1.push tb).update a (Obj.mapFields (·.setIfInBounds 1 (Value.ref h1.objs.size)))).get? h1.objs.size = some tb := (Heap.get?_update_other _ _ (Ne.symm ye)).trans (Heap.get?_push_size h1 rfl)
 unfold setFlight
 refine wpAny_bind (wpAny_field e3 d3 (x := .ref h1.objs.size) (by simp [hsz]) ?_)
 rw [if_pos (show (Value.ref h1.objs.size != Value.none) = true from by simp)]
 refine wpAny_setField t3 rfl (by simp only [List.size_toArray, List.length_append, List.length_cons, List.length_nil] <;> omega) (h _ h1.objs.size ?_ ?_ ?_)
 . refine ⟨_, _, _, _, (Heap.get?_update_other _ _ ye).trans e3, Obj.cls_mapFields _ _, ?_, d3, by simp [hsz], ye, Heap.get?_update_self _ t3 (Obj.isFreed_of_fields (Obj.data_mapFields rfl _)), Obj.data_mapFields rfl _, by first | (simp; done) | (rcases kH with rfl | ⟨_, _, _, _, _, _, _, rfl⟩ <;> simp), trivial⟩
   obtain ⟨c0, d0, Fm, L6⟩ := oe
   cases Fm <;> first | exact Av | (cases hd)
 . cases q : s.heap.get? h1.objs.size with
   | none => rfl
   | some o =>
     obtain ⟨sl, z⟩ := s1.2.2 _ o q
     exact absurd (Heap.lt_size z) (Nat.lt_irrefl _)
 . have kp : ∀ b o, b ≠ a -> h1.get? b = some o -> (((h1.push tb).update a (Obj.mapFields (·.setIfInBounds 1 (Value.ref h1.objs.size)))).update h1.objs.size (Obj.mapFields (·.setIfInBounds 3 ((none : Option Addr).elim Value.none fun f => rawInt f)))).get? b = some o := fun b o hb q => by
    rw [Heap.get?_update_other _ _ (Ne.symm (Nat.ne_of_lt (Heap.lt_size q))), Heap.get?_update_other _ _ (Ne.symm hb)]
    exact Heap.get?_push_of_some _ q
   refine ⟨fun b o n1 n2 q => kp b o (by simpa using n2) ((s1.2.1 b n1).trans q), fun b o m q => ?_⟩
   obtain ⟨sl, z⟩ := s1.2.2 b o q
   exact ⟨sl, kp b _ (fun z => vL (z ▸ m)) z⟩
theorem vo (oB : A.frames = some (env :: outer)) (hl : s.heap.FunFrames base (env :: outer)) (hf : env.frame = some L) (ht : vx s.heap a T c od)
 (h : ∀ h' T', vx h' a T' c od -> (T' = T \/ s.heap.get? T' = none) -> Lv (env :: outer) [a, T] s.heap h' -> Q () { s with heap := h' }) : wpAny M A (noteFrame (.ref a) env) (fun _ s' => wpAny M A (setFlight (.ref a) none) Q E s') E s := by
 obtain ⟨oe, vs, oT, ts, e1, rfl, e3, e4, e5, e6, e7, e8, e9, qY⟩ := ht
 unfold noteFrame
 simp only [hf]
 refine wpAny_bind (wpAny_field e1 e4 e5 ?_)
 rw [if_pos (show (Value.ref T != Value.none) = true from by simp)]
 refine wpAny_bind (wpAny_field e7 e8 e9 ?_)
 rw [if_neg (show ¬ ((Value.none == rawInt L) = true) from by simp [rawInt])]
 refine wpAny_bind (wpAny_setField e7 e8 (Array.getElem?_eq_some_iff.mp e9).1 ?_)
 have kg : ∀ b, b ≠ T -> (s.heap.update T (Obj.mapFields (·.setIfInBounds 3 Value.none))).get? b = s.heap.get? b := fun b hb => Heap.get?_update_other _ _ (Ne.symm hb)
 have nT : ∀ b o, s.heap.get? b = some o -> (∀ vs, o.data ≠ .fields vs) -> b ≠ T := fun b o hb hn z => by
  rw [z, e7] at hb
  cases hb
  exact hn ts e8
 refine rE (s := { s with heap := s.heap.update T (Obj.mapFields (·.setIfInBounds 3 Value.none)) }) oB (hl.of_keeps fun b o hb hn => ⟨o, (kg b (nT b o hb hn)).trans hb, rfl⟩) hf ((kg a (Ne.symm e6)).trans e1) e3 e4 (Array.getElem?_eq_some_iff.mp e5).1 qY fun h' T' t1 t2 lv => h h' T' t1 ?_ ⟨fun b o n1 n2 q => ?_, fun b o m q => ?_⟩
 . by_cases z : T' = T
   . exact .inl z
   . exact .inr ((kg T' z).symm.trans t2)
 . have : b ≠ a /\ b ≠ T := by simpa using n2
   exact lv.keep b o n1 (by simpa using this.1) ((kg b this.2).trans q)
 . obtain ⟨_, o', q', hn⟩ := hl.mem m
   rw [q] at q'
   cases q'
   exact lv.slot b o m ((kg b (nT b o q hn)).trans q)
theorem kW (ht : vx s.heap a T c od) (h : ∀ h', vx h' a T c od -> (∀ b o, b ≠ T -> s.heap.get? b = some o -> h'.get? b = some o) -> Q () { s with heap := h' }) : wpAny M A (setFlight (.ref a) none) Q E s := by
 obtain ⟨oe, vs, oT, ts, e1, rfl, e3, e4, e5, e6, e7, e8, e9, qY⟩ := ht
 have hz := (Array.getElem?_eq_some_iff.mp e9).1
 refine wpAny_setFlight_none e1 e4 e5 e7 e8 hz (h _ ⟨oe, vs, _, _, (Heap.get?_update_other _ _ e6).trans e1, rfl, e3, e4, e5, e6, Heap.get?_update_self _ e7 (Obj.isFreed_of_fields (Obj.data_mapFields e8 _)), Obj.data_mapFields e8 _, by simp [hz], qY⟩ fun b o hb q => (Heap.get?_update_other _ _ (Ne.symm hb)).trans q)
end
def Bf (P : Program) (w : World) : qe := fun outer H s E e s' => ∃ a T C od H', e = .ref a /\ s'.os = s.os /\ AllBare s'.gens /\ Un (j3 outer) [] H H' s.heap s'.heap /\ lS P w H' s'.heap /\ vx s'.heap a T (.ref C) od /\ s.heap.get? a = none /\ s.heap.get? T = none /\ H' a = none /\ H' T = none /\ E (.ref C) od H'
section
variable {P : Program} {w : World} {K : PySem.W.Frag} {mg : Str -> Option Value} {base : Heap} {N : List Str} {qual : Str} {scope : Scope} {f : Addr} {cd : Value} {A : Around} {outer : List Env} {s0 : Shared} {H0 : Hp} {E : XK} {CX : qe} {pins : List (Addr × Obj)} {σ : St} {H : Hp} {s : Shared}
theorem tN {a T C : Addr} {od : Option Addr} {S : List Addr} {h' : Heap} (I : Inv (gD CX P w K mg base N qual scope f cd A outer s0 H0 E) pins σ H s) (lv : Lv (gD CX P w K mg base N qual scope f cd A outer s0 H0 E).stack S s.heap h') (hS : ∀ b ∈ S, H b = none /\ s0.heap.get? b = none)
 (tr : vx h' a T (.ref C) od) (ha : H a = none) (hT : H T = none) (na : s0.heap.get? a = none) (nT : s0.heap.get? T = none) (hE : E (.ref C) od H) : Bf P w outer H0 s0 E (.ref a) { s with heap := h' } := by
 have eL : j3 (gD CX P w K mg base N qual scope f cd A outer s0 H0 E).stack = s0.heap.objs.size :: j3 outer := rfl
 have old : ∀ b o, s0.heap.get? b = some o -> b ∉ S /\ b ≠ s0.heap.objs.size := fun b o e => ⟨fun z => (by rw [(hS b z).2] at e; cases e), Nat.ne_of_lt (Heap.lt_size e)⟩
 refine ⟨a, T, C, od, H, rfl, I.os, I.bare, ⟨fun b o e n hb hx => ?_, fun b o e n hb hx => ?_, fun b o e n hx => I.base.free b o e n hx, fun b o e hx => ?_, I.base.j8, I.base.jB, I.base.lR⟩, fun b u e => ?_, tr, na, nT, ha, hT, hE⟩
 . have z := I.base.keep b o e n hb hx
   exact lv.keep b o (by rw [eL]; simp [(old b o e).2, hb]) (old b o e).1 z
 . obtain ⟨sl, z⟩ := I.base.slot b o e n hb hx
   obtain ⟨D5, z2⟩ := lv.slot b _ (by rw [eL]; exact List.mem_cons_of_mem _ hb) z
   exact ⟨D5, z2⟩
 . obtain ⟨o2, z⟩ := I.base.there b o e hx
   by_cases m : b ∈ j3 (gD CX P w K mg base N qual scope f cd A outer s0 H0 E).stack
   . obtain ⟨D5, z2⟩ := lv.slot b _ m z
     exact ⟨_, z2⟩
   . exact ⟨_, lv.keep b o2 m (old b o e).1 z⟩
 . refine (I.bf b u e).pe (fun c v hc q => ?_) (fun _ q => q) fun _ _ q => q
   have sq : H c ≠ none := by
    rcases hc with rfl | hc
    . rw [e]; intro z; cases z
    . rw [hc]; intro z; cases z
   exact lv.keep c v (fun m => sq (I.lW c m)) (fun m => sq (hS c m).1) q
end
structure HS (P : Program) (w : World) (K : PySem.W.Frag) (mg : Str -> Option Value) (base : Heap) (k : Nat) (f : Addr) (ps : List Str) (cV : List V) (sp : Sp) : Prop where
 ex : ∃ (fd : FuncData) (ds : List Value), bh P w K mg base (Bf P w) k f fd ps sp /\ Binds K fd ps ds /\ Vals cV ds
section
variable {X : Cx} {CX : qe} {k : Nat} {f C : Addr} {fd : FuncData} {ps : List Str} {sp : Sp} {cV : List V} {ds : List Value} {E : St -> XK} {x m : Str} {p pos apos : Pos} {e o : Expr} {es : List Expr} {ta : TE} {t : TA}
theorem mU (c : HS X.prog X.w X.K X.mg X.base k f ps cV sp) (hr : c6 k X.A) (hg : Gl X x) (hm : X.mg x = some (.ref f)) (hk : PySem.W.keepIn X.K (.ref f) = true) (hx : cX (Bf X.prog X.w) X E)
 (ha : PA X (e :: es) t) (pA : (x == ("__debug__" : Str)) = false := by decide) (he : starEach (e :: es) X.env = (false, eval e X.env) :: starEach es X.env := by rfl) (kH : (backTo pos (starEach es X.env)).any (·.1) = false := by rfl) :
 PE X (.Call (.Name x p) (e :: es) [] pos) (sQ sp cV E t) := by
 obtain ⟨fd, ds, F, hb, hd⟩ := c.ex
 intro pins s σ H Q I h
 refine wpAny_Call_Name_kw (ez I hg hm ?_ pA)
 refine PySem.W.callWith_K (h₀ := X.base) I.ok.mod.Bh hk (bP (ha pos pins s σ H _ I h) fun us s1 ⟨vs, H1, I1, r, q⟩ => ⟨I1.iZ, ?_⟩) he kH
 exact sx F hr hb hd hx I1 r (gg.out q)
end
section
variable {P : Program} {w : World} {K : PySem.W.Frag} {mg : Str -> Option Value} {base : Heap}
theorem cz.NW {x qual : Str} {st : Stmt} {f : Addr} {dV : Value} {fd : FuncData} {N ps : List Str} {k : Nat} {sp : Sp} (F : cz K x qual st f dV fd) (S : aH N ps (ak st)) (len : ∀ vs H Q E, sp vs H Q E -> vs.length = ps.length)
 (qu : ∀ (dk : Value) (A : Around) (outer : List Env) (s : Shared) (H : Hp) (vs : List V) (Q : VK) (E : XK), c6 k (A.deeper (envOfC qual (ak st) s.heap.objs.size f dk)) -> sp vs H Q E ->
  ∃ t, qN (gD (Bf P w) P w K mg base N qual (ak st) f dk A outer s H E) (gx st) t /\ t { nx := fun _ H' => Q .cn H', rt := Q } (start N vs) H) : bh P w K mg base (Bf P w) (k + 1) f fd ps sp := by
 obtain ⟨oc, od, kV, doc, pm, an, dk, ct, yc, rfl, lk, uM⟩ := F.ex
 exact zW lk uM S len fun A outer s H vs Q E hr pZ => qu dk A outer s H vs Q E hr pZ
end
section
variable {prog : Program} {w : World} {A : Around} {E : Value -> Shared -> Prop} {s : Shared} {K : PySem.W.Frag} {x C : Addr} {ox : Obj} {name : Str} {v : Value} {cd : ClassData}
end
def vB (a C : Addr) (od : Option Addr) : Heap -> Prop := fun h => ∃ o vs, h.get? a = some o /\ o.cls = .ref C /\ o.dict = od /\ o.data = .fields vs /\ True
theorem vB.ext {h : Heap} {a C : Addr} {od : Option Addr} (m : vB a C od h) : vB a C od h /\ (∃ o, h.get? a = some o) /\ ∀ h1 h2 : Heap, vB a C od h1 -> (∀ o, h1.get? a = some o -> h2.get? a = some o) -> vB a C od h2 :=
 ⟨m, let ⟨o, _, e, _⟩ := m; ⟨o, e⟩, fun _ _ ⟨o, vs, e, r⟩ k => ⟨o, vs, k o e, r⟩⟩
theorem vx.keeps {h h' : Heap} {a T : Addr} {c : Value} {od : Option Addr} (t : vx h a T c od) (k : ∀ b o, h.get? b = some o -> h'.get? b = some o) : vx h' a T c od := by
 obtain ⟨oe, vs, oT, ts, e1, e2, e3, e4, e5, e6, e7, e8⟩ := t
 exact ⟨oe, vs, oT, ts, k _ _ e1, e2, e3, e4, e5, e6, k _ _ e7, e8⟩
def M5 (X : Cx) (cl : Expr) (hit : Addr -> Bool -> Prop) : Prop := ∀ (a C T : Addr) (od : Option Addr) (pins : List (Addr × Obj)) (σ : St) (H : Hp) (s : Shared) (Q : Bool -> Shared -> Prop) (E : Value -> Shared -> Prop) (b : Bool), Inv X pins σ H s -> vx s.heap a T (.ref C) od -> hit C b ->
 (∀ h', (∀ b o, s.heap.get? b = some o -> h'.get? b = some o) -> Q b { s with heap := h' }) ->
 wpAny (model X.prog X.w) (X.hand a).A (eval cl X.env) (fun c s1 => wpAny (model X.prog X.w) (X.hand a).A (excMatches (.ref a) c) Q E s1) E s
theorem Bj {X : Cx} {x : Str} {np : Pos} {D : Addr} (hg : Gl X x) (hm : X.mg x = some (.ref D)) (hD : vw X.K D) (pA : (x == ("__debug__" : Str)) = false := by decide) : M5 X (.Name x np) (BW X.K D) := by
 intro a C T od pins σ H s Q E b I tr hit k
 refine ez (X := { X with xe := E }.hand a) (E := E) I.oz hg hm ?_ pA
 obtain ⟨bm, N, nm, q, bs, hd, sn, sub, ab, col, dd, k0, k1, k2, k3, k5, hC, _⟩ := hit.1 _ I.iZ
 obtain ⟨IE, N', Ld, q', Li, uO, Ki, Fp, L5, Gf, KQ, l0, l1, l2, l3, l5, Mg, T'⟩ := hD _ I.iZ
 obtain ⟨oe, vs, oT, Nq, e1, e2, e3, e4, e5⟩ := id tr
 exact qI hC Mg e1 e2 (T'.hasType (by decide)) (xB I.iZ hC hit.2) (k _ fun _ _ z => z)
inductive lC (X : Cx) : List ExceptHandler -> List Ck -> Prop
 | nil : lC X [] []
 | cons {cl : Expr} {n : Option Str} {b0 : Stmt} {rn : List Stmt} {pos : Pos} {hs : List ExceptHandler} {hit : Addr -> Bool -> Prop} {i : Option Nat} {ts : Addr -> TS} {rs : List Ck} (hc : M5 X cl hit) (hb : ∀ a, qN (X.hand a) (b0 :: rn) (ts a)) (hn : zB X n i) (r : lC X hs rs) :
  lC X (.ExceptHandler (some cl) n (b0 :: rn) pos :: hs) (⟨hit, i, ts⟩ :: rs)
def C1 (D : Ends) (σ : St) (C : Addr) (od : Option Addr) (H' : Hp) : List Ck -> Prop
 | [] => False
 | r :: rs => (r.hit C true /\ ∀ a, H' a = none -> r.ts a (Gd D r.i) (Cb σ r.i (some (.ref a))) (upd H' a (.ext (vB a C od)))) \/ (r.hit C false /\ C1 D σ C od H' rs)
def Dt (tb : (St -> XK) -> TS) (rs : List Ck) (te : TS) : TS := fun D σ H =>
 tb (fun σ' c od H' => ∃ C, c = .ref C /\ C1 D σ' C od H' rs) { D with nx := fun σ' H' => te D σ' H' } σ H
section
variable {X : Cx} {pins : List (Addr × Obj)} {σ : St} {H : Hp} {a C : Addr} {od : Option Addr} {Dn : Ends}
theorem sg (hN : X.N.Nodup) (ha : H a = none) (fa : G5 X pins a) {hs : List ExceptHandler} {rs : List Ck} (ok : lC X hs rs) : ∀ (s : Shared) (T : Addr), Inv X pins σ H s -> vx s.heap a T (.ref C) od -> H T = none -> G5 X pins T -> C1 Dn σ C od H rs ->
 wpAny (model X.prog X.w) X.A (handleBy (.ref a) X.env hs) (SP X pins Dn) X.xe s := by
 induction ok with
 | nil => intro s T _ _ _ _ h; exact h.elim
 | @cons cl n b0 rn pos hs hit i ts rs hc hb hn r ih =>
   intro s T J tr hT fT h
   refine wpAny_handleBy_cons (codeAny_handlers_test ?_) (by intro q; cases q)
   rcases h with ⟨h1, GR⟩ | ⟨h1, h2⟩
   . refine hc a C T od pins σ H s _ _ true J tr h1 fun h3 k3 => ?_
     have J3 : Inv X pins σ H { s with heap := h3 } := J.kept (t' := s.toks) fun b u e => k3 b u e
     have Bc := tr.keeps k3
     have lay : ∀ h4, vx h4 a T (.ref C) od -> (∀ b o, b ≠ T -> h3.get? b = some o -> h4.get? b = some o) -> Inv X pins σ (upd H a (.ext (vB a C od))) { s with heap := h4 } := fun h4 F2 k4 => by
      have J4 : Inv X pins σ H { s with heap := h4 } := J3.lv (S := [T]) (t' := s.toks) ⟨fun b o _ n2 z => k4 b o (by simpa using n2) z, fun b o m z => ⟨o.slots, k4 b o (fun y => ?_) z⟩⟩ fun b hb => by
       have : b = T := by simpa using hb
       subst this
       exact ⟨hT, fT⟩
      . obtain ⟨NS, Og, O7, O5, f1, f2, f3, f4, _, _, _, _, _, f5⟩ := id F2
        exact J4.Ao ha fa.1 fa.2.1 fa.2.2.1 fa.2.2.2 (vB.ext ⟨NS, Og, f1, f2, f3, f4, f5⟩)
      . subst y
        obtain ⟨_, _, _, _, _, _, _, _, _, _, f7, f8, _⟩ := id Bc
        obtain ⟨_, o', z', hn⟩ := J3.stack.mem m
        rw [f7] at z'
        cases z'
        exact hn _ f8
     cases n with
     | none =>
       cases i with
       | some _ => exact hn.elim
       | none =>
       refine codeAny_handlers_suite ?_
       refine kW (s := { s with heap := h3 }) Bc fun h4 F2 k4 => ?_
       refine wpAny_mono (hb a pins _ _ _ _ (lay h4 F2 k4).oz (GR a ha)) (fun fl s7 q7 => ?_) (fun _ _ z => z.elim)
       cases fl with
       | next => obtain ⟨σ7, H7, J7, q8⟩ := q7; exact ⟨_, _, J7.oA J.ok, q8⟩
       | brk => obtain ⟨σ7, H7, J7, q8⟩ := q7; exact ⟨_, _, J7.oA J.ok, q8⟩
       | cont => obtain ⟨σ7, H7, J7, q8⟩ := q7; exact ⟨_, _, J7.oA J.ok, q8⟩
       | ret u => obtain ⟨v, σ7, H7, J7, r7, q8⟩ := q7; exact ⟨v, _, _, J7.oA J.ok, r7, q8⟩
     | some nn =>
       cases i with
       | none => exact hn.elim
       | some ii =>
       obtain ⟨hi, hk⟩ := hn
       refine codeAny_handlers_suite_as ?_
       refine kW (s := { s with heap := h3 }) Bc fun h4 F2 k4 => ?_
       refine p0 (X := X.hand a) (v := .ref a) (i := ii) (lay h4 F2 k4).oz hN hi (.inl hk) rfl (fun s6 J6 => ?_) (.inr hk)
       refine wpAny_mono (hb a pins s6 _ _ _ J6 (GR a ha)) (fun fl s7 q7 => ?_) (fun _ _ z => z.elim)
       have core : ∀ {σ7 : St} {H7 : Hp}, Inv (X.hand a) pins σ7 H7 s7 -> (∀ s8, Inv X pins (σ7.set ii none) H7 s8 -> SP X pins Dn fl s8) -> wpAny (model X.prog X.w) X.A (do bindName X.env nn .none; unbindBehindTheSuite X.env nn pos) (fun _ s8 => SP X pins Dn fl s8) X.xe s7 := fun {σ7 H7} J7 fin => by
        have J8 := J7.oA J.ok
        obtain ⟨m, F3, KZ⟩ := J8.loc
        exact wpAny_nameGoes_keeps hk F3 (by rw [J.ok.kind]; rfl) fun h8 v8 OL sb => fin _ (J8.gone hN hi KZ OL sb)
       cases fl with
       | next => obtain ⟨σ7, H7, J7, q8⟩ := q7; exact core J7 fun s8 J8 => ⟨_, _, J8, q8⟩
       | brk => obtain ⟨σ7, H7, J7, q8⟩ := q7; exact core J7 fun s8 J8 => ⟨_, _, J8, q8⟩
       | cont => obtain ⟨σ7, H7, J7, q8⟩ := q7; exact core J7 fun s8 J8 => ⟨_, _, J8, q8⟩
       | ret u => obtain ⟨v, σ7, H7, J7, r7, q8⟩ := q7; exact core J7 fun s8 J8 => ⟨v, _, _, J8, r7, q8⟩
   . refine hc a C T od pins σ H s _ _ false J tr h1 fun h3 k3 => ?_
     exact ih _ T (J.kept (t' := s.toks) fun b u e => k3 b u e) (tr.keeps k3) hT fT h2
end
theorem Bi {X : Cx} {body orelse : List Stmt} {h0 : ExceptHandler} {hs : List ExceptHandler} {rs : List Ck} {pos : Pos} {tb : (St -> XK) -> TS} {te : TS}
 (hb : ∀ (f : Value -> Shared -> Prop) (pn : List (Addr × Obj)) (E' : St -> XK), cX (Bf X.prog X.w) (X.o9 f pn) E' -> qN (X.o9 f pn) body (tb E')) (ho : qN X orelse te) (hh : lC X (h0 :: hs) rs)
 (hN : X.N.Nodup) (tq : X.stack = X.env :: X.outer) (hf : X.env.frame = some X.env.locals) (hex : X.ex = []) :
 PS X (.Try body (h0 :: hs) orelse [] pos) (Dt tb rs te) := by
 intro pins s σ H Dn I h
 refine wpAny_Try_except ?_
 refine wpAny_mono (hb (fun e s1 => wpAny (model X.prog X.w) X.A (noteFrame e X.env) (fun _ s2 => wpAny (model X.prog X.w) X.A (setFlight e none) (fun _ s3 => wpAny (model X.prog X.w) X.A (handleBy e X.env (h0 :: hs)) (SP X pins Dn) X.xe s3) X.xe s2) X.xe s1) (X.pn ++ pins) _ ?_ [] s σ H _ I.AQ h) ?_ (fun e s1 z => z)
 . intro pV σ' H1 s1 e s2 I1 ⟨a, T, C, od, H', he, os, bare, un, bf, tr, na, nT, ha, hT, C', HC, GR⟩
   subst he
   cases HC
   have I2 := I1.qp (ch := []) os un bf bare (fun b z => nomatch z)
   have J := I2.gW (pins := pins)
   have Jv := I1.gW (pins := pins)
   have iS : ∀ {s' : Shared} {zy : St} {Jx : Hp}, Inv X pins zy Jx s' -> ∀ b, s'.heap.get? b = none -> G5 X pins b := fun {s' zy Jx} I b z => by
    refine ⟨?_, fun y => ?_, fun x c e y => ?_, fun p hp y => ?_⟩
    . cases q : X.cJ.heap.get? b with
      | none => rfl
      | some o =>
        obtain ⟨o2, z2⟩ := I.base.there b o q (by rw [hex]; intro y; cases y)
        rw [z] at z2
        cases z2
    . obtain ⟨m, ⟨o, _, _, ho, _⟩, _⟩ := I.loc
      rw [<- y, z] at ho
      cases ho
    . obtain ⟨v, o, ho, _⟩ := I.cell x c e
      rw [y, z] at ho
      cases ho
    . have ho := (I.pin p hp).1
      rw [y, z] at ho
      cases ho
   have fa := iS Jv a na
   have fT := iS Jv T nT
   show wpAny _ _ (noteFrame (.ref a) X.env) _ _ s2
   refine vo (base := X.base) (by rw [<- tq]; exact J.ok.frames) (by rw [<- tq]; exact J.stack) hf tr fun h3 T3 Bc G6 lv => ?_
   have J3 : Inv X pins σ' H' { s2 with heap := h3 } := J.lv (S := [a, T]) (t' := s2.toks) (by rw [tq]; exact lv) fun b hb => by
    have : b = a \/ b = T := by simpa using hb
    rcases this with rfl | rfl
    . exact ⟨ha, fa⟩
    . exact ⟨hT, fT⟩
   have C6 : H' T3 = none /\ G5 X pins T3 := by
    rcases G6 with rfl | z
    . exact ⟨hT, fT⟩
    . exact ⟨J.bf.dead z, iS J _ z⟩
   exact sg hN ha fa hh _ T3 J3 Bc C6.1 C6.2 GR
 . intro f s1 q
   cases f with
   | next => obtain ⟨σ7, H7, J7, q8⟩ := q; exact ho pins s1 σ7 H7 Dn J7.gW q8
   | brk => obtain ⟨σ7, H7, J7, q8⟩ := q; exact ⟨σ7, H7, J7.gW, q8⟩
   | cont => obtain ⟨σ7, H7, J7, q8⟩ := q; exact ⟨σ7, H7, J7.gW, q8⟩
   | ret u => obtain ⟨v, σ7, H7, J7, r7, q8⟩ := q; exact ⟨v, σ7, H7, J7.gW, r7, q8⟩
def AO (K : PySem.W.Frag) : List V -> Hp -> VK -> Prop := fun xs H Q => ∃ a c cv C od b, xs = [.ref a, c] /\ CW c cv /\ H a = some (.ext (vB a C od)) /\ (∀ d, od = some d -> ∃ fs, H d = some (.xd fs)) /\ G0 K C /\ PySem.W.kitOne K (.ref C) cv = some b /\ Q (.bl b) H
theorem yf {X : Cx} : fX X (.builtin "isinstance") (AO X.K) := by
 intro pins s σ H xs us Q I r h
 obtain ⟨a, c, cv, C, od, b, rfl, hc, hH, hd, ty, e, q⟩ := h
 obtain ⟨u, w', rfl, r1, r2⟩ := vals2 r
 have ew : w' = cv := by cases hc <;> exact r2
 subst ew
 cases r1
 obtain ⟨⟨o, vs, z1, z2, z3, z4, _⟩, _⟩ := (show c7 X.prog X.w H s.heap a (.ext (vB a C od)) from I.bf a _ hH)
 cases od with
 | none =>
   have J : InstAt s.heap a o C none := ⟨z1, z2, by unfold notCls; rw [z4], by rw [z3]; trivial⟩
   exact PySem.W.kia_one (zS ty) I.iZ J e (fun z => nomatch z) fun tk => ⟨.bl b, H, I.tok tk, rfl, q⟩
 | some d =>
   obtain ⟨fs, hf⟩ := hd d rfl
   obtain ⟨mA, ⟨o', es, ep, ho, _⟩, _⟩ := (show c7 X.prog X.w H s.heap d (.xd fs) from I.bf d _ hf)
   have J : InstAt s.heap a o C (some o') := ⟨z1, z2, by unfold notCls; rw [z4], by rw [z3]; exact ho⟩
   exact PySem.W.kia_one (zS ty) I.iZ J e (fun z => nomatch z) fun tk => ⟨.bl b, H, I.tok tk, rfl, q⟩
section
variable {σ : St} {H : Hp} {Q : VK} {D : Ends} {K : PySem.W.Frag} {C : Addr} {E : St -> XK}
theorem Fz {tb : (St -> XK) -> TS} {rs : List Ck} {te : TS} (h : tb (fun σ' c od H' => ∃ C, c = .ref C /\ C1 D σ' C od H' rs) { D with nx := fun σ' H' => te D σ' H' } σ H) : Dt tb rs te D σ H := h
theorem F6 {a C' : Addr} {b : Bool} (h1 : H a = some (.ext (vB a C none))) (ty : G0 K C) (e : PySem.W.kitOne K (.ref C) (.ref C') = some b) (h : Q (.bl b) H) : AO K [.ref a, .ref C'] H Q := ⟨a, _, _, C, none, b, rfl, .ref _, h1, (fun _ z => by cases z), ty, e, h⟩
end
theorem lr {X : Cx} {K : PySem.W.Frag} (h : X.K = K) : fX X (.builtin "isinstance") (AO K) := h ▸ yf
theorem se {X : Cx} : cX (Bf X.prog X.w) X (fun _ => E0) := fun _ _ _ _ _ _ _ ⟨_, _, _, _, _, _, _, _, _, _, _, _, _, _, _, h⟩ => h.elim
def GU (h : Heap) (a T : Addr) (c : Value) (od : Option Addr) : Prop := ∃ oe vs oT ts v, h.get? a = some oe /\ oe.cls = c /\ oe.dict = od /\ oe.data = .fields vs /\ vs[1]? = some (.ref T) /\ T ≠ a /\ h.get? T = some oT /\ oT.data = .fields ts /\ ts[3]? = some v /\ True
section
variable {M : Model} {A : Around} {E : Value -> Shared -> Prop} {s : Shared} {env : Env} {outer : List Env} {L a T : Addr} {c : Value} {od : Option Addr} {base : Heap} {Q : Unit -> Shared -> Prop}
theorem yL {oe : Obj} {vs : Array Value} {head : Value} {Gy : Bool} (oB : A.frames = some (env :: outer)) (hl : s.heap.FunFrames base (env :: outer)) (hf : env.frame = some L) (he : s.heap.get? a = some oe) (Av : oe.dict = od) (hd : oe.data = .fields vs) (hsz : 1 < vs.size) (Dh : True)
 (h : ∀ h' T', GU h' a T' oe.cls od -> s.heap.get? T' = none -> Lv (env :: outer) [a] s.heap h' -> Q () { s with heap := h' }) :
 wpAny M A (do let x <- frameOf env; let pl <- entryPlaceOf L Gy; let b <- EntryCells.newEntry head x .none (rawInt L) .none pl; setField (.ref a) 1 b) Q E s := by
 have vL : a ∉ j3 (env :: outer) := fun m => by
  obtain ⟨_, o, ho, hn⟩ := hl.mem m
  rw [he] at ho
  cases ho
  exact hn vs hd
 refine wpAny_bind (wpAny_frameOf_fun oB hl hf fun h1 s1 => ?_)
 refine wpAny_bind (wpAny_entryPlaceOf fun pl kH => ?_)
 unfold EntryCells.newEntry newFields
 refine wpAny_bind (wpAny_newObj_type ?_ (kH.sizeOk5 _ _ _ _ _))
 have e1 : h1.get? a = some oe := (s1.2.1 a vL).trans he
 let tb : Obj := { cls := .type "traceback", dict := none, data := .fields ([head, .ref L, .none, rawInt L, .none] ++ (if pl.isEmpty then List.replicate 6 Value.none else pl)).toArray }
 have e2 : (h1.push tb).get? a = some oe := Heap.get?_push_of_some _ e1
 refine wpAny_setField e2 hd hsz ?_
 have ye : h1.objs.size ≠ a := Ne.symm (Nat.ne_of_lt (Heap.lt_size e1))
 have d3 := Obj.data_mapFields hd (·.setIfInBounds 1 (Value.ref h1.objs.size))
 have e3 := Heap.get?_update_self (Obj.mapFields (·.setIfInBounds 1 (Value.ref h1.objs.size))) e2 (Obj.isFreed_of_fields d3)
 have t3 : ((h1.push tb).update a (Obj.mapFields (·.setIfInBounds 1 (Value.ref h1.objs.size)))).get? h1.objs.size = some tb := (Heap.get?_update_other _ _ (Ne.symm ye)).trans (Heap.get?_push_size h1 rfl)
 refine h _ h1.objs.size ?_ ?_ ?_
 . refine ⟨_, _, _, _, rawInt L, e3, Obj.cls_mapFields _ _, ?_, d3, by simp [hsz], ye, t3, rfl, by simp, trivial⟩
   obtain ⟨c0, d0, Fm, L6⟩ := oe
   cases Fm <;> first | exact Av | (cases hd)
 . cases q : s.heap.get? h1.objs.size with
   | none => rfl
   | some o =>
     obtain ⟨sl, z⟩ := s1.2.2 _ o q
     exact absurd (Heap.lt_size z) (Nat.lt_irrefl _)
 . have kp : ∀ b o, b ≠ a -> h1.get? b = some o -> ((h1.push tb).update a (Obj.mapFields (·.setIfInBounds 1 (Value.ref h1.objs.size)))).get? b = some o := fun b o hb q => by
    rw [Heap.get?_update_other _ _ (Ne.symm hb)]
    exact Heap.get?_push_of_some _ q
   refine ⟨fun b o n1 n2 q => kp b o (by simpa using n2) ((s1.2.1 b n1).trans q), fun b o m q => ?_⟩
   obtain ⟨sl, z⟩ := s1.2.2 b o q
   exact ⟨sl, kp b _ (fun z => vL (z ▸ m)) z⟩
theorem u9 (oB : A.frames = some (env :: outer)) (hl : s.heap.FunFrames base (env :: outer)) (hf : env.frame = some L) (ht : GU s.heap a T c od)
 (h : ∀ h' T', vx h' a T' c od -> (T' = T \/ s.heap.get? T' = none) -> Lv (env :: outer) [a, T] s.heap h' -> Q () { s with heap := h' }) : wpAny M A (noteFrame (.ref a) env) (fun _ s' => wpAny M A (setFlight (.ref a) none) Q E s') E s := by
 obtain ⟨oe, vs, oT, ts, v, e1, rfl, e3, e4, e5, e6, e7, e8, e9, qY⟩ := ht
 unfold noteFrame
 simp only [hf]
 refine wpAny_bind (wpAny_field e1 e4 e5 ?_)
 rw [if_pos (show (Value.ref T != Value.none) = true from by simp)]
 refine wpAny_bind (wpAny_field e7 e8 e9 ?_)
 by_cases hv : (v == rawInt L) = true
 . rw [if_pos hv]
   have hz := (Array.getElem?_eq_some_iff.mp e9).1
   have tr : ∀ b, b ≠ T -> (s.heap.update T (Obj.mapFields (·.setIfInBounds 3 Value.none))).get? b = s.heap.get? b := fun b hb => Heap.get?_update_other _ _ (Ne.symm hb)
   refine wpAny_pure (wpAny_setFlight_none e1 e4 e5 e7 e8 hz (h _ T ⟨oe, vs, _, _, (tr a (Ne.symm e6)).trans e1, rfl, e3, e4, e5, e6, Heap.get?_update_self _ e7 (Obj.isFreed_of_fields (Obj.data_mapFields e8 _)), Obj.data_mapFields e8 _, by simp [hz], qY⟩ (.inl rfl) ⟨fun b o n1 n2 q => (tr b (by simp at n2; exact n2.2)).trans q, fun b o m q => ?_⟩))
   obtain ⟨_, o', q', hn⟩ := hl.mem m
   rw [q] at q'
   cases q'
   exact ⟨o.slots, (tr b (fun z => by rw [z, e7] at q; cases q; exact hn ts e8)).trans q⟩
 rw [if_neg hv]
 refine wpAny_bind (wpAny_setField e7 e8 (Array.getElem?_eq_some_iff.mp e9).1 ?_)
 have kg : ∀ b, b ≠ T -> (s.heap.update T (Obj.mapFields (·.setIfInBounds 3 Value.none))).get? b = s.heap.get? b := fun b hb => Heap.get?_update_other _ _ (Ne.symm hb)
 have nT : ∀ b o, s.heap.get? b = some o -> (∀ vs, o.data ≠ .fields vs) -> b ≠ T := fun b o hb hn z => by
  rw [z, e7] at hb
  cases hb
  exact hn ts e8
 refine rE (s := { s with heap := s.heap.update T (Obj.mapFields (·.setIfInBounds 3 Value.none)) }) oB (hl.of_keeps fun b o hb hn => ⟨o, (kg b (nT b o hb hn)).trans hb, rfl⟩) hf ((kg a (Ne.symm e6)).trans e1) e3 e4 (Array.getElem?_eq_some_iff.mp e5).1 qY fun h' T' t1 t2 lv => h h' T' t1 ?_ ⟨fun b o n1 n2 q => ?_, fun b o m q => ?_⟩
 . by_cases z : T' = T
   . exact .inl z
   . exact .inr ((kg T' z).symm.trans t2)
 . have : b ≠ a /\ b ≠ T := by simpa using n2
   exact lv.keep b o n1 (by simpa using this.1) ((kg b this.2).trans q)
 . obtain ⟨_, o', q', hn⟩ := hl.mem m
   rw [q] at q'
   cases q'
   exact lv.slot b o m ((kg b (nT b o q hn)).trans q)
theorem tF {oe : Obj} {vs : Array Value} (oB : A.frames = some (env :: outer)) (hl : s.heap.FunFrames base (env :: outer)) (hf : env.frame = some L) (he : s.heap.get? a = some oe) (Av : oe.dict = od) (hd : oe.data = .fields vs) (h1 : vs[1]? = some .none)
 (h : ∀ h' T', GU h' a T' oe.cls od -> s.heap.get? T' = none -> Lv (env :: outer) [a] s.heap h' -> Q () { s with heap := h' }) : wpAny M A (noteFrame (.ref a) env) Q E s := by
 unfold noteFrame
 simp only [hf]
 refine wpAny_bind (wpAny_field he hd h1 ?_)
 rw [if_neg (by decide)]
 exact yL oB hl hf he Av hd (Array.getElem?_eq_some_iff.mp h1).1 trivial h
theorem HL (ht : GU s.heap a T c od) (h : ∀ h', GU h' a T c od -> (∀ b o, b ≠ T -> s.heap.get? b = some o -> h'.get? b = some o) -> E (.ref a) { s with heap := h' }) : cameBackBy M A env E (.ref a) s := by
 obtain ⟨oe, vs, oT, ts, v, e1, rfl, e3, e4, e5, e6, e7, e8, e9, qY⟩ := ht
 have hz := (Array.getElem?_eq_some_iff.mp e9).1
 unfold cameBackBy
 refine wpAny_bind (wpAny_field e1 e4 e5 ?_)
 rw [if_neg (show ¬ ((Value.ref T == Value.none) = true) from by simp)]
 unfold setFlight
 refine wpAny_bind (wpAny_field e1 e4 e5 ?_)
 rw [if_pos (show (Value.ref T != Value.none) = true from by simp)]
 refine wpAny_setField e7 e8 hz (h _ ⟨oe, vs, _, _, _, (Heap.get?_update_other _ _ e6).trans e1, rfl, e3, e4, e5, e6, Heap.get?_update_self _ e7 (Obj.isFreed_of_fields (Obj.data_mapFields e8 _)), Obj.data_mapFields e8 _, by simp [hz]; rfl, qY⟩ fun b o hb q => (Heap.get?_update_other _ _ (Ne.symm hb)).trans q)
end
theorem uK.w {h : Heap} {a T : Addr} {c : Value} {od : Option Addr} (t : uK h a T c od) : vx h a T c od := let ⟨oe, vs, oT, ts, e1, e2, e3, e4, e5, e6, e7, e8, e9, _⟩ := t; ⟨oe, vs, oT, ts, e1, e2, e3, e4, e5, e6, e7, e8, e9, trivial⟩
def DV (X : Cx) (E : XK) : Prop := ∀ (pins : List (Addr × Obj)) (σ : St) (H : Hp) (s : Shared) (a T C : Addr) (od : Option Addr), Inv X pins σ H s -> GU s.heap a T (.ref C) od -> X.cJ.heap.get? a = none -> X.cJ.heap.get? T = none -> H a = none -> H T = none -> E (.ref C) od H -> X.xe (.ref a) s
section
variable {P : Program} {w : World} {K : PySem.W.Frag} {mg : Str -> Option Value} {base : Heap} {N : List Str} {qual : Str} {scope : Scope} {f : Addr} {cd : Value} {A : Around} {outer : List Env} {s0 : Shared} {H0 : Hp} {E : XK}
theorem JB : DV (gD (Bf P w) P w K mg base N qual scope f cd A outer s0 H0 E) E := by
 intro pins σ H s a T C od I tr na nT ha hT hE
 show wpAny _ _ (leaving _ (.ref a)) _ _ s
 refine wpAny_bind (u9 (base := base) I.ok.frames I.stack rfl tr fun h2 T2 Bg wB lv => ?_)
 have d' : s.heap.get? T2 = none -> s0.heap.get? T2 = none := fun z => by
  cases q : s0.heap.get? T2 with
  | none => rfl
  | some o =>
    obtain ⟨o2, z2⟩ := I.base.there T2 o q (by intro y; cases y)
    rw [z] at z2
    cases z2
 refine tN I lv (fun b hb => ?_) Bg ha ?_ na ?_ hE
 . have : b = a \/ b = T := by simpa using hb
   rcases this with rfl | rfl
   . exact ⟨ha, na⟩
   . exact ⟨hT, nT⟩
 . rcases wB with rfl | z
   . exact hT
   . exact I.bf.dead z
 . rcases wB with rfl | z
   . exact nT
   . exact d' z
theorem A0 : cX (nO P w) (gD (Bf P w) P w K mg base N qual scope f cd A outer s0 H0 E) (fun _ => E) := by
 intro pins σ H s e s' I ⟨a, T, C, od, H', he, os, bare, un, bf, tr, na, nT, ha, hT, hE⟩
 subst he
 have I' := I.qp (ch := []) os un bf bare (fun b z => nomatch z)
 have dead : ∀ b, s.heap.get? b = none -> s0.heap.get? b = none := fun b z => by
  cases q : s0.heap.get? b with
  | none => rfl
  | some o =>
    obtain ⟨o2, z2⟩ := I.base.there b o q (by intro y; cases y)
    rw [z] at z2
    cases z2
 show wpAny _ _ (leaving _ (.ref a)) _ _ s'
 refine wpAny_bind (lx (base := base) I'.ok.frames I'.stack rfl tr fun h2 T2 Bg wB lv => ?_)
 have d' : s'.heap.get? T2 = none -> s0.heap.get? T2 = none := fun z => by
  cases q : s0.heap.get? T2 with
  | none => rfl
  | some o =>
    obtain ⟨o2, z2⟩ := I'.base.there T2 o q (by intro y; cases y)
    rw [z] at z2
    cases z2
 refine tN I' lv (fun b hb => ?_) Bg.w ha ?_ (dead a na) ?_ hE
 . have : b = a \/ b = T := by simpa using hb
   rcases this with rfl | rfl
   . exact ⟨ha, dead _ na⟩
   . exact ⟨hT, dead _ nT⟩
 . rcases wB with rfl | z
   . exact hT
   . exact I'.bf.dead z
 . rcases wB with rfl | z
   . exact dead _ nT
   . exact d' z
end
def DM (tb : (St -> XK) -> TS) (hit : Addr -> Bool -> Prop) (ta : TA) (CN : Addr) (EX : XK) : TS := fun D σ H =>
 tb (fun σ' c od H' => ∃ C, c = .ref C /\ hit C true /\ ∀ a, H' a = none -> ta σ' (upd H' a (.ext (vj a C od))) fun vs H1 => vs.length <= sizeLine /\ H1 a = some (.ext (vj a C od)) /\ EX (.ref CN) none H1) D σ H
theorem CI {X : Cx} {body : List Stmt} {cl ex : Expr} {x : Str} {kx : Nat} {np dc kp Hi sr pos : Pos} {hit : Addr -> Bool -> Prop} {tb : (St -> XK) -> TS} {ta : TA} {CN : Addr} {EX : XK}
 (hb : ∀ (f : Value -> Shared -> Prop) (pn : List (Addr × Obj)) (E' : St -> XK), cX (nO X.prog X.w) (X.o9 f pn) E' -> qN (X.o9 f pn) body (tb E')) (hc : L7 X cl hit) (OA : ∀ a, PA (X.hand a) [ex] ta) (hP : DV X EX) (hg : Gl X x) (hm : X.mg x = some (.ref CN)) (hq : qa X.K CN)
 (hN : X.N.Nodup) (tq : X.stack = X.env :: X.outer) (hf : X.env.frame = some X.env.locals) (hex : X.ex = [])
 (Np : starEach [ex] X.env = (false, eval ex X.env) :: starEach [] X.env := by rfl) (lK : (backTo dc (starEach [ex] X.env)).any (·.1) = false := by rfl) (pA : (x == ("__debug__" : Str)) = false := by decide) :
 PS X (.Try body [.ExceptHandler (some cl) none [.Raise (some (.Call (.Name x np) [ex] [] dc)) (some (.Constant .none kx kp)) Hi] sr] [] [] pos) (DM tb hit ta CN EX) := by
 intro pins s σ H Dn I h
 refine wpAny_Try_except ?_
 refine wpAny_mono (hb (fun e s1 => wpAny (model X.prog X.w) X.A (noteFrame e X.env) (fun _ s2 => wpAny (model X.prog X.w) X.A (setFlight e none) (fun _ s3 => wpAny (model X.prog X.w) X.A (handleBy e X.env [.ExceptHandler (some cl) none [.Raise (some (.Call (.Name x np) [ex] [] dc)) (some (.Constant .none kx kp)) Hi] sr]) (SP X pins Dn) X.xe s3) X.xe s2) X.xe s1) (X.pn ++ pins) _ ?_ [] s σ H _ I.AQ h) ?_ (fun e s1 z => z)
 . intro pV σ' H1 s1 e s2 I1 ⟨a, T, C, od, H', he, os, bare, un, bf, tr, na, nT, ha, hT, C', HC, Lx, GR⟩
   subst he
   cases HC
   have I2 := I1.qp (ch := []) os un bf bare (fun b z => nomatch z)
   have J := I2.gW (pins := pins)
   have Jv := I1.gW (pins := pins)
   have iS : ∀ {s' : Shared} {zy : St} {Jx : Hp}, Inv X pins zy Jx s' -> ∀ b, s'.heap.get? b = none -> G5 X pins b := fun {s' zy Jx} I b z => by
    refine ⟨?_, fun y => ?_, fun x c e y => ?_, fun p hp y => ?_⟩
    . cases q : X.cJ.heap.get? b with
      | none => rfl
      | some o =>
        obtain ⟨o2, z2⟩ := I.base.there b o q (by rw [hex]; intro y; cases y)
        rw [z] at z2
        cases z2
    . obtain ⟨m, ⟨o, _, _, ho, _⟩, _⟩ := I.loc
      rw [<- y, z] at ho
      cases ho
    . obtain ⟨v, o, ho, _⟩ := I.cell x c e
      rw [y, z] at ho
      cases ho
    . have ho := (I.pin p hp).1
      rw [y, z] at ho
      cases ho
   have fa := iS Jv a na
   have fT := iS Jv T nT
   show wpAny _ _ (noteFrame (.ref a) X.env) _ _ s2
   refine lx (base := X.base) (by rw [<- tq]; exact J.ok.frames) (by rw [<- tq]; exact J.stack) hf tr fun h3 T3 Bc G6 lv => ?_
   have J3 : Inv X pins σ' H' { s2 with heap := h3 } := J.lv (S := [a, T]) (t' := s2.toks) (by rw [tq]; exact lv) fun b hb => by
    have : b = a \/ b = T := by simpa using hb
    rcases this with rfl | rfl
    . exact ⟨ha, fa⟩
    . exact ⟨hT, fT⟩
   have C6 : H' T3 = none /\ G5 X pins T3 := by
    rcases G6 with rfl | z
    . exact ⟨hT, fT⟩
    . exact ⟨J.bf.dead z, iS J _ z⟩
   refine wpAny_handleBy_cons (codeAny_handlers_test ?_) (by intro q; cases q)
   refine hc a C T3 od pins σ' H' _ _ _ true J3 Bc Lx fun h5 k5 => ?_
   have J5 : Inv X pins σ' H' { s2 with heap := h5 } := J3.kept (t' := s2.toks) fun b u e => k5 b u e
   have JI := Bc.keeps k5
   refine codeAny_handlers_suite ?_
   refine qW (s := { s2 with heap := h5 }) JI fun h6 NF k6 => ?_
   have J6 : Inv X pins σ' H' { s2 with heap := h6 } := J5.lv (S := [T3]) (t' := s2.toks) ⟨fun b o _ n2 z => k6 b o (by simpa using n2) z, fun b o m z => ⟨o.slots, k6 b o (fun y => by
    subst y
    obtain ⟨_, _, _, _, _, _, _, _, _, _, f7, f8, _⟩ := id JI
    obtain ⟨_, o', z', hn⟩ := J5.stack.mem m
    rw [f7] at z'
    cases z'
    exact hn _ f8) z⟩⟩ fun b hb => by
    have : b = T3 := by simpa using hb
    subst this
    exact C6
   obtain ⟨N6, Oe, O1, PJ, f1, f2, f3, f4, _, _, _, _, _, f5⟩ := id NF
   have J7 := J6.Ao ha fa.1 fa.2.1 fa.2.2.1 fa.2.2.2 (vj.ext ⟨N6, Oe, f1, f2, f3, f4, f5⟩)
   refine wpAny_execs_cons ?_
   obtain ⟨bm, N, nm, q, bs, hd, sn, sub, ab, col, dd, k0, k1, k2, k3, ND, mN, hC, OX, DR, TT⟩ := vb J7.mod.Bh hq
   refine q0 (C := CN) (nm := nm) (q := q) (N := N) (bs := bs) (bm := bm) (hdct := hd) (sn := sn) (sub := sub) (ab := ab) (col := col) (dd := dd) (k0 := k0) (k1 := k1) (k2 := k2) (k3 := k3) (k5 := ND) (mN := mN) (hd := a) PySem.F.excBase_ValueError (TT.hasType (by decide)) rfl lK DR ?_
   refine ez (X := X.hand a) J7.oz hg hm ?_ pA
   refine ⟨rfl, ?_⟩
   have hA := OA a dc pins _ σ' _ _ J7.oz (GR a ha)
   rw [Np] at hA ⊢
   refine Calls.evalArgs_plain (wpAny_mono hA (fun us s8 ⟨vs, H8, Om, r8, Mj, N3, OU⟩ => ?_) fun _ _ z => z.elim)
   have I8 := Om.oA J7.ok
   rw [r8.length] at Mj
   obtain ⟨⟨oa, va, g1, g2, g3, g4, g5⟩, _⟩ := (show c7 X.prog X.w H8 s8.heap a (.ext (vj a C od)) from I8.bf a _ N3)
   refine ⟨rfl, Mj, I8.bk _ _ hC, OX.at' fun o e => I8.bk _ _ e, TT.keeps I8.bk, ⟨oa, va, g1, g4, g5⟩, fun h9 e9 t9 EZ k9 NX => ?_⟩
   have I9 : Inv X pins σ' H8 { s8 with heap := h9 } := I8.kept (t' := s8.toks) fun b u e => k9 b u e
   show wpAny (model X.prog X.w) (X.A.mark (some (.ref a))) (noteFrame (.ref e9) X.env) (fun _ s => cameBackBy (model X.prog X.w) X.A X.env X.xe (.ref e9) s) _ _
   refine tF (base := X.base) (s := { s8 with heap := h9 }) (by rw [<- tq]; exact I9.ok.frames) (by rw [<- tq]; exact I9.stack) hf NX rfl rfl rfl fun h10 JX IW Kw Mf => ?_
   have f9 := iS I8 e9 EZ
   have MR : Inv X pins σ' H8 { s8 with heap := h10 } := I9.lv (S := [e9]) (t' := s8.toks) (by rw [tq]; exact Mf) fun b hb => by
    have : b = e9 := by simpa using hb
    subst this
    exact ⟨I8.bf.dead EZ, f9⟩
   have MT := iS I9 JX Kw
   refine HL (s := { s8 with heap := h10 }) IW fun h11 KP M6 => ?_
   have Oh : Inv X pins σ' H8 { s8 with heap := h11 } := MR.lv (S := [JX]) (t' := s8.toks) ⟨fun b o _ n2 z => M6 b o (by simpa using n2) z, fun b o m z => ⟨o.slots, M6 b o (fun y => by
    subst y
    obtain ⟨_, _, _, _, _, _, _, _, _, _, _, f7, f8, _⟩ := id IW
    obtain ⟨_, o', z', hn⟩ := MR.stack.mem m
    rw [f7] at z'
    cases z'
    exact hn _ f8) z⟩⟩ fun b hb => by
    have : b = JX := by simpa using hb
    subst this
    exact ⟨I9.bf.dead Kw, MT⟩
   exact hP pins σ' H8 _ e9 JX CN none Oh KP f9.1 MT.1 (I8.bf.dead EZ) (I9.bf.dead Kw) OU
 . intro f s1 q
   cases f with
   | next => obtain ⟨σ7, H7, J7, q8⟩ := q; exact wpAny_execs_nil ⟨σ7, H7, J7.gW, q8⟩
   | brk => obtain ⟨σ7, H7, J7, q8⟩ := q; exact ⟨σ7, H7, J7.gW, q8⟩
   | cont => obtain ⟨σ7, H7, J7, q8⟩ := q; exact ⟨σ7, H7, J7.gW, q8⟩
   | ret u => obtain ⟨v, σ7, H7, J7, r7, q8⟩ := q; exact ⟨v, σ7, H7, J7.gW, r7, q8⟩
def FJ (y : Str) : V -> Hp -> VK -> Prop := fun v H Q => ∃ x, v = .str x /\ x.length <= 1000 /\ y.length <= 1000 /\ ∀ z, Q (.str z) H
def Hv (te : TE) (y : Str) : TE := fun σ H Q => te σ H fun v H1 => FJ y v H1 Q
theorem Ap {X : Cx} {e : Expr} {te : TE} {y : Str} {k : Nat} {p1 p2 pos : Pos} (he : PE X e te) : PE X (.JoinedStr [.FormattedValue e (-1) none p1, .Constant (.str y) k p2] pos) (Hv te y) := by
 intro pins s σ H Q I h
 refine wpAny_JoinedStr ?_
 show wpAny _ _ (eval (.FormattedValue e (-1) none p1) X.env) _ _ s
 refine PySem.wpAny_FormattedValue_plain (bP (he pins s σ H _ I h) fun v s1 ⟨w, H1, I1, r1, x, e, hl, hy, q⟩ => ?_)
 subst e
 obtain ⟨t, rfl⟩ := r1
 have e0 : (Str.empty ++ x).length = x.length := by rw [strLen_append]; show 0 + _ = _; omega
 refine formatField_str (fun t' tk => ⟨x, t', rfl, small (m := 1000) (by rw [e0]; exact hl), ?_⟩) (small hl)
 show wpAny _ _ (eval (.Constant (.str y) k p2) X.env) _ _ _
 refine Calls.Constant_str ⟨y, _, rfl, ?_, ?_, ?_⟩
 . exact small (m := 2000) (by rw [strLen_append, e0]; omega)
 . exact small (m := 2000) (by rw [strLen_append, e0]; omega)
 . exact ⟨.str _, H1, (I1.tok _).tok _, ⟨_, rfl⟩, q _⟩
section
variable {σ : St} {H : Hp} {Q : VK}
theorem Ju {te : TE} {y : Str} (h : te σ H fun v H1 => FJ y v H1 Q) : Hv te y σ H Q := h
theorem FR {x y : Str} (h1 : x.length <= 1000) (h2 : y.length <= 1000) (h : ∀ z, Q (.str z) H) : FJ y (.str x) H Q := ⟨x, rfl, h1, h2, h⟩
end
theorem pF {X : Cx} {k : Nat} {f C : Addr} {ps : List Str} {sp : Sp} {cV : List V} {E : St -> XK} {x m : Str} {p pos apos : Pos} {e : Expr} {es : List Expr} {t : TA} {pl : Sem Bool}
 (hg : Gl X x) (hm : X.mg x = some (.ref C)) (B : A2 X.K C m f) (c : lP X.prog X.w X.K X.mg X.base k f ps cV sp) (hr : c6 k X.A) (hx : cX (nO X.prog X.w) X E) (ha : PA X (e :: es) t)
 (pA : (x == ("__debug__" : Str)) = false := by decide)
 (tq : starEach (e :: es) X.env = (false, eval e X.env) :: starEach es X.env := by rfl) (kH : (backTo pos (starEach es X.env)).any (·.1) = false := by rfl)
 (ht : eval (.Call (.Attribute (.Name x p) m apos) (e :: es) [] pos) X.env = (do
  let ov <- eval (.Name x p) X.env
  standAt apos.atName
  let (f, first) <- holding [ov] (getMethod ov m pl)
  callWith pos f first (backTo pos (starEach (e :: es) X.env)) (backToKw pos (keywordEach [] X.env))) := by rfl) :
 PE X (.Call (.Attribute (.Name x p) m apos) (e :: es) [] pos) (sQ sp cV E t) := by
 obtain ⟨fd, ds, F, hb, hd⟩ := c.ex
 intro pins s σ H Q I h
 refine PySem.W.methodCall_KW (pl := pl) (ez I hg hm ?_ pA) ht
 refine PySem.W.method_cls I.iZ B.ga ?_
 refine PySem.W.cls_value I.iZ B.rd B.fd rfl ?_
 have I' : Inv X pins σ H { s with toks := s.toks + 1 } := I.tok _
 refine PySem.W.callWith_K (first := []) (h₀ := X.base) I.ok.mod.Bh B.kp (bP (ha pos pins _ σ H _ I' h) fun us s2 ⟨vs, H2, I2, r, q2⟩ => ⟨I2.iZ, ?_⟩) tq kH
 exact sx F hr hb hd hx I2 r (gg.out q2)
end L2
set_option maxHeartbeats 4000000
namespace My
open PySem L2
def num (c : Int) : Int := if c % 3 = 0 then c / 3 % 7 else if c % 3 = 1 then c / 3 % 1000 else c / 3 % 10 ^ 39
def Kv (m : V) (n : Int) : Int := match m with
 | .int i => if i <= n then i else n
 | _ => n
def LW (m : V) (n : Int) (d : PyData) : PyData := match m with
 | .int i => if i <= n then .none else d
 | _ => d
def place (m : V) (n : Int) (d : PyData) : PyData := .tuple [.int (Kv m n), LW m n d]
def ql : List V -> List (Str × V)
 | [f, .cn] => [("many", .int 1), ("first", f), ("last", f)]
 | [f, l] => [("many", .int 1), ("first", f), ("last", l)]
 | _ => []
def pR : List V -> List (Str × V)
 | [st, sp, wd, m] => [("many", m), ("start", st), ("step", sp), ("wide", wd)]
 | _ => []
def gm : List V -> List (Str × V)
 | [st, gp, wd, m] => [("many", m), ("start", st), ("gap", gp), ("wide", wd)]
 | _ => []
def fF : List V -> List (Str × V)
 | [st, gp, mo, wd, m] => [("many", m), ("start", st), ("gap", gp), ("wide", wd), ("most", mo)]
 | _ => []
inductive Wk (R : Int -> Int -> Int × Int) (now : Int) : Int -> Int -> Int -> Int -> Int -> Int -> Prop where
 | here {num x y : Int} (h : now < y) : Wk R now num x y num x y
 | next {num x y k x' y' : Int} (h : y <= now) (w : Wk R now (num + 1) (R num y).1 (R num y).2 k x' y') : Wk R now num x y k x' y'
theorem Wk.inj {R : Int -> Int -> Int × Int} {now num x y k x' y' k2 x2 y2 : Int} (h : Wk R now num x y k x' y') (g : Wk R now num x y k2 x2 y2) : k = k2 /\ x' = x2 /\ y' = y2 := by
 induction h with
 | here h =>
   cases g with
   | here _ => exact ⟨rfl, rfl, rfl⟩
   | next h2 _ => omega
 | next h _ ih =>
   cases g with
   | here h2 => omega
   | next _ w => exact ih w
local macro_rules | `(tactic| walk_at "same") => `(tactic| first
 | exact ao.refl _
 | assumption
 | (refine' ao.trans ?m ?s; (case s => assumption); (case m => walk_at "same")))
local macro_rules | `(tactic| walk_at "at") => `(tactic| first
 | assumption
 | exact aO
 | (refine' ao.at ?s ?m; (case s => assumption); (case m => walk_at "at")))
local macro_rules | `(tactic| walk_at "dat") => `(tactic| first
 | exact Dv.int _
 | exact Dv.cn
 | exact Dv.bl _
 | exact Dv.str _
 | assumption
 | (refine' Dv.keeps ?s ?m; (case s => assumption); (case m => walk_at "dat")))
local macro_rules | `(tactic| walk_at "ins") => `(tactic| first
 | assumption
 | (refine' tm.keeps ?s ?m; (case s => assumption); (case m => walk_at "ins")))
local macro_rules | `(tactic| walk_at "dats") => `(tactic| first
 | exact ck.nil
 | (refine' ck.cons ?m ?s; (case m => walk_at "dat"); (case s => walk_at "dats"))
 | assumption
 | (refine' ck.keeps ?s ?m; (case s => assumption); (case m => walk_at "dats")))
local macro_rules | `(tactic| walk_at "sql") => `(tactic| first
 | assumption
 | (refine' ao.seq ?s ?m; (case s => assumption); (case m => walk_at "sql")))
local macro_rules | `(tactic| walk_at "isq") => `(tactic| first
 | (refine' Or.inl ?m; case m => walk_at "dat")
 | (refine' Or.inr ?m; case m => walk_at "dat"))
set_option hygiene false in
local macro_rules | `(tactic| walk_at "side") => `(tactic| first
 | omega
 | assumption
 | exact (by decide)
 | exact IM (by omega) (by omega)
 | exact ⟨by decide, by decide, by decide⟩)
set_option hygiene false in
local macro_rules | `(tactic| walk_at "use") => `(tactic| fail)
set_option hygiene false in
local macro_rules | `(tactic| walk_at "lk") => `(tactic| fail)
set_option hygiene false in
local macro_rules | `(tactic| walk_at "put") => `(tactic| fail)
set_option hygiene false in
local macro_rules | `(tactic| walk_at "fin") => `(tactic| fail)
set_option hygiene false in
local macro_rules | `(tactic| walk_at "wds") => `(tactic| first
 | with_reducible refine uZ (ws := [_]) rfl ?_
 | with_reducible refine uZ (ws := [_, _]) rfl ?_
 | with_reducible refine uZ (ws := [_, _, _]) rfl ?_
 | with_reducible refine uZ (ws := [_, _, _, _]) rfl ?_
 | with_reducible refine uZ (ws := [_, _, _, _, _]) rfl ?_
 | with_reducible refine uZ (ws := [_, _, _, _, _, _]) rfl ?_
 | with_reducible refine uZ (ws := []) rfl ?_)
set_option hygiene false in
local macro_rules | `(tactic| walk_at "mks") => `(tactic| first
 | fail)
local macro_rules | `(tactic| walk_at "br") => `(tactic| ((with_reducible refine Hu (fun hb => ?_) (fun hb => ?_)) <;> (try simp only [id, decide_eq_true_eq, decide_eq_false_iff_not, Bool.not_eq_true', Bool.not_eq_false', Bool.not_true, Bool.not_false, V.int.injEq, Bool.true_eq_false, Bool.false_eq_true, reduceCtorEq, decide_true, decide_false, not_true, not_false_iff, PyData.eqv, PyData.eqvAll, Bool.and_eq_true, Bool.and_eq_false_iff, Bool.or_eq_true, Bool.or_eq_false_iff, beq_iff_eq, beq_eq_false_iff_ne, ne_eq, bne_iff_ne, Bool.and_true, Bool.and_false, Bool.and_self, beq_self_eq_true, isInt, isBool, isStr, IC, isTup, Je, List.length_cons, List.length_nil] at hb) <;> (try (exfalso; omega)) <;> (try (exfalso; (refine' Lp hb ?d); (case d => walk_at "dat")))))
local macro_rules | `(tactic| walk_at "rd1") => `(tactic| first
 | with_reducible refine Eo ?_
 | with_reducible refine Iw ?_
 | with_reducible refine Im ?_
 | with_reducible refine Fi ?_
 | with_reducible refine Jr ?_
 | ((with_reducible refine' DC ?e ?_); case e => exact rfl)
 | with_reducible refine N8 ?_
 | with_reducible refine Kx ?_
 | with_reducible refine Lf ?_
 | with_reducible refine L8 ?_
 | ((with_reducible refine' Fl ?e1 ?e2 ?_); (case e1 => exact ⟨by decide, by decide, by decide⟩); (case e2 => ((conv => lhs; simp only [Int.reduceToNat]) <;> exact rfl)))
 | ((with_reducible refine' OM ?e ?_); case e => walk_at "side")
 | with_reducible refine Nx ?_
 | with_reducible refine Fd ?_
 | with_reducible refine Jd ?_
 | with_reducible refine B6 ?_
 | with_reducible refine Kq ?_
 | with_reducible refine Gz ?_
 | with_reducible refine Iu ?_
 | with_reducible refine KW ?_
 | with_reducible refine HM ?_
 | with_reducible refine Eu ?_
 | with_reducible refine Hm ?_
 | with_reducible refine E9 ?_
 | with_reducible refine Ia ?_
 | with_reducible refine LD ?_
 | with_reducible refine Fu ?_
 | with_reducible refine AV ?_
 | with_reducible refine xT ?_
 | walk_at "br"
 | with_reducible refine Fc ?_
 | ((with_reducible refine' HN ?e ?_); case e => exact rfl)
 | ((with_reducible refine' DL ?e1 ?e2 ?e3 ?e4 ?e5 ?_); (case e1 => walk_at "dat"); (case e2 => walk_at "dat"); (case e3 => first | rfl | assumption); (case e4 => first | rfl | assumption); (case e5 => first | exact Nat.le_of_ble_eq_true rfl | assumption))
 | ((with_reducible refine' kP ?e1 ?e2 ?_); (case e1 => walk_at "isq"); (case e2 => exact rfl))
 | ((with_reducible refine' z0 ?e ?_); case e => walk_at "isq")
 | ((with_reducible refine' EL ?e ?_); case e => walk_at "sql")
 | ((with_reducible refine' E4 ?e1 ?e2 ?_); (case e1 => omega); (case e2 => omega))
 | ((with_reducible refine' GL ?e (fun _ _ => ?_)); case e => walk_at "side")
 | with_reducible refine K4 ?_
 | with_reducible refine Ex ?_
 | ((with_reducible refine' Bk ?e1 ?e2 ?e3 ?e4 ?e5 ?_); (case e1 => walk_at "at"); (case e2 => assumption); (case e3 => assumption); (case e4 => exact C7 rfl); (case e5 => walk_at "put"))
 | ((with_reducible refine' F1 ?e1 ?e2 ?e3 ?e4 ?_); (case e1 => walk_at "ins"); (case e2 => assumption); (case e3 => assumption); (case e4 => walk_at "lk"))
 | ((with_reducible refine' xg ?e1 ?e2 ?_); (case e1 => walk_at "ins"); (case e2 => walk_at "lk"))
 | ((with_reducible refine' x6 ?e ?_); case e => walk_at "dat")
 | ((with_reducible refine' vm ?e ?_); case e => walk_at "dat")
 | ((with_reducible refine' yy ?e ?_); case e => walk_at "dat")
 | with_reducible refine C8 ?_
 | with_reducible refine BE ?_
 | with_reducible refine BZ ?_
 | with_reducible refine FX ?_
 | ((with_reducible refine' FE ?e1 ?e2 (fun _ _ _ _ => ?_)); (case e1 => exact uh rfl); (case e2 => walk_at "dats"))
 | with_reducible refine Et ?_
 | ((with_reducible refine' Gv ?e1 ?e2 (fun _ _ _ _ _ _ _ => ?_)); (case e1 => exact uh rfl); (case e2 => walk_at "dats"))
 | with_reducible refine Hs ?_
 | with_reducible refine wI ?_
 | ((with_reducible refine wy ?_); (with_reducible refine wI ?_); ((with_reducible refine' DC ?e ?_); case e => exact rfl); ((with_reducible refine' xg ?e1 ?e2 ?_); (case e1 => walk_at "ins"); (case e2 => walk_at "lk")))
 | with_reducible refine oX ?_
 | with_reducible refine GA ?_
 | with_reducible refine wz (fun _ _ => ?_)
 | walk_at "wds"
 | walk_at "mks"
 | walk_at "use"
 | walk_at "fin")
local macro_rules | `(tactic| walk_at "lat") => `(tactic| first
 | assumption
 | (refine' dn.keeps ?s ?m; (case s => assumption); (case m => walk_at "lat"))
 | (refine' dn.mv ?s ?n ?m; (case s => assumption); (case n => walk_at "nin"); (case m => walk_at "lat"))
 | fail)
local macro_rules | `(tactic| walk_at "nin") => `(tactic| first
 | (refine' AU ?n1; (case n1 => walk_at "ne"))
 | fail)
local macro_rules | `(tactic| walk_at "ne") => `(tactic| first
 | assumption
 | (refine Ne.symm ?_; assumption)
 | (refine' dn.ne ?h ?n; (case n => assumption); (case h => walk_at "lat"))
 | (refine' Ne.symm (dn.ne ?h ?n); (case n => assumption); (case h => walk_at "lat"))
 | fail)
local macro_rules | `(tactic| walk_at "dla") => `(tactic| first
 | assumption
 | (refine' JP.keeps ?s ?m; (case s => assumption); (case m => walk_at "dla"))
 | (refine' JP.mv ?s ?n ?m; (case s => assumption); (case n => walk_at "nin"); (case m => walk_at "dla"))
 | fail)
local macro_rules | `(tactic| walk_at "ne") => `(tactic| first
 | (refine' JP.ne ?h ?n; (case n => assumption); (case h => walk_at "dla"))
 | (refine' Ne.symm (JP.ne ?h ?n); (case n => assumption); (case h => walk_at "dla"))
 | fail)
local macro_rules | `(tactic| walk_at "imm") => `(tactic| first
 | rfl
 | assumption
 | exact lH (fun _ => rfl) _
 | (refine' dn.GV ?h; (case h => assumption))
 | fail)
local macro_rules | `(tactic| walk_at "dm") => `(tactic| first
 | exact fun _ h => h
 | (refine' zg ?a ?b; (case b => first | (refine' ao.OW ?c; (case c => assumption)) | (refine' Mv.dm ?c; (case c => assumption)) | fail); (case a => walk_at "dm"))
 | fail)
local macro_rules | `(tactic| walk_at "none") => `(tactic| first
 | assumption
 | (refine' EH ?s ?m; (case m => assumption); (case s => walk_at "dm"))
 | fail)
local macro_rules | `(tactic| walk_at "same") => `(tactic| first
 | (refine' Mv.D4 ?s ?m ?n; (case m => assumption); (case s => walk_at "same"); (case n => walk_at "none"))
 | fail)
local macro_rules | `(tactic| walk_at "mv") => `(tactic| first
 | exact Mv.refl
 | assumption
 | (refine' Mv.step ?m ?s ?h; (case s => assumption); (case m => walk_at "mv"); (case h => walk_at "ours"))
 | fail)
set_option hygiene false in
local macro_rules | `(tactic| walk_at "ours") => `(tactic| first
 | fail)
local macro_rules | `(tactic| walk_at "dat") => `(tactic| first
 | (refine' dn.dv ?m; (case m => walk_at "lat"))
 | fail)
local macro_rules | `(tactic| walk_at "dats") => `(tactic| first
 | (refine' Mv.zP ?s ?i ?m; (case s => assumption); (case i => walk_at "imm"); (case m => walk_at "dats"))
 | fail)
set_option hygiene false in
local macro_rules | `(tactic| walk_at "len") => `(tactic| first
 | (simp only [List.length_map, List.length_append, List.length_cons, List.length_nil]; omega)
 | omega
 | fail)
local macro_rules | `(tactic| walk_at "rd1") => `(tactic| first
 | with_reducible refine Dg ?_
 | with_reducible refine FI ?_
 | with_reducible refine Gu ?_
 | with_reducible refine Fj ?_
 | ((with_reducible refine' Jq ?e ?_); case e => walk_at "dat")
 | ((with_reducible refine' CM ?e ?_); case e => walk_at "len")
 | with_reducible refine Cp ?_
 | with_reducible refine Dl ?_
 | with_reducible refine LK ?_
 | with_reducible refine IT ?_
 | ((with_reducible refine' Hj ?e ?_); case e => walk_at "lat")
 | ((with_reducible refine' HB ?e1 ?e2 ?e3 ?e4 (fun _ _ _ => ?_)); (case e1 => walk_at "lat"); (case e3 => walk_at "dat"); (case e2 => walk_at "len"); (case e4 => walk_at "imm"))
 | ((with_reducible refine' u0 ?e1 ?e2 ?e3 (fun _ _ _ _ _ => ?_)); (case e1 => exact uh rfl); (case e2 => walk_at "dats"); (case e3 => exact rfl))
 | with_reducible refine KA ?_
 | with_reducible refine EG ?_
 | with_reducible refine yR ?_
 | with_reducible refine BQ ?_
 | with_reducible refine Hr ?_
 | ((with_reducible refine' Fg ?e ?e2 ?_); (case e => walk_at "dat"); (case e2 => simp))
 | ((with_reducible refine' A3 ?e ?_); case e => walk_at "dat")
 | ((with_reducible refine' Fe ?e ?_); case e => walk_at "dat")
 | ((with_reducible refine' kP ?e1 ?e2 ?_); (case e1 => walk_at "isq"); (case e2 => first | exact G4 | (refine' yP ?a ?b; (case a => omega); (case b => walk_at "len")) | fail))
 | fail)
local macro_rules | `(tactic| walk_at "rd1") => `(tactic| first
 | with_reducible refine HI ?_
 | ((with_reducible refine' sP ?e1 ?e2 ?_); (case e1 => walk_at "dat"); (case e2 => walk_at "jn"))
 | ((with_reducible refine' Iq ?e1 (fun _ _ _ => ?_)); (case e1 => walk_at "lat"))
 | ((with_reducible refine' sv _ ?e1 (fun _ _ _ _ _ => ?_)); (case e1 => walk_at "lat"))
 | ((with_reducible refine' zM _ ?e1 (fun _ _ _ _ _ => ?_)); (case e1 => walk_at "lat"))
 | ((with_reducible refine' As ?e1 ?e2 ?e3 (fun _ _ _ _ _ => ?_)); (case e1 => walk_at "lat"); (case e2 => walk_at "lat"); (case e3 => walk_at "len"))
 | fail)
set_option hygiene false in
local macro_rules | `(tactic| walk_at "rd1") => `(tactic| first
 | fail)
local macro_rules | `(tactic| walk_at "rd1") => `(tactic| first
 | with_reducible refine zZ ?_
 | with_reducible refine zj ?_
 | ((with_reducible refine' Jw ?e1 ?_); (case e1 => walk_at "len"))
 | ((with_reducible refine' F0 ?e1 ?e2 ?_); (case e1 => assumption); (case e2 => walk_at "len"))
 | ((with_reducible refine' Ff ?e1 ?e2 ?e3 (fun _ _ _ => ?_)); (case e1 => exact rfl); (case e2 => omega); (case e3 => omega))
 | fail)
set_option hygiene false in
local macro_rules | `(tactic| walk_at "rd1") => `(tactic| first
 | fail)
set_option hygiene false in
local macro_rules | `(tactic| walk_at "rd1") => `(tactic| first
 | fail)
set_option hygiene false in
local macro_rules | `(tactic| walk_at "rd1") => `(tactic| first
 | with_reducible refine Bu ?_
 | with_reducible refine Dd ?_
 | with_reducible refine zz ?_
 | fail)
set_option hygiene false in
local macro_rules | `(tactic| walk_at "rd1") => `(tactic| first
 | with_reducible refine GK ?_
 | fail)
local macro_rules | `(tactic| walk_at "rd1") => `(tactic| first
 | with_reducible refine Ju ?_
 | ((with_reducible refine' FR ?e1 ?e2 (fun _ => ?_)); (case e1 => first | assumption | decide +kernel); (case e2 => decide +kernel))
 | fail)
def top (i : Nat) : Stmt := PySem.Challenge.pw_wakefew_k74_words_that_are_no_rule.main.body.getD i (.Pass ⟨0, 0, 0, 0⟩)
set_option hygiene false in
local macro_rules | `(tactic| walk_at "scp") => `(tactic| exact ⟨rfl, rfl, rfl, by decide +kernel, rfl, by decide +kernel, by decide +kernel⟩)
abbrev lF : Stmt := top 7
theorem ur : aH ["thing"] ["thing"] (ak lF) := by walk_at "scp"
abbrev n8 : Stmt := top 8
theorem iQ : aH ["number", "piece", "parts"] ["number"] (ak n8) := by walk_at "scp"
abbrev iC : Stmt := top 10
theorem rg : aH ["number", "least", "what"] ["number", "least", "what"] (ak iC) := by walk_at "scp"
abbrev og : Stmt := top 11
theorem vJ : aH ["number"] ["number"] (ak og) := by walk_at "scp"
abbrev m9 : Stmt := top 12
theorem yB : aH ["kind", "numbers"] ["kind", "numbers"] (ak m9) := by walk_at "scp"
abbrev eY : Stmt := inClass (top 13) 0
theorem nQ : aH ["self", "many"] ["self", "many"] (ak eY) := by walk_at "scp"
abbrev eK : Stmt := inClass (top 14) 0
theorem g0 : aH ["self", "first", "last"] ["self", "first", "last"] (ak eK) := by walk_at "scp"
abbrev iG : Stmt := inClass (top 14) 4
theorem qV : aH ["self"] ["self"] (ak iG) := by walk_at "scp"
abbrev eN : Stmt := inClass (top 15) 0
theorem oq : aH ["self", "start", "step", "wide", "many"] ["self", "start", "step", "wide", "many"] (ak eN) := by walk_at "scp"
abbrev iH : Stmt := inClass (top 15) 5
theorem qR : aH ["self"] ["self"] (ak iH) := by walk_at "scp"
abbrev dR : Stmt := inClass (top 16) 0
theorem lG : aH ["self", "start", "gap", "wide", "many"] ["self", "start", "gap", "wide", "many"] (ak dR) := by walk_at "scp"
abbrev fA : Stmt := inClass (top 16) 6
theorem oY : aH ["self"] ["self"] (ak fA) := by walk_at "scp"
abbrev dC : Stmt := inClass (top 17) 0
theorem j7 : aH ["self", "start", "gap", "most", "wide", "many"] ["self", "start", "gap", "most", "wide", "many"] (ak dC) := by walk_at "scp"
abbrev eQ : Stmt := inClass (top 17) 3
theorem oo : aH ["self"] ["self"] (ak eQ) := by walk_at "scp"
abbrev qz : Stmt := top 22
theorem yt : aH ["good"] ["good"] (ak qz) := by walk_at "scp"
abbrev gq : Stmt := top 23
theorem nE : aH ["text", "row"] ["text"] (ak gq) := by walk_at "scp"
abbrev iP : Stmt := top 24
theorem qU : aH ["text"] ["text"] (ak iP) := by walk_at "scp"
abbrev jt : Stmt := top 25
theorem rS : aH ["word"] ["word"] (ak jt) := by walk_at "scp"
abbrev dN : Stmt := top 26
theorem kA : aH ["words", "kind"] ["words"] (ak dN) := by walk_at "scp"
abbrev js : Stmt := top 27
theorem rZ : aH ["kind", "numbers"] ["kind", "numbers"] (ak js) := by walk_at "scp"
abbrev jz : Stmt := top 28
theorem fe : aH ["text", "kind", "numbers"] ["text"] (ak jz) := by walk_at "scp"
abbrev fH : Stmt := top 30
theorem o7 : aH ["_law_script", "_law_k"] ["_law_script", "_law_k"] (ak fH) := by walk_at "scp"
abbrev gC : Stmt := top 31
theorem qF : aH ["_law_cell"] ["_law_cell"] (ak gC) := by walk_at "scp"
abbrev iF : Stmt := top 32
theorem cU : aH ["_law_script", "_law_kind", "_law_start", "_law_gap", "_law_wide", "_law_many"] ["_law_script"] (ak iF) := by walk_at "scp"
abbrev fx : Stmt := top 33
theorem du : aH ["_law_words_here", "_law_cell", "_law_place", "_law_odd", "_law_word"] ["_law_words_here", "_law_cell"] (ak fx) := by walk_at "scp"
abbrev ic : Stmt := top 34
theorem lh : aH ["_law_word", "_law_sign"] ["_law_word"] (ak ic) := by walk_at "scp"
abbrev fS : Stmt := top 35
theorem ik : aH ["_law_text", "_law_words_here", "_law_numbers"] ["_law_text"] (ak fS) := by walk_at "scp"
abbrev fz : Stmt := top 36
theorem jh : aH ["_law_thing", "e"] ["_law_thing"] (ak fz) := by walk_at "scp"
abbrev Ag : Stmt := top 37
theorem ow : aH ["_law_script", "_law_words_here", "_law_text", "_law_other"] ["_law_script"] (ak Ag) := by walk_at "scp"
abbrev a9 : List (Str × Int) := [("once", 2), ("each", 4), ("behind", 4), ("slowing", 5)]
theorem kJ : ¬ (("many" : Str) = "first") := by decide +kernel
theorem nk : ¬ (("many" : Str) = "last") := by decide +kernel
theorem ka : ¬ (("first" : Str) = "many") := by decide +kernel
theorem kn : ¬ (("first" : Str) = "last") := by decide +kernel
theorem ny : ¬ (("last" : Str) = "many") := by decide +kernel
theorem kK : ¬ (("last" : Str) = "first") := by decide +kernel
theorem gZ : ¬ (("__init__" : Str) = "many") := by decide +kernel
theorem fV : ¬ (("__init__" : Str) = "first") := by decide +kernel
theorem gX : ¬ (("__init__" : Str) = "last") := by decide +kernel
theorem kz : ¬ (("begin" : Str) = "many") := by decide +kernel
theorem jj : ¬ (("begin" : Str) = "first") := by decide +kernel
theorem k7 : ¬ (("begin" : Str) = "last") := by decide +kernel
theorem jD : ¬ (("follow" : Str) = "many") := by decide +kernel
theorem i7 : ¬ (("follow" : Str) = "first") := by decide +kernel
theorem jn : ¬ (("follow" : Str) = "last") := by decide +kernel
theorem jk : ¬ (("let_by" : Str) = "many") := by decide +kernel
theorem jc : ¬ (("let_by" : Str) = "first") := by decide +kernel
theorem jl : ¬ (("let_by" : Str) = "last") := by decide +kernel
theorem kF : ¬ (("words" : Str) = "many") := by decide +kernel
theorem jN : ¬ (("words" : Str) = "first") := by decide +kernel
theorem ki : ¬ (("words" : Str) = "last") := by decide +kernel
theorem nM : ¬ (("twin" : Str) = "many") := by decide +kernel
theorem km : ¬ (("twin" : Str) = "first") := by decide +kernel
theorem nz : ¬ (("twin" : Str) = "last") := by decide +kernel
theorem gU : ¬ (("place_of" : Str) = "many") := by decide +kernel
theorem gj : ¬ (("place_of" : Str) = "first") := by decide +kernel
theorem gT : ¬ (("place_of" : Str) = "last") := by decide +kernel
theorem kI : ¬ (("many" : Str) = "start") := by decide +kernel
theorem nB : ¬ (("many" : Str) = "step") := by decide +kernel
theorem mY : ¬ (("many" : Str) = "wide") := by decide +kernel
theorem kZ : ¬ (("start" : Str) = "many") := by decide +kernel
theorem kX : ¬ (("start" : Str) = "step") := by decide +kernel
theorem k8 : ¬ (("start" : Str) = "wide") := by decide +kernel
theorem mz : ¬ (("step" : Str) = "many") := by decide +kernel
theorem kQ : ¬ (("step" : Str) = "start") := by decide +kernel
theorem mC : ¬ (("step" : Str) = "wide") := by decide +kernel
theorem lZ : ¬ (("wide" : Str) = "many") := by decide +kernel
theorem kC : ¬ (("wide" : Str) = "start") := by decide +kernel
theorem mO : ¬ (("wide" : Str) = "step") := by decide +kernel
theorem fY : ¬ (("__init__" : Str) = "start") := by decide +kernel
theorem g7 : ¬ (("__init__" : Str) = "step") := by decide +kernel
theorem gS : ¬ (("__init__" : Str) = "wide") := by decide +kernel
theorem fJ : ¬ (("stretch_of" : Str) = "many") := by decide +kernel
theorem fb : ¬ (("stretch_of" : Str) = "start") := by decide +kernel
theorem fD : ¬ (("stretch_of" : Str) = "step") := by decide +kernel
theorem fB : ¬ (("stretch_of" : Str) = "wide") := by decide +kernel
theorem jP : ¬ (("begin" : Str) = "start") := by decide +kernel
theorem kl : ¬ (("begin" : Str) = "step") := by decide +kernel
theorem kO : ¬ (("begin" : Str) = "wide") := by decide +kernel
theorem iW : ¬ (("follow" : Str) = "start") := by decide +kernel
theorem jK : ¬ (("follow" : Str) = "step") := by decide +kernel
theorem jC : ¬ (("follow" : Str) = "wide") := by decide +kernel
theorem jf : ¬ (("let_by" : Str) = "start") := by decide +kernel
theorem jS : ¬ (("let_by" : Str) = "step") := by decide +kernel
theorem jq : ¬ (("let_by" : Str) = "wide") := by decide +kernel
theorem jF : ¬ (("words" : Str) = "start") := by decide +kernel
theorem kL : ¬ (("words" : Str) = "step") := by decide +kernel
theorem kU : ¬ (("words" : Str) = "wide") := by decide +kernel
theorem ku : ¬ (("twin" : Str) = "start") := by decide +kernel
theorem nF : ¬ (("twin" : Str) = "step") := by decide +kernel
theorem mX : ¬ (("twin" : Str) = "wide") := by decide +kernel
theorem gi : ¬ (("place_of" : Str) = "start") := by decide +kernel
theorem gL : ¬ (("place_of" : Str) = "step") := by decide +kernel
theorem gO : ¬ (("place_of" : Str) = "wide") := by decide +kernel
theorem oS : ¬ (("many" : Str) = "gap") := by decide +kernel
theorem mV : ¬ (("start" : Str) = "gap") := by decide +kernel
theorem oV : ¬ (("gap" : Str) = "many") := by decide +kernel
theorem mQ : ¬ (("gap" : Str) = "start") := by decide +kernel
theorem oE : ¬ (("gap" : Str) = "wide") := by decide +kernel
theorem oP : ¬ (("wide" : Str) = "gap") := by decide +kernel
theorem iU : ¬ (("__init__" : Str) = "gap") := by decide +kernel
theorem gA : ¬ (("gap_ahead" : Str) = "many") := by decide +kernel
theorem fM : ¬ (("gap_ahead" : Str) = "start") := by decide +kernel
theorem gQ : ¬ (("gap_ahead" : Str) = "gap") := by decide +kernel
theorem gs : ¬ (("gap_ahead" : Str) = "wide") := by decide +kernel
theorem nj : ¬ (("begin" : Str) = "gap") := by decide +kernel
theorem lq : ¬ (("follow" : Str) = "gap") := by decide +kernel
theorem kq : ¬ (("let_by" : Str) = "gap") := by decide +kernel
theorem lV : ¬ (("leap" : Str) = "many") := by decide +kernel
theorem lg : ¬ (("leap" : Str) = "start") := by decide +kernel
theorem oU : ¬ (("leap" : Str) = "gap") := by decide +kernel
theorem me : ¬ (("leap" : Str) = "wide") := by decide +kernel
theorem ml : ¬ (("words" : Str) = "gap") := by decide +kernel
theorem oI : ¬ (("twin" : Str) = "gap") := by decide +kernel
theorem jd : ¬ (("place_of" : Str) = "gap") := by decide +kernel
theorem nA : ¬ (("many" : Str) = "most") := by decide +kernel
theorem ko : ¬ (("start" : Str) = "most") := by decide +kernel
theorem oQ : ¬ (("gap" : Str) = "most") := by decide +kernel
theorem m7 : ¬ (("wide" : Str) = "most") := by decide +kernel
theorem mH : ¬ (("most" : Str) = "many") := by decide +kernel
theorem la : ¬ (("most" : Str) = "start") := by decide +kernel
theorem oF : ¬ (("most" : Str) = "gap") := by decide +kernel
theorem nN : ¬ (("most" : Str) = "wide") := by decide +kernel
theorem gM : ¬ (("__init__" : Str) = "most") := by decide +kernel
theorem gu : ¬ (("gap_ahead" : Str) = "most") := by decide +kernel
theorem jR : ¬ (("let_by" : Str) = "most") := by decide +kernel
theorem kj : ¬ (("words" : Str) = "most") := by decide +kernel
theorem mx : ¬ (("twin" : Str) = "most") := by decide +kernel
theorem kM : ¬ (("begin" : Str) = "most") := by decide +kernel
theorem jE : ¬ (("follow" : Str) = "most") := by decide +kernel
theorem nq : ¬ (("leap" : Str) = "most") := by decide +kernel
theorem gJ : ¬ (("place_of" : Str) = "most") := by decide +kernel
set_option hygiene false in
local macro_rules | `(tactic| walk_at "lk") => `(tactic| first
 | assumption
 | (rw [oJ]; ((conv => lhs; simp only [look, reduceIte, ql, pR, gm, fF, kJ, nk, ka, kn, ny, kK, gZ, fV, gX, kz, jj, k7, jD, i7, jn, jk, jc, jl, kF, jN, ki, nM, km, nz, gU, gj, gT, kI, nB, mY, kZ, kX, k8, mz, kQ, mC, lZ, kC, mO, fY, g7, gS, fJ, fb, fD, fB, jP, kl, kO, iW, jK, jC, jf, jS, jq, jF, kL, kU, ku, nF, mX, gi, gL, gO, oS, mV, oV, mQ, oE, oP, iU, gA, fM, gQ, gs, nj, lq, kq, lV, lg, oU, me, ml, oI, jd, nA, ko, oQ, m7, mH, la, oF, nN, gM, gu, jR, kj, mx, kM, jE, nq, gJ]) <;> exact rfl)))
set_option hygiene false in
local macro_rules | `(tactic| walk_at "put") => `(tactic| ((conv => lhs; simp only [hZ, reduceIte, ql, pR, gm, fF, kJ, nk, ka, kn, ny, kK, gZ, fV, gX, kz, jj, k7, jD, i7, jn, jk, jc, jl, kF, jN, ki, nM, km, nz, gU, gj, gT, kI, nB, mY, kZ, kX, k8, mz, kQ, mC, lZ, kC, mO, fY, g7, gS, fJ, fb, fD, fB, jP, kl, kO, iW, jK, jC, jf, jS, jq, jF, kL, kU, ku, nF, mX, gi, gL, gO, oS, mV, oV, mQ, oE, oP, iU, gA, fM, gQ, gs, nj, lq, kq, lV, lg, oU, me, ml, oI, jd, nA, ko, oQ, m7, mH, la, oF, nN, gM, gu, jR, kj, mx, kM, jE, nq, gJ]) <;> exact rfl))
structure hU (K : PySem.W.Frag) (x q : Str) (s : Stmt) (d : Value) (f : Addr) : Prop where
 a : PySem.W.nsIn K mainGlobals x = some (some (.ref f))
 l : ∃ fd, cz K x q s f d fd
 k : PySem.W.keepIn K (.ref f) = true
structure rY (K : PySem.W.Frag) (C : Addr) (x q : Str) (s : Stmt) (d : Value) (f : Addr) : Prop where
 a : PySem.W.findIn K (.ref C) x = some (some (.ref f))
 l : ∃ fd, cz K x q s f d fd
 k : PySem.W.keepIn K (.ref f) = true
 i : PySem.W.isFn K (.ref f) = true
structure Di (K : PySem.W.Frag) (C : Addr) : Prop where
 pg : PySem.W.plainGet K C Str.empty = true
 hd : PySem.W.hasDictIn K C = true
 po : PySem.W.plainOver K C = true
 sa : PySem.W.findIn K (.ref C) "__setattr__" = some (some (.builtin "object.__setattr__"))
 t1 : PySem.W.findIn K (.ref C) "__class__" = some (some (.builtin "object.__class__"))
 t2 : PySem.W.mroIn K C (.type "object") = some true
 t3 : PySem.W.typeIn K (.ref C) = some (.type "type")
theorem BP {K : PySem.W.Frag} {t : Addr} {xs : Array Value} {n : Nat} {d : Option Addr} {z : Array (Option Value)} {c : Value} (l : K.lookup t = some ⟨c, d, .seq xs n, z⟩) : sI K t xs := ⟨⟨_, _, l, rfl⟩⟩
set_option genSizeOf false in
set_option genInjectivity false in
structure Ad where
 cL : Addr
 oH : FuncData
 dM : Addr
 qB : FuncData
 bS : Addr
 kG : FuncData
 dI : Addr
 pY : FuncData
 eH : Addr
 rQ : FuncData
 a7 : Addr
 ia : FuncData
 bB : Addr
 ek : FuncData
 bK : Addr
 cI : Addr
 kr : FuncData
 bA : Addr
 eh : FuncData
 bL : Addr
 cK : Tok
 cM : Addr
 kD : FuncData
 aI : Addr
 dE : FuncData
 bb : Addr
 bX : Tok
 bO : Addr
 iX : FuncData
 aS : Addr
 dj : FuncData
 aZ : Addr
 bR : Tok
 bC : Addr
 hV : FuncData
 eG : Addr
 rB : FuncData
 cC : Addr
 lX : FuncData
 bT : Addr
 kc : FuncData
 cD : Addr
 mB : FuncData
 cb : Addr
 lb : FuncData
 cB : Addr
 lY : FuncData
 cE : Addr
 nK : FuncData
 bo : Addr
 i5 : FuncData
 bH : Addr
 jI : FuncData
 bW : Addr
 kT : FuncData
 bu : Addr
 jg : FuncData
 bY : Addr
 ky : FuncData
 cA : Addr
 nH : FuncData
 bp : Addr
 i9 : FuncData
 ll : Addr
 sV : FuncData
 iq : Addr
 bF : Addr
 bq : Addr
 aD : Addr
 aw : Addr
 eu : Addr
 au : Addr
 aq : Addr
 bI : Addr
 fZ : Tok
 da : Tok
 bJ : Addr
structure Txt (K : PySem.W.Frag) (mg : Str -> Option Value) (a : Ad) : Prop where
 lA : cz K "is_whole" "is_whole" lF a.cL (.none) a.oH
 oG : PySem.W.keepIn K (.ref a.cL) = true
 oR : mg "is_whole" = some (.ref a.cL)
 nS : cz K "figures" "figures" n8 a.dM (.none) a.qB
 qw : PySem.W.keepIn K (.ref a.dM) = true
 pS : mg "figures" = some (.ref a.dM)
 iI : cz K "check_from" "check_from" iC a.bS (.none) a.kG
 aP : PySem.W.keepIn K (.ref a.bS) = true
 aQ : mg "check_from" = some (.ref a.bS)
 oy : cz K "word_of" "word_of" og a.dI (.none) a.pY
 pM : PySem.W.keepIn K (.ref a.dI) = true
 qJ : mg "word_of" = some (.ref a.dI)
 qf : cz K "row_of" "row_of" m9 a.eH (.none) a.rQ
 g9 : PySem.W.keepIn K (.ref a.eH) = true
 hJ : mg "row_of" = some (.ref a.eH)
 eO : cz K "__init__" "Rule.__init__" eY a.a7 (.none) a.ia
 eP : cz K "__init__" "Once.__init__" eK a.bB (.ref a.bK) a.ek
 iY : sI K a.bK #[.none]
 ib : cz K "words" "Once.words" iG a.cI (.none) a.kr
 eR : cz K "__init__" "Each.__init__" eN a.bA (.ref a.bL) a.eh
 jb : sI K a.bL #[(.int 0 a.cK), .none]
 iR : cz K "words" "Each.words" iH a.cM (.none) a.kD
 d6 : cz K "__init__" "Behind.__init__" dR a.aI (.ref a.bb) a.dE
 fP : sI K a.bb #[(.int 0 a.bX), .none]
 fv : cz K "words" "Behind.words" fA a.bO (.none) a.iX
 dD : cz K "__init__" "Slowing.__init__" dC a.aS (.ref a.aZ) a.dj
 fu : sI K a.aZ #[(.int 0 a.bR), .none]
 eJ : cz K "words" "Slowing.words" eQ a.bC (.none) a.hV
 qH : cz K "demand" "demand" qz a.eG (.none) a.rB
 jZ : PySem.W.keepIn K (.ref a.eG) = true
 j1 : mg "demand" = some (.ref a.eG)
 jT : cz K "is_number" "is_number" gq a.cC (.none) a.lX
 mW : PySem.W.keepIn K (.ref a.cC) = true
 md : mg "is_number" = some (.ref a.cC)
 iA : cz K "read_whole" "read_whole" iP a.bT (.none) a.kc
 et : PySem.W.keepIn K (.ref a.bT) = true
 eo : mg "read_whole" = some (.ref a.bT)
 jr : cz K "read_many" "read_many" jt a.cD (.none) a.mB
 nh : PySem.W.keepIn K (.ref a.cD) = true
 mn : mg "read_many" = some (.ref a.cD)
 iu : cz K "split_rule" "split_rule" dN a.cb (.none) a.lb
 kh : PySem.W.keepIn K (.ref a.cb) = true
 kB : mg "split_rule" = some (.ref a.cb)
 jH : cz K "make_rule" "make_rule" js a.cB (.none) a.lY
 mh : PySem.W.keepIn K (.ref a.cB) = true
 mZ : mg "make_rule" = some (.ref a.cB)
 jO : cz K "read_rule" "read_rule" jz a.cE (.none) a.nK
 df : PySem.W.keepIn K (.ref a.cE) = true
 de : mg "read_rule" = some (.ref a.cE)
 fC : cz K "_law_cell_at" "_law_cell_at" fH a.bo (.none) a.i5
 az : PySem.W.keepIn K (.ref a.bo) = true
 ay : mg "_law_cell_at" = some (.ref a.bo)
 gB : cz K "_law_number" "_law_number" gC a.bH (.none) a.jI
 bN : PySem.W.keepIn K (.ref a.bH) = true
 bM : mg "_law_number" = some (.ref a.bH)
 ig : cz K "_law_words" "_law_words" iF a.bW (.none) a.kT
 kN : PySem.W.keepIn K (.ref a.bW) = true
 kE : mg "_law_words" = some (.ref a.bW)
 fG : cz K "_law_changed" "_law_changed" fx a.bu (.none) a.jg
 eW : PySem.W.keepIn K (.ref a.bu) = true
 eU : mg "_law_changed" = some (.ref a.bu)
 iJ : cz K "_law_value" "_law_value" ic a.bY (.none) a.ky
 ke : PySem.W.keepIn K (.ref a.bY) = true
 kY : mg "_law_value" = some (.ref a.bY)
 jy : cz K "_law_good" "_law_good" fS a.cA (.none) a.nH
 nr : PySem.W.keepIn K (.ref a.cA) = true
 mL : mg "_law_good" = some (.ref a.cA)
 fK : cz K "_law_refused" "_law_refused" fz a.bp (.none) a.i9
 eM : PySem.W.keepIn K (.ref a.bp) = true
 eV : mg "_law_refused" = some (.ref a.bp)
 AK : cz K "law" "law" Ag a.ll (.none) a.sV
 zm : mg "law" = some (.ref a.ll)
 pI : mg "Rule" = some (.ref a.iq)
 xA : mg "Once" = some (.ref a.bF)
 eC : pk K a.bF
 fk : aJ K a.bF "many"
 dq : aJ K a.bF "first"
 dW : aJ K a.bF "last"
 Af : Mk K a.bF a.bB
 iw : Meth K a.bF "words" a.cI
 wJ : mg "Each" = some (.ref a.bq)
 eE : pk K a.bq
 dU : aJ K a.bq "many"
 dr : aJ K a.bq "start"
 dQ : aJ K a.bq "step"
 dS : aJ K a.bq "wide"
 zl : Mk K a.bq a.bA
 iB : Meth K a.bq "words" a.cM
 nZ : mg "Behind" = some (.ref a.aD)
 cT : pk K a.aD
 c9 : aJ K a.aD "many"
 cN : aJ K a.aD "start"
 dt : aJ K a.aD "gap"
 cZ : aJ K a.aD "wide"
 uG : Mk K a.aD a.aI
 fy : Meth K a.aD "words" a.bO
 pQ : mg "Slowing" = some (.ref a.aw)
 cg : pk K a.aw
 cS : aJ K a.aw "many"
 cw : aJ K a.aw "start"
 c5 : aJ K a.aw "gap"
 cQ : aJ K a.aw "wide"
 cR : aJ K a.aw "most"
 rP : Mk K a.aw a.aS
 eT : Meth K a.aw "words" a.bC
 tV : mg "NoRow" = some (.ref a.eu)
 gY : mg "NoRule" = some (.ref a.au)
 gI : qa K a.au
 jY : mg "NoText" = some (.ref a.aq)
 gR : qa K a.aq
 mj : mg "WakeError" = some (.ref a.bI)
 f6 : qa K a.bI
 gP : PySem.W.mroIn K a.au (.ref a.au) = some true
 rh : G0 K a.aq
 dw : PySem.W.kitOne K (.ref a.aq) (.ref a.eu) = some false
 dh : PySem.W.kitOne K (.ref a.aq) (.ref a.au) = some false
 dg : PySem.W.kitOne K (.ref a.aq) (.ref a.aq) = some true
 fc : PySem.W.mroIn K a.aq (.ref a.bI) = some true
 fU : A2 K a.aD "__init__" a.aI
 dA : A2 K a.iq "__init__" a.a7
 qj : mg "FIGURES" = some (.str "0123456789" a.fZ)
 je : mg "MOST_FIGURES" = some (.int 60 a.da)
 ie : mg "LENGTHS" = some (.ref a.bJ)
 sX : mg "all" = none
 pC : mg "bool" = none
 om : mg "int" = none
 aX : mg "isinstance" = none
 dP : mg "len" = none
 rX : mg "min" = none
 cG : mg "str" = none
theorem EF {K : PySem.W.Frag} {h : Heap} {mg : Str -> Option Value} {cL dM bS dI eH a7 bB bK cI bA bL cM aI bb bO aS aZ bC eG cC bT cD cb cB cE bo bH bW bu bY cA bp ll iq bF bq aD aw eu au aq bI bJ : Addr} {cK bX bR fZ da : Tok}  (X : K.In h) (G : h.Ns mainGlobals mg)
 (CD : PySem.W.nsIn K mainGlobals "Rule" = some (some (.ref iq)))
 (BL : PySem.W.nsIn K mainGlobals "Once" = some (some (.ref bF)))
 (CK : PySem.W.nsIn K mainGlobals "Each" = some (some (.ref bq)))
 (xY : PySem.W.nsIn K mainGlobals "Behind" = some (some (.ref aD)))
 (vI : PySem.W.nsIn K mainGlobals "Slowing" = some (some (.ref aw)))
 (yS : PySem.W.nsIn K mainGlobals "NoRow" = some (some (.ref eu)))
 (yz : PySem.W.nsIn K mainGlobals "NoRule" = some (some (.ref au)))
 (xX : PySem.W.nsIn K mainGlobals "NoText" = some (some (.ref aq)))
 (sJ : PySem.W.nsIn K mainGlobals "WakeError" = some (some (.ref bI)))
 (Ob : PySem.W.specialIn K (.builtin "object.__class__") "__get__" = some (some (.builtin "getset_descriptor.__get__")))
 (Nc : PySem.W.takesIn K (.builtin "object.__class__") = some true)
 (iL : hU K "is_whole" "is_whole" lF (.none) cL)
 (jX : hU K "figures" "figures" n8 (.none) dM)
 (fi : hU K "check_from" "check_from" iC (.none) bS)
 (j0 : hU K "word_of" "word_of" og (.none) dI)
 (nG : hU K "row_of" "row_of" m9 (.none) eH)
 (eX : rY K iq "__init__" "Rule.__init__" eY (.none) a7)
 (dz : rY K bF "__init__" "Once.__init__" eK (.ref bK) bB)
 (o6 : sI K bK #[.none])
 (d9 : rY K bF "words" "Once.words" iG (.none) cI)
 (dB : rY K bq "__init__" "Each.__init__" eN (.ref bL) bA)
 (o8 : sI K bL #[(.int 0 cK), .none])
 (dY : rY K bq "words" "Each.words" iH (.none) cM)
 (bV : rY K aD "__init__" "Behind.__init__" dR (.ref bb) aI)
 (mM : sI K bb #[(.int 0 bX), .none])
 (c3 : rY K aD "words" "Behind.words" fA (.none) bO)
 (cH : rY K aw "__init__" "Slowing.__init__" dC (.ref aZ) aS)
 (lB : sI K aZ #[(.int 0 bR), .none])
 (cP : rY K aw "words" "Slowing.words" eQ (.none) bC)
 (mq : hU K "demand" "demand" qz (.none) eG)
 (gw : hU K "is_number" "is_number" gq (.none) cC)
 (fm : hU K "read_whole" "read_whole" iP (.none) bT)
 (gf : hU K "read_many" "read_many" jt (.none) cD)
 (fj : hU K "split_rule" "split_rule" dN (.none) cb)
 (gv : hU K "make_rule" "make_rule" js (.none) cB)
 (gk : hU K "read_rule" "read_rule" jz (.none) cE)
 (d7 : hU K "_law_cell_at" "_law_cell_at" fH (.none) bo)
 (eD : hU K "_law_number" "_law_number" gC (.none) bH)
 (fq : hU K "_law_words" "_law_words" iF (.none) bW)
 (dZ : hU K "_law_changed" "_law_changed" fx (.none) bu)
 (fg : hU K "_law_value" "_law_value" ic (.none) bY)
 (gy : hU K "_law_good" "_law_good" fS (.none) cA)
 (dO : hU K "_law_refused" "_law_refused" fz (.none) bp)
 (Ak : hU K "law" "law" Ag (.none) ll)
 (eC : Di K bF)
 (fk : PySem.W.findIn K (.ref bF) "many" = some none)
 (dq : PySem.W.findIn K (.ref bF) "first" = some none)
 (dW : PySem.W.findIn K (.ref bF) "last" = some none)
 (Cm : PySem.W.makesIn K bF = true)
 (CF : PySem.W.keepIn K (.ref bF) = true)
 (eE : Di K bq)
 (dU : PySem.W.findIn K (.ref bq) "many" = some none)
 (dr : PySem.W.findIn K (.ref bq) "start" = some none)
 (dQ : PySem.W.findIn K (.ref bq) "step" = some none)
 (dS : PySem.W.findIn K (.ref bq) "wide" = some none)
 (Dj : PySem.W.makesIn K bq = true)
 (B9 : PySem.W.keepIn K (.ref bq) = true)
 (cT : Di K aD)
 (c9 : PySem.W.findIn K (.ref aD) "many" = some none)
 (cN : PySem.W.findIn K (.ref aD) "start" = some none)
 (dt : PySem.W.findIn K (.ref aD) "gap" = some none)
 (cZ : PySem.W.findIn K (.ref aD) "wide" = some none)
 (yA : PySem.W.makesIn K aD = true)
 (x8 : PySem.W.keepIn K (.ref aD) = true)
 (cg : Di K aw)
 (cS : PySem.W.findIn K (.ref aw) "many" = some none)
 (cw : PySem.W.findIn K (.ref aw) "start" = some none)
 (c5 : PySem.W.findIn K (.ref aw) "gap" = some none)
 (cQ : PySem.W.findIn K (.ref aw) "wide" = some none)
 (cR : PySem.W.findIn K (.ref aw) "most" = some none)
 (vg : PySem.W.makesIn K aw = true)
 (wa : PySem.W.keepIn K (.ref aw) = true)
 (zC : PySem.W.mroIn K eu (.type "object") = some true)
 (Aq : PySem.W.typeIn K (.ref eu) = some (.type "type"))
 (gI : PySem.W.excIn K au [.type "ValueError", .type "Exception", .type "BaseException", .type "object"] "ValueError.__new__" = true)
 (xE : PySem.W.mroIn K au (.type "object") = some true)
 (xN : PySem.W.typeIn K (.ref au) = some (.type "type"))
 (gR : PySem.W.excIn K aq [.type "ValueError", .type "Exception", .type "BaseException", .type "object"] "ValueError.__new__" = true)
 (rF : PySem.W.mroIn K aq (.type "object") = some true)
 (yl : PySem.W.typeIn K (.ref aq) = some (.type "type"))
 (f6 : PySem.W.excIn K bI [.type "ValueError", .type "Exception", .type "BaseException", .type "object"] "ValueError.__new__" = true)
 (oi : PySem.W.mroIn K au (.ref au) = some true)
 (yi : PySem.W.findIn K (.ref aq) "__getattribute__" = some (some (.builtin "BaseException.__getattribute__")))
 (yd : PySem.W.findIn K (.ref aq) "__getattr__" = some none)
 (yJ : PySem.W.mroIn K aq (.type "BaseException") = some true)
 (yo : PySem.W.hasDictIn K aq = true)
 (xO : PySem.W.findIn K (.ref aq) "__class__" = some (some (.builtin "object.__class__")))
 (dw : PySem.W.mroIn K aq (.ref eu) = some false)
 (ph : (aq == eu) = false)
 (dh : PySem.W.mroIn K aq (.ref au) = some false)
 (n6 : (aq == au) = false)
 (dg : PySem.W.mroIn K aq (.ref aq) = some true)
 (j4 : PySem.W.mroIn K aq (.ref bI) = some true)
 (lO : PySem.W.specialIn K (.ref aD) "__getattribute__" = some (some (.builtin "type.__getattribute__")))
 (lD : PySem.W.readsIn K aD (.type "type") = true)
 (lQ : PySem.W.findCls K (.ref aD) (.type "type") "__init__" = some (.val (.ref aI)))
 (nX : PySem.W.specialIn K (.ref iq) "__getattribute__" = some (some (.builtin "type.__getattribute__")))
 (ot : PySem.W.readsIn K iq (.type "type") = true)
 (nY : PySem.W.findCls K (.ref iq) (.type "type") "__init__" = some (.val (.ref a7)))
 (uU : PySem.W.nsIn K mainGlobals "FIGURES" = some (some (.str "0123456789" fZ)))
 (pj : PySem.W.nsIn K mainGlobals "MOST_FIGURES" = some (some (.int 60 da)))
 (vA : PySem.W.nsIn K mainGlobals "LENGTHS" = some (some (.ref bJ)))
 (sX : PySem.W.nsIn K mainGlobals "all" = some none)
 (pC : PySem.W.nsIn K mainGlobals "bool" = some none)
 (om : PySem.W.nsIn K mainGlobals "int" = some none)
 (aX : PySem.W.nsIn K mainGlobals "isinstance" = some none)
 (dP : PySem.W.nsIn K mainGlobals "len" = some none)
 (rX : PySem.W.nsIn K mainGlobals "min" = some none)
 (cG : PySem.W.nsIn K mainGlobals "str" = some none)
 : ∃ a : Ad, a.ll = a.ll /\ Txt K mg a :=
 ⟨⟨cL, iL.l.choose, dM, jX.l.choose, bS, fi.l.choose, dI, j0.l.choose, eH, nG.l.choose, a7, eX.l.choose, bB, dz.l.choose, bK, cI, d9.l.choose, bA, dB.l.choose, bL, cK, cM, dY.l.choose, aI, bV.l.choose, bb, bX, bO, c3.l.choose, aS, cH.l.choose, aZ, bR, bC, cP.l.choose, eG, mq.l.choose, cC, gw.l.choose, bT, fm.l.choose, cD, gf.l.choose, cb, fj.l.choose, cB, gv.l.choose, cE, gk.l.choose, bo, d7.l.choose, bH, eD.l.choose, bW, fq.l.choose, bu, dZ.l.choose, bY, fg.l.choose, cA, gy.l.choose, bp, dO.l.choose, ll, Ak.l.choose, iq, bF, bq, aD, aw, eu, au, aq, bI, fZ, da, bJ⟩, rfl, {
   lA := iL.l.choose_spec,
   oG := iL.k,
   oR := PySem.W.mg_of X G iL.a,
   nS := jX.l.choose_spec,
   qw := jX.k,
   pS := PySem.W.mg_of X G jX.a,
   iI := fi.l.choose_spec,
   aP := fi.k,
   aQ := PySem.W.mg_of X G fi.a,
   oy := j0.l.choose_spec,
   pM := j0.k,
   qJ := PySem.W.mg_of X G j0.a,
   qf := nG.l.choose_spec,
   g9 := nG.k,
   hJ := PySem.W.mg_of X G nG.a,
   eO := eX.l.choose_spec,
   eP := dz.l.choose_spec,
   iY := o6,
   ib := d9.l.choose_spec,
   eR := dB.l.choose_spec,
   jb := o8,
   iR := dY.l.choose_spec,
   d6 := bV.l.choose_spec,
   fP := mM,
   fv := c3.l.choose_spec,
   dD := cH.l.choose_spec,
   fu := lB,
   eJ := cP.l.choose_spec,
   qH := mq.l.choose_spec,
   jZ := mq.k,
   j1 := PySem.W.mg_of X G mq.a,
   jT := gw.l.choose_spec,
   mW := gw.k,
   md := PySem.W.mg_of X G gw.a,
   iA := fm.l.choose_spec,
   et := fm.k,
   eo := PySem.W.mg_of X G fm.a,
   jr := gf.l.choose_spec,
   nh := gf.k,
   mn := PySem.W.mg_of X G gf.a,
   iu := fj.l.choose_spec,
   kh := fj.k,
   kB := PySem.W.mg_of X G fj.a,
   jH := gv.l.choose_spec,
   mh := gv.k,
   mZ := PySem.W.mg_of X G gv.a,
   jO := gk.l.choose_spec,
   df := gk.k,
   de := PySem.W.mg_of X G gk.a,
   fC := d7.l.choose_spec,
   az := d7.k,
   ay := PySem.W.mg_of X G d7.a,
   gB := eD.l.choose_spec,
   bN := eD.k,
   bM := PySem.W.mg_of X G eD.a,
   ig := fq.l.choose_spec,
   kN := fq.k,
   kE := PySem.W.mg_of X G fq.a,
   fG := dZ.l.choose_spec,
   eW := dZ.k,
   eU := PySem.W.mg_of X G dZ.a,
   iJ := fg.l.choose_spec,
   ke := fg.k,
   kY := PySem.W.mg_of X G fg.a,
   jy := gy.l.choose_spec,
   nr := gy.k,
   mL := PySem.W.mg_of X G gy.a,
   fK := dO.l.choose_spec,
   eM := dO.k,
   eV := PySem.W.mg_of X G dO.a,
   AK := Ak.l.choose_spec,
   zm := PySem.W.mg_of X G Ak.a,
   pI := PySem.W.mg_of X G CD,
   xA := PySem.W.mg_of X G BL,
   eC := ⟨eC.pg, eC.hd, eC.po, eC.sa⟩,
   fk := fk,
   dq := dq,
   dW := dW,
   Af := ⟨Cm, dz.a, dz.i, CF⟩,
   iw := ⟨d9.a, d9.i, d9.k⟩,
   wJ := PySem.W.mg_of X G CK,
   eE := ⟨eE.pg, eE.hd, eE.po, eE.sa⟩,
   dU := dU,
   dr := dr,
   dQ := dQ,
   dS := dS,
   zl := ⟨Dj, dB.a, dB.i, B9⟩,
   iB := ⟨dY.a, dY.i, dY.k⟩,
   nZ := PySem.W.mg_of X G xY,
   cT := ⟨cT.pg, cT.hd, cT.po, cT.sa⟩,
   c9 := c9,
   cN := cN,
   dt := dt,
   cZ := cZ,
   uG := ⟨yA, bV.a, bV.i, x8⟩,
   fy := ⟨c3.a, c3.i, c3.k⟩,
   pQ := PySem.W.mg_of X G vI,
   cg := ⟨cg.pg, cg.hd, cg.po, cg.sa⟩,
   cS := cS,
   cw := cw,
   c5 := c5,
   cQ := cQ,
   cR := cR,
   rP := ⟨vg, cH.a, cH.i, wa⟩,
   eT := ⟨cP.a, cP.i, cP.k⟩,
   tV := PySem.W.mg_of X G yS,
   gY := PySem.W.mg_of X G yz,
   gI := gI,
   jY := PySem.W.mg_of X G xX,
   gR := gR,
   mj := PySem.W.mg_of X G sJ,
   f6 := f6,
   gP := oi,
   rh := ⟨yi, yd, yJ, yo, ⟨xO, Ob, Nc, rF⟩⟩,
   dw := wM zC Aq dw ph,
   dh := wM xE xN dh n6,
   dg := xt rF yl dg,
   fc := j4,
   fU := ⟨lO, lD, lQ, bV.k⟩,
   dA := ⟨nX, ot, nY, eX.k⟩,
   qj := PySem.W.mg_of X G uU,
   je := PySem.W.mg_of X G pj,
   ie := PySem.W.mg_of X G vA,
   sX := PySem.W.mg_none_of X G sX,
   pC := PySem.W.mg_none_of X G pC,
   om := PySem.W.mg_none_of X G om,
   aX := PySem.W.mg_none_of X G aX,
   dP := PySem.W.mg_none_of X G dP,
   rX := PySem.W.mg_none_of X G rX,
   cG := PySem.W.mg_none_of X G cG
 }⟩
theorem Txt.t8 {K : PySem.W.Frag} {mg : Str -> Option Value} {a : Ad} (T : Txt K mg a) : vw K a.au := qa.o T.gI
theorem Txt.zY {K : PySem.W.Frag} {mg : Str -> Option Value} {a : Ad} (T : Txt K mg a) : vw K a.aq := qa.o T.gR
theorem Txt.tQ {K : PySem.W.Frag} {mg : Str -> Option Value} {a : Ad} (T : Txt K mg a) : vw K a.bI := qa.o T.f6
theorem Txt.nc {K : PySem.W.Frag} {mg : Str -> Option Value} {a : Ad} (T : Txt K mg a) : BW K a.au a.au true := ⟨T.t8, T.gP⟩
theorem Txt.jM {K : PySem.W.Frag} {mg : Str -> Option Value} {a : Ad} (T : Txt K mg a) : BW K a.bI a.aq true := ⟨T.zY, T.fc⟩
def mP : Sp := fun vs H Q _ => ∃ v d, vs = [v] /\ Dv H v d /\ Q (.bl (isInt d && !isBool d)) H
theorem CZ {H : Hp} {Q : VK} {E : XK} {v : V} {d : PyData} (h : Dv H v d) (q : Q (.bl (isInt d && !isBool d)) H) : mP [v] H Q E := ⟨v, d, rfl, h, q⟩
def nW (C : Addr) : Sp := fun vs H Q E => ∃ b, vs = [.bl b] /\ (b = false -> E (.ref C) none H) /\ (b = true -> Q .cn H)
theorem y9 {C : Addr} {H : Hp} {Q : VK} {E : XK} {b : Bool} (h : b = false -> E (.ref C) none H) (q : b = true -> Q .cn H) : nW C [.bl b] H Q E := ⟨b, rfl, h, q⟩
def qL (C : Addr) : Sp := fun vs H Q E => ∃ n l x, vs = [.int n, .int l, .str x] /\ x.length <= 1000 /\ (n < l -> E (.ref C) none H) /\ (l <= n -> Q .cn H)
theorem BG {C : Addr} {H : Hp} {Q : VK} {E : XK} {n l : Int} {x : Str} (hx : x.length <= 1000) (h : n < l -> E (.ref C) none H) (q : l <= n -> Q .cn H) : qL C [.int n, .int l, .str x] H Q E := ⟨n, l, x, rfl, hx, h, q⟩
def CA (m : V) : Prop := m = .cn \/ ∃ n, m = .int n
def wA : V -> Bool
 | .int n => decide (1 <= n)
 | _ => true
def iN (C CE : Addr) : Sp := fun vs H Q E => ∃ p dx m, vs = [.ref p, m] /\ CA m /\ H p = some (.ins C dx []) /\ (wA m = false -> E (.ref CE) none H) /\ (wA m = true -> Q .cn (upd H p (.ins C dx [("many", m)])))
theorem uF {C CE p dx : Addr} {H : Hp} {Q : VK} {E : XK} {m : V} (hm : CA m) (hp : H p = some (.ins C dx [])) (h : wA m = false -> E (.ref CE) none H) (q : wA m = true -> Q .cn (upd H p (.ins C dx [("many", m)]))) : iN C CE [.ref p, m] H Q E := ⟨p, dx, m, rfl, hm, hp, h, q⟩
set_option hygiene false in
local macro_rules | `(tactic| walk_at "mok") => `(tactic| first
 | assumption
 | exact Or.inl rfl
 | exact Or.inr ⟨_, rfl⟩)
local macro_rules | `(tactic| walk_at "use") => `(tactic| first
 | ((with_reducible refine' CZ ?e ?_); case e => walk_at "dat")
 | with_reducible refine y9 ?_ ?_
 | ((with_reducible refine' BG ?e1 ?_ ?_); (case e1 => decide +kernel))
 | ((with_reducible refine' uF ?e1 ?e2 ?_ ?_); (case e1 => walk_at "mok"); (case e2 => walk_at "at"))
 | fail)
section
variable {P : Program} {w : World} {K : PySem.W.Frag} {mg : Str -> Option Value} {base : Heap} {a : Ad}
theorem xH (T : Txt K mg a) : bh P w K mg base (nO P w) 1 a.eG a.rB ["good"] (nW a.aq) := by
 refine T.qH.zE yt (fun vs H Q E h => ?_) (fun dk A outer s H vs Q E hr h => ?_)
 . obtain ⟨_, rfl, _⟩ := h; rfl
 . obtain ⟨b, rfl, k1, k2⟩ := h
   refine ⟨_, (aj (by exact (bE (nR (eF (pv 0) (fun _ => rfl)))
    (aj (by exact (oj uV rfl (af av ag) rfl T.jY T.gR rfl)))
    aF))), ?_⟩
   repeat' (walk_at "rd1")
   . exact k1 (by assumption)
   . exact k2 (by assumption)
theorem ly (T : Txt K mg a) : lP P w K mg base 1 a.eG ["good"] [] (nW a.aq) :=
 ⟨⟨_, _, xH T, T.qH.binds fun _ _ _ _ _ _ => .all fun us hl => match us, hl with | [_], _ => rfl, .nil⟩⟩
theorem tT (T : Txt K mg a) : bh P w K mg base qM 1 a.cL a.oH ["thing"] mP := by
 refine T.lA.ok ur (fun vs H Q E h => ?_) (fun dk A outer s H vs Q E hr h => ?_)
 . obtain ⟨_, _, rfl, _⟩ := h; rfl
 . obtain ⟨v, d, rfl, hd, k⟩ := h
   refine ⟨_, (aj (by exact (aB (jL (aU ni rfl T.aX PyProof.Rows.boot_isinstance (af (pv 0) (af (pL (v := .ty "int") rfl T.om PyProof.Rows.boot_int rfl) ag))) (jJ (EB (aU ni rfl T.aX PyProof.Rows.boot_isinstance (af (pv 0) (af (pL (v := .ty "bool") rfl T.pC PyProof.Rows.boot_bool rfl) ag))))))))), ?_⟩
   repeat' (walk_at "rd1")
   . refine HR ?_; cases d <;> simp_all [isInt, isBool]
   . refine HR ?_; cases d <;> simp_all [isInt, isBool]
theorem sL (T : Txt K mg a) : qO P w K mg base 1 a.cL ["thing"] [] mP :=
 ⟨⟨_, _, tT T, T.lA.binds fun _ _ _ _ _ _ => .all fun us hl => match us, hl with | [_], _ => rfl, .nil⟩⟩
theorem qT (T : Txt K mg a) : bh P w K mg base (nO P w) 2 a.bS a.kG ["number", "least", "what"] (qL a.au) := by
 have u6 : qO P w K mg base 1 a.cL ["thing"] [] mP := sL T
 refine T.iI.zE rg (fun vs H Q E h => ?_) (fun dk A outer s H vs Q E hr h => ?_)
 . obtain ⟨_, _, _, rfl, _⟩ := h; rfl
 . obtain ⟨n, l, x, rfl, hx, k1, k2⟩ := h
   refine ⟨_, (aj (by exact (bE (PW.pt (pX (nR (eF (aG u6 (hr.mono (by decide)) rfl T.oR T.oG (af (pv 0) ag)) (fun _ => rfl))) (qG (aA qd (pv 0) (pv 1) (ax _)))))
    (aj (by exact (oj uV rfl (af (Ap (pv 2)) ag) rfl T.gY T.gI rfl)))
    aF))), ?_⟩
   repeat' (walk_at "rd1")
   . exact k1 (by assumption)
   . exact k2 (by omega)
theorem c4 (T : Txt K mg a) : lP P w K mg base 2 a.bS ["number", "least", "what"] [] (qL a.au) :=
 ⟨⟨_, _, qT T, T.iI.binds fun _ _ _ _ _ _ => .all fun us hl => match us, hl with | [_, _, _], _ => rfl, .nil⟩⟩
theorem r0 {C : Addr} (T : Txt K mg a) (cl : pk K C) (na : aJ K C "many") : bh P w K mg base (nO P w) 3 a.a7 a.ia ["self", "many"] (iN C a.au) := by
 have aL := c4 (P := P) (w := w) (base := base) T
 refine T.eO.zE nQ (fun vs H Q E h => ?_) (fun dk A outer s H vs Q E hr h => ?_)
 . obtain ⟨_, _, _, rfl, _⟩ := h; rfl
 . obtain ⟨p, dx, m, rfl, hm, hp, k1, k2⟩ := h
   refine ⟨_, (ai (by exact (bE (aA Cz (pv 1) nV (ax _))
    (aj (by exact (bx (bG aL (hr.mono (by decide)) rfl T.aQ T.aP di (af (pv 1) (af ah (af av ag)))))))
    aF))
    (aj (gH (pv 0) (pv 1) rfl))), ?_⟩
   rcases hm with rfl | ⟨i, rfl⟩
   . repeat' (walk_at "rd1")
     exact k2 rfl
   . repeat' (walk_at "rd1")
     . intro hi; exact k1 (by simp [wA]; omega)
     . intro hi
       repeat' (walk_at "rd1")
       exact k2 (by simp [wA]; omega)
theorem gG {C : Addr} (T : Txt K mg a) (cl : pk K C) (na : aJ K C "many") : lP P w K mg base 3 a.a7 ["self", "many"] [] (iN C a.au) :=
 ⟨⟨_, _, r0 T cl na, T.eO.binds fun _ _ _ _ _ _ => .all fun us hl => match us, hl with | [_, _], _ => rfl, .nil⟩⟩
def Bt (p : Addr) (H H' : Hp) : Prop := ∀ b, b ≠ p -> H' b = H b
theorem Bt.rfl' {p : Addr} {H : Hp} : Bt p H H := fun _ _ => rfl
theorem Bt.up {p : Addr} {H : Hp} {o : HO} : Bt p H (upd H p o) := fun b hb => aK hb
def qk (C CE : Addr) (ok : List V -> Bool) (gd : List V -> Prop) (fs : List V -> List (Str × V)) : Sp := fun vs H Q E => ∃ p dx us, vs = .ref p :: us /\ gd us /\ H p = some (.ins C dx []) /\ (ok us = false -> ∀ H', Bt p H H' -> E (.ref CE) none H') /\ (ok us = true -> Q .cn (upd H p (.ins C dx (fs us))))
theorem G7 {C CE p dx : Addr} {ok : List V -> Bool} {gd : List V -> Prop} {fs : List V -> List (Str × V)} {us : List V} {H : Hp} {Q : VK} {E : XK} (hg : gd us) (hp : H p = some (.ins C dx [])) (h : ok us = false -> ∀ H', Bt p H H' -> E (.ref CE) none H') (q : ok us = true -> Q .cn (upd H p (.ins C dx (fs us)))) : qk C CE ok gd fs (.ref p :: us) H Q E := ⟨p, dx, us, rfl, hg, hp, h, q⟩
theorem we {C CE : Addr} {ok : List V -> Bool} {gd : List V -> Prop} {fs : List V -> List (Str × V)} {us ws : List V} {H : Hp} {Q : VK} {E : XK} (e : us = ws) (hg : gd ws) (h : ok ws = false -> ∀ H', ao H H' -> E (.ref CE) none H') (q : ok ws = true -> ∀ v H', ao H H' -> tm H' v C (fs ws) -> Q v H') : xi C (qk C CE ok gd fs) us H Q E := by
 refine ⟨ws, e, fun x dx hx N5 j6 => ?_⟩
 have s0 : ∀ H', Bt x (upd (upd H dx (.own x)) x (.ins C dx [])) H' -> ao H H' := fun H' hb b o JF => by
  have n1 : b ≠ x := fun z => by rw [z, hx] at JF; cases JF
  have n2 : b ≠ dx := fun z => by rw [z, N5] at JF; cases JF
  rw [hb b n1, aK n1, aK n2]
  exact JF
 exact G7 hg aO (fun ho H' hb => h ho _ (s0 H' hb)) (fun ho => ⟨rfl, q ho _ _ (s0 _ Bt.up) ⟨x, dx, rfl, aO⟩⟩)
def Be : List V -> Bool
 | [.int x, .int y] => decide (0 <= x) && decide (x <= y)
 | _ => false
def MV (us : List V) : Prop := ∃ x y, us = [.int x, .int y]
def ym : List V -> Bool
 | [.int st, .int sp, .int wd, m] => decide (0 <= st) && (decide (1 <= sp) && (decide (0 <= wd) && (decide (wd < sp) && wA m)))
 | _ => false
def uS : List V -> Bool
 | [.int st, .int gp, .int wd, m] => decide (0 <= st) && (decide (1 <= gp) && (decide (0 <= wd) && wA m))
 | _ => false
def Hh (us : List V) : Prop := ∃ x y z m, us = [.int x, .int y, .int z, m] /\ CA m
def Ba : List V -> Bool
 | [.int st, .int gp, .int mo, .int wd, m] => decide (0 <= st) && (decide (1 <= gp) && (decide (0 <= wd) && (wA m && decide (gp <= mo))))
 | _ => false
def Mx (us : List V) : Prop := ∃ x y u z m, us = [.int x, .int y, .int u, .int z, m] /\ CA m
theorem Ai (T : Txt K mg a) : Binds K a.ek ["self", "first", "last"] [] := T.eP.binds fun _ _ _ _ _ _ s us kx hl => by
 obtain ⟨o, n, h1, h2⟩ := T.iY.ex
 have hl : us.length = 3 := by simp at hl; omega
 match us, hl with
 | [_, _, _], _ => exact PySem.W.binds_K kx rfl h1 h2 rfl rfl
theorem sF (T : Txt K mg a) : bh P w K mg base (nO P w) 4 a.bB a.ek ["self", "first", "last"] (qk a.bF a.au Be MV ql) := by
 have cl := T.eC; have n1 := T.fk; have n2 := T.dq; have n3 := T.dW
 have aL := c4 (P := P) (w := w) (base := base) T
 have cO := gG (P := P) (w := w) (base := base) T cl n1
 refine T.eP.zE g0 (fun vs H Q E h => ?_) (fun dk A outer s H vs Q E hr h => ?_)
 . obtain ⟨_, _, _, rfl, ⟨_, _, rfl⟩, _⟩ := h; rfl
 . obtain ⟨p, dx, _, rfl, ⟨x, y, rfl⟩, hp, k1, k2⟩ := h
   refine ⟨_, (ai (by exact (bx (bG aL (hr.mono (by decide)) rfl T.aQ T.aP di (af (pv 1) (af ah (af av ag))))))
    (ai (by exact (bE (aA AW (pv 2) nV (ax _))
     (aj (by exact (cx (i := 2) g0.nd rfl (Or.inl rfl) (pv 1))))
     aF))
    (ai (by exact (bx (bG aL (hr.mono (by decide)) rfl T.aQ T.aP di (af (pv 2) (af (pv 1) (af av ag))))))
    (ai (by exact (bx (pF rfl T.pI T.dA cO (hr.mono (by decide)) di (af (pv 0) (af ah ag)))))
    (ai (gH (pv 0) (pv 1) rfl)
    (aj (gH (pv 0) (pv 2) rfl))))))), ?_⟩
   repeat' (walk_at "rd1")
   . intro hx; exact k1 (by simp [Be]; omega) _ Bt.rfl'
   . intro hx
     repeat' (walk_at "rd1")
     . intro hy; exact k1 (by simp [Be]; omega) _ Bt.rfl'
     . intro hy
       repeat' (walk_at "rd1")
       . intro z; cases z
       . intro _
         repeat' (walk_at "rd1")
         simp only [pD]
         exact k2 (by simp [Be]; omega)
theorem vT (T : Txt K mg a) : lP P w K mg base 4 a.bB ["self", "first", "last"] [] (qk a.bF a.au Be MV ql) :=
 ⟨⟨_, _, sF T, Ai T, .nil⟩⟩
theorem zp (T : Txt K mg a) : Binds K a.eh ["self", "start", "step", "wide", "many"] [] := T.eR.binds fun _ _ _ _ _ _ s us kx hl => by
 obtain ⟨o, n, h1, h2⟩ := T.jb.ex
 have hl : us.length = 5 := by simp at hl; omega
 match us, hl with
 | [_, _, _, _, _], _ => exact PySem.W.binds_K kx rfl h1 h2 rfl rfl
theorem sZ (T : Txt K mg a) : bh P w K mg base (nO P w) 4 a.bA a.eh ["self", "start", "step", "wide", "many"] (qk a.bq a.au ym Hh pR) := by
 have cl := T.eE; have n1 := T.dU; have n2 := T.dr; have n3 := T.dQ; have n4 := T.dS
 have aL := c4 (P := P) (w := w) (base := base) T
 have cO := gG (P := P) (w := w) (base := base) T cl n1
 refine T.eR.zE oq (fun vs H Q E h => ?_) (fun dk A outer s H vs Q E hr h => ?_)
 . obtain ⟨_, _, _, rfl, ⟨_, _, _, _, rfl, _⟩, _⟩ := h; rfl
 . obtain ⟨p, dx, _, rfl, ⟨x, y, z, m, rfl, hm⟩, hp, k1, k2⟩ := h
   refine ⟨_, (ai (by exact (bx (bG aL (hr.mono (by decide)) rfl T.aQ T.aP di (af (pv 1) (af ah (af av ag))))))
    (ai (by exact (bx (bG aL (hr.mono (by decide)) rfl T.aQ T.aP di (af (pv 2) (af ah (af av ag))))))
    (ai (by exact (bx (bG aL (hr.mono (by decide)) rfl T.aQ T.aP di (af (pv 3) (af ah (af av ag))))))
    (ai (by exact (bE (aA DA (pv 3) (pv 2) (ax _))
     (aj (by exact (oj uV rfl (af av ag) rfl T.gY T.gI rfl)))
     aF))
    (ai (by exact (bx (pF rfl T.pI T.dA cO (hr.mono (by decide)) di (af (pv 0) (af (pv 4) ag)))))
    (ai (gH (pv 0) (pv 1) rfl)
    (ai (gH (pv 0) (pv 2) rfl)
    (aj (gH (pv 0) (pv 3) rfl))))))))), ?_⟩
   repeat' (walk_at "rd1")
   . intro hx; exact k1 (by simp [ym]; omega) _ Bt.rfl'
   . intro hx
     repeat' (walk_at "rd1")
     . intro hy; exact k1 (by simp [ym]; omega) _ Bt.rfl'
     . intro hy
       repeat' (walk_at "rd1")
       . intro hz; exact k1 (by simp [ym]; omega) _ Bt.rfl'
       . intro hz
         repeat' (walk_at "rd1")
         . exact k1 (by simp [ym]; omega) _ Bt.rfl'
         . intro KC; exact k1 (by simp [ym, KC]) _ Bt.rfl'
         . intro LA
           repeat' (walk_at "rd1")
           simp only [pD]
           exact k2 (by simp [ym, LA]; omega)
theorem wg (T : Txt K mg a) : lP P w K mg base 4 a.bA ["self", "start", "step", "wide", "many"] [] (qk a.bq a.au ym Hh pR) :=
 ⟨⟨_, _, sZ T, zp T, .nil⟩⟩
theorem vR (T : Txt K mg a) : Binds K a.dE ["self", "start", "gap", "wide", "many"] [] := T.d6.binds fun _ _ _ _ _ _ s us kx hl => by
 obtain ⟨o, n, h1, h2⟩ := T.fP.ex
 have hl : us.length = 5 := by simp at hl; omega
 match us, hl with
 | [_, _, _, _, _], _ => exact PySem.W.binds_K kx rfl h1 h2 rfl rfl
theorem pT {C : Addr} (T : Txt K mg a) (cl : pk K C) (n1 : aJ K C "many") (n2 : aJ K C "start") (n3 : aJ K C "gap") (n4 : aJ K C "wide") : bh P w K mg base (nO P w) 4 a.aI a.dE ["self", "start", "gap", "wide", "many"] (qk C a.au uS Hh gm) := by
 have aL := c4 (P := P) (w := w) (base := base) T
 have cO := gG (P := P) (w := w) (base := base) T cl n1
 refine T.d6.zE lG (fun vs H Q E h => ?_) (fun dk A outer s H vs Q E hr h => ?_)
 . obtain ⟨_, _, _, rfl, ⟨_, _, _, _, rfl, _⟩, _⟩ := h; rfl
 . obtain ⟨p, dx, _, rfl, ⟨x, y, z, m, rfl, hm⟩, hp, k1, k2⟩ := h
   refine ⟨_, (ai (by exact (bx (bG aL (hr.mono (by decide)) rfl T.aQ T.aP di (af (pv 1) (af ah (af av ag))))))
    (ai (by exact (bx (bG aL (hr.mono (by decide)) rfl T.aQ T.aP di (af (pv 2) (af ah (af av ag))))))
    (ai (by exact (bx (bG aL (hr.mono (by decide)) rfl T.aQ T.aP di (af (pv 3) (af ah (af av ag))))))
    (ai (by exact (bx (pF rfl T.pI T.dA cO (hr.mono (by decide)) di (af (pv 0) (af (pv 4) ag)))))
    (ai (gH (pv 0) (pv 1) rfl)
    (ai (gH (pv 0) (pv 2) rfl)
    (aj (gH (pv 0) (pv 3) rfl)))))))), ?_⟩
   repeat' (walk_at "rd1")
   . intro hx; exact k1 (by simp [uS]; omega) _ Bt.rfl'
   . intro hx
     repeat' (walk_at "rd1")
     . intro hy; exact k1 (by simp [uS]; omega) _ Bt.rfl'
     . intro hy
       repeat' (walk_at "rd1")
       . intro hz; exact k1 (by simp [uS]; omega) _ Bt.rfl'
       . intro hz
         repeat' (walk_at "rd1")
         . intro KC; exact k1 (by simp [uS, KC]) _ Bt.rfl'
         . intro LA
           repeat' (walk_at "rd1")
           simp only [pD]
           exact k2 (by simp [uS, LA]; omega)
theorem ja {C : Addr} (T : Txt K mg a) (cl : pk K C) (n1 : aJ K C "many") (n2 : aJ K C "start") (n3 : aJ K C "gap") (n4 : aJ K C "wide") : lP P w K mg base 4 a.aI ["self", "start", "gap", "wide", "many"] [] (qk C a.au uS Hh gm) :=
 ⟨⟨_, _, pT T cl n1 n2 n3 n4, vR T, .nil⟩⟩
theorem sA (T : Txt K mg a) : lP P w K mg base 4 a.aI ["self", "start", "gap", "wide", "many"] [] (qk a.aD a.au uS Hh gm) := ja T T.cT T.c9 T.cN T.dt T.cZ
theorem uD (T : Txt K mg a) : Binds K a.dj ["self", "start", "gap", "most", "wide", "many"] [] := T.dD.binds fun _ _ _ _ _ _ s us kx hl => by
 obtain ⟨o, n, h1, h2⟩ := T.fu.ex
 have hl : us.length = 6 := by simp at hl; omega
 match us, hl with
 | [_, _, _, _, _, _], _ => exact PySem.W.binds_K kx rfl h1 h2 rfl rfl
theorem px (T : Txt K mg a) : bh P w K mg base (nO P w) 5 a.aS a.dj ["self", "start", "gap", "most", "wide", "many"] (qk a.aw a.au Ba Mx fF) := by
 have cl := T.cg; have n1 := T.cR
 have aL := c4 (P := P) (w := w) (base := base) T
 have lT := ja (P := P) (w := w) (base := base) T cl T.cS T.cw T.c5 T.cQ
 refine T.dD.zE j7 (fun vs H Q E h => ?_) (fun dk A outer s H vs Q E hr h => ?_)
 . obtain ⟨_, _, _, rfl, ⟨_, _, _, _, _, rfl, _⟩, _⟩ := h; rfl
 . obtain ⟨p, dx, _, rfl, ⟨x, y, u, z, m, rfl, hm⟩, hp, k1, k2⟩ := h
   refine ⟨_, (ai (by exact (bx (pF rfl T.nZ T.fU lT (hr.mono (by decide)) di (af (pv 0) (af (pv 1) (af (pv 2) (af (pv 4) (af (pv 5) ag))))))))
    (ai (by exact (bx (bG aL (hr.mono (by decide)) rfl T.aQ T.aP di (af (pv 3) (af (pv 2) (af av ag))))))
    (aj (gH (pv 0) (pv 3) rfl)))), ?_⟩
   repeat' (walk_at "rd1")
   refine G7 ⟨_, _, _, _, rfl, hm⟩ hp (fun h0 H' hb => k1 ?_ _ hb) (fun h1 => ?_)
   . simp only [uS, Ba, Bool.and_eq_false_iff] at h0 ⊢
     rcases h0 with h0 | h0 | h0 | h0 <;> simp [h0]
   . simp only [uS, Bool.and_eq_true, decide_eq_true_eq] at h1
     obtain ⟨b1, b2, b3, b4⟩ := h1
     repeat' (walk_at "rd1")
     . intro hx; exact k1 (by simp [Ba]; omega) _ Bt.up
     . intro hx
       repeat' (walk_at "rd1")
       simp only [pD]
       exact k2 (by simp [Ba, b4]; omega)
theorem qQ (T : Txt K mg a) : lP P w K mg base 5 a.aS ["self", "start", "gap", "most", "wide", "many"] [] (qk a.aw a.au Ba Mx fF) :=
 ⟨⟨_, _, px T, uD T, .nil⟩⟩
def nD (n : Int) : Str := (toString n : String)
theorem ub {n : Int} (h0 : 0 <= n) (h : n < 10 ^ 64) : (nD n).length <= 65 := by
 have e : (toString n).length <= 64 + 1 := PySem.int_text_length_le10 (by decide) (by omega)
 have : (nD n).length = (toString n).length := PySem.ofString_length _
 omega
def vq : Sp := fun vs H Q _ => ∃ n, vs = [.int n] /\ 0 <= n /\ n < 10 ^ 64 /\ ∀ H', ao H H' -> Q (.str (nD n)) H'
theorem Iz {H : Hp} {Q : VK} {E : XK} {n : Int} (h0 : 0 <= n) (h1 : n < 10 ^ 64) (q : ∀ H', ao H H' -> Q (.str (nD n)) H') : vq [.int n] H Q E := ⟨n, rfl, h0, h1, q⟩
theorem vC (T : Txt K mg a) : bh P w K mg base qM 1 a.dM a.qB ["number"] vq := by
 refine T.nS.ok iQ (fun vs H Q E h => ?_) (fun dk A outer s H vs Q E hr h => ?_)
 . obtain ⟨_, rfl, _⟩ := h; rfl
 . obtain ⟨n, rfl, h0, h1, q⟩ := h
   have O9 := ub h0 h1
   refine ⟨_, (ai (by exact (bE (aA qd (pv 0) ah (ax _))
    (aj uJ)
    aF))
    (ai (by exact (cx (i := 1) iQ.nd rfl (Or.inl rfl) (aM AZ ah ah)))
    (ai (by exact (cx (i := 2) iQ.nd rfl (Or.inl rfl) (bz ag)))
    (ai (by exact (Aa PassesOwn.never (aA DA (pv 0) (pv 1) (ax _))
     (ai uJ
     (aj (by exact (cx (i := 0) iQ.nd rfl (Or.inl rfl) (aM fw (pv 0) (pv 1))))))))
    (ai (by exact (bx (qh PySem.F.plainAttrs_list PySem.F.slot_list_append PySem.F.type_list_append xM (pv 2) (af (a6 bw rfl T.cG PyProof.Rows.boot_str (af (pv 0) ag)) ag))))
    (ai (by exact (bx (Ez PySem.F.plainAttrs_list PySem.F.slot_list_reverse PySem.F.type_list_reverse vD (pv 2))))
    (aj (by exact (aB (qh PySem.F.plainAttrs_str PySem.F.slot_str_join PySem.F.type_str_join rR av (af (pv 2) ag))))))))))), ?_⟩
   repeat' (walk_at "rd1")
   rename_i p H1 Oi OI yN
   refine CG (fun m σ' H' => σ' = [some (.int n), some (.int (10 ^ 64)), some (.ref p)] /\ H' = H1) ⟨0, rfl, rfl⟩ ?_
   rintro m σ' H' ⟨rfl, rfl⟩
   repeat' (walk_at "rd1")
   rename_i H4 m4 l4 H5 m5 l5
   refine sP (ss := [nD n]) (dn.dv l5) ?_ ?_
   . have e0 : (Str.ofString "").length = 0 := by decide
     simp only [List.map_cons, List.map_nil, List.sum_cons, List.sum_nil, List.length_cons, List.length_nil, e0]
     omega
   . have e : Txt.join (Str.ofString "") [nD n] = nD n := rfl
     rw [e]
     exact q _ (by walk_at "same")
theorem uj (T : Txt K mg a) : qO P w K mg base 1 a.dM ["number"] [] vq :=
 ⟨⟨_, _, vC T, T.nS.binds fun _ _ _ _ _ _ => .all fun us hl => match us, hl with | [_], _ => rfl, .nil⟩⟩
def oK : PyData -> Str
 | .int n => nD n
 | _ => "ever"
def gN (d : PyData) : Prop := d = .none \/ ∃ n, d = .int n /\ 0 <= n /\ n < 10 ^ 64
def sN : Sp := fun vs H Q _ => ∃ v d, vs = [v] /\ Dv H v d /\ gN d /\ ∀ H', ao H H' -> Q (.str (oK d)) H'
theorem Ga {H : Hp} {Q : VK} {E : XK} {v : V} {d : PyData} (h : Dv H v d) (hn : gN d) (q : ∀ H', ao H H' -> Q (.str (oK d)) H') : sN [v] H Q E := ⟨v, d, rfl, h, hn, q⟩
local macro_rules | `(tactic| walk_at "use") => `(tactic| first
 | ((with_reducible refine' Iz ?e1 ?e2 (fun _ _ => ?_)); (case e1 => omega); (case e2 => omega))
 | ((with_reducible refine' Ga ?e1 ?e2 (fun _ _ => ?_)); (case e1 => walk_at "dat"); (case e2 => assumption))
 | fail)
theorem vf (T : Txt K mg a) : bh P w K mg base qM 2 a.dI a.pY ["number"] sN := by
 have xP := uj (P := P) (w := w) (base := base) T
 refine T.oy.ok vJ (fun vs H Q E h => ?_) (fun dk A outer s H vs Q E hr h => ?_)
 . obtain ⟨_, _, rfl, _⟩ := h; rfl
 . obtain ⟨v, d, rfl, hd, hn, q⟩ := h
   refine ⟨_, (aj (by exact (aB (m8 (aA AW (pv 0) nV (ax _)) av (aG xP (hr.mono (by decide)) rfl T.pS T.qw (af (pv 0) ag)))))), ?_⟩
   rcases hn with rfl | ⟨n, rfl, h0, h1⟩
   . cases hd
     repeat' (walk_at "rd1")
     exact q _ (by walk_at "same")
   . cases hd
     repeat' (walk_at "rd1")
     exact q _ (by walk_at "same")
theorem uB (T : Txt K mg a) : qO P w K mg base 2 a.dI ["number"] [] sN :=
 ⟨⟨_, _, vf T, T.oy.binds fun _ _ _ _ _ _ => .all fun us hl => match us, hl with | [_], _ => rfl, .nil⟩⟩
theorem xW {d : PyData} (h : gN d) : (oK d).length <= 65 := by
 rcases h with rfl | ⟨n, rfl, h0, h1⟩
 . show (Str.ofString "ever").length <= 65
   decide
 . exact ub h0 h1
theorem rl : ∀ {ds : List PyData}, (∀ d ∈ ds, gN d) -> ((ds.map oK).map (·.length)).sum <= 65 * ds.length
 | [], _ => Nat.zero_le _
 | d :: ds, h => by
   have h1 := xW (h d List.mem_cons_self)
   have h2 := rl fun x hx => h x (List.mem_cons_of_mem _ hx)
   simp only [List.map_cons, List.sum_cons, List.length_cons]
   omega
def pw (kd : Str) (ds : List PyData) : Str := Txt.join (Str.ofString " ") (kd :: ds.map oK)
def uQ : Sp := fun vs H Q _ => ∃ kd v ds, vs = [.str kd, v] /\ Dv H v (.list ds) /\ ds.length <= 10 /\ kd.length <= 20 /\ (∀ d ∈ ds, gN d) /\ ∀ H', ao H H' -> Q (.str (pw kd ds)) H'
theorem Jc {H : Hp} {Q : VK} {E : XK} {kd : Str} {v : V} {ds : List PyData} (h : Dv H v (.list ds)) (h1 : ds.length <= 10) (h2 : kd.length <= 20) (h3 : ∀ d ∈ ds, gN d) (q : ∀ H', ao H H' -> Q (.str (pw kd ds)) H') : uQ [.str kd, v] H Q E := ⟨kd, v, ds, rfl, h, h1, h2, h3, q⟩
theorem yb (T : Txt K mg a) : bh P w K mg base qM 3 a.eH a.rQ ["kind", "numbers"] uQ := by
 have yG := uB (P := P) (w := w) (base := base) T
 refine T.qf.ok yB (fun vs H Q E h => ?_) (fun dk A outer s H vs Q E hr h => ?_)
 . obtain ⟨_, _, _, rfl, _⟩ := h; rfl
 . obtain ⟨kd, v, ds, rfl, hd, hl, hk, gF, q⟩ := h
   refine ⟨_, (aj (by exact (aB (qh PySem.F.plainAttrs_str PySem.F.slot_str_join PySem.F.type_str_join rR av (af (aM eS (bz (af (pv 0) ag)) (Eh (T := ["number"]) (M := ["kind", "numbers"]) (G9 (ak m9) ["kind", "numbers"] rfl rfl (by decide +kernel)) rfl (pG (pv 1)) (fun _ _ _ _ _ => (fO (i := 0) (show List.Nodup (["number", "kind", "numbers"] : List Str) by decide +kernel) rfl (Or.inl rfl))) (g8 (by decide)) (fun _ _ _ _ _ => mw) (fun _ _ _ _ _ => (aG yG (hr.mono (by decide)) rfl T.qJ T.pM (af (pv 0) ag))))) ag))))), ?_⟩
   repeat' (walk_at "rd1")
   rename_i p1 H1 Oi OI yN
   refine JC (cs := ds) (gd := fun d => d) (fun _ => true) (fun d => .str (oK d)) (by rw [List.map_id']; walk_at "dat") (by omega) (fun _ => rfl) (fun x c H' N hc Cv uO yes no => ?_) (fun pq H5 A8 DS uT => ?_)
   . have O0 := gF c hc
     repeat' (walk_at "rd1")
     show GP _ N _ true _
     refine pN (fun _ => ?_) (fun hb => by cases hb)
     repeat' (walk_at "rd1")
     exact yes rfl _ _ (by walk_at "same") (by walk_at "dat")
   . have e : ds.filter (fun _ => true) = ds := List.filter_eq_self.mpr (by simp)
     rw [e] at uT
     repeat' (walk_at "rd1")
     rename_i p6 H6 Pk PB ME
     have NV : Dv H6 (.ref p6) (.list ((kd :: ds.map oK).map PyData.str)) := by
      have z := dn.dv ME
      rw [List.map_cons, List.map_map]
      exact z
     refine sP NV ?_ ?_
     . have hs := rl gF
       have e1 : (Str.ofString " ").length = 1 := by decide
       rw [e1]
       simp only [List.map_cons, List.sum_cons, List.length_cons, List.length_map]
       omega
     . exact q _ (by walk_at "same")
theorem iO (T : Txt K mg a) : qO P w K mg base 3 a.eH ["kind", "numbers"] [] uQ :=
 ⟨⟨_, _, yb T, T.qf.binds fun _ _ _ _ _ _ => .all fun us hl => match us, hl with | [_, _], _ => rfl, .nil⟩⟩
theorem gN.int {n : Int} (h0 : 0 <= n) (h1 : n < 10 ^ 64) : gN (.int n) := .inr ⟨n, rfl, h0, h1⟩
def d5 (C : Addr) (kd : Str) (fs : List (Str × V)) (ds : List PyData) : Sp := fun vs H Q _ => ∃ v, vs = [v] /\ tm H v C fs /\ ∀ H', ao H H' -> Q (.str (pw kd ds)) H'
theorem pJ {C : Addr} {kd : Str} {fs : List (Str × V)} {ds : List PyData} {H : Hp} {Q : VK} {E : XK} {v : V} (hp : tm H v C fs) (q : ∀ H', ao H H' -> Q (.str (pw kd ds)) H') : d5 C kd fs ds [v] H Q E := ⟨v, rfl, hp, q⟩
local macro_rules | `(tactic| walk_at "use") => `(tactic| first
 | ((with_reducible refine' Jc ?e1 ?e2 ?e3 ?e4 (fun _ _ => ?_)); (case e1 => walk_at "dat"); (case e2 => exact Nat.le_of_ble_eq_true rfl); (case e3 => exact Nat.le_of_ble_eq_true rfl); (case e4 => assumption))
 | fail)
theorem uX {f l : Int} (T : Txt K mg a) (h1 : 0 <= f) (h2 : f < 10 ^ 64) (h3 : 0 <= l) (h4 : l < 10 ^ 64) : bh P w K mg base qM 4 a.cI a.kr ["self"] (d5 a.bF "once" [("many", .int 1), ("first", .int f), ("last", .int l)] [.int f, .int l]) := by
 have fL := iO (P := P) (w := w) (base := base) T
 have n1 := T.dq; have n2 := T.dW; have cl := T.eC
 refine T.ib.ok qV (fun vs H Q E h => ?_) (fun dk A outer s H vs Q E hr h => ?_)
 . obtain ⟨_, rfl, _⟩ := h; rfl
 . obtain ⟨v, rfl, hp, q⟩ := h
   have hn : ∀ d ∈ [PyData.int f, .int l], gN d := by
    intro d hd
    simp only [List.mem_cons, List.not_mem_nil, or_false] at hd
    rcases hd with rfl | rfl
    . exact .int h1 h2
    . exact .int h3 h4
   refine ⟨_, (aj (by exact (aB (aG fL (hr.mono (by decide)) rfl T.hJ T.g9 (af av (af (bz (af (dH (pv 0) rfl) (af (dH (pv 0) rfl) ag))) ag)))))), ?_⟩
   repeat' (walk_at "rd1")
   exact q _ (by walk_at "same")
def lU (m : V) (d : PyData) : Prop := (m = .cn /\ d = .none) \/ ∃ i, m = .int i /\ d = .int i /\ 0 <= i /\ i < 10 ^ 64
theorem lU.ok {m : V} {d : PyData} (h : lU m d) : gN d := by
 rcases h with ⟨_, e⟩ | ⟨i, _, e, h0, h1⟩
 . exact .inl e
 . exact .inr ⟨i, e, h0, h1⟩
theorem lU.dv {m : V} {d : PyData} {H : Hp} (h : lU m d) : Dv H m d := by
 rcases h with ⟨rfl, rfl⟩ | ⟨i, rfl, rfl, _⟩
 . exact .cn
 . exact .int i
local macro_rules | `(tactic| walk_at "dat") => `(tactic| first
 | ((refine' lU.dv ?m); (case m => assumption))
 | fail)
theorem v7 {st sp wd : Int} {m : V} {d : PyData} (T : Txt K mg a) (a0 : 0 <= st) (b0 : st < 10 ^ 64) (a1 : 0 <= sp) (b1 : sp < 10 ^ 64) (a2 : 0 <= wd) (b2 : wd < 10 ^ 64) (hm : lU m d) : bh P w K mg base qM 4 a.cM a.kD ["self"] (d5 a.bq "each" [("many", m), ("start", .int st), ("step", .int sp), ("wide", .int wd)] [.int st, .int sp, .int wd, d]) := by
 have fL := iO (P := P) (w := w) (base := base) T
 have n0 := T.dU; have n1 := T.dr; have n2 := T.dQ; have n3 := T.dS; have cl := T.eE
 refine T.iR.ok qR (fun vs H Q E h => ?_) (fun dk A outer s H vs Q E hr h => ?_)
 . obtain ⟨_, rfl, _⟩ := h; rfl
 . obtain ⟨v, rfl, hp, q⟩ := h
   have hn : ∀ x ∈ ([.int st, .int sp, .int wd, d] : List PyData), gN x := by
    intro x hx
    simp only [List.mem_cons, List.not_mem_nil, or_false] at hx
    rcases hx with rfl | rfl | rfl | rfl
    . exact .int a0 b0
    . exact .int a1 b1
    . exact .int a2 b2
    . exact hm.ok
   refine ⟨_, (aj (by exact (aB (aG fL (hr.mono (by decide)) rfl T.hJ T.g9 (af av (af (bz (af (dH (pv 0) rfl) (af (dH (pv 0) rfl) (af (dH (pv 0) rfl) (af (dH (pv 0) rfl) ag))))) ag)))))), ?_⟩
   repeat' (walk_at "rd1")
   exact q _ (by walk_at "same")
theorem vK {st gp wd : Int} {m : V} {d : PyData} (T : Txt K mg a) (a0 : 0 <= st) (b0 : st < 10 ^ 64) (a1 : 0 <= gp) (b1 : gp < 10 ^ 64) (a2 : 0 <= wd) (b2 : wd < 10 ^ 64) (hm : lU m d) : bh P w K mg base qM 4 a.bO a.iX ["self"] (d5 a.aD "behind" [("many", m), ("start", .int st), ("gap", .int gp), ("wide", .int wd)] [.int st, .int gp, .int wd, d]) := by
 have fL := iO (P := P) (w := w) (base := base) T
 have n0 := T.c9; have n1 := T.cN; have n2 := T.dt; have n3 := T.cZ; have cl := T.cT
 refine T.fv.ok oY (fun vs H Q E h => ?_) (fun dk A outer s H vs Q E hr h => ?_)
 . obtain ⟨_, rfl, _⟩ := h; rfl
 . obtain ⟨v, rfl, hp, q⟩ := h
   have hn : ∀ x ∈ ([.int st, .int gp, .int wd, d] : List PyData), gN x := by
    intro x hx
    simp only [List.mem_cons, List.not_mem_nil, or_false] at hx
    rcases hx with rfl | rfl | rfl | rfl
    . exact .int a0 b0
    . exact .int a1 b1
    . exact .int a2 b2
    . exact hm.ok
   refine ⟨_, (aj (by exact (aB (aG fL (hr.mono (by decide)) rfl T.hJ T.g9 (af av (af (bz (af (dH (pv 0) rfl) (af (dH (pv 0) rfl) (af (dH (pv 0) rfl) (af (dH (pv 0) rfl) ag))))) ag)))))), ?_⟩
   repeat' (walk_at "rd1")
   exact q _ (by walk_at "same")
theorem vh {st gp mo wd : Int} {m : V} {d : PyData} (T : Txt K mg a) (a0 : 0 <= st) (b0 : st < 10 ^ 64) (a1 : 0 <= gp) (b1 : gp < 10 ^ 64) (a2 : 0 <= mo) (b2 : mo < 10 ^ 64) (a3 : 0 <= wd) (b3 : wd < 10 ^ 64) (hm : lU m d) : bh P w K mg base qM 4 a.bC a.hV ["self"] (d5 a.aw "slowing" [("many", m), ("start", .int st), ("gap", .int gp), ("wide", .int wd), ("most", .int mo)] [.int st, .int gp, .int mo, .int wd, d]) := by
 have fL := iO (P := P) (w := w) (base := base) T
 have n0 := T.cS; have n1 := T.cw; have n2 := T.c5; have n3 := T.cQ; have n4 := T.cR; have cl := T.cg
 refine T.eJ.ok oo (fun vs H Q E h => ?_) (fun dk A outer s H vs Q E hr h => ?_)
 . obtain ⟨_, rfl, _⟩ := h; rfl
 . obtain ⟨v, rfl, hp, q⟩ := h
   have hn : ∀ x ∈ ([.int st, .int gp, .int mo, .int wd, d] : List PyData), gN x := by
    intro x hx
    simp only [List.mem_cons, List.not_mem_nil, or_false] at hx
    rcases hx with rfl | rfl | rfl | rfl | rfl
    . exact .int a0 b0
    . exact .int a1 b1
    . exact .int a2 b2
    . exact .int a3 b3
    . exact hm.ok
   refine ⟨_, (aj (by exact (aB (aG fL (hr.mono (by decide)) rfl T.hJ T.g9 (af av (af (bz (af (dH (pv 0) rfl) (af (dH (pv 0) rfl) (af (dH (pv 0) rfl) (af (dH (pv 0) rfl) (af (dH (pv 0) rfl) ag)))))) ag)))))), ?_⟩
   repeat' (walk_at "rd1")
   exact q _ (by walk_at "same")
def mD : V -> PyData
 | .int i => .int i
 | _ => .none
structure WO where
 (f l : Int)
 (h0 : 0 <= f) (h1 : f < 10 ^ 64) (h2 : 0 <= l) (h3 : l < 10 ^ 64)
structure W3 where
 (st sp wd : Int) (m : V) (d : PyData)
 (h0 : 0 <= st) (h1 : st < 10 ^ 64) (h2 : 0 <= sp) (h3 : sp < 10 ^ 64) (h4 : 0 <= wd) (h5 : wd < 10 ^ 64) (hm : lU m d)
structure W4 where
 (st gp mo wd : Int) (m : V) (d : PyData)
 (h0 : 0 <= st) (h1 : st < 10 ^ 64) (h2 : 0 <= gp) (h3 : gp < 10 ^ 64) (h4 : 0 <= mo) (h5 : mo < 10 ^ 64) (h6 : 0 <= wd) (h7 : wd < 10 ^ 64) (hm : lU m d)
def DH (C : Addr) : Sp := fun vs H Q E => ∃ i : WO, d5 C "once" [("many", .int 1), ("first", .int i.f), ("last", .int i.l)] [.int i.f, .int i.l] vs H Q E
def Dw (C : Addr) : Sp := fun vs H Q E => ∃ i : W3, d5 C "each" [("many", i.m), ("start", .int i.st), ("step", .int i.sp), ("wide", .int i.wd)] [.int i.st, .int i.sp, .int i.wd, i.d] vs H Q E
def Em (C : Addr) : Sp := fun vs H Q E => ∃ i : W3, d5 C "behind" [("many", i.m), ("start", .int i.st), ("gap", .int i.sp), ("wide", .int i.wd)] [.int i.st, .int i.sp, .int i.wd, i.d] vs H Q E
def DB (C : Addr) : Sp := fun vs H Q E => ∃ i : W4, d5 C "slowing" [("many", i.m), ("start", .int i.st), ("gap", .int i.gp), ("wide", .int i.wd), ("most", .int i.mo)] [.int i.st, .int i.gp, .int i.mo, .int i.wd, i.d] vs H Q E
theorem F7 (T : Txt K mg a) : qO P w K mg base 4 a.cI ["self"] [] (DH a.bF) :=
 ⟨⟨_, _, bh.ex fun i : WO => uX T i.h0 i.h1 i.h2 i.h3, T.ib.binds fun _ _ _ _ _ _ => .all fun us hl => match us, hl with | [_], _ => rfl, .nil⟩⟩
theorem GI (T : Txt K mg a) : qO P w K mg base 4 a.cM ["self"] [] (Dw a.bq) :=
 ⟨⟨_, _, bh.ex fun i : W3 => v7 T i.h0 i.h1 i.h2 i.h3 i.h4 i.h5 i.hm, T.iR.binds fun _ _ _ _ _ _ => .all fun us hl => match us, hl with | [_], _ => rfl, .nil⟩⟩
theorem E8 (T : Txt K mg a) : qO P w K mg base 4 a.bO ["self"] [] (Em a.aD) :=
 ⟨⟨_, _, bh.ex fun i : W3 => vK T i.h0 i.h1 i.h2 i.h3 i.h4 i.h5 i.hm, T.fv.binds fun _ _ _ _ _ _ => .all fun us hl => match us, hl with | [_], _ => rfl, .nil⟩⟩
theorem FT (T : Txt K mg a) : qO P w K mg base 4 a.bC ["self"] [] (DB a.aw) :=
 ⟨⟨_, _, bh.ex fun i : W4 => vh T i.h0 i.h1 i.h2 i.h3 i.h4 i.h5 i.h6 i.h7 i.hm, T.eJ.binds fun _ _ _ _ _ _ => .all fun us hl => match us, hl with | [_], _ => rfl, .nil⟩⟩
theorem Lc {C : Addr} {H : Hp} {Q : VK} {E : XK} {v : V} {f l : Int} (hp : tm H v C [("many", .int 1), ("first", .int f), ("last", .int l)]) (h : 0 <= f /\ f < 10 ^ 64 /\ 0 <= l /\ l < 10 ^ 64) (q : ∀ H', ao H H' -> Q (.str (pw "once" [.int f, .int l])) H') : DH C [v] H Q E := ⟨⟨f, l, h.1, h.2.1, h.2.2.1, h.2.2.2⟩, pJ hp q⟩
theorem LU {C : Addr} {H : Hp} {Q : VK} {E : XK} {v : V} {st sp wd : Int} {m : V} (hp : tm H v C [("many", m), ("start", .int st), ("step", .int sp), ("wide", .int wd)]) (hm : lU m (mD m)) (h : 0 <= st /\ st < 10 ^ 64 /\ 0 <= sp /\ sp < 10 ^ 64 /\ 0 <= wd /\ wd < 10 ^ 64) (q : ∀ H', ao H H' -> Q (.str (pw "each" [.int st, .int sp, .int wd, mD m])) H') : Dw C [v] H Q E := ⟨⟨st, sp, wd, m, _, h.1, h.2.1, h.2.2.1, h.2.2.2.1, h.2.2.2.2.1, h.2.2.2.2.2, hm⟩, pJ hp q⟩
theorem KI {C : Addr} {H : Hp} {Q : VK} {E : XK} {v : V} {st sp wd : Int} {m : V} (hp : tm H v C [("many", m), ("start", .int st), ("gap", .int sp), ("wide", .int wd)]) (hm : lU m (mD m)) (h : 0 <= st /\ st < 10 ^ 64 /\ 0 <= sp /\ sp < 10 ^ 64 /\ 0 <= wd /\ wd < 10 ^ 64) (q : ∀ H', ao H H' -> Q (.str (pw "behind" [.int st, .int sp, .int wd, mD m])) H') : Em C [v] H Q E := ⟨⟨st, sp, wd, m, _, h.1, h.2.1, h.2.2.1, h.2.2.2.1, h.2.2.2.2.1, h.2.2.2.2.2, hm⟩, pJ hp q⟩
theorem Lw {C : Addr} {H : Hp} {Q : VK} {E : XK} {v : V} {st gp mo wd : Int} {m : V} (hp : tm H v C [("many", m), ("start", .int st), ("gap", .int gp), ("wide", .int wd), ("most", .int mo)]) (hm : lU m (mD m)) (h : 0 <= st /\ st < 10 ^ 64 /\ 0 <= gp /\ gp < 10 ^ 64 /\ 0 <= mo /\ mo < 10 ^ 64 /\ 0 <= wd /\ wd < 10 ^ 64) (q : ∀ H', ao H H' -> Q (.str (pw "slowing" [.int st, .int gp, .int mo, .int wd, mD m])) H') : DB C [v] H Q E := ⟨⟨st, gp, mo, wd, m, _, h.1, h.2.1, h.2.2.1, h.2.2.2.1, h.2.2.2.2.1, h.2.2.2.2.2.1, h.2.2.2.2.2.2.1, h.2.2.2.2.2.2.2, hm⟩, pJ hp q⟩
local macro_rules | `(tactic| walk_at "use") => `(tactic| first
 | ((with_reducible refine' Lc ?e0 ?e1 (fun _ _ => ?_)); (case e0 => walk_at "ins"); (case e1 => assumption))
 | ((with_reducible refine' LU ?e0 ?e1 ?e2 (fun _ _ => ?_)); (case e0 => walk_at "ins"); (case e1 => assumption); (case e2 => assumption))
 | ((with_reducible refine' KI ?e0 ?e1 ?e2 (fun _ _ => ?_)); (case e0 => walk_at "ins"); (case e1 => assumption); (case e2 => assumption))
 | ((with_reducible refine' Lw ?e0 ?e1 ?e2 (fun _ _ => ?_)); (case e0 => walk_at "ins"); (case e1 => assumption); (case e2 => assumption))
 | fail)
def dig (c : Nat) : Bool := decide (48 <= c) && decide (c <= 57)
def cF (l : List Nat) : List Nat := if (l.head? == some 45) = true then l.drop 1 else l
def qX (l : List Nat) : Bool := (decide (1 <= (cF l).length) && decide ((cF l).length <= 60)) && ((cF l).all dig && (l == [48] || (cF l).head? != some 48))
def fE (x : Str) : Bool := qX x.cps.toList
def ji (n : Nat) (x : Str) : Prop := x.length <= n /\ ∀ c ∈ x.cps.toList, c < 128
theorem ji.up {n m : Nat} {x : Str} (h : ji n x) (hm : n <= m) : ji m x := ⟨Nat.le_trans h.1 hm, h.2⟩
theorem ft (x : Str) : x.length = x.cps.toList.length := by show x.cps.size = _; simp
theorem qK {x : Str} (h : fE x = true) (hl : x.length <= 700) : ∃ n, PySem.intText? x = some n := by
 unfold fE qX at h
 simp only [Bool.and_eq_true, decide_eq_true_eq] at h
 obtain ⟨⟨h1, h2⟩, h3, h4⟩ := h
 have hd : PySem.NumText.AllDigits (cF x.cps.toList) := fun c hc => by
  have := List.all_eq_true.mp h3 c hc
  unfold dig at this
  simpa using this
 have j6 : cF x.cps.toList ≠ [] := fun e => by rw [e] at h1; simp at h1
 unfold cF at hd j6
 split at hd
 . rename_i c
   rw [if_pos c] at j6
   obtain ⟨r, er⟩ : ∃ r, x.cps.toList = 45 :: r := by
    cases e : x.cps.toList with
    | nil => rw [e] at c; simp at c
    | cons d r => rw [e] at c; simp at c; subst c; exact ⟨r, rfl⟩
   rw [er] at hd j6
   exact ⟨_, PySem.intText_neg er hd j6 (by omega)⟩
 . rename_i c
   rw [if_neg c] at j6
   exact ⟨_, PySem.intText_digits hd j6 (by omega)⟩
theorem M8 : ∀ c : Fin 128, (Builtin.Str.occurrences "0123456789" ⟨#[c.val]⟩ 0 (Str.length "0123456789") 1).isEmpty = !dig c.val := by decide +kernel
theorem Ah {n : Int} (h1 : -(10 ^ 60) < n) (h2 : n < 10 ^ 60) : ji 61 (toString n : String) := by
 have e : (toString n).length <= 60 + 1 := PySem.int_text_length_le10 (by decide) (by omega)
 refine ⟨by have : (Str.ofString (toString n)).length = (toString n).length := PySem.ofString_length _; omega, fun c hc => ?_⟩
 by_cases h : c < 128
 . exact h
 . exact absurd hc (PyProof.Rows.int_text_free' c ⟨by omega, by omega⟩ n)
def qi : Sp := fun vs H Q _ => ∃ x : Str, vs = [.str x] /\ ji 700 x /\ ∀ H', ao H H' -> Q (.bl (fE x)) H'
theorem CP {H : Hp} {Q : VK} {E : XK} {x : Str} (h : ji 700 x) (q : ∀ H', ao H H' -> Q (.bl (fE x)) H') : qi [.str x] H Q E := ⟨x, rfl, h, q⟩
local macro_rules | `(tactic| walk_at "use") => `(tactic| first
 | ((with_reducible refine' CP ?e1 (fun _ _ => ?_)); (case e1 => assumption))
 | fail)
theorem MA : (Str.ofString "-") = ⟨#[45]⟩ := by decide +kernel
theorem KL : (Str.ofString "0") = ⟨#[48]⟩ := by decide +kernel
theorem Aw {l : List Nat} {c : Nat} (h : c ∈ cF l) : c ∈ l := by
 unfold cF at h
 split at h
 . exact List.mem_of_mem_drop h
 . exact h
theorem zN (l : List Nat) : (cF l).length <= l.length := by
 unfold cF
 split
 . rw [List.length_drop]; omega
 . exact Nat.le_refl _
def GN (x : Str) : Str := ⟨(cF x.cps.toList).toArray⟩
theorem Dr {x : Str} {n : Nat} (h : ji n x) : ∃ r : Str, GN x = r /\ r.cps.toList = cF x.cps.toList /\ ji n r := by
 refine ⟨_, rfl, rfl, ?_, fun c hc => h.2 c (Aw hc)⟩
 have h1 := zN x.cps.toList
 have h2 := h.1
 rw [ft] at h2 ⊢
 show (cF x.cps.toList).length <= n
 omega
theorem Ds {x : Str} (h : (x.cps.toList.head? == some 45) = true) : lu x (some 1) none = GN x := by
 rw [vQ]
 unfold GN cF
 rw [if_pos h]
theorem BM {x : Str} (h : (x.cps.toList.head? == some 45) = false) : x = GN x := by
 unfold GN cF
 rw [if_neg (by rw [h]; decide)]
theorem t6 {x : Str} (h : ¬ (cF x.cps.toList).length <= 60) : fE x = false := by
 unfold fE qX
 rw [decide_eq_false h]
 simp
theorem rD {x : Str} (h : ¬ 1 <= (cF x.cps.toList).length) : fE x = false := by
 unfold fE qX
 rw [decide_eq_false h]
 simp
theorem Cr {x : Str} (h : (cF x.cps.toList).all dig = false) : fE x = false := by
 unfold fE qX
 rw [h]
 simp
theorem Dc {x : Str} (h1 : 1 <= (cF x.cps.toList).length) (h2 : (cF x.cps.toList).length <= 60) (h3 : (cF x.cps.toList).all dig = true) : fE x = (x.cps.toList == [48] || (cF x.cps.toList).head? != some 48) := by
 unfold fE qX
 rw [h3, decide_eq_true h1, decide_eq_true h2]
 rfl
theorem Dm (c : Nat) (t : List Nat) : (!decide (V.str ⟨#[c]⟩ = V.str (Str.ofString "0"))) = ((c :: t).head? != some 48) := by
 rw [KL, Bool.eq_iff_iff]
 simp
theorem tB {x : Str} (h : V.str x = V.str (Str.ofString "0")) : fE x = true := by
 rw [KL] at h
 cases h
 decide
theorem uE {r : Str} {l : List Nat} (h : r.cps.toList = l) (h1 : 1 <= l.length) : ∃ c t, l = c :: t /\ oM r.cps.toList 0 = some c := by
 subst h
 cases e : r.cps.toList with
 | nil => rw [e] at h1; simp at h1
 | cons c t => exact ⟨c, t, rfl, by have z : oM (c :: t) ((0 : Nat) : Int) = some c := jV rfl; exact z⟩
theorem NI (x : Str) : decide (V.str x = V.str (Str.ofString "0")) = (x.cps.toList == [48]) := by
 rw [KL, Bool.eq_iff_iff, decide_eq_true_eq, beq_iff_eq]
 constructor
 . intro h; cases h; rfl
 . intro h
   obtain ⟨⟨l⟩⟩ := x
   cases (show l = [48] from h)
   rfl
theorem wW {x : Str} {c : Nat} {t : List Nat} (h : ¬ V.str x = V.str (Str.ofString "0")) (hl : cF x.cps.toList = c :: t) (h2 : (cF x.cps.toList).length <= 60) (h3 : (cF x.cps.toList).all dig = true) : fE x = !decide (V.str ⟨#[c]⟩ = V.str (Str.ofString "0")) := by
 rw [Dc (by rw [hl]; simp) h2 h3, <- NI, decide_eq_false h, hl, Dm c t]
 rfl
theorem sY (T : Txt K mg a) : bh P w K mg base qM 1 a.cC a.lX ["text"] qi := by
 refine T.jT.ok nE (fun vs H Q E h => ?_) (fun dk A outer s H vs Q E hr h => ?_)
 . obtain ⟨_, rfl, _⟩ := h; rfl
 . obtain ⟨x, rfl, hx, q⟩ := h
   have GQ := hx.1
   refine ⟨_, (mG (by exact (cx (i := 1) nE.nd rfl (Or.inl rfl) (m8 (eF (qh PySem.F.plainAttrs_str PySem.F.slot_str_startswith PySem.F.type_str_startswith yn (pv 0) (af av ag)) (fun _ => rfl)) (bj C0 (pv 0) (bQ ah) cu) (pv 0))))
    (ai (by exact (bE (PW.pt (pX (nR (zc rJ rJ ah (aU cy rfl T.dP PySem.boot_len (af (pv 1) ag)) (iD (v := .int 60) rfl T.je ⟨_, rfl⟩))) (qG (nR (eF (aU (xV rfl) rfl T.sX PyProof.Rows.boot_all (af (Eh (T := ["sign"]) (M := ["text", "row"]) (G9 (ak gq) ["text", "row"] rfl rfl (by decide +kernel)) rfl (AI (pv 1)) (fun _ _ _ _ _ => (fO (i := 0) (show List.Nodup (["sign", "text", "row"] : List Str) by decide +kernel) rfl (Or.inl rfl))) (g8 (by decide)) (fun _ _ _ _ _ => mw) (fun _ _ _ _ _ => (dy Bp (pv 0) (iD (v := .str "0123456789") rfl T.qj ⟨_, rfl⟩) rfl))) ag)) (fun _ => rfl))))))
     (aj (aB qy))
     aF))
    (aj (by exact (aB (Jt (dy (aY hr.kR) (pv 0) av (ax _)) (jJ (dy (vn hr.kR) (a8 cW (pv 1) ah (fun _ _ => rfl)) av (ax _))))))))), ?_⟩
   refine sk (fun σ' H' => H' = H /\ σ' = [some (.str x), some (.str (GN x))]) ?_ ?_
   . repeat' (walk_at "rd1")
     . rename_i hb
       rw [MA, qt] at hb
       rw [Ds hb]
       exact ⟨rfl, rfl⟩
     . rename_i hb
       rw [MA, qt] at hb
       exact ⟨rfl, by rw [<- BM hb]; rfl⟩
   rintro σ' H' ⟨rfl, rfl⟩
   obtain ⟨r, er, J0, ML⟩ := Dr hx
   rw [er]
   have Pq := ML.1
   have Mr : r.length = (cF x.cps.toList).length := by rw [ft, J0]
   repeat' (walk_at "rd1")
   . rename_i b1 b2
     have := q H' (ao.refl _)
     rw [t6 (by omega)] at this
     exact this
   . rename_i b1 b2
     refine Hg (fun _ => true) (fun c => .bool (dig c)) (by show r.length <= 4000; omega) (fun _ => rfl) (fun c H2 N hc sm yes no => ?_) (fun pq H2 sm hn uT => ?_)
     . have ho := M8 ⟨c, ML.2 c hc⟩
       repeat' (walk_at "rd1")
       refine pN (fun _ => ?_) (fun hb => by cases hb)
       repeat' (walk_at "rd1")
       refine yes rfl _ _ (ao.refl _) ?_
       have oZ : (!(Builtin.Str.occurrences "0123456789" ⟨#[c]⟩ 0 (Str.length "0123456789") 1).isEmpty) = dig c := by rw [ho, Bool.not_not]
       rw [<- oZ]
       exact .bl _
     . have OJ : dn H2 pq ((r.cps.toList.map dig).map PyData.bool) := by
        have e : (r.cps.toList.filter fun _ => true) = r.cps.toList := List.filter_eq_self.mpr (fun _ _ => rfl)
        rw [e] at uT
        rw [List.map_map]
        exact uT
       have gF : (r.cps.toList.map dig).all id = (cF x.cps.toList).all dig := by rw [List.all_map, J0]; rfl
       repeat' (walk_at "rd1")
       . rename_i hb
         rw [gF] at hb
         have := q H2 sm
         rw [Cr hb] at this
         exact this
       . rename_i hb hz
         have := q H2 sm
         rw [tB hz] at this
         exact this
       . rename_i hb hz
         obtain ⟨c, t, el, ei⟩ := uE J0 (by omega)
         refine zR (by rw [PySem.sizeLine_eq]; omega) ei ?_
         repeat' (walk_at "rd1")
         have := q H2 sm
         rw [wW hz el (by omega) (by rw [<- gF]; exact hb)] at this
         exact this
   . rename_i b1 b2
     have := q H' (ao.refl _)
     rw [rD (by omega)] at this
     exact this
theorem qZ (T : Txt K mg a) : qO P w K mg base 1 a.cC ["text"] [] qi :=
 ⟨⟨_, _, sY T, T.jT.binds fun _ _ _ _ _ _ => .all fun us hl => match us, hl with | [_], _ => rfl, .nil⟩⟩
def rd (x : Str) : Option Int := if fE x = true then PySem.intText? x else none
def aW (x : Str) : Int := match rd x with
 | some n => if 0 <= n then n else -1
 | none => -1
theorem Ee : ∀ (cs : List Nat), PySem.NumText.AllDigits cs -> ∀ k, cs.foldl (fun acc c => acc * 10 + (c - 48)) k < (k + 1) * 10 ^ cs.length
 | [], _, k => by simp
 | c :: cs, h, k => by
   have h1 := Ee cs h.tail (k * 10 + (c - 48))
   have h2 := h.head
   rw [List.foldl_cons, List.length_cons]
   have h3 : (k * 10 + (c - 48) + 1) * 10 ^ cs.length <= ((k + 1) * 10) * 10 ^ cs.length := Nat.mul_le_mul_right _ (by omega)
   have h4 : (k + 1) * 10 ^ (cs.length + 1) = ((k + 1) * 10) * 10 ^ cs.length := by rw [Nat.pow_succ, Nat.mul_comm (10 ^ cs.length) 10, Nat.mul_assoc]
   omega
theorem Bl {cs : List Nat} (h : PySem.NumText.AllDigits cs) (hl : cs.length <= 60) : PySem.NumText.digitsVal cs < 10 ^ 60 := by
 have h1 := Ee cs h 0
 have h2 : (10 : Nat) ^ cs.length <= 10 ^ 60 := Nat.pow_le_pow_right (by decide) hl
 unfold PySem.NumText.digitsVal
 omega
theorem uI : ∀ {cs : List Nat}, PySem.NumText.AllDigits cs -> (cs.map Char.ofNat).map Char.toNat = cs
 | [], _ => rfl
 | c :: cs, h => by
   have h1 := h.head
   have : (Char.ofNat c).toNat = c := by
    have z : ∀ c < 58, (Char.ofNat c).toNat = c := by decide
    exact z c (by omega)
   rw [List.map_cons, List.map_cons, this, uI h.tail]
theorem xq {cs : List Nat} (h : cs.all dig = true) : PySem.NumText.AllDigits cs := fun c hc => by
 have := List.all_eq_true.mp h c hc
 unfold dig at this
 simpa using this
theorem str_list {x y : Str} (h : x.cps.toList = y.cps.toList) : x = y := by
 obtain ⟨⟨l⟩⟩ := x
 obtain ⟨⟨m⟩⟩ := y
 cases (show l = m from h)
 rfl
theorem A5 {x : Str} (h : PySem.NumText.AllDigits x.cps.toList) (j6 : x.cps.toList ≠ []) (hz : x.cps.toList = [48] \/ x.cps.toList.head? ≠ some 48) : x = nD (PySem.NumText.digitsVal x.cps.toList : Nat) := by
 refine str_list ?_
 unfold nD
 rw [PySem.W.KIN.signs_num, PySem.NumText.toDigits_all _ h]
 rcases hz with e | e
 . rw [e]; decide
 . cases el : x.cps.toList with
   | nil => exact absurd el j6
   | cons c r =>
     rw [el] at e h
     have hc : ¬ c = 48 := fun z => e (by rw [z]; rfl)
     rw [List.dropWhile_cons, if_neg (by rw [beq_iff_eq]; exact hc)]
     exact (uI h).symm
theorem p8 (x : Str) : (rd x = none /\ aW x = -1) \/ (∃ n, n < 0 /\ rd x = some n /\ aW x = -1) \/ ∃ n : Int, 0 <= n /\ n < 10 ^ 60 /\ rd x = some n /\ aW x = n /\ x = nD n /\ x.cps.toList.all dig = true := by
 by_cases hn : fE x = true
 . have e : rd x = PySem.intText? x := if_pos hn
   have h := hn
   unfold fE qX at h
   simp only [Bool.and_eq_true, decide_eq_true_eq] at h
   obtain ⟨⟨h1, h2⟩, h3, h4⟩ := h
   have hd := xq h3
   have j6 : cF x.cps.toList ≠ [] := fun z => by rw [z] at h1; simp at h1
   have hlen : x.length <= 61 := by
    rw [ft]
    unfold cF at h2
    split at h2
    . rw [List.length_drop] at h2; omega
    . omega
   by_cases c : (x.cps.toList.head? == some 45) = true
   . obtain ⟨r, er⟩ : ∃ r, x.cps.toList = 45 :: r := by
      cases e : x.cps.toList with
      | nil => rw [e] at c; simp at c
      | cons d r => rw [e] at c; simp at c; subst c; exact ⟨r, rfl⟩
     have rr : cF x.cps.toList = r := by unfold cF; rw [if_pos c, er]; rfl
     rw [rr] at hd j6 h4
     have e2 := PySem.intText_neg er hd j6 (by omega)
     have sr : 0 < PySem.NumText.digitsVal r := by
      cases r with
      | nil => exact absurd rfl j6
      | cons d t =>
        have := hd.head
        have OC : d ≠ 48 := fun z => by rw [er, z] at h4; simp at h4
        exact PySem.NumText.digitsVal_pos (by omega)
     refine .inr (.inl ⟨_, ?_, e.trans e2, ?_⟩)
     . omega
     . unfold aW
       rw [e, e2]
       simp only
       rw [if_neg (by omega)]
   . have rr : cF x.cps.toList = x.cps.toList := by unfold cF; rw [if_neg c]
     rw [rr] at hd j6 h4 h2 h3
     have e2 := PySem.intText_digits hd j6 (by omega)
     have hz : x.cps.toList = [48] \/ x.cps.toList.head? ≠ some 48 := by simpa using h4
     have rM := Bl hd h2
     refine .inr (.inr ⟨_, Int.natCast_nonneg _, by omega, e.trans e2, ?_, A5 hd j6 hz, h3⟩)
     unfold aW
     rw [e, e2]
     simp only
     rw [if_pos (Int.natCast_nonneg _)]
 . left
   have e : rd x = none := if_neg hn
   exact ⟨e, by unfold aW; rw [e]⟩
theorem ec {x : Str} (h : 0 <= aW x) : rd x = some (aW x) /\ x = nD (aW x) /\ aW x < 10 ^ 60 := by
 rcases p8 x with ⟨_, e⟩ | ⟨_, _, _, e⟩ | ⟨n, h0, h1, e1, e2, e3, _⟩
 . omega
 . omega
 . rw [e2]; exact ⟨e1, e3, h1⟩
theorem mF {x : Str} {n : Int} (h : rd x = some n) : (n < 0 /\ aW x = -1) \/ (0 <= n /\ n < 10 ^ 60 /\ aW x = n /\ x = nD n) := by
 rcases p8 x with ⟨e, _⟩ | ⟨m, h1, e, e2⟩ | ⟨m, h0, h1, e, e2, e3, _⟩
 . rw [e] at h; cases h
 . rw [e] at h; cases h; exact .inl ⟨h1, e2⟩
 . rw [e] at h; cases h; exact .inr ⟨h0, h1, e2, e3⟩
def uP (x : Str) : Option V := if x = Str.ofString "ever" then some .cn else (rd x).map V.int
theorem nu {x : Str} {m : V} (h : uP x = some m) : (x = Str.ofString "ever" /\ m = .cn) \/ ∃ n, ¬ x = Str.ofString "ever" /\ rd x = some n /\ m = .int n := by
 unfold uP at h
 split at h
 . rename_i e
   cases h
   exact .inl ⟨e, rfl⟩
 . rename_i e
   cases e2 : rd x with
   | none => rw [e2] at h; cases h
   | some n => rw [e2] at h; cases h; exact .inr ⟨n, e, rfl, rfl⟩
inductive qE : List Str -> Str -> List V -> Prop
 | once {w1 w2 : Str} {f l : Int} : rd w1 = some f -> rd w2 = some l -> qE [Str.ofString "once", w1, w2] (Str.ofString "once") [.int f, .int l]
 | each {w1 w2 w3 w4 : Str} {x y z : Int} {m : V} : rd w1 = some x -> rd w2 = some y -> rd w3 = some z -> uP w4 = some m -> qE [Str.ofString "each", w1, w2, w3, w4] (Str.ofString "each") [.int x, .int y, .int z, m]
 | behind {w1 w2 w3 w4 : Str} {x y z : Int} {m : V} : rd w1 = some x -> rd w2 = some y -> rd w3 = some z -> uP w4 = some m -> qE [Str.ofString "behind", w1, w2, w3, w4] (Str.ofString "behind") [.int x, .int y, .int z, m]
 | jw {w1 w2 w3 w4 w5 : Str} {x y u z : Int} {m : V} : rd w1 = some x -> rd w2 = some y -> rd w3 = some u -> rd w4 = some z -> uP w5 = some m -> qE [Str.ofString "slowing", w1, w2, w3, w4, w5] (Str.ofString "slowing") [.int x, .int y, .int u, .int z, m]
def wK (kd : Str) (us : List V) : Bool := if kd = Str.ofString "once" then Be us else if kd = Str.ofString "each" then ym us else if kd = Str.ofString "behind" then uS us else Ba us
theorem tW : ¬ Str.ofString "each" = Str.ofString "once" := by decide +kernel
theorem uk : ¬ Str.ofString "behind" = Str.ofString "once" := by decide +kernel
theorem tX : ¬ Str.ofString "slowing" = Str.ofString "once" := by decide +kernel
theorem uY : ¬ Str.ofString "behind" = Str.ofString "each" := by decide +kernel
theorem yq : ¬ Str.ofString "slowing" = Str.ofString "each" := by decide +kernel
theorem xR : ¬ Str.ofString "slowing" = Str.ofString "behind" := by decide +kernel
theorem wu {us : List V} : wK (Str.ofString "once") us = Be us := if_pos rfl
theorem wY {us : List V} : wK (Str.ofString "each") us = ym us := by unfold wK; rw [if_neg tW, if_pos rfl]
theorem wU {us : List V} : wK (Str.ofString "behind") us = uS us := by unfold wK; rw [if_neg uk, if_neg uY, if_pos rfl]
theorem w9 {us : List V} : wK (Str.ofString "slowing") us = Ba us := by unfold wK; rw [if_neg tX, if_neg yq, if_neg xR]
def GoodW (ws : List Str) : Prop := ∃ kd us, qE ws kd us /\ wK kd us = true
theorem qE.det {ws : List Str} {k1 k2 : Str} {u1 u2 : List V} (h : qE ws k1 u1) (g : qE ws k2 u2) : k1 = k2 /\ u1 = u2 := by
 have e : ∀ {α : Type} {o : Option α} {x y : α}, o = some x -> o = some y -> x = y := fun h g => Option.some.inj (h.symm.trans g)
 generalize ew : ws = Pr at g
 cases h with
 | once a1 a2 =>
   cases g with
   | once b1 b2 =>
     injection ew with _ ew; injection ew with e1 ew; injection ew with e2 _
     subst e1; subst e2
     rw [e a1 b1, e a2 b2]; exact ⟨rfl, rfl⟩
   | each => simp at ew
   | behind => simp at ew
   | jw => simp at ew
 | each a1 a2 a3 a4 =>
   cases g with
   | once => simp at ew
   | each b1 b2 b3 b4 =>
     injection ew with _ ew; injection ew with e1 ew; injection ew with e2 ew; injection ew with e3 ew; injection ew with e4 _
     subst e1; subst e2; subst e3; subst e4
     rw [e a1 b1, e a2 b2, e a3 b3, e a4 b4]; exact ⟨rfl, rfl⟩
   | behind => injection ew with e0 _; exact absurd e0.symm uY
   | jw => simp at ew
 | behind a1 a2 a3 a4 =>
   cases g with
   | once => simp at ew
   | each => injection ew with e0 _; exact absurd e0 uY
   | behind b1 b2 b3 b4 =>
     injection ew with _ ew; injection ew with e1 ew; injection ew with e2 ew; injection ew with e3 ew; injection ew with e4 _
     subst e1; subst e2; subst e3; subst e4
     rw [e a1 b1, e a2 b2, e a3 b3, e a4 b4]; exact ⟨rfl, rfl⟩
   | jw => simp at ew
 | jw a1 a2 a3 a4 a5 =>
   cases g with
   | once => simp at ew
   | each => simp at ew
   | behind => simp at ew
   | jw b1 b2 b3 b4 b5 =>
     injection ew with _ ew; injection ew with e1 ew; injection ew with e2 ew; injection ew with e3 ew; injection ew with e4 ew; injection ew with e5 _
     subst e1; subst e2; subst e3; subst e4; subst e5
     rw [e a1 b1, e a2 b2, e a3 b3, e a4 b4, e a5 b5]; exact ⟨rfl, rfl⟩
def zF (C : Addr) : Sp := fun vs H Q E => ∃ x, vs = [.str x] /\ ji 700 x /\ (rd x = none -> ∀ H', ao H H' -> E (.ref C) none H') /\ (∀ n, rd x = some n -> ∀ H', ao H H' -> Q (.int n) H')
theorem AJ {C : Addr} {H : Hp} {Q : VK} {E : XK} {x : Str} (hx : ji 700 x) (h : rd x = none -> ∀ H', ao H H' -> E (.ref C) none H') (q : ∀ n, rd x = some n -> ∀ H', ao H H' -> Q (.int n) H') : zF C [.str x] H Q E := ⟨x, rfl, hx, h, q⟩
theorem Hy (T : Txt K mg a) : bh P w K mg base (nO P w) 2 a.bT a.kc ["text"] (zF a.aq) := by
 have jG := ly (P := P) (w := w) (base := base) T
 have uC := qZ (P := P) (w := w) (base := base) T
 refine T.iA.zE qU (fun vs H Q E h => ?_) (fun dk A outer s H vs Q E hr h => ?_)
 . obtain ⟨_, rfl, _⟩ := h; rfl
 . obtain ⟨x, rfl, hx, e, q⟩ := h
   have GQ := hx.1
   refine ⟨_, (ai (by exact (bx (bG jG (hr.mono (by decide)) rfl T.j1 T.jZ di (af (jL (aU ni rfl T.aX PyProof.Rows.boot_isinstance (af (pv 0) (af (pL (v := .ty "str") rfl T.cG PyProof.Rows.boot_str rfl) ag))) (jJ (aG uC (hr.mono (by decide)) rfl T.md T.mW (af (pv 0) ag)))) ag))))
    (aj (by exact (aB (a6 rO rfl T.om PyProof.Rows.boot_int (af (pv 0) ag)))))), ?_⟩
   repeat' (walk_at "rd1")
   . intro hn
     exact e (if_neg (by rw [hn]; decide)) _ (by walk_at "same")
   . intro hn
     obtain ⟨n, en⟩ := qK hn hx.1
     have er : rd x = some n := by unfold rd; rw [if_pos hn, en]
     have Ln : x.length <= 640 := by
      unfold fE qX at hn
      simp only [Bool.and_eq_true, decide_eq_true_eq] at hn
      have h2 := hn.1.2
      rw [ft]
      unfold cF at h2
      split at h2
      . rw [List.length_drop] at h2; omega
      . omega
     repeat' (walk_at "rd1")
     exact q n er _ (by walk_at "same")
theorem Ae (T : Txt K mg a) : lP P w K mg base 2 a.bT ["text"] [] (zF a.aq) :=
 ⟨⟨_, _, Hy T, T.iA.binds fun _ _ _ _ _ _ => .all fun us hl => match us, hl with | [_], _ => rfl, .nil⟩⟩
def zb (C : Addr) : Sp := fun vs H Q E => ∃ x, vs = [.str x] /\ ji 700 x /\ (uP x = none -> ∀ H', ao H H' -> E (.ref C) none H') /\ (∀ m, uP x = some m -> ∀ H', ao H H' -> Q m H')
theorem Fh {C : Addr} {H : Hp} {Q : VK} {E : XK} {x : Str} (hx : ji 700 x) (h : uP x = none -> ∀ H', ao H H' -> E (.ref C) none H') (q : ∀ m, uP x = some m -> ∀ H', ao H H' -> Q m H') : zb C [.str x] H Q E := ⟨x, rfl, hx, h, q⟩
theorem IV (T : Txt K mg a) : bh P w K mg base (nO P w) 3 a.cD a.mB ["word"] (zb a.aq) := by
 have fh := Ae (P := P) (w := w) (base := base) T
 refine T.jr.zE rS (fun vs H Q E h => ?_) (fun dk A outer s H vs Q E hr h => ?_)
 . obtain ⟨_, rfl, _⟩ := h; rfl
 . obtain ⟨x, rfl, hx, e, q⟩ := h
   refine ⟨_, (aj (by exact (aB (m8 (aA (aY hr.kR) (pv 0) av (ax _)) nV (bG fh (hr.mono (by decide)) rfl T.eo T.et di (af (pv 0) ag)))))), ?_⟩
   repeat' (walk_at "rd1")
   . rename_i hb
     injection hb with hb
     exact q _ (if_pos hb) _ (ao.refl _)
   . rename_i hb
     have hb : ¬ x = Str.ofString "ever" := fun z => hb (by rw [z])
     refine AJ hx (fun e1 H' s' => e ?_ H' s') (fun n e1 H' s' => ?_)
     . unfold uP; rw [if_neg hb, e1]; rfl
     . repeat' (walk_at "rd1")
       exact q _ (by unfold uP; rw [if_neg hb, e1]; rfl) _ s'
theorem FH (T : Txt K mg a) : lP P w K mg base 3 a.cD ["word"] [] (zb a.aq) :=
 ⟨⟨_, _, IV T, T.jr.binds fun _ _ _ _ _ _ => .all fun us hl => match us, hl with | [_], _ => rfl, .nil⟩⟩
theorem Bm : yH a9 (Str.ofString "once") = some 2 := by decide +kernel
theorem De : yH a9 (Str.ofString "each") = some 4 := by decide +kernel
theorem yw : yH a9 (Str.ofString "behind") = some 4 := by decide +kernel
theorem Br : yH a9 (Str.ofString "slowing") = some 5 := by decide +kernel
theorem Dk {k : Str} (h1 : ¬ k = Str.ofString "once") (h2 : ¬ k = Str.ofString "each") (h3 : ¬ k = Str.ofString "behind") (h4 : ¬ k = Str.ofString "slowing") : yH a9 k = none := by
 unfold yH
 simp only [List.find?_cons, decide_eq_false (fun z => h1 (Eq.symm z)), decide_eq_false (fun z => h2 (Eq.symm z)), decide_eq_false (fun z => h3 (Eq.symm z)), decide_eq_false (fun z => h4 (Eq.symm z)), List.find?_nil, Option.map_none]
def ve (C : Addr) : Sp := fun vs H Q E => ∃ p w0 rest, vs = [.ref p] /\ dn H p (.str w0 :: rest.map PyData.str) /\ (∀ x ∈ rest, ji 700 x) /\ rest.length <= 1000 /\ ((¬ ∃ kd us, qE (w0 :: rest) kd us) -> ∀ H', ao H H' -> E (.ref C) none H') /\ (∀ kd us, qE (w0 :: rest) kd us -> ∀ v H', ao H H' -> Dv H' v (.tuple [.str kd, .list (us.map mD)]) -> Q v H')
theorem HE {C : Addr} {H : Hp} {Q : VK} {E : XK} {p : Addr} {w0 : Str} {rest : List Str} (hd : dn H p (.str w0 :: rest.map PyData.str)) (ha : ∀ x ∈ rest, ji 700 x) (hl : rest.length <= 1000) (h : (¬ ∃ kd us, qE (w0 :: rest) kd us) -> ∀ H', ao H H' -> E (.ref C) none H') (q : ∀ kd us, qE (w0 :: rest) kd us -> ∀ v H', ao H H' -> Dv H' v (.tuple [.str kd, .list (us.map mD)]) -> Q v H') : ve C [.ref p] H Q E := ⟨p, w0, rest, rfl, hd, ha, hl, h, q⟩
local macro_rules | `(tactic| walk_at "rd1") => `(tactic| first
 | with_reducible refine FO ?_
 | with_reducible refine Bo ?_
 | ((with_reducible refine' Jy ?e1 ?_); (case e1 => assumption))
 | ((with_reducible refine' FZ ?e1 ?_); (case e1 => assumption))
 | ((with_reducible refine' Ft ?e1 ?_); (case e1 => assumption))
 | fail)
theorem wZ {x : PyData} {l : List Str} {n : Int} (h : id (decide (V.int ((x :: l.map PyData.str).length : Nat) = V.int (n + 1))) = true) : (l.length : Int) = n := by
 simp only [id, decide_eq_true_eq, V.int.injEq, List.length_cons, List.length_map] at h; omega
theorem xa {x : PyData} {l : List Str} {n : Int} (h : id (decide (V.int ((x :: l.map PyData.str).length : Nat) = V.int (n + 1))) = false) : ¬ (l.length : Int) = n := by
 simp only [id, decide_eq_false_iff_not, V.int.injEq, List.length_cons, List.length_map] at h; omega
def G2 (x : Str) (d : PyData) : Prop := ∃ n, rd x = some n /\ d = .int n
theorem pH (x : Str) (d : PyData) (h : G2 x d) : sD d = true := by obtain ⟨n, _, rfl⟩ := h; rfl
theorem m6 : ∀ {ws : List Str} {ds : List PyData}, ds.length = ws.length -> (∀ (i : Nat) c d, ws[i]? = some c -> ds[i]? = some d -> G2 c d) -> ∃ ns : List Int, ds = ns.map PyData.int /\ ws.map rd = ns.map some
 | [], [], _, _ => ⟨[], rfl, rfl⟩
 | w :: ws, d :: ds, hl, h => by
   obtain ⟨n, h1, rfl⟩ := h 0 w d rfl rfl
   obtain ⟨ns, h2, h3⟩ := m6 (by simpa using hl) fun i c d hc hd => h (i + 1) c d (by simpa using hc) (by simpa using hd)
   exact ⟨n :: ns, by rw [h2]; rfl, by rw [List.map_cons, h1, h3]; rfl⟩
theorem iE {w0 : Str} {rest : List Str} {kd : Str} {us : List V} (h : qE (w0 :: rest) kd us) : kd = w0 /\ us.length = rest.length /\ ((w0 = Str.ofString "once" /\ rest.length = 2) \/ (w0 = Str.ofString "each" /\ rest.length = 4) \/ (w0 = Str.ofString "behind" /\ rest.length = 4) \/ (w0 = Str.ofString "slowing" /\ rest.length = 5)) := by
 cases h with
 | once => exact ⟨rfl, rfl, .inl ⟨rfl, rfl⟩⟩
 | each => exact ⟨rfl, rfl, .inr (.inl ⟨rfl, rfl⟩)⟩
 | behind => exact ⟨rfl, rfl, .inr (.inr (.inl ⟨rfl, rfl⟩))⟩
 | jw => exact ⟨rfl, rfl, .inr (.inr (.inr ⟨rfl, rfl⟩))⟩
theorem pE {w0 x : Str} {rest : List Str} (hx : x ∈ if w0 = Str.ofString "once" then rest else rest.dropLast) (h : rd x = none) : ¬ ∃ kd us, qE (w0 :: rest) kd us := by
 rintro ⟨kd, us, hs⟩
 cases hs with
 | once a1 a2 =>
   rw [if_pos rfl] at hx
   simp only [List.mem_cons, List.not_mem_nil, or_false] at hx
   rcases hx with rfl | rfl <;> simp_all
 | each a1 a2 a3 a4 =>
   rw [if_neg tW] at hx
   simp only [List.dropLast, List.mem_cons, List.not_mem_nil, or_false] at hx
   rcases hx with rfl | rfl | rfl <;> simp_all
 | behind a1 a2 a3 a4 =>
   rw [if_neg uk] at hx
   simp only [List.dropLast, List.mem_cons, List.not_mem_nil, or_false] at hx
   rcases hx with rfl | rfl | rfl <;> simp_all
 | jw a1 a2 a3 a4 a5 =>
   rw [if_neg tX] at hx
   simp only [List.dropLast, List.mem_cons, List.not_mem_nil, or_false] at hx
   rcases hx with rfl | rfl | rfl | rfl <;> simp_all
theorem qb {w0 x : Str} {rest : List Str} (h0 : ¬ w0 = Str.ofString "once") (hx : rest.getLast? = some x) (h : uP x = none) : ¬ ∃ kd us, qE (w0 :: rest) kd us := by
 rintro ⟨kd, us, hs⟩
 cases hs with
 | once => exact h0 rfl
 | each a1 a2 a3 a4 => simp at hx; subst hx; rw [h] at a4; cases a4
 | behind a1 a2 a3 a4 => simp at hx; subst hx; rw [h] at a4; cases a4
 | jw a1 a2 a3 a4 a5 => simp at hx; subst hx; rw [h] at a5; cases a5
theorem wj {x : Str} {m : V} {H : Hp} (h : uP x = some m) : Dv H m (mD m) /\ aR [mD m] = true := by
 rcases nu h with ⟨_, rfl⟩ | ⟨n, _, _, rfl⟩
 . exact ⟨.cn, rfl⟩
 . exact ⟨.int n, rfl⟩
local macro_rules | `(tactic| walk_at "rd1") => `(tactic| first
 | ((with_reducible refine' u0 ?e1 ?e2 ?e3 (fun _ _ _ _ _ => ?_)); (case e1 => exact uh rfl); (case e2 => walk_at "dats"); (case e3 => assumption))
 | fail)
theorem FA (T : Txt K mg a) (aT : gK w K a.bJ a9) : bh P w K mg base (nO P w) 4 a.cb a.lb ["words"] (ve a.aq) := by
 have jG := ly (P := P) (w := w) (base := base) T
 have fh := Ae (P := P) (w := w) (base := base) T
 have ua := FH (P := P) (w := w) (base := base) T
 refine T.iu.zE kA (fun vs H Q E h => ?_) (fun dk A outer s H vs Q E hr h => ?_)
 . obtain ⟨_, _, _, rfl, _⟩ := h; rfl
 . obtain ⟨p, w0, rest, rfl, hd, ha, hlen, e, q⟩ := h
   refine ⟨_, (ai (by exact (cx (i := 1) kA.nd rfl (Or.inl rfl) (m8 (eF (pv 0) (fun _ => rfl)) (a8 cW (pv 0) ah (fun _ _ => rfl)) av)))
    (ai (by exact (bx (bG jG (hr.mono (by decide)) rfl T.j1 T.jZ di (af (jL (Fo (Ey aT (pv 1) (iD (v := .ref a.bJ) rfl T.ie rfl)) rfl) (jJ (dy (aY hr.kR) (aU cy rfl T.dP PySem.boot_len (af (pv 0) ag)) (aM lM (C9 aT (iD (v := .ref a.bJ) rfl T.ie rfl) (pv 1) (fun _ _ => rfl)) ah) (ax _)))) ag))))
    (ai (by exact (bE (aA (aY hr.kR) (pv 1) av (ax _))
     (aj (by exact (aB (wG (af (pv 1) (af (yY (T := ["word"]) (M := ["words", "kind"]) (G9 (ak dN) ["words", "kind"] rfl rfl (by decide +kernel)) rfl (pG (bj cq (pv 0) (bQ ah) cu)) (fun _ _ _ _ _ => (fO (i := 0) (show List.Nodup (["word", "words", "kind"] : List Str) by decide +kernel) rfl (Or.inl rfl))) (g8 (by decide)) (fun _ _ _ _ _ => mw) ⟨rfl, rfl, rfl⟩ Ei (fun _ _ _ _ _ _ _ LO => (bG fh (hr.mono (by decide)) rfl T.eo T.et LO (af (pv 0) ag)))) ag))))))
     aF))
    (aj (by exact (aB (wG (af (pv 1) (af (aM eS (yY (T := ["word"]) (M := ["words", "kind"]) (G9 (ak dN) ["words", "kind"] rfl rfl (by decide +kernel)) rfl (pG (bj cq (pv 0) (bQ ah) (bQ (qC lL ah)))) (fun _ _ _ _ _ => (fO (i := 0) (show List.Nodup (["word", "words", "kind"] : List Str) by decide +kernel) rfl (Or.inl rfl))) (g8 (by decide)) (fun _ _ _ _ _ => mw) ⟨rfl, rfl, rfl⟩ Ei (fun _ _ _ _ _ _ _ LO => (bG fh (hr.mono (by decide)) rfl T.eo T.et LO (af (pv 0) ag)))) (bz (af (bG ua (hr.mono (by decide)) rfl T.mn T.nh di (af (a8 cW (pv 0) (qC lL ah) (fun _ _ => rfl)) ag)) ag))) ag))))))))), ?_⟩
   have i0 : oM (PyData.str w0 :: rest.map PyData.str) 0 = some (.str w0) := jV (j := 0) rfl
   by_cases k1 : w0 = Str.ofString "once"
   . subst k1
     have hk := Bm
     repeat' (walk_at "rd1")
     refine kP (.inr hd.dv) i0 ?_
     repeat' (walk_at "rd1")
     . intro hb
       have hb := xa hb
       refine e (fun ⟨kd, us, hs⟩ => ?_) _ (ao.refl _)
       obtain ⟨_, _, z | z | z | z⟩ := iE hs
       all_goals (first | exact hb (by omega) | exact absurd z.1.symm tW | exact absurd z.1.symm uk | exact absurd z.1.symm tX | exact absurd z.1.symm uY | exact absurd z.1.symm yq | exact absurd z.1.symm xR | exact absurd z.1 tW | exact absurd z.1 uk | exact absurd z.1 tX | exact absurd z.1 uY | exact absurd z.1 yq | exact absurd z.1 xR)
     . intro hb
       have hb := wZ hb
       obtain ⟨w1, w2, rfl⟩ : ∃ w1 w2, rest = [w1, w2] := by
        match rest, hb with
        | [w1, w2], _ => exact ⟨_, _, rfl⟩
       simp only [List.map_cons, List.map_nil] at hd
       repeat' (walk_at "rd1")
       refine sv 1 hd (fun q1 H1 s1 n1 Bd => ?_)
       refine sS (cs := [w1, w2]) (gd := PyData.str) G2 Bd.dv (Nat.le_of_ble_eq_true rfl) pH (fun x c H' N hc Cv uO yes => ?_) (fun pq H5 ds A8 DS uT AH yT => ?_)
       . cases uO
         repeat' (walk_at "rd1")
         refine pN (fun _ => ?_) (fun hb => by cases hb)
         repeat' (walk_at "rd1")
         refine AJ (ha c hc) (fun e1 H6 s6 => e (pE (by rw [if_pos rfl]; exact hc) e1) _ ((s1.trans Cv).trans s6)) (fun n e1 H6 s6 => yes _ _ _ s6 ⟨n, e1, rfl⟩ (.int n))
       . obtain ⟨ns, rfl, en⟩ := m6 AH yT
         match ns, en with
         | [m1, m2], en =>
           simp only [List.map_cons, List.map_nil, List.cons.injEq, and_true] at en
           repeat' (walk_at "rd1")
           exact q _ _ (.once en.1 en.2) _ _ (by walk_at "same") (by walk_at "dat")
   by_cases k2 : w0 = Str.ofString "each"
   . subst k2
     have hk := De
     repeat' (walk_at "rd1")
     refine kP (.inr hd.dv) i0 ?_
     repeat' (walk_at "rd1")
     . intro hb
       have hb := xa hb
       refine e (fun ⟨kd, us, hs⟩ => ?_) _ (ao.refl _)
       obtain ⟨_, _, z | z | z | z⟩ := iE hs
       all_goals (first | exact hb (by omega) | exact absurd z.1.symm tW | exact absurd z.1.symm uk | exact absurd z.1.symm tX | exact absurd z.1.symm uY | exact absurd z.1.symm yq | exact absurd z.1.symm xR | exact absurd z.1 tW | exact absurd z.1 uk | exact absurd z.1 tX | exact absurd z.1 uY | exact absurd z.1 yq | exact absurd z.1 xR)
     . intro hb
       have hb := wZ hb
       obtain ⟨w1, w2, w3, w4, rfl⟩ : ∃ w1 w2 w3 w4, rest = [w1, w2, w3, w4] := by
        match rest, hb with
        | [w1, w2, w3, w4], _ => exact ⟨_, _, _, _, rfl⟩
       simp only [List.map_cons, List.map_nil] at hd
       repeat' (walk_at "rd1")
       . exact absurd (V.str.inj (by assumption)) tW
       . refine vt hd (Nat.le_of_ble_eq_true rfl) (fun q1 H1 s1 n1 Bd => ?_)
         refine sS (cs := [w1, w2, w3]) (gd := PyData.str) G2 Bd.dv (Nat.le_of_ble_eq_true rfl) pH (fun x c H' N hc Cv uO yes => ?_) (fun pq H5 ds A8 DS uT AH yT => ?_)
         . cases uO
           repeat' (walk_at "rd1")
           refine pN (fun _ => ?_) (fun hb => by cases hb)
           repeat' (walk_at "rd1")
           refine AJ (ha c (List.mem_append_left [_] hc)) (fun e1 H6 s6 => e (pE (by rw [if_neg tW]; exact hc) e1) _ ((s1.trans Cv).trans s6)) (fun n e1 H6 s6 => yes _ _ _ s6 ⟨n, e1, rfl⟩ (.int n))
         . obtain ⟨ns, rfl, en⟩ := m6 AH yT
           match ns, en with
           | [m1, m2, m3], en =>
             simp only [List.map_cons, List.map_nil, List.cons.injEq, and_true] at en
             repeat' (walk_at "rd1")
             refine Fh (ha w4 (by simp)) (fun e1 H6 s6 => e (qb tW rfl e1) _ ((s1.trans A8).trans s6)) (fun m e1 H6 s6 => ?_)
             obtain ⟨dm, im⟩ := wj (H := H6) e1
             repeat' (walk_at "rd1")
             exact q _ _ (.each en.1 en.2.1 en.2.2 e1) _ _ (by walk_at "same") (by walk_at "dat")
   by_cases k3 : w0 = Str.ofString "behind"
   . subst k3
     have hk := yw
     repeat' (walk_at "rd1")
     refine kP (.inr hd.dv) i0 ?_
     repeat' (walk_at "rd1")
     . intro hb
       have hb := xa hb
       refine e (fun ⟨kd, us, hs⟩ => ?_) _ (ao.refl _)
       obtain ⟨_, _, z | z | z | z⟩ := iE hs
       all_goals (first | exact hb (by omega) | exact absurd z.1.symm tW | exact absurd z.1.symm uk | exact absurd z.1.symm tX | exact absurd z.1.symm uY | exact absurd z.1.symm yq | exact absurd z.1.symm xR | exact absurd z.1 tW | exact absurd z.1 uk | exact absurd z.1 tX | exact absurd z.1 uY | exact absurd z.1 yq | exact absurd z.1 xR)
     . intro hb
       have hb := wZ hb
       obtain ⟨w1, w2, w3, w4, rfl⟩ : ∃ w1 w2 w3 w4, rest = [w1, w2, w3, w4] := by
        match rest, hb with
        | [w1, w2, w3, w4], _ => exact ⟨_, _, _, _, rfl⟩
       simp only [List.map_cons, List.map_nil] at hd
       repeat' (walk_at "rd1")
       . exact absurd (V.str.inj (by assumption)) uk
       . refine vt hd (Nat.le_of_ble_eq_true rfl) (fun q1 H1 s1 n1 Bd => ?_)
         refine sS (cs := [w1, w2, w3]) (gd := PyData.str) G2 Bd.dv (Nat.le_of_ble_eq_true rfl) pH (fun x c H' N hc Cv uO yes => ?_) (fun pq H5 ds A8 DS uT AH yT => ?_)
         . cases uO
           repeat' (walk_at "rd1")
           refine pN (fun _ => ?_) (fun hb => by cases hb)
           repeat' (walk_at "rd1")
           refine AJ (ha c (List.mem_append_left [_] hc)) (fun e1 H6 s6 => e (pE (by rw [if_neg uk]; exact hc) e1) _ ((s1.trans Cv).trans s6)) (fun n e1 H6 s6 => yes _ _ _ s6 ⟨n, e1, rfl⟩ (.int n))
         . obtain ⟨ns, rfl, en⟩ := m6 AH yT
           match ns, en with
           | [m1, m2, m3], en =>
             simp only [List.map_cons, List.map_nil, List.cons.injEq, and_true] at en
             repeat' (walk_at "rd1")
             refine Fh (ha w4 (by simp)) (fun e1 H6 s6 => e (qb uk rfl e1) _ ((s1.trans A8).trans s6)) (fun m e1 H6 s6 => ?_)
             obtain ⟨dm, im⟩ := wj (H := H6) e1
             repeat' (walk_at "rd1")
             exact q _ _ (.behind en.1 en.2.1 en.2.2 e1) _ _ (by walk_at "same") (by walk_at "dat")
   by_cases k4 : w0 = Str.ofString "slowing"
   . subst k4
     have hk := Br
     repeat' (walk_at "rd1")
     refine kP (.inr hd.dv) i0 ?_
     repeat' (walk_at "rd1")
     . intro hb
       have hb := xa hb
       refine e (fun ⟨kd, us, hs⟩ => ?_) _ (ao.refl _)
       obtain ⟨_, _, z | z | z | z⟩ := iE hs
       all_goals (first | exact hb (by omega) | exact absurd z.1.symm tW | exact absurd z.1.symm uk | exact absurd z.1.symm tX | exact absurd z.1.symm uY | exact absurd z.1.symm yq | exact absurd z.1.symm xR | exact absurd z.1 tW | exact absurd z.1 uk | exact absurd z.1 tX | exact absurd z.1 uY | exact absurd z.1 yq | exact absurd z.1 xR)
     . intro hb
       have hb := wZ hb
       obtain ⟨w1, w2, w3, w4, w5, rfl⟩ : ∃ w1 w2 w3 w4 w5, rest = [w1, w2, w3, w4, w5] := by
        match rest, hb with
        | [w1, w2, w3, w4, w5], _ => exact ⟨_, _, _, _, _, rfl⟩
       simp only [List.map_cons, List.map_nil] at hd
       repeat' (walk_at "rd1")
       . exact absurd (V.str.inj (by assumption)) tX
       . refine vt hd (Nat.le_of_ble_eq_true rfl) (fun q1 H1 s1 n1 Bd => ?_)
         refine sS (cs := [w1, w2, w3, w4]) (gd := PyData.str) G2 Bd.dv (Nat.le_of_ble_eq_true rfl) pH (fun x c H' N hc Cv uO yes => ?_) (fun pq H5 ds A8 DS uT AH yT => ?_)
         . cases uO
           repeat' (walk_at "rd1")
           refine pN (fun _ => ?_) (fun hb => by cases hb)
           repeat' (walk_at "rd1")
           refine AJ (ha c (List.mem_append_left [_] hc)) (fun e1 H6 s6 => e (pE (by rw [if_neg tX]; exact hc) e1) _ ((s1.trans Cv).trans s6)) (fun n e1 H6 s6 => yes _ _ _ s6 ⟨n, e1, rfl⟩ (.int n))
         . obtain ⟨ns, rfl, en⟩ := m6 AH yT
           match ns, en with
           | [m1, m2, m3, m4], en =>
             simp only [List.map_cons, List.map_nil, List.cons.injEq, and_true] at en
             repeat' (walk_at "rd1")
             refine Fh (ha w5 (by simp)) (fun e1 H6 s6 => e (qb tX rfl e1) _ ((s1.trans A8).trans s6)) (fun m e1 H6 s6 => ?_)
             obtain ⟨dm, im⟩ := wj (H := H6) e1
             repeat' (walk_at "rd1")
             exact q _ _ (.jw en.1 en.2.1 en.2.2.1 en.2.2.2 e1) _ _ (by walk_at "same") (by walk_at "dat")
   . have hk := Dk k1 k2 k3 k4
     repeat' (walk_at "rd1")
     refine kP (.inr hd.dv) i0 ?_
     repeat' (walk_at "rd1")
     . intro _
       refine e (fun ⟨kd, us, hs⟩ => ?_) _ (ao.refl _)
       obtain ⟨_, _, z | z | z | z⟩ := iE hs
       . exact k1 z.1
       . exact k2 z.1
       . exact k3 z.1
       . exact k4 z.1
     . intro z; cases z
theorem Bv (T : Txt K mg a) (aT : gK w K a.bJ a9) : lP P w K mg base 4 a.cb ["words"] [] (ve a.aq) :=
 ⟨⟨_, _, FA T aT, T.iu.binds fun _ _ _ _ _ _ => .all fun us hl => match us, hl with | [_], _ => rfl, .nil⟩⟩
def InK (a : Ad) (H : Hp) (v : V) (kd : Str) (us : List V) : Prop := if kd = Str.ofString "once" then tm H v a.bF (ql us) else if kd = Str.ofString "each" then tm H v a.bq (pR us) else if kd = Str.ofString "behind" then tm H v a.aD (gm us) else tm H v a.aw (fF us)
theorem DF {H : Hp} {v : V} {us : List V} : InK a H v (Str.ofString "once") us = tm H v a.bF (ql us) := if_pos rfl
theorem z9 {H : Hp} {v : V} {us : List V} : InK a H v (Str.ofString "each") us = tm H v a.bq (pR us) := by unfold InK; rw [if_neg tW, if_pos rfl]
theorem yX {H : Hp} {v : V} {us : List V} : InK a H v (Str.ofString "behind") us = tm H v a.aD (gm us) := by unfold InK; rw [if_neg uk, if_neg uY, if_pos rfl]
theorem A6 {H : Hp} {v : V} {us : List V} : InK a H v (Str.ofString "slowing") us = tm H v a.aw (fF us) := by unfold InK; rw [if_neg tX, if_neg yq, if_neg xR]
def v9 (a : Ad) : Sp := fun vs H Q E => ∃ v kd us ws, vs = [.str kd, v] /\ qE ws kd us /\ Dv H v (.list (us.map mD)) /\ (wK kd us = false -> ∀ H', ao H H' -> E (.ref a.au) none H') /\ (wK kd us = true -> ∀ v' H', ao H H' -> InK a H' v' kd us -> Q v' H')
theorem HD {H : Hp} {Q : VK} {E : XK} {v : V} {kd : Str} {us : List V} {ws : List Str} (hs : qE ws kd us) (hd : Dv H v (.list (us.map mD))) (h : wK kd us = false -> ∀ H', ao H H' -> E (.ref a.au) none H') (q : wK kd us = true -> ∀ v' H', ao H H' -> InK a H' v' kd us -> Q v' H') : v9 a [.str kd, v] H Q E := ⟨v, kd, us, ws, rfl, hs, hd, h, q⟩
theorem FK (T : Txt K mg a) : bh P w K mg base (nO P w) 7 a.cB a.lY ["kind", "numbers"] (v9 a) := by
 have An := vT (P := P) (w := w) (base := base) T
 have z5 := wg (P := P) (w := w) (base := base) T
 have vU := sA (P := P) (w := w) (base := base) T
 have tE := qQ (P := P) (w := w) (base := base) T
 have g1 : ¬ V.str (Str.ofString "each") = V.str (Str.ofString "once") := fun z => tW (V.str.inj z)
 have g2 : ¬ V.str (Str.ofString "behind") = V.str (Str.ofString "once") := fun z => uk (V.str.inj z)
 have g3 : ¬ V.str (Str.ofString "slowing") = V.str (Str.ofString "once") := fun z => tX (V.str.inj z)
 have g4 : ¬ V.str (Str.ofString "behind") = V.str (Str.ofString "each") := fun z => uY (V.str.inj z)
 have g5 : ¬ V.str (Str.ofString "slowing") = V.str (Str.ofString "each") := fun z => yq (V.str.inj z)
 have g6 : ¬ V.str (Str.ofString "slowing") = V.str (Str.ofString "behind") := fun z => xR (V.str.inj z)
 refine T.jH.zE rZ (fun vs H Q E h => ?_) (fun dk A outer s H vs Q E hr h => ?_)
 . obtain ⟨_, _, _, _, rfl, _⟩ := h; rfl
 . obtain ⟨v, kd, us, ws, rfl, hs, hd, e, q⟩ := h
   refine ⟨_, (ai (by exact (bE (aA (aY hr.kR) (pv 0) av (ax _))
    (aj (by exact (aB (pK T.Af An (hr.mono (by decide)) rfl T.xA di (af (a8 cW (pv 1) ah (fun _ _ => rfl)) (af (a8 cW (pv 1) ah (fun _ _ => rfl)) ag))))))
    aF))
    (ai (by exact (bE (aA (aY hr.kR) (pv 0) av (ax _))
     (aj (by exact (aB (pK T.zl z5 (hr.mono (by decide)) rfl T.wJ di (af (a8 cW (pv 1) ah (fun _ _ => rfl)) (af (a8 cW (pv 1) ah (fun _ _ => rfl)) (af (a8 cW (pv 1) ah (fun _ _ => rfl)) (af (a8 cW (pv 1) ah (fun _ _ => rfl)) ag))))))))
     aF))
    (ai (by exact (bE (aA (aY hr.kR) (pv 0) av (ax _))
     (aj (by exact (aB (pK T.uG vU (hr.mono (by decide)) rfl T.nZ di (af (a8 cW (pv 1) ah (fun _ _ => rfl)) (af (a8 cW (pv 1) ah (fun _ _ => rfl)) (af (a8 cW (pv 1) ah (fun _ _ => rfl)) (af (a8 cW (pv 1) ah (fun _ _ => rfl)) ag))))))))
     aF))
    (aj (by exact (aB (pK T.rP tE (hr.mono (by decide)) rfl T.pQ di (af (a8 cW (pv 1) ah (fun _ _ => rfl)) (af (a8 cW (pv 1) ah (fun _ _ => rfl)) (af (a8 cW (pv 1) ah (fun _ _ => rfl)) (af (a8 cW (pv 1) ah (fun _ _ => rfl)) (af (a8 cW (pv 1) ah (fun _ _ => rfl)) ag)))))))))))), ?_⟩
   cases hs with
   | once a1 a2 =>
     rw [wu] at e q
     simp only [List.map_cons, List.map_nil, mD] at hd
     repeat' (walk_at "rd1")
     refine we rfl ⟨_, _, rfl⟩ e (fun ho v' H' s' hi => ?_)
     repeat' (walk_at "rd1")
     exact q ho _ _ s' (DF ▸ hi)
   | each a1 a2 a3 am =>
     rw [wY] at e q
     rcases nu am with ⟨_, rfl⟩ | ⟨n, _, _, rfl⟩
     . simp only [List.map_cons, List.map_nil, mD] at hd
       repeat' (walk_at "rd1")
       all_goals (first | exact absurd (by assumption) g1 | exact absurd (by assumption) g2 | exact absurd (by assumption) g3 | exact absurd (by assumption) g4 | exact absurd (by assumption) g5 | exact absurd (by assumption) g6 | skip)
       refine we rfl ⟨_, _, _, _, rfl, .inl rfl⟩ e (fun ho v' H' s' hi => ?_)
       repeat' (walk_at "rd1")
       exact q ho _ _ s' (z9 ▸ hi)
     . simp only [List.map_cons, List.map_nil, mD] at hd
       repeat' (walk_at "rd1")
       all_goals (first | exact absurd (by assumption) g1 | exact absurd (by assumption) g2 | exact absurd (by assumption) g3 | exact absurd (by assumption) g4 | exact absurd (by assumption) g5 | exact absurd (by assumption) g6 | skip)
       refine we rfl ⟨_, _, _, _, rfl, .inr ⟨_, rfl⟩⟩ e (fun ho v' H' s' hi => ?_)
       repeat' (walk_at "rd1")
       exact q ho _ _ s' (z9 ▸ hi)
   | behind a1 a2 a3 am =>
     rw [wU] at e q
     rcases nu am with ⟨_, rfl⟩ | ⟨n, _, _, rfl⟩
     . simp only [List.map_cons, List.map_nil, mD] at hd
       repeat' (walk_at "rd1")
       all_goals (first | exact absurd (by assumption) g1 | exact absurd (by assumption) g2 | exact absurd (by assumption) g3 | exact absurd (by assumption) g4 | exact absurd (by assumption) g5 | exact absurd (by assumption) g6 | skip)
       refine we rfl ⟨_, _, _, _, rfl, .inl rfl⟩ e (fun ho v' H' s' hi => ?_)
       repeat' (walk_at "rd1")
       exact q ho _ _ s' (yX ▸ hi)
     . simp only [List.map_cons, List.map_nil, mD] at hd
       repeat' (walk_at "rd1")
       all_goals (first | exact absurd (by assumption) g1 | exact absurd (by assumption) g2 | exact absurd (by assumption) g3 | exact absurd (by assumption) g4 | exact absurd (by assumption) g5 | exact absurd (by assumption) g6 | skip)
       refine we rfl ⟨_, _, _, _, rfl, .inr ⟨_, rfl⟩⟩ e (fun ho v' H' s' hi => ?_)
       repeat' (walk_at "rd1")
       exact q ho _ _ s' (yX ▸ hi)
   | jw a1 a2 a3 a4 am =>
     rw [w9] at e q
     rcases nu am with ⟨_, rfl⟩ | ⟨n, _, _, rfl⟩
     . simp only [List.map_cons, List.map_nil, mD] at hd
       repeat' (walk_at "rd1")
       all_goals (first | exact absurd (by assumption) g1 | exact absurd (by assumption) g2 | exact absurd (by assumption) g3 | exact absurd (by assumption) g4 | exact absurd (by assumption) g5 | exact absurd (by assumption) g6 | skip)
       refine we rfl ⟨_, _, _, _, _, rfl, .inl rfl⟩ e (fun ho v' H' s' hi => ?_)
       repeat' (walk_at "rd1")
       exact q ho _ _ s' (A6 ▸ hi)
     . simp only [List.map_cons, List.map_nil, mD] at hd
       repeat' (walk_at "rd1")
       all_goals (first | exact absurd (by assumption) g1 | exact absurd (by assumption) g2 | exact absurd (by assumption) g3 | exact absurd (by assumption) g4 | exact absurd (by assumption) g5 | exact absurd (by assumption) g6 | skip)
       refine we rfl ⟨_, _, _, _, _, rfl, .inr ⟨_, rfl⟩⟩ e (fun ho v' H' s' hi => ?_)
       repeat' (walk_at "rd1")
       exact q ho _ _ s' (A6 ▸ hi)
theorem CV (T : Txt K mg a) : lP P w K mg base 7 a.cB ["kind", "numbers"] [] (v9 a) :=
 ⟨⟨_, _, FK T, T.jH.binds fun _ _ _ _ _ _ => .all fun us hl => match us, hl with | [_, _], _ => rfl, .nil⟩⟩
local macro_rules | `(tactic| walk_at "rd1") => `(tactic| first
 | ((with_reducible refine' F6 ?e1 ?e2 ?e3 ?_); (case e1 => walk_at "at"); (case e2 => assumption); (case e3 => assumption))
 | fail)
def t5 (d : PyData) : Prop := ∃ x, d = .str x /\ GoodW (Txt.split x (Str.ofString " "))
def wR (d : PyData) : Prop := ∀ x, d = .str x -> ji 700 x
theorem tJ {x z : Str} {n : Nat} (h : ji n x) (hz : z ∈ Txt.split x (Str.ofString " ")) : ji n z := by
 refine ⟨Nat.le_trans (PyProof.Rows.part_short hz) h.1, fun c hc => ?_⟩
 refine h.2 c ?_
 have h1 := StrLaws.join_split x (Str.ofString " ")
 rw [<- StrLaws.glued_eq_join] at h1
 change Txt.join (Str.ofString " ") _ = _ at h1
 rw [<- h1]
 generalize Txt.split x (Str.ofString " ") = ps at hz
 cases ps with
 | nil => cases hz
 | cons p ps =>
   rw [mJ, List.mem_append]
   rcases List.mem_cons.mp hz with rfl | hz
   . exact .inl hc
   . exact .inr (List.mem_flatMap.mpr ⟨z, hz, List.mem_append_right _ hc⟩)
theorem E6 {tb : (St -> XK) -> TS} {hit : Addr -> Bool -> Prop} {ta : TA} {CN : Addr} {EX : XK} {D : Ends} {σ : St} {H : Hp} (h : tb (fun σ' c od H' => ∃ C, c = .ref C /\ hit C true /\ ∀ a, H' a = none -> ta σ' (upd H' a (.ext (vj a C od))) fun vs H1 => vs.length <= sizeLine /\ H1 a = some (.ext (vj a C od)) /\ EX (.ref CN) none H1) D σ H) : DM tb hit ta CN EX D σ H := h
def Am (a : Ad) : Sp := fun vs H Q E => ∃ v d, vs = [v] /\ Dv H v d /\ wR d /\ (¬ t5 d -> ∀ H', ao H H' -> E (.ref a.aq) none H') /\ (∀ x kd us, d = .str x -> qE (Txt.split x (Str.ofString " ")) kd us -> wK kd us = true -> ∀ v' H', ao H H' -> InK a H' v' kd us -> Q v' H')
theorem zJ {H : Hp} {Q : VK} {E : XK} {v : V} {d : PyData} (hd : Dv H v d) (hs : wR d) (h : ¬ t5 d -> ∀ H', ao H H' -> E (.ref a.aq) none H') (q : ∀ x kd us, d = .str x -> qE (Txt.split x (Str.ofString " ")) kd us -> wK kd us = true -> ∀ v' H', ao H H' -> InK a H' v' kd us -> Q v' H') : Am a [v] H Q E := ⟨v, d, rfl, hd, hs, h, q⟩
theorem HY (T : Txt K mg a) (aT : gK w K a.bJ a9) : bh P w K mg base (Bf P w) 9 a.cE a.nK ["text"] (Am a) := by
 have jG := ly (P := P) (w := w) (base := base) T
 have sj := Bv (P := P) (base := base) T aT
 have tP := CV (P := P) (w := w) (base := base) T
 refine T.jO.NW fe (fun vs H Q E h => ?_) (fun dk A outer s H vs Q E hr h => ?_)
 . obtain ⟨_, _, rfl, _⟩ := h; rfl
 . obtain ⟨v, d, rfl, hv, hs, e, q⟩ := h
   refine ⟨_, (ai (by exact (bx (bG jG (hr.mono (by decide)) rfl T.j1 T.jZ A0 (af (aU ni rfl T.aX PyProof.Rows.boot_isinstance (af (pv 0) (af (pL (v := .ty "str") rfl T.cG PyProof.Rows.boot_str rfl) ag))) ag))))
    (ai (by exact (y6 (bG sj (hr.mono (by decide)) rfl T.kB T.kh A0 (af (qh PySem.F.plainAttrs_str PySem.F.slot_str_split PySem.F.type_str_split uq (pv 0) (af av ag)) ag)) (Ew (n := 2) rfl (t7 (fO (i := 1) fe.nd rfl (Or.inl rfl)) (t7 (fO (i := 2) fe.nd rfl (Or.inl rfl)) Cy)))))
    (aj (by exact (CI (fun _ _ _ hP => (aj (by exact (aB (bG tP (hr.mono (by decide)) rfl T.mZ T.mh hP (af (pv 1) (af (pv 2) ag)))))))
     (BH rfl T.gY T.t8) (fun ae => (af av ag)) JB rfl T.jY T.gR fe.nd rfl rfl rfl))))), ?_⟩
   cases d with
   | str x =>
     obtain rfl := hv.str_inv
     have hx := hs x rfl
     have GQ := hx.1
     repeat' (walk_at "rd1")
     . intro z; cases z
     . intro _
       repeat' (walk_at "rd1")
       refine wX (by decide) (by omega) (fun p1 H1 s1 n1 yN => ?_)
       have KN := PyProof.Rows.split_pos x (Str.ofString " ")
       have kH := PyProof.Rows.split_le x (Str.ofString " ")
       have K6 : ∀ z ∈ Txt.split x (Str.ofString " "), ji 700 z := fun z hz => tJ hx hz
       have eg : ¬ GoodW (Txt.split x (Str.ofString " ")) -> ¬ t5 (.str x) := fun h ⟨y, ey, hy⟩ => by cases ey; exact h hy
       have q := fun kd us => q x kd us rfl
       generalize Txt.split x (Str.ofString " ") = ws at *
       cases ws with
       | nil => simp at KN
       | cons w0 rest =>
         repeat' (walk_at "rd1")
         refine HE yN (fun z hz => K6 z (List.mem_cons_of_mem _ hz)) (by rw [List.length_cons] at kH; omega) (fun hn H2 s2 => e (eg fun ⟨kd, us, h, _⟩ => hn ⟨kd, us, h⟩) _ (s1.trans s2)) (fun kd us pZ v2 H2 s2 Dh => ?_)
         repeat' (walk_at "rd1")
         refine ER Dh (fun v3 v4 h3 h4 => ?_)
         cases h3
         repeat' (walk_at "rd1")
         with_reducible refine E6 ?_
         repeat' (walk_at "rd1")
         refine HD pZ h4 (fun Kg H3 s3 => ⟨_, rfl, T.nc, fun ae vL => ?_⟩) (fun bf v5 H3 s3 hi => ?_)
         . have s4 : ao H3 (upd H3 ae (.ext (vj ae a.au none))) := bD vL
           have fin := e (eg fun ⟨Kc, JS, h, ho⟩ => by
            obtain ⟨rfl, rfl⟩ := pZ.det h
            rw [Kg] at ho; cases ho) _ (((s1.trans s2).trans s3).trans s4)
           have Oy : upd H3 ae (.ext (vj ae a.au none)) ae = some (.ext (vj ae a.au none)) := aO
           generalize upd H3 ae (.ext (vj ae a.au none)) = H4 at *
           repeat' (walk_at "rd1")
           exact ⟨by rw [PySem.sizeLine_eq]; simp, Oy, fin⟩
         . repeat' (walk_at "rd1")
           exact q _ _ pZ bf _ _ ((s1.trans s2).trans s3) hi
   | _ =>
     repeat' (walk_at "rd1")
     . intro _; exact e (fun ⟨y, ey, _⟩ => by cases ey) _ (ao.refl _)
     . intro z; cases z
theorem Aj (T : Txt K mg a) (aT : gK w K a.bJ a9) : HS P w K mg base 9 a.cE ["text"] [] (Am a) :=
 ⟨⟨_, _, HY T aT, T.jO.binds fun _ _ _ _ _ _ => .all fun us hl => match us, hl with | [_], _ => rfl, .nil⟩⟩
def s9 : Sp := fun vs H Q _ => ∃ v d, vs = [v] /\ Dv H v d /\ wR d /\ ¬ t5 d /\ ∀ H', ao H H' -> Q (.bl true) H'
theorem zX {H : Hp} {Q : VK} {E : XK} {v : V} {d : PyData} (hd : Dv H v d) (hs : wR d) (hn : ¬ t5 d) (q : ∀ H', ao H H' -> Q (.bl true) H') : s9 [v] H Q E := ⟨v, d, rfl, hd, hs, hn, q⟩
theorem CU (T : Txt K mg a) (aT : gK w K a.bJ a9) : bh P w K mg base qM 10 a.bp a.i9 ["_law_thing"] s9 := by
 have dJ := Aj (P := P) (base := base) T aT
 have te := T.rh; have i1 := T.dw; have i2 := T.dh; have i3 := T.dg
 refine T.fK.ok jh (fun vs H Q E h => ?_) (fun dk A outer s H vs Q E hr h => ?_)
 . obtain ⟨_, _, rfl, _⟩ := h; rfl
 . obtain ⟨v, d, rfl, hv, hb, hn, q⟩ := h
   refine ⟨_, (ai (by exact (Bi (fun _ _ _ hP => (aj (by exact (bx (mU dJ (hr.mono (by decide)) rfl T.de T.df hP (af (pv 0) ag))))))
    aF
    (lC.cons (i := some 1) (Bj rfl T.mj T.tQ) (fun ae => (ai (by exact (bE (PW.pt (pX (rz (K := K) rfl (aU (lr (K := K) rfl) rfl T.aX PyProof.Rows.boot_isinstance (af (pv 1) (af (iD (v := .ref a.eu) rfl T.tV rfl) ag))) (fun _ => rfl)) (qG (rz (K := K) rfl (aU (lr (K := K) rfl) rfl T.aX PyProof.Rows.boot_isinstance (af (pv 1) (af (iD (v := .ref a.au) rfl T.gY rfl) ag))) (fun _ => rfl)))))
     (aj (aB qy))
     aF))
    (aj (by exact (aB (aU (lr (K := K) rfl) rfl T.aX PyProof.Rows.boot_isinstance (af (pv 1) (af (iD (v := .ref a.aq) rfl T.jY rfl) ag)))))))) ⟨rfl, rfl⟩
    lC.nil) jh.nd rfl rfl rfl))
    (aj (aB qy))), ?_⟩
   repeat' (walk_at "rd1")
   with_reducible refine Fz ?_
   repeat' (walk_at "rd1")
   refine zJ (by walk_at "dat") hb (fun _ H1 s1 => ⟨_, rfl, .inl ⟨T.jM, fun ae vL => ?_⟩⟩) (fun x kd us ed pZ ho v' H1 s1 hi => absurd ⟨x, ed, kd, us, pZ, ho⟩ hn)
   have s2 : ao H1 (upd H1 ae (.ext (vB ae a.aq none))) := bD vL
   have hH : upd H1 ae (.ext (vB ae a.aq none)) ae = some (.ext (vB ae a.aq none)) := aO
   have fin := q _ (s1.trans s2)
   generalize upd H1 ae (.ext (vB ae a.aq none)) = H2 at *
   repeat' (walk_at "rd1")
   exact fin
theorem y0 (T : Txt K mg a) (aT : gK w K a.bJ a9) : qO P w K mg base 10 a.bp ["_law_thing"] [] s9 :=
 ⟨⟨_, _, CU T aT, T.fK.binds fun _ _ _ _ _ _ => .all fun us hl => match us, hl with | [_], _ => rfl, .nil⟩⟩
def zU (K : PySem.W.Frag) : Sp := fun vs H Q _ => ∃ (l : Addr) (ns : List Int), vs = [.ref l] /\ fW K H l (ns.map V.int) /\ ns.length <= 63 /\ ∀ H', Q (.bl true) H'
theorem yu (T : Txt K mg a) (s : Shared) (u : Value) : BindsTo s a.sV ⟨[u], []⟩ [("_law_script", u)] := by
 obtain ⟨oc, od, kV, doc, pm, an, dk, ct, yc, e, lk, uM⟩ := T.AK.ex
 rw [e]
 exact .of_eq rfl
theorem qv (T : Txt K mg a) : bh P w K mg base qM 1 a.bo a.i5 ["_law_script", "_law_k"] (vH K) := by
 refine T.fC.ok o7 (fun vs H Q E h => ?_) (fun dk A outer s H vs Q E hr h => ?_)
 . obtain ⟨_, _, _, rfl, _⟩ := h; rfl
 . obtain ⟨l, ns, i, rfl, hl, h0, k⟩ := h
   refine ⟨_, (ai (by exact (bE (aA qd (pv 1) (aU cy rfl T.dP PySem.boot_len (af (pv 0) ag)) (ax _))
    (aj (aB (a8 cW (pv 0) (pv 1) (fun _ _ => rfl))))
    aF))
    (aj (aB ah))), ?_⟩
   repeat' (walk_at "rd1")
   . exact Ih hl (CY h0 (by assumption)) k
   . rw [Ct h0 (by assumption)] at k; exact k
theorem iV (T : Txt K mg a) : qO P w K mg base 1 a.bo ["_law_script", "_law_k"] [] (vH K) :=
 ⟨⟨_, _, qv T, T.fC.binds fun _ _ _ _ _ _ => .all fun us hl => match us, hl with | [_, _], _ => rfl, .nil⟩⟩
local macro_rules | `(tactic| walk_at "use") => `(tactic| first
 | ((with_reducible refine' GC ?e1 ?e2 ?_); (case e1 => walk_at "sql"); (case e2 => omega))
 | fail)
def sU : Sp := fun vs H Q _ => ∃ c, vs = [.int c] /\ ∀ n : Int, 0 <= n -> n < 10 ^ 39 -> Q (.int n) H
theorem Fx {H : Hp} {Q : VK} {E : XK} {c : Int} (q : ∀ n : Int, 0 <= n -> n < 10 ^ 39 -> Q (.int n) H) : sU [.int c] H Q E := ⟨c, rfl, q⟩
set_option hygiene false in
local macro_rules | `(tactic| walk_at "use") => `(tactic| first
 | with_reducible refine Fx (fun _ _ _ => ?_)
 | fail)
theorem BA (T : Txt K mg a) : bh P w K mg base qM 1 a.bH a.jI ["_law_cell"] sU := by
 refine T.gB.ok qF (fun vs H Q E h => ?_) (fun dk A outer s H vs Q E hr h => ?_)
 . obtain ⟨_, rfl, _⟩ := h; rfl
 . obtain ⟨c, rfl, q⟩ := h
   refine ⟨_, (ai (by exact (bE (aA (aY hr.kR) (aM bU (pv 0) ah) ah (ax _))
    (aj (by exact (aB (aM bU (aM fw (pv 0) ah) ah))))
    aF))
    (ai (by exact (bE (aA (aY hr.kR) (aM bU (pv 0) ah) ah (ax _))
     (aj (by exact (aB (aM bU (aM fw (pv 0) ah) ah))))
     aF))
    (aj (by exact (aB (aM bU (aM fw (pv 0) ah) (aM AZ ah ah))))))), ?_⟩
   repeat' (walk_at "rd1")
   all_goals exact q _ (by omega) (by omega)
theorem tH (T : Txt K mg a) : qO P w K mg base 1 a.bH ["_law_cell"] [] sU :=
 ⟨⟨_, _, BA T, T.gB.binds fun _ _ _ _ _ _ => .all fun us hl => match us, hl with | [_], _ => rfl, .nil⟩⟩
def vS : Sp := fun vs H Q _ => ∃ x, vs = [.str x] /\ ji 700 x /\ Q (.int (aW x)) H
theorem HG {H : Hp} {Q : VK} {E : XK} {x : Str} (h : ji 700 x) (q : Q (.int (aW x)) H) : vS [.str x] H Q E := ⟨x, rfl, h, q⟩
theorem CJ {x : Str} (h : x.cps.toList.all dig = false) : aW x = -1 := by
 rcases p8 x with ⟨_, e⟩ | ⟨_, _, _, e⟩ | ⟨n, h0, h1, e1, e2, e3, e4⟩
 . exact e
 . exact e
 . rw [e4] at h; cases h
theorem qD {x : Str} (h : x.cps.toList.all dig = true) : cF x.cps.toList = x.cps.toList := by
 unfold cF
 rw [if_neg]
 intro z
 cases e : x.cps.toList with
 | nil => rw [e] at z; simp at z
 | cons c r =>
   rw [e] at z h
   have hc : c = 45 := by simpa using z
   rw [List.all_cons, hc] at h
   have : dig 45 = false := by decide
   rw [this] at h; cases h
theorem sT {x : Str} (h : fE x = false) : aW x = -1 := by
 unfold aW rd
 rw [if_neg (by rw [h]; decide)]
theorem xl {x : Str} {n : Int} (h : fE x = true) (hd : x.cps.toList.all dig = true) (hn : PySem.intText? x = some n) : aW x = n := by
 have e : rd x = some n := by unfold rd; rw [if_pos h, hn]
 rcases mF e with ⟨h1, _⟩ | ⟨_, _, h2, _⟩
 . exfalso
   have j6 : x.cps.toList ≠ [] := fun z => by
    unfold fE qX at h
    rw [qD hd, z] at h
    simp at h
   have hl : x.length <= 4300 := by
    unfold fE qX at h
    rw [qD hd] at h
    simp only [Bool.and_eq_true, decide_eq_true_eq] at h
    rw [ft]; omega
   rw [PySem.intText_digits (xq hd) j6 hl] at hn
   cases hn
   omega
 . exact h2
theorem FG (T : Txt K mg a) : bh P w K mg base qM 1 a.bY a.ky ["_law_word"] vS := by
 refine T.iJ.ok lh (fun vs H Q E h => ?_) (fun dk A outer s H vs Q E hr h => ?_)
 . obtain ⟨_, rfl, _⟩ := h; rfl
 . obtain ⟨x, rfl, hx, q⟩ := h
   have GQ := hx.1
   refine ⟨_, (ai (by exact (FQ PassesOwn.never rfl (AI (pv 0)) (fO (i := 1) lh.nd rfl (Or.inl rfl))
    (aj (by exact (bE (aA Al (pv 1) av rfl)
     (aj (aB (aM Ar ah ah)))
     aF)))))
    (ai (by exact (bE (PW.pt (pX (aA (aY hr.kR) (pv 0) av (ax _)) (pX (aA wN (aU cy rfl T.dP PySem.boot_len (af (pv 0) ag)) ah (ax _)) (qG (PW.pt (vW (aA (vn hr.kR) (pv 0) av (ax _)) (sW (aA (aY hr.kR) (a8 cW (pv 0) ah (fun _ _ => rfl)) av (ax _)))))))))
     (aj (aB (aM Ar ah ah)))
     aF))
    (aj (by exact (aB (a6 rO rfl T.om PyProof.Rows.boot_int (af (pv 0) ag))))))), ?_⟩
   repeat' (walk_at "rd1")
   refine Kt (fun j σ' H2 => ∃ z, σ' = [some (.str x), z] /\ H2 = H /\ ∀ i c, i < j -> x.cps[i]? = some c -> dig c = true) ⟨_, rfl, rfl, fun i c h => by omega⟩ ?_ ?_
   . rintro i c σ' H2 hc ⟨z, rfl, rfl, gF⟩
     have M0 : c ∈ x.cps.toList := List.mem_of_getElem? (by rw [Array.getElem?_toList]; exact hc)
     have ho := M8 ⟨c, hx.2 c M0⟩
     repeat' (walk_at "rd1")
     . rename_i hb
       have Mi : dig c = false := by simpa [ho] using hb
       rw [CJ (by rw [List.all_eq_false]; exact ⟨c, M0, by simp [Mi]⟩)] at q
       exact q
     . rename_i hb
       have Mi : dig c = true := by simpa [ho] using hb
       refine ⟨_, rfl, rfl, fun j d hj hd => ?_⟩
       by_cases e : j = i
       . subst e
         rw [hc] at hd
         cases hd
         exact Mi
       . exact gF j d (by omega) hd
   . rintro σ' H2 ⟨z, rfl, rfl, gF⟩
     have EV : x.cps.toList.all dig = true := by
      rw [List.all_eq_true]
      intro c hc
      obtain ⟨i, hi, e⟩ := List.getElem_of_mem hc
      exact gF i c (by simpa using hi) (by rw [<- Array.getElem?_toList, List.getElem?_eq_getElem hi, e])
     have qo := qD EV
     have Hz : x.length = (cF x.cps.toList).length := by rw [qo, ft]
     have L9 : (cF x.cps.toList).all dig = true := by rw [qo]; exact EV
     repeat' (walk_at "rd1")
     . rename_i hb
       have e0 : x = Str.ofString "" := V.str.inj hb
       have := sT (x := x) (rD (by rw [<- Hz, e0]; decide))
       rw [this] at q
       exact q
     . rename_i hb
       rw [sT (x := x) (t6 (by omega))] at q
       exact q
     . rename_i b1 b2 b3
       have sr : 1 <= x.cps.toList.length := by
        cases e : x.cps.toList with
        | nil => exact absurd (congrArg V.str (str_list (by rw [e]; decide))) b1
        | cons c r => simp
       obtain ⟨c, t, el, ei⟩ := uE rfl sr
       have j6 := wW (x := x) b3 (by rw [qo]; exact el) (by omega) L9
       refine zR (by rw [PySem.sizeLine_eq]; omega) ei ?_
       repeat' (walk_at "rd1")
       . rename_i b4
         rw [sT (x := x) (by rw [j6, decide_eq_true b4]; rfl)] at q
         exact q
       . rename_i b4
         have hn : fE x = true := by rw [j6, decide_eq_false b4]; rfl
         obtain ⟨n, en⟩ := qK hn hx.1
         rw [xl hn EV en] at q
         repeat' (walk_at "rd1")
         exact q
     . rename_i b1 b2 b3
       have hn := tB b3
       obtain ⟨n, en⟩ := qK hn hx.1
       rw [xl hn EV en] at q
       repeat' (walk_at "rd1")
       exact q
theorem Cq (T : Txt K mg a) : qO P w K mg base 1 a.bY ["_law_word"] [] vS :=
 ⟨⟨_, _, FG T, T.iJ.binds fun _ _ _ _ _ _ => .all fun us hl => match us, hl with | [_], _ => rfl, .nil⟩⟩
theorem xC {H : Hp} {y : V} {d : PyData} (hy : Dv H y d) : ∀ {xs : List V} {ds : List PyData} (j : Nat), ck H xs ds -> ck H (xs.set j y) (ds.set j d)
 | [], [], _, _ => .nil
 | _ :: _, _ :: _, 0, .cons _ t => .cons hy t
 | _ :: _, _ :: _, j + 1, .cons h t => .cons h (xC hy j t)
theorem qx {d : PyData} (hd : sD d = true) {ds : List PyData} (j : Nat) (h : aR ds = true) : aR (ds.set j d) = true := by
 rw [cY] at h ⊢
 intro x hx
 rcases List.mem_or_eq_of_mem_set hx with h1 | rfl
 . exact h x h1
 . exact hd
theorem GB {D : Ends} {σ : St} {H : Hp} {to ti te : TE} {t : CB} (h : te σ H fun v H1 => to σ H1 fun o H2 => ti σ H2 fun i H3 => t o i v H3 fun H4 => D.nx σ H4) : yC te (IA to ti t) D σ H := h
theorem z6 {H : Hp} {p : Addr} {ds : List PyData} {j : Nat} {k : Int} {y : V} {d : PyData} {R : Hp -> Prop} (hp : dn H p ds) (hk : xF ds.length k = some j) (hy : Dv H y d) (hi : sD d = true) (h : ∀ H2, Mv [p] H H2 -> dn H2 p (ds.set j d) -> R H2) : DY (.ref p) (.int k) y H R := by
 obtain ⟨xs, e, dv, im⟩ := hp
 have m : Mv [p] H (upd H p (.lst (xs.set j y))) := .vF e (by intro _ z; cases z)
 exact ⟨p, xs, k, j, rfl, rfl, e, by rw [dv.length]; exact hk, h _ m ⟨_, aO, m.zP (qx hi j im) (xC hy j dv), qx hi j im⟩⟩
local macro_rules | `(tactic| walk_at "rd1") => `(tactic| first
 | with_reducible refine GB ?_
 | ((with_reducible refine' z6 ?e1 ?e2 ?e3 ?e4 (fun _ _ _ => ?_)); (case e1 => walk_at "lat"); (case e2 => exact rfl); (case e3 => walk_at "dat"); (case e4 => exact rfl))
 | fail)
abbrev G3 : Str := Str.ofString "ever"
def uL (rest : List Str) : List Int := if rest.getLast? = some G3 then (rest.map aW).set (rest.length - 1) 1 else rest.map aW
theorem C2 (rest : List Str) : (uL rest).length = rest.length := by unfold uL; split <;> simp
def vE (x : Str) : Int := if x = G3 then 1 else aW x
theorem rm (x : Str) : 1 <= vE x ↔ ∃ m, uP x = some m /\ wA m = true := by
 unfold vE uP
 by_cases h : x = G3
 . rw [if_pos h, if_pos h]
   exact ⟨fun _ => ⟨_, rfl, rfl⟩, fun _ => by decide⟩
 . rw [if_neg h, if_neg h]
   constructor
   . intro h1
     obtain ⟨e, _⟩ := ec (x := x) (by omega)
     rw [e]
     exact ⟨_, rfl, by simp [wA]; omega⟩
   . rintro ⟨m, e, hm⟩
     cases e1 : rd x with
     | none => rw [e1] at e; cases e
     | some n =>
       rw [e1] at e
       cases e
       simp only [wA, decide_eq_true_eq] at hm
       rcases mF e1 with ⟨h1, _⟩ | ⟨_, _, h2, _⟩
       . omega
       . omega
theorem uw (w1 w2 w3 w4 : Str) : uL [w1, w2, w3, w4] = [aW w1, aW w2, aW w3, vE w4] := by
 unfold uL vE
 by_cases h : w4 = G3
 . rw [if_pos (by rw [h]; rfl), if_pos h]; rfl
 . rw [if_neg (by simpa using h), if_neg h]; rfl
theorem zk (w1 w2 w3 w4 w5 : Str) : uL [w1, w2, w3, w4, w5] = [aW w1, aW w2, aW w3, aW w4, vE w5] := by
 unfold uL vE
 by_cases h : w5 = G3
 . rw [if_pos (by rw [h]; rfl), if_pos h]; rfl
 . rw [if_neg (by simpa using h), if_neg h]; rfl
theorem dG {x : Str} {n : Int} (h : rd x = some n) (h0 : 0 <= n) : aW x = n := by
 rcases mF h with ⟨h1, _⟩ | ⟨_, _, h2, _⟩
 . omega
 . exact h2
theorem nU {rest : List Str} : GoodW (Str.ofString "once" :: rest) ↔ ∃ w1 w2, rest = [w1, w2] /\ 0 <= aW w1 /\ aW w1 <= aW w2 := by
 constructor
 . rintro ⟨kd, us, hs, ho⟩
   generalize e : Str.ofString "once" :: rest = ws at hs
   cases hs with
   | once a1 a2 =>
     injection e with _ e
     rw [wu] at ho
     simp only [Be, Bool.and_eq_true, decide_eq_true_eq] at ho
     exact ⟨_, _, e, by rw [dG a1 ho.1]; exact ho.1, by rw [dG a1 ho.1, dG a2 (by omega)]; exact ho.2⟩
   | each => injection e with e _; exact absurd e.symm tW
   | behind => injection e with e _; exact absurd e.symm uk
   | jw => injection e with e _; exact absurd e.symm tX
 . rintro ⟨w1, w2, rfl, h1, h2⟩
   refine ⟨_, _, .once (ec h1).1 (ec (x := w2) (by omega)).1, ?_⟩
   rw [wu]
   simp [Be, h1, h2]
theorem ou {rest : List Str} : GoodW (Str.ofString "each" :: rest) ↔ ∃ w1 w2 w3 w4, rest = [w1, w2, w3, w4] /\ 0 <= aW w1 /\ 0 <= aW w3 /\ aW w3 < aW w2 /\ 1 <= vE w4 := by
 constructor
 . rintro ⟨kd, us, hs, ho⟩
   generalize e : Str.ofString "each" :: rest = ws at hs
   cases hs with
   | once => injection e with e _; exact absurd e tW
   | each a1 a2 a3 a4 =>
     injection e with _ e
     rw [wY] at ho
     simp only [ym, Bool.and_eq_true, decide_eq_true_eq] at ho
     obtain ⟨o1, o2, o3, o4, o5⟩ := ho
     refine ⟨_, _, _, _, e, by rw [dG a1 o1]; exact o1, by rw [dG a3 o3]; exact o3, by rw [dG a3 o3, dG a2 (by omega)]; exact o4, (rm _).mpr ⟨_, a4, o5⟩⟩
   | behind => injection e with e _; exact absurd e.symm uY
   | jw => injection e with e _; exact absurd e.symm yq
 . rintro ⟨w1, w2, w3, w4, rfl, h1, h2, h3, h4⟩
   obtain ⟨m, e4, hm⟩ := (rm w4).mp h4
   refine ⟨_, _, .each (ec h1).1 (ec (x := w2) (by omega)).1 (ec h2).1 e4, ?_⟩
   rw [wY]
   simp [ym, h1, h2, h3, hm]
   omega
theorem ju {rest : List Str} : GoodW (Str.ofString "behind" :: rest) ↔ ∃ w1 w2 w3 w4, rest = [w1, w2, w3, w4] /\ 0 <= aW w1 /\ 0 < aW w2 /\ 0 <= aW w3 /\ 1 <= vE w4 := by
 constructor
 . rintro ⟨kd, us, hs, ho⟩
   generalize e : Str.ofString "behind" :: rest = ws at hs
   cases hs with
   | once => injection e with e _; exact absurd e uk
   | each => injection e with e _; exact absurd e uY
   | behind a1 a2 a3 a4 =>
     injection e with _ e
     rw [wU] at ho
     simp only [uS, Bool.and_eq_true, decide_eq_true_eq] at ho
     obtain ⟨o1, o2, o3, o5⟩ := ho
     refine ⟨_, _, _, _, e, by rw [dG a1 o1]; exact o1, by rw [dG a2 (by omega)]; omega, by rw [dG a3 o3]; exact o3, (rm _).mpr ⟨_, a4, o5⟩⟩
   | jw => injection e with e _; exact absurd e.symm xR
 . rintro ⟨w1, w2, w3, w4, rfl, h1, h2, h3, h4⟩
   obtain ⟨m, e4, hm⟩ := (rm w4).mp h4
   refine ⟨_, _, .behind (ec h1).1 (ec (x := w2) (by omega)).1 (ec h3).1 e4, ?_⟩
   rw [wU]
   simp [uS, h1, h3, hm]
   omega
theorem j2 {rest : List Str} : GoodW (Str.ofString "slowing" :: rest) ↔ ∃ w1 w2 w3 w4 w5, rest = [w1, w2, w3, w4, w5] /\ 0 <= aW w1 /\ 1 <= aW w2 /\ aW w2 <= aW w3 /\ 0 <= aW w4 /\ 1 <= vE w5 := by
 constructor
 . rintro ⟨kd, us, hs, ho⟩
   generalize e : Str.ofString "slowing" :: rest = ws at hs
   cases hs with
   | once => injection e with e _; exact absurd e tX
   | each => injection e with e _; exact absurd e yq
   | behind => injection e with e _; exact absurd e xR
   | jw a1 a2 a3 a4 a5 =>
     injection e with _ e
     rw [w9] at ho
     simp only [Ba, Bool.and_eq_true, decide_eq_true_eq] at ho
     obtain ⟨o1, o2, o3, o4, o5⟩ := ho
     refine ⟨_, _, _, _, _, e, by rw [dG a1 o1]; exact o1, by rw [dG a2 (by omega)]; omega, by rw [dG a2 (by omega), dG a3 (by omega)]; exact o5, by rw [dG a4 o3]; exact o3, (rm _).mpr ⟨_, a5, o4⟩⟩
 . rintro ⟨w1, w2, w3, w4, w5, rfl, h1, h2, h3, h4, h5⟩
   obtain ⟨m, e5, hm⟩ := (rm w5).mp h5
   refine ⟨_, _, .jw (ec h1).1 (ec (x := w2) (by omega)).1 (ec (x := w3) (by omega)).1 (ec h4).1 e5, ?_⟩
   rw [w9]
   simp [Ba, h1, h2, h3, h4, hm]
theorem x9 {w0 : Str} {rest : List Str} (h1 : ¬ w0 = Str.ofString "once") (h2 : ¬ w0 = Str.ofString "each") (h3 : ¬ w0 = Str.ofString "behind") (h4 : ¬ w0 = Str.ofString "slowing") : ¬ GoodW (w0 :: rest) := by
 rintro ⟨kd, us, hs, _⟩
 obtain ⟨_, _, z | z | z | z⟩ := iE hs
 . exact h1 z.1
 . exact h2 z.1
 . exact h3 z.1
 . exact h4 z.1
theorem zv {w0 : Str} {rest : List Str} (h1 : ¬ w0 = Str.ofString "once") (h : GoodW (w0 :: rest)) : 4 <= (uL rest).length /\ (∀ m ∈ uL rest, 0 <= m) /\ ∀ v, (uL rest).getLast? = some v -> 1 <= v := by
 have hk := h
 obtain ⟨kd, us, hs, _⟩ := hk
 obtain ⟨_, _, z | z | z | z⟩ := iE hs
 . exact absurd z.1 h1
 . obtain ⟨rfl, _⟩ := z
   obtain ⟨w1, w2, w3, w4, rfl, a1, a2, a3, a4⟩ := ou.mp h
   rw [uw]
   refine ⟨by simp, fun m hm => ?_, fun v hv => ?_⟩
   . simp only [List.mem_cons, List.not_mem_nil, or_false] at hm
     rcases hm with rfl | rfl | rfl | rfl <;> omega
   . simp at hv; omega
 . obtain ⟨rfl, _⟩ := z
   obtain ⟨w1, w2, w3, w4, rfl, a1, a2, a3, a4⟩ := ju.mp h
   rw [uw]
   refine ⟨by simp, fun m hm => ?_, fun v hv => ?_⟩
   . simp only [List.mem_cons, List.not_mem_nil, or_false] at hm
     rcases hm with rfl | rfl | rfl | rfl <;> omega
   . simp at hv; omega
 . obtain ⟨rfl, _⟩ := z
   obtain ⟨w1, w2, w3, w4, w5, rfl, a1, a2, a3, a4, a5⟩ := j2.mp h
   rw [zk]
   refine ⟨by simp, fun m hm => ?_, fun v hv => ?_⟩
   . simp only [List.mem_cons, List.not_mem_nil, or_false] at hm
     rcases hm with rfl | rfl | rfl | rfl | rfl <;> omega
   . simp at hv; omega
theorem xc {α : Type} {xs : List α} {v : α} (h : xs.getLast? = some v) : oM xs (-1) = some v := by
 obtain ⟨ys, rfl⟩ : ∃ ys, xs = ys ++ [v] := by
  rw [List.getLast?_eq_some_iff] at h
  exact h
 exact zi ys v
theorem BR {n : Nat} (h : 0 < n) : xF n (-1) = some (n - 1) := by
 unfold xF
 rw [if_neg (by decide), if_pos (by omega)]
 congr 1
 omega
theorem K0 {l : List Str} (h : l.length = 2) : ∃ w1 w2, l = [w1, w2] := by
 match l, h with
 | [a, b], _ => exact ⟨a, b, rfl⟩
theorem IK {l : List Str} (h : l.length = 4) : ∃ w1 w2 w3 w4, l = [w1, w2, w3, w4] := by
 match l, h with
 | [a, b, c, d], _ => exact ⟨a, b, c, d, rfl⟩
theorem LV {l : List Str} (h : l.length = 5) : ∃ w1 w2 w3 w4 w5, l = [w1, w2, w3, w4, w5] := by
 match l, h with
 | [a, b, c, d, e], _ => exact ⟨a, b, c, d, e, rfl⟩
def sR : Sp := fun vs H Q _ => ∃ x, vs = [.str x] /\ ji 700 x /\ ∀ H' b, ao H H' -> (b = true ↔ GoodW (Txt.split x (Str.ofString " "))) -> Q (.bl b) H'
theorem EJ {H : Hp} {Q : VK} {E : XK} {x : Str} (h : ji 700 x) (q : ∀ H' b, ao H H' -> (b = true ↔ GoodW (Txt.split x (Str.ofString " "))) -> Q (.bl b) H') : sR [.str x] H Q E := ⟨x, rfl, h, q⟩
theorem By (T : Txt K mg a) : bh P w K mg base qM 2 a.cA a.nH ["_law_text"] sR := by
 have sC := Cq (P := P) (w := w) (base := base) T
 refine T.jy.ok ik (fun vs H Q E h => ?_) (fun dk A outer s H vs Q E hr h => ?_)
 . obtain ⟨_, rfl, _⟩ := h; rfl
 . obtain ⟨x, rfl, hx, q⟩ := h
   have GQ := hx.1
   refine ⟨_, (ai (by exact (cx (i := 1) ik.nd rfl (Or.inl rfl) (qh PySem.F.plainAttrs_str PySem.F.slot_str_split PySem.F.type_str_split uq (pv 0) (af av ag))))
    (ai (by exact (Hc (i := 2) ik.nd rfl (Or.inl rfl) (T := ["_law_word"]) (M := ["_law_text", "_law_words_here", "_law_numbers"]) (G9 (ak fS) ["_law_text", "_law_words_here", "_law_numbers"] rfl rfl (by decide +kernel)) rfl (pG (bj cq (pv 1) (bQ ah) cu)) (fun _ _ _ _ _ => (fO (i := 0) (show List.Nodup (["_law_word", "_law_text", "_law_words_here", "_law_numbers"] : List Str) by decide +kernel) rfl (Or.inl rfl))) (g8 (by decide)) (fun _ _ _ _ _ => mw) (fun _ _ _ _ _ => (aG sC (hr.mono (by decide)) rfl T.kY T.ke (af (pv 0) ag))) rfl))
    (ai (by exact (bE (aA (aY hr.kR) (a8 cW (pv 1) ah (fun _ _ => rfl)) av (ax _))
     (aj (by exact (aB (jL (dy (aY hr.kR) (aU cy rfl T.dP PySem.boot_len (af (pv 2) ag)) ah (ax _)) (jJ (um rJ rJ ah (a8 cW (pv 2) ah (fun _ _ => rfl)) (a8 cW (pv 2) ah (fun _ _ => rfl))))))))
     aF))
    (mG (by exact (bE (PW.pt (vW (aA wN (aU cy rfl T.dP PySem.boot_len (af (pv 2) ag)) ah (ax _)) (sW (aA (aY hr.kR) (a8 cW (pv 1) (qC lL ah) (fun _ _ => rfl)) av (ax _)))))
     (aj (by exact (y6 ah (FC (pv 2) (qC lL ah) set_list))))
     aF))
    (ai (by exact (bE (PW.pt (pX (aA qd (aU cy rfl T.dP PySem.boot_len (af (pv 2) ag)) ah (ax _)) (pX (aA qd (aU (yK rfl) rfl T.rX PyProof.Rows.boot_min (af (pv 2) ag)) ah (ax _)) (qG (aA qd (a8 cW (pv 2) (qC lL ah) (fun _ _ => rfl)) ah (ax _))))))
     (aj (aB qy))
     aF))
    (ai (by exact (bE (aA (aY hr.kR) (a8 cW (pv 1) ah (fun _ _ => rfl)) av (ax _))
     (aj (by exact (aB (jL (dy (aY hr.kR) (aU cy rfl T.dP PySem.boot_len (af (pv 2) ag)) ah (ax _)) (jJ (dy qd (a8 cW (pv 2) ah (fun _ _ => rfl)) (a8 cW (pv 2) ah (fun _ _ => rfl)) (ax _)))))))
     aF))
    (ai (by exact (bE (aA (aY hr.kR) (a8 cW (pv 1) ah (fun _ _ => rfl)) av (ax _))
     (aj (by exact (aB (jL (dy (aY hr.kR) (aU cy rfl T.dP PySem.boot_len (af (pv 2) ag)) ah (ax _)) (jJ (dy wN (a8 cW (pv 2) ah (fun _ _ => rfl)) ah (ax _)))))))
     aF))
    (aj (by exact (aB (jL (dy (aY hr.kR) (a8 cW (pv 1) ah (fun _ _ => rfl)) av (ax _)) (jL (dy (aY hr.kR) (aU cy rfl T.dP PySem.boot_len (af (pv 2) ag)) ah (ax _)) (jJ (um rJ rJ ah (a8 cW (pv 2) ah (fun _ _ => rfl)) (a8 cW (pv 2) ah (fun _ _ => rfl)))))))))))))))), ?_⟩
   repeat' (walk_at "rd1")
   refine wX (by decide) (by omega) (fun p1 H1 s1 n1 yN => ?_)
   have KN := PyProof.Rows.split_pos x (Str.ofString " ")
   have kH := PyProof.Rows.split_le x (Str.ofString " ")
   have K6 : ∀ z ∈ Txt.split x (Str.ofString " "), ji 700 z := fun z hz => tJ hx hz
   generalize Txt.split x (Str.ofString " ") = ws at *
   cases ws with
   | nil => simp at KN
   | cons w0 rest =>
     have J0 : rest.length <= 800 := by rw [List.length_cons] at kH; omega
     have i0 : oM ((w0 :: rest).map PyData.str) 0 = some (.str w0) := jV (j := 0) rfl
     repeat' (walk_at "rd1")
     refine sv 1 yN (fun q1 H2 s2 n2 Bd => ?_)
     refine JC (cs := rest) (gd := PyData.str) (fun _ => true) (fun c => .int (aW c)) Bd.dv (by omega) (fun _ => rfl) (fun x c H' N hc Cv uO yes no => ?_) (fun pq H5 A8 DS uT => ?_)
     . cases uO
       have N9 := K6 c (List.mem_cons_of_mem _ hc)
       repeat' (walk_at "rd1")
       refine pN (fun _ => ?_) (fun hb => by cases hb)
       repeat' (walk_at "rd1")
       refine HG N9 ?_
       exact yes rfl _ _ (ao.refl _) (.int _)
     . have ef : (rest.filter fun _ => true) = rest := List.filter_eq_self.mpr (by simp)
       rw [ef] at uT
       have uT : dn H5 pq ((rest.map aW).map PyData.int) := by rw [List.map_map]; exact uT
       have MP : ao H1 H5 := s2.trans A8
       have JV : dn H5 p1 ((w0 :: rest).map PyData.str) := yN.keeps MP
       have sH : ao H H5 := s1.trans MP
       have Oo : H pq = none := s1.none (s2.none DS)
       have NK : pq ≠ p1 := fun z => by
        obtain ⟨xs, e, _⟩ := yN
        have := s2.none DS
        rw [z, e] at this; cases this
       clear Bd s2 A8 DS ef yN
       repeat' (walk_at "rd1")
       . rename_i b1 b2 b3
         obtain rfl : w0 = Str.ofString "once" := V.str.inj b1
         have b2 : rest.length = 2 := by simp only [List.length_map] at b2; omega
         obtain ⟨w1, w2, rfl⟩ := K0 b2
         refine q _ _ sH ?_
         have b3 : 0 <= aW w1 := b3
         rw [nU]
         constructor
         . intro z
           have z : aW w1 <= aW w2 := of_decide_eq_true z
           exact ⟨w1, w2, rfl, b3, z⟩
         . rintro ⟨y1, y2, e, _, z⟩
           cases e
           exact decide_eq_true z
       . rename_i b1 b2 b3
         obtain rfl : w0 = Str.ofString "once" := V.str.inj b1
         refine q _ _ sH ?_
         rw [nU]
         refine ⟨(fun z => by cases z), fun ⟨y1, y2, e, z, _⟩ => ?_⟩
         subst e
         exact absurd z b3
       . rename_i b1 b2
         obtain rfl : w0 = Str.ofString "once" := V.str.inj b1
         refine q _ _ sH ?_
         rw [nU]
         refine ⟨(fun z => by cases z), fun ⟨y1, y2, e, z, _⟩ => ?_⟩
         subst e
         exact absurd rfl b2
       . rename_i b1
         have h1 : ¬ w0 = Str.ofString "once" := fun z => b1 (congrArg V.str z)
         refine sk (fun σ' H' => ao H H' /\ dn H' p1 ((w0 :: rest).map PyData.str) /\ dn H' pq ((uL rest).map PyData.int) /\ σ' = [some (.str x), some (.ref p1), some (.ref pq)]) ?_ ?_
         . by_cases Kz : rest = []
           . subst Kz
             repeat' (walk_at "rd1")
             all_goals first | exact ⟨sH, JV, uT, rfl⟩ | (exfalso; rename_i b2 b3; simp at b2) | (exfalso; rename_i b2; simp at b2)
           . obtain ⟨wl, Gn⟩ : ∃ wl, rest.getLast? = some wl := by
              cases e : rest.getLast? with
              | none => exact absurd (List.getLast?_eq_none_iff.mp e) Kz
              | some wl => exact ⟨wl, rfl⟩
             have sr : 0 < rest.length := List.length_pos_iff.mpr Kz
             have il : oM ((w0 :: rest).map PyData.str) (-1) = some (.str wl) := xc (by rw [List.getLast?_map, List.getLast?_cons, Gn]; rfl)
             repeat' (walk_at "rd1")
             . refine kP (.inr JV.dv) il ?_
               repeat' (walk_at "rd1")
               . rename_i b2
                 have e2 : wl = G3 := V.str.inj b2
                 refine z6 (d := .int 1) uT (by rw [List.length_map, List.length_map]; exact BR sr) (.int 1) rfl (fun H6 Ml Ka => ?_)
                 have s6 : ao H H6 := by
                  refine Mv.D4 sH Ml Oo
                 refine ⟨s6, JV.mv Ml (by simpa using NK.symm), ?_, rfl⟩
                 unfold uL
                 rw [if_pos (by rw [Gn, e2])]
                 rw [List.map_set]
                 exact Ka
               . rename_i b2
                 refine ⟨sH, JV, ?_, rfl⟩
                 unfold uL
                 rw [if_neg (by rw [Gn]; exact fun z => b2 (congrArg V.str (Option.some.inj z)))]
                 exact uT
             . rename_i b2
               exfalso
               simp only [List.length_map] at b2
               omega
         rintro σ' H6 ⟨s6, ME, Ka, rfl⟩
         have Pb := C2 rest
         have ga := fun h => zv (rest := rest) h1 h
         have no : (¬ GoodW (w0 :: rest)) -> Q (.bl false) H6 := fun h => q _ _ s6 ⟨(fun z => by cases z), fun z => absurd z h⟩
         repeat' (walk_at "rd1")
         . rename_i b2
           exact no fun h => by have := (ga h).1; omega
         . rename_i b2
           refine Fn Ka.dv (by omega) (fun m hm hle => ?_)
           obtain ⟨vl, DJ⟩ : ∃ vl, (uL rest).getLast? = some vl := by
            cases e : (uL rest).getLast? with
            | none => rw [List.getLast?_eq_none_iff.mp e] at b2; simp at b2
            | some vl => exact ⟨vl, rfl⟩
           have il : oM ((uL rest).map PyData.int) (-1) = some (.int vl) := xc (by rw [List.getLast?_map, DJ]; rfl)
           repeat' (walk_at "rd1")
           . rename_i b3
             exact no fun h => by have := (ga h).2.1 m hm; omega
           . rename_i b3
             refine kP (.inr Ka.dv) il ?_
             have gF : ∀ k ∈ uL rest, 0 <= k := fun k hk => by have := hle k hk; omega
             repeat' (walk_at "rd1")
             . rename_i b4
               exact no fun h => by have := (ga h).2.2 vl DJ; omega
             . rename_i b4 b5 b6
               obtain rfl : w0 = Str.ofString "each" := V.str.inj b5
               obtain ⟨w1, w2, w3, w4, rfl⟩ := IK (l := rest) (by omega)
               rw [uw] at gF DJ
               have hv : 1 <= vE w4 := by simp at DJ; omega
               have g1 := gF (aW w1) (by simp)
               have g3 := gF (aW w3) (by simp)
               refine q _ _ s6 ?_
               rw [ou, uw]
               constructor
               . intro z
                 have z : aW w3 < aW w2 := of_decide_eq_true z
                 exact ⟨w1, w2, w3, w4, rfl, g1, g3, z, hv⟩
               . rintro ⟨y1, y2, y3, y4, e, _, _, z, _⟩
                 cases e
                 exact decide_eq_true z
             . rename_i b4 b5 b6
               obtain rfl : w0 = Str.ofString "each" := V.str.inj b5
               refine no fun h => ?_
               obtain ⟨y1, y2, y3, y4, e, _⟩ := ou.mp h
               subst e
               exact b6 (by rw [uw]; rfl)
             . rename_i b4 b5 b6 b7
               obtain rfl : w0 = Str.ofString "behind" := V.str.inj b6
               obtain ⟨w1, w2, w3, w4, rfl⟩ := IK (l := rest) (by omega)
               rw [uw] at gF DJ
               have hv : 1 <= vE w4 := by simp at DJ; omega
               have g1 := gF (aW w1) (by simp)
               have g3 := gF (aW w3) (by simp)
               refine q _ _ s6 ?_
               rw [ju, uw]
               constructor
               . intro z
                 have z : 0 < aW w2 := of_decide_eq_true z
                 exact ⟨w1, w2, w3, w4, rfl, g1, z, g3, hv⟩
               . rintro ⟨y1, y2, y3, y4, e, _, z, _, _⟩
                 cases e
                 exact decide_eq_true z
             . rename_i b4 b5 b6 b7
               obtain rfl : w0 = Str.ofString "behind" := V.str.inj b6
               refine no fun h => ?_
               obtain ⟨y1, y2, y3, y4, e, _⟩ := ju.mp h
               subst e
               exact b7 (by rw [uw]; rfl)
             . rename_i b4 b5 b6 b7 b8 b9
               obtain rfl : w0 = Str.ofString "slowing" := V.str.inj b7
               obtain ⟨w1, w2, w3, w4, w5, rfl⟩ := LV (l := rest) (by omega)
               rw [zk] at gF DJ b9
               have hv : 1 <= vE w5 := by simp at DJ; omega
               have g1 := gF (aW w1) (by simp)
               have g4 := gF (aW w4) (by simp)
               have b9 : 1 <= aW w2 := b9
               refine q _ _ s6 ?_
               rw [j2, zk]
               constructor
               . intro z
                 have z : aW w2 <= aW w3 := of_decide_eq_true z
                 exact ⟨w1, w2, w3, w4, w5, rfl, g1, b9, z, g4, hv⟩
               . rintro ⟨y1, y2, y3, y4, y5, e, _, _, z, _⟩
                 cases e
                 exact decide_eq_true z
             . rename_i b4 b5 b6 b7 b8 b9
               obtain rfl : w0 = Str.ofString "slowing" := V.str.inj b7
               refine no fun h => ?_
               obtain ⟨y1, y2, y3, y4, y5, e, _, z, _⟩ := j2.mp h
               subst e
               rw [zk] at b9
               exact b9 z
             . rename_i b4 b5 b6 b7 b8
               obtain rfl : w0 = Str.ofString "slowing" := V.str.inj b7
               refine no fun h => ?_
               obtain ⟨y1, y2, y3, y4, y5, e, _⟩ := j2.mp h
               subst e
               exact b8 (by rw [zk]; rfl)
             . rename_i b4 b5 b6 b7
               exact no (x9 h1 (fun z => b5 (congrArg V.str z)) (fun z => b6 (congrArg V.str z)) (fun z => b7 (congrArg V.str z)))
theorem AF (T : Txt K mg a) : qO P w K mg base 2 a.cA ["_law_text"] [] sR :=
 ⟨⟨_, _, By T, T.jy.binds fun _ _ _ _ _ _ => .all fun us hl => match us, hl with | [_], _ => rfl, .nil⟩⟩
def ej (ws : List Str) : Prop := ∀ x ∈ ws, ji 61 x
def vY (K : PySem.W.Frag) : Sp := fun vs H Q _ => ∃ (l : Addr) (ns : List Int), vs = [.ref l] /\ fW K H l (ns.map V.int) /\ ∀ p H' ws, ao H H' -> H p = none -> dn H' p (ws.map PyData.str) -> ws ≠ [] -> ws.length <= 6 -> ej ws -> Q (.ref p) H'
theorem HV {H : Hp} {Q : VK} {E : XK} {l : Addr} {ns : List Int} (hl : fW K H l (ns.map V.int)) (q : ∀ p H' ws, ao H H' -> H p = none -> dn H' p (ws.map PyData.str) -> ws ≠ [] -> ws.length <= 6 -> ej ws -> Q (.ref p) H') : vY K [.ref l] H Q E := ⟨l, ns, rfl, hl, q⟩
theorem sE {H : Hp} {Q : VK} {v : V} {ds : List PyData} {i : Int} (hp : Dv H v (.list ds)) (h0 : 0 <= i) (h1 : i < ds.length) (h : ∀ d ∈ ds, ∀ x, Dv H x d -> Q x H) : yZ K v (.int i) H Q := by
 obtain ⟨m, rfl⟩ := Int.eq_ofNat_of_zero_le h0
 have hi : m < ds.length := by omega
 exact kP (.inr hp) (jV (List.getElem?_eq_getElem hi)) (wz fun x hx => h _ (List.getElem_mem hi) x hx)
theorem mK {n : Int} (h0 : -(10 ^ 60) < n) (h1 : n < 10 ^ 60) : ji 61 (Str.ofString (toString n)) := Ah h0 h1
theorem AA : ji 61 (Str.ofString "ever") := ⟨by decide +kernel, by decide +kernel⟩
theorem nJ : ji 61 (Str.ofString "once") := ⟨by decide +kernel, by decide +kernel⟩
theorem mr : ji 61 (Str.ofString "each") := ⟨by decide +kernel, by decide +kernel⟩
theorem iK : ji 61 (Str.ofString "behind") := ⟨by decide +kernel, by decide +kernel⟩
theorem mS : ji 61 (Str.ofString "slowing") := ⟨by decide +kernel, by decide +kernel⟩
theorem EE (T : Txt K mg a) : bh P w K mg base qM 2 a.bW a.kT ["_law_script"] (vY K) := by
 have aE := iV (P := P) (w := w) (base := base) T
 have cj := tH (P := P) (w := w) (base := base) T
 refine T.ig.ok cU (fun vs H Q E h => ?_) (fun dk A outer s H vs Q E hr h => ?_)
 . obtain ⟨_, _, rfl, _⟩ := h; rfl
 . obtain ⟨l, ns, rfl, hl, q⟩ := h
   refine ⟨_, (ai (by exact (cx (i := 1) cU.nd rfl (Or.inl rfl) (aM bU (aG aE (hr.mono (by decide)) rfl T.ay T.az (af (pv 0) (af ah ag))) ah)))
    (ai (by exact (cx (i := 2) cU.nd rfl (Or.inl rfl) (aG cj (hr.mono (by decide)) rfl T.bM T.bN (af (aG aE (hr.mono (by decide)) rfl T.ay T.az (af (pv 0) (af ah ag))) ag))))
    (ai (by exact (cx (i := 3) cU.nd rfl (Or.inl rfl) (aM lM ah (aG cj (hr.mono (by decide)) rfl T.bM T.bN (af (aG aE (hr.mono (by decide)) rfl T.ay T.az (af (pv 0) (af ah ag))) ag)))))
    (ai (by exact (cx (i := 4) cU.nd rfl (Or.inl rfl) (aG cj (hr.mono (by decide)) rfl T.bM T.bN (af (aG aE (hr.mono (by decide)) rfl T.ay T.az (af (pv 0) (af ah ag))) ag))))
    (ai (by exact (cx (i := 5) cU.nd rfl (Or.inl rfl) (a8 cW (bz (af av (af (a6 bw rfl T.cG PyProof.Rows.boot_str (af (aM lM ah (aG cj (hr.mono (by decide)) rfl T.bM T.bN (af (aM fw (aG aE (hr.mono (by decide)) rfl T.ay T.az (af (pv 0) (af ah ag))) ah) ag))) ag)) ag))) (aM bU (aG aE (hr.mono (by decide)) rfl T.ay T.az (af (pv 0) (af ah ag))) ah) (fun _ _ => rfl))))
    (ai (by exact (bE (aA (aY hr.kR) (pv 1) ah (ax _))
     (aj (by exact (aB (bz (af av (af (a6 bw rfl T.cG PyProof.Rows.boot_str (af (pv 2) ag)) (af (a6 bw rfl T.cG PyProof.Rows.boot_str (af (aM lM (pv 2) (pv 4)) ag)) ag)))))))
     aF))
    (ai (by exact (bE (aA (aY hr.kR) (pv 1) ah (ax _))
     (aj (by exact (aB (bz (af av (af (a6 bw rfl T.cG PyProof.Rows.boot_str (af (pv 2) ag)) (af (a6 bw rfl T.cG PyProof.Rows.boot_str (af (pv 3) ag)) (af (a6 bw rfl T.cG PyProof.Rows.boot_str (af (aM bU (pv 4) (pv 3)) ag)) (af (pv 5) ag)))))))))
     aF))
    (ai (by exact (bE (aA (aY hr.kR) (pv 1) ah (ax _))
     (aj (by exact (aB (bz (af av (af (a6 bw rfl T.cG PyProof.Rows.boot_str (af (pv 2) ag)) (af (a6 bw rfl T.cG PyProof.Rows.boot_str (af (pv 3) ag)) (af (a6 bw rfl T.cG PyProof.Rows.boot_str (af (pv 4) ag)) (af (pv 5) ag)))))))))
     aF))
    (aj (by exact (aB (bz (af av (af (a6 bw rfl T.cG PyProof.Rows.boot_str (af (pv 2) ag)) (af (a6 bw rfl T.cG PyProof.Rows.boot_str (af (pv 3) ag)) (af (a6 bw rfl T.cG PyProof.Rows.boot_str (af (aM lM (pv 3) (aG cj (hr.mono (by decide)) rfl T.bM T.bN (af (aG aE (hr.mono (by decide)) rfl T.ay T.az (af (pv 0) (af ah ag))) ag))) ag)) (af (a6 bw rfl T.cG PyProof.Rows.boot_str (af (pv 4) ag)) (af (pv 5) ag)))))))))))))))))), ?_⟩
   repeat' (walk_at "rd1")
   rename_i x4 _ _ p1 H1 s1 n1 yN _ _
   refine sE (by walk_at "dat") (by assumption) (by simp only [List.length_cons, List.length_nil]; omega) (fun d hd x hx => ?_)
   obtain ⟨tx, rfl, A7⟩ : ∃ tx, x = .str tx /\ ji 61 tx := by
    simp only [List.mem_cons, List.not_mem_nil, or_false] at hd
    rcases hd with rfl | rfl
    . exact ⟨_, hx.str_inv, AA⟩
    . exact ⟨_, hx.str_inv, mK (by omega) (by omega)⟩
   clear hx hd
   repeat' (walk_at "rd1")
   . refine q _ _ [_, _, _] (by walk_at "same") (by walk_at "none") (by assumption) (by simp) (by simp) (fun z hz => ?_)
     simp only [List.mem_cons, List.not_mem_nil, or_false] at hz
     rcases hz with rfl | rfl | rfl
     all_goals first | exact nJ | exact mr | exact iK | exact mS | assumption | exact mK (by omega) (by omega)
   . refine q _ _ [_, _, _, _, _] (by walk_at "same") (by walk_at "none") (by assumption) (by simp) (by simp) (fun z hz => ?_)
     simp only [List.mem_cons, List.not_mem_nil, or_false] at hz
     rcases hz with rfl | rfl | rfl | rfl | rfl
     all_goals first | exact nJ | exact mr | exact iK | exact mS | assumption | exact mK (by omega) (by omega)
   . refine q _ _ [_, _, _, _, _] (by walk_at "same") (by walk_at "none") (by assumption) (by simp) (by simp) (fun z hz => ?_)
     simp only [List.mem_cons, List.not_mem_nil, or_false] at hz
     rcases hz with rfl | rfl | rfl | rfl | rfl
     all_goals first | exact nJ | exact mr | exact iK | exact mS | assumption | exact mK (by omega) (by omega)
   . refine q _ _ [_, _, _, _, _, _] (by walk_at "same") (by walk_at "none") (by assumption) (by simp) (by simp) (fun z hz => ?_)
     simp only [List.mem_cons, List.not_mem_nil, or_false] at hz
     rcases hz with rfl | rfl | rfl | rfl | rfl | rfl
     all_goals first | exact nJ | exact mr | exact iK | exact mS | assumption | exact mK (by omega) (by omega)
theorem BV (T : Txt K mg a) : qO P w K mg base 2 a.bW ["_law_script"] [] (vY K) :=
 ⟨⟨_, _, EE T, T.ig.binds fun _ _ _ _ _ _ => .all fun us hl => match us, hl with | [_], _ => rfl, .nil⟩⟩
section
variable {H : Hp} {Q : VK} {p : Addr} {ws : List Str}
theorem Hb (xs : List V) : sd xs none (some (-1)) = xs.take (xs.length - 1) := by
 have h1 : HT.fN xs.length xs.length (some (-1)) = xs.length - 1 := by
  simp only [HT.fN]
  rw [if_pos (by omega)]
  omega
 show (xs.drop (HT.fN xs.length 0 none)).take (HT.fN xs.length xs.length (some (-1)) - HT.fN xs.length 0 none) = _
 rw [h1, show HT.fN xs.length 0 none = 0 from rfl, List.drop_zero, Nat.sub_zero]
theorem IZ (xs : List V) : sd xs (some (-1)) none = xs.drop (xs.length - 1) := by
 have h1 : HT.fN xs.length 0 (some (-1)) = xs.length - 1 := by
  simp only [HT.fN]
  rw [if_pos (by omega)]
  omega
 have h2 : HT.fN xs.length xs.length none = xs.length := rfl
 show (xs.drop (HT.fN xs.length 0 (some (-1)))).take (HT.fN xs.length xs.length none - HT.fN xs.length 0 (some (-1))) = _
 rw [h1, h2]
 exact List.take_of_length_le (by rw [List.length_drop]; omega)
theorem Ku (j : Int) (h0 : 0 <= j) (hp : dn H p (ws.map PyData.str)) (k : ∀ q H', ao H H' -> H q = none -> dn H' q ((ws.take j.toNat).map PyData.str) -> Q (.ref q) H') : tZ K (.ref p) none (some j) H Q := by
 obtain ⟨m, rfl⟩ := Int.eq_ofNat_of_zero_le h0
 exact zM m hp (fun q H' s n h => k q H' s n (by rw [List.map_take]; exact h))
theorem LZ (j : Int) (h0 : 0 <= j) (hp : dn H p (ws.map PyData.str)) (k : ∀ q H', ao H H' -> H q = none -> dn H' q ((ws.drop j.toNat).map PyData.str) -> Q (.ref q) H') : tZ K (.ref p) (some j) none H Q := by
 obtain ⟨m, rfl⟩ := Int.eq_ofNat_of_zero_le h0
 exact sv m hp (fun q H' s n h => k q H' s n (by rw [List.map_drop]; exact h))
theorem Lq (hp : dn H p (ws.map PyData.str)) (k : ∀ q H', ao H H' -> H q = none -> dn H' q ((ws.take (ws.length - 1)).map PyData.str) -> Q (.ref q) H') : tZ K (.ref p) none (some (-1)) H Q := by
 obtain ⟨xs, e, dv, im⟩ := hp
 refine ⟨p, xs, rfl, fW.of e, fun q hq => ?_⟩
 have hl := dv.length
 rw [List.length_map] at hl
 rw [Hb, hl]
 exact k q _ (bD hq) hq (by rw [List.map_take]; exact iz hq (dv.take _) (jx _ im))
theorem Kj (hp : dn H p (ws.map PyData.str)) (k : ∀ q H', ao H H' -> H q = none -> dn H' q ((ws.drop (ws.length - 1)).map PyData.str) -> Q (.ref q) H') : tZ K (.ref p) (some (-1)) none H Q := by
 obtain ⟨xs, e, dv, im⟩ := hp
 refine ⟨p, xs, rfl, fW.of e, fun q hq => ?_⟩
 have hl := dv.length
 rw [List.length_map] at hl
 rw [IZ, hl]
 exact k q _ (bD hq) hq (by rw [List.map_drop]; exact iz hq (dv.drop _) (jA _ im))
theorem Io {q : Addr} {zs : List Str} (hp : dn H p (ws.map PyData.str)) (hq : dn H q (zs.map PyData.str)) (hl : ws.length + zs.length <= 4000) (k : ∀ r H', ao H H' -> H r = none -> dn H' r ((ws ++ zs).map PyData.str) -> Q (.ref r) H') : E2 (.ref p) (.ref q) H Q :=
 As hp hq (by rw [List.length_map, List.length_map]; exact hl) fun r H' s n h => k r H' s n (by rw [List.map_append]; exact h)
theorem Jz {x : Str} (h : ∀ r H', ao H H' -> H r = none -> dn H' r ([x].map PyData.str) -> Q (.ref r) H') : zf [.str x] H Q :=
 u0 (ds := [.str x]) (uh rfl) (.cons (.str x) .nil) rfl (fun r H' s n hr => h r H' s n hr)
end
local macro_rules | `(tactic| walk_at "rd1") => `(tactic| first
 | with_reducible refine Jz (fun _ _ _ _ _ => ?_)
 | ((with_reducible refine' Ku _ ?e0 ?e1 (fun _ _ _ _ _ => ?_)); (case e1 => walk_at "lat"); (case e0 => omega))
 | ((with_reducible refine' LZ _ ?e0 ?e1 (fun _ _ _ _ _ => ?_)); (case e1 => walk_at "lat"); (case e0 => omega))
 | ((with_reducible refine' Lq ?e1 (fun _ _ _ _ _ => ?_)); (case e1 => walk_at "lat"))
 | ((with_reducible refine' Kj ?e1 (fun _ _ _ _ _ => ?_)); (case e1 => walk_at "lat"))
 | ((with_reducible refine' Io ?e1 ?e2 ?e3 (fun _ _ _ _ _ => ?_)); (case e1 => walk_at "lat"); (case e2 => walk_at "lat"); (case e3 => (simp only [List.length_append, List.length_take, List.length_drop, List.length_cons, List.length_nil]; omega)))
 | fail)
theorem ej.take {ws : List Str} (h : ej ws) (n : Nat) : ej (ws.take n) := fun x hx => h x (List.mem_of_mem_take hx)
theorem ej.drop {ws : List Str} (h : ej ws) (n : Nat) : ej (ws.drop n) := fun x hx => h x (List.mem_of_mem_drop hx)
theorem ej.app {ws zs : List Str} (h : ej ws) (g : ej zs) : ej (ws ++ zs) := fun x hx => (List.mem_append.mp hx).elim (h x) (g x)
theorem ej.one {x : Str} (h : ji 61 x) : ej [x] := fun y hy => by rw [List.mem_singleton.mp hy]; exact h
def uW : Sp := fun vs H Q _ => ∃ p ws c, vs = [.ref p, .int c] /\ dn H p (ws.map PyData.str) /\ ws ≠ [] /\ ws.length <= 20 /\ ej ws /\ ∀ r H' zs, ao H H' -> H r = none -> dn H' r (zs.map PyData.str) -> zs.length <= ws.length + 1 -> ej zs -> Q (.ref r) H'
theorem D1 {H : Hp} {Q : VK} {E : XK} {p : Addr} {ws : List Str} {c : Int} (h : dn H p (ws.map PyData.str)) (h1 : ws ≠ []) (h2 : ws.length <= 20) (h3 : ej ws) (q : ∀ r H' zs, ao H H' -> H r = none -> dn H' r (zs.map PyData.str) -> zs.length <= ws.length + 1 -> ej zs -> Q (.ref r) H') : uW [.ref p, .int c] H Q E := ⟨p, ws, c, rfl, h, h1, h2, h3, q⟩
theorem F9 (T : Txt K mg a) : bh P w K mg base qM 1 a.bu a.jg ["_law_words_here", "_law_cell"] uW := by
 refine T.fG.ok du (fun vs H Q E h => ?_) (fun dk A outer s H vs Q E hr h => ?_)
 . obtain ⟨_, _, _, rfl, _⟩ := h; rfl
 . obtain ⟨p, ws, c, rfl, hp, j6, hl, ha, q⟩ := h
   have sr : 0 < ws.length := List.length_pos_iff.mpr j6
   refine ⟨_, (ai (by exact (cx (i := 2) du.nd rfl (Or.inl rfl) (aM bU (aM fw (pv 1) ah) (aU cy rfl T.dP PySem.boot_len (af (pv 0) ag)))))
    (ai (by exact (cx (i := 3) du.nd rfl (Or.inl rfl) (bz (by exact xk (vs := [.str "once", .str "each", .str "behind", .str "slowing", .str "ever", .str "0", .str "-1", .str "007", .str "", .str "Each", .str "5.", .str "none", .str "1"]) rfl))))
    (ai (by exact (cx (i := 4) du.nd rfl (Or.inl rfl) (a8 cW (aM eS (pv 3) (bz (af (aM BK av ah) (af av (af av (af av (af av ag))))))) (aM bU (aM fw (pv 1) ah) ah) (fun _ _ => rfl))))
    (ai (by exact (bE (aA (aY hr.kR) (aM bU (pv 1) ah) ah (ax _))
     (aj (by exact (aB (aM eS (bj cq (pv 0) cu (bQ (pv 2))) (bj cq (pv 0) (bQ (aM lM (pv 2) ah)) cu)))))
     aF))
    (ai (by exact (bE (aA (aY hr.kR) (aM bU (pv 1) ah) ah (ax _))
     (aj (by exact (aB (aM eS (aM eS (bj cq (pv 0) cu (bQ (pv 2))) (bz (af (a8 cW (pv 0) (pv 2) (fun _ _ => rfl)) ag))) (bj cq (pv 0) (bQ (pv 2)) cu)))))
     aF))
    (ai (by exact (bE (aA (aY hr.kR) (aM bU (pv 1) ah) ah (ax _))
     (aj (by exact (aB (aM eS (aM eS (bj cq (pv 0) cu (bQ (pv 2))) (bz (af (pv 4) ag))) (bj cq (pv 0) (bQ (pv 2)) cu)))))
     aF))
    (ai (by exact (bE (aA (aY hr.kR) (aM bU (pv 1) ah) ah (ax _))
     (aj (by exact (aB (aM eS (aM eS (bj cq (pv 0) cu (bQ (pv 2))) (bz (af (pv 4) ag))) (bj cq (pv 0) (bQ (aM lM (pv 2) ah)) cu)))))
     aF))
    (aj (by exact (aB (aM eS (aM eS (bj cq (bj cq (pv 0) cu (bQ (pv 2))) cu (bQ (qC lL ah))) (bj cq (pv 0) (bQ (pv 2)) cu)) (bj cq (bj cq (pv 0) cu (bQ (pv 2))) (bQ (qC lL ah)) cu)))))))))))), ?_⟩
   repeat' (walk_at "rd1")
   rename_i p2 H2 s2 n2 Jg n9 OV Ou p3 H3 s3 n3 MJ p4 H4 s4 n4 MD i0 i1
   refine sE (by walk_at "dat") i0 (by simp only [List.length_append, List.length_cons, List.length_nil]; omega) (fun d hd x hx => ?_)
   obtain ⟨tx, rfl, A7⟩ : ∃ tx, x = .str tx /\ ji 61 tx := by
    have h9 : ji 61 n9 := ⟨by rw [OV]; decide, fun c hc => by
     have := Ou c hc
     rw [show (Str.ofString "9").cps.toList = [57] by decide +kernel] at this
     rw [List.mem_singleton.mp this]; decide⟩
    simp only [List.cons_append, List.nil_append, List.mem_cons, List.not_mem_nil, or_false] at hd
    rcases hd with rfl | rfl | rfl | rfl | rfl | rfl | rfl | rfl | rfl | rfl | rfl | rfl | rfl | rfl | rfl | rfl | rfl | rfl
    all_goals first | exact ⟨_, hx.str_inv, h9⟩ | exact ⟨_, hx.str_inv, by decide +kernel, by decide +kernel⟩
   clear hx hd
   have Nv : ji 61 (ws.getD (c / 5 % ws.length).toNat default) := by
    have hi : (c / 5 % ws.length).toNat < ws.length := by omega
    rw [List.getD_eq_getElem?_getD, List.getElem?_eq_getElem hi]
    exact ha _ (List.getElem_mem hi)
   repeat' (walk_at "rd1")
   all_goals refine q _ _ _ (by walk_at "same") (by walk_at "none") (by assumption) (by simp only [List.length_append, List.length_take, List.length_drop, List.length_cons, List.length_nil]; omega) ?_
   all_goals repeat' first | exact ha | exact .one A7 | exact .one Nv | refine ej.app ?_ ?_ | refine ej.take ?_ _ | refine ej.drop ?_ _
theorem B2 (T : Txt K mg a) : qO P w K mg base 1 a.bu ["_law_words_here", "_law_cell"] [] uW :=
 ⟨⟨_, _, F9 T, T.fG.binds fun _ _ _ _ _ _ => .all fun us hl => match us, hl with | [_, _], _ => rfl, .nil⟩⟩
theorem CT {n : Nat} {x : Str} (h : ji n x) : PyData.canLay0 (.str x) = true := by
 show x.cps.all (· < 0x110000) = true
 rw [Array.all_eq_true']
 intro c hc
 have := h.2 c (by simpa using hc)
 exact decide_eq_true (by omega)
theorem uv : ∀ {ss : List Str}, ej ss -> PyData.canLayAll0 (ss.map PyData.str) = true
 | [], _ => rfl
 | x :: r, h => by
   simp only [List.map_cons, PyData.canLayAll0, CT (h x List.mem_cons_self), Bool.true_and]
   exact uv fun y hy => h y (List.mem_cons_of_mem _ hy)
theorem rq : ∀ ws : List Str, PyData.depthAll (ws.map PyData.str) <= 1
 | [] => by simp [PyData.depthAll]
 | _ :: r => by have := rq r; simp only [List.map_cons, PyData.depthAll, PyData.depth]; omega
theorem zI {H : Hp} {Q : VK} {f : Bool -> Bool} {x y : V} {ss : List Str} (h1 : Dv H x (.list (ss.map PyData.str))) (h2 : Dv H y (.list [])) (hs : ej ss) (h : Q (.bl (f ss.isEmpty)) H) : Ac K f x y H Q := by
 have e : PyData.eqv (.list (ss.map PyData.str)) (.list []) = ss.isEmpty := by cases ss <;> rfl
 refine DL h1 h2 (by rw [PyData.canLay0]; exact uv hs) rfl ?_ (by rw [e]; exact h)
 have := rq ss
 rw [PyData.depth]; omega
theorem vz : ∀ {ws : List Str}, ej ws -> (ws.map (·.length)).sum <= 61 * ws.length
 | [], _ => Nat.zero_le _
 | x :: r, h => by
   have h1 := (h x List.mem_cons_self).1
   have h2 := vz (ws := r) fun y hy => h y (List.mem_cons_of_mem _ hy)
   simp only [List.map_cons, List.sum_cons, List.length_cons]
   omega
theorem zO (ws : List Str) : (ws.flatMap fun p => (Str.ofString " ").cps.toList ++ p.cps.toList).length = (ws.map (·.length)).sum + ws.length := by
 have e1 : (Str.ofString " ").cps.toList.length = 1 := by decide +kernel
 induction ws with
 | nil => rfl
 | cons x r ih =>
   rw [List.flatMap_cons, List.length_append, List.length_append, ih, e1, List.map_cons, List.sum_cons, List.length_cons, <- ft]
   omega
theorem AX {ws : List Str} (h : ej ws) (hl : ws.length <= 8) : ji 700 (Txt.join (Str.ofString " ") ws) := by
 cases ws with
 | nil => exact ⟨by decide +kernel, by decide +kernel⟩
 | cons x r =>
   have h1 := (h x List.mem_cons_self).1
   have h2 := vz (ws := r) fun y hy => h y (List.mem_cons_of_mem _ hy)
   have h3 := zO r
   rw [List.length_cons] at hl
   refine ⟨?_, fun c hc => ?_⟩
   . rw [ft, mJ, List.length_append, h3, <- ft]
     omega
   . rw [mJ, List.mem_append] at hc
     rcases hc with hc | hc
     . exact (h x List.mem_cons_self).2 c hc
     . obtain ⟨p, hp, hc⟩ := List.mem_flatMap.mp hc
       rcases List.mem_append.mp hc with hc | hc
       . have : (Str.ofString " ").cps.toList = [32] := by decide +kernel
         rw [this] at hc
         rw [List.mem_singleton.mp hc]; decide
       . exact (h p (List.mem_cons_of_mem _ hp)).2 c hc
theorem wk {x : Str} {m : V} (h : uP x = some m) (hm : wA m = true) : x = oK (mD m) /\ lU m (mD m) := by
 rcases nu h with ⟨rfl, rfl⟩ | ⟨n, _, e, rfl⟩
 . exact ⟨rfl, .inl ⟨rfl, rfl⟩⟩
 . simp only [wA, decide_eq_true_eq] at hm
   rcases mF e with ⟨h1, _⟩ | ⟨h0, h1, _, h2⟩
   . omega
   . exact ⟨h2, .inr ⟨n, rfl, rfl, h0, by omega⟩⟩
theorem eZ {x : Str} {n : Int} (h : rd x = some n) (h0 : 0 <= n) : x = nD n /\ n < 10 ^ 64 := by
 rcases mF h with ⟨h1, _⟩ | ⟨_, h1, _, h2⟩
 . omega
 . exact ⟨h2, by omega⟩
theorem x3 {x : Str} : Txt.join (Str.ofString " ") (Txt.split x (Str.ofString " ")) = x := by
 have h1 := StrLaws.join_split x (Str.ofString " ")
 rw [<- StrLaws.glued_eq_join] at h1
 exact h1
theorem GH (T : Txt K mg a) (aT : gK w K a.bJ a9) : bh P w K mg base qM 11 a.ll a.sV ["_law_script"] (zU K) := by
 have aE := iV (P := P) (w := w) (base := base) T
 have cj := tH (P := P) (w := w) (base := base) T
 have sy := BV (P := P) (w := w) (base := base) T
 have jQ := B2 (P := P) (w := w) (base := base) T
 have jo := y0 (P := P) (base := base) T aT
 have ux := AF (P := P) (w := w) (base := base) T
 have dJ := Aj (P := P) (base := base) T aT
 have r9 := F7 (P := P) (w := w) (base := base) T
 have rT := GI (P := P) (w := w) (base := base) T
 have pO := E8 (P := P) (w := w) (base := base) T
 have pz := FT (P := P) (w := w) (base := base) T
 have PD := T.eC; have OZ := T.eE; have Pm := T.cT; have Pu := T.cg
 have m1 := T.iw; have m2 := T.iB; have m3 := T.fy; have m4 := T.eT
 refine T.AK.ok ow (fun vs H Q E h => ?_) (fun dk A outer s H vs Q E hr h => ?_)
 . obtain ⟨_, _, rfl, _⟩ := h; rfl
 . obtain ⟨l, ns, rfl, hl, hn, q⟩ := h
   refine ⟨_, (ai (by exact (cx (i := 1) ow.nd rfl (Or.inl rfl) (aG sy (hr.mono (by decide)) rfl T.kE T.kN (af (pv 0) ag))))
    (mG (by exact (bE (aA wN (aM bU (aG aE (hr.mono (by decide)) rfl T.ay T.az (af (pv 0) (af ah ag))) ah) ah (ax _))
     (aj (by exact (cx (i := 1) ow.nd rfl (Or.inl rfl) (aG jQ (hr.mono (by decide)) rfl T.eU T.eW (af (pv 1) (af (aG aE (hr.mono (by decide)) rfl T.ay T.az (af (pv 0) (af ah ag))) ag))))))
     aF))
    (mG (by exact (bE (PW.pt (vW (aA (aY hr.kR) (aM bU (aG aE (hr.mono (by decide)) rfl T.ay T.az (af (pv 0) (af ah ag))) ah) ah (ax _)) (sW (aA (vn hr.kR) (pv 1) (bz ag) (ax _)))))
     (aj (by exact (cx (i := 1) ow.nd rfl (Or.inl rfl) (aG jQ (hr.mono (by decide)) rfl T.eU T.eW (af (pv 1) (af (aG aE (hr.mono (by decide)) rfl T.ay T.az (af (pv 0) (af ah ag))) ag))))))
     aF))
    (ai (by exact (cx (i := 2) ow.nd rfl (Or.inl rfl) (qh PySem.F.plainAttrs_str PySem.F.slot_str_join PySem.F.type_str_join rR av (af (pv 1) ag))))
    (ai (by exact (cx (i := 3) ow.nd rfl (Or.inl rfl) (a8 cW (bz (af (aG cj (hr.mono (by decide)) rfl T.bM T.bN (af (aG aE (hr.mono (by decide)) rfl T.ay T.az (af (pv 0) (af ah ag))) ag)) (af nV (af (bz (af (pv 2) ag)) (af (pv 1) (af qy ag)))))) (aM bU (aG aE (hr.mono (by decide)) rfl T.ay T.az (af (pv 0) (af ah ag))) ah) (fun _ _ => rfl))))
    (ai (by exact (bE (nR (eF (aG jo (hr.mono (by decide)) rfl T.eV T.eM (af (pv 3) ag)) (fun _ => rfl)))
     (aj (aB qy))
     aF))
    (ai (by exact (bE (nR (eF (aG ux (hr.mono (by decide)) rfl T.mL T.nr (af (pv 2) ag)) (fun _ => rfl)))
     (aj (by exact (aB (aG jo (hr.mono (by decide)) rfl T.eV T.eM (af (pv 2) ag)))))
     aF))
    (aj (by exact (aB (dy (aY hr.kR) (vZ (nI (mU dJ (hr.mono (by decide)) rfl T.de T.df se (af (pv 2) ag)) T.eC T.iw r9 (hr.mono (by decide))) (vZ (nI (mU dJ (hr.mono (by decide)) rfl T.de T.df se (af (pv 2) ag)) T.eE T.iB rT (hr.mono (by decide))) (vZ (nI (mU dJ (hr.mono (by decide)) rfl T.de T.df se (af (pv 2) ag)) T.cT T.fy pO (hr.mono (by decide))) (nI (mU dJ (hr.mono (by decide)) rfl T.de T.df se (af (pv 2) ag)) T.cg T.eT pz (hr.mono (by decide)))))) (pv 2) (ax _)))))))))))), ?_⟩
   repeat' (walk_at "rd1")
   refine HV hl (fun p1 H1 ws s1 n1 yN j6 Pl Mu => ?_)
   repeat' (walk_at "rd1")
   refine sk (fun σ' H' => ∃ p zs, ao H H' /\ dn H' p (zs.map PyData.str) /\ zs.length <= 7 /\ ej zs /\ σ' = [some (.ref l), some (.ref p), none, none]) ?_ ?_
   . repeat' (walk_at "rd1")
     . refine D1 yN j6 (by omega) Mu (fun r H2 zs s2 n2 Mr Ln GZ => ?_)
       repeat' (walk_at "rd1")
       exact ⟨_, _, s1.trans s2, Mr, by omega, GZ, rfl⟩
     . exact ⟨_, _, s1, yN, by omega, Mu, rfl⟩
   rintro σ' H2 ⟨p2, zs, s2, Jg, Ln, GZ, rfl⟩
   have N2 := ao.seq s2 hl
   refine sk (fun σ' H' => ∃ p zs, ao H H' /\ dn H' p (zs.map PyData.str) /\ zs.length <= 8 /\ ej zs /\ σ' = [some (.ref l), some (.ref p), none, none]) ?_ ?_
   . repeat' (walk_at "rd1")
     . rename_i p4 H4 s4 n4 MD
       refine zI (Jg.keeps s4).dv MD.dv GZ ?_
       repeat' (walk_at "rd1")
       . rename_i b4
         have LQ : zs ≠ [] := fun z => by rw [z] at b4; simp at b4
         refine D1 (Jg.keeps s4) LQ (by omega) GZ (fun r H5 ys s5 n5 N0 Pz OB => ?_)
         repeat' (walk_at "rd1")
         exact ⟨_, _, (s2.trans s4).trans s5, N0, by omega, OB, rfl⟩
       . exact ⟨_, _, s2.trans s4, Jg.keeps s4, by omega, GZ, rfl⟩
     . exact ⟨_, _, s2, Jg, by omega, GZ, rfl⟩
   rintro σ' H3 ⟨p3, ys, s3, MJ, Nr, MF, rfl⟩
   have NQ := ao.seq s3 hl
   repeat' (walk_at "rd1")
   refine sP MJ.dv ?_ ?_
   . have h1 := vz MF
     have e1 : (Str.ofString " ").length = 1 := by decide +kernel
     rw [e1]
     omega
   have A7 := AX MF Nr
   generalize Txt.join (Str.ofString " ") ys = tx at *
   have Ph := A7.1
   repeat' (walk_at "rd1")
   rename_i p5 H5 s5 n5 NZ OS Ht i0 i1
   have O6 : ao H3 H5 := by walk_at "same"
   refine sE Ht i0 (by simp only [List.length_cons, List.length_nil]; omega) (fun d hd x hx => ?_)
   have F3 : ∀ y, ¬ d = .str y := by
    simp only [List.mem_cons, List.not_mem_nil, or_false] at hd
    rcases hd with rfl | rfl | rfl | rfl | rfl <;> (intro y z; cases z)
   clear NZ OS Ht hd
   repeat' (walk_at "rd1")
   refine zX hx (fun y e => absurd e (F3 y)) (fun ⟨y, e, _⟩ => F3 y e) (fun H6 s6 => ?_)
   repeat' (walk_at "rd1")
   refine EJ A7 (fun H7 b s7 hb => ?_)
   cases b with
   | false =>
     have NY : ¬ GoodW (Txt.split tx (Str.ofString " ")) := fun z => by cases hb.mpr z
     repeat' (walk_at "rd1")
     refine zX (.str tx) (fun y e => by cases e; exact A7) (fun ⟨y, e, z⟩ => by cases e; exact NY z) (fun H8 s8 => ?_)
     repeat' (walk_at "rd1")
     exact q _
   | true =>
     have hg := hb.mp rfl
     have tO := x3 (x := tx)
     repeat' ((fail_if_success (with_reducible refine oX ?_)); walk_at "rd1")
     have OH := hg
     obtain ⟨kd, us, pZ, ho⟩ := OH
     generalize JW : Txt.split tx (Str.ofString " ") = Pw at pZ tO
     cases pZ with
     | @once w1 w2 i1 i2 a1 a2 =>
       rw [wu] at ho
       simp only [Be, Bool.and_eq_true, decide_eq_true_eq] at ho
       obtain ⟨o1, o2⟩ := ho
       obtain ⟨e1, b1⟩ := eZ a1 o1
       obtain ⟨e2, b2⟩ := eZ a2 (by omega)
       have K2 : 0 <= i1 /\ i1 < 10 ^ 64 /\ 0 <= i2 /\ i2 < 10 ^ 64 := ⟨o1, b1, by omega, b2⟩
       have qo : pw (Str.ofString "once") [.int i1, .int i2] = tx := by rw [<- tO, e1, e2]; rfl
       with_reducible refine wy ?_
       repeat' (walk_at "rd1")
       refine zJ (.str tx) (fun y e => by cases e; exact A7) (fun hn => absurd ⟨_, rfl, hg⟩ hn) (fun y Kc JS ed qq oZ v' H8 s8 hi => ?_)
       cases ed
       rw [JW] at qq
       obtain ⟨rfl, rfl⟩ := (qE.det (.once a1 a2) qq)
       rw [DF] at hi
       simp only [ql] at hi
       repeat' (walk_at "rd1")
       rw [qo]
       simp only [decide_true, id]
       exact q _
     | @each w1 w2 w3 w4 i1 i2 i3 mm a1 a2 a3 a4 =>
       rw [wY] at ho
       simp only [ym, Bool.and_eq_true, decide_eq_true_eq] at ho
       obtain ⟨o1, o2, o3, o4, o5⟩ := ho
       obtain ⟨e1, b1⟩ := eZ a1 o1
       obtain ⟨e2, b2⟩ := eZ a2 (by omega)
       obtain ⟨e3, b3⟩ := eZ a3 o3
       obtain ⟨e4, hm⟩ := wk a4 o5
       have K2 : 0 <= i1 /\ i1 < 10 ^ 64 /\ 0 <= i2 /\ i2 < 10 ^ 64 /\ 0 <= i3 /\ i3 < 10 ^ 64 := ⟨o1, b1, by omega, b2, o3, b3⟩
       have qo : pw (Str.ofString "each") [.int i1, .int i2, .int i3, mD mm] = tx := by rw [<- tO, e1, e2, e3, e4]; rfl
       with_reducible refine oX ?_
       with_reducible refine wy ?_
       repeat' (walk_at "rd1")
       refine zJ (.str tx) (fun y e => by cases e; exact A7) (fun hn => absurd ⟨_, rfl, hg⟩ hn) (fun y Kc JS ed qq oZ v' H8 s8 hi => ?_)
       cases ed
       rw [JW] at qq
       obtain ⟨rfl, rfl⟩ := (qE.det (.each a1 a2 a3 a4) qq)
       rw [z9] at hi
       simp only [pR] at hi
       repeat' (walk_at "rd1")
       rw [qo]
       simp only [decide_true, id]
       exact q _
     | @behind w1 w2 w3 w4 i1 i2 i3 mm a1 a2 a3 a4 =>
       rw [wU] at ho
       simp only [uS, Bool.and_eq_true, decide_eq_true_eq] at ho
       obtain ⟨o1, o2, o3, o5⟩ := ho
       obtain ⟨e1, b1⟩ := eZ a1 o1
       obtain ⟨e2, b2⟩ := eZ a2 (by omega)
       obtain ⟨e3, b3⟩ := eZ a3 o3
       obtain ⟨e4, hm⟩ := wk a4 o5
       have K2 : 0 <= i1 /\ i1 < 10 ^ 64 /\ 0 <= i2 /\ i2 < 10 ^ 64 /\ 0 <= i3 /\ i3 < 10 ^ 64 := ⟨o1, b1, by omega, b2, o3, b3⟩
       have qo : pw (Str.ofString "behind") [.int i1, .int i2, .int i3, mD mm] = tx := by rw [<- tO, e1, e2, e3, e4]; rfl
       with_reducible refine oX ?_
       with_reducible refine oX ?_
       with_reducible refine wy ?_
       repeat' (walk_at "rd1")
       refine zJ (.str tx) (fun y e => by cases e; exact A7) (fun hn => absurd ⟨_, rfl, hg⟩ hn) (fun y Kc JS ed qq oZ v' H8 s8 hi => ?_)
       cases ed
       rw [JW] at qq
       obtain ⟨rfl, rfl⟩ := (qE.det (.behind a1 a2 a3 a4) qq)
       rw [yX] at hi
       simp only [gm] at hi
       repeat' (walk_at "rd1")
       rw [qo]
       simp only [decide_true, id]
       exact q _
     | @jw w1 w2 w3 w4 w5 i1 i2 i3 i4 mm a1 a2 a3 a4 a5 =>
       rw [w9] at ho
       simp only [Ba, Bool.and_eq_true, decide_eq_true_eq] at ho
       obtain ⟨o1, o2, o3, o5, o4⟩ := ho
       obtain ⟨e1, b1⟩ := eZ a1 o1
       obtain ⟨e2, b2⟩ := eZ a2 (by omega)
       obtain ⟨e3, b3⟩ := eZ a3 (by omega)
       obtain ⟨e4, b4⟩ := eZ a4 o3
       obtain ⟨e5, hm⟩ := wk a5 o5
       have K2 : 0 <= i1 /\ i1 < 10 ^ 64 /\ 0 <= i2 /\ i2 < 10 ^ 64 /\ 0 <= i3 /\ i3 < 10 ^ 64 /\ 0 <= i4 /\ i4 < 10 ^ 64 := ⟨o1, b1, by omega, b2, by omega, b3, o3, b4⟩
       have qo : pw (Str.ofString "slowing") [.int i1, .int i2, .int i3, .int i4, mD mm] = tx := by rw [<- tO, e1, e2, e3, e4, e5]; rfl
       with_reducible refine oX ?_
       with_reducible refine oX ?_
       with_reducible refine oX ?_
       repeat' (walk_at "rd1")
       refine zJ (.str tx) (fun y e => by cases e; exact A7) (fun hn => absurd ⟨_, rfl, hg⟩ hn) (fun y Kc JS ed qq oZ v' H8 s8 hi => ?_)
       cases ed
       rw [JW] at qq
       obtain ⟨rfl, rfl⟩ := (qE.det (.jw a1 a2 a3 a4 a5) qq)
       rw [A6] at hi
       simp only [fF] at hi
       repeat' (walk_at "rd1")
       rw [qo]
       simp only [decide_true, id]
       exact q _
end
end My
open PySem PySem.W PyProof.Rows
local macro_rules | `(tactic| walk_at "k_dg") => `(tactic| (refine' ⟨?a, ⟨_, L2.xh ?l ?c⟩, ?k⟩; (case a => k_is); (case l => k_is); (case c => k_is); (case k => k_is)))
local macro_rules | `(tactic| walk_at "k_dm") => `(tactic| (refine' ⟨?a, ⟨_, L2.xh ?l ?c⟩, ?k, ?i⟩; (case a => k_is); (case l => k_is); (case c => k_is); (case k => k_is); (case i => k_is)))
local macro_rules | `(tactic| walk_at "k_dt") => `(tactic| (refine' My.BP ?l; (case l => k_is)))
local macro_rules | `(tactic| walk_at "k_ck") => `(tactic| (refine' ⟨?a, ?b, ?c, ?d, ?e, ?f, ?g⟩; (case a => k_is); (case b => k_is); (case c => k_is); (case d => k_is); (case e => k_is); (case f => k_is); (case g => k_is)))
theorem PySem.W.Fast.tw5901380773691174992 : True := trivial
theorem PySem.W.Fast.tw9066644274189400370 : True := trivial
theorem PySem.W.Fast.tw9073455084446072394 : True := trivial
theorem PySem.W.Fast.tw14913057877548836175 : True := trivial
theorem PySem.W.Fast.tw7739251087341806355 : True := trivial
theorem PySem.W.Fast.tw2915355735860325614 : True := trivial
theorem PySem.W.Fast.tw17706590598619627915 : True := trivial
theorem PySem.W.Fast.tw3672352669011612280 : True := trivial
theorem PySem.W.Fast.tw2411822159965402122 : True := trivial
theorem PySem.W.Fast.tw17886231327388124569 : True := trivial
theorem PySem.W.Fast.tw13275280597415816255 : True := trivial
theorem PySem.W.Fast.tw9299590636440498109 : True := trivial
theorem PySem.W.Fast.tw2826235916477670552 : True := trivial
set_option maxRecDepth 100000 in
set_option maxHeartbeats 0 in
theorem PySem.Challenge.cw_wakefew_k74_words_that_are_no_rule_holds : PySem.Challenge.rw_wakefew_k74_words_that_are_no_rule.Holds := by
 w_on; o_law; k_head; (case hw => w_witness2)
 k_fill
 refine L2.yQ (l := PySem.Challenge.rw_wakefew_k74_words_that_are_no_rule) (n := 63) (k := 30) (x := "_law_script") (CX := L2.qM) (sp := My.zU) rfl (by decide) rfl ⟨rfl, by decide, by decide⟩ (fun w h Y => PySem.W.kIn_of Y) ?F ?S ?C
 case F =>
  intro w mg fa h KX G Jp
  have T : ∃ a : My.Ad, a.ll = a.ll /\ My.Txt (L2.JM KX) mg a := by
   dsimp only [L2.JM]
   refine' My.EF KX G ?h0 ?h1 ?h2 ?h3 ?h4 ?h5 ?h6 ?h7 ?h8 ?h9 ?h10 ?h11 ?h12 ?h13 ?h14 ?h15 ?h16 ?h17 ?h18 ?h19 ?h20 ?h21 ?h22 ?h23 ?h24 ?h25 ?h26 ?h27 ?h28 ?h29 ?h30 ?h31 ?h32 ?h33 ?h34 ?h35 ?h36 ?h37 ?h38 ?h39 ?h40 ?h41 ?h42 ?h43 ?h47 ?h48 ?h49 ?h50 ?h51 ?h52 ?h53 ?h54 ?h55 ?h56 ?h57 ?h58 ?h59 ?h60 ?h61 ?h62 ?h63 ?h64 ?h65 ?h66 ?h67 ?h68 ?h69 ?h70 ?h71 ?h72 ?h73 ?h74 ?h76 ?h77 ?h78 ?h79 ?h80 ?h81 ?h82 ?h83 ?h84 ?h95 ?h99 ?h100 ?h101 ?h102 ?h103 ?h105 ?h106 ?h107 ?h108 ?h109 ?h110 ?h111 ?h112 ?h113 ?h114 ?h115 ?h116 ?h117 ?h118 ?h119 ?h120 ?h121 ?h122 ?h123 ?h124 ?h125 ?h126
   (case h0 => k_is)
   (case h1 => k_is)
   (case h2 => k_is)
   (case h3 => k_is)
   (case h4 => k_is)
   (case h5 => k_is)
   (case h6 => k_is)
   (case h7 => k_is)
   (case h8 => k_is)
   (case h9 => k_is)
   (case h10 => k_is)
   (case h11 => walk_at "k_dg")
   (case h12 => walk_at "k_dg")
   (case h13 => walk_at "k_dg")
   (case h14 => walk_at "k_dg")
   (case h15 => walk_at "k_dg")
   (case h16 => walk_at "k_dm")
   (case h17 => walk_at "k_dm")
   (case h18 => walk_at "k_dt")
   (case h19 => walk_at "k_dm")
   (case h20 => walk_at "k_dm")
   (case h21 => walk_at "k_dt")
   (case h22 => walk_at "k_dm")
   (case h23 => walk_at "k_dm")
   (case h24 => walk_at "k_dt")
   (case h25 => walk_at "k_dm")
   (case h26 => walk_at "k_dm")
   (case h27 => walk_at "k_dt")
   (case h28 => walk_at "k_dm")
   (case h29 => walk_at "k_dg")
   (case h30 => walk_at "k_dg")
   (case h31 => walk_at "k_dg")
   (case h32 => walk_at "k_dg")
   (case h33 => walk_at "k_dg")
   (case h34 => walk_at "k_dg")
   (case h35 => walk_at "k_dg")
   (case h36 => walk_at "k_dg")
   (case h37 => walk_at "k_dg")
   (case h38 => walk_at "k_dg")
   (case h39 => walk_at "k_dg")
   (case h40 => walk_at "k_dg")
   (case h41 => walk_at "k_dg")
   (case h42 => walk_at "k_dg")
   (case h43 => walk_at "k_dg")
   (case h47 => walk_at "k_ck")
   (case h48 => k_is)
   (case h49 => k_is)
   (case h50 => k_is)
   (case h51 => k_is)
   (case h52 => k_is)
   (case h53 => walk_at "k_ck")
   (case h54 => k_is)
   (case h55 => k_is)
   (case h56 => k_is)
   (case h57 => k_is)
   (case h58 => k_is)
   (case h59 => k_is)
   (case h60 => walk_at "k_ck")
   (case h61 => k_is)
   (case h62 => k_is)
   (case h63 => k_is)
   (case h64 => k_is)
   (case h65 => k_is)
   (case h66 => k_is)
   (case h67 => walk_at "k_ck")
   (case h68 => k_is)
   (case h69 => k_is)
   (case h70 => k_is)
   (case h71 => k_is)
   (case h72 => k_is)
   (case h73 => k_is)
   (case h74 => k_is)
   (case h76 => k_is)
   (case h77 => k_is)
   (case h78 => k_exc)
   (case h79 => k_is)
   (case h80 => k_is)
   (case h81 => k_exc)
   (case h82 => k_is)
   (case h83 => k_is)
   (case h84 => k_exc)
   (case h95 => k_is)
   (case h99 => k_is)
   (case h100 => k_is)
   (case h101 => k_is)
   (case h102 => k_is)
   (case h103 => k_is)
   (case h105 => k_is)
   (case h106 => decide)
   (case h107 => k_is)
   (case h108 => decide)
   (case h109 => k_is)
   (case h110 => k_is)
   (case h111 => k_is)
   (case h112 => k_is)
   (case h113 => k_is)
   (case h114 => k_is)
   (case h115 => k_is)
   (case h116 => k_is)
   (case h117 => k_is)
   (case h118 => k_is)
   (case h119 => k_is)
   (case h120 => k_is)
   (case h121 => k_is)
   (case h122 => k_is)
   (case h123 => k_is)
   (case h124 => k_is)
   (case h125 => k_is)
   (case h126 => k_is)
  obtain ⟨a, _, T⟩ := T
  have e0 := Jp.symm.trans T.zm
  cases e0
  have gd : ∃ A, mg "LENGTHS" = some (.ref A) /\ L2.gK w (L2.JM KX) A My.a9 := by
   dsimp only [L2.JM]
   refine' L2.Ij KX G ?h0 ?h1 ?h2 ?h3 (by decide +kernel)
   (case h0 => k_is)
   (case h1 => k_is)
   (case h2 => decide)
   (case h3 => exact (.cons _ _ _ _ (.cons _ _ _ _ (.cons _ _ _ _ (.cons _ _ _ _ .nil)))))
  obtain ⟨A, eA, gd⟩ := gd
  have e1 := eA.symm.trans T.ie
  cases e1
  exact ⟨a.sV, fun s u => My.yu T s u, fun base kb nb => (My.GH T gd).mono (by decide)⟩
 case S => exact fun K H l ns hl hO hS => ⟨l, ns, rfl, hS, hl, fun _ => rfl⟩
 case C => exact fun H s e s' h => h
