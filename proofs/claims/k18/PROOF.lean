import PyProof.Rows.All
import Wide.All
import OpenK.AllK
import Wide.FinOn
import Lean
import PyProof.EqAt
import PyProof.EqKinds
import PyProof.TupleCall
import PyProof.StrLawsRepr
import PySem.Challenge.RW_wakefew_k18_whole_wheels_tell_as_a_row
set_option compiler.extract_closed false
set_option Elab.async false
set_option linter.all false
set_option maxRecDepth 100000
namespace L2
open PySem PySem.Spec PyProof.Rows
abbrev Key := Sum Int Str
def w6 : Key -> Value -> Bool
 | .inl k, v => Value.isInt k v
 | .inr x, v => Value.isStrOf x v
def abw (w : World) : Key -> Int
 | .inl k => hashInt k
 | .inr x => hashStr w x
theorem cA : ∀ {k : Key} {v : Value}, w6 k v = true -> (∃ i t, k = Sum.inl i /\ v = Value.int i t) \/ (∃ x t, k = Sum.inr x /\ v = Value.str x t)
 | .inl i, v, h => by
   obtain ⟨t, e⟩ := Value.isInt_shape (k := i) (v := v) h
   exact .inl ⟨i, t, rfl, e⟩
 | .inr x, v, h => by
   obtain ⟨t, e⟩ := Value.isStrOf_shape (x := x) (v := v) h
   exact .inr ⟨x, t, rfl, e⟩
theorem Im (i : Int) (t : Tok) : w6 (.inl i) (.int i t) = true := by simp [w6, Value.isInt]
theorem HY (x : Str) (t : Tok) : w6 (.inr x) (.str x t) = true := by simp [w6, Value.isStrOf]
theorem Uq (a b : Int) : decide ((Sum.inl a : Key) = Sum.inl b) = (a == b) := by
 by_cases e : a = b
 . subst e; simp
 . have h : ¬ (Sum.inl a : Key) = Sum.inl b := fun q => e (Sum.inl.inj q)
   rw [decide_eq_false h]
   exact (beq_eq_false_iff_ne.mpr e).symm
theorem Sw (a b : Str) : decide ((Sum.inr a : Key) = Sum.inr b) = decide (a = b) := by
 by_cases e : a = b
 . subst e; simp
 . have h : ¬ (Sum.inr a : Key) = Sum.inr b := fun q => e (Sum.inr.inj q)
   rw [decide_eq_false h, decide_eq_false e]
theorem R3 (a : Int) (b : Str) : decide ((Sum.inl a : Key) = Sum.inr b) = false := decide_eq_false (fun q => nomatch q)
theorem RO (a : Str) (b : Int) : decide ((Sum.inr a : Key) = Sum.inl b) = false := decide_eq_false (fun q => nomatch q)
def aY (prog : Program) (w : World) : PySem.KeyKind prog w Key where
 is := w6
 hash := abw w
 inj := fun v a b ha hb => by
  rcases cA ha with ⟨i, t, rfl, rfl⟩ | ⟨x, t, rfl, rfl⟩
  . rcases cA hb with ⟨j, u, rfl, e⟩ | ⟨y, u, rfl, e⟩
    . injection e with e1 _; rw [e1]
    . exact nomatch e
  . rcases cA hb with ⟨j, u, rfl, e⟩ | ⟨y, u, rfl, e⟩
    . exact nomatch e
    . injection e with e1 _; rw [e1]
 byValue := fun k v h => by
  rcases cA h with ⟨i, t, rfl, rfl⟩ | ⟨x, t, rfl, rfl⟩ <;> rfl
 pyHash := fun hv h => by
  rcases cA hv with ⟨i, t, rfl, rfl⟩ | ⟨x, t, rfl, rfl⟩
  . exact wpAny_pyHash_int h
  . exact wpAny_pyHash_str h
 eqBool := fun hu hv h => by
  rcases cA hu with ⟨i, t, rfl, rfl⟩ | ⟨x, t, rfl, rfl⟩
  . rcases cA hv with ⟨j, u, rfl, rfl⟩ | ⟨y, u, rfl, rfl⟩
    . rw [Uq] at h; exact wpAny_eqBool_int h
    . rw [R3] at h; exact SeqAt.EqAt.int_str i t y u _ _ _ _ h
  . rcases cA hv with ⟨j, u, rfl, rfl⟩ | ⟨y, u, rfl, rfl⟩
    . rw [RO] at h; exact SeqAt.EqAt.str_int x t j u _ _ _ _ h
    . rw [Sw] at h; exact wpAny_eqBool_str h
 «strs» := fun k x t v h => by
  rcases cA h with ⟨i, u, rfl, e⟩ | ⟨y, u, rfl, e⟩
  . exact nomatch e
  . injection e with e1 _
    subst e1
    cases v <;> rfl
theorem Cq (prog : Program) (w : World) (i : Int) (t : Tok) : (aY prog w).is (.inl i) (.int i t) = true := Im i t
theorem Dw (prog : Program) (w : World) (x : Str) (t : Tok) : (aY prog w).is (.inr x) (.str x t) = true := HY x t
inductive V where
 | bG | bl (b : Bool) | int (i : Int) | str (x : Str) | FX (b : Array UInt8) | Uu (b : UInt64) | ref (a : Addr) | ty (n : String)
 deriving DecidableEq
def RelV : V -> Value -> Prop
 | .bG, u => u = Value.none
 | .bl b, u => u = Value.bool b
 | .int i, u => ∃ t, u = Value.int i t
 | .str x, u => ∃ t, u = Value.str x t
 | .FX b, u => ∃ t, u = Value.bytes b t
 | .Uu b, u => ∃ t, u = Value.float b t
 | .ref a, u => u = Value.ref a
 | .ty n, u => u = Value.type n
abbrev Vals : List V -> List Value -> Prop := Paired RelV
theorem Vals.length {xs : List V} {us : List Value} (r : Vals xs us) : xs.length = us.length := Paired.length r
theorem Vals.get : ∀ {xs : List V} {us : List Value} {i : Nat} {x : V}, Vals xs us -> xs[i]? = some x -> ∃ u, us[i]? = some u /\ RelV x u
 | _, _, _, _, .nil, e => by simp at e
 | _, _, 0, _, .cons r _, e => by simp at e; subst e; exact ⟨_, rfl, r⟩
 | _, _, i + 1, x, .cons _ t, e => by
   obtain ⟨u, h1, h2⟩ := Vals.get (i := i) (x := x) t (by simpa using e)
   exact ⟨u, by simpa using h1, h2⟩
theorem Vals.set {x : V} {u : Value} (r : RelV x u) : ∀ {xs : List V} {us : List Value} (i : Nat), Vals xs us -> Vals (xs.set i x) (us.set i u)
 | _, _, _, .nil => .nil
 | _, _, 0, .cons _ t => .cons r t
 | _, _, i + 1, .cons q t => .cons q (Vals.set r i t)
theorem Vals.append : ∀ {xs ys : List V} {us ws : List Value}, Vals xs us -> Vals ys ws -> Vals (xs ++ ys) (us ++ ws)
 | _, _, _, _, .nil, s => s
 | _, _, _, _, .cons r t, s => .cons r (Vals.append t s)
theorem Vals.take : ∀ {xs : List V} {us : List Value} (n : Nat), Vals xs us -> Vals (xs.take n) (us.take n)
 | _, _, 0, _ => .nil
 | _, _, _ + 1, .nil => .nil
 | _, _, n + 1, .cons r t => .cons r (Vals.take n t)
theorem Vals.drop : ∀ {xs : List V} {us : List Value} (n : Nat), Vals xs us -> Vals (xs.drop n) (us.drop n)
 | _, _, 0, r => r
 | _, _, _ + 1, .nil => .nil
 | _, _, n + 1, .cons _ t => Vals.drop n t
def kE : Option V -> Option Value -> Prop
 | some v, some u => RelV v u
 | none, none => True
 | _, _ => False
def KV {κ : Type} : List (κ × V) -> List (κ × Value) -> Prop := Paired fun (p : κ × V) (q : κ × Value) => p.1 = q.1 /\ RelV p.2 q.2
def kV : Key -> V
 | .inl i => .int i
 | .inr x => .str x
inductive HO where
 | lst (xs : List V)
 | tup (xs : List V)
 | dK (ax : List (Key × V)) | dT (ax : List (List Key × V))
 | set (S : Int -> Bool) (n : Nat)
 | ins (C dx : Addr) (fs : List (Str × V))
 | own (x : Addr)
 | xd (fs : List (Str × V))
 | met (f x : Addr)
 | YJ (lo hi : Int)
 | n8 (o : Obj) (u : HO)
 | Qq (ps : Array Value)
 | ext (φ : Heap -> Prop)
abbrev Hp := Addr -> Option HO
def upd (H : Hp) (a : Addr) (o : HO) : Hp := fun b => if b = a then some o else H b
theorem au {H : Hp} {a : Addr} {o : HO} : upd H a o a = some o := by unfold upd; rw [if_pos rfl]
theorem aw {H : Hp} {a b : Addr} {o : HO} (h : b ≠ a) : upd H a o b = H b := by unfold upd; rw [if_neg h]
theorem Bd {H : Hp} {a : Addr} {o u : HO} : upd (upd H a o) a u = upd H a u := by
 funext b; unfold upd; split <;> rfl
theorem kL {H : Hp} {a b : Addr} {o u : HO} (h : H a = some o) (h' : H b = some u) (d : o ≠ u) : a ≠ b := by
 intro e; subst e; rw [h] at h'; exact d (Option.some.inj h')
theorem aG {H : Hp} {a b : Addr} {o : HO} (h : H a = some o) (h' : H b = none) : a ≠ b := by
 intro e; subst e; rw [h] at h'; cases h'
section
variable (P : Program) (w : World)
def bI (H : Hp) (h : Heap) (a : Addr) : HO -> Prop
 | .lst xs => xs.length <= sizeLine /\ ∃ (bb : List Value) (n : Nat), Vals xs bb /\ h.get? a = some { cls := .type "list", data := .seq bb.toArray n }
 | .tup xs => xs.length <= sizeLine /\ ∃ bb : List Value, Vals xs bb /\ IsTup h a bb.toArray
 | .dK ax => ax.length <= sizeLine /\ (a == sysModules) = false /\ ∃ vs, KV ax vs /\ h.DictOf (aY P w) a vs
 | .dT ax => ax.length <= sizeLine /\ (a == sysModules) = false /\ ∃ xs : List (List Key × Addr × Value),
  Paired (fun (p : List Key × V) (q : List Key × Addr × Value) => p.1 = q.1 /\ H q.2.1 = some (.tup (p.1.map kV)) /\ RelV p.2 q.2.2) ax xs /\
  ∃ o es ep, h.get? a = some o /\ o.ExactDict /\ o.data = .dict es ep /\ es.toList = xs.map (entryOfKey (tupleKind (aY P w))) /\ (xs.map (·.1)).Nodup
 | .set S n => h.SetOf (intKind P w) a S n
 | .ins C dx fs => H dx = some (.own a) /\ fs.length <= 1000 /\ dx ≠ a /\ h.get? a = some (PySem.W.instObj C dx) /\
  ∃ mA, h.Ns1 dx mA /\ (∀ f, kE (fs.lookup f) (mA f)) /\ PySem.Within mA (fs.map (·.1))
 | .own _ => ∃ o, h.get? a = some o
 | .xd fs => ∃ mA, h.Ns1 a mA /\ ∀ f, kE (fs.lookup f) (mA f)
 | .YJ lo hi => ∃ t u v, h.get? a = some { cls := .type "range", data := .fields #[.int lo t, .int hi u, .int 1 v] }
 | .n8 o u => h.get? a = some o /\ bI H h a u
 | .Qq ps => h.get? a = some { cls := .none, data := .fields ps }
 | .met f x => h.get? a = some (PySem.W.methodObj (.ref f) (.ref x))
 | .ext φ => φ h /\ (∃ o, h.get? a = some o) /\ ∀ h1 h2 : Heap, φ h1 -> (∀ o, h1.get? a = some o -> h2.get? a = some o) -> φ h2
def k8 (H : Hp) (h : Heap) : Prop := ∀ a o, H a = some o -> bI P w H h a o
end
section
variable {P : Program} {w : World} {H H' : Hp} {h h' : Heap} {a : Addr} {o : HO}
theorem bI.lt (x : bI P w H h a o) : a < h.objs.size := by
 cases o with
 | lst xs => obtain ⟨_, _, _, _, e⟩ := x; exact Heap.lt_size e
 | tup xs => obtain ⟨_, _, _, p⟩ := x; exact p.lt
 | dK ax => obtain ⟨_, _, _, _, o, _, _, e, _⟩ := x; exact Heap.lt_size e
 | dT ax => obtain ⟨_, _, _, _, o, _, _, e, _⟩ := x; exact Heap.lt_size e
 | set S n => obtain ⟨o, _, _, _, e, _⟩ := x; exact Heap.lt_size e
 | ins C dx fs => obtain ⟨_, _, _, e, _⟩ := x; exact Heap.lt_size e
 | own y => obtain ⟨_, e⟩ := x; exact Heap.lt_size e
 | xd fs => obtain ⟨_, ⟨_, _, _, e, _⟩, _⟩ := x; exact Heap.lt_size e
 | YJ lo hi => obtain ⟨_, _, _, e⟩ := x; exact Heap.lt_size e
 | n8 ob u => obtain ⟨e, _⟩ := x; exact Heap.lt_size e
 | Qq ps => exact Heap.lt_size (show h.get? a = some _ from x)
 | met f y => exact Heap.lt_size (show h.get? a = some _ from x)
 | ext φ => obtain ⟨_, ⟨_, e⟩, _⟩ := x; exact Heap.lt_size e
theorem Paired.TH {α β : Type} {F G : α -> β -> Prop} : ∀ {l₁ : List α} {l₂ : List β}, Paired F l₁ l₂ -> (∀ a b, F a b -> G a b) -> Paired G l₁ l₂
 | _, _, .nil, _ => .nil
 | _, _, .cons r t, f => .cons (f _ _ r) (Paired.TH t f)
theorem bI.iF (x : bI P w H h a o) (k : ∀ b u, (b = a \/ H b = some (.own a)) -> h.get? b = some u -> h'.get? b = some u)
 (ho : ∀ b, H b = some (.own a) -> H' b = some (.own a)) (ht : ∀ b xs, H b = some (.tup xs) -> H' b = some (.tup xs)) : bI P w H' h' a o := by
 induction o with
 | lst xs => obtain ⟨z, bb, n, r, e⟩ := x; exact ⟨z, bb, n, r, k _ _ (.inl rfl) e⟩
 | tup xs => obtain ⟨z, bb, r, ob, e, c⟩ := x; exact ⟨z, bb, r, ob, k _ _ (.inl rfl) e, c⟩
 | dK ax => obtain ⟨z, y, vs, r, ob, es, ep, e, c⟩ := x; exact ⟨z, y, vs, r, ob, es, ep, k _ _ (.inl rfl) e, c⟩
 | dT ax =>
   obtain ⟨z, y, xs, r, ob, es, ep, e, c⟩ := x
   exact ⟨z, y, xs, Paired.TH r fun p q z => ⟨z.1, ht _ _ z.2.1, z.2.2⟩, ob, es, ep, k _ _ (.inl rfl) e, c⟩
 | set S n => obtain ⟨ob, es, ep, t, e, c⟩ := x; exact ⟨ob, es, ep, t, k _ _ (.inl rfl) e, c⟩
 | ins C dx fs =>
   obtain ⟨d, z, ne, e, mA, ⟨od, es, ep, e2, c⟩, r⟩ := x
   exact ⟨ho _ d, z, ne, k _ _ (.inl rfl) e, mA, ⟨od, es, ep, k _ _ (.inr d) e2, c⟩, r⟩
 | own y => obtain ⟨ob, e⟩ := x; exact ⟨ob, k _ _ (.inl rfl) e⟩
 | xd fs => obtain ⟨mA, ⟨od, es, ep, e, c⟩, r⟩ := x; exact ⟨mA, ⟨od, es, ep, k _ _ (.inl rfl) e, c⟩, r⟩
 | YJ lo hi => obtain ⟨t, u, v, e⟩ := x; exact ⟨t, u, v, k _ _ (.inl rfl) e⟩
 | n8 ob u ih => obtain ⟨e, q⟩ := x; exact ⟨k _ _ (.inl rfl) e, ih q⟩
 | Qq ps =>
   have e : h.get? a = some { cls := .none, data := .fields ps } := x
   show h'.get? a = some { cls := .none, data := .fields ps }
   exact k a _ (.inl rfl) e
 | met f y =>
   have e : h.get? a = some (PySem.W.methodObj (.ref f) (.ref y)) := x
   show h'.get? a = some (PySem.W.methodObj (.ref f) (.ref y))
   exact k a _ (.inl rfl) e
 | ext φ => obtain ⟨p, ⟨o, e⟩, st⟩ := x; exact ⟨st _ _ p fun o q => k _ _ (.inl rfl) q, ⟨o, k _ _ (.inl rfl) e⟩, st⟩
theorem k8.lt (x : k8 P w H h) (e : H a = some o) : a < h.objs.size := (x a o e).lt
theorem k8.fresh (x : k8 P w H h) (e : h.objs.size <= a) : H a = none := by
 cases q : H a with
 | none => rfl
 | some u => exact absurd (Nat.lt_of_lt_of_le (x.lt q) e) (Nat.lt_irrefl _)
theorem k8.kept (x : k8 P w H h) (k : ∀ b u, h.get? b = some u -> h'.get? b = some u) : k8 P w H h' := fun a o e =>
 (x a o e).iF (fun b u _ q => k b u q) (fun _ q => q) fun _ _ q => q
theorem k8.laid (x : k8 P w H h) (k : ∀ b u, h.get? b = some u -> h'.get? b = some u) (hp : h.objs.size <= a) (new : bI P w (upd H a o) h' a o) : k8 P w (upd H a o) h' := fun b u e => by
 have hn := x.fresh hp
 by_cases hb : b = a
 . subst hb; rw [au] at e; cases e; exact new
 . rw [aw hb] at e
   exact (x b u e).iF (fun c v _ q => k c v q) (fun c q => by rw [aw (aG q hn)]; exact q) fun c xs q => by rw [aw (aG q hn)]; exact q
end
def Rd (H : Hp) (a : Addr) (u : HO) : Prop := H a = some u \/ ∃ o, H a = some (.n8 o u)
theorem Rd.of {H : Hp} {a : Addr} {u : HO} (h : H a = some u) : Rd H a u := .inl h
theorem Rd.ok {P : Program} {w : World} {H : Hp} {h : Heap} {a : Addr} {u : HO} (r : Rd H a u) (x : k8 P w H h) : bI P w H h a u := by
 rcases r with r | ⟨o, r⟩
 . exact x a u r
 . obtain ⟨_, q⟩ := x a _ r
   exact q
def Wj : Option HO -> Prop
 | some (.lst _) => True
 | some (.dK _) => True
 | some (.dT _) => True
 | some (.set _ _) => True
 | some (.ins _ _ _) => True
 | some (.ext _) => True
 | _ => False
section
variable {P : Program} {w : World} {H : Hp} {h h' : Heap} {x e : Addr} {o' : HO}
theorem k8.write (ok : k8 P w H h) (mu : Wj (H x)) (he : e = x \/ H e = some (.own x)) (k : ∀ b u, b ≠ e -> h.get? b = some u -> h'.get? b = some u) (QA : ∃ u, h'.get? e = some u)
 (new : bI P w (upd H x o') h' x o') : k8 P w (upd H x o') h' := fun b u q => by
 have Wq : ∀ c y, H c = some (.own y) -> c ≠ x := fun c y r z => by subst z; rw [r] at mu; exact mu
 have aad : ∀ c xs, H c = some (.tup xs) -> c ≠ x := fun c xs r z => by subst z; rw [r] at mu; exact mu
 by_cases hb : b = x
 . subst hb; rw [au] at q; cases q; exact new
 . rw [aw hb] at q
   by_cases IL : b = e
   . have q' : H b = some (.own x) := by
      rcases he with z | z
      . exact absurd (IL.trans z) hb
      . rw [IL]; exact z
     rw [q] at q'; cases q'
     obtain ⟨v, hv⟩ := QA
     exact ⟨v, by rw [IL]; exact hv⟩
   . refine (ok b u q).iF (fun c v hc r => k c v ?_ r) (fun c r => by rw [aw (Wq c b r)]; exact r) fun c xs r => by rw [aw (aad c xs r)]; exact r
     rcases hc with rfl | hc
     . exact IL
     . rintro rfl
       rcases he with z | z
       . exact Wq c b hc z
       . rw [hc] at z; cases z; exact hb rfl
end
structure Un (fs ex : List Addr) (H H' : Hp) (h h' : Heap) : Prop where
 keep : ∀ b o, h.get? b = some o -> H b = none -> b ∉ fs -> b ∉ ex -> h'.get? b = some o
 slot : ∀ b o, h.get? b = some o -> H b = none -> b ∈ fs -> b ∉ ex -> ∃ sl, h'.get? b = some { o with slots := sl }
 free : ∀ b o, h.get? b = some o -> H b = none -> b ∉ ex -> H' b = none
 there : ∀ b o, h.get? b = some o -> b ∉ ex -> ∃ o', h'.get? b = some o'
 lS : ∀ b xs, H b = some (.tup xs) -> H' b = some (.tup xs)
 j7 : ∀ b o u, H b = some (.n8 o u) -> H' b = some (.n8 o u)
 pM : ∀ b ps, H b = some (.Qq ps) -> ∃ more, H' b = some (.Qq (ps ++ more))
section
variable {fs YR ex ex' : List Addr} {H H1 H2 : Hp} {h h1 h2 h' : Heap} {a x e : Addr} {o : HO}
theorem Un.any (u : Un fs ex H H1 h h1) {b : Addr} {ob : Obj} (q : h.get? b = some ob) (n : H b = none) (hx : b ∉ ex) : ∃ sl, h1.get? b = some { ob with slots := sl } := by
 by_cases hb : b ∈ fs
 . exact u.slot b ob q n hb hx
 . exact ⟨ob.slots, u.keep b ob q n hb hx⟩
theorem Un.kept (k : ∀ b u, h.get? b = some u -> h'.get? b = some u) : Un fs ex H H h h' :=
 ⟨fun b ob q _ _ _ => k b ob q, fun b ob q _ _ _ => ⟨ob.slots, k b ob q⟩, fun _ _ _ n _ => n, fun b ob q _ => ⟨ob, k b ob q⟩, fun _ _ q => q, fun _ _ _ q => q, fun _ ps q => ⟨#[], by rw [q]; simp⟩⟩
theorem Un.refl : Un fs ex H H h h := Un.kept fun _ _ q => q
theorem Un.laid (k : ∀ b u, h.get? b = some u -> h'.get? b = some u) (hp : h.objs.size <= a) (hn : H a = none) : Un fs ex H (upd H a o) h h' where
 keep := fun b u q _ _ _ => k b u q
 slot := fun b u q _ _ _ => ⟨u.slots, k b u q⟩
 free := fun b u q n _ => by rw [aw (Nat.ne_of_lt (Nat.lt_of_lt_of_le (Heap.lt_size q) hp))]; exact n
 there := fun b u q _ => ⟨u, k b u q⟩
 lS := fun b xs q => by rw [aw (aG q hn)]; exact q
 j7 := fun b u xs q => by rw [aw (aG q hn)]; exact q
 pM := fun b ps q => ⟨#[], by rw [aw (aG q hn), q]; simp⟩
theorem Un.write (mu : Wj (H x)) (he : e = x \/ H e = some (.own x)) (k : ∀ b u, b ≠ e -> h.get? b = some u -> h'.get? b = some u) (QA : ∃ u, h'.get? e = some u) : Un fs ex H (upd H x o) h h' := by
 have hx : ∀ b, H b = none -> b ≠ x := fun b n z => by subst z; rw [n] at mu; exact mu
 have hb : ∀ b, H b = none -> b ≠ e := fun b n z => by
  subst z
  rcases he with r | r
  . exact hx b n r
  . rw [n] at r; cases r
 have hm : ∀ b u, H b = some u -> ¬ Wj (some u) -> b ≠ x := fun b u q nm z => by subst z; rw [q] at mu; exact nm mu
 refine ⟨fun b u q n _ _ => k b u (hb b n) q, fun b u q n _ _ => ⟨u.slots, k b u (hb b n) q⟩, fun b u q n _ => by rw [aw (hx b n)]; exact n, fun b u q _ => ?_,
  fun b xs q => by rw [aw (hm b _ q fun z => z)]; exact q, fun b u xs q => by rw [aw (hm b _ q fun z => z)]; exact q, fun b ps q => ⟨#[], by rw [aw (hm b _ q fun z => z), q]; simp⟩⟩
 by_cases IL : b = e
 . subst IL; exact QA
 . exact ⟨u, k b u IL q⟩
end
def Y4 (h : Heap) (H : Hp) : List Addr := (List.range h.objs.size).filter fun a => (H a).isSome
def Ax (h : Heap) (H : Hp) : Heap := PySem.W.hideAll h (Y4 h H)
theorem Ie (h : Heap) (H : Hp) : (Ax h H).objs.size = h.objs.size := PySem.W.hideAll_size _ _
theorem Mi {h : Heap} {H : Hp} {b : Addr} {o : Obj} (e : h.get? b = some o) (n : H b = none) : (Ax h H).get? b = some o :=
 PySem.W.hideAll_get _ e fun hm => by
  have q : (H b).isSome = true := (List.mem_filter.mp hm).2
  rw [n] at q; simp at q
theorem N8 {h : Heap} {H : Hp} {b : Addr} {o : Obj} (e : (Ax h H).get? b = some o) : h.get? b = some o /\ H b = none := by
 have e' : h.get? b = some o := PySem.W.of_hideAll (Y4 h H) e
 refine ⟨e', ?_⟩
 cases q : H b with
 | none => rfl
 | some x =>
   have hm : b ∈ Y4 h H := List.mem_filter.mpr ⟨List.mem_range.mpr (Heap.lt_size e'), by simp [q]⟩
   have z : (Ax h H).get? b = none := PySem.W.hideAll_none (Y4 h H) hm
   rw [z] at e; cases e
def Nm (g h : Heap) (L : Addr) : List (Addr × Obj) := (List.range h.objs.size).filterMap fun a => if a = L \/ (g.get? a).isSome = true then none else (h.get? a).map fun o => (a, o)
def rest (g h : Heap) (L d : Addr) : List (Addr × Obj) := (Nm g h L).filter fun p => decide (p.1 ≠ d)
structure Mod (K : PySem.W.Frag) (mg : Str -> Option Value) (base : Heap) : Prop where
 MY : K.In base
 glob : base.Ns mainGlobals mg
 blt : ∃ mb, base.Ns builtinsNs mb /\ ∀ x : Str, x ≠ "__name__" -> mb x = bootBuiltins x
 nolimit : base.NoLimit
structure Cx where
 prog : Program
 w : World
 K : PySem.W.Frag
 mg : Str -> Option Value
 base : Heap
 A : Around
 N : List Str
 dM : Shared
 EX : Hp
 env : Env
 outer : List Env
 stack : List Env
 ex : List Addr
 fn : Str -> Bool
 calm : Bool
 pn : List (Addr × Obj)
 xe : Value -> Shared -> Prop
def yE (l : List Env) : List Addr := l.filterMap (·.frame)
abbrev Cx.fs (X : Cx) : List Addr := yE X.outer
def Vg (sc : Scope) (x : Str) : Prop := sc.names.lookup x = some .local \/ sc.names.lookup x = some .cell \/ sc.names.lookup x = some .free
def Loc (sc : Scope) (x : Str) : Prop := sc.names.lookup x = some .local \/ sc.names.lookup x = some .cell
def Look (env : Env) (h : Heap) (m : Str -> Option Value) (x : Str) (u : Value) : Prop :=
 (env.kindOf x = some .local /\ m x = some u) \/ ((env.kindOf x = some .cell \/ env.kindOf x = some .free) /\ ∃ c, env.cells.lookup x = some c /\ h.IsCell c (some u))
structure Cx.Ok (X : Cx) : Prop where
 mod : Mod X.K X.mg X.base
 kind : X.env.scope.kind = .function
 glob : X.env.globals = mainGlobals
 blt : X.env.builtins = builtinsNs
 above : X.dM.heap.objs.size <= X.env.locals
 inj : ∀ x y c, X.env.cells.lookup x = some c -> X.env.cells.lookup y = some c -> x = y
 has : ∀ x, (X.env.kindOf x = some .cell \/ X.env.kindOf x = some .free) -> ∃ c, X.env.cells.lookup x = some c
 Ov : ∀ x c, X.fn x = true -> X.env.cells.lookup x = some c -> X.dM.heap.objs.size <= c
 hd : X.calm = true -> X.A.handled = none
 frames : X.A.frames = some X.stack
 Q7 : X.stack = X.outer \/ (X.stack = X.env :: X.outer /\ X.env.frame = some X.env.locals)
 QP : ∀ b ∈ X.ex, b ≠ X.env.locals /\ ∀ x c, X.env.cells.lookup x = some c -> c ≠ b
 bs : ∀ b o, X.base.get? b = some o -> X.dM.heap.get? b = some o /\ X.EX b = none
 FZ : X.base.objs.size <= X.dM.heap.objs.size
 BG : ∀ b o, X.base.get? b = some o -> b ∉ X.ex
 Bh : ∀ b ∈ X.ex, b ∉ X.fs
 qq : X.dM.heap.FunFrames X.base X.outer
 Jc : ∀ b ∈ X.fs, X.EX b = none
structure Inv (X : Cx) (pins : List (Addr × Obj)) (σ : List (Option V)) (H : Hp) (s : Shared) : Prop where
 ok : X.Ok
 os : s.os = X.dM.os
 bare : AllBare s.gens
 base : Un X.fs X.ex X.EX H X.dM.heap s.heap
 loc : ∃ m, s.heap.Ns X.env.locals m /\ ∀ (i : Nat) (x : Str) (v : V), X.N[i]? = some x -> σ[i]? = some (some v) -> Vg X.env.scope x -> ∃ u, RelV v u /\ Look X.env s.heap m x u
 cell : ∀ x c, X.env.cells.lookup x = some c -> ∃ v, s.heap.IsCell c v
 free : H X.env.locals = none
 eG : ∀ x c, X.env.cells.lookup x = some c -> H c = none
 pin : ∀ p ∈ X.pn ++ pins, s.heap.get? p.1 = some p.2 /\ H p.1 = none /\ p.1 ≠ X.env.locals /\ p.1 ∉ X.fs /\ ∀ v, p.2.data ≠ .cell v
 aP : k8 X.prog X.w H s.heap
 len : σ.length = X.N.length
section
variable {X : Cx} {pins : List (Addr × Obj)} {σ : List (Option V)} {H H' : Hp} {s : Shared} {h' : Heap}
theorem Cx.Ok.abS (ok : X.Ok) {b : Addr} {o : Obj} (e : X.base.get? b = some o) : b ∉ X.fs := fun hb => by
 have := (ok.qq.mem hb).1
 rw [e] at this; cases this
theorem Inv.bs (I : Inv X pins σ H s) : ∀ b o, X.base.get? b = some o -> s.heap.get? b = some o /\ H b = none := fun b o e =>
 ⟨I.base.keep b o (I.ok.bs b o e).1 (I.ok.bs b o e).2 (I.ok.abS e) (I.ok.BG b o e), I.base.free b o (I.ok.bs b o e).1 (I.ok.bs b o e).2 (I.ok.BG b o e)⟩
theorem Inv.bk (I : Inv X pins σ H s) : ∀ b o, X.base.get? b = some o -> s.heap.get? b = some o := fun b o e => (I.bs b o e).1
theorem Inv.mod (I : Inv X pins σ H s) : Mod X.K X.mg X.base := I.ok.mod
theorem Inv.iB (I : Inv X pins σ H s) : X.K.In s.heap := I.ok.mod.MY.keeps I.bk
theorem Inv.fr (I : Inv X pins σ H s) : ∃ m, Fr X.base X.env.locals s.heap m :=
 let ⟨m, hn, _⟩ := I.loc
 ⟨m, hn, I.bk, Nat.le_trans I.ok.FZ I.ok.above⟩
theorem Inv.lt (I : Inv X pins σ H s) : X.env.locals < s.heap.objs.size := let ⟨_, hn, _⟩ := I.loc; hn.lt
theorem Inv.sz (I : Inv X pins σ H s) : X.dM.heap.objs.size <= s.heap.objs.size := Nat.le_trans I.ok.above (Nat.le_of_lt I.lt)
theorem Inv.aaG (I : Inv X pins σ H s) {a : Addr} (h : s.heap.objs.size <= a) : a ∉ X.fs := fun hb => by
 obtain ⟨_, o, ho, _⟩ := I.ok.qq.mem hb
 exact absurd (Nat.lt_of_lt_of_le (Heap.lt_size ho) (Nat.le_trans I.sz h)) (Nat.lt_irrefl _)
theorem Inv.Oz (I : Inv X pins σ H s) : ∀ x c, X.env.cells.lookup x = some c -> c ≠ X.env.locals := fun x c e z => by
 obtain ⟨v, o, ho, hd⟩ := I.cell x c e
 obtain ⟨m, ⟨o', es, ep, ME, lM, _⟩, _⟩ := I.loc
 rw [z, ME] at ho; cases ho; rw [lM] at hd; cases hd
theorem Inv.qq (I : Inv X pins σ H s) : s.heap.FunFrames X.base X.outer := by
 have all : ∀ (l : List Env), (∀ b ∈ yE l, b ∈ X.fs) -> X.dM.heap.FunFrames X.base l -> s.heap.FunFrames X.base l := by
  intro l
  induction l with
  | nil => intro _ _; trivial
  | cons env r ih =>
    intro hs hl
    obtain ⟨hk, ⟨L, o, hf, hn, ho, hd⟩, hr⟩ := hl
    have hL : L ∈ X.fs := hs L (by unfold yE; rw [List.filterMap_cons, hf]; exact List.mem_cons_self)
    obtain ⟨sl, e⟩ := I.base.slot L o ho (I.ok.Jc L hL) hL fun z => I.ok.Bh L z hL
    exact ⟨hk, ⟨L, _, hf, hn, e, hd⟩, ih (fun b hb => hs b (by unfold yE; rw [List.filterMap_cons, hf]; exact List.mem_cons_of_mem _ hb)) hr⟩
 exact all X.outer (fun _ hb => hb) I.ok.qq
theorem Inv.stack (I : Inv X pins σ H s) : s.heap.FunFrames X.base X.stack := by
 rcases I.ok.Q7 with e | ⟨e, hf⟩
 . rw [e]; exact I.qq
 . rw [e]
   obtain ⟨m, hn, _⟩ := I.loc
   refine .cons (by rw [I.ok.kind]; decide) hf hn ?_ I.qq
   exact Heap.get?_none_of_le (Nat.le_trans I.ok.FZ I.ok.above)
theorem Inv.A9 (I : Inv X pins σ H s) : ∀ b ∈ yE X.stack, b ∈ X.env.locals :: X.fs := fun b hb => by
 rcases I.ok.Q7 with e | ⟨e, hf⟩
 . rw [e] at hb; exact List.mem_cons_of_mem _ hb
 . rw [e] at hb
   unfold yE at hb
   rw [List.filterMap_cons, hf] at hb
   exact hb
theorem Inv.wy (I : Inv X pins σ H s) : ∀ b ∈ yE X.stack, H b = none := fun b hb => by
 rcases List.mem_cons.mp (I.A9 b hb) with e | hb
 . rw [e]; exact I.free
 . obtain ⟨_, o, ho, _⟩ := I.ok.qq.mem hb
   exact I.base.free b o ho (I.ok.Jc b hb) fun z => I.ok.Bh b z hb
theorem Inv.step {g' : Array GenState} {t' : Nat} {d' : Drawn} {ch : List Addr} (I : Inv X pins σ H s)
 (qb : ∀ b ∈ ch, (b ∈ X.ex \/ X.dM.heap.objs.size <= b) /\ b ≠ X.env.locals /\ (∀ x c, X.env.cells.lookup x = some c -> c ≠ b) /\ ∀ p ∈ X.pn ++ pins, p.1 ≠ b)
 (keep : ∀ b o, b ≠ X.env.locals -> b ∉ X.fs -> b ∉ ch -> s.heap.get? b = some o -> H b = none -> h'.get? b = some o)
 (slot : ∀ b o, b ≠ X.env.locals -> b ∈ X.fs -> b ∉ ch -> s.heap.get? b = some o -> H b = none -> ∃ sl, h'.get? b = some { o with slots := sl }) (free : ∀ b o, b ∉ ch -> s.heap.get? b = some o -> H b = none -> H' b = none)
 (there : ∀ b o, b ∉ ch -> s.heap.get? b = some o -> ∃ o', h'.get? b = some o')
 (lS : ∀ b xs, H b = some (.tup xs) -> H' b = some (.tup xs)) (j7 : ∀ b o u, H b = some (.n8 o u) -> H' b = some (.n8 o u)) (pM : ∀ b ps, H b = some (.Qq ps) -> ∃ more, H' b = some (.Qq (ps ++ more)))
 (ns : ∀ m, s.heap.Ns X.env.locals m -> h'.Ns X.env.locals m) (aP : k8 X.prog X.w H' h') (hg : AllBare g') :
 Inv X pins σ H' { s with heap := h', gens := g', drawn := d', toks := t' } := by
 have RH : ∀ b o, X.dM.heap.get? b = some o -> b ≠ X.env.locals := fun b o e => Nat.ne_of_lt (Nat.lt_of_lt_of_le (Heap.lt_size e) I.ok.above)
 have YG : ∀ b o, X.dM.heap.get? b = some o -> b ∉ X.ex -> b ∉ ch := fun b o e hx hb => by
  rcases (qb b hb).1 with z | z
  . exact hx z
  . exact absurd (Nat.lt_of_lt_of_le (Heap.lt_size e) z) (Nat.lt_irrefl _)
 have cellK : ∀ x c, X.env.cells.lookup x = some c -> ∀ v, s.heap.IsCell c v -> h'.IsCell c v := fun x c e v ⟨o, ho, hd⟩ => by
  have Wx : c ∉ ch := fun z => (qb c z).2.2.1 x c e rfl
  by_cases hc : c ∈ X.fs
  . obtain ⟨sl, q⟩ := slot c o (I.Oz x c e) hc Wx ho (I.eG x c e)
    exact ⟨_, q, hd⟩
  . exact ⟨o, keep c o (I.Oz x c e) hc Wx ho (I.eG x c e), hd⟩
 refine ⟨I.ok, I.os, hg, ⟨fun b o e n hb hx => ?_, fun b o e n hb hx => ?_, fun b o e n hx => ?_, fun b o e hx => ?_, fun b xs e => lS b xs (I.base.lS b xs e), fun b o xs e => j7 b o xs (I.base.j7 b o xs e), fun b ps e => ?_⟩, ?_, fun x c e => ?_, ?_, fun x c e => ?_, fun p hp => ?_, aP, I.len⟩
 . exact keep b o (RH b o e) hb (YG b o e hx) (I.base.keep b o e n hb hx) (I.base.free b o e n hx)
 . obtain ⟨sl, e1⟩ := I.base.slot b o e n hb hx
   obtain ⟨sl', e2⟩ := slot b _ (RH b o e) hb (YG b o e hx) e1 (I.base.free b o e n hx)
   exact ⟨sl', e2⟩
 . obtain ⟨o', e1⟩ := I.base.there b o e hx
   exact free b o' (YG b o e hx) e1 (I.base.free b o e n hx)
 . obtain ⟨o', e1⟩ := I.base.there b o e hx
   exact there b o' (YG b o e hx) e1
 . obtain ⟨m1, e1⟩ := I.base.pM b ps e
   obtain ⟨m2, e2⟩ := pM b _ e1
   exact ⟨m1 ++ m2, by rw [e2, Array.append_assoc]⟩
 . obtain ⟨m, hn, hl⟩ := I.loc
   refine ⟨m, ns m hn, fun i x v e1 e2 e3 => ?_⟩
   obtain ⟨u, r, l⟩ := hl i x v e1 e2 e3
   refine ⟨u, r, ?_⟩
   rcases l with l | ⟨k, c, e, z⟩
   . exact .inl l
   . exact .inr ⟨k, c, e, cellK x c e _ z⟩
 . obtain ⟨v, z⟩ := I.cell x c e
   exact ⟨v, cellK x c e v z⟩
 . obtain ⟨m, ⟨o, _, _, ho, _⟩, _⟩ := I.loc
   exact free _ o (fun z => (qb _ z).2.1 rfl) ho I.free
 . obtain ⟨v, o, ho, hd⟩ := I.cell x c e
   exact free c o (fun z => (qb c z).2.2.1 x c e rfl) ho (I.eG x c e)
 . obtain ⟨e, n, ne, nf, d⟩ := I.pin p hp
   have Wx : p.1 ∉ ch := fun z => (qb p.1 z).2.2.2 p hp rfl
   exact ⟨keep p.1 p.2 ne nf Wx e n, free p.1 p.2 Wx e n, ne, nf, d⟩
theorem Inv.un {t' : Nat} (I : Inv X pins σ H s) (u : Un X.fs [] H H' s.heap h') (aP : k8 X.prog X.w H' h') : Inv X pins σ H' { s with heap := h', toks := t' } := by
 obtain ⟨m, ⟨o, es, ep, ho, r⟩, _⟩ := id I.loc
 obtain ⟨sl, hL⟩ := u.any ho I.free (by simp)
 exact I.step (g' := s.gens) (d' := s.drawn) (ch := []) (fun _ z => nomatch z) (fun b o _ hb _ e n => u.keep b o e n hb (by simp)) (fun b o _ hb _ e n => u.slot b o e n hb (by simp)) (fun b o _ e n => u.free b o e n (by simp)) (fun b o _ e => u.there b o e (by simp)) u.lS u.j7 u.pM (fun m' hm => by
  obtain ⟨o', es', ep', ME, r'⟩ := hm
  rw [ho] at ME; cases ME
  exact ⟨_, es', ep', hL, r'⟩) aP I.bare
theorem Inv.call {g' : Array GenState} {t' : Nat} {d' : Drawn} {ch : List Addr} (I : Inv X pins σ H s) (u : Un (yE X.stack) ch H H' s.heap h') (aP : k8 X.prog X.w H' h') (hg : AllBare g')
 (qb : ∀ b ∈ ch, (b ∈ X.ex \/ X.dM.heap.objs.size <= b) /\ b ≠ X.env.locals /\ (∀ x c, X.env.cells.lookup x = some c -> c ≠ b) /\ ∀ p ∈ X.pn ++ pins, p.1 ≠ b) :
 Inv X pins σ H' { s with heap := h', gens := g', drawn := d', toks := t' } := by
 obtain ⟨m, ⟨o, es, ep, ho, r⟩, _⟩ := id I.loc
 obtain ⟨sl, hL⟩ := u.any ho I.free fun z => (qb _ z).2.1 rfl
 exact I.step (ch := ch) qb (fun b o hL hb hc e n => u.keep b o e n (fun z => (List.mem_cons.mp (I.A9 b z)).elim hL hb) hc) (fun b o _ _ hc e n => u.any e n hc) (fun b o hc e n => u.free b o e n hc) (fun b o hc e => u.there b o e hc) u.lS u.j7 u.pM (fun m' hm => by
  obtain ⟨o', es', ep', ME, r'⟩ := hm
  rw [ho] at ME; cases ME
  exact ⟨_, es', ep', hL, r'⟩) aP hg
theorem Inv.turned {t' : Nat} {it : Addr} (I : Inv X pins σ H s) (k : ∀ b o, b ≠ it -> s.heap.get? b = some o -> h'.get? b = some o) (hn : H it = none) (hL : it ≠ X.env.locals)
 (h1 : it ∈ X.ex \/ X.dM.heap.objs.size <= it) (h2 : ∀ x c, X.env.cells.lookup x = some c -> c ≠ it) (h3 : ∀ p ∈ X.pn ++ pins, p.1 ≠ it) : Inv X pins σ H { s with heap := h', toks := t' } := by
 have R4 : ∀ b u, H b = some u -> b ≠ it := fun b u e z => by rw [z, hn] at e; cases e
 refine I.step (g' := s.gens) (d' := s.drawn) (ch := [it]) (fun b hb => ?_) (fun b o _ _ hc e _ => k b o (fun z => hc (by simp [z])) e) (fun b o _ _ hc e _ => ⟨o.slots, k b o (fun z => hc (by simp [z])) e⟩) (fun _ _ _ _ n => n)
  (fun b o hc e => ⟨o, k b o (fun z => hc (by simp [z])) e⟩) (fun _ _ e => e) (fun _ _ _ e => e) (fun b ps e => ⟨#[], by rw [e]; simp⟩) (fun m hm => ?_) (fun b u e => ?_) I.bare
 . have e : b = it := by simpa using hb
   subst e
   exact ⟨h1, hL, h2, h3⟩
 . obtain ⟨o, es, ep, ho, r⟩ := hm
   exact ⟨o, es, ep, k _ o (Ne.symm hL) ho, r⟩
 . refine (I.aP b u e).iF (fun c v hc q => k c v ?_ q) (fun _ q => q) fun _ _ q => q
   rcases hc with z | z
   . rw [z]; exact R4 b u e
   . exact R4 c _ z
theorem Inv.tok (I : Inv X pins σ H s) (t : Nat) : Inv X pins σ H { s with toks := t } := I.un (h' := s.heap) (t' := t) Un.refl I.aP
theorem Inv.kept {t' : Nat} (I : Inv X pins σ H s) (k : ∀ b u, s.heap.get? b = some u -> h'.get? b = some u) : Inv X pins σ H { s with heap := h', toks := t' } := I.un (Un.kept k) (I.aP.kept k)
theorem Inv.laid {a : Addr} {o : HO} {t' : Nat} (I : Inv X pins σ H s) (k : ∀ b u, s.heap.get? b = some u -> h'.get? b = some u) (hp : s.heap.objs.size <= a) (new : bI X.prog X.w (upd H a o) h' a o) :
 Inv X pins σ (upd H a o) { s with heap := h', toks := t' } := I.un (Un.laid k hp (I.aP.fresh hp)) (I.aP.laid k hp new)
theorem Inv.write {x e : Addr} {o : HO} {t' : Nat} (I : Inv X pins σ H s) (mu : Wj (H x)) (he : e = x \/ H e = some (.own x)) (k : ∀ b u, b ≠ e -> s.heap.get? b = some u -> h'.get? b = some u) (QA : ∃ u, h'.get? e = some u)
 (new : bI X.prog X.w (upd H x o) h' x o) : Inv X pins σ (upd H x o) { s with heap := h', toks := t' } := I.un (Un.write mu he k QA) (I.aP.write mu he k QA new)
theorem Inv.weak {σ' : List (Option V)} (I : Inv X pins σ H s) (hl : σ'.length = σ.length) (w : ∀ (i : Nat) v, σ'[i]? = some (some v) -> σ[i]? = some (some v)) : Inv X pins σ' H s :=
 ⟨I.ok, I.os, I.bare, I.base, let ⟨m, hn, yL⟩ := I.loc; ⟨m, hn, fun i x v e1 e2 e3 => yL i x v e1 (w i v e2) e3⟩, I.cell, I.free, I.eG, I.pin, I.aP, hl.trans I.len⟩
theorem Inv.sQ {Du : List (Addr × Obj)} (I : Inv X pins σ H s) (h : ∀ p ∈ Du, s.heap.get? p.1 = some p.2 /\ H p.1 = none /\ p.1 ≠ X.env.locals /\ p.1 ∉ X.fs /\ ∀ v, p.2.data ≠ .cell v) : Inv X Du σ H s :=
 ⟨I.ok, I.os, I.bare, I.base, I.loc, I.cell, I.free, I.eG, fun p hp => (List.mem_append.mp hp).elim (fun z => I.pin p (List.mem_append_left _ z)) (h p), I.aP, I.len⟩
theorem w9 {N : List Str} (hN : N.Nodup) {i j : Nat} {x : Str} (a : N[i]? = some x) (b : N[j]? = some x) : i = j := by
 obtain ⟨h1, e1⟩ := List.getElem?_eq_some_iff.mp a
 obtain ⟨h2, e2⟩ := List.getElem?_eq_some_iff.mp b
 exact (List.getElem_inj hN).mp (e1.trans e2.symm)
theorem zy {M : Model} {A : Around} {E : Value -> Shared -> Prop} {i : Nat} {x : Str} {v : V} {u : Value} {Q : Unit -> Shared -> Prop} (I : Inv X pins σ H s) (hN : X.N.Nodup) (hi : X.N[i]? = some x) (hx : Loc X.env.scope x) (r : RelV v u)
 (h : ∀ s', Inv X pins (σ.set i (some v)) H s' -> (∃ a, Heap.SameBut a s.heap s'.heap /\ (a = X.env.locals \/ X.env.cells.lookup x = some a)) -> Q () s') (hf : X.fn x = true \/ X.env.scope.names.lookup x = some .local := by first | exact .inl rfl | exact .inr rfl | assumption) : wpAny M A (storeName X.env x u) Q E s := by
 obtain ⟨m, hn, hl⟩ := id I.loc
 have II : (X.env.scope.kind == .class || (X.env.scope.kind == .module && X.env.locals != X.env.globals)) = false := by rw [I.ok.kind]; rfl
 have XD : i < σ.length := by rw [I.len]; exact (List.getElem?_eq_some_iff.mp hi).1
 have Oz := I.Oz
 have tracked : ∀ {a : Addr} {h' : Heap}, (∃ o, s.heap.get? a = some o /\ H a = none) -> Heap.SameBut a s.heap h' -> k8 X.prog X.w H h' := fun {a h'} ha hs b ob e => by
  obtain ⟨_, _, Qt⟩ := ha
  refine (I.aP b ob e).iF (fun c w' hc q => (hs.2 c ?_).trans q) (fun _ q => q) fun _ _ q => q
  rintro rfl
  rcases hc with rfl | hc
  . rw [Qt] at e; cases e
  . rw [Qt] at hc; cases hc
 rcases hx with hk | hk
 . refine wpAny_storeName_local hk hn (fun h' Vf hs => ?_) II
   obtain ⟨oL, _, _, Vs, _⟩ := id hn
   refine h _ ⟨I.ok, I.os, I.bare, ⟨fun b o e n hb hx => ?_, fun b o e n hb hx => ?_, I.base.free, fun b o e hx => ?_, I.base.lS, I.base.j7, I.base.pM⟩, ⟨_, Vf, fun j y v' e1 e2 e3 => ?_⟩, fun y c e => ?_, I.free, I.eG, fun p hp => ?_, tracked ⟨oL, Vs, I.free⟩ hs, by simpa using I.len⟩ ⟨_, hs, .inl rfl⟩
   . exact (hs.2 b (Nat.ne_of_lt (Nat.lt_of_lt_of_le (Heap.lt_size e) I.ok.above))).trans (I.base.keep b o e n hb hx)
   . obtain ⟨sl, e1⟩ := I.base.slot b o e n hb hx
     exact ⟨sl, (hs.2 b (Nat.ne_of_lt (Nat.lt_of_lt_of_le (Heap.lt_size e) I.ok.above))).trans e1⟩
   . obtain ⟨o', e1⟩ := I.base.there b o e hx
     exact ⟨o', (hs.2 b (Nat.ne_of_lt (Nat.lt_of_lt_of_le (Heap.lt_size e) I.ok.above))).trans e1⟩
   . by_cases hj : j = i
     . subst hj
       rw [hi] at e1; cases e1
       rw [List.getElem?_set_self XD] at e2
       cases e2
       exact ⟨u, r, .inl ⟨hk, by simp⟩⟩
     . rw [List.getElem?_set_ne (Ne.symm hj)] at e2
       obtain ⟨u', r', q⟩ := hl j y v' e1 e2 e3
       refine ⟨u', r', ?_⟩
       rcases q with ⟨k, e⟩ | ⟨k, c, e, z⟩
       . refine .inl ⟨k, ?_⟩
         have : y ≠ x := fun e => hj (w9 hN e1 (e ▸ hi))
         simp [this, e]
       . exact .inr ⟨k, c, e, z.sameBut hs (Oz y c e)⟩
   . obtain ⟨w', z⟩ := I.cell y c e
     exact ⟨w', z.sameBut hs (Oz y c e)⟩
   . obtain ⟨e, n, ne, nf, d⟩ := I.pin p hp
     exact ⟨(hs.2 p.1 ne).trans e, n, ne, nf, d⟩
 . have A7 : X.fn x = true := by
    rcases hf with z | z
    . exact z
    . rw [z] at hk; cases hk
   obtain ⟨c, hc⟩ := I.ok.has x (.inl hk)
   obtain ⟨w', z⟩ := I.cell x c hc
   refine wpAny_storeName_cell I.ok.kind hk hc z (fun h' kz hs => ?_)
   obtain ⟨oc, hoc, aaj⟩ := id z
   refine h { s with heap := h' } ⟨I.ok, I.os, I.bare, ⟨fun b o e n hb hx => ?_, fun b o e n hb hx => ?_, I.base.free, fun b o e hx => ?_, I.base.lS, I.base.j7, I.base.pM⟩, ⟨m, hn.sameBut hs (Ne.symm (Oz x c hc)), fun j y v' e1 e2 e3 => ?_⟩, fun y c' e => ?_, I.free, I.eG, fun p hp => ?_, tracked ⟨oc, hoc, I.eG x c hc⟩ hs, by simpa using I.len⟩ ⟨c, hs, .inr hc⟩
   . exact (hs.2 b (Nat.ne_of_lt (Nat.lt_of_lt_of_le (Heap.lt_size e) (I.ok.Ov x c A7 hc)))).trans (I.base.keep b o e n hb hx)
   . obtain ⟨sl, e1⟩ := I.base.slot b o e n hb hx
     exact ⟨sl, (hs.2 b (Nat.ne_of_lt (Nat.lt_of_lt_of_le (Heap.lt_size e) (I.ok.Ov x c A7 hc)))).trans e1⟩
   . obtain ⟨o', e1⟩ := I.base.there b o e hx
     exact ⟨o', (hs.2 b (Nat.ne_of_lt (Nat.lt_of_lt_of_le (Heap.lt_size e) (I.ok.Ov x c A7 hc)))).trans e1⟩
   . by_cases hj : j = i
     . subst hj
       rw [hi] at e1; cases e1
       rw [List.getElem?_set_self XD] at e2
       cases e2
       exact ⟨u, r, .inr ⟨.inl hk, c, hc, kz⟩⟩
     . rw [List.getElem?_set_ne (Ne.symm hj)] at e2
       obtain ⟨u', r', q⟩ := hl j y v' e1 e2 e3
       refine ⟨u', r', ?_⟩
       rcases q with q | ⟨k, c', e, z'⟩
       . exact .inl q
       . refine .inr ⟨k, c', e, z'.sameBut hs ?_⟩
         rintro rfl
         exact hj (w9 hN e1 (I.ok.inj _ _ _ e hc ▸ hi))
   . by_cases hcc : c' = c
     . subst hcc; exact ⟨_, kz⟩
     . obtain ⟨w2, z2⟩ := I.cell y c' e
       exact ⟨w2, z2.sameBut hs hcc⟩
   . obtain ⟨e, n, ne, nf, d⟩ := I.pin p hp
     refine ⟨(hs.2 p.1 ?_).trans e, n, ne, nf, d⟩
     intro q
     rw [q, hoc] at e
     have q' : oc = p.2 := Option.some.inj e
     exact d w' (by rw [<- q']; exact aaj)
theorem xE {M : Model} {A : Around} {E : Value -> Shared -> Prop} {i : Nat} {x : Str} {v : V} {u : Value} {Q : Unit -> Shared -> Prop} (I : Inv X pins σ H s) (hN : X.N.Nodup) (hi : X.N[i]? = some x) (hx : Loc X.env.scope x) (r : RelV v u)
 (h : ∀ s', Inv X pins (σ.set i (some v)) H s' -> Q () s') (hf : X.fn x = true \/ X.env.scope.names.lookup x = some .local := by first | exact .inl rfl | exact .inr rfl | assumption) : wpAny M A (storeName X.env x u) Q E s :=
 zy I hN hi hx r (fun s' I' _ => h s' I') hf
theorem Inv.JE {s' : Shared} {ch : List Addr} (I : Inv X pins σ H s) (ho : s'.os = s.os) (u : Un (yE X.stack) ch H H' s.heap s'.heap) (aP : k8 X.prog X.w H' s'.heap) (hg : AllBare s'.gens)
 (qb : ∀ b ∈ ch, (b ∈ X.ex \/ X.dM.heap.objs.size <= b) /\ b ≠ X.env.locals /\ (∀ x c, X.env.cells.lookup x = some c -> c ≠ b) /\ ∀ p ∈ X.pn ++ pins, p.1 ≠ b) : Inv X pins σ H' s' := by
 obtain ⟨h', g', d', t', o'⟩ := s'
 have e : o' = s.os := ho
 subst e
 exact I.call (g' := g') (t' := t') (d' := d') u aP hg qb
end
abbrev XK := Value -> Option Addr -> Hp -> Prop
abbrev St := List (Option V)
abbrev VK := V -> Hp -> Prop
abbrev TE := St -> Hp -> VK -> Prop
abbrev TT := St -> Hp -> (Bool -> Hp -> Prop) -> Prop
abbrev TA := St -> Hp -> (List V -> Hp -> Prop) -> Prop
structure Ends where
 nx : St -> Hp -> Prop
 rt : VK
 bk : St -> Hp -> Prop := fun _ _ => False
 ct : St -> Hp -> Prop := fun _ _ => False
abbrev TS := Ends -> St -> Hp -> Prop
def EP (X : Cx) (pins : List (Addr × Obj)) (σ : St) (Q : VK) (u : Value) (s' : Shared) : Prop := ∃ v H', Inv X pins σ H' s' /\ RelV v u /\ Q v H'
def TP (X : Cx) (pins : List (Addr × Obj)) (σ : St) (Q : Bool -> Hp -> Prop) (b : Bool) (s' : Shared) : Prop := ∃ H', Inv X pins σ H' s' /\ Q b H'
def AP (X : Cx) (pins : List (Addr × Obj)) (σ : St) (Q : List V -> Hp -> Prop) (us : List Value) (s' : Shared) : Prop := ∃ vs H', Inv X pins σ H' s' /\ Vals vs us /\ Q vs H'
def SP (X : Cx) (pins : List (Addr × Obj)) (D : Ends) (f : Flow) (s' : Shared) : Prop :=
 match f with
 | .next => ∃ σ' H', Inv X pins σ' H' s' /\ D.nx σ' H'
 | .brk => ∃ σ' H', Inv X pins σ' H' s' /\ D.bk σ' H'
 | .cont => ∃ σ' H', Inv X pins σ' H' s' /\ D.ct σ' H'
 | .ret u => ∃ v σ' H', Inv X pins σ' H' s' /\ RelV v u /\ D.rt v H'
def PE (X : Cx) (e : Expr) (t : TE) : Prop :=
 ∀ (pins : List (Addr × Obj)) (s : Shared) (σ : St) (H : Hp) (Q : VK), Inv X pins σ H s -> t σ H Q -> wpAny (model X.prog X.w) X.A (eval e X.env) (EP X pins σ Q) X.xe s
def PT (X : Cx) (e : Expr) (t : TT) : Prop :=
 ∀ (pins : List (Addr × Obj)) (s : Shared) (σ : St) (H : Hp) (Q : Bool -> Hp -> Prop), Inv X pins σ H s -> t σ H Q -> wpAny (model X.prog X.w) X.A (isTrue e X.env (eval e X.env)) (TP X pins σ Q) X.xe s
def PW (X : Cx) (e : Expr) (t : TT) : Prop :=
 ∀ (whole : Sem Value) (pins : List (Addr × Obj)) (s : Shared) (σ : St) (H : Hp) (Q : Bool -> Hp -> Prop), Inv X pins σ H s -> t σ H Q -> wpAny (model X.prog X.w) X.A (isTrue e X.env whole) (TP X pins σ Q) X.xe s
theorem PW.pt {X : Cx} {e : Expr} {t : TT} (h : PW X e t) : PT X e t := h _
def PA (X : Cx) (es : List Expr) (t : TA) : Prop :=
 ∀ (pos : Pos) (pins : List (Addr × Obj)) (s : Shared) (σ : St) (H : Hp) (Q : List V -> Hp -> Prop), Inv X pins σ H s -> t σ H Q -> wpAny (model X.prog X.w) X.A (spliced (backTo pos (starEach es X.env))) (AP X pins σ Q) X.xe s
def PS (X : Cx) (st : Stmt) (t : TS) : Prop :=
 ∀ (pins : List (Addr × Obj)) (s : Shared) (σ : St) (H : Hp) (D : Ends), Inv X pins σ H s -> t D σ H -> wpAny (model X.prog X.w) X.A (exec st X.env) (SP X pins D) X.xe s
def By (X : Cx) (st : List Stmt) (t : TS) : Prop :=
 ∀ (pins : List (Addr × Obj)) (s : Shared) (σ : St) (H : Hp) (D : Ends), Inv X pins σ H s -> t D σ H -> wpAny (model X.prog X.w) X.A (execs st X.env) (SP X pins D) X.xe s
theorem cm {α : Type} {t : Sem α} {Q Q' : α -> Shared -> Prop} {M : Model} {A : Around} {E : Value -> Shared -> Prop} {s : Shared} (h : wpAny M A t Q E s) (hQ : ∀ a s, Q a s -> Q' a s) : wpAny M A t Q' E s := wpAny_mono h hQ fun _ _ x => x
section
variable {X : Cx}
def R5 (i : Nat) : TE := fun σ H Q => ∃ v, σ[i]? = some (some v) /\ Q v H
def tC (v : V) : TE := fun _ H Q => Q v H
theorem T9 {i : Nat} {x : Str} {pos : Pos} (hN : X.N[i]? = some x) (hv : Vg X.env.scope x) (hd : (x == ("__debug__" : Str)) = false := by decide) (F6 : (x == ("__classdict__" : Str)) = false := by decide) : PE X (.Name x pos) (R5 i) := by
 intro pins s σ H Q I h
 obtain ⟨v, e, h⟩ := h
 obtain ⟨m, hn, hl⟩ := I.loc
 obtain ⟨u, r, l⟩ := hl i x v hN e hv
 have fin : EP X pins σ Q u s := ⟨v, H, I, r, h⟩
 rcases l with ⟨hk, hm⟩ | ⟨hk, c, hc, zJ⟩
 . exact wpAny_Name (wpAny_loadName_local I.ok.kind hk hn hm fin) hd
 . rcases hk with hk | hk
   . exact wpAny_Name (wpAny_loadName_cell I.ok.kind hk hc zJ fin) hd
   . exact wpAny_Name (wpAny_loadName_free I.ok.kind hk hc zJ fin F6) hd
theorem aj {i j pos} : PE X (.Constant (.int i) j pos) (tC (.int i)) := fun _ _ _ H _ I h => wpAny_Constant_int ⟨.int i, H, I.tok _, ⟨_, rfl⟩, h⟩
theorem rp {b j pos} : PE X (.Constant (.bool b) j pos) (tC (.bl b)) := fun _ _ _ H _ I h => Constant_bool ⟨.bl b, H, I, rfl, h⟩
theorem LR {j pos} : PE X (.Constant .none j pos) (tC .bG) := fun _ _ _ H _ I h => Constant_none ⟨.bG, H, I, rfl, h⟩
theorem c4 {x j pos} : PE X (.Constant (.str x) j pos) (tC (.str x)) := fun _ _ _ H _ I h => Calls.Constant_str ⟨.str x, H, I.tok _, ⟨_, rfl⟩, h⟩
def Gl (X : Cx) (x : Str) : Prop := X.env.kindOf x = some .globalImplicit
theorem f9 {E : Value -> Shared -> Prop} {pins : List (Addr × Obj)} {s : Shared} {σ : St} {H : Hp} {x : Str} {u : Value} {pos : Pos} {Q : Value -> Shared -> Prop} (I : Inv X pins σ H s) (hg : Gl X x) (hm : X.mg x = some u) (h : Q u s)
 (hd : (x == ("__debug__" : Str)) = false := by decide) : wpAny (model X.prog X.w) X.A (eval (.Name x pos) X.env) Q E s :=
 Calls.Name_function_global I.ok.kind hg (Calls.loadGlobal_global (by rw [I.ok.glob]; exact I.mod.glob.keeps I.bk) hm h) hd
theorem uU {E : Value -> Shared -> Prop} {pins : List (Addr × Obj)} {s : Shared} {σ : St} {H : Hp} {x : Str} {u : Value} {pos : Pos} {Q : Value -> Shared -> Prop} (I : Inv X pins σ H s) (hg : Gl X x) (hm : X.mg x = none) (hv : bootBuiltins x = some u) (h : Q u s)
 (hn : x ≠ "__name__" := by decide) (hd : (x == ("__debug__" : Str)) = false := by decide) : wpAny (model X.prog X.w) X.A (eval (.Name x pos) X.env) Q E s := by
 obtain ⟨mb, h1, h2⟩ := I.mod.blt
 exact Calls.Name_function_global I.ok.kind hg (Calls.loadGlobal_builtin (by rw [I.ok.glob]; exact I.mod.glob.keeps I.bk) hm (by rw [I.ok.blt]; exact h1.keeps I.bk) ((h2 x hn).trans hv) h) hd
theorem sU {x : Str} {v : V} {u : Value} {pos : Pos} (hg : Gl X x) (hm : X.mg x = some u) (r : RelV v u) (hd : (x == ("__debug__" : Str)) = false := by decide) : PE X (.Name x pos) (tC v) :=
 fun _ _ _ H _ I h => f9 I hg hm ⟨v, H, I, r, h⟩ hd
theorem mJ {x : Str} {v : V} {u : Value} {pos : Pos} (hg : Gl X x) (hm : X.mg x = none) (hv : bootBuiltins x = some u) (r : RelV v u) (hn : x ≠ "__name__" := by decide) (hd : (x == ("__debug__" : Str)) = false := by decide) : PE X (.Name x pos) (tC v) :=
 fun _ _ _ H _ I h => uU I hg hm hv ⟨v, H, I, r, h⟩ hn hd
variable {a b : Expr} {ta tb : TE} {pos : Pos}
def PC (X : Cx) (op : CmpOp) (a b : Expr) (t : TE) : Prop :=
 ∀ (pins : List (Addr × Obj)) (s : Shared) (σ : St) (H : Hp) (Q : VK), Inv X pins σ H s -> t σ H Q ->
   wpAny (model X.prog X.w) X.A (eval a X.env) (fun v s₁ => wpAny (model X.prog X.w) X.A (eval b X.env) (fun u s₂ => wpAny (model X.prog X.w) X.A (compareOp op v u) (EP X pins σ Q) X.xe s₂) X.xe s₁) X.xe s
def tB (t : TE) : TT := fun σ H Q => t σ H fun x H1 => ∃ c, x = .bl c /\ Q c H1
theorem EV {op : CmpOp} {t : TE} (h : PC X op a b t) (h1 : behindInMarks op b = false := by first | exact VR _ (by decide) (by decide) | rfl) : PT X (.Compare a [op] [b] pos) (tB t) := by
 intro pins s σ H Q I hw
 refine wpAny_isTrue_Compare1 (cm (h pins s σ H _ I hw) fun v s1 h1 => cm h1 fun u s2 h2 => cm h2 fun c s3 ⟨x, H1, I1, r1, q1⟩ => ?_) h1
 obtain ⟨d, rfl, q⟩ := q1
 cases r1
 exact wpAny_truthy_bool ⟨H1, I1, q⟩
variable {tA YD : TT} {rest : List Expr}
def X2 (t u : TT) : TT := fun σ H Q => t σ H fun c H1 => if c = true then u σ H1 Q else Q false H1
def tOr (t u : TT) : TT := fun σ H Q => t σ H fun c H1 => if c = true then Q true H1 else u σ H1 Q
def Xv (t : TT) : TT := fun σ H Q => t σ H fun c H1 => Q (!c) H1
theorem sW (ha : PT X a tA) : PW X (.BoolOp .And [a] pos) tA := by
 intro wh pins s σ H Q I h
 refine isTrue_and (cm (ha pins s σ H Q I h) fun c s1 e => ?_)
 cases c with
 | true => exact isTrue_and_nil e
 | false => exact e
theorem uS (ha : PT X a tA) : PW X (.BoolOp .Or [a] pos) tA := by
 intro wh pins s σ H Q I h
 refine isTrue_or (cm (ha pins s σ H Q I h) fun c s1 e => ?_)
 cases c with
 | false => exact isTrue_or_nil e
 | true => exact e
theorem rX (ha : PT X a tA) (hb : PW X (.BoolOp .And (b :: rest) pos) YD) : PW X (.BoolOp .And (a :: b :: rest) pos) (X2 tA YD) := by
 intro wh pins s σ H Q I h
 refine isTrue_and (cm (ha pins s σ H _ I h) fun c s1 ⟨H1, I1, q1⟩ => ?_)
 cases c with
 | true => exact hb wh pins s1 σ H1 Q I1 q1
 | false => exact ⟨H1, I1, q1⟩
theorem yf (ha : PT X a tA) (hb : PW X (.BoolOp .Or (b :: rest) pos) YD) : PW X (.BoolOp .Or (a :: b :: rest) pos) (tOr tA YD) := by
 intro wh pins s σ H Q I h
 refine isTrue_or (cm (ha pins s σ H _ I h) fun c s1 ⟨H1, I1, q1⟩ => ?_)
 cases c with
 | true => exact ⟨H1, I1, q1⟩
 | false => exact hb wh pins s1 σ H1 Q I1 q1
theorem ic (ha : PT X a tA) : PT X (.UnaryOp .Not a pos) (Xv tA) := by
 intro pins s σ H Q I h
 exact isTrue_not (ha pins s σ H (fun c H1 => Q (!c) H1) I h)
def QG (ta tb : TE) : TE := fun σ H Q => ta σ H fun x H1 => ∃ c, x = .bl c /\ if c = true then tb σ H1 Q else Q (.bl false) H1
def Qo (ta : TE) : TE := fun σ H Q => ta σ H fun x H1 => ∃ c, x = .bl c /\ Q (.bl (!c)) H1
theorem Ew {op} {t : TE} (h : PE X a t) : PE X (.BoolOp op [a] pos) t := fun pins s σ H Q I hw => BoolOp_one (h pins s σ H Q I hw)
theorem DY (ha : PE X a ta) (hb : PE X (.BoolOp .And (b :: rest) pos) tb) : PE X (.BoolOp .And (a :: b :: rest) pos) (QG ta tb) := by
 intro pins s σ H Q I h
 refine BoolOp_and (cm (ha pins s σ H _ I h) fun v s1 ⟨x, H1, I1, r1, q1⟩ => ?_)
 obtain ⟨c, rfl, q1⟩ := q1
 cases r1
 refine wpAny_truthy_bool ?_
 cases c with
 | true => exact hb pins s1 σ H1 Q I1 q1
 | false => exact ⟨.bl false, H1, I1, rfl, q1⟩
theorem Je (ha : PE X a ta) : PE X (.UnaryOp .Not a pos) (Qo ta) := by
 intro pins s σ H Q I h
 refine UnaryOp_ (cm (ha pins s σ H _ I h) fun v s1 ⟨x, H1, I1, r1, q1⟩ => ?_)
 obtain ⟨c, rfl, q1⟩ := q1
 cases r1
 exact not_of (wpAny_truthy_bool ⟨.bl (!c), H1, I1, rfl, q1⟩)
end
def fj (K : PySem.W.Frag) (H : Hp) (a : Addr) (xs : List V) : Prop :=
 Rd H a (.lst xs) \/
  ∃ (o : Obj) (bb : Array Value) (n : Nat), K.lookup a = some o /\ o.cls = .type "list" /\ o.dict = none /\ o.data = .seq bb n /\ bb.size <= sizeLine /\ Vals xs bb.toList
def DA (K : PySem.W.Frag) (H : Hp) (a : Addr) (xs : List V) : Prop :=
 Rd H a (.tup xs) \/
  ∃ (o : Obj) (bb : Array Value) (n : Nat), K.lookup a = some o /\ o.cls = .type "tuple" /\ o.data = .seq bb n /\ bb.size <= sizeLine /\ Vals xs bb.toList
def abi : Value -> Option V
 | .none => some .bG
 | .bool b => some (.bl b)
 | .int i _ => some (.int i)
 | .str x _ => some (.str x)
 | .bytes b _ => some (.FX b)
 | .float b _ => some (.Uu b)
 | .ref a => some (.ref a)
 | .type n => some (.ty n)
 | _ => none
theorem RelV.abs {x : V} {u : Value} (r : RelV x u) : abi u = some x := by
 cases x with
 | bG => cases r; rfl
 | bl _ => cases r; rfl
 | int _ => obtain ⟨t, rfl⟩ := r; rfl
 | str _ => obtain ⟨t, rfl⟩ := r; rfl
 | FX _ => obtain ⟨t, rfl⟩ := r; rfl
 | Uu _ => obtain ⟨t, rfl⟩ := r; rfl
 | ref _ => cases r; rfl
 | ty _ => cases r; rfl
theorem RelV.inj {x y : V} {u : Value} (r : RelV x u) (q : RelV y u) : x = y := Option.some.inj (r.abs.symm.trans q.abs)
theorem Vals.inj : ∀ {xs ys : List V} {us : List Value}, Vals xs us -> Vals ys us -> xs = ys
 | _, _, _, .nil, .nil => rfl
 | _, _, _, .cons r t, .cons r' t' => by rw [r.inj r', Vals.inj t t']
section
variable {X : Cx} {pins : List (Addr × Obj)} {σ : St} {H : Hp} {s : Shared} {a : Addr} {xs ys : List V}
theorem fj.of {K : PySem.W.Frag} (h : H a = some (.lst xs)) : fj K H a xs := .inl (.inl h)
theorem DA.of {K : PySem.W.Frag} (h : H a = some (.tup xs)) : DA K H a xs := .inl (.inl h)
theorem Inv.list (I : Inv X pins σ H s) (h : fj X.K H a xs) : ∃ bb : List Value, Vals xs bb /\ PlainL s.heap a bb.toArray /\ xs.length <= sizeLine := by
 rcases h with h | ⟨o, bb, n, hk, hc, hd, hs, hz, r⟩
 . obtain ⟨z, bb, n, r, e⟩ := h.ok I.aP
   exact ⟨bb, r, ⟨_, n, e, rfl, rfl, rfl⟩, z⟩
 . refine ⟨bb.toList, r, ⟨o, n, I.iB a o hk, hc, hd, by simpa using hs⟩, ?_⟩
   have e := r.length
   simp only [Array.length_toList] at e
   omega
theorem Inv.tuple (I : Inv X pins σ H s) (h : DA X.K H a xs) : ∃ bb : List Value, Vals xs bb /\ IsTup s.heap a bb.toArray /\ xs.length <= sizeLine := by
 rcases h with h | ⟨o, bb, n, hk, hc, hs, hz, r⟩
 . obtain ⟨z, bb, r, p⟩ := h.ok I.aP
   exact ⟨bb, r, p, z⟩
 . refine ⟨bb.toList, r, ⟨o, I.iB a o hk, hc, n, by simpa using hs⟩, ?_⟩
   have e := r.length
   simp only [Array.length_toList] at e
   omega
theorem Inv.Cz (I : Inv X pins σ H s) (h : fj X.K H a xs) (h' : fj X.K H a ys) : xs = ys := by
 obtain ⟨bb, r, ⟨o, n, e, _, _, d⟩, _⟩ := I.list h
 obtain ⟨its', r', ⟨o', n', e', _, _, d'⟩, _⟩ := I.list h'
 rw [e] at e'; cases e'
 rw [d] at d'
 injection d' with d1 _
 have : bb = its' := by simpa using congrArg Array.toList d1
 subst this
 exact r.inj r'
end
abbrev Cx.x5 (X : Cx) (E : Value -> Shared -> Prop) : Cx := { X with xe := E }
abbrev Cx.SM (X : Cx) : Cx := X.x5 fun _ _ => False
theorem Cx.Ok.x5 {X : Cx} (ok : X.Ok) (E : Value -> Shared -> Prop) : (X.x5 E).Ok :=
 ⟨ok.mod, ok.kind, ok.glob, ok.blt, ok.above, ok.inj, ok.has, ok.Ov, ok.hd, ok.frames, ok.Q7, ok.QP, ok.bs, ok.FZ, ok.BG, ok.Bh, ok.qq, ok.Jc⟩
theorem Cx.Ok.mn {X : Cx} {E : Value -> Shared -> Prop} (ok : (X.x5 E).Ok) : X.Ok :=
 ⟨ok.mod, ok.kind, ok.glob, ok.blt, ok.above, ok.inj, ok.has, ok.Ov, ok.hd, ok.frames, ok.Q7, ok.QP, ok.bs, ok.FZ, ok.BG, ok.Bh, ok.qq, ok.Jc⟩
section
variable {X : Cx} {pins : List (Addr × Obj)} {σ : St} {H : Hp} {s : Shared} {E : Value -> Shared -> Prop}
theorem Inv.x5 (I : Inv X pins σ H s) (E : Value -> Shared -> Prop) : Inv (X.x5 E) pins σ H s := ⟨I.ok.x5 E, I.os, I.bare, I.base, I.loc, I.cell, I.free, I.eG, I.pin, I.aP, I.len⟩
theorem Inv.mn (I : Inv (X.x5 E) pins σ H s) : Inv X pins σ H s := ⟨I.ok.mn, I.os, I.bare, I.base, I.loc, I.cell, I.free, I.eG, I.pin, I.aP, I.len⟩
theorem SP.mn {D : Ends} {f : Flow} {s' : Shared} (h : SP (X.x5 E) pins D f s') : SP X pins D f s' := by
 cases f with
 | next => obtain ⟨σ', H', I, q⟩ := h; exact ⟨σ', H', I.mn, q⟩
 | brk => obtain ⟨σ', H', I, q⟩ := h; exact ⟨σ', H', I.mn, q⟩
 | cont => obtain ⟨σ', H', I, q⟩ := h; exact ⟨σ', H', I.mn, q⟩
 | ret u => obtain ⟨v, σ', H', I, r, q⟩ := h; exact ⟨v, σ', H', I.mn, r, q⟩
theorem By.SM {st : List Stmt} {t : TS} (h : By X.SM st t) : By X st t := fun pins s σ H D I hw =>
 wpAny_mono (h pins s σ H D (I.x5 _) hw) (fun _ _ q => q.mn) fun _ _ z => False.elim z
end
section
variable {X : Cx} {st : Stmt} {rest : List Stmt} {t u : TS} {e : Expr} {te : TE} {pos : Pos}
def Kx : TS := fun D σ H => D.nx σ H
theorem aQ : By X [] Kx := fun _ _ σ H _ I h => wpAny_execs_nil ⟨σ, H, I, h⟩
theorem ao (h1 : PS X st t) : By X [st] t := by
 intro pins s σ H D I h
 refine wpAny_execs_cons (cm (h1 pins s σ H D I h) fun f s1 q => ?_)
 cases f with
 | next => exact wpAny_execs_nil q
 | ret v => exact q
 | brk => exact q
 | cont => exact q
theorem Fz : PS X (.Pass pos) Kx := fun _ _ σ H _ I h => wpAny_Pass ⟨σ, H, I, h⟩
theorem Inv.quiet {pins : List (Addr × Obj)} {σ : St} {H : Hp} {s : Shared} (I : Inv X pins σ H s) : interactive X.env = false := by simp [interactive, I.ok.kind]
def Qv (te : TE) : TS := fun D σ H => te σ H fun _ H1 => D.nx σ H1
theorem a9 (he : PE X e te) (hs : swapsWith e none pos.line X.env = pure false := by rfl) : PS X (.Expr e pos) (Qv te) := by
 intro pins s σ H D I h
 exact wpAny_Expr_any (cm (he pins s σ H _ I h) fun v s1 ⟨x, H1, I1, r1, q1⟩ => ⟨σ, H1, I1, q1⟩) I.quiet hs
def Ye (te : TE) : TS := fun D σ H => te σ H D.rt
theorem aI (he : PE X e te) : PS X (.Return (some e) pos) (Ye te) := by
 intro pins s σ H D I h
 exact wpAny_Return_some (cm (he pins s σ H _ I h) fun v s1 ⟨x, H1, I1, r1, q1⟩ => ⟨x, σ, H1, I1, r1, q1⟩)
def Xo (c : TT) (t u : TS) : TS := fun D σ H => c σ H fun b H1 => if b = true then t D σ H1 else u D σ H1
theorem bT {c : Expr} {a b : List Stmt} {tc : TT} (hc : PT X c tc) (ha : By X a t) (hb : By X b u) : PS X (.If c a b pos) (Xo tc t u) := by
 intro pins s σ H D I h
 refine wpAny_If (cm (hc pins s σ H _ I h) fun d s1 ⟨H1, I1, q1⟩ => ?_)
 cases d with
 | true => exact ha pins s1 σ H1 D I1 q1
 | false => exact hb pins s1 σ H1 D I1 q1
end
abbrev TG := V -> St -> Hp -> (St -> Hp -> Prop) -> Prop
abbrev K3 := List V -> St -> Hp -> (St -> Hp -> Prop) -> Prop
def PG (X : Cx) (target : Expr) (t : TG) : Prop :=
 ∀ (pins : List (Addr × Obj)) (s : Shared) (σ : St) (H : Hp) (v : V) (u : Value) (Q : St -> Hp -> Prop), Inv X pins σ H s -> RelV v u -> t v σ H Q ->
   wpAny (model X.prog X.w) X.A (assign target X.env u) (fun _ s' => ∃ σ' H', Inv X pins σ' H' s' /\ Q σ' H') X.xe s
def WL (X : Cx) (ts : List Expr) (t : K3) : Prop :=
 ∀ (pins : List (Addr × Obj)) (s : Shared) (σ : St) (H : Hp) (vs : List V) (us : List Value) (Q : St -> Hp -> Prop), Inv X pins σ H s -> Vals vs us -> t vs σ H Q ->
   wpAny (model X.prog X.w) X.A (assignInOrder ((assignEach ts X.env).map (·.2)) us) (fun _ s' => ∃ σ' H', Inv X pins σ' H' s' /\ Q σ' H') X.xe s
section
variable {X : Cx} {pos : Pos}
def jE (i : Nat) : TG := fun v σ H Q => Q (σ.set i (some v)) H
theorem aT {i : Nat} {x : Str} (hN : X.N.Nodup) (hi : X.N[i]? = some x) (hx : Loc X.env.scope x) (hf : X.fn x = true \/ X.env.scope.names.lookup x = some .local := by first | exact .inl rfl | exact .inr rfl | assumption) : PG X (.Name x pos) (jE i) := by
 intro pins s σ H v u Q I r h
 exact wpAny_assign_Name (xE I hN hi hx r (fun s' I' => ⟨_, H, I', h⟩) hf)
def Md : K3 := fun vs σ H Q => vs = [] /\ Q σ H
def uc (t : TG) (u : K3) : K3 := fun vs σ H Q => ∃ v r, vs = v :: r /\ t v σ H fun σ' H' => u r σ' H' Q
theorem lR : WL X [] Md := by
 intro pins s σ H vs us Q I r h
 obtain ⟨e, h⟩ := h
 subst e
 cases r
 exact assignInOrder_nil ⟨σ, H, I, h⟩
theorem cK {e : Expr} {es : List Expr} {t : TG} {u : K3} (h1 : PG X e t) (h2 : WL X es u)
 (hs : (assignEach (e :: es) X.env).map (·.2) = assign e X.env :: (assignEach es X.env).map (·.2) := by rfl) : WL X (e :: es) (uc t u) := by
 intro pins s σ H vs us Q I r h
 obtain ⟨v, vr, e1, h⟩ := h
 subst e1
 cases r with
 | cons r rr =>
   rw [hs]
   refine assignInOrder_cons (cm (h1 pins s σ H _ _ _ I r h) fun _ s1 ⟨σ1, H1, I1, q1⟩ => ?_)
   exact h2 pins s1 σ1 H1 _ _ Q I1 rr q1
def GW (K : PySem.W.Frag) (n : Nat) (t : K3) : TG := fun v σ H Q => ∃ a xs, v = .ref a /\ DA K H a xs /\ xs.length = n /\ t xs σ H Q
theorem uR {es : List Expr} {k : Nat} {t : K3} {n : Nat} (hc : X.calm = true) (h : WL X es t)
 (hn : (assignEach es X.env).length = n := by rfl) (qe : (assignEach es X.env).findIdx? (·.1) = none := by rfl) : PG X (.Tuple es k pos) (GW X.K n t) := by
 intro pins s σ H v u Q I r hw
 obtain ⟨a, xs, e1, hq, hl, hw⟩ := hw
 subst e1
 cases r
 obtain ⟨bb, rv, ht, hz⟩ := I.tuple hq
 refine assign_Tuple_tuple (I.ok.hd hc) ht (by simp [hn, <- hl, rv.length]) qe fun h' hx => ?_
 have I1 : Inv X pins σ H { s with heap := h' } := I.kept (t' := s.toks) fun b o e => hx b o (Nat.ne_of_lt (Heap.lt_size e)) e
 exact h pins _ σ H xs _ Q I1 (by simpa using rv) hw
def Lp (te : TE) (g : TG) : TS := fun D σ H => te σ H fun x H1 => g x σ H1 D.nx
theorem Uk {tg e : Expr} {te : TE} {g : TG} (he : PE X e te) (hg : PG X tg g) (hs : swapsWithSole [tg] e pos.line X.env = pure false := by rfl) (hw : swappedStores [tg] e X.env = pure none := by rfl)
 (h1 : (assignEach [tg] X.env).map (·.2) = [assign tg X.env] := by rfl) : PS X (.Assign [tg] e pos) (Lp te g) := by
 intro pins s σ H D I h
 refine wpAny_Assign_stores (cm (he pins s σ H _ I h) fun v s1 ⟨x, H1, I1, r1, q1⟩ => ?_) hs hw
 rw [h1]
 exact cm (hg pins s1 σ H1 x v _ I1 r1 q1) fun _ s2 q => q
theorem aC {i : Nat} {x : Str} {e : Expr} {te : TE} {pos' : Pos} (hN : X.N.Nodup) (hi : X.N[i]? = some x) (hx : Loc X.env.scope x) (he : PE X e te) (hs : swapsWith e (some (.Name x pos')) pos.line X.env = pure false := by rfl) (hf : X.fn x = true \/ X.env.scope.names.lookup x = some .local := by first | exact .inl rfl | exact .inr rfl | assumption) :
 PS X (.Assign [.Name x pos'] e pos) (Lp te (jE i)) := by
 intro pins s σ H D I h
 refine wpAny_Assign_Name (cm (he pins s σ H _ I h) fun v s1 ⟨y, H1, I1, r1, q1⟩ => ?_) hs
 exact xE I1 hN hi hx r1 (fun s2 I2 => ⟨_, H1, I2, q1⟩) hf
end
section
variable {X : Cx} {pos : Pos}
def JD (c : TT) (tb : TS) : TS := fun D σ H => ∃ W : Nat -> St -> Hp -> Prop, (∃ m, W m σ H) /\ ∀ m σ H, W m σ H ->
 c σ H fun b H1 => if b = true then ∃ N : St -> Hp -> Prop, (∀ σ' H', N σ' H' -> ∃ m', m' < m /\ W m' σ' H') /\ tb { D with nx := N, ct := N, bk := D.nx } σ H1 else D.nx σ H1
theorem yc {c : Expr} {body : List Stmt} {tc : TT} {tb : TS} (hp : PassesOwn (model X.prog X.w) X.A X.env X.xe) (hc : PT X c tc) (hb : By X body tb) : PS X (.While c body [] pos) (JD tc tb) := by
 intro pins s σ H D I h
 obtain ⟨W, ⟨m0, w0⟩, turn⟩ := h
 refine wpAny_While (codeAny_whileLoop (fun n s' => ∃ σ' H', Inv X pins σ' H' s' /\ W n σ' H') ?_ m0 ⟨σ, H, I, w0⟩)
 rintro n s1 ⟨σ1, H1, I1, w1⟩
 refine wpAny_passesOwn hp (cm (hc pins s1 σ1 H1 _ I1 (turn n σ1 H1 w1)) fun b s2 ⟨H2, I2, q2⟩ => ?_)
 cases b with
 | true =>
   obtain ⟨N, hN, q2⟩ := q2
   rw [if_pos rfl]
   refine wpAny_passesOwn hp (cm (hb pins s2 σ1 H2 _ I2 q2) fun f s3 q3 => ?_)
   cases f with
   | next =>
     obtain ⟨σ3, H3, I3, n3⟩ := q3
     obtain ⟨m', hm, w3⟩ := hN σ3 H3 n3
     exact ⟨m', hm, σ3, H3, I3, w3⟩
   | cont =>
     obtain ⟨σ3, H3, I3, n3⟩ := q3
     obtain ⟨m', hm, w3⟩ := hN σ3 H3 n3
     exact ⟨m', hm, σ3, H3, I3, w3⟩
   | brk => exact q3
   | ret v => exact q3
 | false =>
   rw [if_neg Bool.false_ne_true]
   exact wpAny_execs_nil ⟨σ1, H2, I2, q2⟩
end
structure It where
 go : Nat -> Hp -> Prop
 Qy : Nat -> Hp -> V -> Hp -> Prop
 stop : Nat -> Hp -> Prop
def pK (X : Cx) (pins : List (Addr × Obj)) (H : Hp) (b : Addr) : Prop :=
 H b = none /\ b ≠ X.env.locals /\ b ∉ X.fs /\ (b ∈ X.ex \/ X.dM.heap.objs.size <= b) /\ (∀ x c, X.env.cells.lookup x = some c -> c ≠ b) /\ ∀ p ∈ X.pn ++ pins, p.1 ≠ b
theorem Inv.Dj {X : Cx} {pins : List (Addr × Obj)} {σ : St} {H H' : Hp} {s : Shared} {b : Addr} (I : Inv X pins σ H s) (hb : s.heap.objs.size <= b) (hn : H' b = none) : pK X pins H' b := by
 refine ⟨hn, Nat.ne_of_gt (Nat.lt_of_lt_of_le I.lt hb), I.aaG hb, .inr (Nat.le_trans I.sz hb), fun x c e z => ?_, fun p hp z => ?_⟩
 . obtain ⟨v, q⟩ := I.cell x c e
   exact absurd (Nat.lt_of_lt_of_le q.lt (by rw [z]; exact hb)) (Nat.lt_irrefl _)
 . exact absurd (Nat.lt_of_lt_of_le (Heap.lt_size (I.pin p hp).1) (by rw [z]; exact hb)) (Nat.lt_irrefl _)
structure Turn (P : Program) (w : World) (K : PySem.W.Frag) (tg : Expr) (J : It) (fp : List Addr) (it : Addr) (tn : Nat -> Heap -> Prop) : Prop where
 mem : it ∈ fp
 obj : ∀ i h, tn i h -> ∀ b ∈ fp, ∃ o, h.get? b = some o /\ ∀ v, o.data ≠ .cell v
 keep : ∀ i h h', tn i h -> (∀ b ∈ fp, ∀ o, h.get? b = some o -> h'.get? b = some o) -> tn i h'
 item : ∀ (X : Cx), X.prog = P -> X.w = w -> X.K = K -> X.calm = true -> ∀ (i : Nat) (pins : List (Addr × Obj)) (s : Shared) (σ : St) (H : Hp) (E : Value -> Shared -> Prop), Inv X pins σ H s -> (∀ b ∈ fp, pK X pins H b) -> tn i s.heap -> J.go i H ->
  wpAny (model P w) X.A (pyNext (.ref it)) (fun r s1 => ∃ u, r = some u /\
   wpAny (model P w) X.A (letOwnedTupleGo tg (.ref it) u) (fun _ s2 => ∃ x H', Inv X pins σ H' s2 /\ RelV x u /\ J.Qy i H x H' /\ tn (i + 1) s2.heap /\ ∀ b ∈ fp, H' b = none) E s1) E s
 done : ∀ (X : Cx), X.prog = P -> X.w = w -> X.K = K -> X.calm = true -> ∀ (i : Nat) (pins : List (Addr × Obj)) (s : Shared) (σ : St) (H : Hp) (E : Value -> Shared -> Prop), Inv X pins σ H s -> (∀ b ∈ fp, pK X pins H b) -> tn i s.heap -> J.stop i H ->
  wpAny (model P w) X.A (pyNext (.ref it)) (fun r s1 => r = none /\ Inv X pins σ H s1) E s
 self : ∀ (A : Around) (i : Nat) (s : Shared) (Q : Value -> Shared -> Prop) (E : Value -> Shared -> Prop), tn i s.heap -> Q (.ref it) s -> wpAny (model P w) A (pyIter (.ref it)) Q E s
abbrev TI := St -> Hp -> (It -> Hp -> Prop) -> Prop
def PIE (X : Cx) (pins : List (Addr × Obj)) (σ : St) (tg : Expr) (R : It -> Hp -> Prop) (Ze : Value) (s2 : Shared) : Prop :=
 ∃ (it : Addr) (fp : List Addr) (tn : Nat -> Heap -> Prop) (J : It) (H' : Hp), Ze = .ref it /\ Inv X pins σ H' s2 /\ Turn X.prog X.w X.K tg J fp it tn /\ tn 0 s2.heap /\ (∀ b ∈ fp, pK X pins H' b) /\ R J H'
def PI (X : Cx) (tg iter : Expr) (wi : TI) : Prop :=
 ∀ (pins : List (Addr × Obj)) (s : Shared) (σ : St) (H : Hp) (R : It -> Hp -> Prop), Inv X pins σ H s -> wi σ H R ->
   wpAny (model X.prog X.w) X.A (eval iter X.env) (fun v s1 => wpAny (model X.prog X.w) X.A (pyIter v) (PIE X pins σ tg R) X.xe s1) X.xe s
theorem Q6 {M : Model} {A : Around} {E : Value -> Shared -> Prop} {s : Shared} {tg : Expr} {it : Addr} {u : Value} {o : Obj} {n : String} {vs : Array Value} {Q : Unit -> Shared -> Prop} (ho : s.heap.get? it = some o) (hc : o.cls = .type n) (hd : o.data = .fields vs)
 (hn : ["enumerate", "zip", "dict_itemiterator", "dict_reverseitemiterator", "odict_iterator", "itertools.zip_longest", "itertools.pairwise"].contains n = false) (hQ : Q () s) : wpAny M A (letOwnedTupleGo tg (.ref it) u) Q E s := by
 unfold letOwnedTupleGo
 cases tg <;> first
  | exact wpAny_pure hQ
  | (cases u <;> first
   | exact wpAny_pure hQ
   | (refine wpAny_bind (wpAny_load ho ?_)
      rw [hc, hd]
      show wpAny M A (if (["enumerate", "zip", "dict_itemiterator", "dict_reverseitemiterator", "odict_iterator", "itertools.zip_longest", "itertools.pairwise"].contains n && vs[0]? == some (rawInt _)) = true then _ else _) Q E s
      rw [if_neg (by intro h; rw [hn, Bool.false_and] at h; cases h)]
      exact wpAny_pure hQ))
def Ld (K : PySem.W.Frag) (a : Addr) : It :=
 ⟨fun i H => ∃ xs x, fj K H a xs /\ xs[i]? = some x, fun i H x H' => H' = H /\ ∀ xs, fj K H a xs -> xs[i]? = some x, fun i H => ∃ xs, fj K H a xs /\ xs.length <= i⟩
def Ju (lo : Int) (n : Nat) : It := ⟨fun i _ => i < n, fun i H x H' => H' = H /\ x = .int (lo + i), fun i _ => n <= i⟩
theorem HC {P : Program} {w : World} {K : PySem.W.Frag} {tg : Expr} (a it : Addr) : Turn P w K tg (Ld K a) [it] it (fun i h => h.IsListIter it a i) where
 mem := by simp
 obj := fun i h st b hb => by
  have e : b = it := by simpa using hb
  subst e
  obtain ⟨o, e, c, d⟩ := st
  exact ⟨o, e, fun v z => by rw [d] at z; cases z⟩
 keep := fun i h h' st k => st.at fun o e => k it (by simp) o e
 item := by
  intro X hP hw hK hc i pins s σ H E I hf st hg
  subst hP hw hK
  obtain ⟨xs, x, hq, hx⟩ := hg
  obtain ⟨bb, rv, p, hz⟩ := I.list hq
  obtain ⟨u, hu, ru⟩ := rv.get hx
  obtain ⟨f0, f1, f2, f3, f4, f5⟩ := hf it (by simp)
  refine wpAny_pyNext_list_item st p.isList (x := u) (by simpa using hu) fun h' MK sb => ?_
  have I1 : Inv X pins σ H { s with heap := h' } := I.turned (t' := s.toks) (fun b o hb e => (sb.2 b hb).trans e) f0 f1 f3 f4 f5
  obtain ⟨o, e, c, d⟩ := id MK
  exact ⟨u, rfl, Q6 (s := { s with heap := h' }) e c d (by decide) ⟨x, H, I1, ru, ⟨rfl, fun ys hy => by rw [I.Cz hy hq]; exact hx⟩, MK, fun b hb => (hf b hb).1⟩⟩
 done := by
  intro X hP hw hK hc i pins s σ H E I hf st hg
  subst hP hw hK
  obtain ⟨xs, hq, hx⟩ := hg
  obtain ⟨bb, rv, p, hz⟩ := I.list hq
  obtain ⟨f0, f1, f2, f3, f4, f5⟩ := hf it (by simp)
  have hl := rv.length
  exact wpAny_pyNext_list_end (I.ok.hd hc) st p.isList (by simp; omega) fun h' eb => ⟨rfl, I.turned (t' := s.toks) (fun b o hb e => eb b o hb e) f0 f1 f3 f4 f5⟩
 self := fun _ _ _ _ _ st h => wpAny_pyIter_listiter st h
theorem EW {P : Program} {w : World} {K : PySem.W.Frag} {tg : Expr} (it : Addr) (lo : Int) (n : Nat) : Turn P w K tg (Ju lo n) [it] it (fun i h => IsRangeIter h it (lo + (i : Nat) * 1) ((n : Int) - (i : Nat)) 1) where
 mem := by simp
 obj := fun i h st b hb => by
  have e : b = it := by simpa using hb
  subst e
  exact ⟨_, st, fun v z => by
   have z' : Data.fields _ = Data.cell v := z
   cases z'⟩
 keep := fun i h h' st k => k it (by simp) _ st
 item := by
  intro X hP hw hK hc i pins s σ H E I hf st hg
  subst hP hw hK
  obtain ⟨f0, f1, f2, f3, f4, f5⟩ := hf it (by simp)
  have W := Walks.range (prog := X.prog) (w := X.w) (I.ok.hd hc) it lo 1 n
  refine W.item i s _ _ hg st fun v h' tk hv MK kk => ?_
  obtain ⟨t, rfl⟩ := hv
  have I1 : Inv X pins σ H { s with heap := h', toks := tk } := I.turned (fun b o hb e => kk b o (by simpa using hb) e) f0 f1 f3 f4 f5
  refine ⟨_, rfl, Q6 (s := { s with heap := h', toks := tk }) (n := "range_iterator") MK rfl rfl (by decide) ⟨.int (lo + i), H, I1, ⟨t, ?_⟩, ⟨rfl, rfl⟩, MK, fun b hb => (hf b hb).1⟩⟩
  rw [Int.mul_one]
 done := by
  intro X hP hw hK hc i pins s σ H E I hf st hg
  subst hP hw hK
  obtain ⟨f0, f1, f2, f3, f4, f5⟩ := hf it (by simp)
  exact wpAny_pyNext_range_end (I.ok.hd hc) st (by have : n <= i := hg; omega) fun h' eb => ⟨rfl, I.turned (t' := s.toks) (fun b o hb e => eb b o hb e) f0 f1 f3 f4 f5⟩
 self := fun _ _ _ _ _ st h => wpAny_pyIter_rangeiter st h
section
variable {X : Cx} {tg : Expr}
def IZ (K : PySem.W.Frag) (tl : TE) : TI := fun σ H R => tl σ H fun x H1 => ∃ a, x = .ref a /\ (∃ xs, fj K H1 a xs) /\ R (Ld K a) H1
theorem gP {l : Expr} {tl : TE} (hl : PE X l tl) : PI X tg l (IZ X.K tl) := by
 intro pins s σ H R I h
 refine cm (hl pins s σ H _ I h) fun v s1 ⟨x, H1, I1, r1, q1⟩ => ?_
 obtain ⟨a, e, ⟨xs, hq⟩, q⟩ := q1
 subst e
 cases r1
 obtain ⟨bb, rv, p, hz⟩ := I1.list hq
 refine wpAny_pyIter_list p.isList ?_
 refine ⟨s1.heap.objs.size, [s1.heap.objs.size], _, _, H1, rfl, I1.kept (t' := s1.toks) fun b o e => Heap.get?_push_of_some _ e, HC a _, ⟨_, Heap.get?_push_size _ rfl, rfl, rfl⟩, fun b hb => ?_, q⟩
 have e : b = s1.heap.objs.size := by simpa using hb
 subst e
 exact I1.Dj (Nat.le_refl _) (I1.aP.fresh (Nat.le_refl _))
theorem JM {pins : List (Addr × Obj)} {σ : St} {H : Hp} {s : Shared} {R : It -> Hp -> Prop} {E : Value -> Shared -> Prop} {lo hi : Int} {t u v : Tok} {tk : Nat} (I : Inv X pins σ H s) (h1 : -(2 ^ 62) <= lo) (h2 : lo < 2 ^ 62) (h3 : -(2 ^ 62) <= hi) (h4 : hi < 2 ^ 62)
 (q : R (Ju lo (hi - lo).toNat) H) : wpAny (model X.prog X.w) X.A (pyIter (.ref s.heap.objs.size)) (PIE X pins σ tg R) E { s with heap := s.heap.push { cls := .type "range", data := .fields #[.int lo t, .int hi u, .int 1 v] }, toks := tk } := by
 refine wpAny_pyIter_range (IsRange.new ..) (small_one h1 h2 h3 h4) ?_
 have I1 : Inv X pins σ H { s with heap := s.heap.push { cls := .type "range", data := .fields #[.int lo t, .int hi u, .int 1 v] }, toks := tk } := I.kept fun b o e => Heap.get?_push_of_some _ e
 refine ⟨(s.heap.push { cls := .type "range", data := .fields #[.int lo t, .int hi u, .int 1 v] }).objs.size, [(s.heap.push { cls := .type "range", data := .fields #[.int lo t, .int hi u, .int 1 v] }).objs.size], _, _, H, rfl,
  I1.kept (t' := tk) fun b o e => Heap.get?_push_of_some _ e, EW _ lo (hi - lo).toNat, ?_, fun b hb => ?_, q⟩
 . have e1 : lo + ((0 : Nat) : Int) * 1 = lo := by simp
   have e2 : (((hi - lo).toNat : Nat) : Int) - ((0 : Nat) : Int) = Builtin.Range.rangeSize lo hi 1 := by rw [rangeSize_one]; split <;> omega
   show IsRangeIter _ _ (lo + ((0 : Nat) : Int) * 1) ((((hi - lo).toNat : Nat) : Int) - ((0 : Nat) : Int)) 1
   rw [e1, e2]
   exact Heap.get?_push_size _ rfl
 . have e : b = (s.heap.push { cls := .type "range", data := .fields #[.int lo t, .int hi u, .int 1 v] }).objs.size := by simpa using hb
   subst e
   exact I1.Dj (Nat.le_refl _) (I1.aP.fresh (Nat.le_refl _))
def KZ (ta : TA) : TI := fun σ H R => ta σ H fun vs H1 => ∃ j : Int, vs = [.int j] /\ -(2 ^ 62) <= j /\ j < 2 ^ 62 /\ R (Ju 0 j.toNat) H1
theorem lJ {a : Expr} {ta : TA} {p pos : Pos} (hg : Gl X "range") (hm : X.mg "range" = none) (ha : PA X [a] ta) (hs : starEach [a] X.env = [(false, eval a X.env)] := by rfl) : PI X tg (.Call (.Name "range" p) [a] [] pos) (KZ ta) := by
 intro pins s σ H R I h
 refine Call_ (uU I hg hm boot_range (PyProof.Rows.callWith_type1 (cm (ha pos pins s σ H _ I h) fun us s1 ⟨vs, H1, I1, r1, q1⟩ => ?_) hs rfl))
 obtain ⟨j, e, q1, q2, q⟩ := q1
 subst e
 cases r1 with
 | cons r rr =>
   cases rr
   obtain ⟨t, rfl⟩ := r
   exact call_range_1 (JM I1 (by omega) (by omega) q1 q2 (by simpa using q))
def Nq (wi : TI) (g : TG) (tb : TS) : TS := fun D σ H => wi σ H fun J H1 => ∃ W : Nat -> Nat -> St -> Hp -> Prop, (∃ m, W 0 m σ H1) /\ ∀ i m σ H, W i m σ H ->
 (J.stop i H /\ D.nx σ H) \/ (J.go i H /\ ∃ N : St -> Hp -> Prop, (∀ σ' H', N σ' H' -> ∃ m', m' < m /\ W (i + 1) m' σ' H') /\ ∀ x H', J.Qy i H x H' -> g x σ H' fun σ2 H2 => tb { D with nx := N, ct := N, bk := D.nx } σ2 H2)
def yF (fp : List Addr) (h : Heap) : List (Addr × Obj) := fp.filterMap fun b => (h.get? b).map fun o => (b, o)
theorem mL {fp : List Addr} {h : Heap} {b : Addr} {o : Obj} (hb : b ∈ fp) (e : h.get? b = some o) : (b, o) ∈ yF fp h := List.mem_filterMap.mpr ⟨b, hb, by rw [e]; rfl⟩
theorem G6 {fp : List Addr} {h : Heap} {p : Addr × Obj} (hp : p ∈ yF fp h) : p.1 ∈ fp /\ h.get? p.1 = some p.2 := by
 obtain ⟨b, hb, e⟩ := List.mem_filterMap.mp hp
 cases q : h.get? b with
 | none => rw [q] at e; cases e
 | some o =>
   rw [q] at e
   have e' : (b, o) = p := Option.some.inj e
   subst e'
   exact ⟨hb, q⟩
theorem Inv.pinned {pins : List (Addr × Obj)} {σ : St} {H : Hp} {s : Shared} {fp : List Addr} (I : Inv X pins σ H s) (hf : ∀ b ∈ fp, pK X pins H b) (ho : ∀ b ∈ fp, ∃ o, s.heap.get? b = some o /\ ∀ v, o.data ≠ .cell v) : Inv X (pins ++ yF fp s.heap) σ H s :=
 I.sQ fun p hp => (List.mem_append.mp hp).elim (fun z => I.pin p (List.mem_append_right _ z)) fun z => by
  obtain ⟨hb, e⟩ := G6 z
  obtain ⟨f0, f1, f2, _⟩ := hf p.1 hb
  obtain ⟨o, e', d⟩ := ho p.1 hb
  rw [e] at e'; cases e'
  exact ⟨e, f0, f1, f2, d⟩
theorem Inv.wQ {pins pl : List (Addr × Obj)} {σ : St} {H : Hp} {s : Shared} (I : Inv X (pins ++ pl) σ H s) : Inv X pins σ H s := I.sQ fun p hp => I.pin p (List.mem_append_right _ (List.mem_append_left _ hp))
theorem gC {iter : Expr} {body : List Stmt} {wi : TI} {g : TG} {tb : TS} {pos : Pos} (hp : PassesOwn (model X.prog X.w) X.A X.env X.xe) (hc : X.calm = true) (hi : PI X tg iter wi) (hg : PG X tg g) (hb : By X body tb)
 (hs : ∀ x, foldedSetIterable iter X.env x = pure x := by intro _; rfl) : PS X (.For tg iter body [] pos) (Nq wi g tb) := by
 intro pins s σ H D I h
 refine wpAny_For (cm (hi pins s σ H _ I h) fun v s1 h1 => cm h1 fun Ze s2 h2 => ?_) hs
 obtain ⟨it, fp, tn, J, H2, e, I2, T, st2, f2, W, ⟨m0, w0⟩, turn⟩ := h2
 subst e
 have stat : ∀ {H' : Hp}, (∀ b ∈ fp, H' b = none) -> ∀ b ∈ fp, pK X pins H' b := fun hn b hb => ⟨hn b hb, (f2 b hb).2⟩
 refine codeAny_forLoop_any (fun n s' => ∃ i σ' H', Inv X pins σ' H' s' /\ tn i s'.heap /\ (∀ b ∈ fp, H' b = none) /\ W i n σ' H') ?_ m0 ⟨0, σ, H2, I2, st2, fun b hb => (f2 b hb).1, w0⟩
 rintro n s3 ⟨i, σ3, H3, I3, Wa, Yl, w3⟩
 rcases turn i n σ3 H3 w3 with ⟨stop, qn⟩ | ⟨go, N, hN, step⟩
 . refine wpAny_passesOwn hp (cm (T.done X rfl rfl rfl hc i pins s3 σ3 H3 X.xe I3 (stat Yl) Wa stop) fun r s4 ⟨hr, I4⟩ => ?_)
   subst hr
   exact wpAny_execs_nil ⟨σ3, H3, I4, qn⟩
 . refine wpAny_passesOwn hp (cm (T.item X rfl rfl rfl hc i pins s3 σ3 H3 X.xe I3 (stat Yl) Wa go) fun r s4 ⟨u, hr, h4⟩ => ?_)
   subst hr
   refine wpAny_passesOwn hp (cm h4 fun _ s5 ⟨x, H5, I5, r5, y5, Sn, Z1⟩ => ?_)
   have I5' := I5.pinned (stat Z1) (T.obj _ _ Sn)
   refine wpAny_passesOwn hp (cm (hg _ s5 σ3 H5 x u _ I5' r5 (step x H5 y5)) fun _ s6 ⟨σ6, H6, I6, q6⟩ => ?_)
   refine wpAny_passesOwn hp (cm (hb _ s6 σ6 H6 _ I6 q6) fun f s7 q7 => ?_)
   have again : ∀ {σ7 : St} {H7 : Hp}, Inv X (pins ++ yF fp s5.heap) σ7 H7 s7 -> N σ7 H7 -> ∃ m, m < n /\ ∃ i σ' H', Inv X pins σ' H' s7 /\ tn i s7.heap /\ (∀ b ∈ fp, H' b = none) /\ W i m σ' H' := fun {σ7 H7} I7 n7 => by
    obtain ⟨m', hm, w7⟩ := hN σ7 H7 n7
    refine ⟨m', hm, i + 1, σ7, H7, I7.wQ, T.keep _ _ _ Sn fun b hb o e => (I7.pin (b, o) (List.mem_append_right _ (List.mem_append_right _ (mL hb e)))).1, fun b hb => ?_, w7⟩
    obtain ⟨o, e, d⟩ := T.obj _ _ Sn b hb
    exact (I7.pin (b, o) (List.mem_append_right _ (List.mem_append_right _ (mL hb e)))).2.1
   cases f with
   | next => obtain ⟨σ7, H7, I7, n7⟩ := q7; exact again I7 n7
   | cont => obtain ⟨σ7, H7, I7, n7⟩ := q7; exact again I7 n7
   | brk => obtain ⟨σ7, H7, I7, q7⟩ := q7; exact ⟨σ7, H7, I7.wQ, q7⟩
   | ret v => obtain ⟨x7, σ7, H7, I7, r7, q7⟩ := q7; exact ⟨x7, σ7, H7, I7.wQ, r7, q7⟩
end
theorem JY {K : PySem.W.Frag} {a : Addr} {xs : List V} {g : TG} {tb : TS} {D : Ends} {σ : St} {H : Hp} (Pv : Nat -> St -> Hp -> Prop) (h0 : Pv 0 σ H) (hl : ∀ i σ H, i <= xs.length -> Pv i σ H -> fj K H a xs)
 (hs : ∀ i x σ H, xs[i]? = some x -> Pv i σ H -> g x σ H fun σ2 H2 => tb { D with nx := Pv (i + 1), ct := Pv (i + 1), bk := D.nx } σ2 H2) (hd : ∀ σ H, Pv xs.length σ H -> D.nx σ H) :
 ∃ W : Nat -> Nat -> St -> Hp -> Prop, (∃ m, W 0 m σ H) /\ ∀ i m σ H, W i m σ H ->
   ((Ld K a).stop i H /\ D.nx σ H) \/ ((Ld K a).go i H /\ ∃ N : St -> Hp -> Prop, (∀ σ' H', N σ' H' -> ∃ m', m' < m /\ W (i + 1) m' σ' H') /\ ∀ x H', (Ld K a).Qy i H x H' -> g x σ H' fun σ2 H2 => tb { D with nx := N, ct := N, bk := D.nx } σ2 H2) := by
 refine ⟨fun i m σ H => m = xs.length - i /\ i <= xs.length /\ Pv i σ H, ⟨xs.length, by simp, Nat.zero_le _, h0⟩, ?_⟩
 rintro i m σ H ⟨rfl, hi, p⟩
 have q := hl i σ H hi p
 by_cases eI : i < xs.length
 . refine .inr ⟨⟨xs, xs[i], q, by simp [eI]⟩, Pv (i + 1), fun σ' H' p' => ⟨xs.length - (i + 1), by omega, rfl, eI, p'⟩, fun x H' y => ?_⟩
   obtain ⟨e, y⟩ := y
   subst e
   exact hs i x σ _ (y xs q) p
 . have e : i = xs.length := by omega
   subst e
   exact .inl ⟨⟨xs, q, Nat.le_refl _⟩, hd σ H p⟩
theorem uK {lo : Int} {n : Nat} {g : TG} {tb : TS} {D : Ends} {σ : St} {H : Hp} (Pv : Nat -> St -> Hp -> Prop) (h0 : Pv 0 σ H)
 (hs : ∀ i σ H, i < n -> Pv i σ H -> g (.int (lo + i)) σ H fun σ2 H2 => tb { D with nx := Pv (i + 1), ct := Pv (i + 1), bk := D.nx } σ2 H2) (hd : ∀ σ H, Pv n σ H -> D.nx σ H) :
 ∃ W : Nat -> Nat -> St -> Hp -> Prop, (∃ m, W 0 m σ H) /\ ∀ i m σ H, W i m σ H ->
   ((Ju lo n).stop i H /\ D.nx σ H) \/ ((Ju lo n).go i H /\ ∃ N : St -> Hp -> Prop, (∀ σ' H', N σ' H' -> ∃ m', m' < m /\ W (i + 1) m' σ' H') /\ ∀ x H', (Ju lo n).Qy i H x H' -> g x σ H' fun σ2 H2 => tb { D with nx := N, ct := N, bk := D.nx } σ2 H2) := by
 refine ⟨fun i m σ H => m = n - i /\ i <= n /\ Pv i σ H, ⟨n, by simp, Nat.zero_le _, h0⟩, ?_⟩
 rintro i m σ H ⟨rfl, hi, p⟩
 by_cases eI : i < n
 . refine .inr ⟨eI, Pv (i + 1), fun σ' H' p' => ⟨n - (i + 1), by omega, rfl, eI, p'⟩, fun x H' y => ?_⟩
   obtain ⟨e, y⟩ := y
   subst e y
   exact hs i σ _ eI p
 . have e : i = n := by omega
   subst e
   exact .inl ⟨Nat.le_refl _, hd σ H p⟩
abbrev R2 := V -> V -> Hp -> VK -> Prop
def o4 (X : Cx) (f : Value -> Value -> Sem Value) (r : R2) : Prop :=
 ∀ (pins : List (Addr × Obj)) (s : Shared) (σ : St) (H : Hp) (x y : V) (v u : Value) (Q : VK), Inv X pins σ H s -> RelV x v -> RelV y u -> r x y H Q ->
   wpAny (model X.prog X.w) X.A (f v u) (EP X pins σ Q) X.xe s
def UnR (X : Cx) (f : Value -> Sem Value) (r : V -> Hp -> VK -> Prop) : Prop :=
 ∀ (pins : List (Addr × Obj)) (s : Shared) (σ : St) (H : Hp) (x : V) (v : Value) (Q : VK), Inv X pins σ H s -> RelV x v -> r x H Q ->
   wpAny (model X.prog X.w) X.A (f v) (EP X pins σ Q) X.xe s
def p8 (X : Cx) (f : Value) (r : List V -> Hp -> VK -> Prop) : Prop :=
 ∀ (pins : List (Addr × Obj)) (s : Shared) (σ : St) (H : Hp) (xs : List V) (us : List Value) (Q : VK), Inv X pins σ H s -> Vals xs us -> r xs H Q ->
   wpAny (model X.prog X.w) X.A (call f us) (EP X pins σ Q) X.xe s
def ZD (X : Cx) (r : V -> Hp -> (Bool -> Hp -> Prop) -> Prop) : Prop :=
 ∀ (pins : List (Addr × Obj)) (s : Shared) (σ : St) (H : Hp) (x : V) (v : Value) (Q : Bool -> Hp -> Prop), Inv X pins σ H s -> RelV x v -> r x H Q ->
   wpAny (model X.prog X.w) X.A (truthy v) (TP X pins σ Q) X.xe s
def WD (r : R2) (ta tb : TE) : TE := fun σ H Q => ta σ H fun x H1 => tb σ H1 fun y H2 => r x y H2 Q
def tUn (r : V -> Hp -> VK -> Prop) (ta : TE) : TE := fun σ H Q => ta σ H fun x H1 => r x H1 Q
def rI (C : Int -> Int -> Prop) (g : Int -> Int -> V) : R2 := fun x y H Q => ∃ i j, x = .int i /\ y = .int j /\ C i j /\ Q (g i j) H
def Jd (g : Int -> Int -> V) : R2 := fun x y H Q => ∃ i j, x = .int i /\ y = .int j /\ Q (g i j) H
def rU (g : Int -> V) : V -> Hp -> VK -> Prop := fun x H Q => ∃ i, x = .int i /\ Q (g i) H
section
variable {X : Cx} {a b c : Expr} {ta tb tc : TE} {pos : Pos}
theorem Sh (ha : PE X a ta) (hb : PE X b tb) {pins : List (Addr × Obj)} {s : Shared} {σ : St} {H : Hp} {R : V -> V -> Hp -> Prop} (I : Inv X pins σ H s)
 (h : ta σ H fun x H1 => tb σ H1 fun y H2 => R x y H2) {Q : Value -> Shared -> Prop} {f : Value -> Value -> Sem Value}
 (hf : ∀ v u s2 x y H2, Inv X pins σ H2 s2 -> RelV x v -> RelV y u -> R x y H2 -> wpAny (model X.prog X.w) X.A (f v u) Q X.xe s2) :
 wpAny (model X.prog X.w) X.A (eval a X.env) (fun v s₁ => wpAny (model X.prog X.w) X.A (eval b X.env) (fun u s₂ => wpAny (model X.prog X.w) X.A (f v u) Q X.xe s₂) X.xe s₁) X.xe s := by
 refine cm (ha pins s σ H _ I h) fun v s1 ⟨x, H1, I1, r1, q1⟩ => ?_
 refine cm (hb pins s1 σ H1 _ I1 q1) fun u s2 ⟨y, H2, I2, r2, q2⟩ => ?_
 exact hf v u s2 x y H2 I2 r1 r2 q2
theorem ay {op : Operator} {r : R2} (ho : o4 X (binaryOp op) r) (ha : PE X a ta) (hb : PE X b tb) : PE X (.BinOp a op b pos) (WD r ta tb) := by
 intro pins s σ H Q I h
 exact wpAny_BinOp (Sh ha hb I h fun v u s2 x y H2 I2 rx ry q => ho pins s2 σ H2 x y v u Q I2 rx ry q)
theorem QH {op : UnaryOp} {r : V -> Hp -> VK -> Prop} (ho : UnR X (unaryOp op) r) (ha : PE X a ta) : PE X (.UnaryOp op a pos) (tUn r ta) := by
 intro pins s σ H Q I h
 exact UnaryOp_ (cm (ha pins s σ H _ I h) fun v s1 ⟨x, H1, I1, r1, q1⟩ => ho pins s1 σ H1 x v Q I1 r1 q1)
theorem Vh {f : Value -> Value -> Sem Value} {C : Int -> Int -> Prop} {g : Int -> Int -> Int}
 (rule : ∀ (i j : Int) (t u : Tok) (s : Shared) (Q : Value -> Shared -> Prop) (E : Value -> Shared -> Prop), C i j -> Q (.int (g i j) s.toks) { s with toks := s.toks + 1 } -> wpAny (model X.prog X.w) X.A (f (.int i t) (.int j u)) Q E s) :
 o4 X f (rI C fun i j => .int (g i j)) := by
 intro pins s σ H x y v u Q I rx ry h
 obtain ⟨i, j, rfl, rfl, hc, q⟩ := h
 obtain ⟨t, rfl⟩ := rx
 obtain ⟨t', rfl⟩ := ry
 exact rule i j t t' s _ _ hc ⟨.int (g i j), H, I.tok _, ⟨_, rfl⟩, q⟩
theorem Mg {f : Value -> Value -> Sem Value} {g : Int -> Int -> Int}
 (rule : ∀ (i j : Int) (t u : Tok) (s : Shared) (Q : Value -> Shared -> Prop) (E : Value -> Shared -> Prop), Q (.int (g i j) s.toks) { s with toks := s.toks + 1 } -> wpAny (model X.prog X.w) X.A (f (.int i t) (.int j u)) Q E s) :
 o4 X f (Jd fun i j => .int (g i j)) := by
 intro pins s σ H x y v u Q I rx ry h
 obtain ⟨i, j, rfl, rfl, q⟩ := h
 obtain ⟨t, rfl⟩ := rx
 obtain ⟨t', rfl⟩ := ry
 exact rule i j t t' s _ _ ⟨.int (g i j), H, I.tok _, ⟨_, rfl⟩, q⟩
theorem Um {f : Value -> Value -> Sem Value} {g : Int -> Int -> Bool}
 (rule : ∀ (i j : Int) (t u : Tok) (s : Shared) (Q : Value -> Shared -> Prop) (E : Value -> Shared -> Prop), Q (.bool (g i j)) s -> wpAny (model X.prog X.w) X.A (f (.int i t) (.int j u)) Q E s) :
 o4 X f (Jd fun i j => .bl (g i j)) := by
 intro pins s σ H x y v u Q I rx ry h
 obtain ⟨i, j, rfl, rfl, q⟩ := h
 obtain ⟨t, rfl⟩ := rx
 obtain ⟨t', rfl⟩ := ry
 exact rule i j t t' s _ _ ⟨.bl (g i j), H, I, rfl, q⟩
def OI (i j : Int) : Prop := 0 <= j /\ j <= 1000000 /\ i.natAbs < 2 ^ 64
def TK (i j : Int) : Prop := (-(2 ^ 64) < i /\ i < 2 ^ 64) \/ (-(2 ^ 64) < j /\ j < 2 ^ 64)
theorem TK.ok {i j : Int} (h : TK i j) : IntMulOk i j := by
 rcases h with ⟨h1, h2⟩ | ⟨h1, h2⟩
 . exact .of_left (intBits_le_64 h1 h2)
 . exact .of_right (intBits_le_64 h1 h2)
theorem dX : o4 X (binaryOp .Add) (Jd fun i j => .int (i + j)) := Mg fun _ _ _ _ _ _ _ q => add_int q
theorem yw : o4 X (binaryOp .Sub) (Jd fun i j => .int (i - j)) := Mg fun _ _ _ _ _ _ _ q => sub_int q
theorem Rx : o4 X (binaryOp .Mult) (rI TK fun i j => .int (i * j)) := Vh fun _ _ _ _ _ _ _ hc q => mul_int q hc.ok
theorem Sj : o4 X (binaryOp .Mod) (rI (fun _ j => 0 < j) fun i j => .int (i % j)) := Vh fun i j _ _ _ _ _ hc q => by
 have h1 : (0 : Int) < j := hc
 exact mod_int' (by omega) (by rw [Int.fmod_eq_emod_of_nonneg i (by omega)]; exact q)
theorem xh : o4 X (binaryOp .Pow) (rI OI fun i j => .int (i ^ j.toNat)) := Vh fun _ _ _ _ _ _ _ hc q => pow_int_small hc.1 hc.2.1 hc.2.2 q
theorem AU : o4 X (binaryOp .LShift) (rI OI fun i j => .int (i * 2 ^ j.toNat)) := Vh fun _ _ _ _ _ _ _ hc q => lshift_int_small hc.1 hc.2.1 hc.2.2 q
theorem SQ : o4 X (binaryOp .BitAnd) (Jd fun i j => .int (Builtin.bitAnd i j)) := Mg fun _ _ _ _ _ _ _ q => and_int q
theorem Wy : o4 X (binaryOp .BitOr) (Jd fun i j => .int (Builtin.bitOr i j)) := Mg fun _ _ _ _ _ _ _ q => or_int q
theorem KI : o4 X (binaryOp .BitXor) (Jd fun i j => .int (Builtin.bitXor i j)) := Mg fun _ _ _ _ _ _ _ q => xor_int q
theorem unI {f : Value -> Sem Value} {g : Int -> Int}
 (rule : ∀ (i : Int) (t : Tok) (s : Shared) (Q : Value -> Shared -> Prop) (E : Value -> Shared -> Prop), Q (.int (g i) s.toks) { s with toks := s.toks + 1 } -> wpAny (model X.prog X.w) X.A (f (.int i t)) Q E s) :
 UnR X f (rU fun i => .int (g i)) := by
 intro pins s σ H x v Q I rx h
 obtain ⟨i, rfl, q⟩ := h
 obtain ⟨t, rfl⟩ := rx
 exact rule i t s _ _ ⟨.int (g i), H, I.tok _, ⟨_, rfl⟩, q⟩
theorem KC : UnR X (unaryOp .USub) (rU fun i => .int (-i)) := unI fun _ _ _ _ _ q => neg_int q
end
def O1 : V -> V -> Bool
 | .bG, .bG => true | .bG, .int _ => true | .int _, .bG => true | .bG, .bl _ => true | .bl _, .bG => true | .bG, .str _ => true | .str _, .bG => true
 | .int _, .int _ => true | .bl _, .bl _ => true | .str _, .str _ => true | .FX _, .FX _ => true
 | .int _, .str _ => true | .str _, .int _ => true | .bl _, .str _ => true | .str _, .bl _ => true
 | _, _ => false
def rEq : R2 := fun x y H Q => O1 x y = true /\ Q (.bl (decide (x = y))) H
def rNe : R2 := fun x y H Q => O1 x y = true /\ Q (.bl (!decide (x = y))) H
theorem Gq {i j : Int} : decide (V.int i = V.int j) = (i == j) := by
 rw [Bool.eq_iff_iff]
 simp
theorem LZ {i j : Bool} : decide (V.bl i = V.bl j) = (i == j) := by
 rw [Bool.eq_iff_iff]
 simp
theorem FN {i j : Str} : decide (V.str i = V.str j) = (i == j) := by
 rw [Bool.eq_iff_iff]
 simp
theorem Gz {i j : Array UInt8} : decide (V.FX i = V.FX j) = (i.toList == j.toList) := by
 rw [Bool.eq_iff_iff]
 cases i
 cases j
 simp
section
variable {X : Cx} {a b c : Expr} {ta tb tc : TE} {pos : Pos}
theorem bo {pins : List (Addr × Obj)} {σ : St} {H : Hp} {s : Shared} {Q : VK} {k k' : Bool} (I : Inv X pins σ H s) (q : Q (.bl k) H) (e : k = k') : EP X pins σ Q (.bool k') s := by
 subst e
 exact ⟨.bl k, H, I, rfl, q⟩
theorem Ys : o4 X (compareOp .Eq) rEq := by
 intro pins s σ H x y v u Q I rx ry h
 obtain ⟨hs, q⟩ := h
 cases x with
 | bG =>
   cases rx
   cases y with
   | bG => cases ry; exact PySem.EqNone.eq_none_none (bo I q (by simp))
   | bl j => cases ry; exact PySem.EqNone.eq_none_bool (bo I q (by simp))
   | int j => obtain ⟨t', rfl⟩ := ry; exact PySem.EqNone.eq_none_int (bo I q (by simp))
   | str j => obtain ⟨t', rfl⟩ := ry; exact PySem.EqNone.eq_none_str (bo I q (by simp))
   | _ => exact absurd (show false = true from hs) Bool.false_ne_true
 | bl i =>
   cases rx
   cases y with
   | bG => cases ry; exact PySem.EqNone.eq_bool_none (bo I q (by simp))
   | bl j => cases ry; exact eq_bool (bo I q LZ)
   | str j => obtain ⟨t', rfl⟩ := ry; exact PySem.EqMixed.eq_bool_str (bo I q (by simp))
   | _ => exact absurd (show false = true from hs) Bool.false_ne_true
 | int i =>
   obtain ⟨t, rfl⟩ := rx
   cases y with
   | bG => cases ry; exact PySem.EqNone.eq_int_none (bo I q (by simp))
   | int j => obtain ⟨t', rfl⟩ := ry; exact eq_int (bo I q Gq)
   | str j => obtain ⟨t', rfl⟩ := ry; exact PySem.EqMixed.eq_int_str (bo I q (by simp))
   | _ => exact absurd (show false = true from hs) Bool.false_ne_true
 | str i =>
   obtain ⟨t, rfl⟩ := rx
   cases y with
   | bG => cases ry; exact PySem.EqNone.eq_str_none (bo I q (by simp))
   | bl j => cases ry; exact PySem.EqMixed.eq_str_bool (bo I q (by simp))
   | int j => obtain ⟨t', rfl⟩ := ry; exact PySem.EqMixed.eq_str_int (bo I q (by simp))
   | str j => obtain ⟨t', rfl⟩ := ry; exact eq_str (bo I q FN)
   | _ => exact absurd (show false = true from hs) Bool.false_ne_true
 | FX i =>
   obtain ⟨t, rfl⟩ := rx
   cases y with
   | FX j => obtain ⟨t', rfl⟩ := ry; exact PySem.W.eq_bytes (bo I q Gz)
   | _ => exact absurd (show false = true from hs) Bool.false_ne_true
 | _ => cases y <;> exact absurd (show false = true from hs) Bool.false_ne_true
theorem Xb : o4 X (compareOp .NotEq) rNe := by
 intro pins s σ H x y v u Q I rx ry h
 obtain ⟨hs, q⟩ := h
 cases x with
 | bG =>
   cases rx
   cases y with
   | bG => cases ry; exact PySem.EqNone.ne_none_none (bo I q (by simp))
   | bl j => cases ry; exact PySem.EqNone.ne_none_bool (bo I q (by simp))
   | int j => obtain ⟨t', rfl⟩ := ry; exact PySem.EqNone.ne_none_int (bo I q (by simp))
   | str j => obtain ⟨t', rfl⟩ := ry; exact PySem.EqNone.ne_none_str (bo I q (by simp))
   | _ => exact absurd (show false = true from hs) Bool.false_ne_true
 | bl i =>
   cases rx
   cases y with
   | bG => cases ry; exact PySem.EqNone.ne_bool_none (bo I q (by simp))
   | bl j => cases ry; exact ne_bool (bo I q (congrArg not LZ))
   | str j => obtain ⟨t', rfl⟩ := ry; exact PySem.EqMixed.ne_bool_str (bo I q (by simp))
   | _ => exact absurd (show false = true from hs) Bool.false_ne_true
 | int i =>
   obtain ⟨t, rfl⟩ := rx
   cases y with
   | bG => cases ry; exact PySem.EqNone.ne_int_none (bo I q (by simp))
   | int j => obtain ⟨t', rfl⟩ := ry; exact ne_int (bo I q (congrArg not Gq))
   | str j => obtain ⟨t', rfl⟩ := ry; exact PySem.EqMixed.ne_int_str (bo I q (by simp))
   | _ => exact absurd (show false = true from hs) Bool.false_ne_true
 | str i =>
   obtain ⟨t, rfl⟩ := rx
   cases y with
   | bG => cases ry; exact PySem.EqNone.ne_str_none (bo I q (by simp))
   | bl j => cases ry; exact PySem.EqMixed.ne_str_bool (bo I q (by simp))
   | int j => obtain ⟨t', rfl⟩ := ry; exact PySem.EqMixed.ne_str_int (bo I q (by simp))
   | str j => obtain ⟨t', rfl⟩ := ry; exact ne_str (bo I q (congrArg not FN))
   | _ => exact absurd (show false = true from hs) Bool.false_ne_true
 | FX i =>
   obtain ⟨t, rfl⟩ := rx
   cases y with
   | FX j => obtain ⟨t', rfl⟩ := ry; exact PySem.W.ne_bytes (bo I q (congrArg not Gz))
   | _ => exact absurd (show false = true from hs) Bool.false_ne_true
 | _ => cases y <;> exact absurd (show false = true from hs) Bool.false_ne_true
theorem xA : o4 X (compareOp .Lt) (Jd fun i j => .bl (decide (i < j))) := Um fun _ _ _ _ _ _ _ q => lt_int q
theorem vC : o4 X (compareOp .LtE) (Jd fun i j => .bl (decide (i <= j))) := Um fun _ _ _ _ _ _ _ q => le_int q
theorem B8 : o4 X (compareOp .Gt) (Jd fun i j => .bl (decide (j < i))) := Um fun _ _ _ _ _ _ _ q => gt_int q
theorem aR (b : Expr) {op : CmpOp} (h : op ≠ .In := by decide) (h2 : op ≠ .NotIn := by decide) : behindInMarks op b = false := by
 have e1 : (op == CmpOp.In) = false := by cases op <;> first | rfl | exact absurd rfl h
 have e2 : (op == CmpOp.NotIn) = false := by cases op <;> first | rfl | exact absurd rfl h2
 cases b <;> simp [behindInMarks, e1, e2]
theorem OD {op : CmpOp} {r : R2} (ho : o4 X (compareOp op) r) (ha : PE X a ta) (hb : PE X b tb) (hm : behindInMarks op b = false) : PE X (.Compare a [op] [b] pos) (WD r ta tb) := by
 intro pins s σ H Q I h
 exact wpAny_Compare1 (Sh ha hb I h fun v u s2 x y H2 I2 rx ry q => ho pins s2 σ H2 x y v u Q I2 rx ry q) hm
def K0 (t : TE) : TT := fun σ H Q => t σ H fun x H' => ∃ k, x = .bl k /\ Q k H'
theorem aJ {op : CmpOp} {r : R2} (ho : o4 X (compareOp op) r) (ha : PE X a ta) (hb : PE X b tb) (hm : behindInMarks op b = false) : PT X (.Compare a [op] [b] pos) (K0 (WD r ta tb)) := by
 intro pins s σ H Q I h
 refine wpAny_isTrue_Compare1 (cm (ha pins s σ H _ I h) fun v s1 ⟨x, H1, I1, r1, q1⟩ => cm (hb pins s1 σ H1 _ I1 q1) fun u s2 ⟨y, H2, I2, r2, q2⟩ =>
  cm (ho pins s2 σ H2 x y v u _ I2 r1 r2 q2) fun c s3 ⟨z, H3, I3, r3, k, e, q3⟩ => ?_) hm
 subst e
 cases r3
 exact wpAny_truthy_bool ⟨H3, I3, q3⟩
def Ki (r r' : R2) (ta tb tc : TE) : TE := fun σ H Q => ta σ H fun x H1 => tb σ H1 fun y H2 => r x y H2 fun z H3 => ∃ k, z = .bl k /\
 (if k = true then tc σ H3 fun w' H4 => r' y w' H4 Q else Q (.bl false) H3)
theorem C3 {op ZS : CmpOp} {r r' : R2} (ho : o4 X (compareOp op) r) (ME : o4 X (compareOp ZS) r') (ha : PE X a ta) (hb : PE X b tb) (hc : PE X c tc)
 (hm : lastMarks [op, ZS] [b, c] = false := by with_unfolding_all rfl) : PT X (.Compare a [op, ZS] [b, c] pos) (K0 (Ki r r' ta tb tc)) := by
 intro pins s σ H Q I h
 refine isTrue_chain (cm (ha pins s σ H _ I h) fun v s1 ⟨x, H1, I1, r1, q1⟩ => test_link (cm (hb pins s1 σ H1 _ I1 q1) fun u s2 ⟨y, H2, I2, r2, q2⟩ =>
  cm (ho pins s2 σ H2 x y v u _ I2 r1 r2 q2) fun d s3 ⟨z, H3, I3, r3, k, e, q3⟩ => ?_)) hm
 subst e
 cases r3
 refine wpAny_truthy_bool ?_
 cases k with
 | false =>
   obtain ⟨k', e', q'⟩ := q3
   cases e'
   exact ite_ff ⟨H3, I3, q'⟩
 | true =>
   refine ite_tt (test_last (cm (hc pins s3 σ H3 _ I3 q3) fun w' s4 ⟨z', H4, I4, r4, q4⟩ => cm (ME pins s4 σ H4 y z' u w' _ I4 r2 r4 q4) fun d' s5 ⟨z2, H5, I5, r5, k2, e2, q5⟩ => ?_))
   subst e2
   cases r5
   exact wpAny_truthy_bool ⟨H5, I5, q5⟩
def DT (K : PySem.W.Frag) (x : V) (H : Hp) (k : Bool) : Prop :=
 match x with
 | .bG => k = false
 | .bl b => k = b
 | .int i => k = (i != 0)
 | .str y => y.length <= sizeLine /\ k = ((y.length : Int) != 0)
 | .FX y => y.size <= sizeLine /\ k = ((y.size : Int) != 0)
 | .ref p => (∃ xs, fj K H p xs /\ k = !xs.isEmpty) \/ (∃ xs, DA K H p xs /\ k = !xs.isEmpty) \/ ∃ ax, H p = some (.dK ax) /\ k = !ax.isEmpty
 | _ => False
theorem Et {κ : Type} {ax : List (κ × V)} {vs : List (κ × Value)} (r : KV ax vs) : (!vs.isEmpty) = !ax.isEmpty := by
 cases r <;> rfl
theorem wL {xs : List V} {bb : List Value} (r : Vals xs bb) : (!bb.toArray.isEmpty) = !xs.isEmpty := by
 cases r <;> simp
theorem u6 : (sizeLine : Nat) < 2 ^ 63 := by rw [sizeLine_eq]; decide
theorem Ri : ZD X (fun x H Q => ∃ k, DT X.K x H k /\ Q k H) := by
 intro pins s σ H x v Q I rx h
 obtain ⟨k, e, q⟩ := h
 have hl := u6
 have hs : sizeLine = 16777216 := sizeLine_eq
 cases x with
 | bG =>
   cases rx
   have e' : k = false := e
   subst e'
   exact truthy_none ⟨H, I, q⟩
 | bl b =>
   cases rx
   have e' : k = b := e
   subst e'
   exact wpAny_truthy_bool ⟨H, I, q⟩
 | int i =>
   obtain ⟨t, rfl⟩ := rx
   have e' : k = (i != 0) := e
   subst e'
   exact PySem.P.truthy_int ⟨H, I, q⟩
 | str y =>
   obtain ⟨t, rfl⟩ := rx
   obtain ⟨hy, e'⟩ : y.length <= sizeLine /\ k = ((y.length : Int) != 0) := e
   subst e'
   exact PySem.P.truthy_str (by omega) ⟨H, I.tok _, q⟩
 | FX y =>
   obtain ⟨t, rfl⟩ := rx
   obtain ⟨hy, e'⟩ : y.size <= sizeLine /\ k = ((y.size : Int) != 0) := e
   subst e'
   exact PySem.W.truthy_bytes (by omega) ⟨H, I.tok _, q⟩
 | ref p =>
   cases rx
   have e' : (∃ xs, fj X.K H p xs /\ k = !xs.isEmpty) \/ (∃ xs, DA X.K H p xs /\ k = !xs.isEmpty) \/ ∃ ax, H p = some (.dK ax) /\ k = !ax.isEmpty := e
   rcases e' with ⟨xs, hx, e'⟩ | ⟨xs, hx, e'⟩ | ⟨ax, hx, e'⟩
   . subst e'
     obtain ⟨bb, r, pl, hz⟩ := I.list hx
     have hlen := r.length
     exact wpAny_truthy_list pl.isList (by simp only [List.size_toArray]; omega) ⟨H, I.tok _, by rw [wL r]; exact q⟩
   . subst e'
     obtain ⟨bb, r, pl, hz⟩ := I.tuple hx
     have hlen := r.length
     exact truthy_tuple pl (by simp only [List.size_toArray]; omega) ⟨H, I.tok _, by rw [wL r]; exact q⟩
   . subst e'
     obtain ⟨hz, hS, vs, r, m⟩ : ax.length <= sizeLine /\ (p == sysModules) = false /\ ∃ vs, KV ax vs /\ s.heap.DictOf (aY X.prog X.w) p vs := I.aP p _ hx
     have hlen : ax.length = vs.length := Paired.length r
     exact wpAny_truthy_dict hS m (by omega) ⟨H, I.tok _, by rw [Et r]; exact q⟩
 | _ => exact (show False from e).elim
theorem dG (ha : PE X a ta) (he : ∀ whole, isTrue a X.env whole = (do let v <- whole; standAt a.pos; holding [v] (truthy v))) :
 PT X a (fun σ H Q => ta σ H fun x H' => ∃ k, DT X.K x H' k /\ Q k H') := by
 intro pins s σ H Q I h
 exact isTrue_plain (cm (ha pins s σ H _ I h) fun v s1 ⟨x, H1, I1, r1, q1⟩ => Ri pins s1 σ H1 x v Q I1 r1 q1) (he _)
theorem E2 : o4 X (binaryOp .Add) (fun x y H Q => ∃ i j, x = .str i /\ y = .str j /\ i.length + j.length <= sizeLine /\ Q (.str (i ++ j)) H) := by
 intro pins s σ H x y v u Q I rx ry h
 obtain ⟨i, j, rfl, rfl, hz, q⟩ := h
 obtain ⟨t, rfl⟩ := rx
 obtain ⟨t', rfl⟩ := ry
 exact add_str (fun t' tk => ⟨.str (i ++ j), H, I.tok _, ⟨_, rfl⟩, q⟩) hz
theorem vals1 {x : V} {us : List Value} (r : Vals [x] us) : ∃ u, us = [u] /\ RelV x u := by
 cases r with
 | cons r1 r2 => cases r2; exact ⟨_, rfl, r1⟩
theorem vals2 {x y : V} {us : List Value} (r : Vals [x, y] us) : ∃ u w', us = [u, w'] /\ RelV x u /\ RelV y w' := by
 cases r with
 | cons r1 r2 =>
   cases r2 with
   | cons r3 r4 => cases r4; exact ⟨_, _, rfl, r1, r3⟩
theorem Hm (hc : X.calm = true) : p8 X (.builtin "max") (fun xs H Q => ∃ i j, xs = [.int i, .int j] /\ Q (.int (if j > i then j else i)) H) := by
 intro pins s σ H xs us Q I r h
 obtain ⟨i, j, rfl, q⟩ := h
 obtain ⟨u, w', rfl, ⟨t, rfl⟩, ⟨t', rfl⟩⟩ := vals2 r
 refine max_two_ints (I.ok.hd hc) fun h' tk k => ⟨_, H, I.kept k, ?_, q⟩
 by_cases hj : j > i
 . rw [if_pos hj, if_pos hj]; exact ⟨_, rfl⟩
 . rw [if_neg hj, if_neg hj]; exact ⟨_, rfl⟩
end
structure Ex (h : Heap) (x dx C : Addr) (mA : Str -> Option Value) : Prop where
 obj : h.get? x = some (PySem.W.instObj C dx)
 ns : h.Ns1 dx mA
 ne : dx ≠ x
theorem Af {h : Heap} {dx : Addr} {mA : Str -> Option Value} (n : h.Ns1 dx mA) : ∃ od, h.get? dx = some od /\ ∀ name, PySem.W.lookIn name od = some (mA name) := by
 obtain ⟨o, es, ep, ho, hd, hk, _, hm⟩ := n
 refine ⟨o, ho, fun name => ?_⟩
 have e := hm name
 unfold nsFind findBy at e
 rw [<- Array.find?_toList] at e
 unfold PySem.W.lookIn
 rw [hd]
 dsimp only
 split
 . rename_i y q
   rw [q] at e
   exact congrArg some e
 . rename_i q
   rw [q] at e
   have a : es.toList.any (·.refKey) = false := by
    rw [List.any_eq_false]
    intro y hy
    obtain ⟨z, t, aat⟩ := hk y (Array.mem_toList_iff.mp hy)
    simp [DictEntry.refKey, aat]
   have a' : ¬ es.toList.any (·.refKey) = true := by rw [a]; exact Bool.false_ne_true
   rw [if_neg a']
   exact congrArg some e
theorem Ex.look {h : Heap} {x dx C : Addr} {mA : Str -> Option Value} (I : Ex h x dx C mA) : ∃ od, PySem.W.InstAt h x (PySem.W.instObj C dx) C (some od) /\ ∀ name, PySem.W.lookIn name od = some (mA name) :=
 let ⟨od, ho, hl⟩ := Af I.ns
 ⟨od, ⟨I.obj, rfl, rfl, ho⟩, hl⟩
section
variable {prog : Program} {w : World} {A : Around} {E : Value -> Shared -> Prop} {s : Shared} {K : PySem.W.Frag} {x dx C f : Addr} {mA : Str -> Option Value} {name : Str} {v : Value}
theorem get_map {expr : Bool} {Q : Value -> Shared -> Prop} (X : K.In s.heap) (I : Ex s.heap x dx C mA) (hg : PySem.W.plainGet K C name = true) (hh : PySem.W.hasDictIn K C = true)
 (ha : PySem.W.findIn K (.ref C) name = some none) (hv : mA name = some v) (hv' : PySem.W.handedIn v = true) (h : Q v { s with toks := s.toks + 1 }) :
 wpAny (model prog w) A (getAttr (.ref x) name expr) Q E s := by
 obtain ⟨od, J, hl⟩ := I.look
 exact PySem.W.get_value X J (PySem.W.plainGet_of hg).1 (PySem.W.findObj_own hh ha rfl (by rw [hl, hv])) hv' h
theorem KS {pl : Sem Bool} {Q : Value × List Value -> Shared -> Prop} (X : K.In s.heap) (I : Ex s.heap x dx C mA) (hg : PySem.W.plainGet K C name = true)
 (hf : PySem.W.findIn K (.ref C) name = some (some (.ref f))) (ht : PySem.W.isFn K (.ref f) = true) (hv : mA name = none) (h : Q (.ref f, [.ref x]) s) :
 wpAny (model prog w) A (getMethod (.ref x) name pl) Q E s := by
 obtain ⟨od, J, hl⟩ := I.look
 exact PySem.W.method_fn X J (PySem.W.plainGet_of hg).1 (PySem.W.plainGet_of hg).2 hf (beq_iff_eq.mp ht) (by show (PySem.W.lookIn name od).map (·.isSome) = some false; rw [hl, hv]; rfl) h
theorem Oo {ns : List Str} {Q : Unit -> Shared -> Prop} (X : K.In s.heap) (I : Ex s.heap x dx C mA)
 (hs : PySem.W.findIn K (.ref C) "__setattr__" = some (some (.builtin "object.__setattr__"))) (hp : PySem.W.plainOver K C = true) (ht : PySem.W.takerIn K C name = some none) (hh : PySem.W.hasDictIn K C = true)
 (hw : PySem.Within mA ns) (hsz : ns.length <= sizeLine)
 (h : ∀ h', Ex h' x dx C (fun y => if y = name then some v else mA y) -> Heap.SameBut dx s.heap h' -> Q () { s with heap := h', toks := s.toks + 2 }) :
 wpAny (model prog w) A (setAttr (.ref x) name v) Q E s := by
 obtain ⟨od, J, hl⟩ := I.look
 refine PySem.W.set_plain X J hs (PySem.W.osa_open (s := { s with toks := s.toks + 1 }) (r := none) X J hp ht fun b => ?_)
 obtain ⟨cd, hc, lM⟩ := PySem.W.any_some hh
 have hx : s.heap.get? x = some ⟨.ref C, some dx, .plain, #[]⟩ := I.obj
 refine wpAny_bind (wpAny_pure (wpAny_bind (wpAny_bind (wpAny_loadPart hx (wpAny_bind (PySem.W.Looks.here (s := { s with toks := s.toks + 1 }) (PySem.W.looks_clsIn X hc) ?_))))))
 rw [lM]
 refine wpAny_pure (a := some dx) (wpAny_bind (wpAny_pure (wpAny_bind ?_)))
 refine wpAny_nsSet1 (s := { s with toks := s.toks + 1 }) I.ns fun h' uG MC => ?_
 obtain ⟨oD, esD, epD, hoD, hdD, hcD⟩ := uG.count (PySem.Within.cons name v hw)
 refine wpAny_bind (wpAny_lookBehind hoD (by rw [hdD]; exact pastItsLine_dict (Nat.le_trans hcD (by rw [List.length_cons]; omega))) ?_)
 exact wpAny_pure (h _ ⟨(MC.2 _ (Ne.symm I.ne)).trans I.obj, uG, I.ne⟩ MC)
theorem CO {R : Result -> Shared -> Prop} {vs : List Value} {kw : List (Str × Value)} (X : K.In s.heap) (hm : PySem.W.makesIn K C = true)
 (hi : PySem.W.findIn K (.ref C) "__init__" = some (some (.ref f))) (hf : PySem.W.typeIn K (.ref f) = some (.type "function"))
 (h : codeAny (model prog w) (A.under (.builtin "type.__call__" ⟨.ref C :: vs, kw⟩)) (.call (.ref f) ⟨.ref (s.heap.objs.size + 1) :: vs, kw⟩) (PySem.W.InitBack (s.heap.objs.size + 1) R)
  { s with heap := (s.heap.push PySem.W.emptyDict).push (PySem.W.instObj C s.heap.objs.size) }) :
 codeAny (model prog w) A (.call (.ref C) ⟨vs, kw⟩) R s := by
 obtain ⟨hh, g, d, t, os⟩ := s
 exact PySem.W.make_core (PySem.W.makes_of X hm) (PySem.W.looks_findIn X hi) (fun self => PySem.W.bind_fn X self hf) (.inl rfl) h
end
def iI (f : Str) (v : V) : List (Str × V) -> List (Str × V)
 | [] => [(f, v)]
 | (g, x) :: r => if g = f then (g, v) :: r else (g, x) :: iI f v r
theorem vP (f g : Str) (v : V) : ∀ fs : List (Str × V), (iI f v fs).lookup g = if g = f then some v else fs.lookup g
 | [] => by
   show List.lookup g [(f, v)] = _
   by_cases h : g = f
   . have hb : (g == f) = true := beq_iff_eq.mpr h
     simp only [List.lookup, hb, if_pos h]
   . have hb : (g == f) = false := beq_eq_false_iff_ne.mpr h
     simp only [List.lookup, hb, if_neg h]
 | (k, x) :: r => by
   have ih := vP f g v r
   rw [show iI f v ((k, x) :: r) = (if k = f then (k, v) :: r else (k, x) :: iI f v r) from rfl]
   by_cases hk : k = f
   . rw [if_pos hk]
     by_cases h : g = k
     . have hb : (g == k) = true := beq_iff_eq.mpr h
       simp only [List.lookup, hb, if_pos (h.trans hk)]
     . have hb : (g == k) = false := beq_eq_false_iff_ne.mpr h
       simp only [List.lookup, hb, if_neg (fun e : g = f => h (e.trans hk.symm))]
   . rw [if_neg hk]
     by_cases h : g = k
     . have hb : (g == k) = true := beq_iff_eq.mpr h
       simp only [List.lookup, hb, if_neg (fun e : g = f => hk (h.symm.trans e))]
     . have hb : (g == k) = false := beq_eq_false_iff_ne.mpr h
       simp only [List.lookup, hb]
       exact ih
theorem uY (f : Str) (v : V) : ∀ fs : List (Str × V), f ∈ (iI f v fs).map (·.1) /\ ∀ g, g ∈ fs.map (·.1) -> g ∈ (iI f v fs).map (·.1)
 | [] => ⟨by simp [iI], fun g h => by simp at h⟩
 | (k, x) :: r => by
   obtain ⟨i1, i2⟩ := uY f v r
   rw [show iI f v ((k, x) :: r) = (if k = f then (k, v) :: r else (k, x) :: iI f v r) from rfl]
   by_cases hk : k = f
   . rw [if_pos hk]
     subst hk
     exact ⟨by simp, fun g h => by simpa using h⟩
   . rw [if_neg hk]
     refine ⟨?_, fun g h => ?_⟩
     . rw [List.map_cons]
       exact List.mem_cons_of_mem _ i1
     . rw [List.map_cons] at h ⊢
       rcases List.mem_cons.mp h with e | e
       . exact List.mem_cons.mpr (.inl e)
       . exact List.mem_cons_of_mem _ (i2 g e)
theorem vN (f : Str) (v : V) : ∀ fs : List (Str × V), (iI f v fs).length <= fs.length + 1
 | [] => by simp [iI]
 | (k, x) :: r => by
   have ih := vN f v r
   rw [show iI f v ((k, x) :: r) = (if k = f then (k, v) :: r else (k, x) :: iI f v r) from rfl]
   by_cases hk : k = f
   . rw [if_pos hk, List.length_cons, List.length_cons]; omega
   . rw [if_neg hk, List.length_cons, List.length_cons]; omega
theorem kE.some_of {v : V} {o : Option Value} (r : kE (some v) o) : ∃ u, o = some u /\ RelV v u := by
 cases o with
 | none => exact (show False from r).elim
 | some u => exact ⟨u, rfl, r⟩
theorem kE.none_of {o : Option Value} (r : kE none o) : o = none := by
 cases o with
 | none => rfl
 | some u => exact (show False from r).elim
theorem zO {v : V} {u : Value} (r : RelV v u) : PySem.W.handedIn u = true := by
 cases v with
 | bG => cases (show u = Value.none from r); rfl
 | bl b => cases (show u = Value.bool b from r); rfl
 | int i => obtain ⟨t, e⟩ := (show ∃ t, u = Value.int i t from r); cases e; rfl
 | str x => obtain ⟨t, e⟩ := (show ∃ t, u = Value.str x t from r); cases e; rfl
 | FX b => obtain ⟨t, e⟩ := (show ∃ t, u = Value.bytes b t from r); cases e; rfl
 | Uu b => obtain ⟨t, e⟩ := (show ∃ t, u = Value.float b t from r); cases e; rfl
 | ref a => cases (show u = Value.ref a from r); rfl
 | ty n => cases (show u = Value.type n from r); rfl
section
variable {P : Program} {w : World} {H H' : Hp} {h h' : Heap} {a C dx : Addr} {fs YR : List (Str × V)}
theorem wC (aP : k8 P w H h) (e : H a = some (.ins C dx fs)) : ∃ mA, Ex h a dx C mA /\ (∀ f, kE (fs.lookup f) (mA f)) /\ PySem.Within mA (fs.map (·.1)) /\ fs.length <= 1000 /\ H dx = some (.own a) := by
 obtain ⟨d, z, ne, ob, mA, n, r, q⟩ := (show bI P w H h a (.ins C dx fs) from aP a _ e)
 exact ⟨mA, ⟨ob, n, ne⟩, r, q, z, d⟩
end
structure su (K : PySem.W.Frag) (C : Addr) : Prop where
 pg : PySem.W.plainGet K C Str.empty = true
 hd : PySem.W.hasDictIn K C = true
 po : PySem.W.plainOver K C = true
 sa : PySem.W.findIn K (.ref C) "__setattr__" = some (some (.builtin "object.__setattr__"))
theorem su.get {K : PySem.W.Frag} {C : Addr} (c : su K C) (f : Str) : PySem.W.plainGet K C f = true := c.pg
def bp (K : PySem.W.Frag) (C : Addr) (f : Str) : Prop := PySem.W.findIn K (.ref C) f = some none
theorem bp.Xk {K : PySem.W.Frag} {C : Addr} {f : Str} (n : bp K C f) : PySem.W.takerIn K C f = some none := by
 unfold PySem.W.takerIn
 rw [show PySem.W.findIn K (.ref C) f = some none from n]
 rfl
structure Con (K : PySem.W.Frag) (C : Addr) (f : Str) (v : V) (u : Value) : Prop where
 at_ : PySem.W.findIn K (.ref C) f = some (some u)
 rel : RelV v u
 get : PySem.W.specialIn K u "__get__" = some none
 cp : PySem.W.copiedNames.contains f = false
structure Meth (K : PySem.W.Frag) (C : Addr) (m : Str) (f : Addr) : Prop where
 at_ : PySem.W.findIn K (.ref C) m = some (some (.ref f))
 fn : PySem.W.isFn K (.ref f) = true
 kp : PySem.W.keepIn K (.ref f) = true
section
variable {X : Cx} {pins : List (Addr × Obj)} {σ : St} {H : Hp} {s : Shared} {a C dx : Addr} {fs : List (Str × V)} {f : Str} {v : V} {A : Around} {E : Value -> Shared -> Prop}
theorem E4 {b : Bool} {Q : Value -> Shared -> Prop} (I : Inv X pins σ H s) (e : H a = some (.ins C dx fs)) (c : su X.K C) (n : bp X.K C f) (l : fs.lookup f = some v)
 (h : ∀ u s', Inv X pins σ H s' -> RelV v u -> Q u s') : wpAny (model X.prog X.w) A (getAttr (.ref a) f b) Q E s := by
 obtain ⟨mA, O, r, _, _, _⟩ := wC I.aP e
 obtain ⟨u, hu, ru⟩ := kE.some_of (v := v) (o := mA f) (by rw [<- l]; exact r f)
 exact get_map I.iB O (c.get f) c.hd n hu (zO ru) (h u _ (I.tok _) ru)
theorem sf {m : Str} {g : Addr} {pl : Sem Bool} {Q : Value × List Value -> Shared -> Prop} (I : Inv X pins σ H s) (e : H a = some (.ins C dx fs)) (c : su X.K C) (k : Meth X.K C m g) (l : fs.lookup m = none)
 (h : Q (.ref g, [.ref a]) s) : wpAny (model X.prog X.w) A (getMethod (.ref a) m pl) Q E s := by
 obtain ⟨mA, O, r, _, _, _⟩ := wC I.aP e
 have hn : mA m = none := kE.none_of (by rw [<- l]; exact r m)
 exact KS I.iB O (c.get m) k.at_ k.fn hn h
theorem Er {y : V} {u : Value} {Q : Unit -> Shared -> Prop} (I : Inv X pins σ H s) (e : H a = some (.ins C dx fs)) (c : su X.K C) (n : bp X.K C f) (hl : fs.length < 1000) (ry : RelV y u)
 (h : ∀ s', Inv X pins σ (upd H a (.ins C dx (iI f y fs))) s' -> Q () s') : wpAny (model X.prog X.w) A (setAttr (.ref a) f u) Q E s := by
 obtain ⟨mA, O, r, wi, _, ho⟩ := wC I.aP e
 have hz : (fs.map (·.1)).length <= sizeLine := by rw [List.length_map, sizeLine_eq]; omega
 refine Oo I.iB O c.sa c.po n.Xk c.hd wi hz fun h' O' sb => h _ ?_
 have hd : ∃ o, h'.get? dx = some o := let ⟨o, _, _, e', _⟩ := O'.ns; ⟨o, e'⟩
 refine I.write (x := a) (e := dx) (by rw [e]; exact True.intro) (.inr ho) (fun b q hb z => (sb.2 b hb).trans z) hd ?_
 refine ⟨by rw [aw O.ne]; exact ho, ?_, O.ne, O'.obj, _, O'.ns, fun g => ?_, fun g hg => ?_⟩
 . have := vN f y fs; omega
 . show kE ((iI f y fs).lookup g) (if g = f then some u else mA g)
   rw [vP]
   by_cases q : g = f
   . rw [if_pos q, if_pos q]; exact ry
   . rw [if_neg q, if_neg q]; exact r g
 . by_cases q : g = f
   . rw [q]; exact (uY f y fs).1
   . refine (uY f y fs).2 g (wi g fun z => hg ?_)
     show (if g = f then some u else mA g) = none
     rw [if_neg q]; exact z
theorem Inv.made (I : Inv X pins σ H s) : Inv X pins σ (upd (upd H s.heap.objs.size (.own (s.heap.objs.size + 1))) (s.heap.objs.size + 1) (.ins C s.heap.objs.size []))
 { s with heap := (s.heap.push PySem.W.emptyDict).push (PySem.W.instObj C s.heap.objs.size) } := by
 have e1 : (s.heap.push PySem.W.emptyDict).get? s.heap.objs.size = some PySem.W.emptyDict := Heap.get?_push_size s.heap rfl
 have e2 : ((s.heap.push PySem.W.emptyDict).push (PySem.W.instObj C s.heap.objs.size)).get? (s.heap.objs.size + 1) = some (PySem.W.instObj C s.heap.objs.size) := by
  have := Heap.get?_push_size (s.heap.push PySem.W.emptyDict) (o := PySem.W.instObj C s.heap.objs.size) rfl
  rwa [Heap.size_push] at this
 have e3 : (s.heap.push PySem.W.emptyDict).Ns s.heap.objs.size (fun _ => none) := ⟨PySem.W.emptyDict, #[], _, e1, rfl, (fun e he => absurd he (by simp)), fun _ => rfl⟩
 have I1 := I.laid (a := s.heap.objs.size) (o := .own (s.heap.objs.size + 1)) (h' := s.heap.push PySem.W.emptyDict) (t' := s.toks) (fun b u q => Heap.get?_push_of_some _ q) (Nat.le_refl _) ⟨_, e1⟩
 refine I1.laid (a := s.heap.objs.size + 1) (o := .ins C s.heap.objs.size []) (t' := s.toks) (fun b u q => Heap.get?_push_of_some _ q) (Nat.le_of_eq (Heap.size_push _ _)) ?_
 have ne : s.heap.objs.size ≠ s.heap.objs.size + 1 := Nat.ne_of_lt (Nat.lt_succ_self _)
 refine ⟨by rw [aw ne, au], Nat.zero_le _, ne, e2, fun _ => none, (Heap.Ns1.of_empty e3).at fun o q => Heap.get?_push_of_some _ q, fun _ => True.intro, fun y hy => absurd rfl hy⟩
theorem GA {prog : Program} {w : World} {env : Env} {e : Expr} {f : Str} {pos : Pos} {s : Shared} {Q : Value -> Shared -> Prop} (hb : attributeBase e f env (eval e env) = eval e env)
 (h : wpAny (model prog w) A (eval e env) (fun o s₁ => wpAny (model prog w) A (getAttr o f true) Q E s₁) E s) : wpAny (model prog w) A (eval (.Attribute e f pos) env) Q E s :=
 Attribute_any_ h (by rw [arm_eval_Attribute, hb])
end
def Ts (K : PySem.W.Frag) (ta : TE) (f : Str) : TE := fun σ H Q => ta σ H fun x H1 => ∃ a C dx fs v, x = .ref a /\ H1 a = some (.ins C dx fs) /\ su K C /\ bp K C f /\ fs.lookup f = some v /\ Q v H1
def XT (K : PySem.W.Frag) (ta tv : TE) (f : Str) : TS := fun D σ H => tv σ H fun y H1 => ta σ H1 fun x H2 => ∃ a C dx fs, x = .ref a /\ H2 a = some (.ins C dx fs) /\ su K C /\ bp K C f /\ fs.length < 1000 /\
 D.nx σ (upd H2 a (.ins C dx (iI f y fs)))
section
variable {X : Cx} {o e value : Expr} {f : Str} {pos pos' Mz : Pos} {ta tv : TE}
theorem aD (he : PE X e ta) (hb : attributeBase e f X.env (eval e X.env) = eval e X.env) : PE X (.Attribute e f pos) (Ts X.K ta f) := by
 intro pins s σ H Q I h
 refine GA hb (cm (he pins s σ H _ I h) fun u s1 ⟨x, H1, I1, rx, a, C, dx, fs, v, ex, ea, c, n, l, q⟩ => ?_)
 subst ex
 obtain rfl : u = Value.ref a := rx
 exact E4 I1 ea c n l fun u' s2 I2 ru => ⟨v, H1, I2, ru, q⟩
theorem gB (ha : PE X o ta) (hv : PE X value tv) (hs : swapsWith value (some (.Attribute o f pos')) pos.line X.env = pure false) : PS X (.Assign [.Attribute o f pos'] value pos) (XT X.K ta tv f) := by
 intro pins s σ H D I h
 refine plainObj_wpAny_Assign_Attribute (cm (hv pins s σ H _ I h) fun u s1 ⟨y, H1, I1, ry, q⟩ => cm (ha pins s1 σ H1 _ I1 q) fun ov s2 ⟨x, H2, I2, rx, a, C, dx, fs, ex, ea, c, n, l, q2⟩ => ?_) hs
 subst ex
 obtain rfl : ov = Value.ref a := rx
 exact Er I2 ea c n l ry fun s3 I3 => ⟨σ, _, I3, q2⟩
end
section
variable {X : Cx} {pins : List (Addr × Obj)} {σ : St} {H : Hp} {s : Shared} {A : Around} {E : Value -> Shared -> Prop} {Q : Value -> Shared -> Prop} {c : Value} {b : Bool}
inductive t8 (K : PySem.W.Frag) (H : Hp) : V -> Value -> Prop where
 | bG : t8 K H .bG (.type "NoneType")
 | bl (x : Bool) : t8 K H (.bl x) (.type "bool")
 | int (i : Int) : t8 K H (.int i) (.type "int")
 | str (x : Str) : t8 K H (.str x) (.type "str")
 | Uu (x : UInt64) : t8 K H (.Uu x) (.type "float")
 | lst {a : Addr} {xs : List V} (e : H a = some (.lst xs)) : t8 K H (.ref a) (.type "list")
 | n8 {a : Addr} {o : Obj} {xs : List V} (e : H a = some (.n8 o (.lst xs))) : t8 K H (.ref a) (.type "list")
 | tup {a : Addr} {xs : List V} (e : H a = some (.tup xs)) : t8 K H (.ref a) (.type "tuple")
 | dK {a : Addr} {ax : List (Key × V)} (e : H a = some (.dK ax)) : t8 K H (.ref a) (.type "dict")
 | dT {a : Addr} {ax : List (List Key × V)} (e : H a = some (.dT ax)) : t8 K H (.ref a) (.type "dict")
 | ins {a C dx : Addr} {fs : List (Str × V)} (e : H a = some (.ins C dx fs)) (cl : su K C) (ha : PySem.W.findIn K (.ref C) "__class__" = some (some (.builtin "object.__class__")))
  (hn : PySem.W.specialIn K (.builtin "object.__class__") "__get__" = some (some (.builtin "getset_descriptor.__get__"))) (Cw : PySem.W.takesIn K (.builtin "object.__class__") = some true)
  (hm : PySem.W.mroIn K C (.type "object") = some true) : t8 K H (.ref a) (.ref C)
theorem Hn {x : V} {u t : Value} (I : Inv X pins σ H s) (rx : RelV x u) (ty : t8 X.K H x t) (e : PySem.W.kitOne X.K t c = some b) (h : ∀ tk, Q (.bool b) { s with toks := tk }) :
 wpAny (model X.prog X.w) A (call (.builtin "isinstance") [u, c]) Q E s := by
 cases ty with
 | bG => cases (show u = Value.none from rx); exact PySem.W.kia_one PySem.W.kitx_none I.iB True.intro e (fun z => nomatch z) h
 | bl y => cases (show u = Value.bool y from rx); exact PySem.W.kia_one PySem.W.kitx_bool I.iB True.intro e (fun z => nomatch z) h
 | int i => obtain ⟨t, q⟩ := (show ∃ t, u = Value.int i t from rx); cases q; exact PySem.W.kia_one PySem.W.kitx_int I.iB True.intro e (fun z => nomatch z) h
 | str y => obtain ⟨t, q⟩ := (show ∃ t, u = Value.str y t from rx); cases q; exact PySem.W.kia_one PySem.W.kitx_str I.iB True.intro e (fun z => nomatch z) h
 | Uu y => obtain ⟨t, q⟩ := (show ∃ t, u = Value.float y t from rx); cases q; exact PySem.W.kia_one PySem.W.kitx_float I.iB True.intro e (fun z => nomatch z) h
 | @lst a xs ea =>
   cases (show u = Value.ref a from rx)
   obtain ⟨_, _, n, _, h1⟩ := (show bI X.prog X.w H s.heap a (.lst xs) from I.aP a _ ea)
   exact PySem.W.kia_one PySem.W.kitx_list I.iB ⟨_, h1, rfl⟩ e (fun z => nomatch z) h
 | @n8 a ob xs ea =>
   cases (show u = Value.ref a from rx)
   obtain ⟨_, _, _, n, _, h1⟩ := (show bI X.prog X.w H s.heap a (.n8 ob (.lst xs)) from I.aP a _ ea)
   exact PySem.W.kia_one PySem.W.kitx_list I.iB ⟨_, h1, rfl⟩ e (fun z => nomatch z) h
 | @tup a xs ea =>
   cases (show u = Value.ref a from rx)
   obtain ⟨_, _, _, p⟩ := (show bI X.prog X.w H s.heap a (.tup xs) from I.aP a _ ea)
   obtain ⟨o, h1, h2, _⟩ := p
   exact PySem.W.kia_one PySem.W.kitx_tuple I.iB ⟨o, h1, h2⟩ e (fun z => nomatch z) h
 | @dK a ax ea =>
   cases (show u = Value.ref a from rx)
   obtain ⟨_, _, vs, _, p⟩ := (show bI X.prog X.w H s.heap a (.dK ax) from I.aP a _ ea)
   obtain ⟨o, es, ep, h1, h2, _⟩ := p
   exact PySem.W.kia_one PySem.W.kitx_dict I.iB ⟨o, h1, h2.1⟩ e (fun z => nomatch z) h
 | @dT a ax ea =>
   cases (show u = Value.ref a from rx)
   obtain ⟨_, _, xs, _, o, es, ep, h1, h2, _⟩ := (show bI X.prog X.w H s.heap a (.dT ax) from I.aP a _ ea)
   exact PySem.W.kia_one PySem.W.kitx_dict I.iB ⟨o, h1, h2.1⟩ e (fun z => nomatch z) h
 | @ins a C dx fs ea cl ha hn Cw hm =>
   cases (show u = Value.ref a from rx)
   obtain ⟨mA, O, _⟩ := wC I.aP ea
   obtain ⟨od, J, _⟩ := O.look
   exact PySem.W.kia_one (PySem.W.kitx_own (cl.get _) cl.hd ha hn Cw hm) I.iB J e (fun z => nomatch z) h
end
structure cI (k : Nat) (A : Around) : Prop where
 hd : A.handled = none
 dp : A.depth + 3 * k + 5 < recursionLimit
 un : A.units + 16 * k + 200 < cLine
theorem cI.mono {j k : Nat} {A : Around} (r : cI k A) (h : j <= k) : cI j A := ⟨r.hd, by have := r.dp; omega, by have := r.un; omega⟩
theorem cI.deeper {k : Nat} {A : Around} (r : cI (k + 1) A) (env : Env) : cI k (A.deeper env) :=
 ⟨r.hd, by have := r.dp; show A.depth + 1 + 3 * k + 5 < _; omega, by have := r.un; show A.units + 3 + 16 * k + 200 < _; omega⟩
theorem ED {A : Around} {C : Addr} {us : List Value} {kw : List (Str × Value)} : (A.under (.builtin "type.__call__" ⟨.ref C :: us, kw⟩)).depth = A.depth + 1 := by
 first | rfl | simp [Around.under, Code.weight, Code.isCreation, Code.isGuard, Code.isCaller, Code.frames, Code.isFrame, guardIds]
theorem DV {A : Around} {C : Addr} {us : List Value} {kw : List (Str × Value)} : (A.under (.builtin "type.__call__" ⟨.ref C :: us, kw⟩)).units = A.units + 1 := by
 first | rfl | simp [Around.under, Code.cUnits, Code.frames, Code.isFrame]
theorem cI.make {k : Nat} {A : Around} (r : cI (k + 1) A) (C : Addr) (us : List Value) (kw : List (Str × Value)) : cI k (A.under (.builtin "type.__call__" ⟨.ref C :: us, kw⟩)) :=
 ⟨r.hd, by have := r.dp; rw [ED]; omega, by have := r.un; rw [DV]; omega⟩
theorem cI.depth {k : Nat} {A : Around} (r : cI k A) : A.depth < recursionLimit := by have := r.dp; omega
theorem cI.units {k : Nat} {A : Around} (r : cI k A) : A.units + 64 < cLine := by have := r.un; omega
def Ec : TA := fun _ H Q => Q [] H
def Qm (ta : TE) (tr : TA) : TA := fun σ H Q => ta σ H fun x H1 => tr σ H1 fun xs H2 => Q (x :: xs) H2
section
variable {X : Cx} {e : Expr} {es : List Expr} {te : TE} {t : TA} {pos : Pos}
theorem ai : PA X [] Ec := fun _ _ _ _ H Q I h => Calls.spliced_nil ⟨[], H, I, .nil, h⟩
theorem af (ha : PE X e te) (hr : PA X es t) (hs : starEach (e :: es) X.env = (false, eval e X.env) :: starEach es X.env := by rfl) : PA X (e :: es) (Qm te t) := by
 intro pos pins s σ H Q I h
 rw [hs]
 show wpAny _ _ (spliced ((false, eval e X.env) :: backTo pos (starEach es X.env))) _ _ s
 refine Calls.spliced_cons (cm (ha pins s σ H _ I h) fun u s1 ⟨x, H1, I1, r1, q1⟩ => ?_)
 exact cm (hr pos pins s1 σ H1 _ I1 q1) fun us s2 ⟨xs, H2, I2, r2, q2⟩ => ⟨x :: xs, H2, I2, .cons r1 r2, q2⟩
def abl (t : TA) : TE := fun σ H Q => t σ H fun xs H1 => xs.length <= sizeLine /\ ∀ p, H1 p = none -> Q (.ref p) (upd H1 p (.tup xs))
def aaU (t : TA) : TE := fun σ H Q => t σ H fun xs H1 => xs.length <= sizeLine /\ ∀ p, H1 p = none -> Q (.ref p) (upd H1 p (.lst xs))
theorem UB {x1} (h : PA X es t) : PE X (.Tuple es x1 pos) (abl t) := by
 intro pins s σ H Q I hq
 refine wpAny_Tuple_spliced (cm (h pos pins s σ H _ I hq) fun us s1 ⟨xs, H1, I1, r, z, q⟩ => ⟨by rw [<- r.length]; exact z, ?_⟩)
 have hf : H1 s1.heap.objs.size = none := I1.aP.fresh (Nat.le_refl _)
 refine ⟨.ref s1.heap.objs.size, upd H1 s1.heap.objs.size (.tup xs), I1.laid (t' := s1.toks) (fun b u e => Heap.get?_push_of_some _ e) (Nat.le_refl _) ?_, rfl, q _ hf⟩
 exact ⟨z, us, r, ⟨_, Heap.get?_push_size _ rfl, rfl, _, rfl⟩⟩
theorem K4 (h : PA X es t) : PE X (.List es pos) (aaU t) := by
 intro pins s σ H Q I hq
 refine wpAny_List_spliced (cm (h pos pins s σ H _ I hq) fun us s1 ⟨xs, H1, I1, r, z, q⟩ => ⟨by rw [<- r.length]; exact z, ?_⟩)
 have hf : H1 s1.heap.objs.size = none := I1.aP.fresh (Nat.le_refl _)
 refine ⟨.ref s1.heap.objs.size, upd H1 s1.heap.objs.size (.lst xs), I1.laid (t' := s1.toks) (fun b u e => Heap.get?_push_of_some _ e) (Nat.le_refl _) ?_, rfl, q _ hf⟩
 exact ⟨z, us, 0, r, Heap.get?_push_size _ rfl⟩
end
abbrev Sp := List V -> Hp -> VK -> XK -> Prop
abbrev zV := List Env -> Hp -> Shared -> XK -> Value -> Shared -> Prop
structure D4 (P : Program) (w : World) (K : PySem.W.Frag) (mg : Str -> Option Value) (base : Heap) (A : Around) (outer : List Env) (s : Shared) (H : Hp) : Prop where
 frames : A.frames = some outer
 mod : Mod K mg base
 bs : ∀ b o, base.get? b = some o -> s.heap.get? b = some o /\ H b = none
 FZ : base.objs.size <= s.heap.objs.size
 qq : s.heap.FunFrames base outer
 Jc : ∀ b ∈ yE outer, H b = none
 aP : k8 P w H s.heap
 bare : AllBare s.gens
def CE (outer : List Env) (P : Program) (w : World) (H : Hp) (s : Shared) (Q : VK) (u : Value) (s' : Shared) : Prop :=
 ∃ v H', s'.os = s.os /\ AllBare s'.gens /\ Un (yE outer) [] H H' s.heap s'.heap /\ k8 P w H' s'.heap /\ RelV v u /\ Q v H'
def CR (CX : zV) (outer : List Env) (P : Program) (w : World) (H : Hp) (s : Shared) (Q : VK) (E : XK) (r : Result) (s' : Shared) : Prop :=
 match r with
 | .ok (.ret u) => CE outer P w H s Q u s'
 | .ok _ => False
 | .error e => CX outer H s E e s'
structure a7 (P : Program) (w : World) (K : PySem.W.Frag) (mg : Str -> Option Value) (base : Heap) (CX : zV) (k : Nat) (f : Addr) (fd : FuncData) (ps : List Str) (sp : Sp) : Prop where
 len : ∀ vs H Q E, sp vs H Q E -> vs.length = ps.length
 run : ∀ (A : Around) (outer : List Env) (s : Shared) (H : Hp) (args : Args) (us : List Value) (vs : List V) (Q : VK) (E : XK), cI k A -> D4 P w K mg base A outer s H -> BindsTo s fd args (ps.zip us) -> Vals vs us -> sp vs H Q E ->
  codeAny (model P w) A (.call (.ref f) args) (CR CX outer P w H s Q E) s
theorem a7.mono {P : Program} {w : World} {K : PySem.W.Frag} {mg : Str -> Option Value} {base : Heap} {CX : zV} {j k : Nat} {f : Addr} {fd : FuncData} {ps : List Str} {sp : Sp} (F : a7 P w K mg base CX j f fd ps sp) (h : j <= k) :
 a7 P w K mg base CX k f fd ps sp := ⟨F.len, fun A outer s H args us vs Q E hr => F.run A outer s H args us vs Q E (hr.mono h)⟩
theorem D4.make {P : Program} {w : World} {K : PySem.W.Frag} {mg : Str -> Option Value} {base : Heap} {A : Around} {outer : List Env} {s : Shared} {H : Hp} (e : D4 P w K mg base A outer s H) (C : Addr) (us : List Value) (kw : List (Str × Value)) :
 D4 P w K mg base (A.under (.builtin "type.__call__" ⟨.ref C :: us, kw⟩)) outer s H := ⟨by first | exact e.frames | (simpa [Around.under, Code.envs, Code.isFrame, pushEnvs] using e.frames), e.mod, e.bs, e.FZ, e.qq, e.Jc, e.aP, e.bare⟩
section
variable {X : Cx} {pins : List (Addr × Obj)} {σ : St} {H : Hp} {s s' : Shared}
theorem Inv.Ja (I : Inv X pins σ H s) : D4 X.prog X.w X.K X.mg X.base X.A X.stack s H :=
 ⟨I.ok.frames, I.ok.mod, I.bs, Nat.le_trans I.ok.FZ I.sz, I.stack, I.wy, I.aP, I.bare⟩
theorem Inv.after {Q : VK} {u : Value} (I : Inv X pins σ H s) (h : CE X.stack X.prog X.w H s Q u s') : EP X pins σ Q u s' := by
 obtain ⟨v, H', os, bare, un, aP, r, q⟩ := h
 obtain ⟨hh, g, d, t, Zz⟩ := s'
 obtain rfl : Zz = s.os := os
 exact ⟨v, H', I.call (h' := hh) (g' := g) (d' := d) (t' := t) (ch := []) un aP bare (fun b z => absurd z (by simp)), r, q⟩
end
def zh (sp : Sp) (bJ : List V) (E : XK) (t : TA) : TE := fun σ H Q => t σ H fun vs H1 => sp (vs ++ bJ) H1 Q E
def Ah (C : Addr) (m : Str) (sp : Sp) (bJ : List V) (E : XK) (ta : TE) (t : TA) : TE := fun σ H Q => ta σ H fun x H1 => ∃ a dx fs, x = .ref a /\ H1 a = some (.ins C dx fs) /\ fs.lookup m = none /\
 t σ H1 fun vs H2 => sp (x :: (vs ++ bJ)) H2 Q E
def CD (C : Addr) (sp : Sp) (bJ : List V) (E : XK) (t : TA) : TE := fun σ H Q => t σ H fun vs H1 => ∀ x dx, H1 x = none -> H1 dx = none -> dx ≠ x ->
 sp (.ref x :: (vs ++ bJ)) (upd (upd H1 dx (.own x)) x (.ins C dx [])) (fun v H2 => v = .bG /\ Q (.ref x) H2) E
def Binds (K : PySem.W.Frag) (fd : FuncData) (ps : List Str) (ds : List Value) : Prop :=
 ∀ (s : Shared) (us : List Value), K.In s.heap -> (us ++ ds).length = ps.length -> BindsTo s fd ⟨us, []⟩ (ps.zip (us ++ ds))
theorem Binds.all {K : PySem.W.Frag} {fd : FuncData} {ps : List Str} (h : ∀ us : List Value, us.length = ps.length -> bindArgs fd ⟨us, []⟩ = pure (ps.zip us)) : Binds K fd ps [] := fun s us _ hl => by
 rw [List.append_nil] at hl ⊢
 exact .of_eq (h us hl)
def Passes (CX : zV) (X : Cx) (E : XK) : Prop := ∀ (pins : List (Addr × Obj)) (σ : St) (H : Hp) (s : Shared) (e : Value) (s' : Shared), Inv X pins σ H s -> CX X.stack H s E e s' -> X.xe e s'
section
variable {X : Cx} {CX : zV} {k : Nat} {f C : Addr} {fd : FuncData} {ps : List Str} {sp : Sp} {bJ : List V} {ds : List Value} {E : XK} {x m : Str} {p pos apos : Pos} {e o : Expr} {es : List Expr} {ta : TE} {t : TA}
theorem Bl {pins : List (Addr × Obj)} {σ : St} {H : Hp} {s : Shared} {Q : VK} {us : List Value} {vs : List V} (F : a7 X.prog X.w X.K X.mg X.base CX k f fd ps sp) (hr : cI k X.A) (hb : Binds X.K fd ps ds) (hd : Vals bJ ds) (hx : Passes CX X E)
 (I : Inv X pins σ H s) (r : Vals vs us) (h : sp (vs ++ bJ) H Q E) : wpAny (model X.prog X.w) X.A (call (.ref f) us) (EP X pins σ Q) X.xe s := by
 have r2 : Vals (vs ++ bJ) (us ++ ds) := r.append hd
 have hl : (us ++ ds).length = ps.length := by rw [<- r2.length]; exact F.len _ _ _ _ h
 refine wpAny_call (codeAny_mono (F.run X.A X.stack s H ⟨us, []⟩ (us ++ ds) (vs ++ bJ) Q E hr I.Ja (hb s us I.iB hl) r2 h) fun r s' hq => ?_)
 cases r with
 | error e => exact hx pins σ H s e s' I hq
 | ok fl =>
   cases fl with
   | ret u => exact I.after hq
   | next => exact False.elim hq
   | brk => exact False.elim hq
   | cont => exact False.elim hq
theorem PK (F : a7 X.prog X.w X.K X.mg X.base CX k f fd ps sp) (hr : cI k X.A) (hg : Gl X x) (hm : X.mg x = some (.ref f)) (hk : PySem.W.keepIn X.K (.ref f) = true) (hb : Binds X.K fd ps ds) (hd : Vals bJ ds) (hx : Passes CX X E)
 (ha : PA X (e :: es) t) (nV : (x == ("__debug__" : Str)) = false := by decide) (he : starEach (e :: es) X.env = (false, eval e X.env) :: starEach es X.env := by rfl) (mD : (backTo pos (starEach es X.env)).any (·.1) = false := by rfl) :
 PE X (.Call (.Name x p) (e :: es) [] pos) (zh sp bJ E t) := by
 intro pins s σ H Q I h
 refine wpAny_Call_Name_kw (f9 I hg hm ?_ nV)
 refine PySem.W.callWith_K (h₀ := X.base) I.ok.mod.MY hk (cm (ha pos pins s σ H _ I h) fun us s1 ⟨vs, H1, I1, r, q⟩ => ⟨I1.iB, ?_⟩) he mD
 exact Bl F hr hb hd hx I1 r q
theorem NN {pl : Sem Bool} (he : PE X o ta) (c : su X.K C) (hm : Meth X.K C m f) (F : a7 X.prog X.w X.K X.mg X.base CX k f fd ps sp) (hr : cI k X.A) (hb : Binds X.K fd ps ds) (hd : Vals bJ ds) (hx : Passes CX X E) (ha : PA X (e :: es) t)
 (qe : starEach (e :: es) X.env = (false, eval e X.env) :: starEach es X.env := by rfl) (mD : (backTo pos (starEach es X.env)).any (·.1) = false := by rfl)
 (ht : eval (.Call (.Attribute o m apos) (e :: es) [] pos) X.env = (do
  let ov <- eval o X.env
  standAt apos.atName
  let (f, first) <- holding [ov] (getMethod ov m pl)
  callWith pos f first (backTo pos (starEach (e :: es) X.env)) (backToKw pos (keywordEach [] X.env))) := by rfl) :
 PE X (.Call (.Attribute o m apos) (e :: es) [] pos) (Ah C m sp bJ E ta t) := by
 intro pins s σ H Q I h
 refine PySem.W.methodCall_KW (pl := pl) (cm (he pins s σ H _ I h) fun u s1 ⟨x, H1, I1, rx, a, dx, fs, ex, ea, l, q⟩ => ?_) ht
 subst ex
 obtain rfl : u = Value.ref a := rx
 refine sf I1 ea c hm l ?_
 refine PySem.W.callWith_K (first := [.ref a]) (h₀ := X.base) I.ok.mod.MY hm.kp (cm (ha pos pins s1 σ H1 _ I1 q) fun us s2 ⟨vs, H2, I2, r, q2⟩ => ⟨I2.iB, ?_⟩) qe mD
 exact Bl (us := .ref a :: us) (vs := .ref a :: vs) F hr hb hd hx I2 (.cons rfl r) q2
theorem Ka {pl : Sem Bool} (he : PE X o ta) (c : su X.K C) (hm : Meth X.K C m f) (F : a7 X.prog X.w X.K X.mg X.base CX k f fd ps sp) (hr : cI k X.A) (hb : Binds X.K fd ps ds) (hd : Vals bJ ds) (hx : Passes CX X E)
 (ht : eval (.Call (.Attribute o m apos) [] [] pos) X.env = (do
  let ov <- eval o X.env
  standAt apos.atName
  let (f, first) <- holding [ov] (getMethod ov m pl)
  callWith pos f first (backTo pos (starEach [] X.env)) (backToKw pos (keywordEach [] X.env))) := by rfl) :
 PE X (.Call (.Attribute o m apos) [] [] pos) (Ah C m sp bJ E ta Ec) := by
 intro pins s σ H Q I h
 refine PySem.W.methodCall_KW (pl := pl) (cm (he pins s σ H _ I h) fun u s1 ⟨x, H1, I1, rx, a, dx, fs, ex, ea, l, q⟩ => ?_) ht
 subst ex
 obtain rfl : u = Value.ref a := rx
 refine sf I1 ea c hm l ?_
 exact PySem.W.callWith_K0 (first := [.ref a]) I1.iB hm.kp (Bl (us := [.ref a]) (vs := [.ref a]) F hr hb hd hx I1 (.cons rfl .nil) q)
structure Mk (K : PySem.W.Frag) (C f : Addr) : Prop where
 makes : PySem.W.makesIn K C = true
 init : PySem.W.findIn K (.ref C) "__init__" = some (some (.ref f))
 fn : PySem.W.isFn K (.ref f) = true
 kp : PySem.W.keepIn K (.ref C) = true
theorem CI {pins : List (Addr × Obj)} {σ : St} {H : Hp} {s : Shared} {Q : VK} {us : List Value} {vs : List V} (M : Mk X.K C f) (F : a7 X.prog X.w X.K X.mg X.base CX k f fd ps sp) (hr : cI (k + 1) X.A) (hb : Binds X.K fd ps ds) (hd : Vals bJ ds)
 (hx : Passes CX X E) (I : Inv X pins σ H s) (r : Vals vs us)
 (h : ∀ x dx, H x = none -> H dx = none -> dx ≠ x -> sp (.ref x :: (vs ++ bJ)) (upd (upd H dx (.own x)) x (.ins C dx [])) (fun v H2 => v = .bG /\ Q (.ref x) H2) E) :
 wpAny (model X.prog X.w) X.A (call (.ref C) us) (EP X pins σ Q) X.xe s := by
 have hq := h (s.heap.objs.size + 1) s.heap.objs.size (I.aP.fresh (Nat.le_succ _)) (I.aP.fresh (Nat.le_refl _)) (Nat.ne_of_lt (Nat.lt_succ_self _))
 have I2 := Inv.made (C := C) I
 have r2 : Vals (V.ref (s.heap.objs.size + 1) :: (vs ++ bJ)) (Value.ref (s.heap.objs.size + 1) :: (us ++ ds)) := .cons rfl (r.append hd)
 have hl : (Value.ref (s.heap.objs.size + 1) :: us ++ ds).length = ps.length := by
  have e := r2.length
  rw [F.len _ _ _ _ hq] at e
  exact e.symm
 refine wpAny_call (CO (f := f) I.iB M.makes M.init (beq_iff_eq.mp M.fn) (codeAny_mono (F.run _ X.stack _ _ ⟨Value.ref (s.heap.objs.size + 1) :: us, []⟩ (Value.ref (s.heap.objs.size + 1) :: (us ++ ds)) _ _ E (hr.make C us [])
  (I2.Ja.make C us []) (hb _ (Value.ref (s.heap.objs.size + 1) :: us) I2.iB hl) r2 hq) fun r s' lL => ?_))
 cases r with
 | error e => exact hx pins σ _ _ e s' I2 lL
 | ok fl =>
   cases fl with
   | ret u =>
     obtain ⟨v, H', I3, rv, ev, q3⟩ := I2.after lL
     subst ev
     exact ⟨rv, ⟨V.ref (s.heap.objs.size + 1), H', I3, rfl, q3⟩⟩
   | next => exact False.elim lL
   | brk => exact False.elim lL
   | cont => exact False.elim lL
theorem NR (M : Mk X.K C f) (F : a7 X.prog X.w X.K X.mg X.base CX k f fd ps sp) (hr : cI (k + 1) X.A) (hg : Gl X x) (hm : X.mg x = some (.ref C)) (hb : Binds X.K fd ps ds) (hd : Vals bJ ds) (hx : Passes CX X E)
 (ha : PA X (e :: es) t) (nV : (x == ("__debug__" : Str)) = false := by decide) (he : starEach (e :: es) X.env = (false, eval e X.env) :: starEach es X.env := by rfl) (mD : (backTo pos (starEach es X.env)).any (·.1) = false := by rfl) :
 PE X (.Call (.Name x p) (e :: es) [] pos) (CD C sp bJ E t) := by
 intro pins s σ H Q I h
 refine wpAny_Call_Name_kw (f9 I hg hm ?_ nV)
 refine PySem.W.callWith_K (h₀ := X.base) I.ok.mod.MY M.kp (cm (ha pos pins s σ H _ I h) fun us s1 ⟨vs, H1, I1, r, q⟩ => ⟨I1.iB, ?_⟩) he mD
 exact CI M F hr hb hd hx I1 r q
theorem Mp (M : Mk X.K C f) (F : a7 X.prog X.w X.K X.mg X.base CX k f fd ps sp) (hr : cI (k + 1) X.A) (hg : Gl X x) (hm : X.mg x = some (.ref C)) (hb : Binds X.K fd ps ds) (hd : Vals bJ ds) (hx : Passes CX X E)
 (nV : (x == ("__debug__" : Str)) = false := by decide) : PE X (.Call (.Name x p) [] [] pos) (CD C sp bJ E Ec) := by
 intro pins s σ H Q I h
 refine wpAny_Call_Name_kw (f9 I hg hm ?_ nV)
 exact PySem.W.callWith_K0 I.iB M.kp (CI (us := []) M F hr hb hd hx I .nil h)
end
section
variable {X : Cx} {CX : zV} {k : Nat} {f C : Addr} {fd : FuncData} {ps ks : List Str} {sp : Sp} {E : XK} {x m : Str} {p pos apos aaL : Pos} {e o : Expr} {es : List Expr} {kws : List Keyword} {te ta : TE} {t tk : TA} {nm : Option Str}
structure aal (K : PySem.W.Frag) (fd : FuncData) (ps ks : List Str) (g : List Value -> List Value -> List Value) (gV : List V -> List V -> List V) : Prop where
 to : ∀ (s : Shared) (us ws : List Value), K.In s.heap -> (g us ws).length = ps.length -> BindsTo s fd ⟨us, ks.zip ws⟩ (ps.zip (g us ws))
 rel : ∀ {vs : List V} {us : List Value} {zs : List V} {ws : List Value}, Vals vs us -> Vals zs ws -> Vals (gV vs zs) (g us ws)
variable {g : List Value -> List Value -> List Value} {gV : List V -> List V -> List V}
end
structure aB (N P : List Str) (sc : Scope) : Prop where
 kind : sc.kind = .function
 co : sc.isCoroutine = false
 gen : sc.isGenerator = false
 nd : N.Nodup
 pre : N.take P.length = P
 par : ∀ x ∈ P, sc.names.lookup x = some .local \/ sc.names.lookup x = some .cell
 Te : ∀ y ∈ sc.names, y.2 ≠ .free
theorem zA {kindOf : Str -> Option NameKind} {x : Str} : ∀ {binds : List (Str × Value)} {m : Str -> Option Value}, (∀ v, (x, v) ∉ binds) -> bindL kindOf binds m x = m x
 | [], _, _ => rfl
 | (n, v) :: r, m, h => by
   unfold bindL
   rw [zA fun w hw => h w (List.mem_cons_of_mem _ hw)]
   split
   . have : x ≠ n := by rintro rfl; exact h v List.mem_cons_self
     simp [this]
   . rfl
theorem zE {kindOf : Str -> Option NameKind} {x : Str} : ∀ {binds : List (Str × Value)} {m : Str -> Option Value}, (∀ v, (x, v) ∉ binds) -> bindC kindOf binds m x = m x
 | [], _, _ => rfl
 | (n, v) :: r, m, h => by
   unfold bindC
   rw [zE fun w hw => h w (List.mem_cons_of_mem _ hw)]
   split
   . rfl
   . have : x ≠ n := by rintro rfl; exact h v List.mem_cons_self
     simp [this]
theorem zj {kindOf : Str -> Option NameKind} {x : Str} {v : Value} : ∀ {P : List Str} {vs : List Value} {i : Nat} {m : Str -> Option Value}, P.Nodup -> P[i]? = some x -> vs[i]? = some v -> kindOf x = some .local ->
 bindL kindOf (P.zip vs) m x = some v
 | [], _, _, _, _, h, _, _ => by simp at h
 | _ :: _, [], _, _, _, _, h, _ => by simp at h
 | p :: P, w :: vs, 0, m, nd, h1, h2, hk => by
   simp at h1 h2; subst h1; subst h2
   show bindL kindOf ((p, w) :: P.zip vs) m p = _
   unfold bindL
   rw [zA fun v hv => (List.nodup_cons.mp nd).1 (List.of_mem_zip hv).1, if_pos hk]
   simp
 | p :: P, w :: vs, i + 1, m, nd, h1, h2, hk => by
   show bindL kindOf ((p, w) :: P.zip vs) m x = _
   unfold bindL
   exact zj (i := i) (List.nodup_cons.mp nd).2 (by simpa using h1) (by simpa using h2) hk
theorem zz {kindOf : Str -> Option NameKind} {x : Str} {v : Value} : ∀ {P : List Str} {vs : List Value} {i : Nat} {m : Str -> Option Value}, P.Nodup -> P[i]? = some x -> vs[i]? = some v -> kindOf x ≠ some .local ->
 bindC kindOf (P.zip vs) m x = some v
 | [], _, _, _, _, h, _, _ => by simp at h
 | _ :: _, [], _, _, _, _, h, _ => by simp at h
 | p :: P, w :: vs, 0, m, nd, h1, h2, hk => by
   simp at h1 h2; subst h1; subst h2
   show bindC kindOf ((p, w) :: P.zip vs) m p = _
   unfold bindC
   rw [zE fun v hv => (List.nodup_cons.mp nd).1 (List.of_mem_zip hv).1, if_neg hk]
   simp
 | p :: P, w :: vs, i + 1, m, nd, h1, h2, hk => by
   show bindC kindOf ((p, w) :: P.zip vs) m x = _
   unfold bindC
   exact zz (i := i) (List.nodup_cons.mp nd).2 (by simpa using h1) (by simpa using h2) hk
def start (N : List Str) (vs : List V) : St := vs.map some ++ List.replicate (N.length - vs.length) none
def vg (CX : zV) (P : Program) (w : World) (K : PySem.W.Frag) (mg : Str -> Option Value) (base : Heap) (N : List Str) (qual : Str) (scope : Scope) (f : Addr) (cd : Value) (A : Around) (outer : List Env) (s : Shared) (H : Hp) (E : XK) : Cx where
 prog := P
 w := w
 K := K
 mg := mg
 base := base
 A := A.deeper (envOfC qual scope s.heap.objs.size f cd)
 N := N
 dM := s
 EX := H
 env := envOfC qual scope s.heap.objs.size f cd
 outer := outer
 stack := envOfC qual scope s.heap.objs.size f cd :: outer
 ex := []
 calm := true
 fn := fun _ => true
 pn := []
 xe := fun e s' => wpAny (model P w) (A.deeper (envOfC qual scope s.heap.objs.size f cd)) (leaving (envOfC qual scope s.heap.objs.size f cd) e) (fun _ s'' => CX outer H s E e s'') (fun e' s'' => CX outer H s E e' s'') s'
theorem B6 {sc : Scope} {n : Nat} {x : Str} (h : sc.names.lookup x = some .cell) : ∃ c, (cellsFrom n sc.names []).lookup x = some c := by
 have q := PySem.W.cellsFrom_some sc.names n [] (.inl h)
 exact Option.isSome_iff_exists.mp q
theorem GX {CX : zV} {P : Program} {w : World} {K : PySem.W.Frag} {mg : Str -> Option Value} {base : Heap} {N ps : List Str} {qual : Str} {scope : Scope} {f : Addr} {cd : Value} {A : Around} {outer : List Env} {s s1 : Shared} {H : Hp} {E : XK} {us : List Value} {vs : List V}
 (S : aB N ps scope) (hd : A.handled = none) (e0 : D4 P w K mg base A outer s H) (hl : vs.length = ps.length) (r : Vals vs us)
 (x : InCallC s s.heap.objs.size (bindL (envOfC qual scope s.heap.objs.size f cd).kindOf (ps.zip us) fun _ => none) (cellsFrom (s.heap.objs.size + 1) scope.names []) (bindC (envOfC qual scope s.heap.objs.size f cd).kindOf (ps.zip us) fun _ => none) s1) :
 Inv (vg CX P w K mg base N qual scope f cd A outer s H E) [] (start N vs) H s1 := by
 have mD : ps.length <= N.length := by have := congrArg List.length S.pre; rw [List.length_take] at this; omega
 obtain ⟨h1, tk, rfl, hk⟩ := x.done
 have XM : ∀ b : Addr, b ∉ (vg CX P w K mg base N qual scope f cd A outer s H E).ex := fun b z => absurd (show b ∈ ([] : List Addr) from z) (by simp)
 refine ⟨⟨e0.mod, S.kind, rfl, rfl, Nat.le_refl _, fun y z c h1 h2 => ?_, fun y hy => ?_, fun y c _ h => ?_, fun _ => hd, Around.frames_deeper e0.frames, .inr ⟨rfl, rfl⟩, fun b z => absurd z (XM b), e0.bs, e0.FZ, fun b _ _ => XM b, fun b z => absurd z (XM b), e0.qq, e0.Jc⟩,
  rfl, e0.bare, Un.kept hk, ⟨_, x.toInCall.ns, fun i y v h1 h2 h3 => ?_⟩, fun y c h => ⟨_, x.cell y c h⟩, e0.aP.fresh (Nat.le_refl _), fun y c h => ?_, fun p hp => absurd (show p ∈ ([] : List (Addr × Obj)) from hp) (by simp), e0.aP.kept hk, ?_⟩
 . exact name_of_addr x.apart (PySem.mem_of_lookup h1) (PySem.mem_of_lookup h2)
 . have hy : scope.names.lookup y = some .cell \/ scope.names.lookup y = some .free := hy
   rcases hy with hy | hy
   . exact B6 hy
   . exact absurd rfl (S.Te _ (PySem.mem_of_lookup hy))
 . exact Nat.le_of_lt (x.above y c (PySem.mem_of_lookup h))
 . have hi : i < vs.length := by
    unfold start at h2
    by_cases hi : i < vs.length
    . exact hi
    . rw [List.getElem?_append_right (by simpa using hi)] at h2
      rw [List.getElem?_replicate] at h2
      split at h2 <;> cases h2
   have ha : vs[i]? = some v := by
    unfold start at h2
    rw [List.getElem?_append_left (by simpa using hi), List.getElem?_map] at h2
    cases e : vs[i]? with
    | none => rw [e] at h2; cases h2
    | some a => rw [e] at h2; cases h2; rfl
   obtain ⟨u, hu, rv⟩ := r.get ha
   have hp : ps[i]? = some y := by
    rw [<- S.pre, List.getElem?_take_of_lt (by omega)]; exact h1
   have ndP : ps.Nodup := by rw [<- S.pre]; exact S.nd.sublist (List.take_sublist _ _)
   refine ⟨u, rv, ?_⟩
   rcases S.par y (List.mem_of_getElem? hp) with k | k
   . exact .inl ⟨k, zj ndP hp hu k⟩
   . obtain ⟨c, e⟩ := B6 (n := s.heap.objs.size + 1) k
     refine .inr ⟨.inl k, c, e, ?_⟩
     have q := x.cell y c e
     rw [zz ndP hp hu (by show scope.names.lookup y ≠ _; rw [k]; decide)] at q
     exact q
 . exact e0.aP.fresh (Nat.le_of_lt (x.above y c (PySem.mem_of_lookup h)))
 . unfold start
   show _ = N.length
   rw [List.length_append, List.length_map, List.length_replicate]
   omega
theorem Q0 {CX : zV} {P : Program} {w : World} {K : PySem.W.Frag} {mg : Str -> Option Value} {base : Heap} {k : Nat} {f : Addr} {name qual : Str} {params : Arguments} {body : List Stmt} {scope : Scope} {dV kV doc pm dB ct oc : Value} {an od : Option Addr}
 {HP : Array (Option Value)} {N ps : List Str} {sp : Sp} (lk : K.lookup f = some ⟨oc, od, .func (PySem.W.fnOf name qual params body scope dV kV doc pm an dB ct), HP⟩) (F6 : PySem.W.codeIn K dB qual = true) (S : aB N ps scope)
 (len : ∀ vs H Q E, sp vs H Q E -> vs.length = ps.length)
 (C7 : ∀ (A : Around) (outer : List Env) (s : Shared) (H : Hp) (vs : List V) (Q : VK) (E : XK), cI k (A.deeper (envOfC qual scope s.heap.objs.size f dB)) -> sp vs H Q E ->
  ∃ t, By (vg CX P w K mg base N qual scope f dB A outer s H E) body t /\ t { nx := fun _ H' => Q .bG H', rt := Q } (start N vs) H) :
 a7 P w K mg base CX (k + 1) f (PySem.W.fnOf name qual params body scope dV kV doc pm an dB ct) ps sp := by
 refine ⟨len, fun A outer s H args us vs Q E hr e0 hb r AQ => ?_⟩
 have hl := len _ _ _ _ AQ
 have KX : K.In s.heap := e0.mod.MY.keeps fun b o e => (e0.bs b o e).1
 have lim : s.heap.NoLimit := e0.mod.nolimit.keeps fun b o e => (e0.bs b o e).1
 have Rf : ∀ y ∈ ps.zip us, scope.names.lookup y.1 = some .local \/ (scope.names.lookup y.1 = some .cell /\ ((cellsFrom (s.heap.objs.size + 1) scope.names []).lookup y.1).isSome = true) := fun ⟨n, v⟩ hy => by
  rcases S.par n (List.of_mem_zip hy).1 with q | q
  . exact .inl q
  . exact .inr ⟨q, PySem.W.cellsFrom_some _ _ _ (.inl q)⟩
 refine codeAny_call_function hr.depth (KX _ _ lk) rfl S.co S.gen rfl (PySem.W.codeRec_of KX F6) (hb _ _ _ _ ?_)
 refine wpAny_newFunctionEnv_cells S.kind Rf fun env he s1 x => ?_
 subst he
 refine ⟨lim.keeps x.toInCall.keep, codeAny_func ?_⟩
 obtain ⟨t, ht, hq⟩ := C7 A outer s H vs Q E (hr.deeper _) AQ
 have I : Inv (vg CX P w K mg base N qual scope f dB A outer s H E) [] (start N vs) H s1 := GX S hr.hd e0 hl r x
 refine wpAny_mono (ht [] s1 (start N vs) H _ I hq) (fun fl s' hs => ?_) fun e s' hs => hs
 have fin : ∀ {σ' : St} {H' : Hp} {v : V} {u : Value}, Inv (vg CX P w K mg base N qual scope f dB A outer s H E) [] σ' H' s' -> RelV v u -> Q v H' -> CE outer P w H s Q u s' :=
  fun {σ' H' v u} J rv q => ⟨v, H', J.os, J.bare, J.base, J.aP, rv, q⟩
 cases fl with
 | ret u =>
   obtain ⟨v, σ', H', J, rv, q⟩ := hs
   exact fin J rv q
 | next =>
   obtain ⟨σ', H', J, q⟩ := hs
   exact fin (v := V.bG) (u := Value.none) J rfl q
 | brk =>
   obtain ⟨_, _, _, q⟩ := hs
   exact False.elim q
 | cont =>
   obtain ⟨_, _, _, q⟩ := hs
   exact False.elim q
section
variable {X : Cx} {x : Str} {p pos : Pos} {e : Expr} {es : List Expr} {t : TA} {id T : String} {r : List V -> Hp -> VK -> Prop}
def ZA (r : List V -> Hp -> VK -> Prop) (t : TA) : TE := fun σ H Q => t σ H fun vs H1 => r vs H1 Q
theorem aZ (hc : p8 X (.builtin id) r) (hg : Gl X x) (hm : X.mg x = none) (hv : bootBuiltins x = some (.builtin id)) (ha : PA X (e :: es) t) (hn : x ≠ "__name__" := by decide) (nV : (x == ("__debug__" : Str)) = false := by decide)
 (he : starEach (e :: es) X.env = (false, eval e X.env) :: starEach es X.env := by rfl) (mD : (backTo pos (starEach es X.env)).any (·.1) = false := by rfl) : PE X (.Call (.Name x p) (e :: es) [] pos) (ZA r t) := by
 intro pins s σ H Q I h
 refine wpAny_Call_Name_kw (uU I hg hm hv ?_ hn nV)
 exact PyProof.Rows.callWith_builtin1 (cm (ha pos pins s σ H _ I h) fun us s1 ⟨vs, H1, I1, r1, q1⟩ => hc pins s1 σ H1 vs us Q I1 r1 q1) he mD
theorem Hv (hc : p8 X (.type T) r) (hg : Gl X x) (hm : X.mg x = none) (hv : bootBuiltins x = some (.type T)) (ha : PA X (e :: es) t) (hn : x ≠ "__name__" := by decide) (nV : (x == ("__debug__" : Str)) = false := by decide)
 (he : starEach (e :: es) X.env = (false, eval e X.env) :: starEach es X.env := by rfl) (mD : (backTo pos (starEach es X.env)).any (·.1) = false := by rfl) : PE X (.Call (.Name x p) (e :: es) [] pos) (ZA r t) := by
 intro pins s σ H Q I h
 refine wpAny_Call_Name_kw (uU I hg hm hv ?_ hn nV)
 exact PyProof.Rows.callWith_type1 (cm (ha pos pins s σ H _ I h) fun us s1 ⟨vs, H1, I1, r1, q1⟩ => hc pins s1 σ H1 vs us Q I1 r1 q1) he mD
end
end L2
namespace HT
open PySem PyProof.Rows
section
open PySem.SeqAt
open PySem.AutoSeq1 (wpAny_loadPart')
open PySem.MeetsSeq PySem.MeetsSeq2 PySem.MeetsSeq3
end
section
variable {prog : Program} {w : World} {A : Around} {E : Value -> Shared -> Prop} {s : Shared}
def yH (n d : Nat) : Option Int -> Nat
 | none => d
 | some v => if v < 0 then (v + (n : Int)).toNat else min v.toNat n
theorem FH (n d k : Nat) : yH n d (some (k : Int)) = min k n := by
 show (if (k : Int) < 0 then ((k : Int) + (n : Int)).toNat else min (k : Int).toNat n) = min k n
 rw [if_neg (by omega), Int.toNat_natCast]
end
end HT
namespace L2
open PySem PySem.Spec PyProof.Rows
abbrev TO := St -> Hp -> (Option Int -> Hp -> Prop) -> Prop
def PO (X : Cx) (e : Option Expr) (t : TO) : Prop :=
 ∀ (pins : List (Addr × Obj)) (s : Shared) (σ : St) (H : Hp) (Q : Option Int -> Hp -> Prop), Inv X pins σ H s -> t σ H Q ->
   wpAny (model X.prog X.w) X.A (evalPart e X.env) (fun u s' => ∃ o H', Inv X pins σ H' s' /\ IsPart u o /\ Q o H') X.xe s
def F8 : TO := fun _ H Q => Q none H
def Qz (t : TE) : TO := fun σ H Q => t σ H fun x H1 => ∃ i, x = .int i /\ Q (some i) H1
section
variable {X : Cx} {e : Expr} {te : TE} {lo hi : Option Expr} {tl th : TO} {pos p2 : Pos}
theorem PL : PO X none F8 := by
 intro pins s σ H Q I h
 rw [evalPart_none]
 exact wpAny_pure ⟨none, H, I, .none, h⟩
theorem BA (h : PE X e te) : PO X (some e) (Qz te) := by
 intro pins s σ H Q I hw
 rw [evalPart_some]
 refine cm (h pins s σ H _ I hw) fun u s1 ⟨x, H1, I1, r1, q1⟩ => ?_
 obtain ⟨i, rfl, q⟩ := q1
 obtain ⟨t, rfl⟩ := r1
 exact ⟨some i, H1, I1, .int i t, q⟩
def SlR (X : Cx) (r : V -> Option Int -> Option Int -> Hp -> VK -> Prop) : Prop :=
 ∀ (pins : List (Addr × Obj)) (s : Shared) (σ : St) (H : Hp) (x : V) (v vl vu : Value) (lo hi : Option Int) (sl : Addr) (Q : VK), Inv X pins σ H s -> RelV x v -> s.heap.IsSliceOf sl vl vu .none -> IsPart vl lo -> IsPart vu hi -> r x lo hi H Q ->
   ∃ T id, typeLookup (.type T) "__getitem__" = pure (some (.builtin id)) /\ s.TypeIs v T /\ wpAny (model X.prog X.w) X.A (getItem v (.ref sl)) (EP X pins σ Q) X.xe s
def tSl (r : V -> Option Int -> Option Int -> Hp -> VK -> Prop) (te : TE) (tl th : TO) : TE := fun σ H Q => te σ H fun x H1 => tl σ H1 fun l H2 => th σ H2 fun u H3 => r x l u H3 Q
theorem CN {r : V -> Option Int -> Option Int -> Hp -> VK -> Prop} (hr : SlR X r) (he : PE X e te) (hl : PO X lo tl) (hu : PO X hi th) : PE X (.Subscript e (.Slice lo hi none p2) pos) (tSl r te tl th) := by
 intro pins s σ H Q I h
 refine Subscript_ (cm (he pins s σ H _ I h) fun v s1 ⟨x, H1, I1, r1, q1⟩ => ?_)
 refine wpAny_Slice (cm (hl pins s1 σ H1 _ I1 q1) fun vl s2 ⟨l, H2, I2, pl, q2⟩ => cm (hu pins s2 σ H2 _ I2 q2) fun vu s3 ⟨u, H3, I3, pu, q3⟩ => ?_)
 rw [evalPart_none]
 refine wpAny_pure ?_
 have I4 : Inv X pins σ H3 { s3 with heap := s3.heap.push { cls := .type "slice", data := .fields #[vl, vu, .none] } } := I3.kept (t' := s3.toks) fun b ob q => Heap.get?_push_of_some _ q
 obtain ⟨T, id, hT, ht, hg⟩ := hr pins { s3 with heap := s3.heap.push { cls := .type "slice", data := .fields #[vl, vu, .none] } } σ H3 x v vl vu l u s3.heap.objs.size Q I4 r1 (Heap.IsSliceOf.new ..) pl pu q3
 show wpAny (model X.prog X.w) X.A (subscriptTail e (.Slice lo hi none p2) v (.ref s3.heap.objs.size)) (EP X pins σ Q) X.xe { s3 with heap := s3.heap.push { cls := .type "slice", data := .fields #[vl, vu, .none] } }
 exact tail_any (ops := [.ref s3.heap.objs.size, v]) ht hT hg (by with_unfolding_all rfl)
def En (xs : List V) (lo hi : Option Int) : List V := (xs.drop (HT.yH xs.length 0 lo)).take (HT.yH xs.length xs.length hi - HT.yH xs.length 0 lo)
theorem CT (xs : List V) (lo hi : Option Int) : (En xs lo hi).length <= xs.length := by
 unfold En
 rw [List.length_take, List.length_drop]
 omega
end
def E9 (n : Nat) (i : Int) : Option Nat := if 0 <= i then (if i < n then some i.toNat else none) else if -(n : Int) <= i then some (i + n).toNat else none
def uj {α : Type} (xs : List α) (i : Int) : Option α := (E9 xs.length i).bind fun j => xs[j]?
theorem PQ {n : Nat} {i : Int} {j : Nat} (h : E9 n i = some j) : seqIndex? i n = some j /\ j < n /\ -(n : Int) <= i /\ i < n := by
 unfold E9 at h
 by_cases h0 : 0 <= i
 . rw [if_pos h0] at h
   by_cases h1 : i < n
   . rw [if_pos h1] at h
     have e : i.toNat = j := Option.some.inj h
     exact ⟨by rw [seqIndex_of h0 h1, e], by omega, by omega, h1⟩
   . rw [if_neg h1] at h; cases h
 . rw [if_neg h0] at h
   by_cases h1 : -(n : Int) <= i
   . rw [if_pos h1] at h
     have e : (i + n).toNat = j := Option.some.inj h
     exact ⟨by rw [seqIndex_neg (by omega) h1, e], by omega, h1, by omega⟩
   . rw [if_neg h1] at h; cases h
theorem Au {α : Type} {xs : List α} {i : Int} {v : α} (h : uj xs i = some v) : ∃ j, seqIndex? i xs.length = some j /\ xs[j]? = some v /\ j < xs.length /\ -(xs.length : Int) <= i /\ i < xs.length := by
 unfold uj at h
 cases e : E9 xs.length i with
 | none => rw [e] at h; cases h
 | some j =>
   rw [e] at h
   obtain ⟨h1, h2, h3, h4⟩ := PQ e
   exact ⟨j, h1, h, h2, h3, h4⟩
theorem wj {α : Type} {xs : List α} {j : Nat} {v : α} (h : xs[j]? = some v) : uj xs (j : Int) = some v := by
 have hj : j < xs.length := (List.getElem?_eq_some_iff.mp h).1
 have e : E9 xs.length (j : Int) = some j := by
  unfold E9
  rw [if_pos (by omega), if_pos (by omega)]; simp
 unfold uj; rw [e]; exact h
def Nw (b : Expr) : Prop := ∀ o i, subscripted b false o i = operate [o, i] (getItem o i)
def Kl (X : Cx) (r : R2) : Prop :=
 ∀ (value slice : Expr) (pins : List (Addr × Obj)) (s : Shared) (σ : St) (H : Hp) (x y : V) (v u : Value) (Q : VK), Inv X pins σ H s -> RelV x v -> RelV y u -> r x y H Q ->
   subscripted slice false v u = operate [v, u] (getItem v u) -> wpAny (model X.prog X.w) X.A (subscriptTail value slice v u) (EP X pins σ Q) X.xe s
def Zv (X : Cx) (id : String) (r : V -> List V -> Hp -> VK -> Prop) : Prop :=
 ∀ (pins : List (Addr × Obj)) (s : Shared) (σ : St) (H : Hp) (x : V) (xs : List V) (v : Value) (us : List Value) (Q : VK), Inv X pins σ H s -> RelV x v -> Vals xs us -> r x xs H Q ->
   wpAny (model X.prog X.w) X.A (call (.builtin id) (v :: us)) (EP X pins σ Q) X.xe s
section
variable {X : Cx} {a b : Expr} {ta tb : TE} {pos : Pos}
theorem Kl.or {r r' : R2} (h : Kl X r) (h' : Kl X r') : Kl X (fun x y H Q => r x y H Q \/ r' x y H Q) := by
 intro value slice pins s σ H x y v u Q I rx ry q hs
 rcases q with q | q
 . exact h value slice pins s σ H x y v u Q I rx ry q hs
 . exact h' value slice pins s σ H x y v u Q I rx ry q hs
theorem aW {r : R2} (hr : Kl X r) (ha : PE X a ta) (hb : PE X b tb) (hs : Nw b) : PE X (.Subscript a b pos) (WD r ta tb) := by
 intro pins s σ H Q I h
 exact Subscript_ (Sh ha hb I h fun v u s2 x y H2 I2 rx ry q => hr a b pins s2 σ H2 x y v u Q I2 rx ry q (hs _ _))
def R8 (K : PySem.W.Frag) : R2 := fun x y H Q => ∃ p xs i v, x = .ref p /\ y = .int i /\ fj K H p xs /\ uj xs i = some v /\ Q v H
def V5 (K : PySem.W.Frag) : R2 := fun x y H Q => ∃ p xs i v, x = .ref p /\ y = .int i /\ DA K H p xs /\ uj xs i = some v /\ Q v H
def SH : R2 := fun x y H Q => ∃ z i c, x = .str z /\ y = .int i /\ z.length <= sizeLine /\ uj z.cps.toList i = some c /\ Q (.str ⟨#[c]⟩) H
theorem Fc : Kl X (R8 X.K) := by
 intro value slice pins s σ H x y v u Q I rx ry h hs
 obtain ⟨p, xs, i, z, rfl, rfl, hq, he, q⟩ := h
 cases rx
 obtain ⟨t, rfl⟩ := ry
 obtain ⟨bb, r, pl, hz⟩ := I.list hq
 obtain ⟨j, h1, h2, h3, h4, h5⟩ := Au he
 obtain ⟨w, ew, DQ⟩ := r.get h2
 have hl := r.length
 have hn := u6
 have fin : EP X pins σ Q w s := ⟨z, H, I, DQ, q⟩
 by_cases h0 : 0 <= i
 . have hj : i.toNat = j := by
    rw [seqIndex_of h0 h5] at h1
    exact Option.some.inj h1
   exact item_listR pl.isList h0 (by omega) (by rw [hj]; simpa using ew) fin hs
 . have hj : (i + (bb.toArray.size : Int)).toNat = j := by
    rw [seqIndex_neg (by omega) h4] at h1
    rw [List.size_toArray, <- hl]
    exact Option.some.inj h1
   exact subscriptTail_builtinR (x := w) pl.isList.typeIs slot_list_getitem.lookup
    (wpAny_getItem_list_neg (Q := fun r s' => r = w /\ EP X pins σ Q r s') pl.isList (by omega) (by rw [List.size_toArray] <;> omega) (by omega) (by rw [hj]; simpa using ew) ⟨rfl, fin⟩) hs
theorem UP : Kl X (V5 X.K) := by
 intro value slice pins s σ H x y v u Q I rx ry h hs
 obtain ⟨p, xs, i, z, rfl, rfl, hq, he, q⟩ := h
 cases rx
 obtain ⟨t, rfl⟩ := ry
 obtain ⟨bb, r, pl, hz⟩ := I.tuple hq
 obtain ⟨j, h1, h2, h3, h4, h5⟩ := Au he
 obtain ⟨w, ew, DQ⟩ := r.get h2
 have hl := r.length
 have hn := u6
 have fin : EP X pins σ Q w s := ⟨z, H, I, DQ, q⟩
 exact subscriptTail_builtinR (x := w) pl.typeIs slot_tuple_getitem.lookup
  (getItem_tuple (j := j) (Q := fun r s' => r = w /\ EP X pins σ Q r s') pl (by omega) (by omega) (by rw [List.size_toArray, <- hl]; exact h1) (by simpa using ew) ⟨rfl, fin⟩) hs
theorem UR : Kl X SH := by
 intro value slice pins s σ H x y v u Q I rx ry h hs
 obtain ⟨z, i, c, rfl, rfl, hz, he, q⟩ := h
 obtain ⟨t, rfl⟩ := rx
 obtain ⟨t', rfl⟩ := ry
 obtain ⟨j, h1, h2, h3, h4, h5⟩ := Au he
 have hl : z.cps.toList.length = z.length := by simp [Str.length]
 rw [hl] at h1 h4 h5
 have hn := u6
 exact tail_any (typeIs_str s z t) slot_str_getitem.lookup (getItem_str (c := c) (by
  have e1 : decide (i < -(2 ^ 63 : Int)) = false := decide_eq_false (by omega)
  have e2 : decide (i ≥ 2 ^ 63) = false := decide_eq_false (by omega)
  rw [e1, e2, Bool.or_false]) (by rw [h1]; simpa using h2) ⟨.str ⟨#[c]⟩, H, I.tok _, ⟨_, rfl⟩, q⟩) hs
def rIx (K : PySem.W.Frag) : R2 := fun x y H Q => R8 K x y H Q \/ V5 K x y H Q \/ SH x y H Q
theorem Rq : Kl X (rIx X.K) := Fc.or (UP.or UR)
theorem Bq (lo hi : Option Int) (n : Nat) : (sliceBounds lo hi none n).1 = ((HT.yH n 0 lo : Nat) : Int) /\ (sliceBounds lo hi none n).2.1 = ((HT.yH n n hi : Nat) : Int) /\ (sliceBounds lo hi none n).2.2 = 1 := by
 refine ⟨?_, ?_, rfl⟩
 . cases lo with
   | none => simp [sliceBounds, HT.yH]
   | some i =>
     simp only [sliceBounds, HT.yH, Option.getD_none, show (1 : Int) > 0 by decide, if_true]
     by_cases h : i < 0
     . simp only [h, if_true] <;> omega
     . simp only [h, if_false] <;> omega
 . cases hi with
   | none => simp [sliceBounds, HT.yH]
   | some i =>
     simp only [sliceBounds, HT.yH, Option.getD_none, show (1 : Int) > 0 by decide, if_true]
     by_cases h : i < 0
     . simp only [h, if_true] <;> omega
     . simp only [h, if_false] <;> omega
theorem yS (bb : List Value) (lo hi : Option Int) : slicePick bb.toArray lo hi none = ((bb.drop (HT.yH bb.length 0 lo)).take (HT.yH bb.length bb.length hi - HT.yH bb.length 0 lo)).toArray := by
 obtain ⟨h1, h2, h3⟩ := Bq lo hi bb.toArray.size
 unfold slicePick
 rw [h1, h2, h3]
 simp only [sliceRange_one, pick_run, List.size_toArray] <;> rfl
def U2 (K : PySem.W.Frag) : V -> Option Int -> Option Int -> Hp -> VK -> Prop := fun x lo hi H Q => ∃ a xs, x = .ref a /\ fj K H a xs /\ ∀ p, H p = none -> Q (.ref p) (upd H p (.lst (En xs lo hi)))
theorem FL : SlR X (U2 X.K) := by
 intro pins s σ H x v vl vu lo hi sl Q I rx hs pl pu h
 obtain ⟨a, xs, rfl, hx, q⟩ := h
 cases rx
 obtain ⟨bb, r, ht, hz⟩ := I.list hx
 have hlen := r.length
 refine ⟨"list", _, slot_list_getitem.lookup, ht.isList.typeIs, ?_⟩
 refine wpAny_getItem_list_slice ht.isList hs pl pu .none (by simp) ?_ (by rw [List.size_toArray] <;> omega)
 rw [yS, <- hlen]
 refine ⟨.ref s.heap.objs.size, _, I.laid (t' := s.toks) (o := .lst (En xs lo hi)) (fun b ob q => Heap.get?_push_of_some _ q) (Nat.le_refl _) ?_, rfl, q _ (I.aP.fresh (Nat.le_refl _))⟩
 exact ⟨Nat.le_trans (CT xs lo hi) hz, _, 0, (r.drop (HT.yH xs.length 0 lo)).take (HT.yH xs.length xs.length hi - HT.yH xs.length 0 lo), Heap.get?_push_size _ rfl⟩
theorem mj : p8 X (.builtin "len") (fun xs H Q => ∃ p ys, xs = [.ref p] /\ (fj X.K H p ys \/ DA X.K H p ys) /\ Q (.int ys.length) H) := by
 intro pins s σ H xs us Q I r h
 obtain ⟨p, ys, rfl, hq, q⟩ := h
 obtain ⟨u, rfl, rx⟩ := vals1 r
 cases rx
 have hn := u6
 rcases hq with hq | hq
 . obtain ⟨bb, r', pl, hz⟩ := I.list hq
   have hlen := r'.length
   exact Calls.call_len_list pl.isList (by simp only [List.size_toArray] <;> omega) ⟨.int ys.length, H, I.tok _, ⟨s.toks + 1, by rw [List.size_toArray, hlen]⟩, q⟩
 . obtain ⟨bb, r', pl, hz⟩ := I.tuple hq
   have hlen := r'.length
   exact len_tuple pl (by simp only [List.size_toArray] <;> omega) ⟨.int ys.length, H, I.tok _, ⟨s.toks + 1, by rw [List.size_toArray, hlen]⟩, q⟩
theorem Bv : p8 X (.builtin "len") (fun xs H Q => ∃ z, xs = [.str z] /\ z.length <= sizeLine /\ Q (.int z.length) H) := by
 intro pins s σ H xs us Q I r h
 obtain ⟨z, rfl, hz, q⟩ := h
 obtain ⟨u, rfl, t, rfl⟩ := vals1 r
 have hn := u6
 exact len_str (by omega) ⟨.int z.length, H, I.tok _, ⟨_, rfl⟩, q⟩
def QI (K : PySem.W.Frag) (T : String) (x : V) (H : Hp) : Prop := match x with
 | .str _ => T = "str"
 | .int _ => T = "int"
 | .ref p => (T = "list" /\ ∃ xs, fj K H p xs) \/ (T = "tuple" /\ ∃ o, K.lookup p = some o /\ o.cls = .type "tuple" /\ o.dict = none) \/
  (T = "dict" /\ ((∃ ax, H p = some (.dK ax)) \/ ∃ ax, H p = some (.dT ax))) \/ (T = "set" /\ ∃ S n, H p = some (.set S n))
 | _ => False
theorem AW {pins : List (Addr × Obj)} {σ : St} {H : Hp} {s : Shared} {T : String} {x : V} {v : Value} (I : Inv X pins σ H s) (r : RelV x v) (ty : QI X.K T x H) :
 s.TypeIs v T /\ ∀ a, v = .ref a -> ∃ ob, s.heap.get? a = some ob /\ ob.dict = none := by
 cases x with
 | str z =>
   obtain ⟨t, rfl⟩ := r
   cases (show T = "str" from ty)
   exact ⟨typeIs_str s z t, fun _ e => nomatch e⟩
 | int i =>
   obtain ⟨t, rfl⟩ := r
   cases (show T = "int" from ty)
   exact ⟨typeIs_int s i t, fun _ e => nomatch e⟩
 | ref p =>
   cases r
   rcases ty with ⟨rfl, xs, hq⟩ | ⟨rfl, o, hk, hc, hd⟩ | ⟨rfl, hk⟩ | ⟨rfl, S, n, hk⟩
   . obtain ⟨bb, _, pl, _⟩ := I.list hq
     refine ⟨pl.isList.typeIs, fun a e => ?_⟩
     cases e
     obtain ⟨o, n, e, c, hd, _⟩ := pl
     exact ⟨o, e, hd⟩
   . refine ⟨⟨o, I.iB p o hk, hc⟩, fun a e => ?_⟩
     cases e
     exact ⟨o, I.iB _ o hk, hd⟩
   . have z : ∃ o, s.heap.get? p = some o /\ o.ExactDict := by
      rcases hk with ⟨ax, hk⟩ | ⟨ax, hk⟩
      . obtain ⟨_, _, _, _, o, _, _, e, ex, _⟩ := I.aP p _ hk
        exact ⟨o, e, ex⟩
      . obtain ⟨_, _, _, _, o, _, _, e, ex, _⟩ := I.aP p _ hk
        exact ⟨o, e, ex⟩
     obtain ⟨o, e, ex⟩ := z
     refine ⟨⟨o, e, ex.1⟩, fun a e2 => ?_⟩
     cases e2
     exact ⟨o, e, ex.2.1⟩
   . obtain ⟨o, _, _, _, e, ex, _⟩ := I.aP p _ hk
     refine ⟨⟨o, e, ex.1⟩, fun a e2 => ?_⟩
     cases e2
     exact ⟨o, e, ex.2.1⟩
 | _ => exact False.elim ty
def XA (K : PySem.W.Frag) (T : String) (r : V -> List V -> Hp -> VK -> Prop) (to : TE) : TE := fun σ H Q => to σ H fun x H1 => QI K T x H1 /\ r x [] H1 Q
def tBM (K : PySem.W.Frag) (T : String) (r : V -> List V -> Hp -> VK -> Prop) (to : TE) (t : TA) : TE := fun σ H Q => to σ H fun x H1 => QI K T x H1 /\ t σ H1 fun xs H2 => r x xs H2 Q
variable {o e : Expr} {es : List Expr} {to : TE} {t : TA} {name : Str} {apos dh : Pos} {T id : String} {r : V -> List V -> Hp -> VK -> Prop}
theorem JL (pa : PlainAttrs T) (slot : Slot T name id) (hty : typeOf (.builtin id) = pure (.type "method_descriptor")) (hm : Zv X id r) (ho : PE X o to)
 (sY : attributeBase o name X.env (eval o X.env) = eval o X.env := by rfl) (hline : (apos.endLine == dh.line) = true := by rfl) : PE X (.Call (.Attribute o name apos) [] [] dh) (XA X.K T r to) := by
 intro pins s σ H Q I h
 refine wpAny_Call_method0_late sY hline (cm (ho pins s σ H _ I h) fun v s1 ⟨x, H1, I1, r1, ty, q1⟩ => ?_)
 obtain ⟨h1, h2⟩ := AW I1 r1 ty
 exact ⟨T, id, pa, slot, hty, h1, h2, Calls.callWith_builtin rfl (PySem.evalArgs_none (hm pins s1 σ H1 x [] v [] Q I1 r1 .nil q1))⟩
theorem je (pa : PlainAttrs T) (slot : Slot T name id) (hty : typeOf (.builtin id) = pure (.type "method_descriptor")) (hm : Zv X id r) (ho : PE X o to) (ha : PA X (e :: es) t)
 (sY : attributeBase o name X.env (eval o X.env) = eval o X.env := by rfl)
 (aa1 : ((backTo dh (starEach (e :: es) X.env)).all (fun x => !x.1) && (backToKw dh (keywordEach [] X.env)).all (fun x => x.1.isSome)
  && decide ((e :: es).length + ([] : List Keyword).length + (if ([] : List Keyword).isEmpty then 0 else 1) < 30)) = true := by rfl)
 (hline : (apos.endLine == dh.line) = true := by rfl) (hs : starEach (e :: es) X.env = (false, eval e X.env) :: starEach es X.env := by rfl) (vd : (backTo dh (starEach es X.env)).any (·.1) = false := by rfl) :
 PE X (.Call (.Attribute o name apos) (e :: es) [] dh) (tBM X.K T r to t) := by
 intro pins s σ H Q I h
 refine wpAny_Call_method_late sY aa1 hline rfl (cm (ho pins s σ H _ I h) fun v s1 ⟨x, H1, I1, r1, ty, q1⟩ => ?_)
 obtain ⟨h1, h2⟩ := AW I1 r1 ty
 refine ⟨T, id, pa, slot, hty, h1, h2, ?_⟩
 have hA := ha dh pins s1 σ H1 _ I1 q1
 rw [hs] at hA ⊢
 refine Calls.callWith_builtin (by show (false || (backTo dh (starEach es X.env)).any (·.1)) = false; rw [vd] <;> rfl) (Calls.evalArgs_plain ?_)
 exact cm hA fun us s2 ⟨vs, H2, I2, r2, q2⟩ => hm pins s2 σ H2 x vs v us Q I2 r1 r2 q2
end
def Vn (X : Cx) (id : String) (r : V -> List V -> Hp -> VK -> Prop) : Prop :=
 ∀ (pins : List (Addr × Obj)) (s : Shared) (σ : St) (H : Hp) (x : V) (xs : List V) (v : Value) (us : List Value) (Q : VK), Inv X pins σ H s -> RelV x v -> Vals xs us -> r x xs H Q ->
   wpAny (model X.prog X.w) X.A (call (.builtin id) (v :: us)) (EP X pins σ Q) X.xe s
theorem Vals.one : ∀ {x : V} {us : List Value}, Vals [x] us -> ∃ u, us = [u] /\ RelV x u
 | _, _, .cons r .nil => ⟨_, rfl, r⟩
theorem Vals.zero : ∀ {us : List Value}, Vals [] us -> us = []
 | _, .nil => rfl
theorem Vals.dropLast {xs : List V} {us : List Value} (h : Vals xs us) : Vals xs.dropLast us.dropLast := by
 induction h with
 | nil => exact .nil
 | cons r t ih =>
   cases t with
   | nil => exact .nil
   | cons q t' => exact .cons r ih
theorem Vals.eraseIdx : ∀ {xs : List V} {us : List Value} (i : Nat), Vals xs us -> Vals (xs.eraseIdx i) (us.eraseIdx i)
 | _, _, _, .nil => .nil
 | _, _, 0, .cons _ t => t
 | _, _, i + 1, .cons r t => .cons r (Vals.eraseIdx i t)
theorem DR {α : Type} (l : List α) : l.eraseIdx (l.length - 1) = l.dropLast := by
 induction l with
 | nil => rfl
 | cons a r ih =>
   cases r with
   | nil => rfl
   | cons b r =>
     have e : (a :: b :: r).length - 1 = ((b :: r).length - 1) + 1 := by
      have h1 : (a :: b :: r).length = r.length + 2 := rfl
      have h2 : (b :: r).length = r.length + 1 := rfl
      omega
     rw [e, List.eraseIdx_cons_succ, ih]
     all_goals rfl
theorem zu {α : Type} : ∀ (l : List α) (i : Nat), (l.eraseIdx i).length <= l.length
 | [], _ => Nat.le_refl _
 | _ :: _, 0 => Nat.le_succ _
 | _ :: r, i + 1 => Nat.succ_le_succ (zu r i)
section
variable {X : Cx} {pins : List (Addr × Obj)} {σ : St} {H : Hp} {s : Shared} {l b : Addr} {xs ys zs : List V}
theorem Inv.JN {bb its' : List Value} {n : Nat} {f : Array Value -> Array Value} {t' : Nat} (I : Inv X pins σ H s) (hH : H l = some (.lst xs))
 (e : s.heap.get? l = some { cls := .type "list", data := .seq bb.toArray n }) (hf : f bb.toArray = its'.toArray) (hv : Vals ys its') (hz : ys.length <= sizeLine) :
 Inv X pins σ (upd H l (.lst ys)) { s with heap := s.heap.update l (Obj.mapSeq f), toks := t' } := by
 have q := PySem.IsL.update e f
 rw [hf] at q
 refine I.write (x := l) (e := l) (by rw [hH]; exact trivial) (.inl rfl) (fun b' u hb hu => (Heap.get?_update_other s.heap (Obj.mapSeq f) (Ne.symm hb)).trans hu) ⟨_, q⟩ ?_
 exact ⟨hz, its', _, hv, q⟩
theorem Inv.HM (I : Inv X pins σ H s) (hH : H l = some (.lst xs)) : xs.length <= sizeLine /\ ∃ (bb : List Value) (n : Nat), Vals xs bb /\ xs.length = bb.length /\ s.heap.get? l = some { cls := .type "list", data := .seq bb.toArray n } := by
 obtain ⟨z, bb, n, r, e⟩ := I.aP l _ hH
 exact ⟨z, bb, n, r, r.length, e⟩
theorem IW {n : Nat} (h : n <= sizeLine) : Builtin.List.listTooLong n = false := by
 unfold Builtin.List.listTooLong
 exact decide_eq_false (by omega)
end
section
variable {X : Cx}
def AG : V -> List V -> Hp -> VK -> Prop := fun x vs H Q => ∃ l xs y, x = .ref l /\ vs = [y] /\ H l = some (.lst xs) /\ xs.length < sizeLine /\ Q .bG (upd H l (.lst (xs ++ [y])))
theorem lh : Vn X "list.append" AG := by
 intro pins s σ H x vs v us Q I rx rv h
 obtain ⟨l, xs, y, rfl, rfl, hH, hz, q⟩ := h
 cases rx
 obtain ⟨u, rfl, ru⟩ := rv.one
 obtain ⟨z, bb, n, r, hl, e⟩ := I.HM hH
 refine call_meets F.slot_list_append ⟨_, e, rfl⟩ F.entry_list_append (F.args_list_append_2 _ _) (PySem.list_append l bb.toArray n u (by rw [List.size_toArray]; omega)) ⟨e, ?_⟩
 refine ⟨.bG, _, I.JN (its' := bb ++ [u]) hH e (by simp) (r.append (.cons ru .nil)) ?_, rfl, q⟩
 rw [List.length_append, List.length_singleton]
 omega
def F3 : V -> List V -> Hp -> VK -> Prop := fun x vs H Q => ∃ l b xs zs, x = .ref l /\ vs = [.ref b] /\ H l = some (.lst xs) /\ H b = some (.lst zs) /\ xs.length + zs.length <= sizeLine /\ Q .bG (upd H l (.lst (xs ++ zs)))
theorem zP : Vn X "list.extend" F3 := by
 intro pins s σ H x vs v us Q I rx rv h
 obtain ⟨l, b, xs, zs, rfl, rfl, hH, hB, hz, q⟩ := h
 cases rx
 obtain ⟨u, rfl, ru⟩ := rv.one
 cases ru
 obtain ⟨z, bb, n, r, hl, e⟩ := I.HM hH
 obtain ⟨z2, G0, n2, r2, Jl, e2⟩ := I.HM hB
 have hsz : bb.toArray.size + G0.toArray.size <= sizeLine := by rw [List.size_toArray, List.size_toArray]; omega
 have VQ : ¬ (!bb.toArray.isEmpty && Builtin.List.listTooLong (bb.toArray.size + G0.toArray.size)) = true := by
  rw [IW hsz, Bool.and_false]
  exact Bool.false_ne_true
 refine call_meets F.slot_list_extend ⟨_, e, rfl⟩ F.entry_list_extend (F.args_list_extend_2 _ _)
  (AutoSeq1.list_extend_list_list_0 l bb.toArray n b G0.toArray n2 VQ (by rw [List.size_toArray]; omega) (by omega)) ⟨e, e2, ?_⟩
 refine ⟨.bG, _, I.JN (its' := bb ++ G0) hH e (by simp) (r.append r2) ?_, rfl, q⟩
 rw [List.length_append]
 omega
def Xp : V -> List V -> Hp -> VK -> Prop := fun x vs H Q => ∃ l xs y, x = .ref l /\ vs = [] /\ H l = some (.lst xs) /\ xs[xs.length - 1]? = some y /\ Q y (upd H l (.lst xs.dropLast))
theorem RD : Vn X "list.pop" Xp := by
 intro pins s σ H x vs v us Q I rx rv h
 obtain ⟨l, xs, y, rfl, rfl, hH, hy, q⟩ := h
 cases rx
 have An := rv.zero
 subst An
 obtain ⟨z, bb, n, r, hl, e⟩ := I.HM hH
 obtain ⟨u, hu, ru⟩ := r.get hy
 have MR : bb.toArray[bb.toArray.size - 1]? = some u := by
  show bb.toArray[bb.length - 1]? = some u
  rw [<- Array.getElem?_toList, <- hl]
  exact hu
 refine call_meets F.slot_list_pop ⟨_, e, rfl⟩ F.entry_list_pop (F.args_list_pop_1 _) (MeetsSeq.list_pop_last l bb.toArray n u MR (by rw [List.size_toArray]; omega)) ⟨e, ?_⟩
 refine ⟨y, _, I.JN (its' := bb.dropLast) hH e ?_ r.dropLast ?_, ru, q⟩
 . show bb.toArray.eraseIdxIfInBounds (bb.toArray.size - 1) = bb.dropLast.toArray
   rw [List.size_toArray, List.eraseIdxIfInBounds_toArray, DR]
 . rw [List.length_dropLast]
   omega
def Lj : V -> List V -> Hp -> VK -> Prop := fun x vs H Q => ∃ l xs i k y, x = .ref l /\ vs = [.int i] /\ H l = some (.lst xs) /\ -(2 ^ 63) <= i /\ i < 2 ^ 63 /\ seqIndex? i xs.length = some k /\ xs[k]? = some y /\ Q y (upd H l (.lst (xs.eraseIdx k)))
theorem Mf : Vn X "list.pop" Lj := by
 intro pins s σ H x vs v us Q I rx rv h
 obtain ⟨l, xs, i, k, y, rfl, rfl, hH, h1, h2, hk, hy, q⟩ := h
 cases rx
 obtain ⟨u, rfl, ru⟩ := rv.one
 obtain ⟨t, rfl⟩ := ru
 obtain ⟨z, bb, n, r, hl, e⟩ := I.HM hH
 obtain ⟨w, hw, DQ⟩ := r.get hy
 refine call_meets F.slot_list_pop ⟨_, e, rfl⟩ F.entry_list_pop (F.args_list_pop_2 _ _)
  (MeetsSeq.list_pop_at l bb.toArray n i t k w (fitsIndex_both h1 h2) (by rw [List.size_toArray, <- hl]; exact hk) (by rw [<- Array.getElem?_toList]; exact hw) (by rw [List.size_toArray]; omega)) ⟨e, ?_⟩
 refine ⟨y, _, I.JN (its' := bb.eraseIdx k) hH e ?_ (r.eraseIdx k) ?_, DQ, q⟩
 . show bb.toArray.eraseIdxIfInBounds k = (bb.eraseIdx k).toArray
   rw [List.eraseIdxIfInBounds_toArray]
 . have := zu xs k
   omega
end
section
variable {prog : Program} {w : World} {A : Around} {E : Value -> Shared -> Prop} {s : Shared}
set_option maxRecDepth 100000 in
end
section
variable {X : Cx}
end
section
variable {κ : Type} [DecidableEq κ]
def kQ (ax : List (κ × V)) (k : κ) : Option V := (ax.find? fun kv => decide (kv.1 = k)).map (·.2)
def putK (ax : List (κ × V)) (k : κ) (v : V) : List (κ × V) :=
 if (ax.any fun kv => decide (kv.1 = k)) = true then ax.map (fun kv => if kv.1 = k then (kv.1, v) else kv) else ax ++ [(k, v)]
def ni (ax : List (κ × V)) (k : κ) : List (κ × V) := ax.filter fun kv => decide (kv.1 ≠ k)
theorem o8 {p : κ × V} {r : List (κ × V)} {k : κ} (e : p.1 = k) : kQ (p :: r) k = some p.2 := by simp [kQ, List.find?_cons, e]
theorem kU {p : κ × V} {r : List (κ × V)} {k : κ} (e : ¬ p.1 = k) : kQ (p :: r) k = kQ r k := by simp [kQ, List.find?_cons, e]
theorem CY (k : κ) : ∀ ax : List (κ × V), (ax.any fun kv => decide (kv.1 = k)) = (kQ ax k).isSome
 | [] => rfl
 | p :: r => by
   rw [List.any_cons]
   by_cases e : p.1 = k
   . simp only [o8 e, decide_eq_true e, Bool.true_or, Option.isSome_some]
   . rw [kU e, decide_eq_false e, Bool.false_or]; exact CY k r
theorem vH (ax : List (κ × V)) (k : κ) (v : V) : (putK ax k v).length <= ax.length + 1 := by
 unfold putK
 split
 . rw [List.length_map]; omega
 . rw [List.length_append, List.length_cons, List.length_nil]; omega
theorem kE.kZ {o : Option V} {u : Option Value} (r : kE o u) : o.isSome = u.isSome := by
 cases o with
 | none => cases u with
   | none => rfl
   | some _ => exact (show False from r).elim
 | some _ => cases u with
   | none => exact (show False from r).elim
   | some _ => rfl
theorem kE.getD {o : Option V} {u : Option Value} {d : V} {d' : Value} (r : kE o u) (rd : RelV d d') : RelV (o.getD d) (u.getD d') := by
 cases o with
 | none => cases u with
   | none => exact rd
   | some _ => exact (show False from r).elim
 | some _ => cases u with
   | none => exact (show False from r).elim
   | some _ => exact r
theorem KV.val {ax : List (κ × V)} {vs : List (κ × Value)} (r : KV ax vs) (k : κ) : kE (kQ ax k) (valueAt vs k) := by
 unfold KV at r
 induction r with
 | nil => exact True.intro
 | @cons p q ps qs h t ih =>
   obtain ⟨h1, h2⟩ := h
   by_cases e : p.1 = k
   . have e' : q.1 = k := h1.symm.trans e
     have b : valueAt (q :: qs) k = some q.2 := by simp [valueAt, List.find?_cons, e']
     rw [o8 e, b]; exact h2
   . have e' : ¬ q.1 = k := fun z => e (h1.trans z)
     have b : valueAt (q :: qs) k = valueAt qs k := by simp [valueAt, List.find?_cons, e']
     rw [kU e, b]; exact ih
theorem KV.any {ax : List (κ × V)} {vs : List (κ × Value)} (r : KV ax vs) (k : κ) : (ax.any fun kv => decide (kv.1 = k)) = vs.any fun kv => decide (kv.1 = k) := by
 unfold KV at r
 induction r with
 | nil => rfl
 | cons h t ih => rw [List.any_cons, List.any_cons, ih, h.1]
theorem KV.repl {ax : List (κ × V)} {vs : List (κ × Value)} (r : KV ax vs) (k : κ) {y : V} {u : Value} (ry : RelV y u) :
 KV (ax.map fun kv => if kv.1 = k then (kv.1, y) else kv) (vs.map fun kv => if kv.1 = k then (kv.1, u) else kv) := by
 unfold KV at r ⊢
 induction r with
 | nil => exact .nil
 | @cons p q ps qs h t ih =>
   rw [List.map_cons, List.map_cons]
   refine .cons ?_ ih
   obtain ⟨h1, h2⟩ := h
   by_cases e : p.1 = k
   . rw [if_pos e, if_pos (h1.symm.trans e)]; exact ⟨h1, ry⟩
   . rw [if_neg e, if_neg (fun z => e (h1.trans z))]; exact ⟨h1, h2⟩
theorem KV.put {ax : List (κ × V)} {vs : List (κ × Value)} (r : KV ax vs) (k : κ) {y : V} {u : Value} (ry : RelV y u) : KV (putK ax k y) (stored vs k u) := by
 unfold putK stored
 rw [r.any k]
 by_cases e : (vs.any fun kv => decide (kv.1 = k)) = true
 . rw [if_pos e, if_pos e]; exact r.repl k ry
 . rw [if_neg e, if_neg e]; exact Paired.snoc r ⟨rfl, ry⟩
theorem KV.drop {ax : List (κ × V)} {vs : List (κ × Value)} (r : KV ax vs) (k : κ) : KV (ni ax k) (without vs k) := by
 unfold KV at r ⊢
 unfold ni without
 induction r with
 | nil => exact .nil
 | @cons p q ps qs h t ih =>
   obtain ⟨h1, h2⟩ := h
   rw [List.filter_cons, List.filter_cons]
   by_cases e : p.1 = k
   . have a : ¬ decide (p.1 ≠ k) = true := by simp [e]
     have b : ¬ decide (q.1 ≠ k) = true := by simp [h1.symm.trans e]
     rw [if_neg a, if_neg b]; exact ih
   . have e' : ¬ q.1 = k := fun z => e (h1.trans z)
     have a : decide (p.1 ≠ k) = true := by simp [e]
     have b : decide (q.1 ≠ k) = true := by simp [e']
     rw [if_pos a, if_pos b]; exact .cons ⟨h1, h2⟩ ih
theorem KV.length {ax : List (κ × V)} {vs : List (κ × Value)} (r : KV ax vs) : ax.length = vs.length := Paired.length r
theorem Mr (ax : List (κ × V)) (k : κ) : (ni ax k).length <= ax.length := List.length_filter_le _ _
end
theorem x4 {P : Program} {w : World} {k : Key} {u : Value} (r : RelV (kV k) u) : (aY P w).is k u = true := by
 cases k with
 | inl i => obtain ⟨t, e⟩ := (show ∃ t, u = Value.int i t from r); subst e; exact Cq P w i t
 | inr x => obtain ⟨t, e⟩ := (show ∃ t, u = Value.str x t from r); subst e; exact Dw P w x t
theorem Aj {P : Program} {w : World} : ∀ {ks : List Key} {us : List Value}, Vals (ks.map kV) us -> ItemsAre (aY P w) ks us
 | [], _, r => by rw [List.map_nil] at r; cases r; exact .nil
 | k :: ks, _, r => by
   rw [List.map_cons] at r
   cases r with
   | cons h t => exact .cons (x4 h) (Aj t)
abbrev KT (H : Hp) : List (List Key × V) -> List (List Key × Addr × Value) -> Prop := Paired fun p q => p.1 = q.1 /\ H q.2.1 = some (.tup (p.1.map kV)) /\ RelV p.2 q.2.2
theorem KT.val {H : Hp} {ax : List (List Key × V)} {xs : List (List Key × Addr × Value)} (r : KT H ax xs) (k : List Key) : kE (kQ ax k) ((atKey xs k).map (·.2)) := by
 induction r with
 | nil => exact True.intro
 | @cons p q ps qs h t ih =>
   obtain ⟨h1, _, h2⟩ := h
   by_cases e : p.1 = k
   . have e' : q.1 = k := h1.symm.trans e
     have b : atKey (q :: qs) k = some q.2 := by simp [atKey, List.find?_cons, e']
     rw [o8 e, b]; exact h2
   . have e' : ¬ q.1 = k := fun z => e (h1.trans z)
     have b : atKey (q :: qs) k = atKey qs k := by simp [atKey, List.find?_cons, e']
     rw [kU e, b]; exact ih
theorem KT.repl {H : Hp} {ax : List (List Key × V)} {xs : List (List Key × Addr × Value)} (r : KT H ax xs) (k : List Key) {y : V} {u : Value} (ry : RelV y u) :
 KT H (ax.map fun kv => if kv.1 = k then (kv.1, y) else kv) (xs.map (putAt k u)) := by
 induction r with
 | nil => exact .nil
 | @cons p q ps qs h t ih =>
   rw [List.map_cons, List.map_cons]
   refine .cons ?_ ih
   obtain ⟨h1, h2, h3⟩ := h
   unfold putAt
   by_cases e : p.1 = k
   . rw [if_pos e, if_pos (h1.symm.trans e)]; exact ⟨h1, h2, ry⟩
   . rw [if_neg e, if_neg (fun z => e (h1.trans z))]; exact ⟨h1, h2, h3⟩
theorem KT.put {H : Hp} {ax : List (List Key × V)} {xs : List (List Key × Addr × Value)} (r : KT H ax xs) (k : List Key) {b : Addr} {y : V} {u : Value} (hb : H b = some (.tup (k.map kV))) (ry : RelV y u) :
 KT H (putK ax k y) (storedH xs k b u) := by
 have e : (ax.any fun kv => decide (kv.1 = k)) = (atKey xs k).isSome := by
  rw [CY, (r.val k).kZ, Option.isSome_map]
 unfold putK storedH
 rw [e]
 by_cases q : (atKey xs k).isSome = true
 . rw [if_pos q, if_pos q]; exact r.repl k ry
 . rw [if_neg q, if_neg q]; exact Paired.snoc r ⟨rfl, hb, ry⟩
theorem KT.keeps {H H' : Hp} {ax : List (List Key × V)} {xs : List (List Key × Addr × Value)} (r : KT H ax xs) (ht : ∀ b ys, H b = some (.tup ys) -> H' b = some (.tup ys)) : KT H' ax xs :=
 Paired.TH r fun _ _ z => ⟨z.1, ht _ _ z.2.1, z.2.2⟩
section
variable {P : Program} {w : World} {H : Hp} {h : Heap} {a : Addr}
theorem QY {u : HO} (ok : k8 P w H h) (e : Rd H a u) : bI P w H h a u := e.ok ok
theorem yr {ax : List (Key × V)} (ok : k8 P w H h) (e : Rd H a (.dK ax)) : ax.length <= sizeLine /\ (a == sysModules) = false /\ ∃ vs, KV ax vs /\ h.DictOf (aY P w) a vs :=
 show bI P w H h a (.dK ax) from QY ok e
theorem QN {ax : List (Key × V)} (ok : k8 P w H h) (e : H a = some (.dK ax)) : ax.length <= sizeLine /\ (a == sysModules) = false /\ ∃ vs, KV ax vs /\ h.DictOf (aY P w) a vs := yr ok (.inl e)
theorem vi {ks : List Key} (ok : k8 P w H h) (e : H a = some (.tup (ks.map kV))) : (tupleKind (aY P w)).is h ks a := by
 obtain ⟨_, bb, r, o, h1, h2, n, h3⟩ := (show bI P w H h a (.tup (ks.map kV)) from ok a _ e)
 exact ⟨o, bb.toArray, n, h1, h2, h3, by simpa using Aj r⟩
theorem xB {ax : List (List Key × V)} (ok : k8 P w H h) (e : Rd H a (.dT ax)) : ax.length <= sizeLine /\ (a == sysModules) = false /\
 ∃ xs, KT H ax xs /\ h.DictOfH (tupleKind (aY P w)) a xs := by
 obtain ⟨z, y, xs, r, o, es, ep, h1, h2, h3, h4, h5⟩ := (show bI P w H h a (.dT ax) from QY ok e)
 refine ⟨z, y, xs, r, o, es, ep, h1, h2, h3, h4, fun x hx => ?_, h5⟩
 have all : ∀ {l : List (List Key × V)} {m : List (List Key × Addr × Value)}, KT H l m -> ∀ x ∈ m, (tupleKind (aY P w)).is h x.1 x.2.1 := by
  intro l m q
  induction q with
  | nil => intro x hx; exact nomatch hx
  | @cons p q ps qs hq t ih =>
    intro x hx
    rcases List.mem_cons.mp hx with e | hx
    . subst e
      exact vi ok (by rw [<- hq.1]; exact hq.2.1)
    . exact ih x hx
 exact all r x hx
theorem WX {ax : List (List Key × V)} (ok : k8 P w H h) (e : H a = some (.dT ax)) : ax.length <= sizeLine /\ (a == sysModules) = false /\
 ∃ xs, KT H ax xs /\ h.DictOfH (tupleKind (aY P w)) a xs := xB ok (.inl e)
end
def g8 (H : Hp) (a : Addr) (y : V) (r : Option V) : Prop :=
 (∃ ax k, Rd H a (.dK ax) /\ y = kV k /\ r = kQ ax k) \/ ∃ ax k b, Rd H a (.dT ax) /\ y = .ref b /\ H b = some (.tup (k.map kV)) /\ r = kQ ax k
def CU (H : Hp) (a : Addr) (y v : V) (H' : Hp) : Prop :=
 (∃ ax k, H a = some (.dK ax) /\ y = kV k /\ ax.length < sizeLine /\ H' = upd H a (.dK (putK ax k v))) \/
 ∃ ax k b, H a = some (.dT ax) /\ y = .ref b /\ H b = some (.tup (k.map kV)) /\ ax.length < sizeLine /\ H' = upd H a (.dT (putK ax k v))
theorem g8.k {H : Hp} {a : Addr} {ax : List (Key × V)} {k : Key} (e : H a = some (.dK ax)) : g8 H a (kV k) (kQ ax k) := .inl ⟨ax, k, .inl e, rfl, rfl⟩
theorem CU.k {H : Hp} {a : Addr} {ax : List (Key × V)} {k : Key} {v : V} (e : H a = some (.dK ax)) (hl : ax.length < sizeLine) : CU H a (kV k) v (upd H a (.dK (putK ax k v))) := .inl ⟨ax, k, e, rfl, hl, rfl⟩
section
variable {X : Cx} {pins : List (Addr × Obj)} {σ : St} {H : Hp} {s : Shared} {a : Addr} {y v : V} {u r : Value} {o : Option V} {A : Around} {E : Value -> Shared -> Prop}
theorem Inv.big (I : Inv X pins σ H s) : sysModules < s.heap.objs.size := by
 have h : mainGlobals < s.heap.objs.size := (I.mod.glob.keeps I.bk).lt
 exact Nat.lt_trans (by decide) h
theorem IG {Q : Value -> Shared -> Prop} (hu : A.units + 1 < cLine) (I : Inv X pins σ H s) (g : g8 H a y (some v)) (ry : RelV y u) (h : ∀ w' s', Inv X pins σ H s' -> RelV v w' -> Q w' s') :
 wpAny (model X.prog X.w) A (getItem (.ref a) u) Q E s := by
 rcases g with ⟨ax, k, e, ey, l⟩ | ⟨ax, k, b, e, ey, eb, l⟩
 . subst ey
   obtain ⟨z, hd, vs, rel, dd⟩ := yr I.aP e
   obtain ⟨w', hw, DQ⟩ := kE.some_of (v := v) (o := valueAt vs k) (by rw [l]; exact rel.val k)
   exact wpAny_getItem_of (x4 ry) dd.mapOf hw (h w' _ (I.tok _) DQ)
 . subst ey
   cases (show u = Value.ref b from ry)
   obtain ⟨z, hd, xs, rel, dd⟩ := xB I.aP e
   obtain ⟨w', hw, DQ⟩ := kE.some_of (v := v) (o := (atKey xs k).map (·.2)) (by rw [l]; exact rel.val k)
   obtain ⟨p, hp, Oi⟩ := Option.map_eq_some_iff.mp hw
   refine wpAny_getItem_heap (tupleKind_room_in1 hu) (vi I.aP eb) dd hp ?_
   rw [Oi]
   exact h w' _ (I.tok _) DQ
theorem aaB {Q : Value -> Shared -> Prop} (hu : A.units + 1 < cLine) (I : Inv X pins σ H s) (g : g8 H a y o) (ry : RelV y u) (h : ∀ s', Inv X pins σ H s' -> Q (.bool o.isSome) s') :
 wpAny (model X.prog X.w) A (compareOp .In u (.ref a)) Q E s := by
 rcases g with ⟨ax, k, e, ey, l⟩ | ⟨ax, k, b, e, ey, eb, l⟩
 . subst ey
   obtain ⟨z, hd, vs, rel, dd⟩ := yr I.aP e
   refine wpAny_in_of (x4 ry) hd dd.mapOf ?_
   rw [<- (rel.val k).kZ, <- l]
   exact h _ (I.tok _)
 . subst ey
   cases (show u = Value.ref b from ry)
   obtain ⟨z, hd, xs, rel, dd⟩ := xB I.aP e
   refine wpAny_in_heap (tupleKind_room_in1 hu) (vi I.aP eb) hd dd ?_
   have q := (rel.val k).kZ
   rw [Option.isSome_map] at q
   rw [<- q, <- l]
   exact h _ (I.tok _)
theorem NQ {Q : Value -> Shared -> Prop} (hu : A.units + 1 < cLine) (I : Inv X pins σ H s) (g : g8 H a y o) (ry : RelV y u) (h : ∀ s', Inv X pins σ H s' -> Q (.bool (!o.isSome)) s') :
 wpAny (model X.prog X.w) A (compareOp .NotIn u (.ref a)) Q E s := by
 rcases g with ⟨ax, k, e, ey, l⟩ | ⟨ax, k, b, e, ey, eb, l⟩
 . subst ey
   obtain ⟨z, hd, vs, rel, dd⟩ := yr I.aP e
   refine wpAny_notIn_of (x4 ry) hd dd.mapOf ?_
   rw [<- (rel.val k).kZ, <- l]
   exact h _ (I.tok _)
 . subst ey
   cases (show u = Value.ref b from ry)
   obtain ⟨z, hd, xs, rel, dd⟩ := xB I.aP e
   refine wpAny_notIn_heap (tupleKind_room_in1 hu) (vi I.aP eb) hd dd ?_
   have q := (rel.val k).kZ
   rw [Option.isSome_map] at q
   rw [<- q, <- l]
   exact h _ (I.tok _)
theorem BD {h' : Heap} {t' : Nat} {ob : HO} (I : Inv X pins σ H s) (mu : Wj (H a)) (hs : Heap.SameBut a s.heap h') (he : ∃ q, h'.get? a = some q) (new : bI X.prog X.w (upd H a ob) h' a ob) :
 Inv X pins σ (upd H a ob) { s with heap := h', toks := t' } :=
 I.write (x := a) (e := a) mu (.inl rfl) (fun b q hb z => (hs.2 b hb).trans z) he new
theorem Jb {P : Program} {w : World} {H' : Hp} {h' : Heap} {ax : List (Key × V)} {vs : List (Key × Value)} (z : ax.length <= sizeLine) (hd : (a == sysModules) = false) (rel : KV ax vs) (dd : h'.DictOf (aY P w) a vs) :
 bI P w H' h' a (.dK ax) := ⟨z, hd, vs, rel, dd⟩
theorem HX {H' : Hp} {Q : Unit -> Shared -> Prop} (hu : A.units + 1 < cLine) (I : Inv X pins σ H s) (g : CU H a y v H') (ry : RelV y u) (rv : RelV v r) (h : ∀ s', Inv X pins σ H' s' -> Q () s') :
 wpAny (model X.prog X.w) A (setItem (.ref a) u r) Q E s := by
 rcases g with ⟨ax, k, e, ey, l, eH⟩ | ⟨ax, k, b, e, ey, eb, l, eH⟩
 . subst ey eH
   obtain ⟨z, hd, vs, rel, dd⟩ := QN I.aP e
   have hz : vs.length <= sizeLine := by rw [<- rel.length]; exact z
   have hl : (putK ax k v).length <= sizeLine := by have := vH ax k v; omega
   refine wpAny_setItem_pairs (hsz := hz) (x4 ry) dd fun h' MZ hs => h _ ?_
   have he : ∃ q, h'.get? a = some q := let ⟨q, _, _, hq, _⟩ := MZ; ⟨q, hq⟩
   exact BD I (by rw [e]; exact True.intro) hs he (Jb hl hd (rel.put k rv) MZ)
 . subst ey eH
   cases (show u = Value.ref b from ry)
   obtain ⟨z, hd, xs, rel, dd⟩ := WX I.aP e
   have hz : xs.length <= sizeLine := by rw [<- Paired.length rel]; exact z
   have hl : (putK ax k v).length <= sizeLine := by have := vH ax k v; omega
   refine wpAny_setItem_heap (hsz := hz) (tupleKind_room_in1 hu) (vi I.aP eb) dd fun h' MZ hs => h _ ?_
   obtain ⟨q, es, ep, hq, h2, h3, h4, _, h5⟩ := MZ
   refine BD I (by rw [e]; exact True.intro) hs ⟨q, hq⟩ ⟨hl, hd, _, (rel.put k eb rv).keeps fun c ys ec => ?_, q, es, ep, hq, h2, h3, h4, h5⟩
   rw [aw (kL ec e (fun z => nomatch z))]
   exact ec
end
section
variable {X : Cx} {pins : List (Addr × Obj)} {σ : St} {H : Hp} {s : Shared} {a : Addr} {ax : List (Key × V)} {k : Key} {u : Value} {A : Around} {E : Value -> Shared -> Prop}
theorem W5 {v : V} {more : List Value} {Q : Value -> Shared -> Prop} (I : Inv X pins σ H s) (e : H a = some (.dK ax)) (ry : RelV (kV k) u) (l : kQ ax k = some v) (hm : more = [] \/ ∃ x, more = [x])
 (h : ∀ w' s', Inv X pins σ (upd H a (.dK (ni ax k))) s' -> RelV v w' -> Q w' s') : wpAny (model X.prog X.w) A (call (.builtin "dict.pop") (.ref a :: u :: more)) Q E s := by
 obtain ⟨z, hd, vs, rel, dd⟩ := QN I.aP e
 obtain ⟨w', hw, DQ⟩ := kE.some_of (v := v) (o := valueAt vs k) (by rw [<- l]; exact rel.val k)
 have hp : (keyPart u).isSome = true := by
  cases k with
  | inl i => obtain ⟨t, q⟩ := (show ∃ t, u = Value.int i t from ry); subst q; rfl
  | inr x => obtain ⟨t, q⟩ := (show ∃ t, u = Value.str x t from ry); subst q; rfl
 have ha : argsOk "dict.pop" ⟨.ref a :: u :: more, []⟩ := by
  rcases hm with q | ⟨x, q⟩
  . subst q; exact PySem.F.args_dict_pop_2 _ _
  . subst q; exact PySem.F.args_dict_pop_3 _ _ _
 refine call_meetsIn PySem.F.slot_dict_pop dd.typeIs PySem.F.entry_dict_pop ha (meets_dict_pop_there (aY X.prog X.w) a (x4 ry) more hm hp)
  ⟨vs, w', dd, by rw [<- rel.length]; exact z, hw, fun h' MZ hs => h w' _ ?_ DQ⟩
 have he : ∃ q, h'.get? a = some q := let ⟨q, _, _, hq, _⟩ := MZ; ⟨q, hq⟩
 exact BD I (by rw [e]; exact True.intro) hs he (Jb (Nat.le_trans (Mr ax k) z) hd (rel.drop k) MZ)
end
def VN (i : Expr) : Prop := ∀ ov iv, subscripted i false ov iv = operate [ov, iv] (getItem ov iv)
theorem PH {prog : Program} {w : World} {A : Around} {E : Value -> Shared -> Prop} {s : Shared} {env : Env} {value slice : Expr} {pos : Pos} {T id : String} {Q : Value -> Shared -> Prop}
 (hl : typeLookup (.type T) "__getitem__" = pure (some (.builtin id))) (hs : VN slice)
 (h : wpAny (model prog w) A (eval value env) (fun o s₁ => wpAny (model prog w) A (eval slice env) (fun i s₂ => s₂.TypeIs o T /\ wpAny (model prog w) A (getItem o i) Q E s₂) E s₁) E s) :
 wpAny (model prog w) A (eval (.Subscript value slice pos) env) Q E s := by
 refine Subscript_ (wpAny_mono h (fun o s₁ h₁ => wpAny_mono h₁ (fun i s₂ h₂ => ?_) fun _ _ x => x) fun _ _ x => x)
 obtain ⟨hT, h₂⟩ := h₂
 unfold subscriptTail
 refine wpAny_bind ?_
 rw [getitemInPython_of_ne hT.not_modules]
 refine wpAny_bind (wpAny_specialOf hT hl ?_)
 have fin : wpAny (model prog w) A (subscripted slice false o i) (fun r s₃ => wpAny (model prog w) A (letTemporaryGo value o r >>= fun _ => pure r) Q E s₃) E s₂ := by
  rw [hs o i]
  exact wpAny_operating (wpAny_mono h₂ (fun r s₃ h₃ => wpAny_bind (wpAny_letTemporaryGo (wpAny_pure h₃))) fun _ _ x => x)
 first
  | exact wpAny_pure (wpAny_bind fin)
  | exact wpAny_bind (wpAny_pure (wpAny_bind fin))
  | exact wpAny_bind fin
theorem Cy {X : Cx} {pins : List (Addr × Obj)} {σ : St} {H : Hp} {s : Shared} {a : Addr} {y : V} {o : Option V} (I : Inv X pins σ H s) (g : g8 H a y o) : s.TypeIs (.ref a) "dict" := by
 rcases g with ⟨ax, k, e, _, _⟩ | ⟨ax, k, b, e, _, _, _⟩
 . obtain ⟨_, _, vs, _, dd⟩ := yr I.aP e
   exact dd.typeIs
 . obtain ⟨_, _, xs, _, dd⟩ := xB I.aP e
   exact dd.typeIs
def Qi (td ty : TE) : TE := fun σ H Q => td σ H fun x H1 => ty σ H1 fun y H2 => ∃ a v, x = .ref a /\ g8 H2 a y (some v) /\ Q v H2
def W3 (ty td : TE) : TE := fun σ H Q => ty σ H fun y H1 => td σ H1 fun x H2 => ∃ a o, x = .ref a /\ g8 H2 a y o /\ Q (.bl o.isSome) H2
def FY (ty td : TE) : TE := fun σ H Q => ty σ H fun y H1 => td σ H1 fun x H2 => ∃ a o, x = .ref a /\ g8 H2 a y o /\ Q (.bl (!o.isSome)) H2
def Qr (td ty tv : TE) : TS := fun D σ H => tv σ H fun v H1 => td σ H1 fun x H2 => ty σ H2 fun y H3 => ∃ a H4, x = .ref a /\ CU H3 a y v H4 /\ D.nx σ H4
section
variable {X : Cx} {o i e value : Expr} {pos pos' Mz : Pos} {td ty tv : TE}
theorem mO (hu : X.A.units + 1 < cLine) (ho : PE X o td) (hi : PE X i ty) (hs : VN i) : PE X (.Subscript o i pos) (Qi td ty) := by
 intro pins s σ H Q I h
 refine PH PySem.F.slot_dict_getitem.lookup hs (cm (ho pins s σ H _ I h) fun u s1 ⟨x, H1, I1, rx, q1⟩ => cm (hi pins s1 σ H1 _ I1 q1) fun iv s2 ⟨y, H2, I2, ry, a, v, ex, g, q2⟩ => ?_)
 subst ex
 obtain rfl : u = Value.ref a := rx
 exact ⟨Cy I2 g, IG hu I2 g ry fun w' s3 I3 DQ => ⟨v, H2, I3, DQ, q2⟩⟩
theorem UK (hu : X.A.units + 1 < cLine) (hi : PE X i ty) (ho : PE X o td) : PC X .In i o (W3 ty td) := by
 intro pins s σ H Q I h
 refine cm (hi pins s σ H _ I h) fun iv s1 ⟨y, H1, I1, ry, q1⟩ => cm (ho pins s1 σ H1 _ I1 q1) fun u s2 ⟨x, H2, I2, rx, a, ov, ex, g, q2⟩ => ?_
 subst ex
 obtain rfl : u = Value.ref a := rx
 exact aaB hu I2 g ry fun s3 I3 => ⟨.bl ov.isSome, H2, I3, rfl, q2⟩
theorem zN (hu : X.A.units + 1 < cLine) (hi : PE X i ty) (ho : PE X o td) : PC X .NotIn i o (FY ty td) := by
 intro pins s σ H Q I h
 refine cm (hi pins s σ H _ I h) fun iv s1 ⟨y, H1, I1, ry, q1⟩ => cm (ho pins s1 σ H1 _ I1 q1) fun u s2 ⟨x, H2, I2, rx, a, ov, ex, g, q2⟩ => ?_
 subst ex
 obtain rfl : u = Value.ref a := rx
 exact NQ hu I2 g ry fun s3 I3 => ⟨.bl (!ov.isSome), H2, I3, rfl, q2⟩
theorem tU (hu : X.A.units + 1 < cLine) (ho : PE X o td) (hi : PE X i ty) (hv : PE X value tv) (hs : swapsWith value (some (.Subscript o i pos')) pos.line X.env = pure false) :
 PS X (.Assign [.Subscript o i pos'] value pos) (Qr td ty tv) := by
 intro pins s σ H D I h
 refine wpAny_Assign_Subscript (cm (hv pins s σ H _ I h) fun r s1 ⟨v, H1, I1, rv, q1⟩ => cm (ho pins s1 σ H1 _ I1 q1) fun u s2 ⟨x, H2, I2, rx, q2⟩ => cm (hi pins s2 σ H2 _ I2 q2) fun iv s3 ⟨y, H3, I3, ry, a, H4, ex, g, q3⟩ => ?_) hs
 subst ex
 obtain rfl : u = Value.ref a := rx
 exact HX hu I3 g ry rv fun s4 I4 => ⟨σ, H4, I4, q3⟩
end
theorem Kj {P : Program} {w : World} {H : Hp} (h : Heap) (hb : sysModules < h.objs.size) : bI P w H (h.push { cls := .type "dict", data := .dict #[] }) h.objs.size (.dK []) :=
 ⟨Nat.zero_le _, beq_eq_false_iff_ne.mpr (Ne.symm (Nat.ne_of_lt hb)), [], .nil, Heap.DictOf.new h⟩
def LD : TE := fun _ H Q => ∀ p, H p = none -> Q (.ref p) (upd H p (.dK []))
section
variable {X : Cx} {pos : Pos}
theorem sX : PE X (.Dict [] [] pos) LD := fun pins s σ H Q I h =>
 wpAny_Dict_empty ⟨.ref s.heap.objs.size, _, I.laid (a := s.heap.objs.size) (o := .dK []) (t' := s.toks) (fun _ _ q => Heap.get?_push_of_some _ q) (Nat.le_refl _) (Kj s.heap I.big), rfl, h _ (I.aP.fresh (Nat.le_refl _))⟩
end
structure M1 (X : Cx) (o : Expr) (m : Str) (apos : Pos) (e : Expr) (dh : Pos) : Prop where
 base : attributeBase o m X.env (eval o X.env) = eval o X.env
 few : ((backTo dh (starEach [e] X.env)).all (fun x => !x.1) && (backToKw dh (keywordEach [] X.env)).all (fun x => x.1.isSome)
  && decide (([e] : List Expr).length + ([] : List Keyword).length + (if ([] : List Keyword).isEmpty then 0 else 1) < 30)) = true
 line : (apos.endLine == dh.line) = true
 trees : backTo dh (starEach [e] X.env) = [(false, eval e X.env)]
structure M2 (X : Cx) (o : Expr) (m : Str) (apos : Pos) (e f : Expr) (dh : Pos) : Prop where
 base : attributeBase o m X.env (eval o X.env) = eval o X.env
 few : ((backTo dh (starEach [e, f] X.env)).all (fun x => !x.1) && (backToKw dh (keywordEach [] X.env)).all (fun x => x.1.isSome)
  && decide (([e, f] : List Expr).length + ([] : List Keyword).length + (if ([] : List Keyword).isEmpty then 0 else 1) < 30)) = true
 line : (apos.endLine == dh.line) = true
 trees : backTo dh (starEach [e, f] X.env) = [(false, eval e X.env), (false, eval f X.env)]
def YW (H : Hp) (a : Addr) : Prop := (∃ ax, Rd H a (.dK ax)) \/ ∃ ax, Rd H a (.dT ax)
theorem Tv {X : Cx} {pins : List (Addr × Obj)} {σ : St} {H : Hp} {s : Shared} {a : Addr} (I : Inv X pins σ H s) (d : YW H a) :
 s.TypeIs (.ref a) "dict" /\ (∀ b, Value.ref a = .ref b -> ∃ ob, s.heap.get? b = some ob /\ ob.dict = none) /\ (a == sysModules) = false := by
 rcases d with ⟨ax, e⟩ | ⟨ax, e⟩
 . obtain ⟨_, hd, vs, _, dd⟩ := yr I.aP e
   refine ⟨dd.typeIs, fun b q => ?_, hd⟩
   cases q
   obtain ⟨ob, _, _, h1, h2, _⟩ := dd
   exact ⟨ob, h1, h2.2.1⟩
 . obtain ⟨_, hd, xs, _, dd⟩ := xB I.aP e
   refine ⟨dd.typeIs, fun b q => ?_, hd⟩
   cases q
   obtain ⟨ob, _, _, h1, h2, _⟩ := dd
   exact ⟨ob, h1, h2.2.1⟩
section
variable {X : Cx} {pins : List (Addr × Obj)} {σ : St} {H : Hp} {s : Shared} {a : Addr} {y d : V} {u r : Value} {o : Option V} {A : Around} {E : Value -> Shared -> Prop}
theorem Sd {Q : Value -> Shared -> Prop} (hu : A.units + 1 < cLine) (I : Inv X pins σ H s) (g : g8 H a y o) (ry : RelV y u) (h : ∀ w' s', Inv X pins σ H s' -> RelV (o.getD .bG) w' -> Q w' s') :
 wpAny (model X.prog X.w) A (call (.builtin "dict.get") [.ref a, u]) Q E s := by
 rcases g with ⟨ax, k, e, ey, l⟩ | ⟨ax, k, b, e, ey, eb, l⟩
 . subst ey
   obtain ⟨z, hd, vs, rel, dd⟩ := yr I.aP e
   refine call_meetsIn PySem.F.slot_dict_get dd.typeIs PySem.F.entry_dict_get (PySem.F.args_dict_get_2 _ _) (meets_dict_get (aY X.prog X.w) a (x4 ry) hd) ⟨_, dd.mapOf, h _ _ (I.tok _) ?_⟩
   rw [l]
   exact (rel.val k).getD rfl
 . subst ey
   cases (show u = Value.ref b from ry)
   obtain ⟨z, hd, xs, rel, dd⟩ := xB I.aP e
   refine call_meetsIn PySem.F.slot_dict_get dd.typeIs PySem.F.entry_dict_get (PySem.F.args_dict_get_2 _ _) (meetsH_dict_get (tupleKind (aY X.prog X.w)) a b hd) ⟨tupleKind_room_in1 hu, k, xs, vi I.aP eb, dd, h _ _ (I.tok _) ?_⟩
   rw [l]
   exact (rel.val k).getD rfl
end
def JA (td ty : TE) : TE := fun σ H Q => td σ H fun x H1 => ∃ a, x = .ref a /\ YW H1 a /\ ty σ H1 fun y H2 => ∃ o, g8 H2 a y o /\ Q (o.getD .bG) H2
section
variable {X : Cx} {o e f : Expr} {apos dh : Pos} {td ty tx : TE}
theorem Mj (hu : X.A.units + 1 < cLine) (ho : PE X o td) (he : PE X e ty) (m : M1 X o "get" apos e dh) : PE X (.Call (.Attribute o "get" apos) [e] [] dh) (JA td ty) := by
 intro pins s σ H Q I h
 refine wpAny_Call_method m.base m.few m.line PySem.F.plainAttrs_dict PySem.F.slot_dict_get PySem.F.type_dict_get (cm (ho pins s σ H _ I h) fun u s1 ⟨x, H1, I1, rx, a, ex, d, q1⟩ => ?_)
 subst ex
 obtain rfl : u = Value.ref a := rx
 obtain ⟨t1, t2, _⟩ := Tv I1 d
 refine ⟨t1, t2, ?_⟩
 rw [m.trees]
 refine Calls.callWith_builtin rfl (Calls.evalArgs_plain (Calls.spliced_cons (cm (he pins s1 σ H1 _ I1 q1) fun iv s2 ⟨y, H2, I2, ry, ov, g, q2⟩ => Calls.spliced_nil ?_)))
 exact Sd hu I2 g ry fun w' s3 I3 DQ => ⟨_, H2, I3, DQ, q2⟩
end
section
variable {X : Cx} {pins : List (Addr × Obj)} {σ : St} {H : Hp} {s : Shared} {a : Addr} {ax : List (Key × V)} {A : Around} {E : Value -> Shared -> Prop}
end
section
variable {X : Cx} {pins : List (Addr × Obj)} {σ : St} {H : Hp} {s : Shared} {a : Addr} {y : V} {u : Value} {A : Around} {E : Value -> Shared -> Prop}
end
end L2
namespace Att
open PySem PySem.W PySem.Calls PyProof.Rows
theorem vS {P : Params} {h : Heap} : ∀ (ns : List Int) (vs : List Value), WellAll P h vs (ns.map WData.int) -> IntsAre vs ns := by
 intro ns
 induction ns with
 | nil =>
   intro vs w
   rw [List.map_nil] at w
   cases w
   exact .nil
 | cons n ns ih =>
   intro vs w
   rw [List.map_cons] at w
   cases w with
   | cons a b =>
     cases a
     exact .cons _ _ (ih _ b)
theorem Ho {l : OpenLaw} {n : Nat} (hn : l.most = some n) {P : Params} {h : Heap} {args : List WData} {vals : List Value}
 (Og : l.row.toRowW.claim.pre args = true) (YM : WellAll P h vals args) :
 ∃ a vs ns, vals = [Value.ref a] /\ args = [WData.list (ns.map WData.int)] /\ h.get? a = some { cls := .type "list", data := .seq vs.toArray } /\ IntsAre vs ns /\ ns.length <= n := by
 have hsh : WShape.hasAll [] args [.list .int] = true := (pre_splitW Og).1
 have hc : l.pre.holds [] { args := args } = true := (pre_splitW Og).2
 obtain ⟨d, r, rfl, h1, h2⟩ := hasAllW_cons hsh
 obtain rfl := hasAllW_nil h2
 obtain ⟨xs, rfl, h3⟩ := hasW_list h1
 obtain ⟨ns, rfl⟩ := items_int h3
 have hlen : ns.length <= n := by
  unfold OpenLaw.pre at hc
  have h4 : (WTm.not (.lt (.lit (.int (n : Int))) (.len (.arg 0)))).holds [] { args := [.list (ns.map .int)] } = true := by
   have h4 := (holds_andW hc).1
   rw [hn] at h4
   exact h4
  have h5 := condW_of h4 (w_not (w_lt w_lit (w_len_list (w_arg rfl))))
  rw [List.length_map] at h5
  refine Nat.le_of_not_lt fun q => ?_
  have q' : (n : Int) < ((ns.length : Nat) : Int) := by omega
  first
   | (rw [decide_eq_true q'] at h5; exact absurd h5 (by decide))
   | (simp at h5; omega)
 cases YM with
 | cons w1 w2 =>
   cases w2
   cases w1 with
   | list ho G9 => exact ⟨_, _, ns, rfl, rfl, ho, vS ns _ G9, hlen⟩
theorem HG (l : OpenLaw) (args : List WData) : l.row.toRowW.claim.post args (.bool true) args = true :=
 postW_of (r := l.row.toRowW) (X := (true == true))
  (show WShape.has [] (.bool true) .bool = true by first | rfl | decide | simp [WShape.has, WShape.arms, WShape.armsAll])
  (show (WTm.eq .res (.lit (.bool true))).value [] { args := args, res := some (.bool true), after := args } = some (.bool (true == true)) from w_eq_bool (w_res rfl) w_lit) rfl
theorem Cu {l : OpenLaw} {n : Nat} {q : Program} {loose : List Str} {XP : (Str -> Option Value) -> Heap -> Prop} {YP : World -> Heap -> Prop} {d : DefRec}
 (hn : l.most = some n) (Xh : d.params.defaults = [])
 (call : ∀ (w : World) (dM s₁ : Shared) (mg mb : Str -> Option Value) (fa : Addr) (o : Obj) (pm cd doc : Value) (a : Addr) (vs : List Value) (ns : List Int),
  Ground q loose [] XP w dM mg mb s₁.heap -> YP w s₁.heap ->
  s₁.heap.get? fa = some o -> o.data = .func (docDef d.name d.params d.body d.scope pm cd doc) -> s₁.heap.CodeRec cd d.name -> mg d.name = some (.ref fa) ->
  s₁.heap.get? a = some { cls := .type "list", data := .seq vs.toArray } -> IntsAre vs ns -> ns.length <= n -> s₁.gens = #[] ->
  codeAny (model l.prog w) callerA (.call (.ref fa) ⟨[.ref a], []⟩) (fun r s' => r = .ok (.ret (.bool true)) /\ OldK s₁.heap s'.heap /\ s'.os = s₁.os /\ AllBare s'.gens) s₁) :
 WalkO q loose XP YP l.row.toRowW d [] (fun f vs => PySem.call f vs) := by
 intro w dM s₁ mg mb G Y fa o pm cd doc dV kV ho hd F6 hD XX hg args vals as Og adX hrd YM hlo
 obtain rfl : dV = .none := Dflts.none hD Xh
 obtain rfl : kV = .none := Dflts.noKw hD
 obtain ⟨a, vs, ns, rfl, rfl, Tz, hints, hlen⟩ := Ho hn Og YM
 refine enter_call (codeAny_mono (call w dM s₁ mg mb fa o pm cd doc a vs ns G Y ho (fd_plain hd) F6 XX Tz hints hlen hg) fun r s' hq => ?_)
 obtain ⟨rfl, h2, h3, h4⟩ := hq
 exact ⟨.inl ⟨.bool true, .bool true, [], rfl, fun _ => rfl, .bool true, HG l _, fun _ => ⟨List.Pairwise.nil, fun _ hm => (nomatch hm)⟩⟩, h2, h3, h4⟩
section
variable {prog : Program} {w : World} {A : Around} {E : Value -> Shared -> Prop} {s : Shared} {K : Frag}
end
end Att
namespace L2
open PySem PySem.Spec PyProof.Rows
theorem zD : ∀ {vs : List Value} {ns : List Int}, IntsAre vs ns -> Vals (ns.map V.int) vs
 | _, _, .nil => .nil
 | _, _, .cons n t h => .cons ⟨t, rfl⟩ (zD h)
def Qb (H : Hp) : Prop := ∀ b, H b = none \/ ∃ o xs, H b = some (.n8 o (.lst xs))
theorem JC {P : Program} {w : World} {K : PySem.W.Frag} {mg mb : Str -> Option Value} {CX : zV} {k : Nat} {fa a : Addr} {fd : FuncData} {x : Str} {sp : Sp} {s₁ : Shared} {vs : List Value} {ns : List Int}
 (KX : K.In s₁.heap) (G4 : s₁.heap.Ns mainGlobals mg) (hb : s₁.heap.Ns builtinsNs mb) (Us : ∀ x : Str, x ≠ "__name__" -> mb x = bootBuiltins x) (Bz : s₁.heap.NoLimit) (hg : s₁.gens = #[])
 (ha : s₁.heap.get? a = some { cls := .type "list", data := .seq vs.toArray }) (hi : IntsAre vs ns) (hl : ns.length <= sizeLine) (hr : cI k callerA)
 (F : ∀ base : Heap, K.In base -> base.Ns mainGlobals mg -> a7 P w K mg base CX k fa fd [x] sp) (Yn : ∀ (s : Shared) (u : Value), BindsTo s fd ⟨[u], []⟩ [(x, u)])
 (AQ : ∀ H : Hp, Qb H -> fj K H a (ns.map V.int) -> sp [.ref a] H (fun v _ => v = .bl true) fun _ _ _ => False)
 (X3 : ∀ H e s', CX [] H s₁ (fun _ _ _ => False) e s' -> False) :
 codeAny (model P w) callerA (.call (.ref fa) ⟨[.ref a], []⟩) (fun r s' => r = .ok (.ret (.bool true)) /\ OldK s₁.heap s'.heap /\ s'.os = s₁.os /\ AllBare s'.gens) s₁ := by
 have rv := zD hi
 have Z2 := hi.length
 have core : ∀ H : Hp, Qb H -> fj K H a (ns.map V.int) -> k8 P w H s₁.heap -> (∀ b, H b ≠ none -> b = a) -> (H a ≠ none -> K.lookup a = none) ->
  codeAny (model P w) callerA (.call (.ref fa) ⟨[.ref a], []⟩) (fun r s' => r = .ok (.ret (.bool true)) /\ OldK s₁.heap s'.heap /\ s'.os = s₁.os /\ AllBare s'.gens) s₁ := by
  intro H hO hS aP hA hK
  have Fl : ∀ {b : Addr} {o : Obj}, s₁.heap.get? b = some o -> H b = none -> (Ax s₁.heap H).get? b = some o := fun e n => Mi e n
  have XM : ∀ {b : Addr} {o : Obj} {es : Array DictEntry} {ep : Nat}, s₁.heap.get? b = some o -> o.data = .dict es ep -> H b = none := fun {b o es ep} e d => by
   cases q : H b with
   | none => rfl
   | some u =>
     have e' : b = a := hA b (by rw [q]; simp)
     subst e'
     rw [ha] at e; cases e
     have d' : Data.seq vs.toArray _ = Data.dict es ep := d
     cases d'
  have YF : ∀ {b : Addr} {m : Str -> Option Value}, s₁.heap.Ns b m -> (Ax s₁.heap H).Ns b m := fun {b m} ⟨o, es, ep, e, d, r⟩ => ⟨o, es, ep, Fl e (XM e d), d, r⟩
  have hKb : K.In (Ax s₁.heap H) := fun b o e => Fl (KX b o e) (by
   cases q : H b with
   | none => rfl
   | some u =>
     have e' : b = a := hA b (by rw [q]; simp)
     subst e'
     rw [hK (by rw [q]; simp)] at e; cases e)
  have hM : Mod K mg (Ax s₁.heap H) := ⟨hKb, YF G4, ⟨mb, YF hb, Us⟩, let ⟨mc, h1, h2⟩ := Bz; ⟨mc, YF h1, h2⟩⟩
  have e0 : D4 P w K mg (Ax s₁.heap H) callerA [] s₁ H := ⟨rfl, hM, fun b o e => N8 e, Nat.le_of_eq (Ie _ _), trivial, fun b hb => absurd (show b ∈ ([] : List Addr) from hb) (by simp), aP, .of_eq hg⟩
  refine codeAny_mono ((F _ hKb (YF G4)).run callerA [] s₁ H ⟨[.ref a], []⟩ [.ref a] [.ref a] _ _ hr e0 (Yn s₁ (.ref a)) (.cons rfl .nil) (AQ H hO hS)) fun r s' h => ?_
  cases r with
  | error e => exact (X3 H e s' h).elim
  | ok fl =>
    cases fl with
    | next => exact False.elim h
    | brk => exact False.elim h
    | cont => exact False.elim h
    | ret u =>
      obtain ⟨v, H', os, bare, un, ZO, r', q⟩ := h
      have q' : v = .bl true := q
      subst q'
      obtain rfl : u = Value.bool true := r'
      refine ⟨rfl, OldK.of_keep fun b o e => ?_, os, bare⟩
      cases q : H b with
      | none => exact un.keep b o e q (by intro z; exact absurd (show b ∈ ([] : List Addr) from z) (by simp)) (by simp)
      | some u =>
        rcases hO b with z | ⟨ob, xs, z⟩
        . rw [q] at z; cases z
        . have z2 := un.j7 b ob _ z
          obtain ⟨e1, _⟩ := aP b _ z
          obtain ⟨e2, _⟩ := ZO b _ z2
          rw [e] at e1; cases e1
          exact e2
 cases hk : K.lookup a with
 | some o =>
   have e := KX a o hk
   rw [ha] at e
   cases e
   refine core (fun _ => none) (fun _ => .inl rfl) (.inr ⟨_, vs.toArray, _, hk, rfl, rfl, rfl, by rw [List.size_toArray, Z2]; exact hl, by simpa using rv⟩) (fun b u z => by have z' : (none : Option HO) = some u := z; cases z') (fun b z => absurd rfl z) fun z => absurd rfl z
 | none =>
   refine core (fun b => if b = a then some (.n8 { cls := .type "list", data := .seq vs.toArray } (.lst (ns.map V.int))) else none) (fun b => ?_) (.inl (.inr ⟨{ cls := .type "list", data := .seq vs.toArray }, if_pos rfl⟩)) (fun b u z => ?_) (fun b z => ?_) fun _ => hk
   . by_cases hb : b = a
     . exact .inr ⟨_, _, if_pos hb⟩
     . exact .inl (if_neg hb)
   . by_cases hb : b = a
     . have z' := (if_pos hb).symm.trans z
       cases z'
       subst hb
       exact ⟨ha, by rw [List.length_map]; exact hl, vs, _, rv, ha⟩
     . have z' := (if_neg hb).symm.trans z
       cases z'
   . by_cases hb : b = a
     . exact hb
     . exact absurd (if_neg hb) z
abbrev KOf {K : PySem.W.Frag} {h : Heap} (_ : K.In h) : PySem.W.Frag := K
theorem NC {l : PySem.W.OpenLaw} {n k : Nat} {q : Program} {loose : List Str} {XP : (Str -> Option Value) -> Heap -> Prop} {YP : World -> Heap -> Prop} {d : DefRec} {K : Params -> PySem.W.Frag} {CX : World -> zV} {sp : World -> Sp} {x : Str}
 (hn : l.most = some n) (uG : n <= sizeLine) (Xh : d.params.defaults = []) (hr : cI k callerA)
 (hY : ∀ (w : World) (h : Heap), YP w h -> (K w.params).In h)
 (F : ∀ (w : World) (mg : Str -> Option Value) (fa : Addr) (h : Heap), (K w.params).In h -> h.Ns mainGlobals mg -> mg d.name = some (.ref fa) ->
  ∃ fd : FuncData, (∀ (s : Shared) (u : Value), BindsTo s fd ⟨[u], []⟩ [(x, u)]) /\
    ∀ base : Heap, (K w.params).In base -> base.Ns mainGlobals mg -> a7 l.prog w (K w.params) mg base (CX w) k fa fd [x] (sp w))
 (AQ : ∀ (w : World) (H : Hp) (a : Addr) (ns : List Int), ns.length <= n -> Qb H -> fj (K w.params) H a (ns.map V.int) -> sp w [.ref a] H (fun v _ => v = .bl true) fun _ _ _ => False)
 (X3 : ∀ (w : World) (H : Hp) (s : Shared) (e : Value) (s' : Shared), CX w [] H s (fun _ _ _ => False) e s' -> False) :
 PySem.W.WalkO q loose XP YP l.row.toRowW d [] (fun f vs => PySem.call f vs) := by
 refine Att.Cu hn Xh fun w dM s₁ mg mb fa o pm cd doc a vs ns G Y ho hd F6 XX Tz hints hlen hg => ?_
 have KX := hY w _ Y
 obtain ⟨fd, hb, hF⟩ := F w mg fa _ KX G.T.g XX
 exact JC KX G.T.g G.T.b G.T.builtins G.T.nolimit hg Tz hints (Nat.le_trans hlen uG) hr hF hb (fun H hO hS => AQ w H a ns hlen hO hS) fun H e s' => X3 w H s₁ e s'
theorem Mt {l : PySem.W.OpenLaw} {n k : Nat} {q : Program} {loose : List Str} {XP : (Str -> Option Value) -> Heap -> Prop} {YP : World -> Heap -> Prop} {d : DefRec} {K : Params -> PySem.W.Frag} {CX : zV} {sp : PySem.W.Frag -> Sp} {x : Str}
 (hn : l.most = some n) (uG : n <= sizeLine) (Xh : d.params.defaults = []) (hr : cI k callerA)
 (hY : ∀ (w : World) (h : Heap), YP w h -> (K w.params).In h)
 (F : ∀ (w : World) (mg : Str -> Option Value) (fa : Addr) (h : Heap), (K w.params).In h -> h.Ns mainGlobals mg -> mg d.name = some (.ref fa) ->
  ∃ fd : FuncData, (∀ (s : Shared) (u : Value), BindsTo s fd ⟨[u], []⟩ [(x, u)]) /\
    ∀ base : Heap, (K w.params).In base -> base.Ns mainGlobals mg -> a7 l.prog w (K w.params) mg base CX k fa fd [x] (sp (K w.params)))
 (AQ : ∀ (K : PySem.W.Frag) (H : Hp) (a : Addr) (ns : List Int), ns.length <= n -> Qb H -> fj K H a (ns.map V.int) -> sp K [.ref a] H (fun v _ => v = .bl true) fun _ _ _ => False)
 (X3 : ∀ (H : Hp) (s : Shared) (e : Value) (s' : Shared), CX [] H s (fun _ _ _ => False) e s' -> False) :
 PySem.W.WalkO q loose XP YP l.row.toRowW d [] (fun f vs => PySem.call f vs) :=
 NC (K := K) (CX := fun _ => CX) (sp := fun w => sp (K w.params)) hn uG Xh hr hY F (fun w H a ns h1 h2 h3 => AQ (K w.params) H a ns h1 h2 h3) fun _ H s e s' => X3 H s e s'
def inClass (s : Stmt) (j : Nat) : Stmt := match s with
 | .ClassDef _ _ _ body _ _ _ _ _ _ _ => body.getD j (.Pass ⟨0, 0, 0, 0⟩)
 | _ => .Pass ⟨0, 0, 0, 0⟩
def uD (s : Stmt) : Arguments := match s with
 | .FunctionDef _ a _ _ _ _ _ _ _ _ => a
 | _ => { posonlyargs := [], args := [], vararg := none, kwonlyargs := [], kw_defaults := [], kwarg := none, defaults := [] }
def md (s : Stmt) : List Stmt := match s with
 | .FunctionDef _ _ b _ _ _ _ _ _ _ => b
 | _ => []
def av (s : Stmt) : Scope := match s with
 | .FunctionDef _ _ _ _ _ _ sc _ _ _ => sc
 | _ => { kind := .function, names := [], isGenerator := false, isCoroutine := false }
abbrev kj : zV := fun _ _ _ _ _ _ => False
abbrev E0 : XK := fun _ _ _ => False
theorem zk {X : Cx} : Passes kj X E0 := fun _ _ _ _ _ _ _ h => h.elim
structure Fun (K : PySem.W.Frag) (x qual : Str) (st : Stmt) (f : Addr) (fd : FuncData) : Prop where
 ex : ∃ (oc : Value) (od : Option Addr) (kV doc pm : Value) (an : Option Addr) (dB ct : Value) (HP : Array (Option Value)),
  fd = PySem.W.fnOf x qual (uD st) (md st) (av st) .none kV doc pm an dB ct /\ K.lookup f = some ⟨oc, od, .func fd, HP⟩ /\ PySem.W.codeIn K dB qual = true
 kp : PySem.W.keepIn K (.ref f) = true
section
variable {P : Program} {w : World} {K : PySem.W.Frag} {mg : Str -> Option Value} {base : Heap}
end
theorem gm {A : Around} {k : Nat} (hr : cI k A) : A.units + 1 < cLine := Nat.lt_of_le_of_lt (Nat.add_le_add_left (by decide : 1 <= 64) _) hr.units
section
variable {X : Cx}
theorem pv (i : Nat) {x : Str} {pos : Pos} (hN : X.N[i]? = some x := by rfl) (hv : Vg X.env.scope x := by first | exact Or.inl rfl | exact Or.inr (Or.inl rfl) | exact Or.inr (Or.inr rfl)) (hd : (x == ("__debug__" : Str)) = false := by decide)
 (F6 : (x == ("__classdict__" : Str)) = false := by decide) : PE X (.Name x pos) (R5 i) := T9 hN hv hd F6
end
theorem aa3 {A B : Prop} (h : B) : if false = true then A else B := by
 rw [if_neg Bool.false_ne_true]
 exact h
theorem abk {A B : Prop} (h : A) : if true = true then A else B := by
 rw [if_pos rfl]
 exact h
def az (H H' : Hp) : Prop := ∀ b o, H b = some o -> H' b = some o
theorem az.refl (H : Hp) : az H H := fun _ _ h => h
theorem az.trans {H H1 H2 : Hp} (a : az H H1) (b : az H1 H2) : az H H2 := fun c o h => b c o (a c o h)
theorem az.seq {K : PySem.W.Frag} {H H' : Hp} {a : Addr} {xs : List V} (e : az H H') (h : fj K H a xs) : fj K H' a xs := by
 rcases h with (h | ⟨o, h⟩) | h
 . exact .inl (.inl (e _ _ h))
 . exact .inl (.inr ⟨o, e _ _ h⟩)
 . exact .inr h
section
variable {κ : Type} [DecidableEq κ]
end
section
variable {X : Cx}
def Gp (i j : Int) : Prop := i.natAbs < 2 ^ 2000 /\ j.natAbs < 2 ^ 2000
theorem Gp.ok {i j : Int} (h : Gp i j) : IntMulOk i j := by
 have h1 : Builtin.Int.intBits i <= 2000 := PyProof.Rows.intBits_le h.1
 have h2 : Builtin.Int.intBits j <= 2000 := PyProof.Rows.intBits_le h.2
 have h3 : Builtin.Int.intTooBig ((Builtin.Int.intBits i + Builtin.Int.intBits j : Nat) : Int) = false := by
  unfold Builtin.Int.intTooBig
  have : (bitsLine : Nat) = 134217728 := rfl
  refine decide_eq_false ?_
  omega
 unfold IntMulOk
 have h4 : Builtin.Int.intTooBig (Builtin.Int.intBits i + Builtin.Int.intBits j) = false := by
  have e : ((Builtin.Int.intBits i : Int) + (Builtin.Int.intBits j : Int)) = ((Builtin.Int.intBits i + Builtin.Int.intBits j : Nat) : Int) := by omega
  rw [e]; exact h3
 rw [h4]
 simp
theorem jH : o4 X (binaryOp .Mult) (rI Gp fun i j => .int (i * j)) := Vh fun _ _ _ _ _ _ _ hc q => mul_int q hc.ok
def Qj (_ j : Int) : Prop := 0 < j /\ j.natAbs < 2 ^ 2000
theorem aO : o4 X (binaryOp .FloorDiv) (rI Qj fun i j => .int (i / j)) := Vh fun i j _ _ _ _ _ hc q => by
 have e : i.fdiv j = i / j := Int.fdiv_eq_ediv_of_nonneg _ (Int.le_of_lt hc.1)
 have hl : j.natAbs.log2 < 9000 := by
  have h0 : j.natAbs ≠ 0 := by have := hc.1; omega
  have h2 : j.natAbs.log2 < 2000 := (Nat.log2_lt h0).mpr hc.2
  omega
 refine floordiv_int (by have := hc.1; omega) ?_ (.inl (PyProof.noPylong_of_log2 hl))
 rw [e]; exact q
inductive Rh : V -> Value -> Prop where
 | ty (n : String) : Rh (.ty n) (.type n)
 | ref (C : Addr) : Rh (.ref C) (.ref C)
def Cb (K : PySem.W.Frag) : List V -> Hp -> VK -> Prop := fun xs H Q => ∃ x c cv t b, xs = [x, c] /\ Rh c cv /\ t8 K H x t /\ PySem.W.kitOne K t cv = some b /\ Q (.bl b) H
theorem fL : p8 X (.builtin "isinstance") (Cb X.K) := by
 intro pins s σ H xs us Q I r h
 obtain ⟨x, c, cv, t, b, rfl, hc, ty, e, q⟩ := h
 obtain ⟨u, w', rfl, r1, r2⟩ := vals2 r
 have ew : w' = cv := by cases hc <;> exact r2
 subst ew
 exact Hn I r1 ty e fun tk => ⟨.bl b, H, I.tok tk, rfl, q⟩
structure Gx (K : PySem.W.Frag) (C : Addr) (m : Str) (f : Addr) : Prop where
 ga : PySem.W.specialIn K (.ref C) "__getattribute__" = some (some (.builtin "type.__getattribute__"))
 rd : PySem.W.readsIn K C (.type "type") = true
 fd : PySem.W.findCls K (.ref C) (.type "type") m = some (.val (.ref f))
 kp : PySem.W.keepIn K (.ref f) = true
theorem OW {CX : zV} {k : Nat} {f C : Addr} {fd : FuncData} {ps : List Str} {sp : Sp} {bJ : List V} {ds : List Value} {E : XK} {x m : Str} {p pos apos : Pos} {e : Expr} {es : List Expr} {t : TA} {pl : Sem Bool}
 (hg : Gl X x) (hm : X.mg x = some (.ref C)) (B : Gx X.K C m f) (F : a7 X.prog X.w X.K X.mg X.base CX k f fd ps sp) (hr : cI k X.A) (hb : Binds X.K fd ps ds) (hd : Vals bJ ds) (hx : Passes CX X E) (ha : PA X (e :: es) t)
 (nV : (x == ("__debug__" : Str)) = false := by decide)
 (qe : starEach (e :: es) X.env = (false, eval e X.env) :: starEach es X.env := by rfl) (mD : (backTo pos (starEach es X.env)).any (·.1) = false := by rfl)
 (ht : eval (.Call (.Attribute (.Name x p) m apos) (e :: es) [] pos) X.env = (do
  let ov <- eval (.Name x p) X.env
  standAt apos.atName
  let (f, first) <- holding [ov] (getMethod ov m pl)
  callWith pos f first (backTo pos (starEach (e :: es) X.env)) (backToKw pos (keywordEach [] X.env))) := by rfl) :
 PE X (.Call (.Attribute (.Name x p) m apos) (e :: es) [] pos) (zh sp bJ E t) := by
 intro pins s σ H Q I h
 refine PySem.W.methodCall_KW (pl := pl) (f9 I hg hm ?_ nV) ht
 refine PySem.W.method_cls I.iB B.ga ?_
 refine PySem.W.cls_value I.iB B.rd B.fd rfl ?_
 have I' : Inv X pins σ H { s with toks := s.toks + 1 } := I.tok _
 refine PySem.W.callWith_K (first := []) (h₀ := X.base) I.ok.mod.MY B.kp (cm (ha pos pins _ σ H _ I' h) fun us s2 ⟨vs, H2, I2, r, q2⟩ => ⟨I2.iB, ?_⟩) qe mD
 exact Bl F hr hb hd hx I2 r q2
end
mutual
inductive oQ (K : PySem.W.Frag) (H : Hp) : V -> PyData -> Prop where
 | bG : oQ K H .bG .none
 | bl (b : Bool) : oQ K H (.bl b) (.bool b)
 | int (i : Int) : oQ K H (.int i) (.int i)
 | str (x : Str) : oQ K H (.str x) (.str x)
 | tup {a : Addr} {xs : List V} {ds : List PyData} (h : DA K H a xs) (r : g6 K H xs ds) : oQ K H (.ref a) (.tuple ds)
 | lst {a : Addr} {xs : List V} {ds : List PyData} (h : fj K H a xs) (r : g6 K H xs ds) : oQ K H (.ref a) (.list ds)
inductive g6 (K : PySem.W.Frag) (H : Hp) : List V -> List PyData -> Prop where
 | nil : g6 K H [] []
 | cons {x : V} {d : PyData} {xs : List V} {ds : List PyData} (h : oQ K H x d) (r : g6 K H xs ds) : g6 K H (x :: xs) (d :: ds)
end
theorem DA.keeps {K : PySem.W.Frag} {H H' : Hp} {a : Addr} {xs : List V} (e : az H H') (h : DA K H a xs) : DA K H' a xs := by
 rcases h with (h | ⟨o, h⟩) | h
 . exact .inl (.inl (e _ _ h))
 . exact .inl (.inr ⟨o, e _ _ h⟩)
 . exact .inr h
mutual
theorem oQ.keeps {K : PySem.W.Frag} {H H' : Hp} (e : az H H') : ∀ {v : V} {d : PyData}, oQ K H v d -> oQ K H' v d
 | _, _, .bG => .bG
 | _, _, .bl b => .bl b
 | _, _, .int i => .int i
 | _, _, .str x => .str x
 | _, _, .tup h r => .tup (DA.keeps e h) (g6.keeps e r)
 | _, _, .lst h r => .lst (az.seq e h) (g6.keeps e r)
theorem g6.keeps {K : PySem.W.Frag} {H H' : Hp} (e : az H H') : ∀ {vs : List V} {ds : List PyData}, g6 K H vs ds -> g6 K H' vs ds
 | _, _, .nil => .nil
 | _, _, .cons h r => .cons (oQ.keeps e h) (g6.keeps e r)
end
section
variable {X : Cx} {pins : List (Addr × Obj)} {σ : St} {H : Hp} {s : Shared}
mutual
theorem oQ.reads (I : Inv X pins σ H s) : ∀ {v : V} {d : PyData} {u : Value}, oQ X.K H v d -> RelV v u -> ∃ as, Reads s.heap u d as
 | _, _, _, .bG, r => by cases r; exact ⟨_, .none⟩
 | _, _, _, .bl b, r => by cases r; exact ⟨_, .bool b⟩
 | _, _, _, .int i, r => by obtain ⟨t, rfl⟩ := r; exact ⟨_, .int i t⟩
 | _, _, _, .str x, r => by obtain ⟨t, rfl⟩ := r; exact ⟨_, .str x t⟩
 | _, _, _, .tup h q, r => by
   cases r
   obtain ⟨bb, rv, ⟨o, h1, h2, n, h3⟩, _⟩ := I.tuple h
   obtain ⟨as, ra⟩ := g6.reads I q rv
   exact ⟨_, .tuple h1 h2 h3 (by simpa using ra)⟩
 | _, _, _, .lst h q, r => by
   cases r
   obtain ⟨bb, rv, ⟨o, n, h1, h2, _, h3⟩, _⟩ := I.list h
   obtain ⟨as, ra⟩ := g6.reads I q rv
   exact ⟨_, .list h1 h2 h3 (by simpa using ra)⟩
theorem g6.reads (I : Inv X pins σ H s) : ∀ {vs : List V} {ds : List PyData} {us : List Value}, g6 X.K H vs ds -> Vals vs us -> ∃ as, ReadsAll s.heap us ds as
 | _, _, _, .nil, r => by cases r; exact ⟨_, .nil⟩
 | _, _, _, .cons h q, r => by
   cases r with
   | cons r1 r2 =>
     obtain ⟨as, ra⟩ := oQ.reads I h r1
     obtain ⟨bs, rb⟩ := g6.reads I q r2
     exact ⟨_, .cons ra rb⟩
end
end
section
variable {X : Cx}
def V6 (K : PySem.W.Frag) (f : Bool -> Bool) : R2 := fun x y H Q => ∃ d e, oQ K H x d /\ oQ K H y e /\ d.canLay0 = true /\ e.canLay0 = true /\ d.depth <= 8 /\ Q (.bl (f (PyData.eqv d e))) H
theorem Rk (hu : X.A.units + 8 < cLine) : o4 X (compareOp .Eq) (V6 X.K id) := by
 intro pins s σ H x y v u Q I rx ry h
 obtain ⟨d, e, hd, he, c1, c2, hn, q⟩ := h
 obtain ⟨as, ra⟩ := hd.reads I rx
 obtain ⟨bs, rb⟩ := he.reads I ry
 exact SeqAt.compareEq_reads ra rb c1 c2 (by have := Nat.min_le_left d.depth e.depth; omega) ⟨.bl _, H, I, rfl, q⟩
theorem U3 (hu : X.A.units + 8 < cLine) : o4 X (compareOp .NotEq) (V6 X.K not) := by
 intro pins s σ H x y v u Q I rx ry h
 obtain ⟨d, e, hd, he, c1, c2, hn, q⟩ := h
 obtain ⟨as, ra⟩ := hd.reads I rx
 obtain ⟨bs, rb⟩ := he.reads I ry
 exact SeqAt.compareNe_reads ra rb c1 c2 (by have := Nat.min_le_left d.depth e.depth; omega) ⟨.bl _, H, I, rfl, q⟩
end
structure gk (P : Program) (w : World) (K : PySem.W.Frag) (mg : Str -> Option Value) (base : Heap) (k : Nat) (f : Addr) (ps : List Str) (bJ : List V) (sp : Sp) : Prop where
 ex : ∃ (fd : FuncData) (ds : List Value), a7 P w K mg base kj k f fd ps sp /\ Binds K fd ps ds /\ Vals bJ ds
section
variable {X : Cx} {k : Nat} {f C : Addr} {ps : List Str} {sp : Sp} {bJ : List V} {x m : Str} {p pos apos : Pos} {e o : Expr} {es : List Expr} {ta : TE} {t : TA}
theorem Ni (c : gk X.prog X.w X.K X.mg X.base k f ps bJ sp) (hr : cI k X.A) (hg : Gl X x) (hm : X.mg x = some (.ref f)) (hk : PySem.W.keepIn X.K (.ref f) = true)
 (ha : PA X (e :: es) t) (nV : (x == ("__debug__" : Str)) = false := by decide) (he : starEach (e :: es) X.env = (false, eval e X.env) :: starEach es X.env := by rfl) (mD : (backTo pos (starEach es X.env)).any (·.1) = false := by rfl) :
 PE X (.Call (.Name x p) (e :: es) [] pos) (zh sp bJ E0 t) := by
 obtain ⟨fd, ds, F, hb, hd⟩ := c.ex
 exact PK F hr hg hm hk hb hd zk ha nV he mD
theorem NB {pl : Sem Bool} (he : PE X o ta) (c : su X.K C) (hm : Meth X.K C m f) (F : gk X.prog X.w X.K X.mg X.base k f ps bJ sp) (hr : cI k X.A) (ha : PA X (e :: es) t)
 (qe : starEach (e :: es) X.env = (false, eval e X.env) :: starEach es X.env := by rfl) (mD : (backTo pos (starEach es X.env)).any (·.1) = false := by rfl)
 (ht : eval (.Call (.Attribute o m apos) (e :: es) [] pos) X.env = (do
  let ov <- eval o X.env
  standAt apos.atName
  let (f, first) <- holding [ov] (getMethod ov m pl)
  callWith pos f first (backTo pos (starEach (e :: es) X.env)) (backToKw pos (keywordEach [] X.env))) := by rfl) :
 PE X (.Call (.Attribute o m apos) (e :: es) [] pos) (Ah C m sp bJ E0 ta t) := by
 obtain ⟨fd, ds, F, hb, hd⟩ := F.ex
 exact NN he c hm F hr hb hd zk ha qe mD ht
theorem KY {pl : Sem Bool} (he : PE X o ta) (c : su X.K C) (hm : Meth X.K C m f) (F : gk X.prog X.w X.K X.mg X.base k f ps bJ sp) (hr : cI k X.A)
 (ht : eval (.Call (.Attribute o m apos) [] [] pos) X.env = (do
  let ov <- eval o X.env
  standAt apos.atName
  let (f, first) <- holding [ov] (getMethod ov m pl)
  callWith pos f first (backTo pos (starEach [] X.env)) (backToKw pos (keywordEach [] X.env))) := by rfl) :
 PE X (.Call (.Attribute o m apos) [] [] pos) (Ah C m sp bJ E0 ta Ec) := by
 obtain ⟨fd, ds, F, hb, hd⟩ := F.ex
 exact Ka he c hm F hr hb hd zk ht
theorem OV (M : Mk X.K C f) (F : gk X.prog X.w X.K X.mg X.base k f ps bJ sp) (hr : cI (k + 1) X.A) (hg : Gl X x) (hm : X.mg x = some (.ref C))
 (ha : PA X (e :: es) t) (nV : (x == ("__debug__" : Str)) = false := by decide) (he : starEach (e :: es) X.env = (false, eval e X.env) :: starEach es X.env := by rfl) (mD : (backTo pos (starEach es X.env)).any (·.1) = false := by rfl) :
 PE X (.Call (.Name x p) (e :: es) [] pos) (CD C sp bJ E0 t) := by
 obtain ⟨fd, ds, F, hb, hd⟩ := F.ex
 exact NR M F hr hg hm hb hd zk ha nV he mD
theorem OU {pl : Sem Bool} (hg : Gl X x) (hm : X.mg x = some (.ref C)) (B : Gx X.K C m f) (F : gk X.prog X.w X.K X.mg X.base k f ps bJ sp) (hr : cI k X.A) (ha : PA X (e :: es) t)
 (nV : (x == ("__debug__" : Str)) = false := by decide)
 (qe : starEach (e :: es) X.env = (false, eval e X.env) :: starEach es X.env := by rfl) (mD : (backTo pos (starEach es X.env)).any (·.1) = false := by rfl)
 (ht : eval (.Call (.Attribute (.Name x p) m apos) (e :: es) [] pos) X.env = (do
  let ov <- eval (.Name x p) X.env
  standAt apos.atName
  let (f, first) <- holding [ov] (getMethod ov m pl)
  callWith pos f first (backTo pos (starEach (e :: es) X.env)) (backToKw pos (keywordEach [] X.env))) := by rfl) :
 PE X (.Call (.Attribute (.Name x p) m apos) (e :: es) [] pos) (zh sp bJ E0 t) := by
 obtain ⟨fd, ds, F, hb, hd⟩ := F.ex
 exact OW hg hm B F hr hb hd zk ha nV qe mD ht
end
structure bS (K : PySem.W.Frag) (x qual : Str) (st : Stmt) (f : Addr) (dV : Value) (fd : FuncData) : Prop where
 ex : ∃ (oc : Value) (od : Option Addr) (kV doc pm : Value) (an : Option Addr) (dB ct : Value) (HP : Array (Option Value)),
  fd = PySem.W.fnOf x qual (uD st) (md st) (av st) dV kV doc pm an dB ct /\ K.lookup f = some ⟨oc, od, .func fd, HP⟩ /\ PySem.W.codeIn K dB qual = true
theorem F2 {K : PySem.W.Frag} {x qual : Str} {st : Stmt} {f : Addr} {oc : Value} {od an : Option Addr} {HP : Array (Option Value)} {dV kV doc pm dB ct : Value} (l : K.lookup f = some ⟨oc, od, .func (PySem.W.fnOf x qual (uD st) (md st) (av st) dV kV doc pm an dB ct), HP⟩)
 (c : PySem.W.codeIn K dB qual = true) : bS K x qual st f dV (PySem.W.fnOf x qual (uD st) (md st) (av st) dV kV doc pm an dB ct) := ⟨⟨oc, od, kV, doc, pm, an, dB, ct, HP, rfl, l, c⟩⟩
section
variable {P : Program} {w : World} {K : PySem.W.Frag} {mg : Str -> Option Value} {base : Heap}
theorem bS.ok {x qual : Str} {st : Stmt} {f : Addr} {dV : Value} {fd : FuncData} {N ps : List Str} {k : Nat} {sp : Sp} (F : bS K x qual st f dV fd) (S : aB N ps (av st)) (len : ∀ vs H Q E, sp vs H Q E -> vs.length = ps.length)
 (C7 : ∀ (dB : Value) (A : Around) (outer : List Env) (s : Shared) (H : Hp) (vs : List V) (Q : VK) (E : XK), cI k (A.deeper (envOfC qual (av st) s.heap.objs.size f dB)) -> sp vs H Q E ->
  ∃ t, By (vg kj P w K mg base N qual (av st) f dB A outer s H E).SM (md st) t /\ t { nx := fun _ H' => Q .bG H', rt := Q } (start N vs) H) : a7 P w K mg base kj (k + 1) f fd ps sp := by
 obtain ⟨oc, od, kV, doc, pm, an, dB, ct, HP, rfl, lk, F6⟩ := F.ex
 refine Q0 lk F6 S len fun A outer s H vs Q E hr AQ => ?_
 obtain ⟨t, h, q⟩ := C7 dB A outer s H vs Q E hr AQ
 exact ⟨t, h.SM, q⟩
theorem bS.binds {x qual : Str} {st : Stmt} {f : Addr} {dV : Value} {fd : FuncData} {ps : List Str} {ds : List Value} (F : bS K x qual st f dV fd)
 (h : ∀ (kV doc pm : Value) (an : Option Addr) (dB ct : Value), Binds K (PySem.W.fnOf x qual (uD st) (md st) (av st) dV kV doc pm an dB ct) ps ds) : Binds K fd ps ds := by
 obtain ⟨oc, od, kV, doc, pm, an, dB, ct, HP, rfl, lk, F6⟩ := F.ex
 exact h kV doc pm an dB ct
end
structure JI (K : PySem.W.Frag) (T : Addr) (items : Array Value) : Prop where
 ex : ∃ (o : Obj) (n : Nat), K.lookup T = some o /\ o.data = .seq items n
structure Dy (K : PySem.W.Frag) (C : Addr) : Prop where
 ha : PySem.W.findIn K (.ref C) "__class__" = some (some (.builtin "object.__class__"))
 hn : PySem.W.specialIn K (.builtin "object.__class__") "__get__" = some (some (.builtin "getset_descriptor.__get__"))
 ht : PySem.W.takesIn K (.builtin "object.__class__") = some true
 hm : PySem.W.mroIn K C (.type "object") = some true
section
variable {σ : St} {H : Hp} {Q : VK} {D : Ends} {K : PySem.W.Frag}
theorem S6 (h : D.nx σ H) : Kx D σ H := h
theorem WN {te : TE} (h : te σ H D.rt) : Ye te D σ H := h
theorem Rm {te : TE} (h : te σ H fun _ H1 => D.nx σ H1) : Qv te D σ H := h
theorem XZ {c : TT} {t u : TS} (h : c σ H fun b H1 => if b = true then t D σ H1 else u D σ H1) : Xo c t u D σ H := h
theorem Xm {te : TE} {i : Nat} (h : te σ H fun x H1 => D.nx (σ.set i (some x)) H1) : Lp te (jE i) D σ H := h
theorem Fi {i : Nat} {v : V} (e : σ[i]? = some (some v)) (h : Q v H) : R5 i σ H Q := ⟨v, e, h⟩
theorem r_c {v : V} (h : Q v H) : tC v σ H Q := h
theorem Z3 {r : R2} {ta tb : TE} (h : ta σ H fun x H1 => tb σ H1 fun y H2 => r x y H2 Q) : WD r ta tb σ H Q := h
theorem abF {r : V -> Hp -> VK -> Prop} {ta : TE} (h : ta σ H fun x H1 => r x H1 Q) : tUn r ta σ H Q := h
theorem ZV {g : Int -> Int -> V} {i j : Int} (h : Q (g i j) H) : Jd g (.int i) (.int j) H Q := ⟨i, j, rfl, rfl, h⟩
theorem Vm {C : Int -> Int -> Prop} {g : Int -> Int -> V} {i j : Int} (c : C i j) (h : Q (g i j) H) : rI C g (.int i) (.int j) H Q := ⟨i, j, rfl, rfl, c, h⟩
theorem r_u {g : Int -> V} {i : Int} (h : Q (g i) H) : rU g (.int i) H Q := ⟨i, rfl, h⟩
theorem RG {t : TE} {Q : Bool -> Hp -> Prop} (h : t σ H fun x H' => ∃ k, x = .bl k /\ Q k H') : K0 t σ H Q := h
theorem Yj {t u : TT} {Q : Bool -> Hp -> Prop} (h : t σ H fun c H1 => if c = true then u σ H1 Q else Q false H1) : X2 t u σ H Q := h
theorem abb {t u : TT} {Q : Bool -> Hp -> Prop} (h : t σ H fun c H1 => if c = true then Q true H1 else u σ H1 Q) : tOr t u σ H Q := h
theorem Yo {t : TT} {Q : Bool -> Hp -> Prop} (h : t σ H fun c H1 => Q (!c) H1) : Xv t σ H Q := h
theorem Va {ta tb : TE} (h : ta σ H fun x H1 => ∃ c, x = .bl c /\ if c = true then tb σ H1 Q else Q (.bl false) H1) : QG ta tb σ H Q := h
theorem Uo {ta : TE} (h : ta σ H fun x H1 => ∃ c, x = .bl c /\ Q (.bl (!c)) H1) : Qo ta σ H Q := h
theorem aaP {b : Bool} {R : Bool -> Prop} (h : R b) : ∃ k, V.bl b = .bl k /\ R k := ⟨b, rfl, h⟩
theorem Wi {Q : List V -> Hp -> Prop} (h : Q [] H) : Ec σ H Q := h
theorem Tp {ta : TE} {tr : TA} {Q : List V -> Hp -> Prop} (h : ta σ H fun x H1 => tr σ H1 fun xs H2 => Q (x :: xs) H2) : Qm ta tr σ H Q := h
theorem abq {r : List V -> Hp -> VK -> Prop} {t : TA} (h : t σ H fun vs H1 => r vs H1 Q) : ZA r t σ H Q := h
theorem VW {ta : TE} {f : Str} (h : ta σ H fun x H1 => ∃ a C dx fs v, x = .ref a /\ H1 a = some (.ins C dx fs) /\ su K C /\ bp K C f /\ fs.lookup f = some v /\ Q v H1) : Ts K ta f σ H Q := h
theorem Kg {A B : Prop} (h : A) : if true = true then A else B := by rw [if_pos rfl]; exact h
theorem Il {A B : Prop} (h : B) : if false = true then A else B := by rw [if_neg Bool.false_ne_true]; exact h
end
section
variable {X : Cx} {e : Expr} {es : List Expr}
theorem PE.or {t u : TE} (h1 : PE X e t) (h2 : PE X e u) : PE X e (fun σ H Q => t σ H Q \/ u σ H Q) := fun pins s σ H Q I h => h.elim (h1 pins s σ H Q I) (h2 pins s σ H Q I)
theorem PE.weak {t u : TE} (h1 : PE X e t) (h : ∀ σ H Q, u σ H Q -> t σ H Q) : PE X e u := fun pins s σ H Q I q => h1 pins s σ H Q I (h σ H Q q)
def mA (t : TA) : TA := fun σ H Q => ∃ Q' : List V -> Hp -> Prop, t σ H Q' /\ ∀ v H', Q' v H' -> Q v H'
theorem PA.m {t : TA} (h : PA X es t) : PA X es (mA t) := fun pos pins s σ H Q I ⟨Q', q, m⟩ => cm (h pos pins s σ H Q' I q) fun _ _ ⟨v, H', I', r, z⟩ => ⟨v, H', I', r, m v H' z⟩
end
def aaH : Key -> PyData
 | .inl i => .int i
 | .inr x => .str x
mutual
inductive Dv (H : Hp) : V -> PyData -> Prop where
 | bG : Dv H .bG .none
 | bl (b : Bool) : Dv H (.bl b) (.bool b)
 | int (i : Int) : Dv H (.int i) (.int i)
 | str (x : Str) : Dv H (.str x) (.str x)
 | tup {a : Addr} {xs : List V} {ds : List PyData} (h : H a = some (.tup xs)) (r : cB H xs ds) : Dv H (.ref a) (.tuple ds)
 | lst {a : Addr} {xs : List V} {ds : List PyData} (h : Rd H a (.lst xs)) (r : cB H xs ds) : Dv H (.ref a) (.list ds)
 | dct {a : Addr} {ax : List (Key × V)} {ds : List (PyData × PyData)} (h : H a = some (.dK ax)) (r : OO H ax ds) : Dv H (.ref a) (.dict ds)
inductive OO (H : Hp) : List (Key × V) -> List (PyData × PyData) -> Prop where
 | nil : OO H [] []
 | cons {k : Key} {x : V} {d : PyData} {xs : List (Key × V)} {ds : List (PyData × PyData)} (h : Dv H x d) (r : OO H xs ds) : OO H ((k, x) :: xs) ((aaH k, d) :: ds)
inductive cB (H : Hp) : List V -> List PyData -> Prop where
 | nil : cB H [] []
 | cons {x : V} {d : PyData} {xs : List V} {ds : List PyData} (h : Dv H x d) (r : cB H xs ds) : cB H (x :: xs) (d :: ds)
end
mutual
theorem Dv.has {K : PySem.W.Frag} {H : Hp} : ∀ {v : V} {d : PyData}, Dv H v d -> d.canLay0 = true -> oQ K H v d
 | _, _, .bG, _ => .bG
 | _, _, .bl b, _ => .bl b
 | _, _, .int i, _ => .int i
 | _, _, .str x, _ => .str x
 | _, _, .tup h r, c => .tup (.of h) (cB.has r (by simpa [PyData.canLay0] using c))
 | _, _, .lst h r, c => .lst (.inl h) (cB.has r (by simpa [PyData.canLay0] using c))
 | _, _, .dct h r, c => by simp [PyData.canLay0] at c
theorem cB.has {K : PySem.W.Frag} {H : Hp} : ∀ {v : List V} {d : List PyData}, cB H v d -> PyData.canLayAll0 d = true -> g6 K H v d
 | _, _, .nil, _ => .nil
 | _, _, .cons h r, c => by
   have c' := c
   simp only [PyData.canLayAll0, Bool.and_eq_true] at c'
   exact .cons (Dv.has h c'.1) (cB.has r c'.2)
end
theorem az.rd {H H' : Hp} {a : Addr} {u : HO} (e : az H H') (h : Rd H a u) : Rd H' a u := by
 rcases h with h | ⟨o, h⟩
 . exact .inl (e _ _ h)
 . exact .inr ⟨o, e _ _ h⟩
mutual
theorem Dv.keeps {H H' : Hp} (e : az H H') : ∀ {v : V} {d : PyData}, Dv H v d -> Dv H' v d
 | _, _, .bG => .bG
 | _, _, .bl b => .bl b
 | _, _, .int i => .int i
 | _, _, .str x => .str x
 | _, _, .tup h r => .tup (e _ _ h) (cB.keeps e r)
 | _, _, .lst h r => .lst (e.rd h) (cB.keeps e r)
 | _, _, .dct h r => .dct (e _ _ h) (OO.keeps e r)
theorem OO.keeps {H H' : Hp} (e : az H H') : ∀ {v : List (Key × V)} {d : List (PyData × PyData)}, OO H v d -> OO H' v d
 | _, _, .nil => .nil
 | _, _, .cons h r => .cons (Dv.keeps e h) (OO.keeps e r)
theorem cB.keeps {H H' : Hp} (e : az H H') : ∀ {v : List V} {d : List PyData}, cB H v d -> cB H' v d
 | _, _, .nil => .nil
 | _, _, .cons h r => .cons (Dv.keeps e h) (cB.keeps e r)
end
theorem cB.length {H : Hp} : ∀ {xs : List V} {ds : List PyData}, cB H xs ds -> xs.length = ds.length
 | _, _, .nil => rfl
 | _, _, .cons _ r => by simp [cB.length r]
theorem cB.get {H : Hp} : ∀ {xs : List V} {ds : List PyData} {i : Nat} {d : PyData}, cB H xs ds -> ds[i]? = some d -> ∃ x, xs[i]? = some x /\ Dv H x d
 | _, _, _, _, .nil, e => by simp at e
 | _, _, 0, _, .cons h _, e => by simp at e; subst e; exact ⟨_, rfl, h⟩
 | _, _, i + 1, x, .cons _ r, e => by
   obtain ⟨d, h1, h2⟩ := cB.get (i := i) (d := x) r (by simpa using e)
   exact ⟨d, by simpa using h1, h2⟩
theorem cB.append {H : Hp} : ∀ {xs ys : List V} {ds es : List PyData}, cB H xs ds -> cB H ys es -> cB H (xs ++ ys) (ds ++ es)
 | _, _, _, _, .nil, s => s
 | _, _, _, _, .cons r t, s => .cons r (cB.append t s)
theorem cB.ints {H : Hp} : ∀ (ns : List Int), cB H (ns.map V.int) (ns.map PyData.int)
 | [] => .nil
 | n :: ns => .cons (.int n) (cB.ints ns)
theorem Dv.int_inv {H : Hp} {v : V} {i : Int} (h : Dv H v (.int i)) : v = .int i := by cases h; rfl
theorem Dv.str_inv {H : Hp} {v : V} {i : Str} (h : Dv H v (.str i)) : v = .str i := by cases h; rfl
def vW (H : Hp) (d : PyData) (Q : VK) : Prop := match d with
 | .none => Q .bG H
 | .bool b => Q (.bl b) H
 | .int i => Q (.int i) H
 | .str x => Q (.str x) H
 | d => ∀ v, Dv H v d -> Q v H
theorem vW.use {H : Hp} {d : PyData} {Q : VK} (g : vW H d Q) {v : V} (h : Dv H v d) : Q v H := by
 cases h with
 | bG => exact g
 | bl b => exact g
 | int i => exact g
 | str x => exact g
 | tup h r => exact g _ (.tup h r)
 | lst h r => exact g _ (.lst h r)
 | dct h r => exact g _ (.dct h r)
theorem GB {H : Hp} {xs : List V} {ds : List PyData} {i : Int} {d : PyData} (r : cB H xs ds) (h : uj ds i = some d) : ∃ x, uj xs i = some x /\ Dv H x d := by
 unfold uj at h ⊢
 rw [r.length]
 cases e : E9 ds.length i with
 | none => rw [e] at h; simp at h
 | some j =>
   rw [e] at h
   have h' : ds[j]? = some d := by simpa using h
   obtain ⟨x, h1, h2⟩ := r.get h'
   exact ⟨x, by simpa using h1, h2⟩
def z0 (H : Hp) (v : V) (ds : List PyData) : Prop := Dv H v (.tuple ds) \/ Dv H v (.list ds)
def Xc : R2 := fun x y H Q => ∃ ds i d, y = .int i /\ z0 H x ds /\ uj ds i = some d /\ vW H d Q
theorem NW {K : PySem.W.Frag} {x y : V} {H : Hp} {Q : VK} (h : Xc x y H Q) : rIx K x y H Q := by
 obtain ⟨ds, i, d, rfl, hs, hi, g⟩ := h
 rcases hs with hs | hs
 . cases hs with
   | tup h r =>
     obtain ⟨v, h1, h2⟩ := GB r hi
     exact .inr (.inl ⟨_, _, i, v, rfl, rfl, .of h, h1, g.use h2⟩)
 . cases hs with
   | lst h r =>
     obtain ⟨v, h1, h2⟩ := GB r hi
     exact .inl ⟨_, _, i, v, rfl, rfl, .inl h, h1, g.use h2⟩
section
variable {X : Cx}
def UE : R2 := fun x y H Q => Xc x y H Q \/ SH x y H Q
theorem aaf : Kl X UE := fun value slice pins s σ H x y v u Q I r1 r2 h => Rq value slice pins s σ H x y v u Q I r1 r2 (h.elim NW fun z => .inr (.inr z))
def Lx : List V -> Hp -> VK -> Prop := fun xs H Q => (∃ v ds, xs = [v] /\ z0 H v ds /\ Q (.int (ds.length : Nat)) H) \/ ∃ z, xs = [.str z] /\ z.length <= sizeLine /\ Q (.int (z.length : Nat)) H
theorem Hj : p8 X (.builtin "len") Lx := fun pins s σ H xs us Q I r h => by
 rcases h with ⟨v, ds, rfl, hs, q⟩ | h
 . rcases hs with hs | hs
   . cases hs with
     | tup h t => exact mj pins s σ H _ us Q I r ⟨_, _, rfl, .inr (.of h), by rw [t.length]; exact q⟩
   . cases hs with
     | lst h t => exact mj pins s σ H _ us Q I r ⟨_, _, rfl, .inl (.inl h), by rw [t.length]; exact q⟩
 . exact Bv pins s σ H _ us Q I r h
def Zc : PyData -> String
 | .none => "NoneType" | .bool _ => "bool" | .int _ => "int" | .str _ => "str" | .list _ => "list" | .tuple _ => "tuple" | .dict _ => "dict"
def KR (t n : String) : Option Bool := if ((Value.type t) == (Value.type n)) = true then some true else if PySem.W.kitMeta n = true then (PySem.fastBuiltinMro t).map (·.contains (.type n)) else none
theorem L8 {K : PySem.W.Frag} {t n : String} {b : Bool} (h : KR t n = some b) : PySem.W.kitOne K (.type t) (.type n) = some b := h
def RB (t n : String) : Bool := t == n || (t == "bool" && n == "int")
theorem GK : (["NoneType", "bool", "int", "str", "list", "tuple", "dict"].all fun t => ["int", "bool", "str", "list", "tuple", "dict"].all fun n => KR t n == some (RB t n)) = true := by decide +kernel
theorem LK {t n : String} (ht : t ∈ ["NoneType", "bool", "int", "str", "list", "tuple", "dict"]) (hn : n ∈ ["int", "bool", "str", "list", "tuple", "dict"]) : KR t n = some (RB t n) := by
 have h := List.all_eq_true.mp (List.all_eq_true.mp GK t ht) n hn
 exact beq_iff_eq.mp h
theorem PZ (d : PyData) : Zc d ∈ ["NoneType", "bool", "int", "str", "list", "tuple", "dict"] := by
 cases d <;> simp [Zc]
theorem Dv.ty {K : PySem.W.Frag} {H : Hp} {v : V} {d : PyData} (h : Dv H v d) : t8 K H v (.type (Zc d)) := by
 cases h with
 | bG => exact .bG
 | bl b => exact .bl b
 | int i => exact .int i
 | str x => exact .str x
 | tup h r => exact .tup h
 | lst h r =>
   rcases h with h | ⟨o, h⟩
   . exact .lst h
   . exact .n8 h
 | dct h r => exact .dK h
theorem BF {K : PySem.W.Frag} {H : Hp} {v : V} {d : PyData} {n : String} {Q : VK} (h : Dv H v d) (hn : n ∈ ["int", "bool", "str", "list", "tuple", "dict"]) (q : Q (.bl (RB (Zc d) n)) H) : Cb K [v, .ty n] H Q :=
 ⟨v, .ty n, .type n, _, _, rfl, .ty n, h.ty, L8 (LK (PZ d) hn), q⟩
def A4 (K : PySem.W.Frag) (f : Bool -> Bool) : R2 := fun x y H Q => (O1 x y = true /\ Q (.bl (f (decide (x = y)))) H) \/ ∃ d e, Dv H x d /\ Dv H y e /\ d.canLay0 = true /\ e.canLay0 = true /\ d.depth <= 8 /\ Q (.bl (f (PyData.eqv d e))) H
theorem j9 (hu : X.A.units + 8 < cLine) : o4 X (compareOp .Eq) (A4 X.K id) := fun pins s σ H x y v u Q I rx ry h => by
 rcases h with h | ⟨d, e, h1, h2, h3, h4, h5, h6⟩
 . exact Ys pins s σ H x y v u Q I rx ry h
 . exact Rk hu pins s σ H x y v u Q I rx ry ⟨d, e, h1.has h3, h2.has h4, h3, h4, h5, h6⟩
theorem om (hu : X.A.units + 8 < cLine) : o4 X (compareOp .NotEq) (A4 X.K not) := fun pins s σ H x y v u Q I rx ry h => by
 rcases h with h | ⟨d, e, h1, h2, h3, h4, h5, h6⟩
 . exact Xb pins s σ H x y v u Q I rx ry h
 . exact U3 hu pins s σ H x y v u Q I rx ry ⟨d, e, h1.has h3, h2.has h4, h3, h4, h5, h6⟩
variable {es : List Expr} {t : TA} {pos : Pos}
def Li (xs : List V) (H1 : Hp) (Q : VK) : Prop := xs.length <= sizeLine /\ ∃ ds, cB H1 xs ds /\ ∀ p H2, az H1 H2 -> H1 p = none -> H2 p = some (.tup xs) -> Dv H2 (.ref p) (.tuple ds) -> Q (.ref p) H2
def Pp (xs : List V) (H1 : Hp) (Q : VK) : Prop := xs.length <= sizeLine /\ ∃ ds, cB H1 xs ds /\ ∀ p H2, az H1 H2 -> H1 p = none -> H2 p = some (.lst xs) -> cB H2 xs ds -> Dv H2 (.ref p) (.list ds) -> Q (.ref p) H2
def QE (t : TA) : TE := fun σ H Q => t σ H fun xs H1 => Li xs H1 Q
theorem fc {x1} (h : PA X es t) : PE X (.Tuple es x1 pos) (QE t) := PE.weak (UB h.m) fun σ H Q q => ⟨_, q, fun xs H1 ⟨hl, ds, hd, k⟩ => ⟨hl, fun p hp => by
 have sm : az H1 (upd H1 p (.tup xs)) := fun b u e => by rw [aw (aG e hp)]; exact e
 exact k p _ sm hp au (.tup au (hd.keeps sm))⟩⟩
def Q8 (t : TA) : TE := fun σ H Q => t σ H fun xs H1 => Pp xs H1 Q
theorem eZ (h : PA X es t) : PE X (.List es pos) (Q8 t) := PE.weak (K4 h.m) fun σ H Q q => ⟨_, q, fun xs H1 ⟨hl, ds, hd, k⟩ => ⟨hl, fun p hp => by
 have sm : az H1 (upd H1 p (.lst xs)) := fun b u e => by rw [aw (aG e hp)]; exact e
 exact k p _ sm hp au (hd.keeps sm) (.lst (.of au) (hd.keeps sm))⟩⟩
variable {st : Stmt} {rest : List Stmt}
def TR (t u : TS) : TS := fun D σ H => ∃ R : St -> Hp -> Prop, t { D with nx := R } σ H /\ ∀ σ' H', R σ' H' -> u D σ' H'
theorem aq {t u : TS} (h1 : PS X st t) (h2 : By X rest u) : By X (st :: rest) (TR t u) := by
 intro pins s σ H D I ⟨R, h, k⟩
 refine wpAny_execs_cons (cm (h1 pins s σ H { D with nx := R } I h) fun f s1 q => ?_)
 cases f with
 | next =>
   obtain ⟨σ', H', I', q⟩ := q
   exact h2 pins s1 σ' H' D I' (k _ _ q)
 | ret v => exact q
 | brk => exact q
 | cont => exact q
end
section
variable {σ : St} {H : Hp} {Q : VK} {D : Ends} {K : PySem.W.Frag}
theorem Ji {t u : TS} (h : t { D with nx := u D } σ H) : TR t u D σ H := ⟨u D, h, fun _ _ z => z⟩
theorem RE {t : TA} (h : t σ H fun xs H1 => Li xs H1 Q) : QE t σ H Q := h
theorem SY {xs : List V} {ds : List PyData} (hl : xs.length <= sizeLine) (hd : cB H xs ds) (k : ∀ v H2, az H H2 -> Dv H2 v (.tuple ds) -> Q v H2) : Li xs H Q := ⟨hl, ds, hd, fun p H2 s _ _ d => k (.ref p) H2 s d⟩
theorem RK {xs : List V} {ds : List PyData} (hl : xs.length <= sizeLine) (hd : cB H xs ds) (k : ∀ p H2, az H H2 -> H p = none -> H2 p = some (.tup xs) -> Q (.ref p) H2) : Li xs H Q := ⟨hl, ds, hd, fun p H2 s n e _ => k p H2 s n e⟩
theorem T6 {t : TA} (h : t σ H fun xs H1 => Pp xs H1 Q) : Q8 t σ H Q := h
theorem XC {f : Bool -> Bool} {x y : V} (e : O1 x y = true) (h : Q (.bl (f (decide (x = y)))) H) : A4 K f x y H Q := .inl ⟨e, h⟩
theorem Mq {f : Bool -> Bool} {x y : V} {d e : PyData} (h1 : Dv H x d) (h2 : Dv H y e) (h3 : d.canLay0 = true) (h4 : e.canLay0 = true) (h5 : d.depth <= 8) (h : Q (.bl (f (PyData.eqv d e))) H) : A4 K f x y H Q := .inr ⟨d, e, h1, h2, h3, h4, h5, h⟩
theorem XY {x : V} {ds : List PyData} {i : Int} {d : PyData} (hs : z0 H x ds) (hi : uj ds i = some d) (g : vW H d Q) : UE x (.int i) H Q := .inl ⟨ds, i, d, rfl, hs, hi, g⟩
theorem Uz {v : V} {ds : List PyData} (hs : z0 H v ds) (h : Q (.int (ds.length : Nat)) H) : Lx [v] H Q := .inl ⟨v, ds, rfl, hs, h⟩
theorem Fg {i : Int} (h : Q (.int i) H) : vW H (.int i) Q := h
theorem Ff {i : Str} (h : Q (.str i) H) : vW H (.str i) Q := h
theorem Nb {ds : List PyData} (h : ∀ v, Dv H v (.tuple ds) -> Q v H) : vW H (.tuple ds) Q := h
theorem N0 {ds : List PyData} (h : ∀ v, Dv H v (.list ds) -> Q v H) : vW H (.list ds) Q := h
theorem W6 {b : Bool} {A B : Prop} (h1 : b = true -> A) (h2 : b = false -> B) : if b = true then A else B := by
 cases b
 . exact aa3 (h2 rfl)
 . exact abk (h1 rfl)
end
theorem cI.AV {k : Nat} {A : Around} (r : cI k A) : A.units + 8 < cLine := Nat.lt_of_le_of_lt (by omega) r.units
theorem az.at {H H' : Hp} {a : Addr} {o : HO} (s : az H H') (h : H a = some o) : H' a = some o := s a o h
theorem bw {H : Hp} {t : Addr} {o : HO} (h : H t = none) : az H (upd H t o) := fun b u e => by rw [aw (aG e h)]; exact e
section
variable {σ : St} {H : Hp} {Q : VK} {D : Ends} {K : PySem.W.Frag}
theorem Oa {v : V} {R : St -> Hp -> Prop} {rt : VK} {bk ct : St -> Hp -> Prop} (h : rt v H) : (Ends.mk R rt bk ct).rt v H := h
end
theorem Eh {K : PySem.W.Frag} {C : Addr} {b : Value} {r : Bool} (h : PySem.W.mroIn K C b = some r) : (PySem.W.clsIn K C).isSome = true := by
 obtain ⟨cd, e, _⟩ := Option.bind_eq_some_iff.mp h
 rw [e]; rfl
theorem GD {K : PySem.W.Frag} {C D : Addr} {b : Bool} (h2 : PySem.W.mroIn K D (.type "object") = some true) (h3 : PySem.W.typeIn K (.ref D) = some (.type "type")) (h : PySem.W.mroIn K C (.ref D) = some b) (hb : C = D -> b = true := by intro _; rfl) : PySem.W.kitOne K (.ref C) (.ref D) = some b := by
 unfold PySem.W.kitOne
 split
 . rename_i e
   have : C = D := by
    have := beq_iff_eq.mp e
    cases this; rfl
   rw [hb this]
 . show (if ((PySem.W.clsIn K D).isSome && PySem.W.typeIn K (.ref D) == some (.type "type")) = true then PySem.W.subIn K (.ref C) (.ref D) else none) = some b
   rw [Eh h2, h3]
   rw [if_pos (by decide +kernel)]
   exact h
def isInt : PyData -> Bool | .int _ => true | .bool _ => true | _ => false
def isBool : PyData -> Bool | .bool _ => true | _ => false
def isStr : PyData -> Bool | .str _ => true | _ => false
def QO : PyData -> Bool | .list _ => true | _ => false
def isTup : PyData -> Bool | .tuple _ => true | _ => false
def WK : PyData -> Bool | .dict _ => true | _ => false
section
variable {K : PySem.W.Frag} {H : Hp} {v : V} {d : PyData} {Q : VK}
theorem Hc (h : Dv H v d) (q : Q (.bl (isInt d)) H) : Cb K [v, .ty "int"] H Q := BF h (by decide) (by cases d <;> exact q)
theorem D7 (h : Dv H v d) (q : Q (.bl (isBool d)) H) : Cb K [v, .ty "bool"] H Q := BF h (by decide) (by cases d <;> exact q)
theorem Iv (h : Dv H v d) (q : Q (.bl (QO d)) H) : Cb K [v, .ty "list"] H Q := BF h (by decide) (by cases d <;> exact q)
theorem IB (h : Dv H v d) (q : Q (.bl (isTup d)) H) : Cb K [v, .ty "tuple"] H Q := BF h (by decide) (by cases d <;> exact q)
theorem Iz {p C D dx : Addr} {fs : List (Str × V)} {b : Bool} (hp : H p = some (.ins C dx fs)) (cl : su K C) (t : Dy K C) (k : PySem.W.kitOne K (.ref C) (.ref D) = some b) (q : Q (.bl b) H) : Cb K [.ref p, .ref D] H Q :=
 ⟨_, _, _, _, _, rfl, .ref D, .ins hp cl t.ha t.hn t.ht t.hm, k, q⟩
def sv (H : Hp) (v : V) (C : Addr) (fs : List (Str × V)) : Prop := ∃ p dx, v = .ref p /\ H p = some (.ins C dx fs)
theorem sv.keeps {H H' : Hp} {C : Addr} {fs : List (Str × V)} (s : az H H') (h : sv H v C fs) : sv H' v C fs := by
 obtain ⟨p, dx, rfl, e⟩ := h; exact ⟨p, dx, rfl, s _ _ e⟩
theorem RM {R : V -> Prop} {C : Addr} {fs : List (Str × V)} {f : Str} {x : V} (hp : sv H v C fs) (c : su K C) (n : bp K C f) (l : fs.lookup f = some x) (h : R x) :
 ∃ a C dx fs x, v = .ref a /\ H a = some (.ins C dx fs) /\ su K C /\ bp K C f /\ fs.lookup f = some x /\ R x := by
 obtain ⟨p, dx, rfl, e⟩ := hp
 exact ⟨p, C, dx, fs, x, rfl, e, c, n, l, h⟩
theorem lN {C : Addr} {m : Str} {fs : List (Str × V)} {R : Prop} (hp : sv H v C fs) (hl : fs.lookup m = none) (h : R) : ∃ a dx fs, v = .ref a /\ H a = some (.ins C dx fs) /\ fs.lookup m = none /\ R := by
 obtain ⟨p, dx, rfl, e⟩ := hp
 exact ⟨p, dx, fs, rfl, e, hl, h⟩
theorem UC {C D : Addr} {fs : List (Str × V)} {b : Bool} (hp : sv H v C fs) (cl : su K C) (t : Dy K C) (k : PySem.W.kitOne K (.ref C) (.ref D) = some b) (q : Q (.bl b) H) : Cb K [v, .ref D] H Q := by
 obtain ⟨p, dx, rfl, e⟩ := hp
 exact Iz e cl t k q
end
def look (f : Str) : List (Str × V) -> Option V
 | [] => none
 | (g, v) :: r => if f = g then some v else look f r
theorem vJ (f : Str) : ∀ fs : List (Str × V), fs.lookup f = look f fs
 | [] => rfl
 | (g, v) :: r => by
   show (match f == g with | true => some v | false => r.lookup f) = if f = g then some v else look f r
   by_cases h : f = g
   . subst h; rw [if_pos rfl, beq_self_eq_true]
   . rw [if_neg h, beq_eq_false_iff_ne.mpr h]; exact vJ f r
section
variable {X : Cx}
def Bc (K : PySem.W.Frag) : R2 := fun x y H Q => UE x y H Q \/ R8 K x y H Q
theorem cL : Kl X (Bc X.K) := fun value slice pins s σ H x y v u Q I r1 r2 h => h.elim (aaf value slice pins s σ H x y v u Q I r1 r2) (Fc value slice pins s σ H x y v u Q I r1 r2)
def F5 (K : PySem.W.Frag) : List V -> Hp -> VK -> Prop := fun xs H Q => Lx xs H Q \/ ∃ p ys, xs = [.ref p] /\ fj K H p ys /\ Q (.int ys.length) H
theorem eE : p8 X (.builtin "len") (F5 X.K) := fun pins s σ H xs us Q I r h => by
 rcases h with h | ⟨p, ys, e, hl, q⟩
 . exact Hj pins s σ H xs us Q I r h
 . exact mj pins s σ H xs us Q I r ⟨p, ys, e, .inl hl, q⟩
end
section
variable {σ : St} {H : Hp} {Q : VK} {D : Ends} {K : PySem.W.Frag}
theorem zv {x : V} {ds : List PyData} {i : Int} {d : PyData} (hs : z0 H x ds) (hi : uj ds i = some d) (g : vW H d Q) : Bc K x (.int i) H Q := .inl (XY hs hi g)
theorem fS {p : Addr} {xs : List V} {i : Int} {v : V} (hs : fj K H p xs) (hi : uj xs i = some v) (g : Q v H) : Bc K (.ref p) (.int i) H Q := .inr ⟨p, xs, i, v, rfl, rfl, hs, hi, g⟩
theorem KW {v : V} {ds : List PyData} (hs : z0 H v ds) (h : Q (.int (ds.length : Nat)) H) : F5 K [v] H Q := .inl (Uz hs h)
theorem Bj {p : Addr} {xs : List V} (hs : fj K H p xs) (h : Q (.int xs.length) H) : F5 K [.ref p] H Q := .inr ⟨p, xs, rfl, hs, h⟩
theorem UT {ta tv : TE} {f : Str} (h : tv σ H fun y H1 => ta σ H1 fun x H2 => ∃ a C dx fs, x = .ref a /\ H2 a = some (.ins C dx fs) /\ su K C /\ bp K C f /\ fs.length < 1000 /\ D.nx σ (upd H2 a (.ins C dx (iI f y fs)))) : XT K ta tv f D σ H := h
theorem M6 {p C dx : Addr} {fs YR : List (Str × V)} {f : Str} {y : V} (hp : H p = some (.ins C dx fs)) (c : su K C) (n : bp K C f) (hl : fs.length < 1000) (e : iI f y fs = YR) (h : D.nx σ (upd H p (.ins C dx YR))) :
 ∃ a C dx fs, V.ref p = .ref a /\ H a = some (.ins C dx fs) /\ su K C /\ bp K C f /\ fs.length < 1000 /\ D.nx σ (upd H a (.ins C dx (iI f y fs))) := ⟨p, C, dx, fs, rfl, hp, c, n, hl, by rw [e]; exact h⟩
theorem UD {R : V -> Prop} {C dx p : Addr} {fs : List (Str × V)} {f : Str} {v : V} (hp : H p = some (.ins C dx fs)) (c : su K C) (n : bp K C f) (l : fs.lookup f = some v) (h : R v) :
 ∃ a C dx fs v, V.ref p = .ref a /\ H a = some (.ins C dx fs) /\ su K C /\ bp K C f /\ fs.lookup f = some v /\ R v := ⟨p, C, dx, fs, v, rfl, hp, c, n, l, h⟩
end
theorem bg {i : Int} (h1 : -(10 ^ 200) < i) (h2 : i < 10 ^ 200) : i.natAbs < 2 ^ 2000 := by
 have : (10 : Nat) ^ 200 < 2 ^ 2000 := by decide +kernel
 have h3 : i.natAbs < 10 ^ 200 := by
  have e : ((10 : Nat) ^ 200 : Nat) = ((10 : Int) ^ 200).toNat := by decide +kernel
  rw [e]
  generalize (10 : Int) ^ 200 = m at h1 h2 ⊢
  omega
 exact Nat.lt_trans h3 this
theorem X1 {i j : Int} (h1 : -(10 ^ 200) < i /\ i < 10 ^ 200) (h2 : -(10 ^ 200) < j /\ j < 10 ^ 200) : Gp i j := ⟨bg h1.1 h1.2, bg h2.1 h2.2⟩
theorem V4 {i j : Int} (h1 : 0 < j) (h2 : j < 10 ^ 200) : Qj i j := ⟨h1, bg (Int.lt_trans (by decide) h1) h2⟩
def cell (ns : List Int) (k : Nat) : Int := ns.getD k 0
def Eg (K : PySem.W.Frag) : Sp := fun vs H Q _ => ∃ l ns k, vs = [.ref l, .int k] /\ fj K H l (ns.map V.int) /\ 0 <= k /\ Q (.int (cell ns k.toNat)) H
theorem Tj {K : PySem.W.Frag} {H : Hp} {Q : VK} {E : XK} {l : Addr} {ns : List Int} {k : Int} (h : fj K H l (ns.map V.int)) (hk : 0 <= k) (q : Q (.int (cell ns k.toNat)) H) : Eg K [.ref l, .int k] H Q E := ⟨l, ns, k, rfl, h, hk, q⟩
theorem N3 {ns : List Int} {k : Int} (h0 : 0 <= k) (h : k < (ns.map V.int).length) : uj (ns.map V.int) k = some (.int (cell ns k.toNat)) := by
 obtain ⟨n, rfl⟩ := Int.eq_ofNat_of_zero_le h0
 refine wj ?_
 have hn : n < ns.length := by simpa using h
 simp [cell, hn, List.getD_eq_getElem?_getD]
theorem Px {ns : List Int} {k : Int} (h0 : 0 <= k) (h : ¬ k < (ns.map V.int).length) : cell ns k.toNat = 0 := by
 have : ns.length <= k.toNat := by simp at h; omega
 simp [cell, List.getD_eq_getElem?_getD, this]
def jh (sp : Sp) (vs : List V) (H : Hp) (Q : VK) (E : XK) : Prop := ∃ ws, vs = ws /\ sp ws H Q E
theorem CF (sp : Sp) (vs : List V) (H : Hp) (Q : VK) (E : XK) : jh sp vs H Q E = sp vs H Q E := propext ⟨fun ⟨_, e, h⟩ => e ▸ h, fun h => ⟨vs, rfl, h⟩⟩
def xj (sp : Sp) (bJ : List V) (E : XK) (t : TA) : TE := fun σ H Q => t σ H fun vs H1 => jh sp (vs ++ bJ) H1 Q E
theorem zU (sp : Sp) (bJ : List V) (E : XK) (t : TA) : xj sp bJ E t = zh sp bJ E t := by
 funext σ H Q; unfold xj zh; congr 1; funext vs H1; exact CF _ _ _ _ _
def xG (C : Addr) (m : Str) (sp : Sp) (bJ : List V) (E : XK) (ta : TE) (t : TA) : TE := fun σ H Q => ta σ H fun x H1 => ∃ a dx fs, x = .ref a /\ H1 a = some (.ins C dx fs) /\ fs.lookup m = none /\
 t σ H1 fun vs H2 => jh sp (x :: (vs ++ bJ)) H2 Q E
theorem zH (C : Addr) (m : Str) (sp : Sp) (bJ : List V) (E : XK) (ta : TE) (t : TA) : xG C m sp bJ E ta t = Ah C m sp bJ E ta t := by
 funext σ H Q; unfold xG Ah; congr 1; funext x H1
 have : ∀ H2 : Hp, (fun vs H2 => jh sp (x :: (vs ++ bJ)) H2 Q E) = fun vs H2 => sp (x :: (vs ++ bJ)) H2 Q E := fun _ => by funext vs H2; exact CF _ _ _ _ _
 rw [this H1]
def sL (C : Addr) (sp : Sp) (vs : List V) (H1 : Hp) (Q : VK) (E : XK) : Prop := ∃ ws, vs = ws /\ ∀ x dx, H1 x = none -> H1 dx = none -> dx ≠ x ->
 sp (.ref x :: ws) (upd (upd H1 dx (.own x)) x (.ins C dx [])) (fun v H2 => v = .bG /\ Q (.ref x) H2) E
def xI (C : Addr) (sp : Sp) (bJ : List V) (E : XK) (t : TA) : TE := fun σ H Q => t σ H fun vs H1 => sL C sp (vs ++ bJ) H1 Q E
theorem zq (C : Addr) (sp : Sp) (bJ : List V) (E : XK) (t : TA) : xI C sp bJ E t = CD C sp bJ E t := by
 funext σ H Q; unfold xI CD sL; congr 1; funext vs H1
 exact propext ⟨fun ⟨_, e, h⟩ => by subst e; exact h, fun h => ⟨_, rfl, h⟩⟩
section
variable {X : Cx} {k : Nat} {f C : Addr} {ps : List Str} {sp : Sp} {bJ : List V} {x m : Str} {p pos apos : Pos} {e o : Expr} {es : List Expr} {ta : TE} {t : TA}
theorem bx (c : gk X.prog X.w X.K X.mg X.base k f ps bJ sp) (hr : cI k X.A) (hg : Gl X x) (hm : X.mg x = some (.ref f)) (hk : PySem.W.keepIn X.K (.ref f) = true)
 (ha : PA X (e :: es) t) (nV : (x == ("__debug__" : Str)) = false := by decide) (he : starEach (e :: es) X.env = (false, eval e X.env) :: starEach es X.env := by rfl) (mD : (backTo pos (starEach es X.env)).any (·.1) = false := by rfl) :
 PE X (.Call (.Name x p) (e :: es) [] pos) (xj sp bJ E0 t) := by rw [zU]; exact Ni c hr hg hm hk ha nV he mD
theorem bH {pl : Sem Bool} (he : PE X o ta) (c : su X.K C) (hm : Meth X.K C m f) (F : gk X.prog X.w X.K X.mg X.base k f ps bJ sp) (hr : cI k X.A) (ha : PA X (e :: es) t)
 (qe : starEach (e :: es) X.env = (false, eval e X.env) :: starEach es X.env := by rfl) (mD : (backTo pos (starEach es X.env)).any (·.1) = false := by rfl)
 (ht : eval (.Call (.Attribute o m apos) (e :: es) [] pos) X.env = (do
  let ov <- eval o X.env
  standAt apos.atName
  let (f, first) <- holding [ov] (getMethod ov m pl)
  callWith pos f first (backTo pos (starEach (e :: es) X.env)) (backToKw pos (keywordEach [] X.env))) := by rfl) :
 PE X (.Call (.Attribute o m apos) (e :: es) [] pos) (xG C m sp bJ E0 ta t) := by rw [zH]; exact NB he c hm F hr ha qe mD ht
theorem dD {pl : Sem Bool} (he : PE X o ta) (c : su X.K C) (hm : Meth X.K C m f) (F : gk X.prog X.w X.K X.mg X.base k f ps bJ sp) (hr : cI k X.A)
 (ht : eval (.Call (.Attribute o m apos) [] [] pos) X.env = (do
  let ov <- eval o X.env
  standAt apos.atName
  let (f, first) <- holding [ov] (getMethod ov m pl)
  callWith pos f first (backTo pos (starEach [] X.env)) (backToKw pos (keywordEach [] X.env))) := by rfl) :
 PE X (.Call (.Attribute o m apos) [] [] pos) (xG C m sp bJ E0 ta Ec) := by rw [zH]; exact KY he c hm F hr ht
theorem Gv (M : Mk X.K C f) (F : gk X.prog X.w X.K X.mg X.base k f ps bJ sp) (hr : cI (k + 1) X.A) (hg : Gl X x) (hm : X.mg x = some (.ref C))
 (ha : PA X (e :: es) t) (nV : (x == ("__debug__" : Str)) = false := by decide) (he : starEach (e :: es) X.env = (false, eval e X.env) :: starEach es X.env := by rfl) (mD : (backTo pos (starEach es X.env)).any (·.1) = false := by rfl) :
 PE X (.Call (.Name x p) (e :: es) [] pos) (xI C sp bJ E0 t) := by rw [zq]; exact OV M F hr hg hm ha nV he mD
theorem Oe {pl : Sem Bool} (hg : Gl X x) (hm : X.mg x = some (.ref C)) (B : Gx X.K C m f) (F : gk X.prog X.w X.K X.mg X.base k f ps bJ sp) (hr : cI k X.A) (ha : PA X (e :: es) t)
 (nV : (x == ("__debug__" : Str)) = false := by decide)
 (qe : starEach (e :: es) X.env = (false, eval e X.env) :: starEach es X.env := by rfl) (mD : (backTo pos (starEach es X.env)).any (·.1) = false := by rfl)
 (ht : eval (.Call (.Attribute (.Name x p) m apos) (e :: es) [] pos) X.env = (do
  let ov <- eval (.Name x p) X.env
  standAt apos.atName
  let (f, first) <- holding [ov] (getMethod ov m pl)
  callWith pos f first (backTo pos (starEach (e :: es) X.env)) (backToKw pos (keywordEach [] X.env))) := by rfl) :
 PE X (.Call (.Attribute (.Name x p) m apos) (e :: es) [] pos) (xj sp bJ E0 t) := by rw [zU]; exact OU hg hm B F hr ha nV qe mD ht
end
section
variable {σ : St} {H : Hp} {Q : VK} {D : Ends} {K : PySem.W.Frag}
theorem Oh {sp : Sp} {bJ : List V} {E : XK} {t : TA} (h : t σ H fun vs H1 => jh sp (vs ++ bJ) H1 Q E) : xj sp bJ E t σ H Q := h
theorem EL {sp : Sp} {vs ws : List V} {E : XK} (e : vs = ws) (h : sp ws H Q E) : jh sp vs H Q E := ⟨ws, e, h⟩
theorem Fo {C : Addr} {m : Str} {sp : Sp} {bJ : List V} {E : XK} {ta : TE} {t : TA} (h : ta σ H fun x H1 => ∃ a dx fs, x = .ref a /\ H1 a = some (.ins C dx fs) /\ fs.lookup m = none /\ t σ H1 fun vs H2 => jh sp (x :: (vs ++ bJ)) H2 Q E) : xG C m sp bJ E ta t σ H Q := h
theorem P8 {C : Addr} {sp : Sp} {bJ : List V} {E : XK} {t : TA} (h : t σ H fun vs H1 => sL C sp (vs ++ bJ) H1 Q E) : xI C sp bJ E t σ H Q := h
theorem Ry {b : Bool} {R : Bool -> Prop} (h : R b) : ∃ k, DT K (.bl b) H k /\ R k := ⟨b, rfl, h⟩
end
theorem Cm {n : Nat} (h : Nat.ble n 64 = true) : n <= sizeLine := Nat.le_trans (Nat.le_of_ble_eq_true h) (by decide)
theorem Gh {H : Hp} {d : PyData} {Q : VK} (h : ∀ v, Dv H v d -> Q v H) : vW H d Q := by
 cases d with
 | none => exact h _ .bG
 | bool b => exact h _ (.bl b)
 | int i => exact h _ (.int i)
 | str x => exact h _ (.str x)
 | list l => exact h
 | tuple l => exact h
 | dict l => exact h
section
variable {X : Cx} {st : Stmt} {rest : List Stmt}
def QT (t u : TS) : TS := TR t u
theorem gZ {t u : TS} (h1 : PS X st t) (h2 : By X rest u) : By X (st :: rest) (QT t u) := aq h1 h2
end
section
variable {σ : St} {H : Hp} {Q : VK} {D : Ends} {K : PySem.W.Frag}
theorem o7 {t u : TS} (R : St -> Hp -> Prop) (h : t { D with nx := R } σ H) (k : ∀ σ' H', R σ' H' -> u D σ' H') : QT t u D σ H := ⟨R, h, k⟩
theorem TB {xs : List V} {ds : List PyData} (hl : xs.length <= sizeLine) (hd : cB H xs ds) (k : ∀ p H2, az H H2 -> H p = none -> H2 p = some (.lst xs) -> cB H2 xs ds -> Dv H2 (.ref p) (.list ds) -> Q (.ref p) H2) : Pp xs H Q := ⟨hl, ds, hd, k⟩
def Tq (K : PySem.W.Frag) (x : V) (g : TG) (tb : TS) (D : Ends) (σ : St) (H1 : Hp) : Prop := ∃ a, x = .ref a /\ (∃ xs, fj K H1 a xs) /\ ∃ W : Nat -> Nat -> St -> Hp -> Prop, (∃ m, W 0 m σ H1) /\ ∀ i m σ H, W i m σ H ->
 ((Ld K a).stop i H /\ D.nx σ H) \/ ((Ld K a).go i H /\ ∃ N : St -> Hp -> Prop, (∀ σ' H', N σ' H' -> ∃ m', m' < m /\ W (i + 1) m' σ' H') /\ ∀ x H', (Ld K a).Qy i H x H' -> g x σ H' fun σ2 H2 => tb { D with nx := N, ct := N, bk := D.nx } σ2 H2)
theorem Wu {tl : TE} {g : TG} {tb : TS} (h : tl σ H fun x H1 => Tq K x g tb D σ H1) : Nq (IZ K tl) g tb D σ H := h
theorem forL {a : Addr} {xs : List V} {g : TG} {tb : TS} (hl : fj K H a xs) (Pv : Nat -> St -> Hp -> Prop) (h0 : Pv 0 σ H) (hk : ∀ i σ H, i <= xs.length -> Pv i σ H -> fj K H a xs)
 (hs : ∀ i x σ H, xs[i]? = some x -> Pv i σ H -> g x σ H fun σ2 H2 => tb { D with nx := Pv (i + 1), ct := Pv (i + 1), bk := D.nx } σ2 H2) (hd : ∀ σ H, Pv xs.length σ H -> D.nx σ H) : Tq K (.ref a) g tb D σ H :=
 ⟨a, rfl, ⟨xs, hl⟩, JY Pv h0 hk hs hd⟩
def Zk (lo : Int) (n : Nat) (g : TG) (tb : TS) (D : Ends) (σ : St) (H1 : Hp) : Prop := ∃ W : Nat -> Nat -> St -> Hp -> Prop, (∃ m, W 0 m σ H1) /\ ∀ i m σ H, W i m σ H ->
 ((Ju lo n).stop i H /\ D.nx σ H) \/ ((Ju lo n).go i H /\ ∃ N : St -> Hp -> Prop, (∀ σ' H', N σ' H' -> ∃ m', m' < m /\ W (i + 1) m' σ' H') /\ ∀ x H', (Ju lo n).Qy i H x H' -> g x σ H' fun σ2 H2 => tb { D with nx := N, ct := N, bk := D.nx } σ2 H2)
theorem Pq {ta : TA} {g : TG} {tb : TS} (h : ta σ H fun vs H1 => ∃ j : Int, vs = [.int j] /\ -(2 ^ 62) <= j /\ j < 2 ^ 62 /\ Zk 0 j.toNat g tb D σ H1) : Nq (KZ ta) g tb D σ H := h
theorem UL {j : Int} {R : Int -> Prop} (h1 : -(2 ^ 62) <= j) (h2 : j < 2 ^ 62) (h : R j) : ∃ i : Int, [V.int j] = [.int i] /\ -(2 ^ 62) <= i /\ i < 2 ^ 62 /\ R i := ⟨j, rfl, h1, h2, h⟩
end
section
variable {X : Cx}
def Qp : List V -> Hp -> VK -> Prop := fun xs H Q => ∃ i j, xs = [.int i, .int j] /\ ∀ k, (k = i \/ k = j) -> i <= k -> j <= k -> Q (.int k) H
theorem zr (hc : X.calm = true) : p8 X (.builtin "max") Qp := fun pins s σ H xs us Q I r ⟨i, j, e, h⟩ => Hm hc pins s σ H xs us Q I r ⟨i, j, e, by
 split
 . exact h _ (.inr rfl) (by omega) (by omega)
 . exact h _ (.inl rfl) (by omega) (by omega)⟩
def Qh : R2 := fun x y H Q => ∃ i j, x = .int i /\ y = .int j /\ 0 < j /\ (0 <= i % j -> i % j < j -> Q (.int (i % j)) H)
theorem aM : o4 X (binaryOp .Mod) Qh := fun pins s σ H x y v u Q I rx ry ⟨i, j, e1, e2, hj, h⟩ => Sj pins s σ H x y v u Q I rx ry ⟨i, j, e1, e2, hj, h (Int.emod_nonneg _ (by omega)) (Int.emod_lt_of_pos _ hj)⟩
end
section
variable {σ : St} {H : Hp} {Q : VK} {D : Ends} {K : PySem.W.Frag}
theorem U0 {i j : Int} (h : ∀ k, (k = i \/ k = j) -> i <= k -> j <= k -> Q (.int k) H) : Qp [.int i, .int j] H Q := ⟨i, j, rfl, h⟩
theorem Uy {i j : Int} (hj : 0 < j) (h : 0 <= i % j -> i % j < j -> Q (.int (i % j)) H) : Qh (.int i) (.int j) H Q := ⟨i, j, rfl, rfl, hj, h⟩
end
section
variable {σ : St} {H : Hp} {Q : VK} {D : Ends} {K : PySem.W.Frag}
def QX (Pv : Nat -> St -> Hp -> Prop) (m : Nat) (tb : TS) (D : Ends) (σ : St) (H1 : Hp) : Prop := ∃ N : St -> Hp -> Prop, (∀ σ' H', N σ' H' -> ∃ m', m' < m /\ Pv m' σ' H') /\ tb { D with nx := N, ct := N, bk := D.nx } σ H1
theorem SR {Pv : Nat -> St -> Hp -> Prop} {m : Nat} {tb : TS} (h : tb { D with nx := fun σ' H' => ∃ m', m' < m /\ Pv m' σ' H', ct := fun σ' H' => ∃ m', m' < m /\ Pv m' σ' H', bk := D.nx } σ H) : QX Pv m tb D σ H := ⟨_, fun _ _ h => h, h⟩
theorem Bo {c : TT} {tb : TS} (Pv : Nat -> St -> Hp -> Prop) (h0 : ∃ m, Pv m σ H) (hs : ∀ m σ H, Pv m σ H -> c σ H fun b H1 => if b = true then QX Pv m tb D σ H1 else D.nx σ H1) : JD c tb D σ H := ⟨Pv, h0, hs⟩
end
end L2
namespace L2
theorem PX {n : Nat} (h : Nat.blt n 1000 = true) : n < 1000 := by
 unfold Nat.blt at h
 exact Nat.le_of_ble_eq_true h
end L2
namespace L2
open PySem PySem.Spec PyProof.Rows
section
variable {X : Cx}
end
section
variable {σ : St} {H : Hp} {Q : VK} {D : Ends} {K : PySem.W.Frag}
end
theorem Rr {H : Hp} {Q : VK} {i j p : Int} (c : OI i j) (e : i ^ j.toNat = p) (h : Q (.int p) H) : rI OI (fun i j => .int (i ^ j.toNat)) (.int i) (.int j) H Q := ⟨i, j, rfl, rfl, c, by show Q (.int (i ^ j.toNat)) H; rw [e]; exact h⟩
section
variable {X : Cx} {e : Expr}
def U1 (t u : TE) : TE := fun σ H Q => t σ H Q \/ u σ H Q
theorem iT {t u : TE} (h1 : PE X e t) (h2 : PE X e u) : PE X e (U1 t u) := PE.or h1 h2
end
section
variable {σ : St} {H : Hp} {Q : VK} {D : Ends} {K : PySem.W.Frag}
theorem QZ {t u : TE} (h : t σ H Q) : U1 t u σ H Q := .inl h
theorem WY {t u : TE} (h : u σ H Q) : U1 t u σ H Q := .inr h
end
end L2
namespace L2
end L2
namespace L2
open PySem PySem.Spec PyProof.Rows PySem.W
structure Swo (lt : Nat -> Nat -> Bool) : Prop where
 V9 : ∀ a, lt a a = false
 Yk : ∀ a b, lt a b = true -> lt b a = false
 M0 : ∀ a b c, lt a b = false -> lt b c = false -> lt a c = false
section
variable {lt : Nat -> Nat -> Bool} {n : Nat} {S : Shared -> Prop} {cmp : Nat -> Nat -> (Bool -> Shared -> Prop) -> Shared -> Prop}
def Up (lt : Nat -> Nat -> Bool) (p : Array Nat) (k : Nat) : Prop := ∀ i j, i < j -> j < k -> lt (p.getD j 0) (p.getD i 0) = false
def Down (lt : Nat -> Nat -> Bool) (p : Array Nat) (k : Nat) : Prop := ∀ i j, i < j -> j < k -> lt (p.getD i 0) (p.getD j 0) = false
def Alike (lt : Nat -> Nat -> Bool) (p : Array Nat) (a b : Nat) : Prop := ∀ i j, a <= i -> i < b -> a <= j -> j < b -> lt (p.getD i 0) (p.getD j 0) = false
structure Ix (n : Nat) (p : Array Nat) : Prop where
 sz : p.size = n
 pm : p.toList.Perm (List.range n)
theorem Ix.low {p : Array Nat} (h : Ix n p) {i : Nat} (hi : i < n) : p.getD i 0 < n := by
 have Fy : i < p.size := by rw [h.sz]; exact hi
 have e : p.getD i 0 = p[i] := by simp [Array.getD, Fy]
 rw [e]
 have : p[i] ∈ p.toList := by simp
 exact List.mem_range.mp (h.pm.mem_iff.mp this)
theorem Ix.perm {p q : Array Nat} (h : Ix n p) (hq : q.Perm p) : Ix n q := ⟨hq.size_eq.trans h.sz, (Array.perm_iff_toList_perm.mp hq).trans h.pm⟩
theorem g0 {p : Array Nat} {i j : Nat} (hj : j <= p.size) (k : Nat) : (kas_rev p i j).getD k 0 = if i <= k /\ k < j then p.getD (i + j - 1 - k) 0 else p.getD k 0 := by
 unfold kas_rev
 rw [Array.getD_eq_getD_getElem?, getElem?_mirror_all hj k]
 by_cases h : i <= k /\ k < j
 . rw [if_pos h, if_pos h, Array.getD_eq_getD_getElem?]
 . rw [if_neg h, if_neg h, Array.getD_eq_getD_getElem?]
theorem yp {p : Array Nat} (h : Ix n p) (i j : Nat) : Ix n (kas_rev p i j) := h.perm (mirror_perm _ _ _ _)
theorem CK {p : Array Nat} {k d : Nat} (hk : k < p.size) (hd : d <= k) (i : Nat) : (bubble p k d).getD i 0 = if i = k - d then p.getD k 0 else if k - d < i /\ i <= k then p.getD (i - 1) 0 else p.getD i 0 := by
 rw [Array.getD_eq_getD_getElem?, getElem?_bubble hk d hd i]
 by_cases h : i = k - d
 . rw [if_pos h, if_pos h, Array.getD_eq_getD_getElem?]
 . rw [if_neg h, if_neg h]
   by_cases h2 : k - d < i /\ i <= k
   . rw [if_pos h2, if_pos h2, Array.getD_eq_getD_getElem?]
   . rw [if_neg h2, if_neg h2, Array.getD_eq_getD_getElem?]
def X0 (n : Nat) (lt : Nat -> Nat -> Bool) (S : Shared -> Prop) (cmp : Nat -> Nat -> (Bool -> Shared -> Prop) -> Shared -> Prop) : Prop :=
 ∀ i j C s, i < n -> j < n -> S s -> (∀ s', S s' -> C (lt i j) s') -> cmp i j C s
variable (w : Swo lt) (ha : X0 n lt S cmp)
include w ha
theorem E6 {p : Array Nat} (hp : Ix n p) {Q : Nat -> Shared -> Prop} : ∀ (f k : Nat), 1 <= k -> k + f <= n -> Up lt p k -> (∀ m s, S s -> k <= m -> m <= k + f -> Up lt p m -> (m = k + f \/ (m < k + f /\ lt (p.getD m 0) (p.getD (m - 1) 0) = true)) -> Q m s) -> ∀ s, S s -> (kas_asc p f k).kasWp cmp Q s
 | 0, k, _, _, hu, hq, s, hs => hq k s hs (Nat.le_refl _) (Nat.le_refl _) hu (.inl rfl)
 | f + 1, k, h1, hf, hu, hq, s, hs => by
   refine ha _ _ _ _ (hp.low (by omega)) (hp.low (by omega)) hs fun s' sk => ?_
   cases e : lt (p.getD k 0) (p.getD (k - 1) 0) with
   | true => exact hq k s' sk (Nat.le_refl _) (by omega) hu (.inr ⟨by omega, e⟩)
   | false =>
     refine E6 hp f (k + 1) (by omega) (by omega) (fun i j vQ hj => ?_) (fun m s hs a b c d => hq m s hs (by omega) (by omega) c (by rcases d with d | d; exact .inl (by omega); exact .inr ⟨by omega, d.2⟩)) s' sk
     by_cases DJ : j < k
     . exact hu i j vQ DJ
     . have : j = k := by omega
       subst this
       by_cases hi : i = j - 1
       . rw [hi]; exact e
       . exact w.M0 _ _ _ e (hu i (j - 1) (by omega) (by omega))
theorem wo {Q : Array Nat × Nat × Nat -> Shared -> Prop} : ∀ (f : Nat) (p : Array Nat) (k q : Nat), Ix n p -> k + f <= n -> q + 1 <= k -> Down lt p k -> Alike lt p (k - (q + 1)) k ->
 (∀ p' k' q' s, S s -> Ix n p' -> k <= k' -> k' <= k + f -> q' + 1 <= k' -> Down lt p' k' -> Alike lt p' (k' - (q' + 1)) k' -> Q (p', k', q') s) -> ∀ s, S s -> (kas_desc f p k q).kasWp cmp Q s
 | 0, p, k, q, hp, _, h1, hd, hl, hq, s, hs => hq p k q s hs hp (Nat.le_refl _) (Nat.le_refl _) h1 hd hl
 | f + 1, p, k, q, hp, hf, h1, hd, hl, hq, s, hs => by
   refine ha _ _ _ _ (hp.low (by omega)) (hp.low (by omega)) hs fun s' sk => ?_
   cases e : lt (p.getD k 0) (p.getD (k - 1) 0) with
   | true =>
     have DK : ∀ i, i < k -> lt (p.getD i 0) (p.getD k 0) = false := fun i hi => by
      by_cases h : i = k - 1
      . rw [h]; exact w.Yk _ _ e
      . exact w.M0 _ _ _ (hd i (k - 1) (by omega) (by omega)) (w.Yk _ _ e)
     by_cases h0 : q > 0
     . simp only [if_true, if_pos h0]
       have hk : k <= p.size := by rw [hp.sz]; omega
       refine wo f _ (k + 1) 0 (yp hp _ _) (by omega) (by omega) (fun i j vQ hj => ?_) (fun i j a b c d => ?_) (fun p' k' q' s hs a b c d e f => hq p' k' q' s hs a (by omega) (by omega) d e f) s' sk
       . rw [g0 hk, g0 hk]
         by_cases DJ : j = k
         . subst DJ
           rw [if_neg (show ¬ (j - (q + 1) <= j /\ j < j) by omega)]
           by_cases hi : j - (q + 1) <= i /\ i < j
           . rw [if_pos hi]; exact DK _ (by omega)
           . rw [if_neg hi]; exact DK _ vQ
         . by_cases hi : k - (q + 1) <= i /\ i < k
           . rw [if_pos hi, if_pos (show k - (q + 1) <= j /\ j < k by omega)]
             exact hl _ _ (by omega) (by omega) (by omega) (by omega)
           . rw [if_neg hi]
             by_cases IK : k - (q + 1) <= j /\ j < k
             . rw [if_pos IK]; exact hd _ _ (by omega) (by omega)
             . rw [if_neg IK]; exact hd _ _ vQ (by omega)
       . have : i = k := by omega
         have : j = k := by omega
         subst_vars
         exact w.V9 _
     . simp only [if_true, if_neg h0]
       refine wo f _ (k + 1) 0 hp (by omega) (by omega) (fun i j vQ hj => ?_) (fun i j a b c d => ?_) (fun p' k' q' s hs a b c d e f => hq p' k' q' s hs a (by omega) (by omega) d e f) s' sk
       . by_cases DJ : j = k
         . subst DJ; exact DK _ vQ
         . exact hd _ _ vQ (by omega)
       . have : i = k := by omega
         have : j = k := by omega
         subst_vars
         exact w.V9 _
   | false =>
     simp only [Bool.false_eq_true, if_false]
     refine ha _ _ _ _ (hp.low (by omega)) (hp.low (by omega)) sk fun s2 MC => ?_
     cases e2 : lt (p.getD (k - 1) 0) (p.getD k 0) with
     | true => simp only [if_true]; exact hq p k q s2 MC hp (Nat.le_refl _) (by omega) h1 hd hl
     | false =>
       simp only [Bool.false_eq_true, if_false]
       refine wo f _ (k + 1) (q + 1) hp (by omega) (by omega) (fun i j vQ hj => ?_) (fun i j a b c d => ?_) (fun p' k' q' s hs a b c d e f => hq p' k' q' s hs a (by omega) (by omega) d e f) s2 MC
       . by_cases DJ : j = k
         . subst DJ
           by_cases h : i = j - 1
           . rw [h]; exact e2
           . exact w.M0 _ _ _ (hd i (j - 1) (by omega) (by omega)) e2
         . exact hd _ _ vQ (by omega)
       . by_cases hi : i = k
         . by_cases hj : j = k
           . rw [hi, hj]; exact w.V9 _
           . rw [hi]; exact w.M0 _ _ _ e (hl _ _ (by omega) (by omega) (by omega) (by omega))
         . by_cases hj : j = k
           . rw [hj]; exact w.M0 _ _ _ (hl _ _ (by omega) (by omega) (by omega) (by omega)) e2
           . exact hl _ _ (by omega) (by omega) (by omega) (by omega)
theorem C0 {Q : Nat × Array Nat -> Shared -> Prop} {p : Array Nat} {k : Nat} (hp : Ix n p) (h1 : 1 <= k) (hk : k <= n) (hd : Down lt p k) (hq : ∀ m p' s, S s -> Ix n p' -> 1 <= m -> m <= n -> Up lt p' m -> Q (m, p') s) (s : Shared) (hs : S s) : (kas_tail3 k n p).kasWp cmp Q s := by
 unfold kas_tail3
 rw [KasT.kasWp_bind]
 have O2 : k <= p.size := by rw [hp.sz]; exact hk
 refine E6 w ha (yp hp 0 k) (n - k) k h1 (by omega) (fun i j vQ hj => ?_) (fun m s hs a b c _ => hq m _ s hs (yp hp _ _) (by omega) (by omega) c) s hs
 rw [g0 O2, g0 O2, if_pos (by omega), if_pos (by omega)]
 exact hd _ _ (by omega) (by omega)
theorem vm {Q : Nat × Array Nat -> Shared -> Prop} {p : Array Nat} {k : Nat} (hp : Ix n p) (h1 : 1 <= k) (hk : k + 1 <= n) (hd : Down lt p (k + 1)) (hq : ∀ m p' s, S s -> Ix n p' -> 1 <= m -> m <= n -> Up lt p' m -> Q (m, p') s) (s : Shared) (hs : S s) : (kas_descPart k n p).kasWp cmp Q s := by
 unfold kas_descPart
 rw [KasT.kasWp_bind]
 refine wo w ha _ p (k + 1) 0 hp (by omega) (by omega) hd (fun i j a b c d => ?_) (fun p' k' q' s hs HW a b c lM hl => ?_) s hs
 . have : i = k := by omega
   have : j = k := by omega
   subst_vars
   exact w.V9 _
 . by_cases h0 : q' > 0
   . simp only [if_pos h0]
     have O2 : k' <= p'.size := by rw [HW.sz]; omega
     refine C0 w ha (yp HW _ _) (by omega) (by omega) (fun i j vQ hj => ?_) hq s hs
     rw [g0 O2, g0 O2]
     by_cases hi : k' - (q' + 1) <= i /\ i < k'
     . rw [if_pos hi, if_pos (by omega)]; exact hl _ _ (by omega) (by omega) (by omega) (by omega)
     . rw [if_neg hi]
       by_cases IK : k' - (q' + 1) <= j /\ j < k'
       . rw [if_pos IK]; exact lM _ _ (by omega) (by omega)
       . rw [if_neg IK]; exact lM _ _ vQ (by omega)
   . simp only [if_neg h0]
     exact C0 w ha HW (by omega) (by omega) lM hq s hs
theorem Jy {Q : Nat × Array Nat -> Shared -> Prop} {p : Array Nat} (hn : 1 <= n) (hp : Ix n p) (hq : ∀ m p' s, S s -> Ix n p' -> 1 <= m -> m <= n -> Up lt p' m -> Q (m, p') s) (s : Shared) (hs : S s) : (kas_count n p).kasWp cmp Q s := by
 unfold kas_count
 rw [KasT.kasWp_bind]
 refine E6 w ha hp (n - 1) 1 (Nat.le_refl _) (by omega) (fun i j _ _ => by omega) (fun m s hs a b hu hc => ?_) s hs
 by_cases hm : (m == n) = true
 . simp only [if_pos hm]; exact hq m p s hs hp a (by have := beq_iff_eq.mp hm; omega) hu
 . simp only [if_neg hm]
   have Gn : m ≠ n := fun z => hm (beq_iff_eq.mpr z)
   have eI : m < n := by omega
   have kz : lt (p.getD m 0) (p.getD (m - 1) 0) = true := by
    rcases hc with hc | hc
    . omega
    . exact hc.2
   by_cases h1 : m > 1
   . simp only [if_pos h1]
     refine ha _ _ _ _ (hp.low (by omega)) (hp.low (by omega)) hs fun s2 MC => ?_
     cases e : lt (p.getD 0 0) (p.getD (m - 1) 0) with
     | true => simp only [if_true]; exact hq m p s2 MC hp a (by omega) hu
     | false =>
       simp only [Bool.false_eq_true, if_false]
       have hk : m <= p.size := by rw [hp.sz]; omega
       have al : ∀ i j, i < m -> j < m -> lt (p.getD i 0) (p.getD j 0) = false := fun i j hi hj => by
        have h1 : lt (p.getD i 0) (p.getD 0 0) = false := by
         by_cases h : i = 0
         . rw [h]; exact w.V9 _
         . exact hu 0 i (by omega) hi
        have h2 : lt (p.getD i 0) (p.getD (m - 1) 0) = false := w.M0 _ _ _ h1 e
        by_cases h : j = m - 1
        . rw [h]; exact h2
        . exact w.M0 _ _ _ h2 (hu j (m - 1) (by omega) (by omega))
       refine vm w ha (yp hp _ _) a (by omega) (fun i j vQ hj => ?_) hq s2 MC
       rw [g0 hk, g0 hk, if_pos (by omega)]
       by_cases hjm : j < m
       . rw [if_pos (by omega)]; exact al _ _ (by omega) (by omega)
       . rw [if_neg (by omega)]
         have : j = m := by omega
         subst this
         exact w.M0 _ _ _ (al _ (j - 1) (by omega) (by omega)) (w.Yk _ _ kz)
   . simp only [if_neg h1]
     refine vm w ha hp a (by omega) (fun i j vQ hj => ?_) hq s hs
     have h1 : m = 1 := by omega
     have hi : i = m - 1 := by omega
     have hj : j = m := by omega
     rw [hi, hj]
     exact w.Yk _ _ kz
theorem xr {p : Array Nat} {k : Nat} (hp : Ix n p) (hk : k < n) (hu : Up lt p k) {Q : Nat -> Shared -> Prop} : ∀ (f l r : Nat), l <= r -> r <= k -> r - l <= f -> (∀ i, i < l -> lt (p.getD k 0) (p.getD i 0) = false) -> (∀ i, r <= i -> i < k -> lt (p.getD k 0) (p.getD i 0) = true) ->
 (∀ l s, S s -> l <= k -> (∀ i, i < l -> lt (p.getD k 0) (p.getD i 0) = false) -> (∀ i, l <= i -> i < k -> lt (p.getD k 0) (p.getD i 0) = true) -> Q l s) -> ∀ s, S s -> (kas_place p k f l r).kasWp cmp Q s
 | 0, l, r, hlr, hr, hf, h1, h2, hq, s, hs => hq l s hs (by omega) h1 (fun i a b => h2 i (by omega) b)
 | f + 1, l, r, hlr, hr, hf, h1, h2, hq, s, hs => by
   unfold kas_place
   by_cases h : l ≥ r
   . rw [if_pos h]; exact hq l s hs (by omega) h1 (fun i a b => h2 i (by omega) b)
   . rw [if_neg h]
     refine ha _ _ _ _ (hp.low hk) (hp.low (by omega)) hs fun s' sk => ?_
     cases e : lt (p.getD k 0) (p.getD ((l + r) / 2) 0) with
     | true =>
       simp only [if_true]
       refine xr hp hk hu f l ((l + r) / 2) (by omega) (by omega) (by omega) h1 (fun i a b => ?_) hq s' sk
       by_cases hi : i = (l + r) / 2
       . rw [hi]; exact e
       . cases e3 : lt (p.getD k 0) (p.getD i 0) with
         | true => rfl
         | false => rw [w.M0 _ _ _ e3 (hu ((l + r) / 2) i (by omega) b)] at e; exact e
     | false =>
       simp only [Bool.false_eq_true, if_false]
       refine xr hp hk hu f ((l + r) / 2 + 1) r (by omega) (by omega) (by omega) (fun i a => ?_) h2 hq s' sk
       by_cases hi : i = (l + r) / 2
       . rw [hi]; exact e
       . exact w.M0 _ _ _ e (hu i ((l + r) / 2) (by omega) (by omega))
theorem MH {Q : Array Nat -> Shared -> Prop} : ∀ (f : Nat) (p : Array Nat) (k : Nat), Ix n p -> k + f = n -> Up lt p k -> (∀ p' s, S s -> Ix n p' -> Up lt p' n -> Q p' s) -> ∀ s, S s -> (kas_bin f p k).kasWp cmp Q s
 | 0, p, k, hp, hf, hu, hq, s, hs => by
   have : k = n := by omega
   subst this
   exact hq p s hs hp hu
 | f + 1, p, k, hp, hf, hu, hq, s, hs => by
   unfold kas_bin
   rw [KasT.kasWp_bind]
   refine xr w ha hp (by omega) hu k 0 k (by omega) (Nat.le_refl _) (by omega) (fun i h => by omega) (fun i a b => by omega) (fun l s hs hl h1 h2 => ?_) s hs
   have hk : k < p.size := by rw [hp.sz]; omega
   refine MH f _ (k + 1) (hp.perm (bubble_perm _ _ _)) (by omega) (fun i j vQ hj => ?_) hq s hs
   rw [CK hk (by omega), CK hk (by omega)]
   have el : k - (k - l) = l := by omega
   rw [el]
   by_cases Vt : j = l
   . rw [if_pos Vt, if_neg (by omega), if_neg (by omega)]; exact h1 i (by omega)
   . rw [if_neg Vt]
     by_cases K6 : i = l
     . rw [if_pos K6, if_pos (by omega)]; exact w.Yk _ _ (h2 _ (by omega) (by omega))
     . rw [if_neg K6]
       by_cases LI : l < i /\ i <= k
       . rw [if_pos LI, if_pos (by omega)]; exact hu _ _ (by omega) (by omega)
       . rw [if_neg LI]
         by_cases IK : l < j /\ j <= k
         . rw [if_pos IK]; exact hu _ _ (by omega) (by omega)
         . rw [if_neg IK]; exact hu _ _ vQ (by omega)
theorem Pg {Q : Array Nat -> Shared -> Prop} (hn : 1 <= n) (hq : ∀ p' s, S s -> Ix n p' -> Up lt p' n -> Q p' s) (s : Shared) (hs : S s) : (kas_sort n).kasWp cmp Q s := by
 unfold kas_sort
 rw [KasT.kasWp_bind]
 refine Jy w ha hn ⟨by simp, by simp⟩ (fun m p' s hs hp h1 hm hu => ?_) s hs
 by_cases h : m < n
 . simp only [if_pos h]
   have : max m 1 = m := by omega
   rw [this]
   exact MH w ha _ p' m hp (by omega) hu hq s hs
 . simp only [if_neg h]
   have : m = n := by omega
   subst this
   exact hq p' s hs hp hu
end
section
variable {X : Cx} {pins : List (Addr × Obj)} {σ : St} {H H' : Hp} {s : Shared} {a : Addr}
theorem Inv.P4 {f : Obj -> Obj} (I : Inv X pins σ H s) (fa : pK X pins H a) : Inv X pins σ H { s with heap := s.heap.update a f } :=
 I.turned (t' := s.toks) (fun b o hb e => by rw [Heap.get?_update_ne _ _ _ _ hb]; exact e) fa.1 fa.2.1 fa.2.2.2.1 fa.2.2.2.2.1 fa.2.2.2.2.2
theorem Inv.FJ {o : Obj} (I : Inv X pins σ H s) : Inv X pins σ H { s with heap := s.heap.push o } := I.kept (t' := s.toks) fun b u e => Heap.get?_push_of_some _ e
theorem Inv.Rc {acc : List V} {bb : List Value} {n : Nat} (I : Inv X pins σ H s) (fa : pK X pins H a) (BK : X.dM.heap.objs.size <= a) (hl : acc.length <= sizeLine) (r : Vals acc bb) (hd : s.heap.get? a = some { cls := .type "list", data := .seq bb.toArray n }) :
 Inv X pins σ (upd H a (.lst acc)) s := by
 have ne : ∀ b u, H b = some u -> b ≠ a := fun b u e => aG e fa.1
 have old : ∀ b o, X.dM.heap.get? b = some o -> b ≠ a := fun b o e => Nat.ne_of_lt (Nat.lt_of_lt_of_le (Heap.lt_size e) BK)
 have U := I.base
 refine ⟨I.ok, I.os, I.bare, ⟨U.keep, U.slot, fun b o e n hx => ?_, U.there, fun b xs e => ?_, fun b o u e => ?_, fun b ps e => ?_⟩, I.loc, I.cell, ?_, fun x c e => ?_, fun p hp => ?_, fun b u e => ?_, I.len⟩
 . rw [aw (old b o e)]; exact U.free b o e n hx
 . rw [aw (ne b _ (U.lS b xs e))]; exact U.lS b xs e
 . rw [aw (ne b _ (U.j7 b o u e))]; exact U.j7 b o u e
 . obtain ⟨more, q⟩ := U.pM b ps e
   exact ⟨more, by rw [aw (ne b _ q)]; exact q⟩
 . rw [aw (Ne.symm fa.2.1)]; exact I.free
 . rw [aw (fa.2.2.2.2.1 x c e)]; exact I.eG x c e
 . obtain ⟨e1, e2, e3⟩ := I.pin p hp
   exact ⟨e1, by rw [aw (fa.2.2.2.2.2 p hp)]; exact e2, e3⟩
 . by_cases hb : b = a
   . subst hb
     rw [au] at e
     cases e
     exact ⟨hl, bb, n, r, hd⟩
   . rw [aw hb] at e
     exact (I.aP b u e).iF (fun c v _ q => q) (fun c q => by rw [aw (ne c _ q)]; exact q) fun c xs q => by rw [aw (ne c _ q)]; exact q
end
def DF (a b : Str) : Bool := decide (a.cps.toList < b.cps.toList)
def aS (a b : Int × Str) : Bool := decide (a.1 < b.1) || (decide (a.1 = b.1) && DF a.2 b.2)
theorem OT (a : Str) : DF a a = false := decide_eq_false (List.lt_irrefl _)
theorem M9 {a b : Str} (h : DF a b = true) : DF b a = false := decide_eq_false (List.lt_asymm (of_decide_eq_true h))
theorem P1 {a b c : Str} (h : DF a b = false) (h2 : DF b c = false) : DF a c = false := by
 unfold DF at *
 have Tg : b.cps.toList <= a.cps.toList := List.not_lt.mp (of_decide_eq_false h)
 have TF : c.cps.toList <= b.cps.toList := List.not_lt.mp (of_decide_eq_false h2)
 exact decide_eq_false (List.not_lt.mpr (List.le_trans TF Tg))
theorem NY {a b : Str} (h : a.cps.toList = b.cps.toList) : a = b := by
 cases a; cases b
 simp only at h
 rw [Array.toList_inj.mp h]
theorem Ox {a b : Str} (h : DF a b = false) (h2 : DF b a = false) : a = b := by
 unfold DF at *
 have Tg : b.cps.toList <= a.cps.toList := List.not_lt.mp (of_decide_eq_false h)
 have TF : a.cps.toList <= b.cps.toList := List.not_lt.mp (of_decide_eq_false h2)
 exact NY (List.le_antisymm TF Tg)
theorem CH {a b : Int × Str} : aS a b = true ↔ a.1 < b.1 \/ (a.1 = b.1 /\ DF a.2 b.2 = true) := by
 unfold aS; simp
theorem fw {a b : Int × Str} : aS a b = false ↔ ¬ a.1 < b.1 /\ (a.1 = b.1 -> DF a.2 b.2 = false) := by
 unfold aS; simp
theorem fM (a : Int × Str) : aS a a = false := fw.mpr ⟨by omega, fun _ => OT _⟩
theorem x8 {a b : Int × Str} (h : aS a b = true) : aS b a = false := by
 rcases CH.mp h with h | ⟨h, h2⟩
 . exact fw.mpr ⟨by omega, fun _ => by omega⟩
 . exact fw.mpr ⟨by omega, fun _ => M9 h2⟩
theorem wK {a b c : Int × Str} (h : aS a b = false) (h2 : aS b c = false) : aS a c = false := by
 obtain ⟨h1, h3⟩ := fw.mp h
 obtain ⟨h4, h5⟩ := fw.mp h2
 refine fw.mpr ⟨by omega, fun e => ?_⟩
 exact P1 (h3 (by omega)) (h5 (by omega))
theorem x9 {a b : Int × Str} (h : aS a b = false) (h2 : aS b a = false) : a = b := by
 obtain ⟨h1, h3⟩ := fw.mp h
 obtain ⟨h4, h5⟩ := fw.mp h2
 have e : a.1 = b.1 := by omega
 exact Prod.ext e (Ox (h3 e) (h5 e.symm))
section
variable {prog : Program} {w : World} {A : Around} {E : Value -> Shared -> Prop} {s : Shared}
theorem M8 {x y : Addr} {i j : Int} {t u t2 u2 : Tok} {c d : Str} {Q : Bool -> Shared -> Prop} (hx : IsTup s.heap x #[.int i t, .str c t2]) (hy : IsTup s.heap y #[.int j u, .str d u2]) (h : Q (aS (i, c) (j, d)) s) :
 wpAny (model prog w) A (keyLt' (tuples' true) (.ref x) (.ref y)) Q E s := by
 obtain ⟨ox, hox, cx, nx, dx⟩ := hx
 obtain ⟨oy, hoy, cy, ny, dy⟩ := hy
 refine kat_lt hox dx hoy dy ?_
 refine kat_cons (wpAny_eqBool_int ?_)
 by_cases e : i = j
 . rw [show (i == j) = true from beq_iff_eq.mpr e]
   refine kat_yes (kat_cons (wpAny_eqBool_str ?_))
   by_cases e2 : c = d
   . rw [decide_eq_true e2]
     refine kat_yes (kat_nil ?_)
     have : aS (i, c) (j, d) = false := by rw [e, e2]; exact fM _
     rw [this] at h
     exact h
   . rw [decide_eq_false e2]
     refine kat_no (kat_one _ _ (lt_str ?_))
     have : aS (i, c) (j, d) = DF c d := by unfold aS; simp [e]
     rw [this] at h
     exact h
 . rw [show (i == j) = false from beq_eq_false_iff_ne.mpr e]
   refine kat_no (oneLt_int ?_)
   have : aS (i, c) (j, d) = decide (i < j) := by unfold aS; simp [e]
   rw [this] at h
   exact h
end
def FQ {α : Type} (lt : α -> α -> Bool) (kf : V -> α) (ys xs : List V) : Prop := ys.Perm xs /\ ys.Pairwise fun x y => lt (kf y) (kf x) = false
section
variable {X : Cx} {pins : List (Addr × Obj)} {σ : St} {H : Hp} {s : Shared} {k : Nat} {f : Addr} {fd : FuncData} {ps : List Str} {sp : Sp} {kf : V -> Int × Str} {A : Around}
structure aeq (X : Cx) (pins : List (Addr × Obj)) (σ : St) (H : Hp) (kf : V -> Int × Str) (a kS : Addr) (oa : Obj) (xs : List V) (s' : Shared) : Prop where
 mk ::
 ex : ∃ H' us e ys, Inv X pins σ H' s' /\ az H H' /\ H' a = none /\ H' kS = none /\ s'.heap.get? a = some oa /\ s'.heap.get? kS = some (seqObj "list" (List.toArray us) e) /\ Vals ys us /\ cB H' ys (xs.map fun v => .tuple [.int (kf v).1, .str (kf v).2])
theorem LJ {xs : List V} {p : Array Nat} {α : Type} {lt : α -> α -> Bool} {kf : V -> α} (hp : Ix xs.length p) (hu : Up (fun i j => lt (kf (xs.getD i .bG)) (kf (xs.getD j .bG))) p xs.length) : FQ lt kf (p.toList.map fun i => xs.getD i .bG) xs := by
 refine ⟨?_, ?_⟩
 . have h := hp.pm.map fun i => xs.getD i .bG
   have e : (List.range xs.length).map (fun i => xs.getD i .bG) = xs := by
    refine List.ext_getElem? fun i => ?_
    rw [List.getElem?_map]
    by_cases hi : i < xs.length
    . rw [List.getElem?_range hi]; simp [hi]
    . rw [List.getElem?_eq_none (by simpa using hi), List.getElem?_eq_none (by simpa using hi)]; rfl
   rw [e] at h
   exact h
 . rw [List.pairwise_map, List.pairwise_iff_getElem]
   intro i j hi hj vQ
   have hsz : p.toList.length = xs.length := by simp [hp.sz]
   have := hu i j vQ (by omega)
   have gi : p.getD i 0 = p.toList[i] := by simp [Array.getD, show i < p.size by rw [hp.sz]; omega]
   have gj : p.getD j 0 = p.toList[j] := by simp [Array.getD, show j < p.size by rw [hp.sz]; omega]
   rw [gi, gj] at this
   exact this
theorem uX : ∀ {xs : List V} {us : List Value} (i : Nat), Vals xs us -> RelV (xs.getD i .bG) (us.getD i Value.none)
 | _, _, _, .nil => rfl
 | _, _, 0, .cons r _ => r
 | _, _, i + 1, .cons _ t => by simpa using uX i t
theorem zZ {xs : List V} {us : List Value} (r : Vals xs us) : ∀ l : List Nat, Vals (l.map fun i => xs.getD i .bG) (l.map fun i => us.getD i Value.none)
 | [] => .nil
 | i :: l => .cons (uX i r) (zZ r l)
theorem B2 {H : Hp} {g : V -> PyData} : ∀ {ys : List V} {xs : List V} {i : Nat}, cB H ys (xs.map g) -> i < xs.length -> Dv H (ys.getD i .bG) (g (xs.getD i .bG))
 | _, [], _, _, h => by simp at h
 | _, _ :: _, 0, .cons h _, _ => h
 | _, _ :: _, i + 1, .cons _ t, hi => by simpa using B2 (i := i) t (by simpa using hi)
def Ob (X : Cx) (pins : List (Addr × Obj)) (σ : St) (H : Hp) {α : Type} (lt : α -> α -> Bool) (kf : V -> α) (xs : List V) (Q : VK) : Prop :=
 ∀ a ys H', az H H' -> H a = none -> H' a = none -> FQ lt kf ys xs -> Q (.ref a) (upd H' a (.lst ys))
theorem HD {H' : Hp} {s' : Shared} {xs ys : List V} {us : List Value} {A : Around} (I : Inv X pins σ H' s') (rv : Vals ys us) (dv : cB H' ys (xs.map fun v => .tuple [.int (kf v).1, .str (kf v).2])) :
 X0 xs.length (fun i j => aS (kf (xs.getD i .bG)) (kf (xs.getD j .bG))) (fun z => z = s') (kas_ask X.prog X.w A (tuples' true) us) := by
 intro i j C z hi hj hz hC
 subst hz
 have one : ∀ i, i < xs.length -> ∃ x t t2, us.getD i Value.none = .ref x /\ IsTup z.heap x #[.int (kf (xs.getD i .bG)).1 t, .str (kf (xs.getD i .bG)).2 t2] := fun i hi => by
  have d := B2 dv hi
  have r := uX i rv
  generalize ys.getD i .bG = y at d r
  generalize us.getD i Value.none = u at r
  cases d with
  | tup h q =>
    have r' : u = .ref _ := r
    obtain ⟨bb, rr, tt, _⟩ := I.tuple (.of h)
    cases q with
    | cons h1 q =>
      cases q with
      | cons h2 q =>
        cases q
        cases h1; cases h2
        cases rr with
        | cons r1 rr =>
          cases rr with
          | cons r2 rr =>
            cases rr
            obtain ⟨t1, rfl⟩ := r1
            obtain ⟨t2, rfl⟩ := r2
            exact ⟨_, t1, t2, r', tt⟩
 obtain ⟨x, t, t2, e1, hx⟩ := one i hi
 obtain ⟨y, u, u2, e2, hy⟩ := one j hj
 show wpAny (model X.prog X.w) A (keyLt' (tuples' true) (us.getD i Value.none) (us.getD j Value.none)) C (fun _ _ => False) z
 rw [e1, e2]
 exact M8 hx hy (hC _ rfl)
theorem yD {H' : Hp} {s' : Shared} : ∀ {xs ys : List V} {us : List Value}, Inv X pins σ H' s' -> Vals ys us -> cB H' ys (xs.map fun v => .tuple [.int (kf v).1, .str (kf v).2]) ->
 ∃ fs, KatTups s'.heap us fs /\ fs.length = us.length /\ ∀ v ∈ fs, Looks (model X.prog X.w) s'.heap (typeOf v) (.type "int")
 | [], _, _, I, rv, dv => by
   cases dv
   cases rv
   exact ⟨[], trivial, rfl, fun _ z => nomatch z⟩
 | x :: xs, _, _, I, rv, dv => by
   cases dv with
   | cons d dv =>
     cases rv with
     | cons r rv =>
       obtain ⟨fs, h1, h2, h3⟩ := yD I rv dv
       cases d with
       | tup h q =>
         obtain ⟨bb, rr, tt, _⟩ := I.tuple (.of h)
         cases q with
         | cons q1 q =>
           cases q with
           | cons q2 q =>
             cases q
             cases q1; cases q2
             cases rr with
             | cons r1 rr =>
               cases rr with
               | cons r2 rr =>
                 cases rr
                 obtain ⟨t1, rfl⟩ := r1
                 obtain ⟨t2, rfl⟩ := r2
                 cases r
                 obtain ⟨o, ho, hc, n, hd⟩ := tt
                 refine ⟨_ :: fs, KatTups.cons ho hc hd rfl h1, by simp [h2], fun v hv => ?_⟩
                 rcases List.mem_cons.mp hv with rfl | hv
                 . exact .now
                 . exact h3 v hv
end
section
variable {X : Cx} {pins : List (Addr × Obj)} {σ : St} {H : Hp} {s : Shared} {k : Nat} {f : Addr} {fd : FuncData} {ps : List Str} {sp : Sp} {kf : V -> Int × Str} {A : Around}
end
section
variable {X : Cx} {k : Nat} {f : Addr} {ps : List Str} {sp : Sp} {e : Expr} {t : TA} {x : Str} {p p2 pos aaL : Pos}
end
end L2
namespace L2
open PySem PySem.Spec PyProof.Rows
theorem yx {scope : Scope} {env : Env} (h : ∀ x ∈ scope.names, x.2 = .free -> ∃ c, env.cells.lookup x.1 = some c) :
 ∃ cl, closureFor scope env = pure cl /\ (∀ x c, cl.lookup x = some c -> env.cells.lookup x = some c) /\ ∀ x ∈ scope.names, x.2 = .free -> ∃ c, cl.lookup x.1 = some c := by
 have key : ∀ (l : List (Str × NameKind)) (acc : List (Str × Addr)), (∀ x ∈ l, x.2 = .free -> ∃ c, env.cells.lookup x.1 = some c) -> (∀ x c, acc.lookup x = some c -> env.cells.lookup x = some c) ->
  ∃ cl, (forIn l acc (fun (x : Str × NameKind) (r : List (Str × Addr)) => (match x with
    | (name, kind) => if (kind == NameKind.free) = true then (do let c <- cellOf env name; pure (ForInStep.yield ((name, c) :: r))) else pure (ForInStep.yield r) : Sem (ForInStep (List (Str × Addr))))) : Sem _) = pure cl /\
    (∀ x c, cl.lookup x = some c -> env.cells.lookup x = some c) /\ (∀ x ∈ l, x.2 = .free -> ∃ c, cl.lookup x.1 = some c) /\ ∀ x, (∃ c, acc.lookup x = some c) -> ∃ c, cl.lookup x = some c := by
  intro l
  induction l with
  | nil => intro acc _ ha; exact ⟨acc, rfl, ha, fun _ z => (nomatch z), fun _ z => z⟩
  | cons p r ih =>
    intro acc hl ha
    obtain ⟨n, k⟩ := p
    rw [List.forIn_cons]
    by_cases hk : k = .free
    . subst hk
      obtain ⟨c, hc⟩ := hl (n, .free) List.mem_cons_self rfl
      have zJ : cellOf env n = pure c := by unfold cellOf; rw [hc]
      obtain ⟨cl, e, h1, h2, h3⟩ := ih ((n, c) :: acc) (fun x hx => hl x (List.mem_cons_of_mem _ hx)) (fun x d hd => by
       rw [List.lookup_cons] at hd
       by_cases hx : x = n
       . subst hx; rw [beq_self_eq_true] at hd; cases hd; exact hc
       . rw [beq_eq_false_iff_ne.mpr hx] at hd; exact ha x d hd)
      refine ⟨cl, ?_, h1, fun x hx hf => ?_, fun x ⟨d, hd⟩ => h3 x ?_⟩
      . simp only [beq_self_eq_true, if_true, zJ]
        exact e
      . rcases List.mem_cons.mp hx with rfl | hx
        . exact h3 n ⟨c, by rw [List.lookup_cons, beq_self_eq_true]⟩
        . exact h2 x hx hf
      . rw [List.lookup_cons]
        by_cases hx : x = n
        . subst hx; rw [beq_self_eq_true]; exact ⟨c, rfl⟩
        . rw [beq_eq_false_iff_ne.mpr hx]; exact ⟨d, hd⟩
    . obtain ⟨cl, e, h1, h2, h3⟩ := ih acc (fun x hx => hl x (List.mem_cons_of_mem _ hx)) ha
      refine ⟨cl, ?_, h1, fun x hx hf => ?_, h3⟩
      . have : (k == NameKind.free) = false := by simpa using hk
        simp only [this, Bool.false_eq_true, if_false]
        exact e
      . rcases List.mem_cons.mp hx with rfl | hx
        . exact absurd hf hk
        . exact h2 x hx hf
 obtain ⟨cl, e, h1, h2, _⟩ := key scope.names [] h (fun _ _ z => by simp at z)
 refine ⟨cl, ?_, h1, h2⟩
 unfold closureFor
 show (forIn scope.names [] _ >>= fun cs => pure cs) = _
 refine Eq.trans (congrArg (· >>= _) e) rfl
theorem lZ {env : Env} {scope : Scope} {x : Str} : (relabel scope env).names.lookup x = (scope.names.lookup x).map fun k => if (k == NameKind.free && env.scope.kind == .function && env.kindOf x == some .cell) = true then .cell else k := by
 unfold relabel
 show List.lookup x (List.map _ scope.names) = _
 generalize scope.names = l
 induction l with
 | nil => rfl
 | cons p r ih =>
   obtain ⟨n, k⟩ := p
   rw [List.map_cons]
   dsimp only
   by_cases hx : x = n
   . subst hx
     by_cases hc : (k == NameKind.free && env.scope.kind == .function && env.kindOf x == some .cell) = true
     . rw [if_pos hc, List.lookup_cons, List.lookup_cons, beq_self_eq_true]; simp only [Option.map_some, if_pos hc]
     . rw [if_neg hc, List.lookup_cons, List.lookup_cons, beq_self_eq_true]; simp only [Option.map_some, if_neg hc]
   . have hb : (x == n) = false := beq_eq_false_iff_ne.mpr hx
     by_cases hc : (k == NameKind.free && env.scope.kind == .function && env.kindOf n == some .cell) = true
     . rw [if_pos hc, List.lookup_cons, List.lookup_cons, hb]; exact ih
     . rw [if_neg hc, List.lookup_cons, List.lookup_cons, hb]; exact ih
theorem mem_lookup {α : Type} {x : Str} {k : α} : ∀ {l : List (Str × α)}, l.lookup x = some k -> (x, k) ∈ l
 | [], h => by simp at h
 | (n, j) :: r, h => by
   rw [List.lookup_cons] at h
   by_cases hx : x = n
   . subst hx; rw [beq_self_eq_true] at h; cases h; exact List.mem_cons_self
   . rw [beq_eq_false_iff_ne.mpr hx] at h; exact List.mem_cons_of_mem _ (mem_lookup h)
def ju (X : Cx) (N : List Str) (scope : Scope) (cl : List (Str × Addr)) (C : Addr) (s : Shared) (H : Hp) (fp : List Addr) : Cx :=
 { X with N := N, dM := s, EX := H, env := compEnvC scope cl C X.env, outer := X.stack, stack := X.stack, ex := fp, fn := fun _ => false, pn := [], xe := fun _ _ => False }
structure qk (X : Cx) (T M : List Str) (scope : Scope) : Prop where
 kind : scope.kind = .function
 cell : ∀ y ∈ scope.names, y.2 ≠ .cell
 names : ∀ y ∈ scope.names, y.2 = .local -> scope.names.lookup y.1 = some .local
 free : ∀ y ∈ scope.names, y.2 = .free -> X.env.scope.names.lookup y.1 = some .cell \/ X.env.scope.names.lookup y.1 = some .free
 len : M.length = X.N.length
 old : ∀ (i : Nat) x, M[i]? = some x -> X.N[i]? = some x /\ scope.names.lookup x = some .free \/ scope.names.lookup x = none
section
variable {X : Cx} {pins : List (Addr × Obj)} {σ : St} {H : Hp} {s : Shared} {T M : List Str} {scope : Scope} {cl : List (Str × Addr)} {fp : List Addr}
theorem Wt {C : Addr} (I : Inv X pins σ H s) (hN : qk X T M scope) (h1 : ∀ x c, cl.lookup x = some c -> X.env.cells.lookup x = some c) (h2 : ∀ x ∈ scope.names, x.2 = .free -> ∃ c, cl.lookup x.1 = some c)
 (hC : s.heap.objs.size <= C) (hf : ∀ b ∈ fp, pK X pins H b) (Vy : ∀ b ∈ fp, b < s.heap.objs.size) : (ju X (T ++ M) scope cl C s H fp).Ok where
 mod := I.ok.mod
 kind := hN.kind
 glob := I.ok.glob
 blt := I.ok.blt
 above := hC
 inj := fun x y c e1 e2 => I.ok.inj x y c (h1 x c e1) (h1 y c e2)
 has := fun x hx => by
  have vK : (relabel scope X.env).names.lookup x = some .cell \/ (relabel scope X.env).names.lookup x = some .free := hx
  rw [lZ] at vK
  cases e : scope.names.lookup x with
  | none => rw [e] at vK; simp at vK
  | some k =>
    have hm := mem_lookup e
    have hk : k = .free := by
     rw [e] at vK
     simp only [Option.map_some, Option.some.injEq] at vK
     by_cases hf : k = .free
     . exact hf
     . have : (k == NameKind.free) = false := by simpa using hf
       simp only [this, Bool.false_and, Bool.false_eq_true, if_false] at vK
       rcases vK with vK | vK
       . exact absurd vK (hN.cell _ hm)
       . exact vK
    exact h2 (x, k) hm hk
 Ov := fun _ _ z => by cases z
 hd := I.ok.hd
 frames := I.ok.frames
 Q7 := .inl rfl
 QP := fun b hb => ⟨Nat.ne_of_lt (Nat.lt_of_lt_of_le (Vy b hb) hC), fun x c e => (hf b hb).2.2.2.2.1 x c (h1 x c e)⟩
 bs := I.bs
 FZ := Nat.le_trans I.ok.FZ I.sz
 BG := fun b o e hb => by
  rcases (hf b hb).2.2.2.1 with z | z
  . exact I.ok.BG b o e z
  . exact absurd (Nat.lt_of_lt_of_le (Heap.lt_size e) (Nat.le_trans I.ok.FZ z)) (Nat.lt_irrefl _)
 Bh := fun b hb z => by
  rcases List.mem_cons.mp (I.A9 b z) with e | e
  . exact (hf b hb).2.1 e
  . exact (hf b hb).2.2.1 e
 qq := I.stack
 Jc := I.wy
theorem KO {C : Addr} {h₁ : Heap} {tk : Nat} (I : Inv X pins σ H s) (hN : qk X T M scope) (h1 : ∀ x c, cl.lookup x = some c -> X.env.cells.lookup x = some c) (h2 : ∀ x ∈ scope.names, x.2 = .free -> ∃ c, cl.lookup x.1 = some c)
 (hC : s.heap.objs.size <= C) (hf : ∀ b ∈ fp, pK X pins H b) (Vy : ∀ b ∈ fp, b < s.heap.objs.size)
 {m : Str -> Option Value} (hn : h₁.Ns C m) (old : ∀ b o, s.heap.get? b = some o -> h₁.get? b = some o) :
 Inv (ju X (T ++ M) scope cl C s H fp) [] (List.replicate T.length none ++ σ) H { s with heap := h₁, toks := tk } where
 ok := Wt I hN h1 h2 hC hf Vy
 os := rfl
 bare := I.bare
 base := Un.kept old
 loc := by
  refine ⟨m, hn, fun i x v e1 e2 e3 => ?_⟩
  have VF : (T ++ M)[i]? = some x := e1
  by_cases hi : i < T.length
  . rw [List.getElem?_append_left (by simpa using hi), List.getElem?_replicate, if_pos hi] at e2
    cases e2
  . have Fy : T.length <= i := Nat.le_of_not_lt hi
    rw [List.getElem?_append_right Fy] at VF
    rw [List.getElem?_append_right (by simpa using Fy), List.length_replicate] at e2
    have xi : Vg (relabel scope X.env) x := e3
    rcases hN.old _ x VF with ⟨hx, zg⟩ | jt
    . obtain ⟨m0, BK, IU⟩ := I.loc
      have hk := hN.free _ (mem_lookup zg) rfl
      have O2 : X.env.scope.names.lookup x = some .cell \/ X.env.scope.names.lookup x = some .free := hk
      obtain ⟨u, r, l⟩ := IU _ x v hx e2 (.inr O2)
      refine ⟨u, r, .inr ?_⟩
      rcases l with ⟨z, _⟩ | ⟨_, c, hc, zJ⟩
      . have z' : X.env.scope.names.lookup x = some .local := z
        rw [z'] at O2; rcases O2 with q | q <;> cases q
      . obtain ⟨c', kz⟩ := h2 _ (mem_lookup zg) rfl
        have : c' = c := by have := h1 _ _ kz; rw [hc] at this; exact (Option.some.inj this).symm
        subst this
        refine ⟨?_, c', kz, ?_⟩
        . show (relabel scope X.env).names.lookup x = some .cell \/ (relabel scope X.env).names.lookup x = some .free
          rw [lZ, zg]
          simp only [Option.map_some, Option.some.injEq]
          by_cases hc : (NameKind.free == NameKind.free && X.env.scope.kind == .function && X.env.kindOf x == some .cell) = true
          . left; rw [if_pos hc]
          . right; rw [if_neg hc]
        . obtain ⟨o, ho, hd⟩ := zJ
          exact ⟨o, old _ _ ho, hd⟩
    . unfold Vg at xi
      rw [lZ, jt] at xi
      simp at xi
 cell := fun x c e => by
  obtain ⟨v, o, ho, hd⟩ := I.cell x c (h1 x c e)
  exact ⟨v, o, old _ _ ho, hd⟩
 free := I.aP.fresh hC
 eG := fun x c e => I.eG x c (h1 x c e)
 pin := fun p hp => nomatch hp
 aP := I.aP.kept old
 len := by
  show (List.replicate T.length none ++ σ).length = (T ++ M).length
  rw [List.length_append, List.length_append, List.length_replicate, hN.len, I.len]
theorem Nz {C D : Addr} {s' : Shared} {σ' : St} {H' : Hp} {acc : List V} {bb : List Value} {n : Nat} (I : Inv X pins σ H s) (I' : Inv (ju X (T ++ M) scope cl C s H fp) [] σ' H' s')
 (hf : ∀ b ∈ fp, pK X pins H b) (hD : s.heap.objs.size <= D) (hn : H' D = none) (hl : acc.length <= sizeLine) (r : Vals acc bb) (hd : s'.heap.get? D = some { cls := .type "list", data := .seq bb.toArray n }) :
 Inv X pins σ (upd H' D (.lst acc)) s' := by
 have U : Un (yE X.stack) fp H H' s.heap s'.heap := I'.base
 have neD : ∀ b o, s.heap.get? b = some o -> b ≠ D := fun b o e => Nat.ne_of_lt (Nat.lt_of_lt_of_le (Heap.lt_size e) hD)
 have neT : ∀ b u, H' b = some u -> b ≠ D := fun b u e => aG e hn
 refine I.JE (ch := fp) I'.os ⟨U.keep, U.slot, fun b o e1 e2 e3 => ?_, U.there, fun b xs e => ?_, fun b o u e => ?_, fun b ps e => ?_⟩ (fun b u e => ?_) I'.bare (fun b hb => ⟨(hf b hb).2.2.2.1, (hf b hb).2.1, (hf b hb).2.2.2.2.1, (hf b hb).2.2.2.2.2⟩)
 . rw [aw (neD b o e1)]; exact U.free b o e1 e2 e3
 . rw [aw (neT b _ (U.lS b xs e))]; exact U.lS b xs e
 . rw [aw (neT b _ (U.j7 b o u e))]; exact U.j7 b o u e
 . obtain ⟨more, q⟩ := U.pM b ps e
   exact ⟨more, by rw [aw (neT b _ q)]; exact q⟩
 . by_cases hb : b = D
   . subst hb
     rw [au] at e
     cases e
     exact ⟨hl, bb, n, r, hd⟩
   . rw [aw hb] at e
     exact (I'.aP b u e).iF (fun c v _ q => q) (fun c q => by rw [aw (neT c _ q)]; exact q) fun c xs q => by rw [aw (neT c _ q)]; exact q
end
theorem Ea {prog : Program} {w : World} {A : Around} {R : Result -> Shared -> Prop} {s : Shared} {elt target iter : Expr} {ifs : List Expr} {scope : Scope} {pos : Pos} {it acc : Value} {env : Env} (I : Nat -> Shared -> Prop)
 (turn : ∀ n s, I n s -> wpAny (model prog w) A (pyNext it) (fun r s₁ => match r with
  | none => R (.ok .next) s₁
  | some v => wpAny (model prog w) A (letOwnedTupleGo target it v) (fun _ QD => wpAny (model prog w) A (assign target env v) (fun _ s₂ =>
   wpAny (model prog w) A (forIn ifs true fun c r => if r = true then do let ok <- isTrue c env (eval c env); pure (ForInStep.yield ok) else pure (ForInStep.yield r)) (fun ok s₃ =>
    if ok = true then wpAny (model prog w) A (eval elt env) (fun x s₄ =>
     wpAny (model prog w) A (call (.builtin "list.append") [acc, x]) (fun _ s₅ => ∃ m, m < n /\ I m s₅) (fun _ _ => False) s₄) (fun _ _ => False) s₃
    else ∃ m, m < n /\ I m s₃) (fun _ _ => False) s₂) (fun _ _ => False) QD) (fun _ _ => False) s₁) (fun _ _ => False) s)
 (n : Nat) (h : I n s) :
 codeAny (model prog w) A (.compLoop (.ListComp elt [⟨target, iter, ifs, 0⟩] scope pos) 0 it acc env) R s := by
 refine codeAny_loop rfl I (fun n s hI => ?_) n h
 show wpAny _ A ((compTurn (.ListComp elt [⟨target, iter, ifs, 0⟩] scope pos) 0 it acc env).onRaise (fun x => do noteFrame x env; theTreesLotGoes x)) _ _ s
 refine wpAny_noted ?_
 rw [compTurn_list]
 refine wpAny_bind (wpAny_standAt (wpAny_bind (wpAny_mono (turn n s hI) (fun r s₁ h₁ => ?_) fun _ _ h' => h'.elim)))
 cases r with
 | none => exact wpAny_pure h₁
 | some v =>
   refine wpAny_bind (wpAny_mono h₁ (fun _ QD X6 => ?_) fun _ _ h' => h'.elim)
   refine wpAny_bind (wpAny_mono X6 (fun _ s₂ h₂ => wpAny_bind (wpAny_mono h₂ (fun ok s₃ h₃ => ?_) fun _ _ h' => h'.elim)) fun _ _ h' => h'.elim)
   cases ok with
   | false => exact wpAny_pure ⟨rfl, h₃⟩
   | true =>
     exact wpAny_bind (wpAny_bind (wpAny_mono h₃ (fun x s₄ h₄ => wpAny_bind (wpAny_mono h₄ (fun _ s₅ h₅ => wpAny_pure (wpAny_pure ⟨rfl, h₅⟩)) fun _ _ h' => h'.elim)) fun _ _ h' => h'.elim))
def XO (X : Cx) (ifs : List Expr) (t : TT) : Prop :=
 ∀ (pins : List (Addr × Obj)) (s : Shared) (σ : St) (H : Hp) (Q : Bool -> Hp -> Prop), Inv X pins σ H s -> t σ H Q ->
   wpAny (model X.prog X.w) X.A (forIn ifs true fun c r => if r = true then do let ok <- isTrue c X.env (eval c X.env); pure (ForInStep.yield ok) else pure (ForInStep.yield r)) (TP X pins σ Q) X.xe s
def abv : TT := fun _ H Q => Q true H
theorem tm {X : Cx} : XO X [] abv := fun _ _ _ H _ I h => wpAny_tests_nil ⟨H, I, h⟩
theorem Pm {X : Cx} {c : Expr} {t : TT} (h : PT X c t) : XO X [c] t := fun pins s σ H Q I q => wpAny_tests_one (h pins s σ H Q I q)
def UO (k : Nat) (g : TG) (tc : TT) (te : TE) (Fin : List V -> Hp -> Prop) (σ : St) (J : It) (H1 : Hp) : Prop :=
 ∃ W : Nat -> Nat -> List V -> Hp -> Prop, (∃ m, W 0 m [] H1) /\ ∀ i m acc H, W i m acc H ->
   (J.stop i H /\ Fin acc H) \/ (J.go i H /\ acc.length < sizeLine /\ ∀ x H', J.Qy i H x H' -> g x (List.replicate k none ++ σ) H' fun σ2 H2 => tc σ2 H2 fun b H3 =>
    if b = true then te σ2 H3 fun y H4 => ∃ m', m' < m /\ W (i + 1) m' (acc ++ [y]) H4 else ∃ m', m' < m /\ W (i + 1) m' acc H3)
section
variable {X : Cx} {pins : List (Addr × Obj)} {σ : St} {H : Hp} {s : Shared} {T M : List Str} {scope : Scope} {cl : List (Str × Addr)} {fp : List Addr} {g : TG} {tc : TT} {te : TE} {tg elt iter : Expr} {ifs : List Expr} {pos : Pos}
theorem Inv.forget {X : Cx} {pins : List (Addr × Obj)} {σ σ' : St} {H : Hp} {s : Shared} (I : Inv X pins σ' H s) (k : Nat) (hk : k + σ.length = σ'.length) (h : σ'.drop k = σ) : Inv X pins (List.replicate k none ++ σ) H s := by
 refine I.weak (by simp [hk]) (fun i v e => ?_)
 by_cases hi : i < k
 . rw [List.getElem?_append_left (by simpa using hi), List.getElem?_replicate, if_pos hi] at e; cases e
 . rw [List.getElem?_append_right (by simpa using hi), List.length_replicate, <- h, List.getElem?_drop] at e
   have : k + (i - k) = i := by omega
   rw [this] at e; exact e
theorem LU {it : Addr} {tn : Nat -> Heap -> Prop} {J : It} {RR : Value -> Addr -> Result -> Shared -> Prop} {Fin : List V -> Hp -> Prop} {E : Value -> Shared -> Prop}
 (hN : qk X T M scope) (zi : X.calm = true) (h1 : ∀ x c, cl.lookup x = some c -> X.env.cells.lookup x = some c) (h2 : ∀ x ∈ scope.names, x.2 = .free -> ∃ c, cl.lookup x.1 = some c)
 (hg : ∀ cl C s H fp, PG (ju X (T ++ M) scope cl C s H fp) tg g) (hgk : ∀ v H Q, g v (List.replicate T.length none ++ σ) H Q -> g v (List.replicate T.length none ++ σ) H fun σ2 H2 => Q σ2 H2 /\ T.length + σ.length = σ2.length /\ σ2.drop T.length = σ)
 (hc : ∀ cl C s H fp, XO (ju X (T ++ M) scope cl C s H fp) ifs tc) (he : ∀ cl C s H fp, PE (ju X (T ++ M) scope cl C s H fp) elt te)
 (I : Inv X pins σ H s) (Tn : Turn X.prog X.w X.K tg J fp it tn) (st : tn 0 s.heap) (hf : ∀ b ∈ fp, pK X pins H b) (hW : UO T.length g tc te Fin σ J H)
 (hR : ∀ D C s' H' acc m, s.heap.objs.size <= D -> s.heap.objs.size <= C -> C ≠ D -> s'.heap.Ns C m -> H' C = none -> H' D = none -> Inv X pins σ (upd H' D (.lst acc)) s' -> Fin acc H' -> RR (.ref D) C (.ok .next) s') :
 wpAny (model X.prog X.w) X.A (newList []) (fun acc s₃ => wpAny (model X.prog X.w) X.A (newFunctionEnv scope X.env.globals cl [] X.env.qual none .none (some X.env)) (fun XE s₄ =>
  codeAny (model X.prog X.w) X.A (.compStart (.ListComp elt [⟨tg, iter, ifs, 0⟩] scope pos) 0 (.ref it) acc { XE with scope := relabel scope X.env }) (RR acc XE.locals) s₄) E s₃) E s := by
 refine wpAny_newObj_type (wpAny_newFunctionEnv hN.cell (by intro y hy; simp at hy) (fun h₁ DW Bw => ?_) hN.kind)
 dsimp only at DW Bw ⊢
 generalize hH2 : s.heap.push { cls := .type "list", dict := none, data := .seq ([] : List Value).toArray } = H2 at DW Bw ⊢
 have hC : H2.objs.size = s.heap.objs.size + 1 := by rw [<- hH2, Heap.size_push]
 have Zh : s.heap.objs.size ≠ H2.objs.size := by rw [hC]; exact Nat.ne_of_lt (Nat.lt_succ_self _)
 have Td : s.heap.objs.size <= H2.objs.size := by rw [hC]; exact Nat.le_succ _
 have Vy : ∀ b ∈ fp, b < s.heap.objs.size := fun b hb => by obtain ⟨o, ho, _⟩ := Tn.obj _ _ st b hb; exact Heap.lt_size ho
 have old : ∀ b o, s.heap.get? b = some o -> h₁.get? b = some o := fun b o e => Bw.extBut b o (Nat.ne_of_lt (Nat.lt_of_lt_of_le (Heap.lt_size e) Td)) (Heap.get?_push_of_some _ (hH2 ▸ Heap.get?_push_of_some _ e))
 have gT : h₁.PlainList s.heap.objs.size #[] := ⟨_, Bw.extBut _ _ Zh (Heap.get?_push_of_some _ (hH2 ▸ Heap.get?_push_size _ rfl))⟩
 generalize UX : s.heap.objs.size = D at *
 generalize hCe : H2.objs.size = C at *
 have I0 : Inv (ju X (T ++ M) scope cl C s H fp) [] (List.replicate T.length none ++ σ) H { s with heap := h₁, toks := s.toks + ([] : List (Str × Value)).length } :=
  KO I hN h1 h2 (by rw [UX]; exact Td) hf (by rw [UX]; exact Vy) DW old
 have st0 : tn 0 h₁ := Tn.keep _ _ _ st fun b _ o e => old b o e
 obtain ⟨W, ⟨m0, w0⟩, turn⟩ := hW
 have nDf : ∀ b ∈ fp, b ≠ D := fun b hb => Nat.ne_of_lt (Vy b hb)
 have stat : ∀ {H' : Hp} {pl : List (Addr × Obj)}, (∀ b ∈ fp, H' b = none) -> (∀ p ∈ pl, p.1 = D) -> ∀ b ∈ fp, pK (ju X (T ++ M) scope cl C s H fp) pl H' b := fun {H' pl} hn hp b hb => by
  have ok := I0.ok
  refine ⟨hn b hb, (ok.QP b hb).1, ok.Bh b hb, .inl hb, (ok.QP b hb).2, fun p hq => ?_⟩
  have lL : p ∈ pl := hq
  rw [hp p lL]; exact Ne.symm (nDf b hb)
 have loop : codeAny (model X.prog X.w) X.A (.compLoop (.ListComp elt [⟨tg, iter, ifs, 0⟩] scope pos) 0 (.ref it) (.ref D) (compEnvC scope cl C X.env)) (RR (.ref D) C) { s with heap := h₁, toks := s.toks + ([] : List (Str × Value)).length } := by
  refine Ea (fun n s' => ∃ i acc H' bb, Inv (ju X (T ++ M) scope cl C s H fp) [] (List.replicate T.length none ++ σ) H' s' /\ tn i s'.heap /\ (∀ b ∈ fp, H' b = none) /\ s'.heap.PlainList D bb /\ H' D = none /\ Vals acc bb.toList /\ acc.length <= sizeLine /\ W i n acc H') ?_ m0
   ⟨0, [], H, #[], I0, st0, fun b hb => (hf b hb).1, gT, I.aP.fresh (by rw [UX]; exact Nat.le_refl _), .nil, Nat.zero_le _, w0⟩
  rintro n s3 ⟨i, acc, H3, bb, I3, Wa, Yl, ⟨nn, ho⟩, ZZ, hv, hlen, w3⟩
  have ZJ : ∀ {H'} {s'} {σ'} {o : Obj}, Inv (ju X (T ++ M) scope cl C s H fp) [] σ' H' s' -> s'.heap.get? D = some o -> (∀ v, o.data ≠ .cell v) -> H' D = none -> Inv (ju X (T ++ M) scope cl C s H fp) [(D, o)] σ' H' s' := fun {H' s' σ' o} I' e d hn => by
   refine I'.sQ fun p hp => ?_
   have e' : p = (D, o) := by simpa using hp
   subst e'
   refine ⟨e, hn, Zh, fun z => ?_, d⟩
   have z' : D ∈ yE X.stack := z
   obtain ⟨_, o', ME, _⟩ := I.stack.mem z'
   exact absurd (Heap.lt_size ME) (by rw [UX]; exact Nat.lt_irrefl _)
  have I3' := ZJ I3 ho (fun v z => by cases z) ZZ
  rcases turn i n acc H3 w3 with ⟨stop, fin⟩ | ⟨go, hl, step⟩
  . refine cm (Tn.done (ju X (T ++ M) scope cl C s H fp) rfl rfl rfl zi i _ s3 _ H3 _ I3' (stat Yl (by simp)) Wa stop) fun r s4 ⟨hr, I4⟩ => ?_
    subst hr
    have e4 := (I4.pin (D, _) (List.mem_append_right _ List.mem_cons_self)).1
    have Zj : Inv (ju X (T ++ M) scope cl C s H fp) [] (List.replicate T.length none ++ σ) H3 s4 := I4.sQ fun p hp => nomatch hp
    obtain ⟨m4, n4, _⟩ := Zj.loc
    exact hR D C s4 H3 acc m4 (Nat.le_refl _) Td (Ne.symm Zh) n4 Zj.free ZZ (Nz I Zj hf (by rw [UX]; exact Nat.le_refl _) ZZ hlen hv (by simpa using e4)) fin
  . refine cm (Tn.item (ju X (T ++ M) scope cl C s H fp) rfl rfl rfl zi i _ s3 _ H3 _ I3' (stat Yl (by simp)) Wa go) fun r s4 ⟨u, hr, h4⟩ => ?_
    subst hr
    refine cm h4 fun _ s5 ⟨x, H5, I5, r5, y5, Sn, Z1⟩ => ?_
    have I5' := I5.pinned (stat Z1 (by simp)) (Tn.obj _ _ Sn)
    refine cm (hg _ _ _ _ _ _ s5 _ H5 x u _ I5' r5 (hgk _ _ _ (step x H5 y5))) fun _ s6 ⟨σ6, H6, I6, q6, q6a, q6b⟩ => ?_
    refine cm (hc _ _ _ _ _ _ s6 σ6 H6 _ I6 q6) fun b s7 ⟨H7, I7, q7⟩ => ?_
    have rest : ∀ {s8 : Shared} {H8 : Hp}, Inv (ju X (T ++ M) scope cl C s H fp) ([(D, _)] ++ yF fp s5.heap) σ6 H8 s8 -> tn (i + 1) s8.heap /\ (∀ b ∈ fp, H8 b = none) /\ s8.heap.PlainList D bb /\ H8 D = none /\ Inv (ju X (T ++ M) scope cl C s H fp) [] (List.replicate T.length none ++ σ) H8 s8 := fun {s8 H8} I8 => by
     refine ⟨Tn.keep _ _ _ Sn fun b hb o e => (I8.pin (b, o) (List.mem_append_right _ (List.mem_append_right _ (mL hb e)))).1, fun b hb => ?_, ⟨nn, (I8.pin (D, _) (List.mem_append_right _ (List.mem_append_left _ List.mem_cons_self))).1⟩, (I8.pin (D, _) (List.mem_append_right _ (List.mem_append_left _ List.mem_cons_self))).2.1, (I8.forget T.length q6a q6b).sQ fun p hp => nomatch hp⟩
     obtain ⟨o, e, d⟩ := Tn.obj _ _ Sn b hb
     exact (I8.pin (b, o) (List.mem_append_right _ (List.mem_append_right _ (mL hb e)))).2.1
    cases b with
    | false =>
      obtain ⟨m', hm, w7⟩ := q7
      obtain ⟨a1, a2, a3, a4, a5⟩ := rest I7
      exact ⟨m', hm, i + 1, acc, H7, bb, a5, a1, a2, a3, a4, hv, hlen, w7⟩
    | true =>
      refine cm (he _ _ _ _ _ _ s7 σ6 H7 _ I7 q7) fun y s8 ⟨yv, H8, I8, r8, m', hm, w8⟩ => ?_
      obtain ⟨a1, a2, a3, a4, a5⟩ := rest I8
      have hsz : bb.size <= sizeLine := by have := hv.length; simp at this; omega
      refine wpAny_list_append_plain (hsz := hsz) a3 fun h9 hl9 hs9 => ?_
      refine ⟨m', hm, i + 1, acc ++ [yv], H8, bb.push y, ?_, ?_, a2, hl9, a4, ?_, by simp; omega, w8⟩
      . exact a5.turned (t' := s8.toks) (it := D) (fun b o hb e => (hs9.2 b hb).trans e) a4 Zh (.inr (by show s.heap.objs.size <= D; rw [UX]; exact Nat.le_refl _)) (fun x c e z => by
         obtain ⟨v, o, ho, _⟩ := I.cell x c (h1 x c e)
         exact absurd (Heap.lt_size ho) (by rw [UX, z]; exact Nat.lt_irrefl _)) (fun p hp => nomatch hp)
      . exact Tn.keep _ _ _ a1 fun b hb o e => (hs9.2 b (nDf b hb)).trans e
      . simpa using Vals.append hv (.cons r8 .nil)
 exact codeAny_compStart_list loop (Tn.self _ _ _ _ _ st0 loop)
end
def P5 (k : Nat) (g : TG) : Prop := ∀ v (τ σ : St) H Q, τ.length = k -> g v (τ ++ σ) H Q -> g v (τ ++ σ) H fun σ2 H2 => Q σ2 H2 /\ ∃ τ', τ'.length = k /\ σ2 = τ' ++ σ
def Fq (k : Nat) (g : K3) : Prop := ∀ vs (τ σ : St) H Q, τ.length = k -> g vs (τ ++ σ) H Q -> g vs (τ ++ σ) H fun σ2 H2 => Q σ2 H2 /\ ∃ τ', τ'.length = k /\ σ2 = τ' ++ σ
theorem qh {k i : Nat} (h : i < k) : P5 k (jE i) := fun v τ σ H Q hl q => by
 have e : (τ ++ σ).set i (some v) = τ.set i (some v) ++ σ := List.set_append_left _ _ (by omega)
 exact ⟨q, τ.set i (some v), by simp [hl], e⟩
theorem zL {k : Nat} : Fq k Md := fun vs τ σ H Q hl ⟨e, q⟩ => ⟨e, q, τ, hl, rfl⟩
theorem mK {k i : Nat} {u : K3} (h : i < k) (h2 : Fq k u) : Fq k (uc (jE i) u) := fun vs τ σ H Q hl ⟨v, r, e, q⟩ => by
 have e1 : (τ ++ σ).set i (some v) = τ.set i (some v) ++ σ := List.set_append_left _ _ (by omega)
 refine ⟨v, r, e, ?_⟩
 show u r ((τ ++ σ).set i (some v)) H _
 rw [e1]
 have q' : u r ((τ ++ σ).set i (some v)) H Q := q
 rw [e1] at q'
 exact h2 r _ σ H Q (by simp [hl]) q'
theorem Dg {K : PySem.W.Frag} {k n : Nat} {u : K3} (h : Fq k u) : P5 k (GW K n u) := fun v τ σ H Q hl ⟨a, xs, e, hq, hn, q⟩ => ⟨a, xs, e, hq, hn, h xs τ σ H Q hl q⟩
def zB (Q : VK) (acc : List V) (H : Hp) : Prop := ∀ p, H p = none -> Q (.ref p) (upd H p (.lst acc))
def Vp (k : Nat) (wi : TI) (g : TG) (tc : TT) (te : TE) : TE := fun σ H Q => wi σ H fun J H1 => UO k g tc te (zB Q) σ J H1
section
variable {X : Cx} {T M : List Str} {scope : Scope} {g : TG} {tc : TT} {te : TE} {wi : TI} {tg elt iter : Expr} {ifs : List Expr} {pos : Pos}
theorem C4 (hN : qk X T M scope) (zi : X.calm = true) (hi : PI X tg iter wi) (hg : ∀ cl C s H fp, PG (ju X (T ++ M) scope cl C s H fp) tg g) (Z7 : P5 T.length g)
 (hc : ∀ cl C s H fp, XO (ju X (T ++ M) scope cl C s H fp) ifs tc) (he : ∀ cl C s H fp, PE (ju X (T ++ M) scope cl C s H fp) elt te)
 (hs : ∀ x, foldedSetIterable iter X.env x = pure x := by intro _; rfl) : PE X (.ListComp elt [⟨tg, iter, ifs, 0⟩] scope pos) (Vp T.length wi g tc te) := by
 intro pins s σ H Q I h
 obtain ⟨cl, Nr, h1, h2⟩ := yx (scope := scope) (env := X.env) fun x hx hf => I.ok.has x.1 (hN.free x hx hf)
 rw [eval_ListComp]
 refine wpAny_comprehension_free (use := none) rfl hs Nr hN.kind hN.names (cm (hi pins s σ H _ I h) fun xv s1 Tg => cm Tg fun Ze s2 TF => ?_)
 obtain ⟨it, fp, tn, J, H2, e, I2, Tn, st, hf, hW⟩ := TF
 subst e
 refine LU (RR := fun acc C => compPost (model X.prog X.w) X.A X.xe none (EP X pins σ Q) acc C) hN zi h1 h2 hg (fun v H Q q => ?_) hc he I2 Tn st hf hW ?_
 . have := Z7 v (List.replicate T.length none) σ H Q (by simp) q
   refine (by
    have e : (fun (σ2 : St) (H2 : Hp) => Q σ2 H2 /\ T.length + σ.length = σ2.length /\ σ2.drop T.length = σ) = fun σ2 H2 => Q σ2 H2 /\ ∃ τ' : St, τ'.length = T.length /\ σ2 = τ' ++ σ := by
     funext σ2 H2
     refine propext ⟨fun ⟨a, b, c⟩ => ⟨a, σ2.take T.length, by rw [List.length_take]; omega, by rw [<- c, List.take_append_drop]⟩, fun ⟨a, τ', b, c⟩ => ⟨a, by rw [c, List.length_append, b], by rw [c, <- b, List.drop_left]⟩⟩
    rw [e]; exact this)
 . intro D C s' H' acc m hD hC nZ hn hHC Zo Ib fin
   refine ⟨m, hn, fun h' sk => ⟨.ref D, _, ?_, rfl, fin D Zo⟩⟩
   exact Ib.turned (t' := s'.toks) (it := C) (fun b o hb e => (sk.2 b hb).trans e) (by rw [aw nZ]; exact hHC) (Nat.ne_of_gt (Nat.lt_of_lt_of_le I2.lt hC)) (.inr (Nat.le_trans I2.sz hC)) (fun x c e z => by
    obtain ⟨v, q⟩ := I2.cell x c e
    exact absurd (Nat.lt_of_lt_of_le q.lt (by rw [z]; exact hC)) (Nat.lt_irrefl _)) (fun p hp z => absurd (Nat.lt_of_lt_of_le (Heap.lt_size (I2.pin p hp).1) (by rw [z]; exact hC)) (Nat.lt_irrefl _))
theorem Wf {i : Nat} {y : Str} {py WQ : Pos} (jP : X.N.Nodup) (Fy : X.N[i]? = some y) (hy : Loc X.env.scope y) (hN : qk X T M scope) (zi : X.calm = true) (hi : PI X tg iter wi) (hg : ∀ cl C s H fp, PG (ju X (T ++ M) scope cl C s H fp) tg g) (Z7 : P5 T.length g)
 (hc : ∀ cl C s H fp, XO (ju X (T ++ M) scope cl C s H fp) ifs tc) (he : ∀ cl C s H fp, PE (ju X (T ++ M) scope cl C s H fp) elt te)
 (hsw : swapsWith (.ListComp elt [⟨tg, iter, ifs, 0⟩] scope pos) (some (.Name y py)) WQ.line X.env = pure true)
 (hs : ∀ x, foldedSetIterable iter X.env x = pure x := by intro _; rfl) (hf' : X.fn y = true \/ X.env.scope.names.lookup y = some .local := by first | exact .inl rfl | exact .inr rfl | assumption) :
 PS X (.Assign [.Name y py] (.ListComp elt [⟨tg, iter, ifs, 0⟩] scope pos) WQ) (Lp (Vp T.length wi g tc te) (jE i)) := by
 intro pins s σ H D' I h
 have h : Vp T.length wi g tc te σ H fun x H1 => D'.nx (σ.set i (some x)) H1 := h
 obtain ⟨cl, Nr, h1, h2⟩ := yx (scope := scope) (env := X.env) fun x hx hf => I.ok.has x.1 (hN.free x hx hf)
 rw [exec_Assign_Name_used _ _ _ _ hsw]
 refine wpAny_bind (wpAny_standAt (wpAny_bind ?_))
 show wpAny _ X.A (do let _ <- comprehension (.ListComp elt [⟨tg, iter, ifs, 0⟩] scope pos) scope X.env _ (newList []) false (eval iter X.env) (some (assign (.Name y py) X.env))) _ _ s
 refine wpAny_bind (wpAny_mono (wpAny_comprehension_free (use := some (assign (.Name y py) X.env)) (Q := fun _ s' => SP X pins D' .next s') rfl hs Nr hN.kind hN.names
  (cm (hi pins s σ H _ I h) fun xv s1 Tg => cm Tg fun Ze s2 TF => ?_)) (fun _ s' hq => wpAny_pure (wpAny_pure hq)) fun _ _ e => e)
 obtain ⟨it, fp, tn, J, H2, e, I2, Tn, st, hf, hW⟩ := TF
 subst e
 refine LU (RR := fun acc C => compPost (model X.prog X.w) X.A X.xe (some (assign (.Name y py) X.env)) (fun _ s' => SP X pins D' .next s') acc C) hN zi h1 h2 hg (fun v H Q q => ?_) hc he I2 Tn st hf hW ?_
 . have := Z7 v (List.replicate T.length none) σ H Q (by simp) q
   refine (by
    have e : (fun (σ2 : St) (H2 : Hp) => Q σ2 H2 /\ T.length + σ.length = σ2.length /\ σ2.drop T.length = σ) = fun σ2 H2 => Q σ2 H2 /\ ∃ τ' : St, τ'.length = T.length /\ σ2 = τ' ++ σ := by
     funext σ2 H2
     refine propext ⟨fun ⟨a, b, c⟩ => ⟨a, σ2.take T.length, by rw [List.length_take]; omega, by rw [<- c, List.take_append_drop]⟩, fun ⟨a, τ', b, c⟩ => ⟨a, by rw [c, List.length_append, b], by rw [c, <- b, List.drop_left]⟩⟩
    rw [e]; exact this)
 . intro D C s' H' acc m hD hC nZ hn hHC Zo Ib fin
   show wpAny _ X.A (assign (.Name y py) X.env (.ref D)) _ _ _
   refine wpAny_assign_Name (zy Ib jP Fy hy (v := .ref D) rfl (fun s3 I3 ⟨a, sb, ha⟩ => ?_) hf')
   have hCL : C ≠ X.env.locals := Nat.ne_of_gt (Nat.lt_of_lt_of_le I2.lt hC)
   have hCc : ∀ x c, X.env.cells.lookup x = some c -> c ≠ C := fun x c e z => by
    obtain ⟨v, q⟩ := I2.cell x c e
    exact absurd (Nat.lt_of_lt_of_le q.lt (by rw [z]; exact hC)) (Nat.lt_irrefl _)
   have hCa : C ≠ a := by
    rcases ha with rfl | ha
    . exact hCL
    . exact Ne.symm (hCc _ _ ha)
   refine ⟨m, hn.sameBut sb hCa, fun h' sk => ⟨_, _, ?_, fin D Zo⟩⟩
   exact I3.turned (t' := s3.toks) (it := C) (fun b o hb e => (sk.2 b hb).trans e) (by rw [aw nZ]; exact hHC) hCL (.inr (Nat.le_trans I2.sz hC)) hCc (fun p hp z => absurd (Nat.lt_of_lt_of_le (Heap.lt_size (I2.pin p hp).1) (by rw [z]; exact hC)) (Nat.lt_irrefl _))
end
end L2
namespace L2
open PySem PySem.Spec PyProof.Rows PySem.W
mutual
def yI : PyData -> Bool
 | .none => true
 | .bool _ => true
 | .int _ => true
 | .str _ => true
 | .tuple ds => b6 ds
 | .list _ => false
 | .dict _ => false
def b6 : List PyData -> Bool
 | [] => true
 | d :: ds => yI d && b6 ds
end
theorem ji : ∀ {ds : List PyData}, b6 ds = true ↔ ∀ d ∈ ds, yI d = true
 | [] => by simp [b6]
 | d :: ds => by simp [b6, ji (ds := ds)]
theorem gN {ds es : List PyData} (h1 : b6 ds = true) (h2 : b6 es = true) : b6 (ds ++ es) = true := by
 rw [ji] at *
 intro d hd
 rcases List.mem_append.mp hd with h | h
 . exact h1 d h
 . exact h2 d h
theorem cg {α : Type} {f : α -> PyData} (h : ∀ x, yI (f x) = true) (xs : List α) : b6 (xs.map f) = true := by
 rw [ji]
 intro d hd
 obtain ⟨x, _, rfl⟩ := List.mem_map.mp hd
 exact h x
structure Mv (S : List Addr) (H H' : Hp) : Prop where
 kp : ∀ a o, a ∉ S -> H a = some o -> H' a = some o
 tp : ∀ a xs, H a = some (.tup xs) -> H' a = some (.tup xs)
 dm : ∀ a, H' a = none -> H a = none
theorem Mv.refl {S : List Addr} {H : Hp} : Mv S H H := ⟨fun _ _ _ h => h, fun _ _ h => h, fun _ h => h⟩
theorem az.mv {S : List Addr} {H H' : Hp} (s : az H H') : Mv S H H' := ⟨fun a o _ h => s a o h, fun a xs h => s a _ h, fun a h => by
 cases e : H a with
 | none => rfl
 | some o => rw [s a o e] at h; cases h⟩
theorem Mv.trans {S : List Addr} {H H1 H2 : Hp} (m : Mv S H H1) (m2 : Mv S H1 H2) : Mv S H H2 := ⟨fun a o n h => m2.kp a o n (m.kp a o n h), fun a xs h => m2.tp a xs (m.tp a xs h), fun a h => m.dm a (m2.dm a h)⟩
theorem Mv.step {S S1 : List Addr} {H H1 H2 : Hp} (m : Mv S H H1) (m2 : Mv S1 H1 H2) (hs : ∀ a ∈ S1, a ∈ S \/ H a = none) : Mv S H H2 := by
 refine ⟨fun a o n h => ?_, fun a xs h => m2.tp a xs (m.tp a xs h), fun a h => m.dm a (m2.dm a h)⟩
 refine m2.kp a o (fun z => ?_) (m.kp a o n h)
 rcases hs a z with q | q
 . exact n q
 . rw [q] at h; cases h
theorem Mv.iq {S : List Addr} {H H1 H2 : Hp} (m : Mv S H H1) (s : az H1 H2) : Mv S H H2 := m.trans s.mv
theorem Mv.at {S : List Addr} {H H' : Hp} {a : Addr} {o : HO} (m : Mv S H H') (n : a ∉ S) (h : H a = some o) : H' a = some o := m.kp a o n h
theorem Mv.none {S : List Addr} {H H' : Hp} {a : Addr} (m : Mv S H H') (h : H' a = none) : H a = none := m.dm a h
theorem az.none {H H' : Hp} {a : Addr} (m : az H H') (h : H' a = none) : H a = none := (m.mv (S := [])).dm a h
theorem Mv.cO {H : Hp} {p : Addr} {o u : HO} (h : H p = some u) (nt : ∀ xs, u ≠ .tup xs) : Mv [p] H (upd H p o) := ⟨fun a v n e => by
 rw [aw (fun z => n (by simp [z]))]; exact e, fun a xs e => by
 rw [aw (fun z => by subst z; rw [h] at e; exact nt xs (Option.some.inj e))]; exact e, fun a e => by
 by_cases z : a = p
 . subst z; rw [au] at e; cases e
 . rw [aw z] at e; exact e⟩
mutual
theorem Dv.zK {H H' : Hp} (t : ∀ a xs, H a = some (.tup xs) -> H' a = some (.tup xs)) : ∀ {v : V} {d : PyData}, Dv H v d -> yI d = true -> Dv H' v d
 | _, _, .bG, _ => .bG
 | _, _, .bl b, _ => .bl b
 | _, _, .int i, _ => .int i
 | _, _, .str x, _ => .str x
 | _, _, .tup h r, c => .tup (t _ _ h) (cB.zK t r (by simpa [yI] using c))
 | _, _, .lst h r, c => by simp [yI] at c
 | _, _, .dct h r, c => by simp [yI] at c
theorem cB.zK {H H' : Hp} (t : ∀ a xs, H a = some (.tup xs) -> H' a = some (.tup xs)) : ∀ {v : List V} {d : List PyData}, cB H v d -> b6 d = true -> cB H' v d
 | _, _, .nil, _ => .nil
 | _, _, .cons h r, c => by
   have c' := c
   simp only [b6, Bool.and_eq_true] at c'
   exact .cons (Dv.zK t h c'.1) (cB.zK t r c'.2)
end
theorem Mv.dat {S : List Addr} {H H' : Hp} {v : V} {d : PyData} (m : Mv S H H') (i : yI d = true) (h : Dv H v d) : Dv H' v d := h.zK m.tp i
theorem Mv.EZ {S : List Addr} {H H' : Hp} {v : List V} {d : List PyData} (m : Mv S H H') (i : b6 d = true) (h : cB H v d) : cB H' v d := h.zK m.tp i
def dJ (H : Hp) (p : Addr) (ds : List PyData) : Prop := ∃ xs, H p = some (.lst xs) /\ cB H xs ds /\ b6 ds = true
theorem dJ.dv {H : Hp} {p : Addr} {ds : List PyData} (h : dJ H p ds) : Dv H (.ref p) (.list ds) := let ⟨_, e, d, _⟩ := h; .lst (.of e) d
theorem dJ.keeps {H H' : Hp} {p : Addr} {ds : List PyData} (s : az H H') (h : dJ H p ds) : dJ H' p ds := let ⟨xs, e, d, i⟩ := h; ⟨xs, s _ _ e, d.keeps s, i⟩
theorem dJ.mv {S : List Addr} {H H' : Hp} {p : Addr} {ds : List PyData} (m : Mv S H H') (n : p ∉ S) (h : dJ H p ds) : dJ H' p ds := let ⟨xs, e, d, i⟩ := h; ⟨xs, m.at n e, m.EZ i d, i⟩
theorem dJ.ne {H : Hp} {p q : Addr} {ds : List PyData} (h : dJ H p ds) (hn : H q = none) : p ≠ q := let ⟨_, e, _, _⟩ := h; aG e hn
theorem F0 {H : Hp} {p : Addr} {xs : List V} {ds : List PyData} (hn : H p = none) (d : cB H xs ds) (i : b6 ds = true) : dJ (upd H p (.lst xs)) p ds := ⟨xs, au, d.keeps (bw hn), i⟩
theorem K9 {p q : Addr} (h : p ≠ q) : p ∉ [q] := by simpa using h
theorem small {n m : Nat} (h : n <= m) (hm : m <= 4000 := by decide) : n <= sizeLine := Nat.le_trans h (Nat.le_trans hm (by decide))
theorem dQ {n : Nat} (h : n <= 4000) : n < sizeLine := Nat.lt_of_le_of_lt h (by decide)
section
variable {σ : St} {H : Hp} {Q : VK} {D : Ends} {K : PySem.W.Frag} {p : Addr} {ds : List PyData}
theorem Zu {T : String} {r : V -> List V -> Hp -> VK -> Prop} {to : TE} {t : TA} (h : to σ H fun x H1 => QI K T x H1 /\ t σ H1 fun xs H2 => r x xs H2 Q) : tBM K T r to t σ H Q := h
theorem Xs {T : String} {r : V -> List V -> Hp -> VK -> Prop} {to : TE} (h : to σ H fun x H1 => QI K T x H1 /\ r x [] H1 Q) : XA K T r to σ H Q := h
theorem Lr {R : Prop} (hp : dJ H p ds) (h : R) : QI K "list" (.ref p) H /\ R := let ⟨xs, e, _, _⟩ := hp; ⟨.inl ⟨rfl, xs, fj.of e⟩, h⟩
theorem X5 {y : V} {d : PyData} (hp : dJ H p ds) (hl : ds.length <= 4000) (hy : Dv H y d) (hi : yI d = true) (h : ∀ H2, Mv [p] H H2 -> dJ H2 p (ds ++ [d]) -> Q .bG H2) : AG (.ref p) [y] H Q := by
 obtain ⟨xs, e, dv, i⟩ := hp
 have m : Mv [p] H (upd H p (.lst (xs ++ [y]))) := .cO e (by intro _ z; cases z)
 refine ⟨p, xs, y, rfl, rfl, e, by rw [dv.length]; exact dQ hl, h _ m ⟨_, au, m.EZ (gN i (by simp [b6, hi])) (dv.append (.cons hy .nil)), gN i (by simp [b6, hi])⟩⟩
theorem UI {xs : List V} (hl : xs.length <= sizeLine) (hd : cB H xs ds) (hi : b6 ds = true) (k : ∀ p H2, az H H2 -> H p = none -> dJ H2 p ds -> Q (.ref p) H2) : Pp xs H Q :=
 ⟨hl, ds, hd, fun p H2 s n e d _ => k p H2 s n ⟨xs, e, d, hi⟩⟩
end
mutual
theorem Dv.fn {H : Hp} : ∀ {v : V} {d e : PyData}, Dv H v d -> Dv H v e -> yI d = true -> d = e
 | _, _, _, .bG, h, _ => by cases h; rfl
 | _, _, _, .bl b, h, _ => by cases h; rfl
 | _, _, _, .int i, h, _ => by cases h; rfl
 | _, _, _, .str x, h, _ => by cases h; rfl
 | _, _, _, .tup h r, h2, c => by
   cases h2 with
   | tup h' r' =>
     have c' := (by simpa [yI] using c : b6 _ = true)
     rw [h] at h'
     cases h'
     rw [cB.fn r r' c']
   | lst h' r' =>
     rcases h' with h' | ⟨o, h'⟩ <;> rw [h] at h' <;> cases h'
   | dct h' r' => rw [h] at h'; cases h'
 | _, _, _, .lst h r, _, c => by simp [yI] at c
 | _, _, _, .dct h r, _, c => by simp [yI] at c
theorem cB.fn {H : Hp} : ∀ {v : List V} {d e : List PyData}, cB H v d -> cB H v e -> b6 d = true -> d = e
 | _, _, _, .nil, h, _ => by cases h; rfl
 | _, _, _, .cons h r, h2, c => by
   have c' := c
   simp only [b6, Bool.and_eq_true] at c'
   cases h2 with
   | cons h' r' => rw [Dv.fn h h' c'.1, cB.fn r r' c'.2]
end
theorem cB.perm {α : Type} {H : Hp} {g : α -> PyData} {xs ys : List V} (p0 : ys.Perm xs) : ∀ {cs : List α}, cB H xs (cs.map g) -> ∃ Sv : List α, Sv.Perm cs /\ cB H ys (Sv.map g) := by
 have p := p0.symm
 clear p0
 induction p with
 | nil => intro cs h; exact ⟨cs, .refl _, h⟩
 | cons x _ ih =>
   intro cs h
   cases cs with
   | nil => cases h
   | cons c cs =>
     cases h with
     | cons h r =>
       obtain ⟨Sv, p', h'⟩ := ih r
       exact ⟨c :: Sv, p'.cons c, .cons h h'⟩
 | swap x y l =>
   intro cs h
   cases cs with
   | nil => cases h
   | cons c cs =>
     cases h with
     | cons h r =>
       cases cs with
       | nil => cases r
       | cons c2 cs =>
         cases r with
         | cons h2 r => exact ⟨c2 :: c :: cs, .swap c c2 cs, .cons h2 (.cons h r)⟩
 | trans _ _ ih1 ih2 =>
   intro cs h
   obtain ⟨c1, p1, h1⟩ := ih1 h
   obtain ⟨c2, p2, h2⟩ := ih2 h1
   exact ⟨c2, p2.trans p1, h2⟩
theorem cB.pairwise {α β : Type} {H : Hp} {g : α -> PyData} {key : α -> β} {kf : V -> β} {R : β -> β -> Prop} (hk : ∀ v c, Dv H v (g c) -> kf v = key c) : ∀ {xs : List V} {cs : List α}, cB H xs (cs.map g) -> xs.Pairwise (fun x y => R (kf x) (kf y)) -> cs.Pairwise (fun c d => R (key c) (key d))
 | _, [], .nil, _ => .nil
 | _, c :: cs, .cons h r, p => by
   rw [List.pairwise_cons] at p ⊢
   refine ⟨fun d hd => ?_, cB.pairwise hk r p.2⟩
   obtain ⟨i, hi⟩ := List.getElem?_of_mem hd
   obtain ⟨x, hx, hv⟩ := r.get (i := i) (d := g d) (by rw [List.getElem?_map, hi]; rfl)
   have := p.1 x (List.mem_of_getElem? hx)
   rw [hk _ _ h, hk _ _ hv] at this
   exact this
theorem Dv.lst_inv {H : Hp} {v : V} {ds : List PyData} (h : Dv H v (.list ds)) : ∃ a xs, v = .ref a /\ (∀ K : PySem.W.Frag, fj K H a xs) /\ cB H xs ds := by
 cases h with
 | lst h r => exact ⟨_, _, rfl, fun _ => .inl h, r⟩
section
variable {σ : St} {H : Hp} {Q : VK} {D : Ends} {K : PySem.W.Frag} {p : Addr} {v : V} {ds : List PyData}
def Vw (te : TE) (N : Option V -> Hp -> Prop) (σ2 : St) (b : Bool) (H3 : Hp) : Prop := if b = true then te σ2 H3 (fun y H4 => N (some y) H4) else N none H3
theorem Xu {k : Nat} {tl : TE} {g : TG} {tc : TT} {te : TE} (h : tl σ H fun x H1 => ∃ a, x = .ref a /\ (∃ xs, fj K H1 a xs) /\ UO k g tc te (zB Q) σ (Ld K a) H1) : Vp k (IZ K tl) g tc te σ H Q := h
theorem abn {k : Nat} {g : TG} {tc : TT} {te : TE} {α : Type} {cs : List α} {gd : α -> PyData} (pf : α -> Bool) (fd : α -> PyData) (hl : Dv H v (.list (cs.map gd))) (hlen : cs.length <= 4000) (hi : ∀ c, yI (fd c) = true)
 (turn : ∀ x c H' (N : Option V -> Hp -> Prop), c ∈ cs -> az H H' -> Dv H' x (gd c) -> (pf c = true -> ∀ y H4, az H' H4 -> Dv H4 y (fd c) -> N (some y) H4) -> (pf c = false -> ∀ H3, az H' H3 -> N none H3) ->
  g x (List.replicate k none ++ σ) H' fun σ2 H2 => tc σ2 H2 fun b H3 => Vw te N σ2 b H3)
 (kk : ∀ q H', az H H' -> H q = none -> dJ H' q ((cs.filter pf).map fd) -> Q (.ref q) H') : ∃ a, v = .ref a /\ (∃ xs, fj K H a xs) /\ UO k g tc te (zB Q) σ (Ld K a) H := by
 obtain ⟨p, xs, rfl, e, dv⟩ := hl.lst_inv
 have IU : fj K H p xs := e K
 have HS : xs.length = cs.length := by rw [dv.length, List.length_map]
 refine ⟨p, rfl, ⟨xs, IU⟩, fun i m acc H' => i <= cs.length /\ m = cs.length - i /\ az H H' /\ cB H' acc (((cs.take i).filter pf).map fd), ⟨cs.length, Nat.zero_le _, rfl, az.refl _, by simpa using cB.nil⟩, ?_⟩
 rintro i m acc H' ⟨Ed, hm, sm, gT⟩
 have yL : fj K H' p xs := az.seq sm IU
 have yZ : acc.length <= cs.length := by
  rw [gT.length, List.length_map]
  exact Nat.le_trans (List.length_filter_le _ _) (by rw [List.length_take]; omega)
 by_cases hc : i = cs.length
 . left
   refine ⟨⟨xs, yL, by omega⟩, fun q hq => ?_⟩
   rw [hc, List.take_length] at gT
   have fA : az H (upd H' q (.lst acc)) := sm.trans (bw hq)
   exact kk q _ fA (sm.none hq) ⟨acc, au, gT.keeps (bw hq), cg hi _⟩
 . right
   have eI : i < cs.length := by omega
   have Nj : i < xs.length := by omega
   refine ⟨⟨xs, xs[i], yL, List.getElem?_eq_getElem Nj⟩, dQ (by omega), fun x H2 hy => ?_⟩
   obtain ⟨rfl, hy⟩ := hy
   have hx := hy xs yL
   have Yu : cs[i]? = some cs[i] := List.getElem?_eq_getElem eI
   obtain ⟨x', vK, hd⟩ := dv.get (i := i) (d := gd cs[i]) (by rw [List.getElem?_map, Yu]; rfl)
   rw [hx] at vK
   cases vK
   have Cw : cs.take (i + 1) = cs.take i ++ [cs[i]] := by rw [List.take_add_one, Yu]; rfl
   exact turn x cs[i] H2 (fun o H4 => match o with | some y => ∃ m', m' < m /\ i + 1 <= cs.length /\ m' = cs.length - (i + 1) /\ az H H4 /\ cB H4 (acc ++ [y]) (((cs.take (i + 1)).filter pf).map fd) | none => ∃ m', m' < m /\ i + 1 <= cs.length /\ m' = cs.length - (i + 1) /\ az H H4 /\ cB H4 acc (((cs.take (i + 1)).filter pf).map fd))
    (List.getElem_mem eI) sm (hd.keeps sm)
    (fun hp y H4 s4 d4 => ⟨cs.length - (i + 1), by omega, eI, rfl, sm.trans s4, by
     rw [Cw, List.filter_append, List.map_append]
     simp only [List.filter_cons, hp, if_true, List.filter_nil, List.map_cons, List.map_nil]
     exact cB.append (gT.keeps s4) (.cons d4 .nil)⟩)
    (fun hp H3 s3 => ⟨cs.length - (i + 1), by omega, eI, rfl, sm.trans s3, by
     rw [Cw, List.filter_append, List.map_append]
     simp only [List.filter_cons, hp, Bool.false_eq_true, if_false, List.filter_nil, List.map_nil, List.append_nil]
     exact gT.keeps s3⟩)
end
def FR (scope sc : Scope) (N M : List Str) : Bool :=
 (scope.kind == .function) && scope.names.all (fun y => y.2 != .cell) && scope.names.all (fun y => y.2 != .local || scope.names.lookup y.1 == some .local) &&
  scope.names.all (fun y => y.2 != .free || (sc.names.lookup y.1 == some .cell || sc.names.lookup y.1 == some .free)) && (M.length == N.length) &&
  (M.zip N).all fun p => (p.1 == p.2 && scope.names.lookup p.1 == some .free) || scope.names.lookup p.1 == none
theorem VC {X : Cx} {T M : List Str} {scope : Scope} (sc : Scope) (N : List Str) (hs : X.env.scope = sc) (hN : X.N = N) (h : FR scope sc N M = true) : qk X T M scope := by
 unfold FR at h
 simp only [Bool.and_eq_true, List.all_eq_true, Bool.or_eq_true, bne_iff_ne, beq_iff_eq, ne_eq] at h
 obtain ⟨⟨⟨⟨⟨h1, h2⟩, h3⟩, h4⟩, h5⟩, h6⟩ := h
 refine ⟨h1, h2, fun y hy e => ?_, fun y hy e => ?_, by rw [hN]; exact h5, fun i x hx => ?_⟩
 . rcases h3 y hy with z | z
   . exact absurd e z
   . exact z
 . rw [hs]
   rcases h4 y hy with z | z
   . exact absurd e z
   . exact z
 . have hi : i < M.length := (List.getElem?_eq_some_iff.mp hx).1
   have hiN : i < N.length := by omega
   have hz : (M.zip N)[i]? = some (x, N[i]) := by
    rw [List.getElem?_zip_eq_some]
    exact ⟨hx, List.getElem?_eq_getElem hiN⟩
   rcases h6 _ (List.mem_of_getElem? hz) with ⟨a, b⟩ | a
   . left
     refine ⟨?_, b⟩
     rw [hN, List.getElem?_eq_getElem hiN]
     have a' : x = N[i] := a
     rw [a']
   . exact .inr a
section
variable {σ : St} {H : Hp} {Q : VK} {D : Ends} {K : PySem.W.Frag} {p : Addr} {v : V} {ds : List PyData}
theorem Rl {z : Str} {i : Int} {c : Nat} (hl : z.length <= sizeLine) (hi : uj z.cps.toList i = some c) (h : Q (.str ⟨#[c]⟩) H) : Bc K (.str z) (.int i) H Q := .inl (.inr ⟨z, i, c, rfl, rfl, hl, hi, h⟩)
def QM : R2 := fun x y H Q => ∃ i j, x = .str i /\ y = .str j /\ i.length + j.length <= sizeLine /\ Q (.str (i ++ j)) H
theorem Bp {X : Cx} : o4 X (binaryOp .Add) QM := E2
theorem T5 {i j : Str} (hl : i.length + j.length <= 4000) (h : Q (.str (i ++ j)) H) : QM (.str i) (.str j) H Q := ⟨i, j, rfl, rfl, small hl, h⟩
theorem Ek {R : Bool -> Prop} (hp : Dv H v (.list ds)) (h : R (!ds.isEmpty)) : ∃ k, DT K v H k /\ R k := by
 obtain ⟨p, xs, rfl, e, dv⟩ := hp.lst_inv
 refine ⟨_, .inl ⟨xs, e K, rfl⟩, ?_⟩
 have : xs.isEmpty = ds.isEmpty := by cases dv <;> rfl
 rw [this]; exact h
theorem Ou (xs : List V) (i j : Nat) : En xs (some (i : Int)) (some (j : Int)) = (xs.drop i).take (j - i) := by
 unfold En
 rw [HT.FH, HT.FH]
 by_cases h : i <= xs.length
 . rw [Nat.min_eq_left h]
   by_cases h2 : j <= xs.length
   . rw [Nat.min_eq_left h2]
   . rw [Nat.min_eq_right (by omega)]
     rw [List.take_of_length_le (by rw [List.length_drop]; omega), List.take_of_length_le (by rw [List.length_drop]; omega)]
 . rw [List.drop_of_length_le (show xs.length <= min i xs.length by omega), List.drop_of_length_le (show xs.length <= i by omega), List.take_nil, List.take_nil]
theorem ZE {te : TE} {tl th : TO} {r : V -> Option Int -> Option Int -> Hp -> VK -> Prop} (h : te σ H fun x H1 => tl σ H1 fun l H2 => th σ H2 fun u H3 => r x l u H3 Q) : tSl r te tl th σ H Q := h
theorem Sg {t : TE} {R : Option Int -> Hp -> Prop} (h : t σ H fun x H1 => ∃ i, x = .int i /\ R (some i) H1) : Qz t σ H R := h
theorem Jg {R : Option Int -> Hp -> Prop} (h : R none H) : F8 σ H R := h
theorem OC {i : Int} {R : Int -> Prop} (h : R i) : ∃ j, V.int i = .int j /\ R j := ⟨i, rfl, h⟩
theorem SD {ns : List Int} (i j : Nat) (hp : fj K H p (ns.map V.int)) (k : ∀ q H', az H H' -> H q = none -> dJ H' q (((ns.drop i).take (j - i)).map PyData.int) -> Q (.ref q) H') : U2 K (.ref p) (some (i : Int)) (some (j : Int)) H Q := by
 refine ⟨p, _, rfl, hp, fun q hq => ?_⟩
 rw [Ou, <- List.map_drop, <- List.map_take]
 exact k q _ (bw hq) hq ⟨_, au, cB.ints _, cg (fun _ => rfl) _⟩
theorem RA {x : V} {i j l : Nat} {d1 d2 d3 : PyData} {R : St -> Hp -> Prop} (hd : Dv H x (.tuple [d1, d2, d3])) (h : ∀ v1 v2 v3, Dv H v1 d1 -> Dv H v2 d2 -> Dv H v3 d3 -> R (((σ.set i (some v1)).set j (some v2)).set l (some v3)) H) :
 GW K 3 (uc (jE i) (uc (jE j) (uc (jE l) Md))) x σ H R := by
 cases hd with
 | tup ha r =>
   cases r with
   | cons h1 r =>
     cases r with
     | cons h2 r =>
       cases r with
       | cons h3 r =>
         cases r
         exact ⟨_, _, rfl, .of ha, rfl, _, _, rfl, _, _, rfl, _, _, rfl, rfl, h _ _ _ h1 h2 h3⟩
end
end L2
namespace L2
end L2
namespace L2
open PySem
theorem MA {α β : Type} [Inhabited α] {f : α -> β} {xs : List α} {i : Int} (h0 : 0 <= i) (h1 : i < xs.length) : uj (xs.map f) i = some (f (xs.getD i.toNat default)) := by
 obtain ⟨m, rfl⟩ := Int.eq_ofNat_of_zero_le h0
 have hm : m < xs.length := by omega
 refine wj ?_
 rw [List.getElem?_map, List.getElem?_eq_getElem hm]
 simp [hm]
theorem TX {α : Type} {g : α -> PyData} {xs : List α} {K : PySem.W.Frag} {H : Hp} {Q : VK} {v : V} (hs : Dv H v (.list (xs.map g))) (h : Q (.int (xs.length : Nat)) H) : F5 K [v] H Q := KW (.inr hs) (by rw [List.length_map]; exact h)
theorem Om {i : Nat} {v : V} {σ : St} {H : Hp} {R : St -> Hp -> Prop} (h : R (σ.set i (some v)) H) : jE i v σ H R := h
theorem Mv.MD {p : Addr} {H H1 H2 : Hp} (s : az H H1) (m : Mv [p] H1 H2) (n : H p = Option.none) : az H H2 := fun a o e => m.kp a o (K9 (aG e n)) (s a o e)
theorem Mv.sq {K : PySem.W.Frag} {S : List Addr} {H H' : Hp} {a : Addr} {xs : List V} (m : Mv S H H') (n : a ∉ S) (h : fj K H a xs) : fj K H' a xs := by
 rcases h with (h | ⟨o, h⟩) | h
 . exact .inl (.inl (m.at n h))
 . exact .inl (.inr ⟨o, m.at n h⟩)
 . exact .inr h
theorem Uv {K : PySem.W.Frag} {H : Hp} {v : V} {R : Bool -> Prop} (hp : Dv H v (.list [])) (h : R false) : ∃ k, DT K v H k /\ R k := Ek hp h
theorem Sr {K : PySem.W.Frag} {H : Hp} {v : V} {ds : List PyData} {R : Bool -> Prop} (hp : Dv H v (.list ds)) (hn : ds ≠ []) (h : R true) : ∃ k, DT K v H k /\ R k := Ek hp (by
 cases ds with
 | nil => exact absurd rfl hn
 | cons d ds => exact h)
theorem zT {te : TE} {N : Option V -> Hp -> Prop} {σ2 : St} {b : Bool} {H3 : Hp} (h1 : b = true -> te σ2 H3 (fun y H4 => N (some y) H4)) (h2 : b = false -> N none H3) : Vw te N σ2 b H3 := by
 unfold Vw
 cases b with
 | true => rw [if_pos rfl]; exact h1 rfl
 | false => rw [if_neg (by simp)]; exact h2 rfl
end L2
namespace L2
open PySem PySem.Spec PyProof.Rows
section
variable {X : Cx} {K : PySem.W.Frag} {a b e : Expr} {es : List Expr} {ta : TE} {pos : Pos}
theorem Kf (h : X.K = K) (hu : X.A.units + 8 < cLine) : o4 X (compareOp .Eq) (A4 K id) := by rw [<- h]; exact j9 hu
theorem FD {k : Nat} {t : K3} {n : Nat} (h : X.K = K) (hc : X.calm = true) (hs : WL X es t) (hn : (assignEach es X.env).length = n := by rfl) (qe : (assignEach es X.env).findIdx? (·.1) = none := by rfl) : PG X (.Tuple es k pos) (GW K n t) := by rw [<- h]; exact uR hc hs hn qe
theorem M7 {f : Str} (h : X.K = K) (ha : PE X a ta) (hb : attributeBase a f X.env (eval a X.env) = eval a X.env := by rfl) : PE X (.Attribute a f pos) (Ts K ta f) := by rw [<- h]; exact aD ha hb
end
end L2
namespace L2
open PySem PySem.Spec PyProof.Rows PySem.W
inductive kl (H : Hp) : List (Key × V) -> List (Str × PyData) -> Prop where
 | nil : kl H [] []
 | cons {k : Str} {v : V} {d : PyData} {ax : List (Key × V)} {m : List (Str × PyData)} (h : Dv H v d) (i : yI d = true) (r : kl H ax m) : kl H ((.inr k, v) :: ax) ((k, d) :: m)
theorem kl.zK {H H' : Hp} (t : ∀ a xs, H a = some (.tup xs) -> H' a = some (.tup xs)) : ∀ {ax : List (Key × V)} {m : List (Str × PyData)}, kl H ax m -> kl H' ax m
 | _, _, .nil => .nil
 | _, _, .cons h i r => .cons (h.zK t i) i (kl.zK t r)
theorem kl.length {H : Hp} : ∀ {ax : List (Key × V)} {m : List (Str × PyData)}, kl H ax m -> ax.length = m.length
 | _, _, .nil => rfl
 | _, _, .cons _ _ r => by simp [kl.length r]
def qp (m : List (Str × PyData)) (k : Str) : Option PyData := (m.find? fun kv => decide (kv.1 = k)).map (·.2)
def putD (m : List (Str × PyData)) (k : Str) (d : PyData) : List (Str × PyData) := if (m.any fun kv => decide (kv.1 = k)) = true then m.map (fun kv => if kv.1 = k then (kv.1, d) else kv) else m ++ [(k, d)]
def pq (m : List (Str × PyData)) (k : Str) : List (Str × PyData) := m.filter fun kv => decide (kv.1 ≠ k)
theorem PN {a b : Str} : ((Sum.inr a : Key) = Sum.inr b) = (a = b) := propext ⟨fun h => Sum.inr.inj h, fun h => by rw [h]⟩
theorem kl.val {H : Hp} {k : Str} : ∀ {ax : List (Key × V)} {m : List (Str × PyData)}, kl H ax m -> (∀ d, qp m k = some d -> ∃ v, kQ ax (.inr k) = some v /\ Dv H v d) /\ (qp m k = none -> kQ ax (.inr k) = none)
 | _, _, .nil => ⟨fun d h => by simp [qp] at h, fun _ => rfl⟩
 | _, _, .cons (k := j) h i r => by
   obtain ⟨h1, h2⟩ := kl.val (k := k) r
   by_cases e : j = k
   . subst e
     refine ⟨fun d hd => ⟨_, o8 rfl, ?_⟩, fun hd => by simp [qp] at hd⟩
     simp [qp] at hd
     subst hd; exact h
   . have e' : (Sum.inr j : Key) ≠ .inr k := fun z => e (Sum.inr.inj z)
     have el : ∀ (d : PyData) (m : List (Str × PyData)), qp ((j, d) :: m) k = qp m k := fun d m => by simp [qp, List.find?_cons, e]
     refine ⟨fun d hd => ?_, fun hd => ?_⟩
     . rw [el] at hd
       obtain ⟨v, hv, lM⟩ := h1 d hd
       exact ⟨v, by rw [kU e']; exact hv, lM⟩
     . rw [el] at hd
       rw [kU e']; exact h2 hd
theorem kl.any {H : Hp} {k : Str} : ∀ {ax : List (Key × V)} {m : List (Str × PyData)}, kl H ax m -> (ax.any fun kv => decide (kv.1 = .inr k)) = m.any fun kv => decide (kv.1 = k)
 | _, _, .nil => rfl
 | _, _, .cons h i r => by
   simp only [List.any_cons, kl.any r, PN]
theorem kl.append {H : Hp} : ∀ {ax Wr : List (Key × V)} {m m' : List (Str × PyData)}, kl H ax m -> kl H Wr m' -> kl H (ax ++ Wr) (m ++ m')
 | _, _, _, _, .nil, s => s
 | _, _, _, _, .cons h i r, s => .cons h i (kl.append r s)
theorem kl.repl {H : Hp} {k : Str} {v : V} {d : PyData} (hv : Dv H v d) (hi : yI d = true) : ∀ {ax : List (Key × V)} {m : List (Str × PyData)}, kl H ax m -> kl H (ax.map fun kv => if kv.1 = .inr k then (kv.1, v) else kv) (m.map fun kv => if kv.1 = k then (kv.1, d) else kv)
 | _, _, .nil => .nil
 | _, _, .cons (k := j) h i r => by
   rw [List.map_cons, List.map_cons]
   by_cases e : j = k
   . subst e
     rw [if_pos rfl, if_pos rfl]
     exact .cons hv hi (kl.repl hv hi r)
   . rw [if_neg (fun z => e (Sum.inr.inj z)), if_neg e]
     exact .cons h i (kl.repl hv hi r)
theorem kl.put {H : Hp} {k : Str} {v : V} {d : PyData} {ax : List (Key × V)} {m : List (Str × PyData)} (r : kl H ax m) (hv : Dv H v d) (hi : yI d = true) : kl H (putK ax (.inr k) v) (putD m k d) := by
 unfold putK putD
 rw [r.any]
 by_cases h : (m.any fun kv => decide (kv.1 = k)) = true
 . rw [if_pos h, if_pos h]; exact r.repl hv hi
 . rw [if_neg h, if_neg h]; exact r.append (.cons hv hi .nil)
theorem kl.drop {H : Hp} {k : Str} : ∀ {ax : List (Key × V)} {m : List (Str × PyData)}, kl H ax m -> kl H (ni ax (.inr k)) (pq m k)
 | _, _, .nil => .nil
 | _, _, .cons (k := j) h i r => by
   by_cases e : j = k
   . subst e
     have := kl.drop (k := j) r
     simpa [ni, pq] using this
   . have := kl.drop (k := k) r
     have e' : (Sum.inr j : Key) ≠ .inr k := fun z => e (Sum.inr.inj z)
     simp only [ni, pq, List.filter_cons] at this ⊢
     rw [if_pos (by simpa using e'), if_pos (by simpa using e)]
     exact .cons h i this
def la (H : Hp) (p : Addr) (m : List (Str × PyData)) : Prop := ∃ ax, H p = some (.dK ax) /\ kl H ax m
theorem la.keeps {H H' : Hp} {p : Addr} {m : List (Str × PyData)} (s : az H H') (h : la H p m) : la H' p m := let ⟨ax, e, d⟩ := h; ⟨ax, s _ _ e, d.zK fun a xs e => s _ _ e⟩
theorem la.mv {S : List Addr} {H H' : Hp} {p : Addr} {m : List (Str × PyData)} (v : Mv S H H') (n : p ∉ S) (h : la H p m) : la H' p m := let ⟨ax, e, d⟩ := h; ⟨ax, v.at n e, d.zK v.tp⟩
section
variable {σ : St} {H : Hp} {Q : VK} {D : Ends} {K : PySem.W.Frag} {p : Addr} {m : List (Str × PyData)} {k : Str}
theorem RV (h : ∀ p H2, az H H2 -> H p = none -> la H2 p [] -> Q (.ref p) H2) : LD σ H Q := fun p hp => h p _ (bw hp) hp ⟨[], au, .nil⟩
theorem PB {td ty tv : TE} (h : tv σ H fun v H1 => td σ H1 fun x H2 => ty σ H2 fun y H3 => ∃ a H4, x = .ref a /\ CU H3 a y v H4 /\ D.nx σ H4) : Qr td ty tv D σ H := h
theorem La {v : V} {d : PyData} {R : Hp -> Prop} (hp : la H p m) (hl : m.length <= 4000) (hv : Dv H v d) (hi : yI d = true) (h : ∀ H2, Mv [p] H H2 -> la H2 p (putD m k d) -> R H2) : ∃ a H4, V.ref p = .ref a /\ CU H a (.str k) v H4 /\ R H4 := by
 obtain ⟨ax, e, dk⟩ := hp
 have mv : Mv [p] H (upd H p (.dK (putK ax (.inr k) v))) := .cO e (by intro _ z; cases z)
 exact ⟨p, _, rfl, CU.k (k := .inr k) e (by rw [dk.length]; exact dQ hl), h _ mv ⟨_, au, (dk.put hv hi).zK mv.tp⟩⟩
theorem O0 {td ty : TE} (h : td σ H fun x H1 => ty σ H1 fun y H2 => ∃ a v, x = .ref a /\ g8 H2 a y (some v) /\ Q v H2) : Qi td ty σ H Q := h
theorem TN {d : PyData} {R : V -> Prop} (hp : la H p m) (hk : qp m k = some d) (h : vW H d fun v _ => R v) : ∃ a v, V.ref p = .ref a /\ g8 H a (.str k) (some v) /\ R v := by
 obtain ⟨ax, e, dk⟩ := hp
 obtain ⟨v, hv, hd⟩ := (dk.val (k := k)).1 d hk
 exact ⟨p, v, rfl, by rw [<- hv]; exact g8.k (k := .inr k) e, h.use hd⟩
theorem Ul {td ty : TE} (h : ty σ H fun y H1 => td σ H1 fun x H2 => ∃ a o, x = .ref a /\ g8 H2 a y o /\ Q (.bl o.isSome) H2) : W3 ty td σ H Q := h
theorem Pz {td ty : TE} (h : ty σ H fun y H1 => td σ H1 fun x H2 => ∃ a o, x = .ref a /\ g8 H2 a y o /\ Q (.bl (!o.isSome)) H2) : FY ty td σ H Q := h
theorem Yf (hp : la H p m) (k : Str) : ∃ o, g8 H p (.str k) o /\ o.isSome = (qp m k).isSome := by
 obtain ⟨ax, e, dk⟩ := hp
 refine ⟨kQ ax (.inr k), g8.k (k := .inr k) e, ?_⟩
 obtain ⟨h1, h2⟩ := dk.val (k := k)
 cases hl : qp m k with
 | none => rw [h2 hl]; rfl
 | some d => obtain ⟨v, hv, _⟩ := h1 d hl; rw [hv]; rfl
theorem V0 {R : Option V -> Prop} (hp : la H p m) (h : ∀ o : Option V, o.isSome = (qp m k).isSome -> R o) : ∃ a o, V.ref p = .ref a /\ g8 H a (.str k) o /\ R o := by
 obtain ⟨o, g, e⟩ := Yf hp k
 exact ⟨p, o, rfl, g, h o e⟩
theorem Oq {r r' : R2} {ta tb tc : TE} (h : ta σ H fun x H1 => tb σ H1 fun y H2 => r x y H2 fun z H3 => ∃ k, z = .bl k /\ if k = true then tc σ H3 fun u H4 => r' y u H4 Q else Q (.bl false) H3) : Ki r r' ta tb tc σ H Q := h
end
end L2
namespace L2
theorem abU {t : TE} {σ : St} {H : Hp} {Q : Bool -> Hp -> Prop} (h : t σ H fun x H' => ∃ k, x = .bl k /\ Q k H') : tB t σ H Q := h
end L2
namespace L2
open PySem
theorem yy {Hb : Hp} {σ : St} {H : Hp} {D : Ends} {K : PySem.W.Frag} {v : V} {α : Type} {cs : List α} {gd : α -> PyData} {g : TG} {tb : TS} (hl : Dv Hb v (.list (cs.map gd))) (Pv : Nat -> St -> Hp -> Prop) (h0 : Pv 0 σ H) (hk : ∀ i σ H', i <= cs.length -> Pv i σ H' -> ∀ a xs, v = .ref a -> fj K Hb a xs -> fj K H' a xs)
 (hs : ∀ i c x σ H', cs[i]? = some c -> Pv i σ H' -> (yI (gd c) = true -> (∀ a xs, Hb a = some (.tup xs) -> H' a = some (.tup xs)) -> Dv H' x (gd c)) -> (az Hb H' -> Dv H' x (gd c)) -> g x σ H' fun σ2 H2 => tb { D with nx := Pv (i + 1), ct := Pv (i + 1), bk := D.nx } σ2 H2) (hd : ∀ σ H', Pv cs.length σ H' -> D.nx σ H') : Tq K v g tb D σ H := by
 obtain ⟨p, xs, rfl, e, dv⟩ := hl.lst_inv
 have HS : xs.length = cs.length := by rw [dv.length, List.length_map]
 refine forL (hk 0 σ H (Nat.zero_le _) h0 p xs rfl (e K)) Pv h0 (fun i σ H' hi hp => hk i σ H' (by omega) hp p xs rfl (e K)) (fun i x σ H' hx hp => ?_) (fun σ H' hp => hd σ H' (by rw [<- HS]; exact hp))
 have hi : i < cs.length := by have := (List.getElem?_eq_some_iff.mp hx).1; omega
 obtain ⟨x', vK, lM⟩ := dv.get (i := i) (d := gd cs[i]) (by rw [List.getElem?_map, List.getElem?_eq_getElem hi]; rfl)
 rw [hx] at vK
 cases vK
 exact hs i cs[i] x σ H' (List.getElem?_eq_getElem hi) hp (fun im t => lM.zK t im) (fun s => lM.keeps s)
end L2
namespace L2
open PySem PySem.Spec PyProof.Rows PySem.W
section
variable {X : Cx} {tg : Expr}
section
variable {σ : St} {H : Hp} {Q : VK} {D : Ends} {K : PySem.W.Frag}
end
end
end L2
namespace L2
open PySem
section
variable {H : Hp} {Q : VK} {K : PySem.W.Frag}
end
end L2
namespace L2
open PySem PySem.Spec PyProof.Rows PySem.W
section
variable {X : Cx}
end
section
variable {σ : St} {H : Hp} {Q : VK} {D : Ends} {K : PySem.W.Frag} {p : Addr} {ds : List PyData}
theorem cB.drop {H : Hp} : ∀ {xs : List V} {ds : List PyData} (n : Nat), cB H xs ds -> cB H (xs.drop n) (ds.drop n)
 | _, _, 0, h => h
 | _, _, _ + 1, .nil => .nil
 | _, _, n + 1, .cons _ r => cB.drop n r
theorem cB.take {H : Hp} : ∀ {xs : List V} {ds : List PyData} (n : Nat), cB H xs ds -> cB H (xs.take n) (ds.take n)
 | _, _, 0, _ => .nil
 | _, _, _ + 1, .nil => .nil
 | _, _, n + 1, .cons h r => .cons h (cB.take n r)
theorem Ca {ds : List PyData} (n : Nat) (h : b6 ds = true) : b6 (ds.take n) = true := by
 rw [ji] at *
 exact fun d hd => h d (List.mem_of_mem_take hd)
theorem TL (xs : List V) (j : Nat) : En xs none (some (j : Int)) = xs.take j := by
 have h1 : HT.yH xs.length xs.length (some (j : Int)) = min j xs.length := by
  simp only [HT.yH]
  rw [if_neg (by omega)]
  omega
 have h2 : HT.yH xs.length 0 none = 0 := rfl
 show (xs.drop (HT.yH xs.length 0 none)).take (HT.yH xs.length xs.length (some (j : Int)) - HT.yH xs.length 0 none) = _
 rw [h1, h2, List.drop_zero, Nat.sub_zero]
 by_cases h : j <= xs.length
 . rw [Nat.min_eq_left h]
 . rw [List.take_of_length_le (show xs.length <= min j xs.length by omega), List.take_of_length_le (show xs.length <= j by omega)]
theorem LA (j : Nat) (hp : dJ H p ds) (k : ∀ q H', az H H' -> H q = none -> dJ H' q (ds.take j) -> Q (.ref q) H') : U2 K (.ref p) none (some (j : Int)) H Q := by
 obtain ⟨xs, e, dv, im⟩ := hp
 refine ⟨p, xs, rfl, fj.of e, fun q hq => ?_⟩
 rw [TL]
 exact k q _ (bw hq) hq (F0 hq (dv.take j) (Ca j im))
end
end L2
namespace L2
open PySem PySem.Calls PyProof.Rows
section
variable {X : Cx} {e k : Expr} {te tk : TE} {pos p2 : Pos}
end
section
variable {X : Cx}
end
section
variable {K : PySem.W.Frag} {σ : St} {H : Hp} {Q : VK} {p : Addr} {ds : List PyData}
end
end L2
namespace L2
open PySem PySem.Spec PyProof.Rows PySem.W
section
variable {X : Cx}
end
section
variable {prog : Program} {w : World} {A : Around} {E : Value -> Shared -> Prop} {s : Shared} {it l : Addr} {bb : Array Value}
end
section
variable {X : Cx} {e : Expr} {te : TE} {p p2 pos aah : Pos}
end
section
variable {K : PySem.W.Frag} {σ : St} {H : Hp} {Q : VK} {p : Addr} {ds : List PyData} {v : V}
theorem Yt {ns : List Int} {i : Int} (hp : Dv H v (.list (ns.map PyData.int))) (h0 : 0 <= i) (h1 : i < ns.length) (h : ∀ n ∈ ns, Q (.int n) H) : Bc K v (.int i) H Q := by
 obtain ⟨m, rfl⟩ := Int.eq_ofNat_of_zero_le h0
 have hi : m < ns.length := by omega
 have e : uj (ns.map PyData.int) (m : Int) = some (.int ns[m]) := wj (by rw [List.getElem?_map, List.getElem?_eq_getElem hi]; rfl)
 exact zv (.inr hp) e (Fg (h _ (List.getElem_mem hi)))
end
section
variable {P : Program} {w : World} {H : Hp} {h : Heap} {d : Addr} {o : Obj} {ax : List (Key × V)}
theorem k8.n8 (ok : k8 P w H h) (hd : H d = some (.dK ax)) (ho : h.get? d = some o) : k8 P w (upd H d (.n8 o (.dK ax))) h := by
 intro b u q
 by_cases hb : b = d
 . subst hb
   rw [au] at q
   cases q
   exact ⟨ho, ok b _ hd⟩
 . rw [aw hb] at q
   refine (ok b u q).iF (fun c v _ r => r) (fun c r => ?_) fun c xs r => ?_
   . rw [aw (kL r hd (by intro z; cases z))]; exact r
   . rw [aw (kL r hd (by intro z; cases z))]; exact r
theorem k8.Si (ok : k8 P w H h) (hd : H d = some (.n8 o (.dK ax))) : k8 P w (upd H d (.dK ax)) h := by
 intro b u q
 by_cases hb : b = d
 . subst hb
   rw [au] at q
   cases q
   exact (ok b _ hd).2
 . rw [aw hb] at q
   refine (ok b u q).iF (fun c v _ r => r) (fun c r => ?_) fun c xs r => ?_
   . rw [aw (kL r hd (by intro z; cases z))]; exact r
   . rw [aw (kL r hd (by intro z; cases z))]; exact r
end
section
variable {X : Cx} {pins : List (Addr × Obj)} {σ : St} {H : Hp} {s : Shared} {d : Addr} {o : Obj} {ax : List (Key × V)}
theorem Inv.freeze (I : Inv X pins σ H s) (hd : H d = some (.dK ax)) (ho : s.heap.get? d = some o) : Inv X pins σ (upd H d (.n8 o (.dK ax))) s := by
 have u : Un X.fs [] H (upd H d (.n8 o (.dK ax))) s.heap s.heap := {
  keep := fun b u e n _ _ => e
  slot := fun b u e n _ _ => ⟨u.slots, e⟩
  free := fun b u e n _ => by rw [aw (Ne.symm (aG hd n))]; exact n
  there := fun b u e _ => ⟨u, e⟩
  lS := fun b xs e => by rw [aw (kL e hd (by intro z; cases z))]; exact e
  j7 := fun b u v e => by rw [aw (kL e hd (by intro z; cases z))]; exact e
  pM := fun b ps e => ⟨#[], by rw [aw (kL e hd (by intro z; cases z)), e]; simp⟩ }
 exact I.un (h' := s.heap) (t' := s.toks) u (I.aP.n8 hd ho)
theorem Inv.Si (I : Inv X pins σ H s) (hd : H d = some (.n8 o (.dK ax))) (h0 : ∀ u v, X.EX d ≠ some (.n8 u v)) : Inv X pins σ (upd H d (.dK ax)) s := by
 have nn : ∀ b, H b = none -> upd H d (.dK ax) b = none := fun b n => by rw [aw (Ne.symm (aG hd n))]; exact n
 refine ⟨I.ok, I.os, I.bare, ⟨I.base.keep, I.base.slot, fun b u e n x => nn b (I.base.free b u e n x), I.base.there, fun b xs e => ?_, fun b u v e => ?_, fun b ps e => ?_⟩, I.loc, I.cell, nn _ I.free, fun x c e => nn c (I.eG x c e), fun p hp => ?_, I.aP.Si hd, I.len⟩
 . have z := I.base.lS b xs e
   rw [aw (kL z hd (by intro q; cases q))]; exact z
 . have z := I.base.j7 b u v e
   have hb : b ≠ d := fun q => h0 u v (q ▸ e)
   rw [aw hb]; exact z
 . obtain ⟨m, z⟩ := I.base.pM b ps e
   exact ⟨m, by rw [aw (kL z hd (by intro q; cases q))]; exact z⟩
 . obtain ⟨a1, a2, a3⟩ := I.pin p hp
   exact ⟨a1, nn _ a2, a3⟩
theorem Inv.W7 (I : Inv X pins σ H s) (hd : H d = some (.dK ax)) : ∀ u v, X.EX d ≠ some (.n8 u v) := fun u v z => by
 have := I.base.j7 d u v z
 rw [hd] at this
 cases this
def QB (t : TE) : TE := fun σ H Q => ∃ d ax, H d = some (.dK ax) /\ t σ H fun v H' => (∃ o, H' d = some (.n8 o (.dK ax))) /\ Q v (upd H' d (.dK ax))
theorem Gk {e : Expr} {t : TE} (h : PE X e t) : PE X e (QB t) := by
 intro pins s σ H Q I ⟨d, ax, hd, ht⟩
 have h0 := I.W7 hd
 exact cm (h pins s σ H _ I ht) fun v s1 ⟨x, H1, I1, r, ⟨o, ho⟩, q⟩ => ⟨x, _, I1.Si ho h0, r, q⟩
end
theorem Gd {P : Program} {w : World} {H : Hp} {h : Heap} {d : Addr} {o : Obj} {ax : List (Key × V)} {es : Array DictEntry} {ep : Nat} (ok : k8 P w H h) (hd : H d = some (.n8 o (.dK ax))) (he : o.data = .dict es ep) : (d == sysModules) = false /\ ∃ vs, KV ax vs /\ h.DictAt (aY P w) d vs ep := by
 obtain ⟨ho, _, hs, vs, kv, o2, es2, ep2, a1, a2, a3, a4⟩ := ok d _ hd
 rw [ho] at a1
 cases a1
 rw [he] at a3
 cases a3
 exact ⟨hs, vs, kv, _, _, ho, a2, he, a4⟩
theorem si {α β : Type} {F : α -> β -> Prop} : ∀ {xs : List α} {ys : List β}, Paired F xs ys -> ∀ {i : Nat} {x : α}, xs[i]? = some x -> ∃ y, ys[i]? = some y /\ F x y
 | _, _, .nil, i, x, h => by simp at h
 | _, _, .cons r t, 0, x, h => by
   have e := Option.some.inj h
   exact ⟨_, rfl, e ▸ r⟩
 | _, _, .cons r t, i + 1, x, h => by
   obtain ⟨y, e, q⟩ := si t (i := i) (by simpa using h)
   exact ⟨y, by simpa using e, q⟩
theorem B5 {k : Key} {v : Value} (h : w6 k v = true) : RelV (kV k) v := by
 rcases cA h with ⟨i, t, rfl, rfl⟩ | ⟨x, t, rfl, rfl⟩
 . exact ⟨t, rfl⟩
 . exact ⟨t, rfl⟩
def YK (H : Hp) (p : Addr) (m : List (Str × PyData)) : Prop := ∃ ax, Rd H p (.dK ax) /\ kl H ax m
theorem la.rd {H : Hp} {p : Addr} {m : List (Str × PyData)} (h : la H p m) : YK H p m := let ⟨ax, e, d⟩ := h; ⟨ax, .inl e, d⟩
theorem kl.Od {H : Hp} : ∀ {ax : List (Key × V)} {m : List (Str × PyData)}, kl H ax m -> ∀ {i : Nat} {kv : Key × V}, ax[i]? = some kv -> ∃ k d, m[i]? = some (k, d) /\ kv.1 = .inr k /\ Dv H kv.2 d
 | _, _, .nil, i, kv, h => by simp at h
 | _, _, .cons (k := k) (d := d) hv _ r, 0, kv, h => by
   have e := (Option.some.inj h).symm
   subst e
   exact ⟨k, d, rfl, rfl, hv⟩
 | _, _, .cons _ _ r, i + 1, kv, h => by
   obtain ⟨k, d, e, q⟩ := kl.Od r (i := i) (by simpa using h)
   exact ⟨k, d, by simpa using e, q⟩
section
variable {σ : St} {H : Hp} {Q : VK} {K : PySem.W.Frag} {p : Addr} {m : List (Str × PyData)} {k : Str}
end
section
variable {X : Cx}
def Lh : V -> List V -> Hp -> VK -> Prop := fun x vs H Q => ∃ a ax k v, x = .ref a /\ vs = [kV k] /\ H a = some (.dK ax) /\ kQ ax k = some v /\ Q v (upd H a (.dK (ni ax k)))
theorem qd : Vn X "dict.pop" Lh := by
 intro pins s σ H x vs v us Q I rx rv h
 obtain ⟨a, ax, k, y, rfl, rfl, hH, hv, q⟩ := h
 cases rx
 obtain ⟨u, rfl, ru⟩ := rv.one
 exact W5 I hH ru hv (.inl rfl) fun w' s' I' r => ⟨y, _, I', r, q⟩
end
section
variable {σ : St} {H : Hp} {Q : VK} {K : PySem.W.Frag} {p : Addr} {m : List (Str × PyData)} {k : Str}
theorem B7 {R : Prop} (hp : la H p m) (h : R) : QI K "dict" (.ref p) H /\ R := let ⟨ax, e, _⟩ := hp; ⟨.inr (.inr (.inl ⟨rfl, .inl ⟨ax, e⟩⟩)), h⟩
theorem Bx {d : PyData} (hp : la H p m) (hk : qp m k = some d) (h : ∀ v H2, Mv [p] H H2 -> la H2 p (pq m k) -> Q v H2) : Lh (.ref p) [.str k] H Q := by
 obtain ⟨ax, e, dk⟩ := hp
 obtain ⟨v, hv, hd⟩ := (dk.val (k := k)).1 d hk
 have mv : Mv [p] H (upd H p (.dK (ni ax (.inr k)))) := .cO e (by intro _ z; cases z)
 refine ⟨p, ax, .inr k, v, rfl, rfl, e, hv, h v _ mv ⟨_, au, dk.drop.zK mv.tp⟩⟩
end
section
variable {σ : St} {H : Hp} {Q : VK} {K : PySem.W.Frag} {p : Addr}
end
section
variable {X : Cx}
end
theorem yq {h : Heap} {o u : Obj} {b : Addr} (e : (h.push o).get? b = some u) (n : b ≠ h.objs.size) : h.get? b = some u := by
 obtain ⟨e1, e2⟩ := Heap.get?_some_iff.mp e
 refine Heap.get?_some_iff.mpr ⟨?_, e2⟩
 cases h
 simpa [Heap.push, Array.getElem?_push, n] using e1
section
variable {prog : Program} {w : World} {K : Type} [DecidableEq K] {knd : KeyKind prog w K} {A : Around} {E : Value -> Shared -> Prop} {s : Shared} {d : Addr} {ax : List (K × Value)} {ep : Nat}
theorem J2 {R : Result -> Shared -> Prop} (hh : A.handled = none) (hd : (d == sysModules) = false) (y : Addr) (c0 : Nat) (hz : ax.length <= sizeLine) (hm : s.heap.DictAt knd d ax ep)
 (hy : s.heap.get? y = some { cls := .type "list", data := .seq #[] c0 }) (Zy : y ≠ d)
 (hR : ∀ s' acc c, s'.gens = s.gens -> s'.drawn = s.drawn -> s'.os = s.os -> (∀ b o, b ≠ y -> s.heap.get? b = some o -> s'.heap.get? b = some o) -> s'.heap.get? y = some { cls := .type "list", data := .seq acc c } -> ItemsOf (fun i v => ∃ k x, ax[i]? = some (k, x) /\ knd.is k v = true) acc ax.length -> R (.ok (.ret .none)) s') :
 wpAny (model prog w) A.in1 (Builtin.List.listExtendWith (.ref y) (.ref d) .none)
  (fun f s' => match f with | .done g => R (.ok g) s' | .again c => c.quiet = true /\ codeAny (model prog w) A c R s') (fun e s' => R (.error e) s') s := by
 have hT : s.TypeIs (.ref d) "dict" := hm.dictOf.typeIs
 have hyl : y < s.heap.objs.size := Heap.lt_size hy
 have AB : d < s.heap.objs.size := hm.lt_size
 have W := (Walks.dictKeys (knd := knd) (A := A.in1) hh s.heap.objs.size d (Nat.ne_of_lt AB) ax ep).toS
 have nf : y ∉ [s.heap.objs.size, d] := by simp [Zy, Nat.ne_of_lt hyl]
 unfold Builtin.List.listExtendWith
 refine wpAny_bind (wpAny_typeOf hT ?_)
 have a1 : Builtin.List.listSameRef (.ref y) (.ref d) = false := by simp [Builtin.List.listSameRef, Zy]
 have a2 : (Value.type "dict" == Value.type "list") = false := by decide
 have a3 : (Value.type "dict" == Value.type "tuple") = false := by decide
 simp only [a1, a2, a3, Bool.or_self, Bool.false_eq_true, if_false]
 refine wpAny_bind (wpAny_pyIter_dict hd hm ?_)
 refine wpAny_bind (wpAny_holding ?_)
 have hT1 : Shared.TypeIs { s with heap := s.heap.push { cls := .type "dict_keyiterator", data := .fields #[.ref d, .int 0 0, .int ax.length 0, .int ep 0] } } (.ref d) "dict" := by
  obtain ⟨o, es, e, c, _⟩ := id hm
  exact ⟨o, Heap.get?_push_of_some _ e, c.1⟩
 unfold Builtin.List.listLengthHint
 refine wpAny_bind (wpAny_specialOf hT1 F.slot_dict_len.lookup ?_)
 generalize hid : ("dict.__len__" : String) = id0
 wp_delta
 rw [show splitId id0 = some ("dict", "__len__") from by subst hid; decide +kernel]
 subst hid
 refine wpAny_bind (wpAny_isInstance (T := "dict") (b := true) hT1 (by rw [isSubtype_type]; kernel_rfl) ?_)
 refine wpAny_ite_split (fun Vc => absurd Vc (by decide)) (fun _ => ?_)
 refine wpAny_ite_split (fun _ => ?_) (fun Vc => absurd (by decide +kernel) Vc)
 refine wpAny_bind (wpAny_typeOf hT1 (wpAny_pure ?_))
 show wpAny _ A.in1 (rule "list.extend.makes-room" >>= fun _ => Builtin.List.listTouch (.ref y) >>= fun _ =>
  again (.builtin "list.extend.loop" ⟨[.ref y, .ref s.heap.objs.size, .none], []⟩)) _ _ _
 refine wpAny_bind (wpAny_rule ?_)
 have QQ := Heap.get?_push_of_some { cls := .type "dict_keyiterator", data := .fields #[.ref d, .int 0 0, .int ax.length 0, .int ep 0] } hy
 refine wpAny_bind ?_
 show wpAny _ A.in1 (updateSeq y (·.push .none) >>= fun _ => updateSeq y (·.pop)) _ _ _
 refine wpAny_bind (wpAny_updateSeq QQ rfl ?_)
 have Ue := Heap.get?_update_self (Obj.mapSeq (·.push Value.none)) QQ rfl
 refine wpAny_updateSeq (hz := by seq_fits) Ue rfl ?_
 have Rz := Heap.get?_update_self (Obj.mapSeq (·.pop)) Ue rfl
 have ot : ∀ b o, b ≠ y -> (s.heap.push { cls := .type "dict_keyiterator", data := .fields #[.ref d, .int 0 0, .int ax.length 0, .int ep 0] }).get? b = some o -> (((s.heap.push { cls := .type "dict_keyiterator", data := .fields #[.ref d, .int 0 0, .int ax.length 0, .int ep 0] }).update y (Obj.mapSeq (·.push Value.none))).update y (Obj.mapSeq (·.pop))).get? b = some o :=
  fun b o hb e => (Heap.get?_update_other _ _ (Ne.symm hb)).trans ((Heap.get?_update_other _ _ (Ne.symm hb)).trans e)
 have it0 : Heap.IsKeyIter (s.heap.push { cls := .type "dict_keyiterator", data := .fields #[.ref d, .int 0 0, .int ax.length 0, .int ep 0] }) s.heap.objs.size d 0 ax.length ep := ⟨_, Heap.get?_push_size _ rfl, rfl, rfl⟩
 refine wpAny_pure ⟨plainId_quiet F.plain_extend_loop _, codeAny_extend_loopS W hz _ nf _ ax.length 0 _ _ _ rfl (Nat.zero_le _) ⟨it0.at fun o e => ot _ o (Ne.symm (Nat.ne_of_lt hyl)) e, (hm.push _).at' fun o e => ot _ o (Ne.symm Zy) e⟩ Rz (ItemsOf.nil _) fun s' acc c Zb hs gT => ?_⟩
 refine hR s' acc c Zb.gens Zb.drawn Zb.os (fun b o hb e => Zb.heap b o ?_ (ot b o hb (Heap.get?_push_of_some _ e))) hs gT
 simp [hb, Nat.ne_of_lt (Heap.lt_size e)]
theorem xS {Q : Value -> Shared -> Prop} (hh : A.handled = none) (hd : (d == sysModules) = false) (hz : ax.length <= sizeLine) (hm : s.heap.DictAt knd d ax ep)
 (hQ : ∀ s' acc c, s'.gens = s.gens -> s'.drawn = s.drawn -> s'.os = s.os -> (∀ b o, s.heap.get? b = some o -> s'.heap.get? b = some o) -> s'.heap.get? s.heap.objs.size = some { cls := .type "list", data := .seq acc c } -> ItemsOf (fun i v => ∃ k x, ax[i]? = some (k, x) /\ knd.is k v = true) acc ax.length -> Q (.ref s.heap.objs.size) s') :
 wpAny (model prog w) A (call (.type "list") [.ref d]) Q E s := by
 have AB : d < s.heap.objs.size := hm.lt_size
 refine callType_codes (Q₁ := fun u s1 => u = .ref s.heap.objs.size /\ s1 = { s with heap := s.heap.push { cls := .type "list", data := .seq #[] } }) F.called_list (F.typeCall_list_1 _) F.entry_list_init (code_list_new _ ⟨rfl, rfl⟩) fun u s1 hu => ?_
 obtain ⟨rfl, rfl⟩ := hu
 have h0 : (s.heap.push { cls := .type "list", data := .seq #[] }).get? s.heap.objs.size = some { cls := .type "list", data := .seq #[] } := Heap.get?_push_size _ rfl
 refine ⟨⟨_, h0, rfl⟩, F.args_list_init_2 _ _, ?_⟩
 show wpAny _ _ (Builtin.List.listItems (.ref s.heap.objs.size) >>= fun old => Builtin.List.listUpdate (.ref s.heap.objs.size) (fun _ => #[]) >>= fun _ => letGo old.toList.reverse >>= fun _ => Builtin.List.listExtendWith (.ref s.heap.objs.size) (.ref d) .none) _ _ _
 refine wpAny_bind ?_
 unfold Builtin.List.listItems
 refine wpAny_bind (wpAny_seqItems h0 rfl (wpAny_pure (wpAny_bind ?_)))
 refine wpAny_updateSeq h0 rfl (wpAny_bind (wpAny_letGo ?_))
 have h2 := Heap.get?_update_self (Obj.mapSeq (fun _ => (#[] : Array Value))) h0 rfl
 have ot : ∀ b o, b ≠ s.heap.objs.size -> s.heap.get? b = some o -> ((s.heap.push { cls := .type "list", data := .seq #[] }).update s.heap.objs.size (Obj.mapSeq (fun _ => (#[] : Array Value)))).get? b = some o := fun b o hb e => by
  rw [Heap.get?_update_other _ _ (Ne.symm hb)]
  exact Heap.get?_push_of_some _ e
 refine J2 (A := A.in1) hh hd _ _ hz (hm.at' fun o e => ot d o (Nat.ne_of_lt AB) e) h2 (Ne.symm (Nat.ne_of_lt AB)) fun s' acc c e1 e2 e3 VB hs gT => ?_
 exact ⟨rfl, hQ s' acc c e1 e2 e3 (fun b o e => VB b o (Nat.ne_of_lt (Heap.lt_size e)) (ot b o (Nat.ne_of_lt (Heap.lt_size e)) e)) hs gT⟩
end
section
variable {X : Cx}
def IX : List V -> Hp -> VK -> Prop := fun xs H Q => ∃ p ax, xs = [.ref p] /\ Rd H p (.dK ax) /\ ∀ q, H q = none -> Q (.ref q) (upd H q (.lst (ax.map fun kv => kV kv.1)))
theorem D6 {P : Program} {w : World} {ax : List (Key × V)} {vs : List (Key × Value)} {acc : Array Value} (kv : KV ax vs) (h : ItemsOf (fun i v => ∃ k x, vs[i]? = some (k, x) /\ (aY P w).is k v = true) acc vs.length) : Vals (ax.map fun kv => kV kv.1) acc.toList := by
 obtain ⟨h0, h1⟩ := h
 have key : ∀ (ax : List (Key × V)) (vs : List (Key × Value)), KV ax vs -> ∀ l : List Value, l.length = vs.length -> (∀ (i : Nat) (v : Value), l[i]? = some v -> ∃ k x, vs[i]? = some (k, x) /\ (aY P w).is k v = true) -> Vals (ax.map fun kv => kV kv.1) l := by
  intro ax vs r
  induction r with
  | nil =>
    intro l hl _
    cases l with
    | nil => exact .nil
    | cons => simp at hl
  | cons r t ih =>
    intro l hl hi
    cases l with
    | nil => simp at hl
    | cons v l =>
      refine .cons ?_ (ih l (by simpa using hl) fun i v e => ?_)
      . obtain ⟨k, x, e, hk⟩ := hi 0 v rfl
        have e' := Option.some.inj e
        dsimp only
        rw [r.1, e']
        exact B5 hk
      . exact hi (i + 1) v (by simpa using e)
 exact key ax vs kv acc.toList (by simpa using h0) fun i v e => h1 i v (by simpa using e)
theorem DL (hc : X.calm = true) : p8 X (.type "list") IX := by
 intro pins s σ H xs us Q I rv h
 obtain ⟨p, ax, rfl, hH, q⟩ := h
 obtain ⟨u, rfl, ru⟩ := rv.one
 cases ru
 have ob : bI X.prog X.w H s.heap p (.dK ax) := by
  rcases hH with e | ⟨o, e⟩
  . exact I.aP p _ e
  . exact (I.aP p _ e).2
 obtain ⟨hz, hs, vs, kv, dof⟩ := ob
 obtain ⟨ep, da⟩ := dof.dictAt
 have hlen : vs.length = ax.length := kv.length.symm
 refine xS (I.ok.hd hc) hs (by rw [hlen]; exact hz) da fun s' acc c eg ed eo hk sk gT => ?_
 obtain ⟨h', g', d', tk', Zz⟩ := s'
 have eg : g' = s.gens := eg
 have ed : d' = s.drawn := ed
 have eo : Zz = s.os := eo
 subst eg; subst ed; subst eo
 refine ⟨.ref s.heap.objs.size, _, I.laid (t' := tk') (o := .lst (ax.map fun kv => kV kv.1)) (fun b ob e => hk b ob e) (Nat.le_refl _) ?_, rfl, q _ (I.aP.fresh (Nat.le_refl _))⟩
 exact ⟨by rw [List.length_map]; exact hz, acc.toList, c, D6 kv gT, by simpa using sk⟩
end
section
variable {σ : St} {H : Hp} {Q : VK} {p : Addr} {m : List (Str × PyData)}
theorem kl.keys {H H' : Hp} : ∀ {ax : List (Key × V)} {m : List (Str × PyData)}, kl H ax m -> cB H' (ax.map fun kv => kV kv.1) ((m.map (·.1)).map PyData.str)
 | _, _, .nil => .nil
 | _, _, .cons _ _ r => .cons (.str _) (kl.keys r)
theorem vq : ∀ ss : List Str, b6 (ss.map PyData.str) = true
 | [] => rfl
 | _ :: r => by rw [List.map_cons, b6, vq r]; rfl
theorem NV (hp : YK H p m) (k : ∀ q H', az H H' -> H q = none -> dJ H' q ((m.map (·.1)).map PyData.str) -> Q (.ref q) H') : IX [.ref p] H Q := by
 obtain ⟨ax, e, dk⟩ := hp
 exact ⟨p, ax, rfl, e, fun q hq => k q _ (bw hq) hq (F0 hq dk.keys (vq _))⟩
end
theorem qt : entryFor table "dict_itemiterator.__iter__" = some Builtin.«dict_keyiterator.__iter__» :=
 entryFor_alias (id' := "dict_keyiterator.__iter__") (by kernel_rfl) rfl (by decide +kernel) (by kernel_rfl)
def Iti (d : Addr) (o : Obj) (ax : List (Key × V)) : It := ⟨fun i H => i < ax.length /\ H d = some (.n8 o (.dK ax)), fun i H v H' => ∃ t kv, ax[i]? = some kv /\ v = .ref t /\ H t = none /\ H' = upd H t (.tup [kV kv.1, kv.2]), fun i H => i = ax.length /\ H d = some (.n8 o (.dK ax))⟩
theorem E7 {P : Program} {w : World} {K : PySem.W.Frag} {elts : List Expr} {x1} {pos : Pos} {it d : Addr} {o : Obj} {ax : List (Key × V)} {es : Array DictEntry} {ep : Nat} (he : o.data = .dict es ep) (nZ : d ≠ it) :
 Turn P w K (.Tuple elts x1 pos) (Iti d o ax) [it] it (fun i h => ∃ ok ov, IsItemIter h it d i ax.length ep ok ov) where
 mem := by simp
 obj := fun i h st b hb => by
  have e : b = it := by simpa using hb
  subst e
  obtain ⟨ok, ov, e⟩ := st
  exact ⟨_, e, fun v z => by cases z⟩
 keep := fun i h h' st k => let ⟨ok, ov, e⟩ := st; ⟨ok, ov, k it (by simp) _ e⟩
 item := by
  intro X hP hw hK hc i pins s σ H E I hf st hg
  subst hP hw hK
  obtain ⟨f0, f1, f2, f3, f4, f5⟩ := hf it (by simp)
  obtain ⟨hi, hd⟩ := hg
  obtain ⟨_, vs, kv, da⟩ := Gd I.aP hd he
  have hl : vs.length = ax.length := kv.length.symm
  obtain ⟨ok, ov, st⟩ := st
  obtain ⟨q, hq⟩ : ∃ q, ax[i]? = some q := ⟨_, List.getElem?_eq_getElem hi⟩
  obtain ⟨⟨k, v⟩, hy, Ue⟩ := si kv hq
  have K6 : it < s.heap.objs.size := Heap.lt_size st
  have hn : H s.heap.objs.size = none := I.aP.fresh (Nat.le_refl _)
  refine wpAny_pyNext_items_item (knd := aY X.prog X.w) (by rw [hl]; exact st) da hy fun key h' hk hit ht hz kk => ?_
  rw [hl] at hit
  refine ⟨_, rfl, wpAny_letOwnedTupleGo_items (s := { s with heap := h' }) hit fun h2 abA sb => ?_⟩
  have I1 : Inv X pins σ (upd H s.heap.objs.size (.tup [kV q.1, q.2])) { s with heap := s.heap.push { cls := .type "tuple", data := .seq #[key, v] } } :=
   I.laid (t' := s.toks) (fun b u e => Heap.get?_push_of_some _ e) (Nat.le_refl _) (show bI X.prog X.w _ _ _ (.tup [kV q.1, q.2]) from ⟨by rw [sizeLine_eq]; simp, [key, v], .cons (by rw [Ue.1]; exact B5 hk) (.cons Ue.2 .nil), IsTup.new _ _⟩)
  have Qf : upd H s.heap.objs.size (.tup [kV q.1, q.2]) it = none := by rw [aw (Nat.ne_of_lt K6)]; exact f0
  have I2 : Inv X pins σ (upd H s.heap.objs.size (.tup [kV q.1, q.2])) { s with heap := h2 } := by
   refine Inv.turned (s := { s with heap := s.heap.push { cls := .type "tuple", data := .seq #[key, v] } }) (h' := h2) (t' := s.toks) (it := it) I1 (fun b u hb e => ?_) Qf f1 f3 f4 f5
   by_cases V2 : b = s.heap.objs.size
   . subst V2
     have e0 : (s.heap.push { cls := .type "tuple", data := .seq #[key, v] }).get? s.heap.objs.size = some { cls := .type "tuple", data := .seq #[key, v] } := Heap.get?_push_size _ rfl
     have e1 := e0.symm.trans e
     cases e1
     exact (sb.2 _ hb).trans ht
   . exact (sb.2 _ hb).trans (kk b u hb (yq e V2))
  refine ⟨.ref s.heap.objs.size, _, I2, rfl, ⟨_, q, hq, rfl, hn, rfl⟩, ⟨_, _, abA⟩, fun b hb => ?_⟩
  have e : b = it := by simpa using hb
  rw [e]
  exact Qf
 done := by
  intro X hP hw hK hc i pins s σ H E I hf st hg
  subst hP hw hK
  obtain ⟨f0, f1, f2, f3, f4, f5⟩ := hf it (by simp)
  obtain ⟨hi, hd⟩ := hg
  obtain ⟨_, vs, kv, da⟩ := Gd I.aP hd he
  have hl : vs.length = ax.length := kv.length.symm
  obtain ⟨ok, ov, st⟩ := st
  refine wpAny_pyNext_items_end (knd := aY X.prog X.w) (I.ok.hd hc) (by rw [hl]; exact st) da (by rw [hi, <- hl]; simp) fun h' hx => ⟨rfl, I.turned (t' := s.toks) (fun b u hb e => hx b u hb e) f0 f1 f3 f4 f5⟩
 self := fun A i s Q E st q => by
  obtain ⟨ok, ov, st⟩ := st
  have hT : s.TypeIs (.ref it) "dict_itemiterator" := ⟨_, st, rfl⟩
  refine wpAny_pyIter_slot hT F.slot_dict_itemiterator_iter (wpAny_call_entry F.slot_dict_itemiterator_iter hT qt ?_ (F.args_dict_itemiterator_iter_1 _))
  show wpAny _ _ (ret (.ref it)) _ _ s
  exact wpAny_pure ⟨_, rfl, "dict_itemiterator", _, hT, F.slot_dict_itemiterator_next.lookup, q⟩
def JG (tl : TE) : TI := fun σ H R => tl σ H fun v H1 => ∃ d ax, v = .ref d /\ H1 d = some (.dK ax) /\ ∀ o, R (Iti d o ax) (upd H1 d (.n8 o (.dK ax)))
theorem C8 {X : Cx} {elts : List Expr} {x1} {Mz : Pos} {l : Expr} {tl : TE} {apos dh : Pos} (hl : PE X l tl)
 (sY : attributeBase l "items" X.env (eval l X.env) = eval l X.env := by rfl) (hline : (apos.endLine == dh.line) = true := by rfl) : PI X (.Tuple elts x1 Mz) (.Call (.Attribute l "items" apos) [] [] dh) (JG tl) := by
 intro pins s σ H R I h
 refine wpAny_Call_method0_late sY hline (cm (hl pins s σ H _ I h) fun v s1 ⟨y, H1, I1, r1, q1⟩ => ?_)
 obtain ⟨d, ax, rfl, hd, q⟩ := q1
 obtain ⟨h1, h2⟩ := AW I1 (T := "dict") r1 (.inr (.inr (.inl ⟨rfl, .inl ⟨ax, hd⟩⟩)))
 cases r1
 refine ⟨"dict", "dict.items", PySem.F.plainAttrs_dict, PySem.F.slot_dict_items, PySem.F.type_dict_items, h1, h2, Calls.callWith_builtin rfl (PySem.evalArgs_none ?_)⟩
 obtain ⟨_, hs, vs, kv, o, es, ep, ho, a2, a3, a4⟩ := (show bI X.prog X.w H1 s1.heap d (.dK ax) from I1.aP d _ hd)
 have da : s1.heap.DictAt (aY X.prog X.w) d vs ep := ⟨o, es, ho, a2, a3, a4⟩
 have eI : d < s1.heap.objs.size := Heap.lt_size ho
 have hlen : vs.length = ax.length := kv.length.symm
 refine call_meetsIn PySem.F.slot_dict_items da.dictOf.typeIs PySem.F.entry_dict_items (PySem.F.args_dict_items_1 _) (meets_dict_items (aY X.prog X.w) d hs) ⟨⟨vs, da.dictOf⟩, ?_⟩
 refine wpAny_pyIter_items (v := s1.heap.objs.size) ⟨_, Heap.get?_push_size _ rfl, rfl, rfl⟩ (da.push _) ?_
 have I2 := I1.freeze hd ho
 have hsz : (s1.heap.push { cls := .type "dict_items", data := .fields #[.ref d] }).objs.size = s1.heap.objs.size + 1 := Heap.size_push ..
 refine ⟨_, [_], _, _, _, rfl, I2.kept (t' := s1.toks) fun b u e => Heap.get?_push_of_some _ (Heap.get?_push_of_some _ e), E7 a3 (Nat.ne_of_lt (by rw [hsz]; exact Nat.lt_succ_of_lt eI)), ⟨_, _, by rw [<- hlen]; exact Heap.get?_push_size _ rfl⟩, fun b hb => ?_, q o⟩
 have e : b = (s1.heap.push { cls := .type "dict_items", data := .fields #[.ref d] }).objs.size := by simpa using hb
 subst e
 exact I2.Dj (by rw [hsz]; exact Nat.le_succ _) (I2.aP.fresh (by rw [hsz]; exact Nat.le_succ _))
section
variable {σ : St} {H : Hp} {D : Ends} {p : Addr} {m : List (Str × PyData)} {g : TG} {tb : TS}
end
section
variable {σ : St} {H : Hp} {K : PySem.W.Frag}
theorem wU {x : V} {i j : Nat} {d1 d2 : PyData} {R : St -> Hp -> Prop} (hd : Dv H x (.tuple [d1, d2])) (h : ∀ v1 v2, Dv H v1 d1 -> Dv H v2 d2 -> R ((σ.set i (some v1)).set j (some v2)) H) :
 GW K 2 (uc (jE i) (uc (jE j) Md)) x σ H R := by
 cases hd with
 | tup ha r =>
   cases r with
   | cons h1 r =>
     cases r with
     | cons h2 r =>
       cases r
       exact ⟨_, _, rfl, .of ha, rfl, _, _, rfl, _, _, rfl, rfl, h _ _ h1 h2⟩
end
end L2
namespace L2
open PySem
def UpA (xs : Array Nat) : Prop := ∀ i j, (hi : i < xs.size) -> (hj : j < xs.size) -> i < j -> xs[i] < xs[j]
structure Good (t : SetTable) : Prop where
 up : UpA t.place
 nd : t.dummies = #[]
section
variable {prog : Program} {w : World} {A : Around} {E : Value -> Shared -> Prop} {s : Shared}
end
section
variable {prog : Program} {w : World} {A : Around} {E : Value -> Shared -> Prop} {s : Shared}
end
set_option maxRecDepth 100000
section
variable {prog : Program} {w : World} {A : Around} {E : Value -> Shared -> Prop} {s : Shared} {it a : Addr} {o : Obj} {es : Array (Int × Value)} {ep : Nat} {t : SetTable}
end
section
variable {prog : Program} {w : World} {A : Around} {E : Value -> Shared -> Prop} {s : Shared} {it a : Addr} {o : Obj} {es : Array (Int × Value)} {ep : Nat} {t : SetTable}
end
section
variable {prog : Program} {w : World} {A : Around} {E : Value -> Shared -> Prop} {s : Shared} {it a : Addr} {o : Obj} {es : Array (Int × Value)} {ep : Nat} {t : SetTable}
end
end L2
namespace L2
open PySem PySem.Spec PyProof.Rows
section
variable {prog : Program} {w : World} {A : Around} {R : Result -> Shared -> Prop} {it y : Addr} {fp wr : List Addr} {G : Array GenState -> Array GenState -> Prop} {n : Nat} {Pv : Nat -> Value -> Prop} {St : Nat -> Shared -> Prop}
end
section
variable {prog : Program} {w : World} {A : Around} {E : Value -> Shared -> Prop} {s : Shared}
set_option maxRecDepth 100000 in
set_option maxHeartbeats 3200000 in
end
section
variable {prog : Program} {w : World} {A : Around} {E : Value -> Shared -> Prop} {s : Shared} {a : Addr} {S : Int -> Bool} {n : Nat}
end
end L2
namespace L2
open PySem PySem.Spec PyProof.Rows PySem.W
section
variable {X : Cx} {e : Expr} {te : TE} {p p2 pos aah : Pos}
end
section
variable {σ : St} {H : Hp} {Q : VK} {v : V}
end
section
variable {X : Cx}
end
section
variable {σ : St} {H : Hp} {Q : VK} {K : PySem.W.Frag} {p : Addr} {m : List (Str × PyData)}
end
def Tr (h : Heap) (a T : Addr) (c : Value) : Prop := ∃ oe vs oT ts, h.get? a = some oe /\ oe.cls = c /\ oe.dict = none /\ oe.data = .fields vs /\ vs[1]? = some (.ref T) /\ T ≠ a /\ h.get? T = some oT /\ oT.data = .fields ts /\ ts[3]? = some .none /\ vs[2]? = some .none
structure Lv (l : List Env) (S : List Addr) (h h' : Heap) : Prop where
 keep : ∀ b o, b ∉ yE l -> b ∉ S -> h.get? b = some o -> h'.get? b = some o
 slot : ∀ b o, b ∈ yE l -> h.get? b = some o -> ∃ sl, h'.get? b = some { o with slots := sl }
section
variable {M : Model} {A : Around} {E : Value -> Shared -> Prop} {s : Shared} {env : Env} {outer : List Env} {L a T : Addr} {c : Value} {base : Heap} {Q : Unit -> Shared -> Prop}
end
theorem bI.live {P : Program} {w : World} {H : Hp} {h : Heap} {a : Addr} {o : HO} (x : bI P w H h a o) : ∃ ob, h.get? a = some ob := by
 induction o with
 | lst xs => obtain ⟨_, _, _, _, e⟩ := x; exact ⟨_, e⟩
 | tup xs => obtain ⟨_, _, _, ob, e, _⟩ := x; exact ⟨_, e⟩
 | dK ax => obtain ⟨_, _, _, _, o, _, _, e, _⟩ := x; exact ⟨_, e⟩
 | dT ax => obtain ⟨_, _, _, _, o, _, _, e, _⟩ := x; exact ⟨_, e⟩
 | set S n => obtain ⟨o, _, _, _, e, _⟩ := x; exact ⟨_, e⟩
 | ins C dx fs => obtain ⟨_, _, _, e, _⟩ := x; exact ⟨_, e⟩
 | own y => exact x
 | xd fs => obtain ⟨_, ⟨_, _, _, e, _⟩, _⟩ := x; exact ⟨_, e⟩
 | YJ lo hi => obtain ⟨_, _, _, e⟩ := x; exact ⟨_, e⟩
 | n8 ob u _ => exact ⟨_, x.1⟩
 | Qq ps => exact ⟨_, x⟩
 | met f y => exact ⟨_, x⟩
 | ext φ => exact x.2.1
theorem k8.dead {P : Program} {w : World} {H : Hp} {h : Heap} {a : Addr} (ok : k8 P w H h) (n : h.get? a = none) : H a = none := by
 cases e : H a with
 | none => rfl
 | some u =>
   obtain ⟨o, z⟩ := (ok a u e).live
   rw [n] at z
   cases z
def CXR (P : Program) (w : World) : zV := fun outer H s E e s' => ∃ a T C H', e = .ref a /\ s'.os = s.os /\ AllBare s'.gens /\ Un (yE outer) [] H H' s.heap s'.heap /\ k8 P w H' s'.heap /\ Tr s'.heap a T (.ref C) /\ s.heap.get? a = none /\ s.heap.get? T = none /\ H' a = none /\ H' T = none /\ E (.ref C) none H'
section
variable {P : Program} {w : World} {K : PySem.W.Frag} {mg : Str -> Option Value} {base : Heap} {N : List Str} {qual : Str} {scope : Scope} {f : Addr} {cd : Value} {A : Around} {outer : List Env} {s0 : Shared} {H0 : Hp} {E : XK} {CX : zV} {pins : List (Addr × Obj)} {σ : St} {H : Hp} {s : Shared}
end
section
variable {K : PySem.W.Frag} {h : Heap} {C : Addr} {MO : List Value} {newId : String}
def UJ (h : Heap) (C : Addr) (MO : List Value) (newId : String) : Prop := ∃ (bm : List Value) (N : Addr) (nm q : Str) (bs : List Value) (hd : Bool) (sn : List Str) (sub : List Value) (ab : Bool) (col : Option Bool) (dd : Option Addr) (k0 k1 k2 k3 k5 : Option Value) (mN : Str -> Option Value),
 h.get? C = some (excClassObj nm q C N bs bm hd sn sub ab col dd k0 k1 k2 k3 k5 newId) /\ h.Ns N mN /\ mN "__init__" = none /\ OwnTail h MO bm
theorem EA (X : K.In h) (q : excIn K C MO newId = true) : UJ h C MO newId := by
 unfold excIn at q
 split at q
 . rename_i dd cd sl ho
   split at q
   . rename_i C' bm k0 k1 k2 k3 n k5 hm hs
     simp only [Bool.and_eq_true, beq_iff_eq, Bool.not_eq_true'] at q
     obtain ⟨⟨⟨⟨⟨rfl, rfl⟩, Wm⟩, ht⟩, aP⟩, Qf⟩ := q
     obtain ⟨nm, bs, mro, ns, qn, hd, sn, sub, ab, col, del⟩ := cd
     dsimp only at hm Wm aP Qf
     subst hm Wm
     obtain ⟨l⟩ := sl
     dsimp only at hs
     subst hs
     exact ⟨bm, ns, nm, qn, bs, hd, sn, sub, ab, col, dd, k0, k1, k2, k3, k5, _, X _ _ ho, .of_isNs (isNs_of_in X aP), nsMap_none_of_in X aP Qf, tail_of_in X ht⟩
   . cases q
 . cases q
end
abbrev IV : List Value := [.type "ValueError", .type "Exception", .type "BaseException", .type "object"]
def DN (K : PySem.W.Frag) (C : Addr) : Prop := excIn K C IV "ValueError.__new__" = true
section
variable {X : Cx} {pins : List (Addr × Obj)} {σ : St} {H : Hp} {s : Shared}
theorem Inv.lv {S : List Addr} {h' : Heap} {t' : Nat} (I : Inv X pins σ H s) (lv : Lv X.stack S s.heap h') (hS : ∀ b ∈ S, H b = none /\ X.dM.heap.get? b = none /\ b ≠ X.env.locals /\ (∀ x c, X.env.cells.lookup x = some c -> c ≠ b) /\ ∀ p ∈ X.pn ++ pins, p.1 ≠ b) : Inv X pins σ H { s with heap := h', toks := t' } := by
 have old : ∀ b o, X.dM.heap.get? b = some o -> b ∉ S /\ b ≠ X.env.locals := fun b o e => ⟨fun z => (by rw [(hS b z).2.1] at e; cases e), Nat.ne_of_lt (Nat.lt_of_lt_of_le (Heap.lt_size e) I.ok.above)⟩
 have one : ∀ b o, b ∉ S -> s.heap.get? b = some o -> ∃ sl, h'.get? b = some { o with slots := sl } := fun b o n e => by
  by_cases m : b ∈ yE X.stack
  . exact lv.slot b o m e
  . exact ⟨o.slots, lv.keep b o m n e⟩
 have nL : X.env.locals ∉ S := fun z => (hS _ z).2.2.1 rfl
 have cellK : ∀ x c, X.env.cells.lookup x = some c -> ∀ v, s.heap.IsCell c v -> h'.IsCell c v := fun x c e v ⟨o, ho, hd⟩ => by
  obtain ⟨sl, q⟩ := one c o (fun z => (hS c z).2.2.2.1 x c e rfl) ho
  exact ⟨_, q, hd⟩
 have nst : ∀ b, b ∉ X.fs -> b ≠ X.env.locals -> b ∉ yE X.stack := fun b n1 n2 m => by
  rcases List.mem_cons.mp (I.A9 b m) with z | z
  . exact n2 z
  . exact n1 z
 refine ⟨I.ok, I.os, I.bare, ⟨fun b o e n hb hx => ?_, fun b o e n hb hx => ?_, fun b o e n hx => I.base.free b o e n hx, fun b o e hx => ?_, I.base.lS, I.base.j7, I.base.pM⟩, ?_, fun x c e => ?_, I.free, I.eG, fun p hp => ?_, fun b u e => ?_, I.len⟩
 . exact lv.keep b o (nst b hb (old b o e).2) (old b o e).1 (I.base.keep b o e n hb hx)
 . obtain ⟨sl, z⟩ := I.base.slot b o e n hb hx
   obtain ⟨Ig, z2⟩ := one b _ (old b o e).1 z
   exact ⟨Ig, z2⟩
 . obtain ⟨o2, z⟩ := I.base.there b o e hx
   obtain ⟨Ig, z2⟩ := one b _ (old b o e).1 z
   exact ⟨_, z2⟩
 . obtain ⟨m, ⟨o, es, ep, ho, r⟩, hl⟩ := I.loc
   obtain ⟨sl, z⟩ := one _ o nL ho
   refine ⟨m, ⟨_, es, ep, z, r⟩, fun i x v e1 e2 e3 => ?_⟩
   obtain ⟨u, ru, l⟩ := hl i x v e1 e2 e3
   refine ⟨u, ru, ?_⟩
   rcases l with l | ⟨k, c, e, z⟩
   . exact .inl l
   . exact .inr ⟨k, c, e, cellK x c e _ z⟩
 . obtain ⟨v, z⟩ := I.cell x c e
   exact ⟨v, cellK x c e v z⟩
 . obtain ⟨e, n, ne, nf, d⟩ := I.pin p hp
   exact ⟨lv.keep p.1 p.2 (nst p.1 nf ne) (fun z => (hS p.1 z).2.2.2.2 p hp rfl) e, n, ne, nf, d⟩
 . refine (I.aP b u e).iF (fun c v hc q => ?_) (fun _ q => q) fun _ _ q => q
   have kz : H c ≠ none := by
    rcases hc with rfl | hc
    . rw [e]; intro z; cases z
    . rw [hc]; intro z; cases z
   exact lv.keep c v (fun m => kz (I.wy c m)) (fun m => kz (hS c m).1) q
theorem Inv.Ku {a : Addr} {φ : Heap -> Prop} (I : Inv X pins σ H s) (ha : H a = none) (hs : X.dM.heap.get? a = none) (hL : a ≠ X.env.locals) (hc : ∀ x c, X.env.cells.lookup x = some c -> c ≠ a) (hp : ∀ p ∈ X.pn ++ pins, p.1 ≠ a)
 (new : φ s.heap /\ (∃ o, s.heap.get? a = some o) /\ ∀ h1 h2 : Heap, φ h1 -> (∀ o, h1.get? a = some o -> h2.get? a = some o) -> φ h2) : Inv X pins σ (upd H a (.ext φ)) s := by
 have kp : ∀ b u, H b = some u -> upd H a (.ext φ) b = some u := fun b u e => by rw [aw (fun z => by rw [z, ha] at e; cases e)]; exact e
 have fr : ∀ b, b ≠ a -> H b = none -> upd H a (.ext φ) b = none := fun b n e => by rw [aw n]; exact e
 refine ⟨I.ok, I.os, I.bare, ⟨I.base.keep, I.base.slot, fun b o e n hx => fr b (fun z => by rw [z, hs] at e; cases e) (I.base.free b o e n hx), I.base.there, fun b xs e => kp _ _ (I.base.lS b xs e), fun b o u e => kp _ _ (I.base.j7 b o u e), fun b ps e => ?_⟩, I.loc, I.cell, fr _ (Ne.symm hL) I.free, fun x c e => fr _ (hc x c e) (I.eG x c e), fun p HW => ?_, fun b u e => ?_, I.len⟩
 . obtain ⟨m, z⟩ := I.base.pM b ps e
   exact ⟨m, kp _ _ z⟩
 . obtain ⟨e1, e2, e3⟩ := I.pin p HW
   exact ⟨e1, fr _ (hp p HW) e2, e3⟩
 . by_cases z : b = a
   . subst z
     rw [au] at e
     cases e
     exact new
   . rw [aw z] at e
     exact (I.aP b u e).iF (fun _ _ _ q => q) (fun c q => kp _ _ q) fun c xs q => kp _ _ q
abbrev Cx.O3 (X : Cx) (f : Value -> Shared -> Prop) (pn : List (Addr × Obj)) : Cx := { X with xe := f, pn := pn }
abbrev Cx.hand (X : Cx) (a : Addr) : Cx := { X with A := X.A.mark (some (.ref a)), calm := false, xe := fun _ _ => False }
theorem Inv.WU {f : Value -> Shared -> Prop} (I : Inv X pins σ H s) : Inv (X.O3 f (X.pn ++ pins)) [] σ H s :=
 ⟨⟨I.ok.mod, I.ok.kind, I.ok.glob, I.ok.blt, I.ok.above, I.ok.inj, I.ok.has, I.ok.Ov, I.ok.hd, I.ok.frames, I.ok.Q7, I.ok.QP, I.ok.bs, I.ok.FZ, I.ok.BG, I.ok.Bh, I.ok.qq, I.ok.Jc⟩, I.os, I.bare, I.base, I.loc, I.cell, I.free, I.eG, fun p hp => I.pin p (by simpa using hp), I.aP, I.len⟩
theorem Inv.zI {f : Value -> Shared -> Prop} {Du : List (Addr × Obj)} (I : Inv (X.O3 f (X.pn ++ pins)) Du σ H s) : Inv X pins σ H s :=
 ⟨⟨I.ok.mod, I.ok.kind, I.ok.glob, I.ok.blt, I.ok.above, I.ok.inj, I.ok.has, I.ok.Ov, I.ok.hd, I.ok.frames, I.ok.Q7, I.ok.QP, I.ok.bs, I.ok.FZ, I.ok.BG, I.ok.Bh, I.ok.qq, I.ok.Jc⟩, I.os, I.bare, I.base, I.loc, I.cell, I.free, I.eG, fun p hp => I.pin p (List.mem_append_left _ hp), I.aP, I.len⟩
theorem Inv.E3 {a : Addr} (I : Inv X pins σ H s) : Inv (X.hand a) pins σ H s :=
 ⟨⟨I.ok.mod, I.ok.kind, I.ok.glob, I.ok.blt, I.ok.above, I.ok.inj, I.ok.has, I.ok.Ov, (fun z => nomatch z), I.ok.frames, I.ok.Q7, I.ok.QP, I.ok.bs, I.ok.FZ, I.ok.BG, I.ok.Bh, I.ok.qq, I.ok.Jc⟩, I.os, I.bare, I.base, I.loc, I.cell, I.free, I.eG, I.pin, I.aP, I.len⟩
theorem Inv.xo {a : Addr} (I : Inv (X.hand a) pins σ H s) (ok : X.Ok) : Inv X pins σ H s :=
 ⟨ok, I.os, I.bare, I.base, I.loc, I.cell, I.free, I.eG, I.pin, I.aP, I.len⟩
end
section
variable {M : Model} {A : Around} {E : Value -> Shared -> Prop}
end
structure TyE (K : PySem.W.Frag) (C : Addr) : Prop where
 ga : PySem.W.findIn K (.ref C) "__getattribute__" = some (some (.builtin "BaseException.__getattribute__"))
 gn : PySem.W.findIn K (.ref C) "__getattr__" = some none
 mb : PySem.W.mroIn K C (.type "BaseException") = some true
 hd : PySem.W.hasDictIn K C = true
 ty : Dy K C
section
variable {X : Cx}
end
section
variable {P : Program} {w : World} {K : PySem.W.Frag} {mg : Str -> Option Value} {base : Heap}
structure adZ (P : Program) (w : World) (K : PySem.W.Frag) (mg : Str -> Option Value) (base : Heap) (k : Nat) (f : Addr) (ps : List Str) (bJ : List V) (sp : Sp) : Prop where
 ex : ∃ (fd : FuncData) (ds : List Value), a7 P w K mg base (CXR P w) k f fd ps sp /\ Binds K fd ps ds /\ Vals bJ ds
end
section
variable {X : Cx} {k : Nat} {f : Addr} {ps : List Str} {sp : Sp} {bJ : List V} {E : XK} {x : Str} {p pos : Pos} {e : Expr} {es : List Expr} {t : TA}
end
section
variable {σ : St} {H : Hp} {Q : VK} {D : Ends} {K : PySem.W.Frag} {E : XK} {C : Addr} {ta : TA}
theorem L5 {x : V} (h : E (.ref C) none H) : [x].length <= sizeLine /\ E (.ref C) none H := ⟨by rw [sizeLine_eq]; simp, h⟩
end
section
variable {X : Cx}
def Ql : R2 := fun x y H Q => ∃ (z : Str) (n : Int), x = .str z /\ y = .int n /\ z.length = 1 /\ 0 <= n /\ n <= 1000 /\ ∀ t : Str, t.length = n.toNat -> (∀ c ∈ t.cps.toList, c ∈ z.cps.toList) -> Q (.str t) H
theorem Dc (c : Nat) : ∀ (n : Nat) (a : Array Nat), ((List.replicate n #[c]).foldl (· ++ ·) a) = a ++ (Array.replicate n c)
 | 0, a => by simp
 | n + 1, a => by
   rw [List.replicate_succ, List.foldl_cons, Dc c n, Array.append_assoc]
   congr 1
   apply Array.toList_inj.mp
   simp [List.replicate_succ]
theorem FE : o4 X (binaryOp .Mult) Ql := by
 intro pins s σ H x y v u Q I rx ry h
 obtain ⟨z, n, rfl, rfl, hz, h0, h1, q⟩ := h
 obtain ⟨t, rfl⟩ := rx
 obtain ⟨t', rfl⟩ := ry
 refine PySem.P.mul_str (by simp; omega) (fun a _ => ?_) (fun a _ => ?_) ?_
 . rw [hz]
   intro hgt
   have h2 : (1 : Int) <= (2 ^ 63 - 1) / n := Int.le_ediv_of_mul_le (by omega) (by omega)
   exact absurd h2 (Int.not_le.mpr hgt)
 . have : z.length * n.toNat <= 1000 := by rw [hz]; omega
   exact decide_eq_false (Nat.not_lt.mpr (Nat.le_trans this (Nat.le_of_lt (dQ (by decide)))))
 . split
   . rename_i c
     have : n = 0 := by omega
     subst this
     exact ⟨Nat.le_of_lt (dQ (by decide)), .str _, H, I.tok _, ⟨_, rfl⟩, q Str.empty rfl (fun c hc => by cases hc)⟩
   . split
     . rename_i c c2
       have : n = 1 := by
        rw [hz] at c2
        simpa using c2
       subst this
       exact ⟨.str _, H, I, ⟨_, rfl⟩, q z hz (fun c hc => hc)⟩
     . obtain ⟨⟨l⟩⟩ := z
       match l, hz with
       | [d], _ =>
         have e : (List.replicate n.toNat (⟨⟨[d]⟩⟩ : Str).cps).foldl (· ++ ·) #[] = Array.replicate n.toNat d := by
          have := Dc d n.toNat #[]
          simpa using this
         have hl : (⟨Array.replicate n.toNat d⟩ : Str).length = n.toNat := by show (Array.replicate n.toNat d).size = _; simp
         show Made.post (Made.str ⟨_⟩) _ _
         rw [e]
         exact ⟨by rw [hl]; exact Nat.le_of_lt (dQ (by omega)), .str _, H, I.tok _, ⟨_, rfl⟩, q _ hl (fun c hc => by
          have : c ∈ List.replicate n.toNat d := by simpa using hc
          have := List.eq_of_mem_replicate this
          subst this
          simp)⟩
end
section
variable {σ : St} {H : Hp} {Q : VK} {D : Ends} {K : PySem.W.Frag}
theorem SA {z : Str} {n : Int} (hz : z.length = 1) (h0 : 0 <= n) (h1 : n <= 1000) (h : ∀ t : Str, t.length = n.toNat -> (∀ c ∈ t.cps.toList, c ∈ z.cps.toList) -> Q (.str t) H) : Ql (.str z) (.int n) H Q := ⟨z, n, rfl, rfl, hz, h0, h1, h⟩
end
section
variable {X : Cx} {pins : List (Addr × Obj)} {σ : St} {H : Hp} {s : Shared} {h' : Heap}
theorem Inv.Ol {t' : Nat} {i1 i2 : Addr} (I : Inv X pins σ H s) (k : ∀ b o, b ≠ i1 -> b ≠ i2 -> s.heap.get? b = some o -> h'.get? b = some o) (f1 : pK X pins H i1) (f2 : pK X pins H i2) : Inv X pins σ H { s with heap := h', toks := t' } := by
 have R4 : ∀ b u, H b = some u -> b ≠ i1 /\ b ≠ i2 := fun b u e => ⟨fun z => (by rw [z, f1.1] at e; cases e), fun z => (by rw [z, f2.1] at e; cases e)⟩
 have nc : ∀ {b : Addr}, b ∉ [i1, i2] -> b ≠ i1 /\ b ≠ i2 := fun {b} h => by simpa using h
 refine I.step (g' := s.gens) (d' := s.drawn) (ch := [i1, i2]) (fun b hb => ?_) (fun b o _ _ hc e _ => k b o (nc hc).1 (nc hc).2 e) (fun b o _ _ hc e _ => ⟨o.slots, k b o (nc hc).1 (nc hc).2 e⟩) (fun _ _ _ _ n => n)
  (fun b o hc e => ⟨o, k b o (nc hc).1 (nc hc).2 e⟩) (fun _ _ e => e) (fun _ _ _ e => e) (fun b ps e => ⟨#[], by rw [e]; simp⟩) (fun m hm => ?_) (fun b u e => ?_) I.bare
 . have e : b = i1 \/ b = i2 := by simpa using hb
   rcases e with rfl | rfl
   . exact ⟨f1.2.2.2.1, f1.2.1, f1.2.2.2.2.1, f1.2.2.2.2.2⟩
   . exact ⟨f2.2.2.2.1, f2.2.1, f2.2.2.2.2.1, f2.2.2.2.2.2⟩
 . obtain ⟨o, es, ep, ho, r⟩ := hm
   exact ⟨o, es, ep, k _ o (Ne.symm f1.2.1) (Ne.symm f2.2.1) ho, r⟩
 . refine (I.aP b u e).iF (fun c v hc q => k c v ?_ ?_ q) (fun _ q => q) fun _ _ q => q
   . rcases hc with z | z
     . rw [z]; exact (R4 b u e).1
     . exact (R4 c _ z).1
   . rcases hc with z | z
     . rw [z]; exact (R4 b u e).2
     . exact (R4 c _ z).2
end
theorem nE : entryFor table "enumerate.__iter__" = some Builtin.«dict_keyiterator.__iter__» :=
 entryFor_alias (id' := "dict_keyiterator.__iter__") (by kernel_rfl) rfl (by decide +kernel) (by kernel_rfl)
def Wn (K : PySem.W.Frag) (a : Addr) : It := ⟨fun i H => ∃ xs x, fj K H a xs /\ xs[i]? = some x, fun i H v H' => ∃ t x, (∀ xs, fj K H a xs -> xs[i]? = some x) /\ v = .ref t /\ H t = none /\ H' = upd H t (.tup [.int i, x]), fun i H => ∃ xs, fj K H a xs /\ xs.length <= i⟩
theorem HB {P : Program} {w : World} {K : PySem.W.Frag} {elts : List Expr} {x1} {pos : Pos} {e it a : Addr} (nZ : e ≠ it) :
 Turn P w K (.Tuple elts x1 pos) (Wn K a) [e, it] e (fun i h => (∃ old, IsEnum h e it (i : Nat) old) /\ h.IsListIter it a i) where
 mem := by simp
 obj := fun i h st b hb => by
  have e' : b = e \/ b = it := by simpa using hb
  obtain ⟨⟨old, q⟩, o, e1, c, d⟩ := st
  rcases e' with rfl | rfl
  . exact ⟨_, q, fun v z => by cases z⟩
  . exact ⟨o, e1, fun v z => by rw [d] at z; cases z⟩
 keep := fun i h h' st k => ⟨let ⟨old, q⟩ := st.1; ⟨old, k e (by simp) _ q⟩, st.2.at fun o q => k it (by simp) o q⟩
 item := by
  intro X hP hw hK hc i pins s σ H E I hf st hg
  subst hP hw hK
  have fe := hf e (by simp)
  have fi := hf it (by simp)
  obtain ⟨xs, x, hq, hx⟩ := hg
  obtain ⟨bb, rv, p, hz⟩ := I.list hq
  obtain ⟨u, hu, ru⟩ := rv.get hx
  obtain ⟨⟨old, he⟩, hit⟩ := st
  have hel : e < s.heap.objs.size := Heap.lt_size he
  have K6 : it < s.heap.objs.size := by obtain ⟨o, ho, _⟩ := id hit; exact Heap.lt_size ho
  have hn : H s.heap.objs.size = none := I.aP.fresh (Nat.le_refl _)
  refine wpAny_pyNext_enum_item he hit p.isList (x := u) (by simpa using hu) nZ fun h' QA aaC ht hz' kk => ?_
  refine ⟨_, rfl, wpAny_letOwnedTupleGo_enum (s := { s with heap := h', toks := s.toks + 1 }) QA fun h2 he2 sb => ?_⟩
  replace sb : Heap.SameBut e h' h2 := sb
  let tb : Obj := { cls := .type "tuple", data := .seq #[.int i s.toks, u] }
  have I1 : Inv X pins σ (upd H s.heap.objs.size (.tup [.int i, x])) { s with heap := s.heap.push tb } :=
   I.laid (t' := s.toks) (fun b u e => Heap.get?_push_of_some _ e) (Nat.le_refl _) (show bI X.prog X.w _ _ _ (.tup [.int i, x]) from ⟨by rw [sizeLine_eq]; simp, [.int i s.toks, u], .cons ⟨_, rfl⟩ (.cons ru .nil), IsTup.new _ _⟩)
  have TU : upd H s.heap.objs.size (.tup [.int i, x]) e = none := by rw [aw (Nat.ne_of_lt hel)]; exact fe.1
  have Ym : upd H s.heap.objs.size (.tup [.int i, x]) it = none := by rw [aw (Nat.ne_of_lt K6)]; exact fi.1
  have I2 : Inv X pins σ (upd H s.heap.objs.size (.tup [.int i, x])) { s with heap := h2, toks := s.toks + 1 } := by
   refine Inv.Ol (s := { s with heap := s.heap.push tb }) (h' := h2) (t' := s.toks + 1) (i1 := e) (i2 := it) I1 (fun b u' JU Dh q => ?_) ⟨TU, fe.2⟩ ⟨Ym, fi.2⟩
   by_cases V2 : b = s.heap.objs.size
   . subst V2
     have e0 : (s.heap.push tb).get? s.heap.objs.size = some tb := Heap.get?_push_size _ rfl
     have e1 := e0.symm.trans q
     cases e1
     exact (sb.2 _ JU).trans ht
   . exact (sb.2 _ JU).trans (kk b u' JU Dh (yq q V2))
  refine ⟨.ref s.heap.objs.size, _, I2, rfl, ⟨_, x, fun ys hy => by rw [I.Cz hy hq]; exact hx, rfl, hn, rfl⟩, ⟨⟨_, he2⟩, aaC.at fun o q => (sb.2 it (Ne.symm nZ)).trans q⟩, fun b hb => ?_⟩
  have e' : b = e \/ b = it := by simpa using hb
  rcases e' with rfl | rfl
  . exact TU
  . exact Ym
 done := by
  intro X hP hw hK hc i pins s σ H E I hf st hg
  subst hP hw hK
  obtain ⟨f0, f1, f2, f3, f4, f5⟩ := hf it (by simp)
  obtain ⟨xs, hq, hx⟩ := hg
  obtain ⟨bb, rv, p, hz⟩ := I.list hq
  have hl := rv.length
  obtain ⟨⟨old, he⟩, hit⟩ := st
  exact wpAny_pyNext_enum_end (I.ok.hd hc) he hit p.isList (by simp; omega) fun h' eb => ⟨rfl, I.turned (t' := s.toks) (fun b o hb e => eb b o hb e) f0 f1 f3 f4 f5⟩
 self := fun A i s Q E st q => by
  obtain ⟨⟨old, he⟩, hit⟩ := st
  have hT : s.TypeIs (.ref e) "enumerate" := ⟨_, he, rfl⟩
  refine wpAny_pyIter_slot hT F.slot_enumerate_iter (wpAny_call_entry F.slot_enumerate_iter hT nE ?_ (F.args_enumerate_iter_1 _))
  show wpAny _ _ (ret (.ref e)) _ _ s
  exact wpAny_pure ⟨_, rfl, "enumerate", _, hT, F.slot_enumerate_next.lookup, q⟩
def Q9 (K : PySem.W.Frag) (ta : TA) : TI := fun σ H R => ta σ H fun vs H1 => ∃ a, vs = [.ref a] /\ (∃ xs, fj K H1 a xs) /\ R (Wn K a) H1
theorem FI {X : Cx} {elts : List Expr} {x1} {Mz : Pos} {a : Expr} {ta : TA} {p pos : Pos} (hg : Gl X "enumerate") (hm : X.mg "enumerate" = none) (ha : PA X [a] ta) (hs : starEach [a] X.env = [(false, eval a X.env)] := by rfl) :
 PI X (.Tuple elts x1 Mz) (.Call (.Name "enumerate" p) [a] [] pos) (Q9 X.K ta) := by
 intro pins s σ H R I h
 refine Call_ (uU I hg hm boot_enumerate (PyProof.Rows.callWith_type1 (cm (ha pos pins s σ H _ I h) fun us s1 ⟨vs, H1, I1, r1, q1⟩ => ?_) hs rfl))
 obtain ⟨l, e, ⟨xs, hq⟩, q⟩ := q1
 subst e
 cases r1 with
 | cons r rr =>
   cases rr
   cases r
   obtain ⟨bb, rv, p, hz⟩ := I1.list hq
   refine call_enumerate_list p.isList fun h' he hit hsz hk => ?_
   have hT : (⟨h', s1.gens, s1.drawn, s1.toks, s1.os⟩ : Shared).TypeIs (.ref (s1.heap.objs.size + 1)) "enumerate" := ⟨_, he, rfl⟩
   refine wpAny_pyIter_slot hT F.slot_enumerate_iter (wpAny_call_entry F.slot_enumerate_iter hT nE ?_ (F.args_enumerate_iter_1 _))
   show wpAny _ _ (ret (.ref (s1.heap.objs.size + 1))) _ _ _
   refine wpAny_pure ⟨_, rfl, "enumerate", _, hT, F.slot_enumerate_next.lookup, ?_⟩
   refine ⟨s1.heap.objs.size + 1, [s1.heap.objs.size + 1, s1.heap.objs.size], _, _, H1, rfl, I1.kept (t' := s1.toks) hk, HB (a := l) (Nat.succ_ne_self _), ⟨⟨_, he⟩, hit⟩, fun b hb => ?_, q⟩
   have e : b = s1.heap.objs.size + 1 \/ b = s1.heap.objs.size := by simpa using hb
   rcases e with rfl | rfl
   . exact I1.Dj (Nat.le_succ _) (I1.aP.fresh (Nat.le_succ _))
   . exact I1.Dj (Nat.le_refl _) (I1.aP.fresh (Nat.le_refl _))
section
variable {X : Cx}
end
section
variable {σ : St} {H : Hp} {Q : VK}
end
section
variable {σ : St} {H : Hp} {Q : VK} {K : PySem.W.Frag} {v : V}
end
end L2
namespace L2
open PySem
section
variable {H : Hp} {Q : VK} {K : PySem.W.Frag}
theorem S4 {z : Str} {i : Int} (hz : z.length <= 4000) (h0 : 0 <= i) (h1 : i < z.length) (h : ∀ c, z.cps.toList[i.toNat]? = some c -> Q (.str ⟨#[c]⟩) H) : Bc K (.str z) (.int i) H Q := by
 obtain ⟨m, rfl⟩ := Int.eq_ofNat_of_zero_le h0
 have hi : m < z.cps.toList.length := by
  have : z.length = z.cps.toList.length := by show z.cps.size = _; simp
  omega
 exact Rl (Nat.le_of_lt (dQ hz)) (wj (List.getElem?_eq_getElem hi)) (h _ (List.getElem?_eq_getElem hi))
end
end L2
namespace L2
open PySem PySem.Spec PyProof.Rows PySem.W
theorem Fw (num : Nat -> Int) : ∀ k, argBest (fun i j => decide (num i < num j)) k <= k /\ ∀ j, j <= k -> num (argBest (fun i j => decide (num i < num j)) k) <= num j
 | 0 => ⟨Nat.le_refl _, fun j hj => by have : j = 0 := by omega
                                       subst this; exact Int.le_refl _⟩
 | k + 1 => by
   obtain ⟨h1, h2⟩ := Fw num k
   unfold argBest
   by_cases h : num (k + 1) < num (argBest (fun i j => decide (num i < num j)) k)
   . rw [if_pos (decide_eq_true h)]
     refine ⟨Nat.le_refl _, fun j hj => ?_⟩
     by_cases hk : j = k + 1
     . subst hk; exact Int.le_refl _
     . exact Int.le_trans (Int.le_of_lt h) (h2 j (by omega))
   . rw [if_neg (by simpa using h)]
     refine ⟨by omega, fun j hj => ?_⟩
     by_cases hk : j = k + 1
     . subst hk; omega
     . exact h2 j (by omega)
section
variable {X : Cx}
theorem FW {H1 : Hp} {ax : List (Key × V)} {vs : List (Key × Value)} {m : List (Str × PyData)} {ns : List Int} {i : Nat} {k : Key} {v : Value} (hlen : vs.length = ax.length) (kv : KV ax vs) (dk : kl H1 ax m) (Gn : m.map (·.2) = ns.map PyData.int) (hv : vs[i]? = some (k, v)) : ∃ t, v = .int (ns.getD i 0) t := by
 have hnl : ns.length = ax.length := by
  have := congrArg List.length Gn
  rw [List.length_map, List.length_map] at this
  rw [<- this]; exact dk.length.symm
 have hi : i < ax.length := by rw [<- hlen]; exact (List.getElem?_eq_some_iff.mp hv).1
 obtain ⟨y, hy, Ue⟩ := si kv (List.getElem?_eq_getElem hi)
 rw [hv] at hy
 cases hy
 obtain ⟨k', dd, VB, hkc, Qn⟩ := dk.Od (List.getElem?_eq_getElem hi)
 have AY : i < ns.length := by omega
 have N2 : dd = .int (ns.getD i 0) := by
  have e1 : (m.map (·.2))[i]? = some dd := by rw [List.getElem?_map, VB]; rfl
  rw [Gn, List.getElem?_map, List.getElem?_eq_getElem AY] at e1
  rw [List.getD_eq_getElem?_getD, List.getElem?_eq_getElem AY]
  exact (Option.some.inj e1).symm
 subst N2
 have hq := Qn.int_inv
 have r2 := Ue.2
 rw [hq] at r2
 obtain ⟨t, ht⟩ := r2
 exact ⟨t, ht⟩
def Jn : V -> Hp -> VK -> Prop := fun x H Q => ∃ (p : Addr) (m : List (Str × PyData)) (ns : List Int), x = .ref p /\ la H p m /\ m.map (·.2) = ns.map PyData.int /\ 0 < ns.length /\ ∀ k ∈ ns, (∀ j ∈ ns, k <= j) -> Q (.int k) H
def QL (te : TE) : TE := fun σ H Q => te σ H fun x H1 => Jn x H1 Q
theorem O9 {e : Expr} {te : TE} {p pos apos dh : Pos} (he : PE X e te) (hc : X.calm = true) (hg : Gl X "min") (hm : X.mg "min" = none)
 (sY : attributeBase e "values" X.env (eval e X.env) = eval e X.env := by rfl) (hline : (apos.endLine == dh.line) = true := by rfl)
 (h2 : starEach [.Call (.Attribute e "values" apos) [] [] dh] X.env = (false, eval (.Call (.Attribute e "values" apos) [] [] dh) X.env) :: starEach [] X.env := by rfl) :
 PE X (.Call (.Name "min" p) [.Call (.Attribute e "values" apos) [] [] dh] [] pos) (QL te) := by
 intro pins s σ H Q I h
 refine wpAny_Call_Name_kw (uU I hg hm boot_min ?_ (by decide) (by decide))
 refine PyProof.Rows.callWith_builtin1 ?_ h2 rfl
 rw [h2]
 show wpAny _ _ (spliced ((false, eval (.Call (.Attribute e "values" apos) [] [] dh) X.env) :: backTo pos (starEach [] X.env))) _ _ s
 refine Calls.spliced_cons (wpAny_Call_method0_late sY hline (cm (he pins s σ H _ I h) fun v s1 ⟨y, H1, I1, r1, q1⟩ => ?_))
 obtain ⟨d, m, ns, rfl, ⟨ax, hd, dk⟩, Gn, UG, q⟩ := q1
 obtain ⟨h1, h2⟩ := AW I1 (T := "dict") r1 (.inr (.inr (.inl ⟨rfl, .inl ⟨ax, hd⟩⟩)))
 cases r1
 refine ⟨"dict", "dict.values", PySem.F.plainAttrs_dict, PySem.F.slot_dict_values, PySem.F.type_dict_values, h1, h2, Calls.callWith_builtin rfl (PySem.evalArgs_none ?_)⟩
 obtain ⟨_, hs, vs, kv, o, es, ep, ho, a2, a3, a4⟩ := (show bI X.prog X.w H1 s1.heap d (.dK ax) from I1.aP d _ hd)
 have da : s1.heap.DictAt (aY X.prog X.w) d vs ep := ⟨o, es, ho, a2, a3, a4⟩
 have eI : d < s1.heap.objs.size := Heap.lt_size ho
 have hlen : vs.length = ax.length := kv.length.symm
 refine call_meetsIn PySem.F.slot_dict_values da.dictOf.typeIs PySem.F.entry_dict_values (PySem.F.args_dict_values_1 _) (meets_dict_values (aY X.prog X.w) d hs) ⟨⟨vs, da.dictOf⟩, ?_⟩
 refine Calls.spliced_nil ?_
 have hsz : (s1.heap.push { cls := .type "dict_values", data := .fields #[.ref d] }).objs.size = s1.heap.objs.size + 1 := Heap.size_push ..
 have hA : X.A.in1.handled = none := I1.ok.hd hc
 have hnl : ns.length = ax.length := by
  have := congrArg List.length Gn
  rw [List.length_map, List.length_map] at this
  rw [<- this]; exact dk.length.symm
 refine call_min_walk (wpAny_pyIter_values (v := s1.heap.objs.size) ⟨_, Heap.get?_push_size _ rfl, rfl, rfl⟩ (da.push _) ?_)
 refine ⟨_, _, _, _, _, _, fun i j => decide (ns.getD i 0 < ns.getD j 0), rfl, Walks.dictValues (knd := aY X.prog X.w) hA _ d (Nat.ne_of_lt (by rw [hsz]; exact Nat.lt_succ_of_lt eI)) vs ep, ⟨⟨_, Heap.get?_push_size _ rfl, rfl, rfl⟩, (da.push _).push _⟩, ?_, by omega, CmpOf.ints_lt (fun i => ns.getD i 0) ?_, ?_⟩
 . intro b hb
   rw [Heap.size_push]
   have : b = (s1.heap.push { cls := .type "dict_values", data := .fields #[.ref d] }).objs.size \/ b = d := by simpa using hb
   rcases this with rfl | rfl
   . exact Nat.lt_succ_self _
   . rw [hsz]; exact Nat.lt_succ_of_lt (Nat.lt_succ_of_lt eI)
 . rintro i v ⟨k, hv⟩
   exact FW hlen kv dk Gn hv
 . rintro v h' tk ⟨k, hv⟩ hk
   have b := Fw (fun i => ns.getD i 0) (vs.length - 1)
   generalize argBest (fun i j => decide (ns.getD i 0 < ns.getD j 0)) (vs.length - 1) = ix at b hv
   obtain ⟨b1, b2⟩ := b
   obtain ⟨t, rfl⟩ := FW hlen kv dk Gn hv
   have I2 : Inv X pins σ H1 { s1 with heap := s1.heap.push { cls := .type "dict_values", data := .fields #[.ref d] } } := I1.kept (t' := s1.toks) fun b o e => Heap.get?_push_of_some _ e
   have fp := I2.Dj (H' := H1) (Nat.le_refl _) (I2.aP.fresh (Nat.le_refl _))
   have I3 := I2.turned (t' := tk) (h' := h') (it := (s1.heap.push { cls := .type "dict_values", data := .fields #[.ref d] }).objs.size) (fun b o hb e => hk b o (by simpa using hb) (Heap.get?_push_of_some _ e)) fp.1 fp.2.1 fp.2.2.2.1 fp.2.2.2.2.1 fp.2.2.2.2.2
   have hb : ix < ns.length := by omega
   refine ⟨.int _, H1, I3, ⟨t, rfl⟩, q _ ?_ ?_⟩
   . rw [List.getD_eq_getElem?_getD, List.getElem?_eq_getElem hb]; exact List.getElem_mem hb
   . intro k hk
     obtain ⟨j, hj, rfl⟩ := List.getElem_of_mem hk
     have := b2 j (by omega)
     rwa [List.getD_eq_getElem?_getD (i := j), List.getElem?_eq_getElem hj] at this
end
section
variable {σ : St} {H : Hp} {Q : VK}
theorem NS {te : TE} (h : te σ H fun x H1 => Jn x H1 Q) : QL te σ H Q := h
theorem Tx {p : Addr} {m : List (Str × PyData)} {ns : List Int} (hp : la H p m) (hm : m.map (·.2) = ns.map PyData.int) (hl : 0 < ns.length) (h : ∀ k ∈ ns, (∀ j ∈ ns, k <= j) -> Q (.int k) H) : Jn (.ref p) H Q := ⟨p, m, ns, rfl, hp, hm, hl, h⟩
end
def pairD (k : Int × Str) : PyData := .tuple [.int k.1, .str k.2]
def Vq (H : Hp) : V -> Int × Str
 | .ref a => match H a with
   | some (.tup [.int i, .str x]) => (i, x)
   | _ => (0, Str.empty)
 | _ => (0, Str.empty)
theorem Lc {H : Hp} {v : V} {k : Int × Str} (h : Dv H v (pairD k)) : Vq H v = k := by
 unfold pairD at h
 cases h with
 | tup ha r =>
   cases r with
   | cons h1 r =>
     cases r with
     | cons h2 r =>
       cases r
       cases h1; cases h2
       simp only [Vq, ha]
theorem F9 {H : Hp} : ∀ {xs : List V} {ks : List (Int × Str)}, cB H xs (ks.map pairD) -> cB H xs (xs.map fun v => .tuple [.int (Vq H v).1, .str (Vq H v).2])
 | _, [], .nil => .nil
 | _, _ :: _, .cons h r => .cons (by show Dv H _ (.tuple [.int (Vq H _).1, .str (Vq H _).2]); rw [Lc h]; exact h) (F9 r)
section
variable {X : Cx} {pins : List (Addr × Obj)} {σ : St} {H : Hp} {s : Shared}
theorem AA {l : Addr} {xs : List V} {kf : V -> Int × Str} {Q : VK} {E : Value -> Shared -> Prop} (I : Inv X pins σ H s) (hl : fj X.K H l xs) (h64 : xs.length < 64) (dv : cB H xs (xs.map fun v => .tuple [.int (kf v).1, .str (kf v).2])) (fin : Ob X pins σ H aS kf xs Q) :
 wpAny (model X.prog X.w) X.A (call (.builtin "sorted") [.ref l]) (EP X pins σ Q) E s := by
 have PY : (64 : Nat) <= sizeLine := by decide
 obtain ⟨vs, rv, p, hz⟩ := I.list hl
 have lx := rv.length
 refine Calls.call_function_entry kind_sorted plain_sorted entry_sorted (args_sorted1 _) ?_
 unfold Builtin.«sorted»
 refine wpAny_bind (m := checkCount "sorted" 1 1 _) (wpAny_pure ?_)
 refine wpAny_bind (collect_list p.isList ?_ (by omega))
 refine wpAny_bind (wpAny_newList ?_ (by omega))
 have fp0 : pK X pins H s.heap.objs.size := I.Dj (Nat.le_refl _) (I.aP.fresh (Nat.le_refl _))
 have I2 : Inv X pins σ H { s with heap := (s.heap.push (seqObj "list" #[] 0)).update s.heap.objs.size (Obj.mapSeq (· ++ vs.toArray)) } := (I.FJ (o := seqObj "list" #[] 0)).P4 fp0
 have hsz : ((s.heap.push (seqObj "list" #[] 0)).update s.heap.objs.size (Obj.mapSeq (· ++ vs.toArray))).objs.size = s.heap.objs.size + 1 := by rw [Heap.size_update, size_push']
 generalize hG : (s.heap.push (seqObj "list" #[] 0)).update s.heap.objs.size (Obj.mapSeq (· ++ vs.toArray)) = h2 at I2 hsz ⊢
 have Vs : (h2.push (seqObj "list" vs.toArray 0)).get? h2.objs.size = some (seqObj "list" vs.toArray 0) := Heap.get?_push_size _ rfl
 have I3 : Inv X pins σ H { s with heap := h2.push (seqObj "list" vs.toArray 0) } := I2.FJ
 have fa : pK X pins H h2.objs.size := I2.Dj (Nat.le_refl _) (I2.aP.fresh (Nat.le_refl _))
 have BK : X.dM.heap.objs.size <= h2.objs.size := I2.sz
 show wpAny _ _ _ _ _ { s with heap := h2.push (seqObj "list" vs.toArray 0) }
 generalize h2.objs.size = a at *
 refine wpAny_bind (wpAny_holding (wpAny_call_entry slot_list_sort ⟨_, Vs, rfl⟩ entry_list_sort ?body (args_list_sort _)))
 case body =>
  show wpAny (model X.prog X.w) X.A.in1.in1 (Builtin.«list.sort» ⟨[.ref a], []⟩) _ _ _
  rw [list_sort_plain]
  generalize h2.push (seqObj "list" vs.toArray 0) = h3 at *
  refine wpAny_bind (listItems_at Vs rfl ?_)
  refine wpAny_bind (listUpdate_at Vs rfl ?_ (by rw [List.size_toArray]; omega) (Nat.zero_le _))
  have I4 : Inv X pins σ H { s with heap := h3.update a (Obj.mapSeq fun _ => (#[] : Array Value)) } := I3.P4 fa
  obtain ⟨e1, oa⟩ : ∃ e1, (h3.update a (Obj.mapSeq fun _ => (#[] : Array Value))).get? a = some (seqObj "list" #[] e1) := ⟨_, get?_update_seq Vs fun _ => #[]⟩
  generalize h3.update a (Obj.mapSeq fun _ => (#[] : Array Value)) = h4 at *
  refine wpAny_bind (seqEpoch_at oa rfl ?_)
  refine wpAny_bind (wpAny_newTuple ?_ (by show vs.length <= _; omega))
  have I5 : Inv X pins σ H { s with heap := h4.push (seqObj "tuple" vs.toArray 0) } := I4.FJ
  have oa5 : (h4.push (seqObj "tuple" vs.toArray 0)).get? a = some (seqObj "list" #[] e1) := Heap.get?_push_of_some _ oa
  show wpAny _ _ _ _ _ { s with heap := h4.push (seqObj "tuple" vs.toArray 0) }
  generalize h4.push (seqObj "tuple" vs.toArray 0) = h5 at *
  refine wpAny_bind (wpAny_newList ?_ (Nat.zero_le _))
  have I6 : Inv X pins σ H { s with heap := h5.push (seqObj "list" #[] 0) } := I5.FJ
  have Ve : (h5.push (seqObj "list" #[] 0)).get? a = some (seqObj "list" #[] e1) := Heap.get?_push_of_some _ oa5
  refine wpAny_holding ?_
  show wpAny _ _ _ _ _ { s with heap := h5.push (seqObj "list" #[] 0) }
  generalize h5.push (seqObj "list" #[] 0) = h6 at *
  dsimp only
  by_cases eI : vs.toArray.size < 2
  . rw [if_pos eI, if_pos eI]
    refine wpAny_bind (wpAny_pure ?_)
    rw [StateT.run_pure]
    refine wpAny_bind (wpAny_pure ?_)
    dsimp only
    have aaR : (arrOf (SortSt.mk' general' (vs.toArray.zip vs.toArray) #[] 7 none)).map (·.2) = List.toArray vs := by
     show (vs.toArray.zip vs.toArray).map (·.2) = List.toArray vs
     apply Array.toList_inj.mp
     simp [List.map_snd_zip]
    rw [aaR]
    refine wpAny_bind (seqEpoch_at Ve rfl ?_)
    refine wpAny_bind (listUpdate_at Ve rfl ?_ (Nat.zero_le _) (by show (List.toArray vs).size <= _; rw [List.size_toArray]; omega))
    simp only [bne_self_eq_false, Bool.false_eq_true, if_false]
    have I7 := (I6.P4 (f := Obj.mapSeq fun _ => List.toArray vs) fa).Rc fa BK (by rw [rv.length]; omega) rv (get?_update_seq Ve fun _ => List.toArray vs)
    refine wpAny_pure ⟨_, rfl, wpAny_pure ⟨_, rfl, .ref a, _, I7, rfl, fin a xs H (az.refl _) fa.1 fa.1 ⟨List.Perm.refl _, ?_⟩⟩⟩
    rw [List.size_toArray] at eI
    match xs, lx with
    | [], _ => exact .nil
    | [_], _ => exact List.pairwise_singleton _ _
    | _ :: _ :: _, lx => simp at lx; omega
  . rw [if_neg eI, if_neg eI]
    rw [List.size_toArray] at eI
    obtain ⟨fs, k1, k2, k3⟩ := yD I6 rv dv
    refine wpAny_bind (kat_kind k1 (by omega) k3 (by decide) ?_)
    refine wpAny_bind (wpAny_mono (kat_run (Q := fun MK s2 => s2 = { s with heap := h6 } /\ ∃ p : Array Nat, Ix xs.length p /\ arrOf MK = p.map (kas_item ((List.toArray vs).zip (List.toArray vs))) /\ failedOf MK = none /\ Up (fun i j => aS (kf (xs.getD i .bG)) (kf (xs.getD j .bG))) p xs.length)
     (G := fun p s2 => s2 = { s with heap := h6 } /\ Ix xs.length p /\ Up (fun i j => aS (kf (xs.getD i .bG)) (kf (xs.getD j .bG))) p xs.length) rfl (by omega) (by omega) (fun p MK s2 a1 a2 a3 ⟨a4, a5, a6⟩ => ⟨a4, p, a5, a2, a3, a6⟩) ?_) ?_ fun _ _ z => z)
    . rw [show vs.length = xs.length by omega]
      refine Pg (lt := fun i j => aS (kf (xs.getD i .bG)) (kf (xs.getD j .bG))) (S := fun z => z = { s with heap := h6 }) ⟨fun _ => fM _, fun _ _ => x8, fun _ _ _ => wK⟩ (HD I6 rv dv) (by omega) (fun p s2 hs hp hu => ⟨hs, hp, hu⟩) _ rfl
    . rintro ⟨⟨⟩, MK⟩ s2 ⟨rfl, p, hp, har, hf, hu⟩
      dsimp only
      rw [kat_snds rfl har]
      have ho : (p.toList.map fun i => vs.getD i Value.none).length < 64 := by simp [hp.sz]; omega
      refine wpAny_bind (seqEpoch_at Ve rfl ?_)
      refine wpAny_bind (listUpdate_at Ve rfl ?_ (Nat.zero_le _) (by show (List.toArray (p.toList.map fun i => vs.getD i Value.none)).size <= _; rw [List.size_toArray]; omega))
      rw [hf]
      simp only [bne_self_eq_false, Bool.false_eq_true, if_false]
      have rv2 := zZ rv p.toList
      have I7 := (I6.P4 (f := Obj.mapSeq fun _ => List.toArray (p.toList.map fun i => vs.getD i Value.none)) fa).Rc fa BK (by rw [rv2.length]; omega) rv2 (get?_update_seq Ve fun _ => List.toArray (p.toList.map fun i => vs.getD i Value.none))
      exact wpAny_pure ⟨_, rfl, wpAny_pure ⟨_, rfl, .ref a, _, I7, rfl, fin a _ H (az.refl _) fa.1 fa.1 (LJ hp hu)⟩⟩
def Mm : List V -> Hp -> VK -> Prop := fun xs H Q => ∃ (v : V) (ks : List (Int × Str)), xs = [v] /\ Dv H v (.list (ks.map pairD)) /\ ks.length < 64 /\ ∀ q H' (Oj : List (Int × Str)), az H H' -> H q = none -> Oj.Perm ks -> Oj.Pairwise (fun c d => aS d c = false) -> dJ H' q (Oj.map pairD) -> Q (.ref q) H'
theorem xu : p8 X (.builtin "sorted") Mm := by
 intro pins s σ H xs us Q I r h
 obtain ⟨v, ks, rfl, hd, hl, q⟩ := h
 obtain ⟨u, rfl, ru⟩ := vals1 r
 obtain ⟨p, ys, rfl, e, dv⟩ := hd.lst_inv
 cases ru
 refine AA I (e X.K) (by rw [dv.length, List.length_map]; exact hl) (F9 dv) fun a zs H' sm hn Vf ord => ?_
 obtain ⟨pm, pw⟩ := ord
 obtain ⟨Oj, pc, dv'⟩ := dv.perm pm
 have fA : az H (upd H' a (.lst zs)) := sm.trans (bw Vf)
 exact q a _ Oj fA hn pc (cB.pairwise (R := fun a b => aS b a = false) (key := fun k => k) (fun v c hv => Lc hv) dv' pw) ⟨zs, au, dv'.keeps fA, cg (fun _ => rfl) _⟩
end
section
variable {σ : St} {H : Hp} {Q : VK}
theorem Fe {v : V} {ks : List (Int × Str)} (hp : Dv H v (.list (ks.map pairD))) (hl : ks.length < 64) (h : ∀ q H' (Oj : List (Int × Str)), az H H' -> H q = none -> Oj.Perm ks -> Oj.Pairwise (fun c d => aS d c = false) -> dJ H' q (Oj.map pairD) -> Q (.ref q) H') : Mm [v] H Q := ⟨v, ks, rfl, hp, hl, h⟩
end
section
variable {σ : St} {H : Hp} {Q : VK} {K : PySem.W.Frag} {p : Addr} {m : List (Str × PyData)} {k : Str}
theorem Qs {n : Nat} {tl : TE} {g : TG} {tc : TT} {te : TE} (hp : la H p m) (MN : ∀ R : V -> Hp -> Prop, R (.ref p) H -> tl σ H R) (pf : Str × PyData -> Bool) (fd : Str × PyData -> PyData) (hlen : m.length <= 4000) (hi : ∀ c, yI (fd c) = true)
 (turn : ∀ x c Hf H' (N : Option V -> Hp -> Prop), c ∈ m -> Mv [p] H Hf -> YK Hf p m -> az Hf H' -> Dv H' x (.tuple [.str c.1, c.2]) -> (pf c = true -> ∀ y H4, az H' H4 -> Dv H4 y (fd c) -> N (some y) H4) -> (pf c = false -> ∀ H3, az H' H3 -> N none H3) ->
  g x (List.replicate n none ++ σ) H' fun σ2 H2 => tc σ2 H2 fun b H3 => Vw te N σ2 b H3)
 (kk : ∀ q H', az H H' -> H q = none -> dJ H' q ((m.filter pf).map fd) -> Q (.ref q) H') : QB (Vp n (JG tl) g tc te) σ H Q := by
 obtain ⟨ax, e, dk⟩ := hp
 refine ⟨p, ax, e, MN _ ⟨p, ax, rfl, e, fun o => ?_⟩⟩
 have mv : Mv [p] H (upd H p (.n8 o (.dK ax))) := .cO e (by intro _ z; cases z)
 have rd : YK (upd H p (.n8 o (.dK ax))) p m := ⟨ax, .inr ⟨o, au⟩, dk.zK mv.tp⟩
 have hl : ax.length = m.length := dk.length
 refine ⟨fun i j acc H' => i <= m.length /\ j = m.length - i /\ az (upd H p (.n8 o (.dK ax))) H' /\ cB H' acc (((m.take i).filter pf).map fd), ⟨m.length, Nat.zero_le _, rfl, az.refl _, by simpa using cB.nil⟩, ?_⟩
 rintro i j acc H' ⟨Ed, rfl, sm, gT⟩
 have W8 : H' p = some (.n8 o (.dK ax)) := sm _ _ au
 have yZ : acc.length <= m.length := by
  rw [gT.length, List.length_map]
  refine Nat.le_trans (List.length_filter_le _ _) ?_
  rw [List.length_take]
  omega
 by_cases hc : i = m.length
 . left
   refine ⟨⟨by omega, W8⟩, fun q hq => ?_⟩
   have ZM : p ≠ q := aG W8 hq
   have tk : m.take i = m := List.take_of_length_le (by omega)
   rw [tk] at gT
   have ups : upd (upd H' q (.lst acc)) p (.dK ax) q = some (.lst acc) := by rw [aw (Ne.symm ZM), au]
   refine ⟨⟨o, by rw [aw ZM]; exact W8⟩, kk q _ (fun a u z => ?_) ?_ ⟨acc, ups, gT.zK (fun a xs z => ?_) (cg hi _), cg hi _⟩⟩
   . by_cases ha : a = p
     . subst ha; rw [e] at z; cases z; exact au
     . have z1 : H' a = some u := sm _ _ (by rw [aw ha]; exact z)
       rw [aw ha, aw (aG z1 hq)]; exact z1
   . cases hz : H q with
     | none => rfl
     | some u =>
       have : H' q = some u := sm _ _ (by rw [aw (Ne.symm ZM)]; exact hz)
       rw [hq] at this; cases this
   . rw [aw (kL z W8 (by intro y; cases y)), aw (aG z hq)]; exact z
 . right
   have eI : i < m.length := by omega
   refine ⟨⟨by omega, W8⟩, dQ (by omega), fun x H2 hy => ?_⟩
   obtain ⟨t, kv, Vx, rfl, ht, rfl⟩ := hy
   obtain ⟨c, d, hm, hkc, Qn⟩ := dk.Od Vx
   have Cw : m.take (i + 1) = m.take i ++ [(c, d)] := by rw [List.take_add_one, hm]; rfl
   have Yx : az H' (upd H' t (.tup [kV kv.1, kv.2])) := bw ht
   have aa0 : Dv H' kv.2 d := ((dk.zK mv.tp).zK (fun a xs z => sm a _ z)).Od Vx |> fun ⟨c', d', VB, _, h'⟩ => by
    rw [hm] at VB; cases VB; exact h'
   have hx : Dv (upd H' t (.tup [kV kv.1, kv.2])) (.ref t) (.tuple [.str c, d]) := by
    have e1 : kV kv.1 = .str c := by rw [hkc]; rfl
    rw [e1] at Yx ⊢
    exact .tup au (.cons (.str _) (.cons (aa0.keeps Yx) .nil))
   have fA := sm.trans Yx
   refine turn (.ref t) (c, d) _ _ (fun r H4 => match r with | some y => ∃ j', j' < m.length - i /\ i + 1 <= m.length /\ j' = m.length - (i + 1) /\ az (upd H p (.n8 o (.dK ax))) H4 /\ cB H4 (acc ++ [y]) (((m.take (i + 1)).filter pf).map fd) | none => ∃ j', j' < m.length - i /\ i + 1 <= m.length /\ j' = m.length - (i + 1) /\ az (upd H p (.n8 o (.dK ax))) H4 /\ cB H4 acc (((m.take (i + 1)).filter pf).map fd))
    (List.mem_of_getElem? hm) mv rd fA hx (fun hb y H4 s4 d4 => ⟨m.length - (i + 1), by omega, eI, rfl, fA.trans s4, ?_⟩) (fun hb H3 s3 => ⟨m.length - (i + 1), by omega, eI, rfl, fA.trans s3, ?_⟩)
   . rw [Cw, List.filter_append, List.map_append]
     simp only [List.filter_cons, hb, if_true, List.filter_nil, List.map_cons, List.map_nil]
     exact cB.append (gT.keeps (Yx.trans s4)) (.cons d4 .nil)
   . rw [Cw, List.filter_append, List.map_append]
     simp only [List.filter_cons, hb, Bool.false_eq_true, if_false, List.filter_nil, List.map_nil, List.append_nil]
     exact gT.keeps (Yx.trans s3)
theorem Fj {R : Bool -> Prop} (hp : la H p m) (h : R (!m.isEmpty)) : ∃ b, DT K (.ref p) H b /\ R b := by
 obtain ⟨ax, e, dk⟩ := hp
 refine ⟨_, .inr (.inr ⟨ax, e, rfl⟩), ?_⟩
 have : ax.isEmpty = m.isEmpty := by
  have := dk.length
  cases ax <;> cases m <;> simp_all
 rw [this]; exact h
theorem Jf {td ty : TE} (h : td σ H fun x H1 => ∃ a, x = .ref a /\ YW H1 a /\ ty σ H1 fun y H2 => ∃ o, g8 H2 a y o /\ Q (o.getD .bG) H2) : JA td ty σ H Q := h
theorem NP {R : Addr -> Prop} (hp : la H p m) (h : R p) : ∃ a, V.ref p = .ref a /\ YW H a /\ R a := by
 obtain ⟨ax, e, _⟩ := hp
 exact ⟨p, rfl, .inl ⟨ax, .inl e⟩, h⟩
theorem Mh (hp : la H p m) (h1 : ∀ d, qp m k = some d -> ∀ v, Dv H v d -> Q v H) (h2 : qp m k = none -> Q .bG H) : ∃ o, g8 H p (.str k) o /\ Q (o.getD .bG) H := by
 obtain ⟨ax, e, dk⟩ := hp
 refine ⟨kQ ax (.inr k), .inl ⟨ax, .inr k, .inl e, rfl, rfl⟩, ?_⟩
 obtain ⟨g1, g2⟩ := dk.val (k := k)
 cases hl : qp m k with
 | none => rw [g2 hl]; exact h2 hl
 | some d => obtain ⟨v, hv, hd⟩ := g1 d hl; rw [hv]; exact h1 d hl v hd
end
def Fm (h : Heap) (a T : Addr) (c : Value) (od : Option Addr) : Prop := ∃ oe vs oT ts, h.get? a = some oe /\ oe.cls = c /\ oe.dict = od /\ oe.data = .fields vs /\ vs[1]? = some (.ref T) /\ T ≠ a /\ h.get? T = some oT /\ oT.data = .fields ts /\ ts[3]? = some .none /\ vs[2]? = some .none
section
variable {M : Model} {A : Around} {E : Value -> Shared -> Prop} {s : Shared} {env : Env} {outer : List Env} {L a T : Addr} {c : Value} {od : Option Addr} {base : Heap} {Q : Unit -> Shared -> Prop}
theorem Ab {oe : Obj} {vs : Array Value} {head : Value} {had : Bool} (zg : A.frames = some (env :: outer)) (hl : s.heap.FunFrames base (env :: outer)) (hf : env.frame = some L) (he : s.heap.get? a = some oe) (WG : oe.dict = od) (hd : oe.data = .fields vs) (hsz : 1 < vs.size) (Vb : vs[2]? = some .none)
 (h : ∀ h' T', Fm h' a T' oe.cls od -> s.heap.get? T' = none -> Lv (env :: outer) [a] s.heap h' -> Q () { s with heap := h' }) :
 wpAny M A (do let x <- frameOf env; let pl <- entryPlaceOf L had; let b <- EntryCells.newEntry head x .none (rawInt L) .none pl; setField (.ref a) 1 b) (fun _ s' => wpAny M A (setFlight (.ref a) none) Q E s') E s := by
 have BJ : a ∉ yE (env :: outer) := fun m => by
  obtain ⟨_, o, ho, hn⟩ := hl.mem m
  rw [he] at ho
  cases ho
  exact hn vs hd
 refine wpAny_bind (wpAny_frameOf_fun zg hl hf fun h1 s1 => ?_)
 refine wpAny_bind (wpAny_entryPlaceOf fun pl mD => ?_)
 unfold EntryCells.newEntry newFields
 refine wpAny_bind (wpAny_newObj_type ?_ (mD.sizeOk5 _ _ _ _ _))
 have e1 : h1.get? a = some oe := (s1.2.1 a BJ).trans he
 let tb : Obj := { cls := .type "traceback", dict := none, data := .fields ([head, .ref L, .none, rawInt L, .none] ++ (if pl.isEmpty then List.replicate 6 Value.none else pl)).toArray }
 have e2 : (h1.push tb).get? a = some oe := Heap.get?_push_of_some _ e1
 refine wpAny_setField e2 hd hsz ?_
 have hTa : h1.objs.size ≠ a := Ne.symm (Nat.ne_of_lt (Heap.lt_size e1))
 have d3 := Obj.data_mapFields hd (·.setIfInBounds 1 (Value.ref h1.objs.size))
 have e3 := Heap.get?_update_self (Obj.mapFields (·.setIfInBounds 1 (Value.ref h1.objs.size))) e2 (Obj.isFreed_of_fields d3)
 have t3 : ((h1.push tb).update a (Obj.mapFields (·.setIfInBounds 1 (Value.ref h1.objs.size)))).get? h1.objs.size = some tb := (Heap.get?_update_other _ _ (Ne.symm hTa)).trans (Heap.get?_push_size h1 rfl)
 unfold setFlight
 refine wpAny_bind (wpAny_field e3 d3 (x := .ref h1.objs.size) (by simp [hsz]) ?_)
 rw [if_pos (show (Value.ref h1.objs.size != Value.none) = true from by simp)]
 refine wpAny_setField t3 rfl (by simp only [List.size_toArray, List.length_append, List.length_cons, List.length_nil] <;> omega) (h _ h1.objs.size ?_ ?_ ?_)
 . refine ⟨_, _, _, _, (Heap.get?_update_other _ _ hTa).trans e3, Obj.cls_mapFields _ _, ?_, d3, by simp [hsz], hTa, Heap.get?_update_self _ t3 (Obj.isFreed_of_fields (Obj.data_mapFields rfl _)), Obj.data_mapFields rfl _, by first | (simp; done) | (rcases mD with rfl | ⟨_, _, _, _, _, _, _, rfl⟩ <;> simp), by rw [Array.getElem?_setIfInBounds_ne (by decide)]; exact Vb⟩
   obtain ⟨c0, d0, ZL, sl0⟩ := oe
   cases ZL <;> first | exact WG | (cases hd)
 . cases q : s.heap.get? h1.objs.size with
   | none => rfl
   | some o =>
     obtain ⟨sl, z⟩ := s1.2.2 _ o q
     exact absurd (Heap.lt_size z) (Nat.lt_irrefl _)
 . have kp : ∀ b o, b ≠ a -> h1.get? b = some o -> (((h1.push tb).update a (Obj.mapFields (·.setIfInBounds 1 (Value.ref h1.objs.size)))).update h1.objs.size (Obj.mapFields (·.setIfInBounds 3 ((none : Option Addr).elim Value.none fun f => rawInt f)))).get? b = some o := fun b o hb q => by
    rw [Heap.get?_update_other _ _ (Ne.symm (Nat.ne_of_lt (Heap.lt_size q))), Heap.get?_update_other _ _ (Ne.symm hb)]
    exact Heap.get?_push_of_some _ q
   refine ⟨fun b o n1 n2 q => kp b o (by simpa using n2) ((s1.2.1 b n1).trans q), fun b o m q => ?_⟩
   obtain ⟨sl, z⟩ := s1.2.2 b o q
   exact ⟨sl, kp b _ (fun z => BJ (z ▸ m)) z⟩
theorem CL {oe : Obj} {vs : Array Value} (zg : A.frames = some (env :: outer)) (hl : s.heap.FunFrames base (env :: outer)) (hf : env.frame = some L) (he : s.heap.get? a = some oe) (WG : oe.dict = od) (hd : oe.data = .fields vs) (h1 : vs[1]? = some .none) (Vb : vs[2]? = some .none)
 (h : ∀ h' T', Fm h' a T' oe.cls od -> s.heap.get? T' = none -> Lv (env :: outer) [a] s.heap h' -> Q () { s with heap := h' }) : wpAny M A (noteFrame (.ref a) env) (fun _ s' => wpAny M A (setFlight (.ref a) none) Q E s') E s := by
 unfold noteFrame
 simp only [hf]
 refine wpAny_bind (wpAny_field he hd h1 ?_)
 rw [if_neg (by decide)]
 exact Ab zg hl hf he WG hd (Array.getElem?_eq_some_iff.mp h1).1 Vb h
theorem xa (zg : A.frames = some (env :: outer)) (hl : s.heap.FunFrames base (env :: outer)) (hf : env.frame = some L) (ht : Fm s.heap a T c od)
 (h : ∀ h' T', Fm h' a T' c od -> (T' = T \/ s.heap.get? T' = none) -> Lv (env :: outer) [a, T] s.heap h' -> Q () { s with heap := h' }) : wpAny M A (noteFrame (.ref a) env) (fun _ s' => wpAny M A (setFlight (.ref a) none) Q E s') E s := by
 obtain ⟨oe, vs, oT, ts, e1, rfl, e3, e4, e5, e6, e7, e8, e9, e10⟩ := ht
 unfold noteFrame
 simp only [hf]
 refine wpAny_bind (wpAny_field e1 e4 e5 ?_)
 rw [if_pos (show (Value.ref T != Value.none) = true from by simp)]
 refine wpAny_bind (wpAny_field e7 e8 e9 ?_)
 rw [if_neg (show ¬ ((Value.none == rawInt L) = true) from by simp [rawInt])]
 refine wpAny_bind (wpAny_setField e7 e8 (Array.getElem?_eq_some_iff.mp e9).1 ?_)
 have Xg : ∀ b, b ≠ T -> (s.heap.update T (Obj.mapFields (·.setIfInBounds 3 Value.none))).get? b = s.heap.get? b := fun b hb => Heap.get?_update_other _ _ (Ne.symm hb)
 have nT : ∀ b o, s.heap.get? b = some o -> (∀ vs, o.data ≠ .fields vs) -> b ≠ T := fun b o hb hn z => by
  rw [z, e7] at hb
  cases hb
  exact hn ts e8
 refine Ab (s := { s with heap := s.heap.update T (Obj.mapFields (·.setIfInBounds 3 Value.none)) }) zg (hl.of_keeps fun b o hb hn => ⟨o, (Xg b (nT b o hb hn)).trans hb, rfl⟩) hf ((Xg a (Ne.symm e6)).trans e1) e3 e4 (Array.getElem?_eq_some_iff.mp e5).1 e10 fun h' T' t1 t2 lv => h h' T' t1 ?_ ⟨fun b o n1 n2 q => ?_, fun b o m q => ?_⟩
 . by_cases z : T' = T
   . exact .inl z
   . exact .inr ((Xg T' z).symm.trans t2)
 . have : b ≠ a /\ b ≠ T := by simpa using n2
   exact lv.keep b o n1 (by simpa using this.1) ((Xg b this.2).trans q)
 . obtain ⟨_, o', q', hn⟩ := hl.mem m
   rw [q] at q'
   cases q'
   exact lv.slot b o m ((Xg b (nT b o q hn)).trans q)
theorem rL (ht : Fm s.heap a T c od) (h : ∀ h', Fm h' a T c od -> (∀ b o, b ≠ T -> s.heap.get? b = some o -> h'.get? b = some o) -> Q () { s with heap := h' }) : wpAny M A (setFlight (.ref a) none) Q E s := by
 obtain ⟨oe, vs, oT, ts, e1, rfl, e3, e4, e5, e6, e7, e8, e9, e10⟩ := ht
 have hz := (Array.getElem?_eq_some_iff.mp e9).1
 refine wpAny_setFlight_none e1 e4 e5 e7 e8 hz (h _ ⟨oe, vs, _, _, (Heap.get?_update_other _ _ e6).trans e1, rfl, e3, e4, e5, e6, Heap.get?_update_self _ e7 (Obj.isFreed_of_fields (Obj.data_mapFields e8 _)), Obj.data_mapFields e8 _, by simp [hz], e10⟩ fun b o hb q => (Heap.get?_update_other _ _ (Ne.symm hb)).trans q)
end
def BM (P : Program) (w : World) : zV := fun outer H s E e s' => ∃ a T C od H', e = .ref a /\ s'.os = s.os /\ AllBare s'.gens /\ Un (yE outer) [] H H' s.heap s'.heap /\ k8 P w H' s'.heap /\ Fm s'.heap a T (.ref C) od /\ s.heap.get? a = none /\ s.heap.get? T = none /\ H' a = none /\ H' T = none /\ E (.ref C) od H'
section
variable {P : Program} {w : World} {K : PySem.W.Frag} {mg : Str -> Option Value} {base : Heap} {N : List Str} {qual : Str} {scope : Scope} {f : Addr} {cd : Value} {A : Around} {outer : List Env} {s0 : Shared} {H0 : Hp} {E : XK} {CX : zV} {pins : List (Addr × Obj)} {σ : St} {H : Hp} {s : Shared}
theorem BX {a T C : Addr} {od : Option Addr} {S : List Addr} {h' : Heap} (I : Inv (vg CX P w K mg base N qual scope f cd A outer s0 H0 E) pins σ H s) (lv : Lv (vg CX P w K mg base N qual scope f cd A outer s0 H0 E).stack S s.heap h') (hS : ∀ b ∈ S, H b = none /\ s0.heap.get? b = none)
 (tr : Fm h' a T (.ref C) od) (ha : H a = none) (hT : H T = none) (na : s0.heap.get? a = none) (nT : s0.heap.get? T = none) (hE : E (.ref C) od H) : BM P w outer H0 s0 E (.ref a) { s with heap := h' } := by
 have eL : yE (vg CX P w K mg base N qual scope f cd A outer s0 H0 E).stack = s0.heap.objs.size :: yE outer := rfl
 have old : ∀ b o, s0.heap.get? b = some o -> b ∉ S /\ b ≠ s0.heap.objs.size := fun b o e => ⟨fun z => (by rw [(hS b z).2] at e; cases e), Nat.ne_of_lt (Heap.lt_size e)⟩
 refine ⟨a, T, C, od, H, rfl, I.os, I.bare, ⟨fun b o e n hb hx => ?_, fun b o e n hb hx => ?_, fun b o e n hx => I.base.free b o e n hx, fun b o e hx => ?_, I.base.lS, I.base.j7, I.base.pM⟩, fun b u e => ?_, tr, na, nT, ha, hT, hE⟩
 . have z := I.base.keep b o e n hb hx
   exact lv.keep b o (by rw [eL]; simp [(old b o e).2, hb]) (old b o e).1 z
 . obtain ⟨sl, z⟩ := I.base.slot b o e n hb hx
   obtain ⟨Ig, z2⟩ := lv.slot b _ (by rw [eL]; exact List.mem_cons_of_mem _ hb) z
   exact ⟨Ig, z2⟩
 . obtain ⟨o2, z⟩ := I.base.there b o e hx
   by_cases m : b ∈ yE (vg CX P w K mg base N qual scope f cd A outer s0 H0 E).stack
   . obtain ⟨Ig, z2⟩ := lv.slot b _ m z
     exact ⟨_, z2⟩
   . exact ⟨_, lv.keep b o2 m (old b o e).1 z⟩
 . refine (I.aP b u e).iF (fun c v hc q => ?_) (fun _ q => q) fun _ _ q => q
   have kz : H c ≠ none := by
    rcases hc with rfl | hc
    . rw [e]; intro z; cases z
    . rw [hc]; intro z; cases z
   exact lv.keep c v (fun m => kz (I.wy c m)) (fun m => kz (hS c m).1) q
def lY (CX : zV) (X : Cx) (E : St -> XK) : Prop := ∀ (pins : List (Addr × Obj)) (σ : St) (H : Hp) (s : Shared) (e : Value) (s' : Shared), Inv X pins σ H s -> CX X.stack H s (E σ) e s' -> X.xe e s'
theorem QC : lY (BM P w) (vg (BM P w) P w K mg base N qual scope f cd A outer s0 H0 E) (fun _ => E) := by
 intro pins σ H s e s' I ⟨a, T, C, od, H', he, os, bare, un, aP, tr, na, nT, ha, hT, hE⟩
 subst he
 have I' := I.JE (ch := []) os un aP bare (fun b z => nomatch z)
 have dead : ∀ b, s.heap.get? b = none -> s0.heap.get? b = none := fun b z => by
  cases q : s0.heap.get? b with
  | none => rfl
  | some o =>
    obtain ⟨o2, z2⟩ := I.base.there b o q (by intro y; cases y)
    rw [z] at z2
    cases z2
 show wpAny _ _ (leaving _ (.ref a)) _ _ s'
 refine wpAny_bind (xa (base := base) I'.ok.frames I'.stack rfl tr fun h2 T2 Zg Xd lv => ?_)
 have d' : s'.heap.get? T2 = none -> s0.heap.get? T2 = none := fun z => by
  cases q : s0.heap.get? T2 with
  | none => rfl
  | some o =>
    obtain ⟨o2, z2⟩ := I'.base.there T2 o q (by intro y; cases y)
    rw [z] at z2
    cases z2
 refine BX I' lv (fun b hb => ?_) Zg ha ?_ (dead a na) ?_ hE
 . have : b = a \/ b = T := by simpa using hb
   rcases this with rfl | rfl
   . exact ⟨ha, dead _ na⟩
   . exact ⟨hT, dead _ nT⟩
 . rcases Xd with rfl | z
   . exact hT
   . exact I'.aP.dead z
 . rcases Xd with rfl | z
   . exact dead _ nT
   . exact d' z
def xk (X : Cx) (E : St -> XK) : Prop := ∀ (pins : List (Addr × Obj)) (σ : St) (H : Hp) (s : Shared) (a C : Addr) (od : Option Addr) (oe : Obj) (vs : Array Value), Inv X pins σ H s -> s.heap.get? a = some oe -> oe.cls = .ref C -> oe.dict = od -> oe.data = .fields vs -> vs[1]? = some .none -> vs[2]? = some .none ->
 H a = none -> X.dM.heap.get? a = none -> E σ (.ref C) od H -> X.xe (.ref a) s
theorem u9 : xk (vg (BM P w) P w K mg base N qual scope f cd A outer s0 H0 E) (fun _ => E) := by
 intro pins σ H s a C od oe vs I e1 e2 e3 e4 v1 v2 ha na hE
 show wpAny _ _ (leaving _ (.ref a)) _ _ s
 refine wpAny_bind (CL (base := base) I.ok.frames I.stack rfl e1 e3 e4 v1 v2 fun h2 T2 Zg Xd lv => ?_)
 rw [e2] at Zg
 refine BX I lv (fun b hb => ?_) Zg ha (I.aP.dead Xd) na ?_ hE
 . have : b = a := by simpa using hb
   subst this
   exact ⟨ha, na⟩
 . cases q : s0.heap.get? T2 with
   | none => rfl
   | some o =>
     obtain ⟨o2, z2⟩ := I.base.there T2 o q (by intro y; cases y)
     rw [Xd] at z2
     cases z2
end
structure y4 (P : Program) (w : World) (K : PySem.W.Frag) (mg : Str -> Option Value) (base : Heap) (k : Nat) (f : Addr) (ps : List Str) (bJ : List V) (sp : Sp) : Prop where
 ex : ∃ (fd : FuncData) (ds : List Value), a7 P w K mg base (BM P w) k f fd ps sp /\ Binds K fd ps ds /\ Vals bJ ds
theorem jh.out {sp : Sp} {vs : List V} {H : Hp} {Q : VK} {E : XK} (h : jh sp vs H Q E) : sp vs H Q E := let ⟨_, e, h⟩ := h; e ▸ h
def Ml (sp : Sp) (bJ : List V) (E : St -> XK) (t : TA) : TE := fun σ H Q => t σ H fun vs H1 => jh sp (vs ++ bJ) H1 Q (E σ)
def Ks (C : Addr) (m : Str) (sp : Sp) (bJ : List V) (E : St -> XK) (ta : TE) (t : TA) : TE := fun σ H Q => ta σ H fun x H1 => ∃ a dx fs, x = .ref a /\ H1 a = some (.ins C dx fs) /\ fs.lookup m = none /\
 t σ H1 fun vs H2 => jh sp (x :: (vs ++ bJ)) H2 Q (E σ)
def Jh (C : Addr) (sp : Sp) (bJ : List V) (E : St -> XK) (t : TA) : TE := fun σ H Q => t σ H fun vs H1 => sL C sp (vs ++ bJ) H1 Q (E σ)
section
variable {X : Cx} {CX : zV} {k : Nat} {f C : Addr} {fd : FuncData} {ps : List Str} {sp : Sp} {bJ : List V} {ds : List Value} {E : St -> XK} {x m : Str} {p pos apos : Pos} {e o : Expr} {es : List Expr} {ta : TE} {t : TA}
theorem GF {pins : List (Addr × Obj)} {σ : St} {H : Hp} {s : Shared} {Q : VK} {us : List Value} {vs : List V} (F : a7 X.prog X.w X.K X.mg X.base CX k f fd ps sp) (hr : cI k X.A) (hb : Binds X.K fd ps ds) (hd : Vals bJ ds) (hx : lY CX X E)
 (I : Inv X pins σ H s) (r : Vals vs us) (h : sp (vs ++ bJ) H Q (E σ)) : wpAny (model X.prog X.w) X.A (call (.ref f) us) (EP X pins σ Q) X.xe s := by
 have r2 : Vals (vs ++ bJ) (us ++ ds) := r.append hd
 have hl : (us ++ ds).length = ps.length := by rw [<- r2.length]; exact F.len _ _ _ _ h
 refine wpAny_call (codeAny_mono (F.run X.A X.stack s H ⟨us, []⟩ (us ++ ds) (vs ++ bJ) Q (E σ) hr I.Ja (hb s us I.iB hl) r2 h) fun r s' hq => ?_)
 cases r with
 | error e => exact hx pins σ H s e s' I hq
 | ok fl =>
   cases fl with
   | ret u => exact I.after hq
   | next => exact False.elim hq
   | brk => exact False.elim hq
   | cont => exact False.elim hq
theorem Ow (c : y4 X.prog X.w X.K X.mg X.base k f ps bJ sp) (hr : cI k X.A) (hg : Gl X x) (hm : X.mg x = some (.ref f)) (hk : PySem.W.keepIn X.K (.ref f) = true) (hx : lY (BM X.prog X.w) X E)
 (ha : PA X (e :: es) t) (nV : (x == ("__debug__" : Str)) = false := by decide) (he : starEach (e :: es) X.env = (false, eval e X.env) :: starEach es X.env := by rfl) (mD : (backTo pos (starEach es X.env)).any (·.1) = false := by rfl) :
 PE X (.Call (.Name x p) (e :: es) [] pos) (Ml sp bJ E t) := by
 obtain ⟨fd, ds, F, hb, hd⟩ := c.ex
 intro pins s σ H Q I h
 refine wpAny_Call_Name_kw (f9 I hg hm ?_ nV)
 refine PySem.W.callWith_K (h₀ := X.base) I.ok.mod.MY hk (cm (ha pos pins s σ H _ I h) fun us s1 ⟨vs, H1, I1, r, q⟩ => ⟨I1.iB, ?_⟩) he mD
 exact GF F hr hb hd hx I1 r (jh.out q)
theorem lU {pl : Sem Bool} (he : PE X o ta) (c : su X.K C) (hm : Meth X.K C m f) (F : y4 X.prog X.w X.K X.mg X.base k f ps bJ sp) (hr : cI k X.A) (hx : lY (BM X.prog X.w) X E) (ha : PA X (e :: es) t)
 (qe : starEach (e :: es) X.env = (false, eval e X.env) :: starEach es X.env := by rfl) (mD : (backTo pos (starEach es X.env)).any (·.1) = false := by rfl)
 (ht : eval (.Call (.Attribute o m apos) (e :: es) [] pos) X.env = (do
  let ov <- eval o X.env
  standAt apos.atName
  let (f, first) <- holding [ov] (getMethod ov m pl)
  callWith pos f first (backTo pos (starEach (e :: es) X.env)) (backToKw pos (keywordEach [] X.env))) := by rfl) :
 PE X (.Call (.Attribute o m apos) (e :: es) [] pos) (Ks C m sp bJ E ta t) := by
 obtain ⟨fd, ds, F, hb, hd⟩ := F.ex
 intro pins s σ H Q I h
 refine PySem.W.methodCall_KW (pl := pl) (cm (he pins s σ H _ I h) fun u s1 ⟨x, H1, I1, rx, a, dx, fs, ex, ea, l, q⟩ => ?_) ht
 subst ex
 obtain rfl : u = Value.ref a := rx
 refine sf I1 ea c hm l ?_
 refine PySem.W.callWith_K (first := [.ref a]) (h₀ := X.base) I.ok.mod.MY hm.kp (cm (ha pos pins s1 σ H1 _ I1 q) fun us s2 ⟨vs, H2, I2, r, q2⟩ => ⟨I2.iB, ?_⟩) qe mD
 exact GF (us := .ref a :: us) (vs := .ref a :: vs) F hr hb hd hx I2 (.cons rfl r) (jh.out q2)
theorem wJ (M : Mk X.K C f) (F : y4 X.prog X.w X.K X.mg X.base k f ps bJ sp) (hr : cI (k + 1) X.A) (hg : Gl X x) (hm : X.mg x = some (.ref C)) (hx : lY (BM X.prog X.w) X E)
 (ha : PA X (e :: es) t) (nV : (x == ("__debug__" : Str)) = false := by decide) (he : starEach (e :: es) X.env = (false, eval e X.env) :: starEach es X.env := by rfl) (mD : (backTo pos (starEach es X.env)).any (·.1) = false := by rfl) :
 PE X (.Call (.Name x p) (e :: es) [] pos) (Jh C sp bJ E t) := by
 obtain ⟨fd, ds, F, hb, hd⟩ := F.ex
 intro pins s σ H Q I h
 refine wpAny_Call_Name_kw (f9 I hg hm ?_ nV)
 refine PySem.W.callWith_K (h₀ := X.base) I.ok.mod.MY M.kp (cm (ha pos pins s σ H _ I h) fun us s1 ⟨vs, H1, I1, r, q⟩ => ⟨I1.iB, ?_⟩) he mD
 unfold sL at q
 obtain ⟨ws, ew, q⟩ := q
 have q := ew ▸ q
 have hq := q (s1.heap.objs.size + 1) s1.heap.objs.size (I1.aP.fresh (Nat.le_succ _)) (I1.aP.fresh (Nat.le_refl _)) (Nat.ne_of_lt (Nat.lt_succ_self _))
 have I2 := Inv.made (C := C) I1
 have r2 : Vals (V.ref (s1.heap.objs.size + 1) :: (vs ++ bJ)) (Value.ref (s1.heap.objs.size + 1) :: (us ++ ds)) := .cons rfl (r.append hd)
 have hl : (Value.ref (s1.heap.objs.size + 1) :: us ++ ds).length = ps.length := by
  have e := r2.length
  rw [F.len _ _ _ _ hq] at e
  exact e.symm
 refine wpAny_call (CO (f := f) I1.iB M.makes M.init (beq_iff_eq.mp M.fn) (codeAny_mono (F.run _ X.stack _ _ ⟨Value.ref (s1.heap.objs.size + 1) :: us, []⟩ (Value.ref (s1.heap.objs.size + 1) :: (us ++ ds)) _ _ (E σ) (hr.make C us [])
  (I2.Ja.make C us []) (hb _ (Value.ref (s1.heap.objs.size + 1) :: us) I2.iB hl) r2 hq) fun r s' lL => ?_))
 cases r with
 | error e => exact hx pins σ _ _ e s' I2 lL
 | ok fl =>
   cases fl with
   | ret u =>
     obtain ⟨v, H', I3, rv, ev, q3⟩ := I2.after lL
     subst ev
     exact ⟨rv, ⟨V.ref (s1.heap.objs.size + 1), H', I3, rfl, q3⟩⟩
   | next => exact False.elim lL
   | brk => exact False.elim lL
   | cont => exact False.elim lL
end
section
variable {P : Program} {w : World} {K : PySem.W.Frag} {mg : Str -> Option Value} {base : Heap}
theorem bS.Vz {x qual : Str} {st : Stmt} {f : Addr} {dV : Value} {fd : FuncData} {N ps : List Str} {k : Nat} {sp : Sp} (F : bS K x qual st f dV fd) (S : aB N ps (av st)) (len : ∀ vs H Q E, sp vs H Q E -> vs.length = ps.length)
 (C7 : ∀ (dB : Value) (A : Around) (outer : List Env) (s : Shared) (H : Hp) (vs : List V) (Q : VK) (E : XK), cI k (A.deeper (envOfC qual (av st) s.heap.objs.size f dB)) -> sp vs H Q E ->
  ∃ t, By (vg (BM P w) P w K mg base N qual (av st) f dB A outer s H E) (md st) t /\ t { nx := fun _ H' => Q .bG H', rt := Q } (start N vs) H) : a7 P w K mg base (BM P w) (k + 1) f fd ps sp := by
 obtain ⟨oc, od, kV, doc, pm, an, dB, ct, HP, rfl, lk, F6⟩ := F.ex
 exact Q0 lk F6 S len fun A outer s H vs Q E hr AQ => C7 dB A outer s H vs Q E hr AQ
end
theorem Qc {prog : Program} {w : World} {A : Around} {E : Value -> Shared -> Prop} {s : Shared} {K : PySem.W.Frag} {x D : Addr} {ox od : Obj} {name : Str} {v : Value} {expr : Bool} {Q : Value -> Shared -> Prop} (t : TyE K D) (X : K.In s.heap) (I : InstAt s.heap x ox D (some od)) (ha : PySem.W.findIn K (.ref D) name = some none)
 (hl : PySem.W.lookIn name od = some (some v)) (hh : PySem.W.handedIn v = true) (h : Q v { s with toks := s.toks + 1 }) : wpAny (model prog w) A (getAttr (.ref x) name expr) Q E s := by
 have hf : findObj K D (some od) name = some (.value v) := PySem.W.findObj_own t.hd ha rfl hl
 obtain ⟨hp, g, d, tk, os⟩ := s
 have L0 := I.type (M := model prog w)
 have L1 := looks_findIn (M := model prog w) X t.ga
 have L2 := looks_findIn (M := model prog w) X t.gn
 have L3 := looks_find (M := model prog w) X I hf
 have L4 := looks_mroIn (M := model prog w) X t.mb
 have hk : builtinKind "BaseException.__getattribute__" = some .slot := by decide +kernel
 have hsplit : splitId "BaseException.__getattribute__" = some ("BaseException", "__getattribute__") := by decide +kernel
 unfold getAttr getAttrBy
 refine wpAny_bind (wpAny_mkText (wpAny_holding (wpAny_bind (L0.at (wpAny_bind (L1.at ?_))))))
 dsimp only
 rw [if_neg (show ¬ ((onTheHeap (Value.ref D) && Value.builtin "BaseException.__getattribute__" == Value.builtin "object.__getattribute__") = true) by rw [show (Value.builtin "BaseException.__getattribute__" == Value.builtin "object.__getattribute__") = false from by decide +kernel, Bool.and_false]; decide)]
 unfold getAttrByItsOwn
 refine wpAny_bind (show wpAny _ _ (typeLookup (.ref D) "__getattr__") _ _ _ from L2.at ?_)
 refine wpAny_bind (wpAny_attempt (wpAny_holding ?_))
 unfold callGetattribute
 rw [show (expr && onTheHeap (Value.builtin "BaseException.__getattribute__")) = false from by cases expr <;> rfl, if_neg (by decide)]
 unfold boundAndCalled
 rw [PySem.F.attr_ValueError.ga.bind]
 refine wpAny_bind (wpAny_pure ?_)
 refine wpAny_call (codeAny_call_builtin PySem.F.attr_ValueError.ga.plain PySem.F.entry_bexc_ga ?_)
 simp only [checkBuiltinCall, hk, hsplit]
 have ha := PySem.F.args_bexc_ga (.ref x) (.str name tk)
 dsimp only at L0 L1 L2 L3 L4 X I h
 refine wpAny_bind ?_
 unfold isInstance
 refine wpAny_bind (L0.at (L4.at ?_))
 rw [if_neg (by decide)]
 repeat (any_goals (first | assumption | with_reducible refine L0.at ?_ | with_reducible refine L3.at ?_ | wp_step))
 show wpAny _ _ (handedOut v) _ _ _
 rw [handedOut_of hh]; exact wpAny_pure h
def tR : List Value -> Bool
 | .ref _ :: r => tR r
 | l => l == IV
theorem L6 {l : List Value} (e : tR l = true) (self : Value) : refuseLoop self "__setattr__" l = pure () := by
 induction l with
 | nil => cases e
 | cons v r ih =>
   cases v with
   | ref c => rw [refuseLoop_ref]; exact ih e
   | _ => have e' := beq_iff_eq.mp (show ((_ :: r) == IV) = true from e); rw [e']; exact PySem.F.store_ValueError.passes self
theorem MI {l : List Value} (e : tR l = true) : l.contains (.type "object") = true /\ l.isEmpty = false := by
 refine ⟨?_, by cases l <;> first | rfl | cases e⟩
 induction l with
 | nil => cases e
 | cons v r ih =>
   cases v with
   | ref c => rw [List.contains_cons, ih e, Bool.or_true]
   | _ => have e' := beq_iff_eq.mp (show ((_ :: r) == IV) = true from e); rw [e']; decide
section
variable {prog : Program} {w : World} {A : Around} {E : Value -> Shared -> Prop} {s : Shared} {K : PySem.W.Frag} {x C : Addr} {ox : Obj} {name : Str} {v : Value} {cd : ClassData}
open Builtin.ObjectAttr in
theorem Pn {od : Option Obj} {tk : Tok} {R : Result -> Shared -> Prop} (X : K.In s.heap) (I : InstAt s.heap x ox C od) (hc : clsIn K C = some cd) (ho : tR cd.mro = true) (ht : takerIn K C name = some none)
 (h : ∀ b, wpAny (model prog w) A.in1 (storeInOwnDict (.ref x) (.ref C) (.str name tk) name v b)
  (fun fin s' => match fin with | .done f => R (.ok f) s' | .again c' => c'.quiet = true /\ codeAny (model prog w) A c' R s') (fun e s' => R (.error e) s') s) :
 codeAny (model prog w) A (.call (.builtin "object.__setattr__") ⟨[.ref x, .str name tk, v], []⟩) R s := by
 have SF := PySem.F.store_object
 obtain ⟨hob, ne⟩ := MI ho
 have sub : Looks (model prog w) s.heap (isInstance (.ref x) (.type "object")) true := I.type.andThen (looks_mroIn X (by unfold mroIn; rw [hc, Option.bind_some, if_neg (by rw [ne]; decide), hob]))
 refine codeAny_call_builtin SF.slot.plain SF.entry (@check_slot (model prog w) _ _ s "object.__setattr__" "object" "__setattr__" (.ref x) [.str name tk, v] [] _ SF.kind SF.split sub (SF.args (.ref x) (.str name tk) v) ?_)
 obtain ⟨attr, ha, hr⟩ := Option.bind_eq_some_iff.mp ht
 have hm : Looks (model prog w) s.heap (mroOf (.ref C)) cd.mro := (looks_clsIn X hc).andThen .now
 have L3 : Looks (model prog w) s.heap (storeTaker? attr) none := by
  cases attr with
  | none => cases hr; exact .now
  | some a =>
    obtain ⟨b, hb, he⟩ := Option.map_eq_some_iff.mp hr
    refine (looks_takesIn X hb).andThen ?_
    cases b
    . exact .now
    . cases he
 rw [osa_eq, refuse_eq]
 refine wpAny_bind (wpAny_bind (I.type.here (wpAny_bind (hm.here ?_))))
 rw [L6 ho]
 refine wpAny_pure (wpAny_bind (I.type.here (wpAny_bind ((looks_findIn X ha).here (wpAny_bind (L3.here ?_))))))
 exact h _
open Builtin.ObjectAttr in
theorem N1 {vs : Array Value} {Q : Unit -> Shared -> Prop} (X : K.In s.heap) (hx : s.heap.get? x = some ox) (Nr : ox.cls = .ref C) (hd : ox.dict = none) (hf : ox.data = .fields vs)
 (hs : PySem.W.findIn K (.ref C) "__setattr__" = some (some (.builtin "object.__setattr__"))) (hc : clsIn K C = some cd) (ho : tR cd.mro = true) (hh : cd.hasDict = true) (ht : takerIn K C name = some none)
 (h : ∀ h' d t', s.heap.get? d = none -> d ≠ x -> h'.get? x = some { ox with dict := some d } -> h'.Ns1 d (fun y => if y = name then some v else none) -> (∀ b o, b ≠ x -> s.heap.get? b = some o -> h'.get? b = some o) -> Q () { s with heap := h', toks := t' }) :
 wpAny (model prog w) A (setAttr (.ref x) name v) Q E s := by
 have J : InstAt s.heap x ox C none := ⟨hx, Nr, by unfold notCls; rw [hf], by rw [hd]; trivial⟩
 refine PySem.W.set_plain X J hs (Pn (s := { s with toks := s.toks + 1 }) X J hc ho ht fun b => ?_)
 unfold storeInOwnDict
 refine wpAny_bind (wpAny_pure ?_)
 rw [if_neg (by intro q; cases beq_iff_eq.mp q)]
 refine wpAny_bind ?_
 refine wpAny_bind (wpAny_loadPart hx ?_)
 rw [Nr]
 dsimp only
 refine wpAny_bind (PySem.W.Looks.here (s := { s with toks := s.toks + 1 }) (PySem.W.looks_clsIn X hc) ?_)
 rw [hh]
 simp only [Bool.not_true, Bool.false_eq_true, if_false]
 rw [hd]
 dsimp only
 rw [if_neg (by simp [typeHasDict]), hf]
 dsimp only
 have MS : (s.heap.push { cls := .type "dict", data := .dict #[] }).get? x = some ox := Heap.get?_push_of_some _ hx
 have Wg : x ≠ s.heap.objs.size := Nat.ne_of_lt (Heap.lt_size hx)
 refine wpAny_bind (wpAny_alloc' ?_)
 refine wpAny_bind (wpAny_update' MS ?_)
 refine wpAny_pure ?_
 have hgd : ((s.heap.push { cls := .type "dict", data := .dict #[] }).update x fun o => { cls := o.cls, dict := some s.heap.objs.size, data := o.data, slots := o.slots }).get? s.heap.objs.size = some { cls := .type "dict", data := .dict #[] } :=
  (Heap.get?_update_ne _ _ _ _ Wg.symm).trans (Heap.get?_push_at rfl rfl)
 have jP : ((s.heap.push { cls := .type "dict", data := .dict #[] }).update x fun o => { cls := o.cls, dict := some s.heap.objs.size, data := o.data, slots := o.slots }).Ns s.heap.objs.size (fun _ => none) :=
  ⟨_, #[], _, hgd, rfl, fun e he => absurd he (by simp), fun _ => rfl⟩
 show wpAny _ _ (storeInDict s.heap.objs.size (.str name _) name v) _ _ _
 unfold storeInDict newKeyGuard
 refine wpAny_bind (wpAny_pure (wpAny_bind (wpAny_nsSet1 (Heap.Ns1.of_empty jP) fun h' Vf sk => ?_)))
 obtain ⟨oD, esD, epD, hoD, hdD, hcD⟩ := Vf.count (Within.cons name v Within.nil)
 refine wpAny_bind (wpAny_lookBehind hoD (by rw [hdD]; exact pastItsLine_dict (Nat.le_trans hcD (by rw [List.length_cons, List.length_nil, sizeLine_eq]; omega))) ?_)
 refine wpAny_pure ?_
 refine h h' s.heap.objs.size _ (Heap.get?_none_of_le (Nat.le_refl _)) Wg.symm ?_ Vf fun b ob hbx hb => ?_
 . refine (sk.2 x Wg).trans ?_
   rw [Heap.get?_update_self _ MS]
   have zg := (Heap.get?_some_iff.mp hx).2
   obtain ⟨oc, od, odt, HP⟩ := ox
   cases odt <;> first | rfl | exact zg
 . exact (sk.2 b (Nat.ne_of_lt (Heap.lt_size hb))).trans ((Heap.get?_update_ne _ _ _ _ hbx).trans (Heap.get?_push_of_some _ hb))
end
def vf (a C : Addr) (od : Option Addr) : Heap -> Prop := fun h => ∃ o vs v0, h.get? a = some o /\ o.cls = .ref C /\ o.dict = od /\ o.data = .fields vs /\ vs[0]? = some v0 /\ vs[1]? = some .none /\ vs[2]? = some .none
def yT (a C : Addr) (od : Option Addr) : Heap -> Prop := fun h => ∃ o vs, h.get? a = some o /\ o.cls = .ref C /\ o.dict = od /\ o.data = .fields vs /\ vs[2]? = some .none
theorem vf.ext {h : Heap} {a C : Addr} {od : Option Addr} (m : vf a C od h) : vf a C od h /\ (∃ o, h.get? a = some o) /\ ∀ h1 h2 : Heap, vf a C od h1 -> (∀ o, h1.get? a = some o -> h2.get? a = some o) -> vf a C od h2 :=
 ⟨m, let ⟨o, _, _, e, _⟩ := m; ⟨o, e⟩, fun _ _ ⟨o, vs, v0, e, r⟩ k => ⟨o, vs, v0, k o e, r⟩⟩
theorem yT.ext {h : Heap} {a C : Addr} {od : Option Addr} (m : yT a C od h) : yT a C od h /\ (∃ o, h.get? a = some o) /\ ∀ h1 h2 : Heap, yT a C od h1 -> (∀ o, h1.get? a = some o -> h2.get? a = some o) -> yT a C od h2 :=
 ⟨m, let ⟨o, _, e, _⟩ := m; ⟨o, e⟩, fun _ _ ⟨o, vs, e, r⟩ k => ⟨o, vs, k o e, r⟩⟩
structure GJ (K : PySem.W.Frag) (C W fI : Addr) : Prop where
 cls : ∃ (nm q : Str) (N : Addr) (bs : List Value) (sn : List Str) (sub : List Value) (ab : Bool) (col : Option Bool) (dd : Option Addr) (k0 k1 k2 k3 k5 : Option Value), K.lookup C = some (excClassObj nm q C N bs (.ref W :: IV) true sn sub ab col dd k0 k1 k2 k3 k5 "ValueError.__new__")
 up : DN K W
 init : PySem.W.findIn K (.ref C) "__init__" = some (some (.ref fI))
 fn : PySem.W.isFn K (.ref fI) = true
 te : TyE K C
 sa : PySem.W.findIn K (.ref C) "__setattr__" = some (some (.builtin "object.__setattr__"))
 tk : PySem.W.takerIn K C "name" = some none
 nm : PySem.W.findIn K (.ref C) "name" = some none
def Bn (K : PySem.W.Frag) (C : Addr) : Prop := ∀ h : Heap, K.In h -> ∃ (bm : List Value) (N : Addr) (nm q : Str) (bs : List Value) (hd : Bool) (sn : List Str) (sub : List Value) (ab : Bool) (col : Option Bool) (dd : Option Addr) (k0 k1 k2 k3 k5 : Option Value),
 h.get? C = some (excClassObj nm q C N bs bm hd sn sub ab col dd k0 k1 k2 k3 k5 "ValueError.__new__") /\ OwnTail h IV bm
theorem DN.o {K : PySem.W.Frag} {C : Addr} (h : DN K C) : Bn K C := fun hp X => by
 obtain ⟨bm, N, nm, q, bs, hd, sn, sub, ab, col, dd, k0, k1, k2, k3, k5, mN, hC, _, _, T⟩ := EA X h
 exact ⟨bm, N, nm, q, bs, hd, sn, sub, ab, col, dd, k0, k1, k2, k3, k5, hC, T⟩
theorem GJ.tail {K : PySem.W.Frag} {C W fI : Addr} (e : GJ K C W fI) {h : Heap} (X : K.In h) : OwnTail h IV (.ref W :: IV) := by
 obtain ⟨bm, N, nm, q, bs, hd, sn, sub, ab, col, dd, k0, k1, k2, k3, k5, mN, hC, hN, Qf, T⟩ := EA X e.up
 exact .own hC hN Qf .base
theorem GJ.o {K : PySem.W.Frag} {C W fI : Addr} (e : GJ K C W fI) : Bn K C := fun hp X => by
 obtain ⟨nm, q, N, bs, sn, sub, ab, col, dd, k0, k1, k2, k3, k5, hl⟩ := e.cls
 exact ⟨_, N, nm, q, bs, true, sn, sub, ab, col, dd, k0, k1, k2, k3, k5, X _ _ hl, e.tail X⟩
section
variable {prog : Program} {w : World} {A : Around} {E : Value -> Shared -> Prop} {h : Heap} {g : Array GenState} {d : Drawn} {t : Nat} {os : OsState}
variable {nm q : Str} {C N : Addr} {bs bm MO : List Value} {hdct : Bool} {sn : List Str} {sub : List Value} {ab : Bool} {col : Option Bool} {dd : Option Addr} {k0 k1 k2 k3 k5 : Option Value} {B newId Lz : String}
theorem v5 {K : PySem.W.Frag} (F : ExcBaseFacts B newId Lz MO) (T : OwnTail h MO bm) {rest : List Value} {fI : Addr} {Q : PySem.Fin -> Shared -> Prop} (X : K.In h)
 (hC : h.get? C = some (excClassObj nm q C N bs bm hdct sn sub ab col dd k0 k1 k2 k3 k5 newId)) (hi : PySem.W.findIn K (.ref C) "__init__" = some (some (.ref fI))) (hf : PySem.W.isFn K (.ref fI) = true)
 (hq : ∀ h' e, Heap.MadeExcOf h h' e (.ref C) rest ->
  wpAny (model prog w) A (call (.ref fI) (.ref e :: rest)) (fun r s' => r = .none /\ Q (.done (.ret (.ref e))) s') E ⟨h', g, d, t, os⟩) (hrest : rest.length <= sizeLine) :
 wpAny (model prog w) A (Builtin.«type.__call__» ⟨.ref C :: rest, []⟩) Q E ⟨h, g, d, t, os⟩ := by
 repeat (first | with_reducible refine wpAny_loadPart_at hC ?_ | with_reducible refine wpAny_madeBy_exc hC ?_ | wp_step)
 refine codeAny_call_builtin_code (Code.quiet_builtin _ F.quiet) (wpAny_check_new_subT F T hC ?_)
 refine codeAny_exc_new_subT F T hC ?_ hrest
 show wpAny _ _ _ _ _ _
 have kp : ∀ b o, h.get? b = some o -> ((h.push { cls := .type "tuple", data := .seq rest.toArray }).push { cls := .ref C, data := .fields #[.ref h.objs.size, .none, .none, .none, .bool false, .none] }).get? b = some o := fun b o e => Heap.get?_push_of_some _ (Heap.get?_push_of_some _ e)
 have Yb := kp _ _ hC
 have X₁ := X.keeps kp
 have Yq : ((h.push { cls := .type "tuple", data := .seq rest.toArray }).push
  { cls := .ref C, data := .fields #[.ref h.objs.size, .none, .none, .none, .bool false, .none] }).get? (h.objs.size + 1) = some
  { cls := .ref C, data := .fields #[.ref h.objs.size, .none, .none, .none, .bool false, .none] } := by heap_get
 have hcC : (Value.ref C :: bm).contains (.ref C) = true := by simp
 unfold isInstance
 repeat (first | with_reducible refine wpAny_loadPart_at Yq ?_ | (with_reducible refine wpAny_isSubtype_exc Yb ?_; rw [hcC]) | wp_step)
 show wpAny _ _ (typeLookup (.ref C) _) _ _ _
 refine (PySem.W.looks_findIn (M := model prog w) X₁ hi).at ?_
 refine wpAny_holding (wpAny_bind ?_)
 refine (PySem.W.bind_fn (M := model prog w) X₁ _ (beq_iff_eq.mp hf)).at ?_
 refine wpAny_bind (wpAny_mono (hq _ (h.objs.size + 1) ⟨kp, Heap.get?_none_of_le (Nat.le_succ _), h.objs.size, Yq, Heap.get?_none_of_le (Nat.le_refl _), ?_⟩) (fun r s' hr => ?_) fun _ _ x => x)
 . exact Heap.get?_push_of_some _ (Heap.get?_push_at rfl rfl)
 . obtain ⟨rfl, hQ⟩ := hr
   wp_walk
   exact hQ
theorem yg {K : PySem.W.Frag} (F : ExcBaseFacts B newId Lz MO) (T : OwnTail h MO bm) {rest : List Value} {fI : Addr} {Q : Value -> Shared -> Prop} (X : K.In h)
 (hC : h.get? C = some (excClassObj nm q C N bs bm hdct sn sub ab col dd k0 k1 k2 k3 k5 newId)) (hi : PySem.W.findIn K (.ref C) "__init__" = some (some (.ref fI))) (hf : PySem.W.isFn K (.ref fI) = true)
 (hq : ∀ h' e, Heap.MadeExcOf h h' e (.ref C) rest ->
  wpAny (model prog w) (A.under (.builtin "type.__call__" ⟨.ref C :: rest, []⟩)) (call (.ref fI) (.ref e :: rest)) (fun r s' => r = .none /\ Q (.ref e) s') E ⟨h', g, d, t, os⟩) (hrest : rest.length <= sizeLine) :
 wpAny (model prog w) A (call (.ref C) rest) Q E ⟨h, g, d, t, os⟩ := by
 have f1 := tc_lookup
 have f2 := tc_bind (.ref C)
 have hT : (⟨h, g, d, t, os⟩ : Shared).TypeIs (.ref C) "type" := ⟨_, hC, rfl⟩
 refine wpAny_call (codeAny_of_tree ?_)
 show wpAny _ _ (callAny (.ref C) _) _ _ _
 repeat (any_goals (first | assumption | with_reducible refine wpAny_loadPart_at hC ?_ | wp_step))
 refine ⟨rfl, ?_⟩
 refine codeAny_call_builtin_at (Code.quiet_builtin _ (by decide +kernel)) entry_typeCall (wpAny_check_type_call_sub hC (v5 (hrest := hrest) F T X hC hi hf fun h' e hm => ?_))
 exact hq h' e hm
end
theorem UQ {H : Hp} {a : Addr} {o : HO} (e : H a = some o) : upd H a o = H := by
 funext b
 unfold upd
 split
 . rename_i z; rw [z, e]
 . rfl
structure QR (K : PySem.W.Frag) (W : Addr) : Prop where
 ga : PySem.W.specialIn K (.ref W) "__getattribute__" = some (some (.builtin "type.__getattribute__"))
 rd : PySem.W.readsIn K W (.type "type") = true
 fd : PySem.W.findCls K (.ref W) (.type "type") "__init__" = some (.val (.builtin "ValueError.__init__"))
def yo (K : PySem.W.Frag) (vs : List V) (H : Hp) (Q : VK) : Prop := ∃ a C od ys, vs = .ref a :: ys /\ ys.length <= 100 /\ H a = some (.ext (vf a C od)) /\ Bn K C /\ Q .bG H
def CV (K : PySem.W.Frag) (t : TA) : TE := fun σ H Q => t σ H fun vs H1 => yo K vs H1 Q
section
variable {X : Cx} {W : Addr} {x : Str} {p pos apos : Pos} {e : Expr} {es : List Expr} {t : TA} {pl : Sem Bool}
theorem xn (hg : Gl X x) (hm : X.mg x = some (.ref W)) (B : QR X.K W) (ha : PA X (e :: es) t)
 (nV : (x == ("__debug__" : Str)) = false := by decide)
 (qe : starEach (e :: es) X.env = (false, eval e X.env) :: starEach es X.env := by rfl) (mD : (backTo pos (starEach es X.env)).any (·.1) = false := by rfl)
 (ht : eval (.Call (.Attribute (.Name x p) "__init__" apos) (e :: es) [] pos) X.env = (do
  let ov <- eval (.Name x p) X.env
  standAt apos.atName
  let (f, first) <- holding [ov] (getMethod ov "__init__" pl)
  callWith pos f first (backTo pos (starEach (e :: es) X.env)) (backToKw pos (keywordEach [] X.env))) := by rfl) :
 PE X (.Call (.Attribute (.Name x p) "__init__" apos) (e :: es) [] pos) (CV X.K t) := by
 intro pins s σ H Q I h
 refine PySem.W.methodCall_KW (pl := pl) (f9 I hg hm ?_ nV) ht
 refine PySem.W.method_cls I.iB B.ga ?_
 refine PySem.W.cls_value I.iB B.rd B.fd rfl ?_
 have I' : Inv X pins σ H { s with toks := s.toks + 1 } := I.tok _
 show wpAny _ _ (callWith pos (.builtin "ValueError.__init__") [] (backTo pos (starEach (e :: es) X.env)) []) _ _ _
 refine PyProof.Rows.callWith_builtin1 (cm (ha pos pins _ σ H _ I' h) fun us s2 ⟨vs, H2, I2, r, q2⟩ => ?_) qe mD
 obtain ⟨a, C, od, ys, rfl, hly, hH, hO, q⟩ := q2
 cases r with
 | cons ra ru =>
 rename_i u us _
 obtain rfl : u = Value.ref a := ra
 obtain ⟨⟨o, vs', v0, e1, e2, e3, e4, e5, e6, e7⟩, _⟩ := (show bI X.prog X.w H2 s2.heap a (.ext (vf a C od)) from I2.aP a _ hH)
 obtain ⟨bm, N, nm, q', bs, hd, sn, sub, ab, col, dd, k0, k1, k2, k3, k5, hC, T⟩ := hO _ I2.iB
 obtain ⟨hp, g, d, tk, os⟩ := s2
 have F := PySem.F.excBase_ValueError
 have Fd : us.length <= sizeLine := by rw [<- ru.length, sizeLine_eq]; omega
 refine wpAny_call (codeAny_call_builtin F.init.plain F.initEntry (wpAny_check_init_subT F T hC e1 e2 ?_))
 show wpAny _ _ (newTuple us >>= fun t => Builtin.BaseException.bexcPut (.ref a) 0 t >>= fun _ => ret .none) _ _ _
 refine wpAny_bind (wpAny_newTuple ?_ Fd)
 unfold Builtin.BaseException.bexcPut
 have kp : ∀ b u, hp.get? b = some u -> (hp.push (seqObj "tuple" us.toArray 0)).get? b = some u := fun b u z => Heap.get?_push_of_some _ z
 have I3 : Inv X pins σ H2 ⟨hp.push (seqObj "tuple" us.toArray 0), g, d, tk, os⟩ := I2.kept (t' := tk) kp
 have VF := kp _ _ e1
 have hz : 0 < vs'.size := (Array.getElem?_eq_some_iff.mp e5).1
 refine wpAny_bind (wpAny_bind (wpAny_field VF e4 e5 (wpAny_bind (wpAny_setField VF e4 hz ?_))))
 have d3 := Obj.data_mapFields e4 (·.setIfInBounds 0 (Value.ref hp.objs.size))
 have e3' := Heap.get?_update_self (Obj.mapFields (·.setIfInBounds 0 (Value.ref hp.objs.size))) VF (Obj.isFreed_of_fields d3)
 have I4 : Inv X pins σ H2 ⟨(hp.push (seqObj "tuple" us.toArray 0)).update a (Obj.mapFields (·.setIfInBounds 0 (Value.ref hp.objs.size))), g, d, tk, os⟩ := by
  have J := I3.write (x := a) (e := a) (o := .ext (vf a C od)) (t' := tk) (h' := (hp.push (seqObj "tuple" us.toArray 0)).update a (Obj.mapFields (·.setIfInBounds 0 (Value.ref hp.objs.size)))) (by rw [hH]; trivial) (.inl rfl) (fun b u hb z => (Heap.get?_update_other _ _ (Ne.symm hb)).trans z) ⟨_, e3'⟩
   (vf.ext ⟨_, _, .ref hp.objs.size, e3', ?_, ?_, d3, by simp [hz], ?_, ?_⟩)
  . rw [UQ hH] at J; exact J
  . rw [Obj.cls_mapFields]; exact e2
  . obtain ⟨c0, d0, ZL, sl0⟩ := o
    cases ZL <;> first | exact e3 | (cases e4)
  . rw [Array.getElem?_setIfInBounds_ne (by decide)]; exact e6
  . rw [Array.getElem?_setIfInBounds_ne (by decide)]; exact e7
 have fin : EP X pins σ Q Value.none ⟨(hp.push (seqObj "tuple" us.toArray 0)).update a (Obj.mapFields (·.setIfInBounds 0 (Value.ref hp.objs.size))), g, d, tk, os⟩ := ⟨.bG, H2, I4, rfl, q⟩
 cases v0
 case ref b => exact wpAny_letGo (wpAny_pure fin)
 all_goals exact wpAny_pure (wpAny_pure fin)
end
theorem Sx {K : PySem.W.Frag} {C : Addr} {c0 : Value} {dd : Option Addr} {cd : ClassData} {sl : Array (Option Value)} (h : K.lookup C = some ⟨c0, dd, .cls cd, sl⟩) : clsIn K C = some cd := by unfold clsIn; rw [h]
def QJ (K : PySem.W.Frag) (ta tv : TE) : TS := fun D σ H => tv σ H fun y H1 => ta σ H1 fun x H2 => ∃ a C W fI, x = .ref a /\ H2 a = some (.ext (vf a C none)) /\ GJ K C W fI /\ ∀ d, H2 d = none -> d ≠ a -> D.nx σ (upd (upd H2 d (.xd [("name", y)])) a (.ext (vf a C (some d))))
theorem F1 {X : Cx} {o value : Expr} {pos pos' : Pos} {ta tv : TE} (ha : PE X o ta) (hv : PE X value tv) (hs : swapsWith value (some (.Attribute o "name" pos')) pos.line X.env = pure false) : PS X (.Assign [.Attribute o "name" pos'] value pos) (QJ X.K ta tv) := by
 intro pins s σ H D I h
 refine plainObj_wpAny_Assign_Attribute (cm (hv pins s σ H _ I h) fun u s1 ⟨y, H1, I1, ry, q⟩ => cm (ha pins s1 σ H1 _ I1 q) fun ov s2 ⟨x, H2, I2, rx, a, C, W, fI, ex, ea, n, q2⟩ => ?_) hs
 subst ex
 obtain rfl : ov = Value.ref a := rx
 obtain ⟨⟨o, vs, v0, e1, e2, e3, e4, e5, e6, e7⟩, _⟩ := (show bI X.prog X.w H2 s2.heap a (.ext (vf a C none)) from I2.aP a _ ea)
 obtain ⟨nm, qn, N, bs, sn, sub, ab, col, dd, k0, k1, k2, k3, k5, hl⟩ := n.cls
 have hc := Sx hl
 refine N1 I2.iB e1 e2 e3 e4 n.sa hc rfl rfl n.tk fun h' d t' hd hda hx G4 kp => ?_
 have hHd : H2 d = none := I2.aP.dead hd
 refine ⟨σ, _, ?_, q2 d hHd hda⟩
 have RH : ∀ b, H2 b = none -> b ≠ a := fun b z y => by rw [y, ea] at z; cases z
 have nda : ∀ b o, s2.heap.get? b = some o -> b ≠ d := fun b o z y => by rw [y, hd] at z; cases z
 have old : ∀ b u, H2 b = some u -> b ≠ a -> upd (upd H2 d (.xd [("name", y)])) a (.ext (vf a C (some d))) b = some u := fun b u z nb => by
  rw [aw nb, aw (fun y => by rw [y, hHd] at z; cases z)]; exact z
 refine I2.step (g' := s2.gens) (d' := s2.drawn) (t' := t') (ch := []) (fun _ z => nomatch z) (fun b o _ _ _ z n => kp b o (RH b n) z) (fun b o _ _ _ z n => ⟨o.slots, kp b o (RH b n) z⟩) (fun b o _ z n => ?_) (fun b o _ z => ?_) (fun b xs z => old b _ z (fun y => by rw [y, ea] at z; cases z)) (fun b o u z => old b _ z (fun y => by rw [y, ea] at z; cases z)) (fun b ps z => ⟨#[], by rw [Array.append_empty]; exact old b _ z (fun y => by rw [y, ea] at z; cases z)⟩) (fun m hm => ?_) (fun b u z => ?_) I2.bare
 . rw [aw (RH b n), aw (nda b o z)]; exact n
 . by_cases hb : b = a
   . exact ⟨_, hb ▸ hx⟩
   . exact ⟨o, kp b o hb z⟩
 . obtain ⟨o', es, ep, z, r⟩ := hm
   exact ⟨o', es, ep, kp _ _ (RH _ I2.free) z, r⟩
 . by_cases hb : b = a
   . subst hb
     rw [au] at z
     cases z
     exact vf.ext ⟨_, vs, v0, hx, e2, rfl, e4, e5, e6, e7⟩
   . by_cases Dh : b = d
     . subst Dh
       rw [aw hb, au] at z
       cases z
       refine ⟨_, G4, fun f => ?_⟩
       by_cases hf : f = Str.ofString "name"
       . subst hf; rw [if_pos rfl]; simp [List.lookup]; exact ry
       . rw [if_neg hf]
         have : (f == Str.ofString "name") = false := beq_eq_false_iff_ne.mpr hf
         simp [List.lookup, this]; trivial
     . rw [aw hb, aw Dh] at z
       refine (I2.aP b u z).iF (fun c v kz q' => ?_) (fun c z' => old c _ z' (fun y => by rw [y, ea] at z'; cases z')) fun c xs z' => old c _ z' (fun y => by rw [y, ea] at z'; cases z')
       refine kp c v ?_ q'
       rcases kz with rfl | kz
       . exact hb
       . intro y; rw [y, ea] at kz; cases kz
def del (H : Hp) (a : Addr) : Hp := fun b => if b = a then none else H b
theorem Ej {H : Hp} {a b : Addr} (h : b ≠ a) : del H a b = H b := if_neg h
theorem C9 {H : Hp} {a : Addr} : del H a a = none := if_pos rfl
theorem Inv.O6 {X : Cx} {pins : List (Addr × Obj)} {σ : St} {H : Hp} {s : Shared} {a : Addr} {φ : Heap -> Prop} (I : Inv X pins σ H s) (e : H a = some (.ext φ)) : Inv X pins σ (del H a) s := by
 have old : ∀ b u, H b = some u -> (∀ φ, u ≠ .ext φ) -> del H a b = some u := fun b u z nu => by
  rw [Ej (fun y => by rw [y, e] at z; exact nu φ (Option.some.inj z).symm)]; exact z
 have fr : ∀ b, H b = none -> del H a b = none := fun b z => by unfold del; split <;> first | rfl | exact z
 refine ⟨I.ok, I.os, I.bare, ⟨I.base.keep, I.base.slot, fun b o z n hx => fr b (I.base.free b o z n hx), I.base.there, fun b xs z => old b _ (I.base.lS b xs z) (by intro _ y; cases y), fun b o u z => old b _ (I.base.j7 b o u z) (by intro _ y; cases y), fun b ps z => ?_⟩, I.loc, I.cell, fr _ I.free, fun x c z => fr _ (I.eG x c z), fun p hp => ?_, fun b u z => ?_, I.len⟩
 . obtain ⟨m, z'⟩ := I.base.pM b ps z
   exact ⟨m, old b _ z' (by intro _ y; cases y)⟩
 . obtain ⟨e1, e2, e3⟩ := I.pin p hp
   exact ⟨e1, fr _ e2, e3⟩
 . by_cases hb : b = a
   . rw [hb, C9] at z; cases z
   . rw [Ej hb] at z
     exact (I.aP b u z).iF (fun _ _ _ q => q) (fun c q => old c _ q (by intro _ y; cases y)) fun c xs q => old c _ q (by intro _ y; cases y)
section
variable {prog : Program} {w : World} {A : Around} {E : Value -> Shared -> Prop} {s : Shared} {env : Env}
variable {nm q : Str} {C N : Addr} {bs bm MO : List Value} {hdct : Bool} {sn : List Str} {sub : List Value} {ab : Bool} {col : Option Bool} {dd : Option Addr} {k0 k1 k2 k3 k5 : Option Value} {newId : String}
theorem D5 {x : Sem Value} {Q : Flow -> Shared -> Prop} (sY : bm.contains (.type "BaseException") = true) (hh : A.handled = none)
 (h : wpAny (model prog w) A x (fun v s₁ => ∃ e oe vs, v = .ref e /\ s₁.heap.get? C = some (excClassObj nm q C N bs bm hdct sn sub ab col dd k0 k1 k2 k3 k5 newId) /\
  s₁.heap.get? e = some oe /\ oe.cls = .ref C /\ oe.data = .fields vs /\ vs[1]? = some .none /\ E (.ref e) s₁) E s) :
 wpAny (model prog w) A (raiseStmt env (some x) none) Q E s := by
 have hcB : (Value.ref C :: bm).contains (.type "BaseException") = true := by rw [List.contains_cons, sY, Bool.or_true]
 unfold raiseStmt
 refine wpAny_bind (wpAny_mono h (fun v s₁ h₁ => ?_) fun _ _ x => x)
 obtain ⟨e, oe, vs, rfl, hC, he, II, Xz, XU, hE⟩ := h₁
 obtain ⟨hp, g, d, tk, os⟩ := s₁
 repeat (first | (with_reducible refine wpAny_loadPart_at he ?_; first | rw [II] | rw [Xz]) | with_reducible refine wpAny_loadPart_at hC ?_ | (with_reducible refine wpAny_isSubtype_exc hC ?_; rw [hcB]) | wp_step)
 rw [Xz]
 refine wpAny_pure ?_
 rw [XU]
 refine wpAny_pure ?_
 rw [if_neg (by decide)]
 exact wpAny_pure (wpAny_raiseNew_none hh hE)
end
def nY (n : Str) : Prop := n.length <= 1000 /\ ∀ c ∈ n.cps.toList, c < 1114112
def FA (C : Addr) (E : St -> XK) (ta : TA) : TS := fun _ σ H => ta σ H fun vs H1 => ∃ n, vs = [.str n] /\ nY n /\ ∀ d, H1 d = none -> E σ (.ref C) (some d) (upd H1 d (.xd [("name", .str n)]))
def Gu (C : Addr) (E : St -> XK) (ta : TA) : TS := fun _ σ H => ta σ H fun vs H1 => vs.length <= sizeLine /\ E σ (.ref C) none H1
def lD (K : PySem.W.Frag) (C : Addr) : Sp := fun vs H Q _ => ∃ a n, vs = [.ref a, .str n] /\ nY n /\ H a = some (.ext (vf a C none)) /\ ∀ d, H d = none -> d ≠ a -> Q .bG (upd (upd H d (.xd [("name", .str n)])) a (.ext (vf a C (some d))))
theorem zX {X : Cx} {E : St -> XK} {C W fI : Addr} {k : Nat} {x : Str} {np dh pos : Pos} {e : Expr} {ta : TA} (hX : xk X E) (hc : X.calm = true) (ha : PA X [e] ta) (hg : Gl X x) (hm : X.mg x = some (.ref C)) (hq : GJ X.K C W fI) (hr : cI (k + 1) X.A)
 (F : gk X.prog X.w X.K X.mg X.base k fI ["self", "name"] [] (lD X.K C)) (hex : X.ex = [])
 (hs : starEach [e] X.env = (false, eval e X.env) :: starEach [] X.env := by rfl) (vd : (backTo dh (starEach [e] X.env)).any (·.1) = false := by rfl) (nV : (x == ("__debug__" : Str)) = false := by decide) :
 PS X (.Raise (some (.Call (.Name x np) [e] [] dh)) none pos) (FA C E ta) := by
 intro pins s σ H D I h
 obtain ⟨nm, qn, N, bs, sn, sub, ab, col, dd, k0, k1, k2, k3, k5, hl⟩ := hq.cls
 have T := hq.tail I.iB
 rw [arm_exec_Raise]
 refine wpAny_bind (wpAny_standAt ?_)
 show wpAny _ _ (raiseStmt X.env (some (do let v <- eval (.Call (.Name x np) [e] [] dh) X.env; standAt pos; pure v)) none) _ _ s
 refine D5 (C := C) (nm := nm) (q := qn) (N := N) (bs := bs) (bm := .ref W :: IV) (hdct := true) (sn := sn) (sub := sub) (ab := ab) (col := col) (dd := dd) (k0 := k0) (k1 := k1) (k2 := k2) (k3 := k3) (k5 := k5) (newId := "ValueError.__new__") (T.hasType (by decide)) (I.ok.hd hc) ?_
 refine wpAny_bind (wpAny_mono (Q := fun v s₁ => ∃ e oe vs, v = .ref e /\ s₁.heap.get? C = some (excClassObj nm qn C N bs (.ref W :: IV) true sn sub ab col dd k0 k1 k2 k3 k5 "ValueError.__new__") /\ s₁.heap.get? e = some oe /\ oe.cls = .ref C /\ oe.data = .fields vs /\ vs[1]? = some .none /\ X.xe (.ref e) s₁) ?_ (fun v s₁ z => wpAny_bind (wpAny_standAt (wpAny_pure z))) fun _ _ z => z)
 refine wpAny_Call_ofName (f9 I hg hm ?_ nV)
 have hA := ha dh pins s σ H _ I h
 unfold callWith
 refine wpAny_bind (wpAny_holding ?_)
 rw [hs] at hA vd ⊢
 refine Calls.evalArgs_plain (cm hA fun us s1 ⟨vs, H1, I1, r1, n, hv, hn, q1⟩ => ?_)
 refine wpAny_bind (wpAny_standAt ?_)
 simp only [vd]
 have hC1 := I1.iB _ _ hl
 have T1 := hq.tail I1.iB
 have Fd : us.length <= sizeLine := by rw [<- r1.length, hv, sizeLine_eq]; simp
 obtain ⟨hp, g, d, tk, os⟩ := s1
 refine wpAny_bind (wpAny_keeperOf_exc hC1 ?_)
 obtain ⟨fd, ds, F, hb, O7⟩ := F.ex
 cases O7
 refine wpAny_bind (yg PySem.F.excBase_ValueError T1 I1.iB hC1 hq.init hq.fn (fun h' e hm => ?_) Fd)
 obtain ⟨t0, e1, _, _⟩ := hm.there
 have I2 : Inv X pins σ H1 ⟨h', g, d, tk, os⟩ := I1.kept (t' := tk) fun b u z => hm.keeps b u z
 have dead : X.dM.heap.get? e = none := by
  cases q' : X.dM.heap.get? e with
  | none => rfl
  | some o =>
    obtain ⟨o2, z2⟩ := I1.base.there e o q' (by rw [hex]; intro y; cases y)
    rw [hm.new] at z2
    cases z2
 have hHe : H1 e = none := I1.aP.dead hm.new
 have I3 : Inv X pins σ (upd H1 e (.ext (vf e C none))) ⟨h', g, d, tk, os⟩ := I2.Ku hHe dead (fun y => by
  obtain ⟨m, ⟨o, _, _, ho, _⟩, _⟩ := I1.loc
  rw [<- y, hm.new] at ho
  cases ho) (fun x c z y => by
  obtain ⟨v, o, ho, _⟩ := I1.cell x c z
  rw [y, hm.new] at ho
  cases ho) (fun p HW y => by
  have ho := (I1.pin p HW).1
  rw [y, hm.new] at ho
  cases ho) (vf.ext ⟨_, _, _, e1, rfl, rfl, rfl, rfl, rfl, rfl⟩)
 have r2 : Vals [.ref e, .str n] (.ref e :: us) := .cons rfl (hv ▸ r1)
 have AQ : lD X.K C [.ref e, .str n] (upd H1 e (.ext (vf e C none))) (fun v H2 => v = .bG /\ ∃ d, H1 d = none /\ d ≠ e /\ H2 = upd (upd (upd H1 e (.ext (vf e C none))) d (.xd [("name", .str n)])) e (.ext (vf e C (some d)))) E0 :=
  ⟨e, n, rfl, hn, au, fun d' h1 h2 => ⟨rfl, d', by rw [aw h2] at h1; exact h1, h2, rfl⟩⟩
 have hlen : (Value.ref e :: us ++ []).length = ["self", "name"].length := by have := r2.length; simp at this ⊢; omega
 have hbd := hb ⟨h', g, d, tk, os⟩ (.ref e :: us) I2.iB hlen
 rw [List.append_nil] at hbd
 refine wpAny_call (codeAny_mono (F.run _ X.stack ⟨h', g, d, tk, os⟩ _ ⟨.ref e :: us, []⟩ (.ref e :: us) _ _ E0 (hr.make C us []) (I3.Ja.make C us []) hbd r2 AQ) fun r s' lL => ?_)
 cases r with
 | error e => exact lL.elim
 | ok fl =>
   cases fl with
   | next => exact False.elim lL
   | brk => exact False.elim lL
   | cont => exact False.elim lL
   | ret u =>
     obtain ⟨v, H', I4, rv, ev, d', yG, hd2, rfl⟩ := I3.after lL
     subst ev
     refine ⟨rv, wpAny_bind (wpAny_holding (wpAny_point (wpAny_pure ?_)))⟩
     obtain ⟨⟨oe, ws, v0, f1, f2, f3, f4, f5, f6, f7⟩, _⟩ := (show bI X.prog X.w _ s'.heap e (.ext (vf e C (some d'))) from I4.aP e _ au)
     refine ⟨e, oe, ws, rfl, I4.iB _ _ hl, f1, f2, f4, f6, ?_⟩
     have eH : del (upd (upd (upd H1 e (.ext (vf e C none))) d' (.xd [("name", .str n)])) e (.ext (vf e C (some d')))) e = upd H1 d' (.xd [("name", .str n)]) := by
      funext b
      by_cases IL : b = e
      . subst IL; rw [C9, aw (Ne.symm hd2), hHe]
      . rw [Ej IL, aw IL]
        unfold upd
        split <;> first | rfl | (rw [if_neg IL])
     have I5 := I4.O6 au
     rw [eH] at I5
     exact hX pins σ _ s' e C (some d') oe ws I5 f1 f2 f3 f4 f6 f7 (by rw [aw (Ne.symm hd2)]; exact hHe) dead (q1 d' yG)
theorem qm {X : Cx} {E : St -> XK} {C : Addr} {x : Str} {np dh pos : Pos} {e : Expr} {ta : TA} (hX : xk X E) (hc : X.calm = true) (ha : PA X [e] ta) (hg : Gl X x) (hm : X.mg x = some (.ref C)) (hq : DN X.K C) (hex : X.ex = [])
 (hs : starEach [e] X.env = (false, eval e X.env) :: starEach [] X.env := by rfl) (vd : (backTo dh (starEach [e] X.env)).any (·.1) = false := by rfl) (nV : (x == ("__debug__" : Str)) = false := by decide) :
 PS X (.Raise (some (.Call (.Name x np) [e] [] dh)) none pos) (Gu C E ta) := by
 intro pins s σ H D I h
 obtain ⟨bm, N, nm, q, bs, hd, sn, sub, ab, col, dd, k0, k1, k2, k3, k5, mN, hC, hN, Qf, T⟩ := EA I.mod.MY hq
 refine wpAny_Raise_call_subT (C := C) (nm := nm) (q := q) (N := N) (bs := bs) (bm := bm) (hdct := hd) (sn := sn) (sub := sub) (ab := ab) (col := col) (dd := dd) (k0 := k0) (k1 := k1) (k2 := k2) (k3 := k3) (k5 := k5) (mN := mN) PySem.F.excBase_ValueError (T.hasType (by decide)) (I.ok.hd hc) vd Qf (f9 I hg hm ⟨rfl, ?_⟩ nV)
 have hA := ha dh pins s σ H _ I h
 rw [hs] at hA ⊢
 refine Calls.evalArgs_plain (cm hA fun us s1 ⟨vs, H1, I1, r1, Fd, q1⟩ => ?_)
 rw [r1.length] at Fd
 refine ⟨rfl, Fd, I1.bk _ _ hC, hN.at' fun o e => I1.bk _ _ e, T.keeps I1.bk, fun h2 a m => ?_⟩
 obtain ⟨t0, e1, _, _⟩ := m.there
 have I2 : Inv X pins σ H1 { s1 with heap := h2 } := I1.kept (t' := s1.toks) fun b u z => m.keeps b u z
 have dead : X.dM.heap.get? a = none := by
  cases q' : X.dM.heap.get? a with
  | none => rfl
  | some o =>
    obtain ⟨o2, z2⟩ := I1.base.there a o q' (by rw [hex]; intro y; cases y)
    rw [m.new] at z2
    cases z2
 exact hX pins σ H1 _ a C none _ _ I2 e1 rfl rfl rfl rfl rfl (I1.aP.dead m.new) dead q1
theorem Es {M : Model} {A : Around} {E : Value -> Shared -> Prop} {h : Heap} {g : Array GenState} {d : Drawn} {t : Nat} {os : OsState} {a C D N N' : Addr} {oe : Obj} {nm q nm' q' : Str} {bs bm bs' Y1 sub VO : List Value} {hdct Ws ab ab' : Bool} {sn sn' : List Str} {col Yy : Option Bool} {dd MZ : Option Addr} {k0 k1 k2 k3 k5 l0 l1 l2 l3 l5 : Option Value} {newId SV : String} {Q : Bool -> Shared -> Prop} {b : Bool}
 (hC : h.get? C = some (excClassObj nm q C N bs bm hdct sn sub ab col dd k0 k1 k2 k3 k5 newId)) (hD : h.get? D = some (excClassObj nm' q' D N' bs' Y1 Ws sn' VO ab' Yy MZ l0 l1 l2 l3 l5 SV)) (he : h.get? a = some oe) (II : oe.cls = .ref C) (hb : Y1.contains (.type "BaseException") = true)
 (hit : (Value.ref C :: bm).contains (.ref D) = b) (hq : Q b ⟨h, g, d, t, os⟩) : wpAny M A (excMatches (.ref a) (.ref D)) Q E ⟨h, g, d, t, os⟩ := by
 have c1 : (Value.ref D :: Y1).contains (.type "BaseException") = true := by rw [List.contains_cons, hb, Bool.or_true]
 have f := tc_notTuple
 unfold excMatches
 cases b
 . repeat (first | (with_reducible refine wpAny_loadPart_at he ?_; rw [II]) | with_reducible refine wpAny_loadPart_at hD ?_ | (with_reducible refine wpAny_isSubtype_exc hD ?_; rw [c1]) | (with_reducible refine wpAny_isSubtype_exc hC ?_; rw [hit]) | wp_step)
   all_goals exact hq
 . repeat (first | (with_reducible refine wpAny_loadPart_at he ?_; rw [II]) | with_reducible refine wpAny_loadPart_at hD ?_ | (with_reducible refine wpAny_isSubtype_exc hD ?_; rw [c1]) | (with_reducible refine wpAny_isSubtype_exc hC ?_; rw [hit]) | wp_step)
   all_goals exact hq
theorem OG {K : PySem.W.Frag} {h : Heap} {C D N : Addr} {nm q : Str} {bs bm sub : List Value} {hdct ab : Bool} {sn : List Str} {col : Option Bool} {dd : Option Addr} {k0 k1 k2 k3 k5 : Option Value} {newId : String} {b : Bool} (X : K.In h) (hC : h.get? C = some (excClassObj nm q C N bs bm hdct sn sub ab col dd k0 k1 k2 k3 k5 newId)) (hm : PySem.W.mroIn K C (.ref D) = some b) : (Value.ref C :: bm).contains (.ref D) = b := by
 unfold PySem.W.mroIn PySem.W.clsIn at hm
 split at hm
 . rename_i c' d' cd sl ho
   have z := X _ _ ho
   rw [hC] at z
   cases z
   simpa using hm
 . cases hm
theorem Fm.keeps {h h' : Heap} {a T : Addr} {c : Value} {od : Option Addr} (t : Fm h a T c od) (k : ∀ b o, h.get? b = some o -> h'.get? b = some o) : Fm h' a T c od := by
 obtain ⟨oe, vs, oT, ts, e1, e2, e3, e4, e5, e6, e7, e8⟩ := t
 exact ⟨oe, vs, oT, ts, k _ _ e1, e2, e3, e4, e5, e6, k _ _ e7, e8⟩
def ClD (X : Cx) (cl : Expr) (hit : Addr -> Bool -> Prop) : Prop := ∀ (a C T : Addr) (od : Option Addr) (pins : List (Addr × Obj)) (σ : St) (H : Hp) (s : Shared) (Q : Bool -> Shared -> Prop) (E : Value -> Shared -> Prop) (b : Bool), Inv X pins σ H s -> Fm s.heap a T (.ref C) od -> hit C b ->
 (∀ h', (∀ b o, s.heap.get? b = some o -> h'.get? b = some o) -> Q b { s with heap := h' }) ->
 wpAny (model X.prog X.w) (X.hand a).A (eval cl X.env) (fun c s1 => wpAny (model X.prog X.w) (X.hand a).A (excMatches (.ref a) c) Q E s1) E s
def D3 (K : PySem.W.Frag) (D C : Addr) (b : Bool) : Prop := Bn K C /\ PySem.W.mroIn K C (.ref D) = some b
theorem As {X : Cx} {x : Str} {np : Pos} {D : Addr} (hg : Gl X x) (hm : X.mg x = some (.ref D)) (hD : Bn X.K D) (nV : (x == ("__debug__" : Str)) = false := by decide) : ClD X (.Name x np) (D3 X.K D) := by
 intro a C T od pins σ H s Q E b I tr hit k
 refine f9 (X := { X with xe := E }.hand a) (E := E) I.E3 hg hm ?_ nV
 obtain ⟨bm, N, nm, q, bs, hd, sn, sub, ab, col, dd, k0, k1, k2, k3, k5, hC, _⟩ := hit.1 _ I.iB
 obtain ⟨Y1, N', nm', q', bs', lM, sn', VO, ab', Yy, MZ, l0, l1, l2, l3, l5, hC', T'⟩ := hD _ I.iB
 obtain ⟨oe, vs, oT, VJ, e1, e2, e3, e4, e5⟩ := id tr
 exact Es hC hC' e1 e2 (T'.hasType (by decide)) (OG I.iB hC hit.2) (k _ fun _ _ z => z)
structure SJ where
 hit : Addr -> Bool -> Prop
 i : Option Nat
 ts : Addr -> TS
def Pj (σ : St) (i : Option Nat) (v : Option V) : St := match i with
 | some i => σ.set i v
 | none => σ
def Sb (X : Cx) : Option Str -> Option Nat -> Prop
 | some n, some i => X.N[i]? = some n /\ X.env.scope.names.lookup n = some .local
 | none, none => True
 | _, _ => False
inductive uk (X : Cx) : List ExceptHandler -> List SJ -> Prop
 | nil : uk X [] []
 | cons {cl : Expr} {n : Option Str} {b0 : Stmt} {LO : List Stmt} {pos : Pos} {hs : List ExceptHandler} {hit : Addr -> Bool -> Prop} {i : Option Nat} {ts : Addr -> TS} {rs : List SJ} (hc : ClD X cl hit) (hb : ∀ a, By (X.hand a) (b0 :: LO) (ts a)) (hn : Sb X n i) (r : uk X hs rs) :
  uk X (.ExceptHandler (some cl) n (b0 :: LO) pos :: hs) (⟨hit, i, ts⟩ :: rs)
def Tf (D : Ends) (i : Option Nat) : Ends := { nx := fun σ H => D.nx (Pj σ i none) H, rt := D.rt, bk := fun σ H => D.bk (Pj σ i none) H, ct := fun σ H => D.ct (Pj σ i none) H }
def N7 (D : Ends) (σ : St) (C : Addr) (od : Option Addr) (H' : Hp) : List SJ -> Prop
 | [] => False
 | r :: rs => (r.hit C true /\ ∀ a, H' a = none -> r.ts a (Tf D r.i) (Pj σ r.i (some (.ref a))) (upd H' a (.ext (yT a C od)))) \/ (r.hit C false /\ N7 D σ C od H' rs)
def Rb (tb : (St -> XK) -> TS) (rs : List SJ) (te : TS) : TS := fun D σ H =>
 tb (fun σ' c od H' => ∃ C, c = .ref C /\ N7 D σ' C od H' rs) { D with nx := fun σ' H' => te D σ' H' } σ H
theorem Inv.gone {X : Cx} {pins : List (Addr × Obj)} {σ : St} {H : Hp} {s : Shared} {h' : Heap} {m : Str -> Option Value} {n : Str} {v : Option Value} {i : Nat} {t' : Nat} (I : Inv X pins σ H s) (hN : X.N.Nodup) (hi : X.N[i]? = some n)
 (loc : ∀ (j : Nat) (x : Str) (v : V), X.N[j]? = some x -> σ[j]? = some (some v) -> Vg X.env.scope x -> ∃ u, RelV v u /\ Look X.env s.heap m x u) (ns : h'.Ns X.env.locals (fun x => if x = n then v else m x)) (sb : Heap.SameBut X.env.locals s.heap h') : Inv X pins (σ.set i none) H { s with heap := h', toks := t' } := by
 have old : ∀ b o, X.dM.heap.get? b = some o -> b ≠ X.env.locals := fun b o e => Nat.ne_of_lt (Nat.lt_of_lt_of_le (Heap.lt_size e) I.ok.above)
 refine ⟨I.ok, I.os, I.bare, ⟨fun b o e n hb hx => (sb.2 b (old b o e)).trans (I.base.keep b o e n hb hx), fun b o e n hb hx => ?_, fun b o e n hx => I.base.free b o e n hx, fun b o e hx => ?_, I.base.lS, I.base.j7, I.base.pM⟩, ⟨_, ns, fun j x w e1 e2 e3 => ?_⟩, fun x c e => ?_, I.free, I.eG, fun p hp => ?_, fun b u e => ?_, by rw [List.length_set]; exact I.len⟩
 . obtain ⟨sl, z⟩ := I.base.slot b o e n hb hx
   exact ⟨sl, (sb.2 b (old b o e)).trans z⟩
 . obtain ⟨o2, z⟩ := I.base.there b o e hx
   exact ⟨o2, (sb.2 b (old b o e)).trans z⟩
 . have hji : i ≠ j := fun y => by
    subst y
    rw [List.getElem?_set_self' ] at e2
    cases q : σ[i]? <;> rw [q] at e2 <;> cases e2
   rw [List.getElem?_set_ne hji] at e2
   obtain ⟨u, ru, l⟩ := loc j x w e1 e2 e3
   refine ⟨u, ru, ?_⟩
   have YY : x ≠ n := fun y => hji (w9 hN hi (y ▸ e1))
   rcases l with ⟨k, l⟩ | ⟨k, c, e, o, ho, hd⟩
   . exact .inl ⟨k, by show (if x = n then v else m x) = _; rw [if_neg YY]; exact l⟩
   . exact .inr ⟨k, c, e, o, (sb.2 c (I.Oz x c e)).trans ho, hd⟩
 . obtain ⟨v, o, ho, hd⟩ := I.cell x c e
   exact ⟨v, o, (sb.2 c (I.Oz x c e)).trans ho, hd⟩
 . obtain ⟨e, n, ne, nf, d⟩ := I.pin p hp
   exact ⟨(sb.2 p.1 ne).trans e, n, ne, nf, d⟩
 . refine (I.aP b u e).iF (fun c v hc q => (sb.2 c fun z => ?_).trans q) (fun _ q => q) fun _ _ q => q
   have kz : H c ≠ none := by
    rcases hc with rfl | hc
    . rw [e]; intro z; cases z
    . rw [hc]; intro z; cases z
   exact kz (z ▸ I.free)
section
variable {X : Cx} {pins : List (Addr × Obj)} {σ : St} {H : Hp} {a C : Addr} {od : Option Addr} {Dn : Ends}
def Zf (X : Cx) (pins : List (Addr × Obj)) (b : Addr) : Prop := X.dM.heap.get? b = none /\ b ≠ X.env.locals /\ (∀ x c, X.env.cells.lookup x = some c -> c ≠ b) /\ ∀ p ∈ X.pn ++ pins, p.1 ≠ b
theorem De (hN : X.N.Nodup) (ha : H a = none) (fa : Zf X pins a) {hs : List ExceptHandler} {rs : List SJ} (ok : uk X hs rs) : ∀ (s : Shared) (T : Addr), Inv X pins σ H s -> Fm s.heap a T (.ref C) od -> H T = none -> Zf X pins T -> N7 Dn σ C od H rs ->
 wpAny (model X.prog X.w) X.A (handleBy (.ref a) X.env hs) (SP X pins Dn) X.xe s := by
 induction ok with
 | nil => intro s T _ _ _ _ h; exact h.elim
 | @cons cl n b0 LO pos hs hit i ts rs hc hb hn r ih =>
   intro s T J tr hT fT h
   refine wpAny_handleBy_cons (codeAny_handlers_test ?_) (by intro q; cases q)
   rcases h with ⟨h1, DB⟩ | ⟨h1, h2⟩
   . refine hc a C T od pins σ H s _ _ true J tr h1 fun h3 k3 => ?_
     have J3 : Inv X pins σ H { s with heap := h3 } := J.kept (t' := s.toks) fun b u e => k3 b u e
     have XI := tr.keeps k3
     have lay : ∀ h4, Fm h4 a T (.ref C) od -> (∀ b o, b ≠ T -> h3.get? b = some o -> h4.get? b = some o) -> Inv X pins σ (upd H a (.ext (yT a C od))) { s with heap := h4 } := fun h4 Xw k4 => by
      have J4 : Inv X pins σ H { s with heap := h4 } := J3.lv (S := [T]) (t' := s.toks) ⟨fun b o _ n2 z => k4 b o (by simpa using n2) z, fun b o m z => ⟨o.slots, k4 b o (fun y => ?_) z⟩⟩ fun b hb => by
       have : b = T := by simpa using hb
       subst this
       exact ⟨hT, fT⟩
      . obtain ⟨oe4, vs4, oT4, ts4, f1, f2, f3, f4, _, _, _, _, _, f5⟩ := id Xw
        exact J4.Ku ha fa.1 fa.2.1 fa.2.2.1 fa.2.2.2 (yT.ext ⟨oe4, vs4, f1, f2, f3, f4, f5⟩)
      . subst y
        obtain ⟨_, _, _, _, _, _, _, _, _, _, f7, f8, _⟩ := id XI
        obtain ⟨_, o', z', hn⟩ := J3.stack.mem m
        rw [f7] at z'
        cases z'
        exact hn _ f8
     cases n with
     | none =>
       cases i with
       | some _ => exact hn.elim
       | none =>
       refine codeAny_handlers_suite ?_
       refine rL (s := { s with heap := h3 }) XI fun h4 Xw k4 => ?_
       refine wpAny_mono (hb a pins _ _ _ _ (lay h4 Xw k4).E3 (DB a ha)) (fun fl s7 q7 => ?_) (fun _ _ z => z.elim)
       cases fl with
       | next => obtain ⟨σ7, H7, J7, q8⟩ := q7; exact ⟨_, _, J7.xo J.ok, q8⟩
       | brk => obtain ⟨σ7, H7, J7, q8⟩ := q7; exact ⟨_, _, J7.xo J.ok, q8⟩
       | cont => obtain ⟨σ7, H7, J7, q8⟩ := q7; exact ⟨_, _, J7.xo J.ok, q8⟩
       | ret u => obtain ⟨v, σ7, H7, J7, r7, q8⟩ := q7; exact ⟨v, _, _, J7.xo J.ok, r7, q8⟩
     | some nn =>
       cases i with
       | none => exact hn.elim
       | some ii =>
       obtain ⟨hi, hk⟩ := hn
       refine codeAny_handlers_suite_as ?_
       refine rL (s := { s with heap := h3 }) XI fun h4 Xw k4 => ?_
       refine xE (X := X.hand a) (v := .ref a) (i := ii) (lay h4 Xw k4).E3 hN hi (.inl hk) rfl (fun s6 J6 => ?_) (.inr hk)
       refine wpAny_mono (hb a pins s6 _ _ _ J6 (DB a ha)) (fun fl s7 q7 => ?_) (fun _ _ z => z.elim)
       have core : ∀ {σ7 : St} {H7 : Hp}, Inv (X.hand a) pins σ7 H7 s7 -> (∀ s8, Inv X pins (σ7.set ii none) H7 s8 -> SP X pins Dn fl s8) -> wpAny (model X.prog X.w) X.A (do bindName X.env nn .none; unbindBehindTheSuite X.env nn pos) (fun _ s8 => SP X pins Dn fl s8) X.xe s7 := fun {σ7 H7} J7 fin => by
        have J8 := J7.xo J.ok
        obtain ⟨m, G4, Zx⟩ := J8.loc
        exact wpAny_nameGoes_keeps hk G4 (by rw [J.ok.kind]; rfl) fun h8 v8 hn8 sb => fin _ (J8.gone hN hi Zx hn8 sb)
       cases fl with
       | next => obtain ⟨σ7, H7, J7, q8⟩ := q7; exact core J7 fun s8 J8 => ⟨_, _, J8, q8⟩
       | brk => obtain ⟨σ7, H7, J7, q8⟩ := q7; exact core J7 fun s8 J8 => ⟨_, _, J8, q8⟩
       | cont => obtain ⟨σ7, H7, J7, q8⟩ := q7; exact core J7 fun s8 J8 => ⟨_, _, J8, q8⟩
       | ret u => obtain ⟨v, σ7, H7, J7, r7, q8⟩ := q7; exact core J7 fun s8 J8 => ⟨v, _, _, J8, r7, q8⟩
   . refine hc a C T od pins σ H s _ _ false J tr h1 fun h3 k3 => ?_
     exact ih _ T (J.kept (t' := s.toks) fun b u e => k3 b u e) (tr.keeps k3) hT fT h2
end
theorem Pt {X : Cx} {body orelse : List Stmt} {h0 : ExceptHandler} {hs : List ExceptHandler} {rs : List SJ} {pos : Pos} {tb : (St -> XK) -> TS} {te : TS}
 (hb : ∀ (f : Value -> Shared -> Prop) (pn : List (Addr × Obj)) (E' : St -> XK), lY (BM X.prog X.w) (X.O3 f pn) E' -> By (X.O3 f pn) body (tb E')) (ho : By X orelse te) (hh : uk X (h0 :: hs) rs)
 (hN : X.N.Nodup) (qe : X.stack = X.env :: X.outer) (hf : X.env.frame = some X.env.locals) (hex : X.ex = []) :
 PS X (.Try body (h0 :: hs) orelse [] pos) (Rb tb rs te) := by
 intro pins s σ H Dn I h
 refine wpAny_Try_except ?_
 refine wpAny_mono (hb (fun e s1 => wpAny (model X.prog X.w) X.A (noteFrame e X.env) (fun _ s2 => wpAny (model X.prog X.w) X.A (setFlight e none) (fun _ s3 => wpAny (model X.prog X.w) X.A (handleBy e X.env (h0 :: hs)) (SP X pins Dn) X.xe s3) X.xe s2) X.xe s1) (X.pn ++ pins) _ ?_ [] s σ H _ I.WU h) ?_ (fun e s1 z => z)
 . intro Du σ' H1 s1 e s2 I1 ⟨a, T, C, od, H', he, os, bare, un, aP, tr, na, nT, ha, hT, C', hCe, DB⟩
   subst he
   cases hCe
   have I2 := I1.JE (ch := []) os un aP bare (fun b z => nomatch z)
   have J := I2.zI (pins := pins)
   have I1' := I1.zI (pins := pins)
   have Eu : ∀ {s' : Shared} {XN : St} {TY : Hp}, Inv X pins XN TY s' -> ∀ b, s'.heap.get? b = none -> Zf X pins b := fun {s' XN TY} I b z => by
    refine ⟨?_, fun y => ?_, fun x c e y => ?_, fun p hp y => ?_⟩
    . cases q : X.dM.heap.get? b with
      | none => rfl
      | some o =>
        obtain ⟨o2, z2⟩ := I.base.there b o q (by rw [hex]; intro y; cases y)
        rw [z] at z2
        cases z2
    . obtain ⟨m, ⟨o, _, _, ho, _⟩, _⟩ := I.loc
      rw [<- y, z] at ho
      cases ho
    . obtain ⟨v, o, ho, _⟩ := I.cell x c e
      rw [y, z] at ho
      cases ho
    . have ho := (I.pin p hp).1
      rw [y, z] at ho
      cases ho
   have fa := Eu I1' a na
   have fT := Eu I1' T nT
   show wpAny _ _ (noteFrame (.ref a) X.env) _ _ s2
   refine xa (base := X.base) (by rw [<- qe]; exact J.ok.frames) (by rw [<- qe]; exact J.stack) hf tr fun h3 T3 XI hT3 lv => ?_
   have J3 : Inv X pins σ' H' { s2 with heap := h3 } := J.lv (S := [a, T]) (t' := s2.toks) (by rw [qe]; exact lv) fun b hb => by
    have : b = a \/ b = T := by simpa using hb
    rcases this with rfl | rfl
    . exact ⟨ha, fa⟩
    . exact ⟨hT, fT⟩
   have Wo : H' T3 = none /\ Zf X pins T3 := by
    rcases hT3 with rfl | z
    . exact ⟨hT, fT⟩
    . exact ⟨J.aP.dead z, Eu J _ z⟩
   exact De hN ha fa hh _ T3 J3 XI Wo.1 Wo.2 DB
 . intro f s1 q
   cases f with
   | next => obtain ⟨σ7, H7, J7, q8⟩ := q; exact ho pins s1 σ7 H7 Dn J7.zI q8
   | brk => obtain ⟨σ7, H7, J7, q8⟩ := q; exact ⟨σ7, H7, J7.zI, q8⟩
   | cont => obtain ⟨σ7, H7, J7, q8⟩ := q; exact ⟨σ7, H7, J7.zI, q8⟩
   | ret u => obtain ⟨v, σ7, H7, J7, r7, q8⟩ := q; exact ⟨v, σ7, H7, J7.zI, r7, q8⟩
def Kb (K : PySem.W.Frag) : V -> Hp -> VK -> Prop := fun x H Q => ∃ a C W fI d fs v, x = .ref a /\ H a = some (.ext (yT a C (some d))) /\ GJ K C W fI /\ H d = some (.xd fs) /\ fs.lookup (Str.ofString "name") = some v /\ Q v H
def Jw (K : PySem.W.Frag) (ta : TE) : TE := fun σ H Q => ta σ H fun x H1 => Kb K x H1 Q
theorem N9 {X : Cx} {e : Expr} {ta : TE} {pos : Pos} (he : PE X e ta) (hb : attributeBase e "name" X.env (eval e X.env) = eval e X.env) : PE X (.Attribute e "name" pos) (Jw X.K ta) := by
 intro pins s σ H Q I h
 refine GA hb (cm (he pins s σ H _ I h) fun u s1 ⟨x, H1, I1, rx, a, C, W, fI, d, fs, v, ex, ea, n, ed, l, q⟩ => ?_)
 subst ex
 obtain rfl : u = Value.ref a := rx
 obtain ⟨⟨o, vs, e1, e2, e3, e4, e5⟩, _⟩ := (show bI X.prog X.w H1 s1.heap a (.ext (yT a C (some d))) from I1.aP a _ ea)
 obtain ⟨mA, G4, hr⟩ := (show bI X.prog X.w H1 s1.heap d (.xd fs) from I1.aP d _ ed)
 obtain ⟨od, ho, hl⟩ := Af G4
 have J : InstAt s1.heap a o C (some od) := ⟨e1, e2, by unfold notCls; rw [e4], by rw [e3]; exact ho⟩
 obtain ⟨u, hu, ru⟩ := kE.some_of (v := v) (o := mA (Str.ofString "name")) (by rw [<- l]; exact hr _)
 exact Qc n.te I1.iB J n.nm (by rw [hl, hu]) (zO ru) ⟨v, H1, I1.tok _, ru, q⟩
theorem repr_len {x : Str} (h : nY x) : (reprText x).length <= 11000 := by
 unfold reprText
 show ((x.cps.foldl (fun out c => out ++ (Builtin.Str.reprChar (reprQuote x) c).toArray) #[reprQuote x]).push (reprQuote x)).size <= _
 rw [Array.size_push, <- Array.foldl_toList]
 have := PySem.StrLaws.foldl_repr_len (reprQuote x) x.cps.toList #[reprQuote x] (fun c hc => by have := h.2 c hc; omega)
 have e1 : (#[reprQuote x] : Array Nat).size = 1 := rfl
 have hl : x.cps.toList.length <= 1000 := by rw [Array.length_toList]; exact h.1
 omega
def NZ : V -> Hp -> VK -> Prop := fun v H Q => ∃ x, v = .str x /\ nY x /\ ∀ z, Q (.str z) H
def Rp (te : TE) : TE := fun σ H Q => te σ H fun v H1 => NZ v H1 Q
section
variable {X : Cx} {e : Expr} {te : TE} {y y2 : Str} {k k2 : Nat} {p1 p2 p3 pos : Pos}
theorem Gb {acc : Str} {Q : Value -> Shared -> Prop} {R : List (Sem Value)} {pins : List (Addr × Obj)} {s : Shared} {σ : St} {H : Hp} {QV : VK} (he : PE X e te) (I : Inv X pins σ H s) (gT : acc.length <= 1000) (h : te σ H fun v H1 => NZ v H1 QV)
 (k : ∀ r H1 s1, r.length <= 11000 -> Inv X pins σ H1 s1 -> (∀ z, QV (.str z) H1) -> Joins (model X.prog X.w) X.A X.xe R (acc ++ r) (fun out s₁ => out.length <= sizeLine /\ Q (.str out s₁.toks) { s₁ with toks := s₁.toks + 1 }) s1) :
 Joins (model X.prog X.w) X.A X.xe (eval (.FormattedValue e 114 none p1) X.env :: R) acc (fun out s₁ => out.length <= sizeLine /\ Q (.str out s₁.toks) { s₁ with toks := s₁.toks + 1 }) s := by
 show wpAny _ _ (eval (.FormattedValue e 114 none p1) X.env) _ _ s
 refine PySem.wpAny_FormattedValue_repr (cm (he pins s σ H _ I h) fun v s1 ⟨w, H1, I1, r1, x, ex, hx, q⟩ => ?_)
 subst ex
 obtain ⟨t, rfl⟩ := r1
 have hr := repr_len hx
 have PY : sizeLine = 16777216 := sizeLine_eq
 refine PySem.wpAny_pyReprObj_gives (T := "str") (typeIs_str _ _ _) F.slot_str_repr F.entry_str_repr (F.args_str_repr_1 _) (gives_str_repr x t) ?_ rfl (by omega)
 refine formatField_str (fun t' tk => ⟨reprText x, t', rfl, ?_, ?_⟩) (by omega)
 . rw [strLen_append]; omega
 . exact k _ _ _ hr ((I1.tok _).tok _) q
theorem OZ (he : PE X e te) (hy : y.length <= 1000) : PE X (.JoinedStr [.FormattedValue e 114 none p1, .Constant (.str y) k p2] pos) (Rp te) := by
 intro pins s σ H Q I h
 have PY : sizeLine = 16777216 := sizeLine_eq
 refine wpAny_JoinedStr (Gb he I (by decide) h fun r H1 s1 hr I1 q => ?_)
 show wpAny _ _ (eval (.Constant (.str y) k p2) X.env) _ _ _
 have e0 : (Str.empty ++ r).length = r.length := by rw [strLen_append]; show 0 + _ = _; omega
 refine Calls.Constant_str ⟨y, _, rfl, ?_, ?_, ?_⟩
 . rw [strLen_append, e0]; omega
 . rw [strLen_append, e0]; omega
 . exact ⟨.str _, H1, (I1.tok _).tok _, ⟨_, rfl⟩, q _⟩
theorem Pr (he : PE X e te) (hy : y.length <= 1000) : PE X (.JoinedStr [.Constant (.str y) k p2, .FormattedValue e 114 none p1] pos) (Rp te) := by
 intro pins s σ H Q I h
 have PY : sizeLine = 16777216 := sizeLine_eq
 have e0 : (Str.empty ++ y).length = y.length := by rw [strLen_append]; show 0 + _ = _; omega
 refine wpAny_JoinedStr ?_
 show wpAny _ _ (eval (.Constant (.str y) k p2) X.env) _ _ _
 refine Calls.Constant_str ⟨y, _, rfl, by rw [e0]; omega, ?_⟩
 refine Gb he (I.tok _) (by rw [e0]; exact hy) h fun r H1 s1 hr I1 q => ?_
 refine ⟨?_, .str _, H1, I1.tok _, ⟨_, rfl⟩, q _⟩
 rw [strLen_append, e0]; omega
end
section
variable {σ : St} {H : Hp} {Q : VK} {D : Ends} {K : PySem.W.Frag} {C : Addr} {E : St -> XK}
theorem PF {sp : Sp} {bJ : List V} {t : TA} (h : t σ H fun vs H1 => jh sp (vs ++ bJ) H1 Q (E σ)) : Ml sp bJ E t σ H Q := h
theorem Gw {m : Str} {sp : Sp} {bJ : List V} {ta : TE} {t : TA} (h : ta σ H fun x H1 => ∃ a dx fs, x = .ref a /\ H1 a = some (.ins C dx fs) /\ fs.lookup m = none /\ t σ H1 fun vs H2 => jh sp (x :: (vs ++ bJ)) H2 Q (E σ)) : Ks C m sp bJ E ta t σ H Q := h
theorem PR {sp : Sp} {bJ : List V} {t : TA} (h : t σ H fun vs H1 => sL C sp (vs ++ bJ) H1 Q (E σ)) : Jh C sp bJ E t σ H Q := h
theorem JR {ta : TA} (h : ta σ H fun vs H1 => ∃ n, vs = [.str n] /\ nY n /\ ∀ d, H1 d = none -> E σ (.ref C) (some d) (upd H1 d (.xd [("name", .str n)]))) : FA C E ta D σ H := h
theorem zC {n : Str} {H1 : Hp} {G : Value -> Option Addr -> Hp -> Prop} (hn : nY n) (h : ∀ d, H1 d = none -> G (.ref C) (some d) (upd H1 d (.xd [("name", .str n)]))) : ∃ m, [V.str n] = [.str m] /\ nY m /\ ∀ d, H1 d = none -> G (.ref C) (some d) (upd H1 d (.xd [("name", .str m)])) := ⟨n, rfl, hn, h⟩
theorem JP {ta : TA} (h : ta σ H fun vs H1 => vs.length <= sizeLine /\ E σ (.ref C) none H1) : Gu C E ta D σ H := h
theorem Ht {t : TA} (h : t σ H fun vs H1 => yo K vs H1 Q) : CV K t σ H Q := h
theorem yz {a : Addr} {od : Option Addr} {y : V} (h1 : H a = some (.ext (vf a C od))) (h2 : Bn K C) (h : Q .bG H) : yo K [.ref a, y] H Q := ⟨a, C, od, [y], rfl, by simp, h1, h2, h⟩
theorem N5 {ta tv : TE} (h : tv σ H fun y H1 => ta σ H1 fun x H2 => ∃ a C W fI, x = .ref a /\ H2 a = some (.ext (vf a C none)) /\ GJ K C W fI /\ ∀ d, H2 d = none -> d ≠ a -> D.nx σ (upd (upd H2 d (.xd [("name", y)])) a (.ext (vf a C (some d))))) : QJ K ta tv D σ H := h
theorem W4 {te : TE} (h : te σ H fun v H1 => NZ v H1 Q) : Rp te σ H Q := h
theorem Uc {x : Str} (hx : nY x) (h : ∀ z, Q (.str z) H) : NZ (.str x) H Q := ⟨x, rfl, hx, h⟩
theorem Tw {ta : TE} (h : ta σ H fun x H1 => Kb K x H1 Q) : Jw K ta σ H Q := h
theorem wG {a d W fI : Addr} {fs : List (Str × V)} {v : V} (h1 : H a = some (.ext (yT a C (some d)))) (h2 : GJ K C W fI) (h3 : H d = some (.xd fs)) (h4 : fs.lookup (Str.ofString "name") = some v) (h : Q v H) : Kb K (.ref a) H Q := ⟨a, C, W, fI, d, fs, v, rfl, h1, h2, h3, h4, h⟩
theorem UZ {tb : (St -> XK) -> TS} {rs : List SJ} {te : TS} (h : tb (fun σ' c od H' => ∃ C, c = .ref C /\ N7 D σ' C od H' rs) { D with nx := fun σ' H' => te D σ' H' } σ H) : Rb tb rs te D σ H := h
end
theorem CZ {X : Cx} {K : PySem.W.Frag} (h : X.K = K) {e : Expr} {ta : TE} {pos : Pos} (he : PE X e ta) (hb : attributeBase e "name" X.env (eval e X.env) = eval e X.env) : PE X (.Attribute e "name" pos) (Jw K ta) := h ▸ N9 he hb
theorem BE {X : Cx} : lY (BM X.prog X.w) X (fun _ => E0) := fun _ _ _ _ _ _ _ ⟨_, _, _, _, _, _, _, _, _, _, _, _, _, _, _, h⟩ => h.elim
section
variable {prog : Program} {w : World} {A : Around} {R : Result -> Shared -> Prop} {I S : Addr} {fp wr : List Addr} {n : Nat} {P : Nat -> Value -> Prop} {St : Nat -> Heap -> Prop} {bt : Nat -> Nat -> Bool}
end
section
variable {prog : Program} {w : World} {A : Around} {E : Value -> Shared -> Prop} {s : Shared}
end
section
variable {X : Cx}
end
section
variable {σ : St} {H : Hp} {Q : VK} {D : Ends} {K : PySem.W.Frag}
def T7 (K : PySem.W.Frag) (vs : List V) (g : TG) (tb : TS) (D : Ends) (σ : St) (H1 : Hp) : Prop := ∃ a, vs = [.ref a] /\ (∃ xs, fj K H1 a xs) /\ ∃ W : Nat -> Nat -> St -> Hp -> Prop, (∃ m, W 0 m σ H1) /\ ∀ i m σ H, W i m σ H ->
 ((Wn K a).stop i H /\ D.nx σ H) \/ ((Wn K a).go i H /\ ∃ N : St -> Hp -> Prop, (∀ σ' H', N σ' H' -> ∃ m', m' < m /\ W (i + 1) m' σ' H') /\ ∀ x H', (Wn K a).Qy i H x H' -> g x σ H' fun σ2 H2 => tb { D with nx := N, ct := N, bk := D.nx } σ2 H2)
theorem UM {ta : TA} {g : TG} {tb : TS} (h : ta σ H fun vs H1 => T7 K vs g tb D σ H1) : Nq (Q9 K ta) g tb D σ H := h
theorem Wb {Hb : Hp} {v : V} {cs : List Int} {g : TG} {tb : TS} (hl : Dv Hb v (.list (cs.map PyData.int))) (Pv : Nat -> St -> Hp -> Prop) (h0 : Pv 0 σ H) (hk : ∀ i σ H', i <= cs.length -> Pv i σ H' -> ∀ a xs, v = .ref a -> fj K Hb a xs -> fj K H' a xs)
 (hs : ∀ i c t σ H', cs[i]? = some c -> Pv i σ H' -> H' t = none -> g (.ref t) σ (upd H' t (.tup [.int (i : Int), .int c])) fun σ2 H2 => tb { D with nx := Pv (i + 1), ct := Pv (i + 1), bk := D.nx } σ2 H2) (hd : ∀ σ H', Pv cs.length σ H' -> D.nx σ H') : T7 K [v] g tb D σ H := by
 obtain ⟨p, xs, rfl, e, dv⟩ := hl.lst_inv
 have HS : xs.length = cs.length := by rw [dv.length, List.length_map]
 have at' : ∀ i σ H', i <= cs.length -> Pv i σ H' -> fj K H' p xs := fun i σ H' hi hp => hk i σ H' hi hp p xs rfl (e K)
 refine ⟨p, rfl, ⟨xs, at' 0 σ H (Nat.zero_le _) h0⟩, fun i m σ H => i <= cs.length /\ m = cs.length - i /\ Pv i σ H, ⟨_, Nat.zero_le _, rfl, h0⟩, ?_⟩
 rintro i m σ H' ⟨hi, hm, hp⟩
 have yL := at' i σ H' hi hp
 by_cases hc : i = cs.length
 . subst hc
   exact .inl ⟨⟨xs, yL, by omega⟩, hd σ H' hp⟩
 . have Nj : i < xs.length := by omega
   refine .inr ⟨⟨xs, xs[i], yL, List.getElem?_eq_getElem Nj⟩, Pv (i + 1), fun σ' H2 Oi => ⟨cs.length - (i + 1), by omega, by omega, rfl, Oi⟩, fun x H2 hy => ?_⟩
   obtain ⟨t, x', hy, rfl, ht, rfl⟩ := hy
   have hx := hy xs yL
   have Yu : cs[i]? = some cs[i] := List.getElem?_eq_getElem (by omega)
   obtain ⟨x2, Mw, hd⟩ := dv.get (i := i) (d := .int cs[i]) (by rw [List.getElem?_map, Yu]; rfl)
   rw [hx] at Mw
   cases Mw
   obtain rfl := hd.int_inv
   exact hs i cs[i] t σ H' Yu hp ht
end
theorem PS.SM {X : Cx} {st : Stmt} {t : TS} (h : PS X.SM st t) : PS X st t := fun pins s σ H D I hw =>
 wpAny_mono (h pins s σ H D (I.x5 _) hw) (fun _ _ q => q.mn) fun _ _ z => False.elim z
def UU : Expr -> Option V
 | .Constant (.int i) _ _ => some (.int i)
 | .Constant (.str x) _ _ => some (.str x)
 | .Constant (.bool b) _ _ => some (.bl b)
 | .Constant .none _ _ => some .bG
 | _ => none
def L7 : List Expr -> Option (List V)
 | [] => some []
 | e :: es => match UU e, L7 es with
   | some v, some vs => some (v :: vs)
   | _, _ => none
def QW (vs : List V) : TA := fun _ H Q => Q vs H
theorem FT {X : Cx} {e : Expr} {v : V} (h : UU e = some v) : PE X e (tC v) /\ ∀ es : List Expr, starEach (e :: es) X.env = (false, eval e X.env) :: starEach es X.env := by
 unfold UU at h
 split at h <;> cases h <;> refine ⟨?_, fun _ => rfl⟩
 . exact aj
 . exact c4
 . exact rp
 . exact LR
theorem FP {X : Cx} : ∀ {es : List Expr} {vs : List V}, L7 es = some vs -> PA X es (QW vs)
 | [], vs, h => by cases h; exact ai
 | e :: es, vs, h => by
   unfold L7 at h
   split at h
   . rename_i v vs' h1 h2
     cases h
     exact af (FT h1).1 (FP h2) ((FT h1).2 es)
   . cases h
theorem S8 {σ : St} {H : Hp} {vs : List V} {Q : List V -> Hp -> Prop} (h : Q vs H) : QW vs σ H Q := h
section
variable {σ : St} {H : Hp} {Q : VK} {K : PySem.W.Frag}
theorem Rj {k : Nat} {ta : TA} {g : TG} {tc : TT} {te : TE} (h : ta σ H fun vs H1 => ∃ j : Int, vs = [.int j] /\ -(2 ^ 62) <= j /\ j < 2 ^ 62 /\ UO k g tc te (zB Q) σ (Ju 0 j.toNat) H1) : Vp k (KZ ta) g tc te σ H Q := h
theorem U7 {p : Addr} {xs : List V} {y : V} (e : H p = some (.lst xs)) (hl : xs.length <= 4000) (h : Q .bG (upd H p (.lst (xs ++ [y])))) : AG (.ref p) [y] H Q := ⟨p, xs, y, rfl, rfl, e, dQ hl, h⟩
end
section
variable {X : Cx}
def qo {α : Type} (xs : List α) (k : Nat) (y : α) : List α := xs.take k ++ y :: xs.drop k
theorem Cj {α : Type} (xs : List α) (k : Nat) (y : α) : (qo xs k y).length = xs.length + 1 := by
 unfold qo
 rw [List.length_append, List.length_cons, List.length_take, List.length_drop]
 omega
theorem Vals.ins {xs : List V} {us : List Value} {y : V} {u : Value} (r : Vals xs us) (ry : RelV y u) (k : Nat) : Vals (qo xs k y) (qo us k u) := (r.take k).append (.cons ry (r.drop k))
def FC : V -> List V -> Hp -> VK -> Prop := fun x vs H Q => ∃ l xs i y, x = .ref l /\ vs = [.int i, y] /\ H l = some (.lst xs) /\ 0 <= i /\ i <= xs.length /\ xs.length < sizeLine /\ Q .bG (upd H l (.lst (qo xs i.toNat y)))
theorem HU : Vn X "list.insert" FC := by
 intro pins s σ H x vs v us Q I rx rv h
 obtain ⟨l, xs, i, y, rfl, rfl, hH, h0, h1, hz, q⟩ := h
 cases rx
 cases rv with
 | cons ri rv =>
   obtain ⟨t, rfl⟩ := ri
   obtain ⟨u, rfl, ru⟩ := Vals.one rv
   obtain ⟨z, bb, n, r, hl, e⟩ := I.HM hH
   have MC : sizeLine <= 2 ^ 62 := by decide
   have ZG : Builtin.List.listFitsIndex i = true := fitsIndex_both (by omega) (by omega)
   refine call_meets F.slot_list_insert ⟨_, e, rfl⟩ F.entry_list_insert (F.args_list_insert_3 _ _ _) (AutoSeq1.list_insert_list_int_val_1 l bb.toArray n i t u (by simp [ZG]) (by rw [List.size_toArray]; omega)) ⟨e, ?_⟩
   refine ⟨.bG, _, I.JN (its' := qo bb i.toNat u) hH e ?_ (r.ins ru i.toNat) ?_, rfl, q⟩
   . show (bb.toArray.extract 0 (if i < 0 then (i + (bb.toArray.size : Int)).toNat else min i.toNat bb.toArray.size)).push u ++ bb.toArray.extract (if i < 0 then (i + (bb.toArray.size : Int)).toNat else min i.toNat bb.toArray.size) = (qo bb i.toNat u).toArray
     rw [kl_ins_eq, List.size_toArray, if_neg (by omega), Nat.min_eq_left (by omega)]
     rfl
   . rw [Cj]; omega
end
section
open PySem.SeqAt
open PySem.AutoSeq1 (wpAny_loadPart')
open PySem.MeetsSeq PySem.MeetsSeq2 PySem.MeetsSeq3
theorem K5 (A : Around) (s : Shared) (a : Int) (t : Tok) (c : Int) (u : Tok) (prog : Program) (w : World) (E : Value -> Shared -> Prop) (Q : Value -> Shared -> Prop) (h : Q (.bool (decide (a > c))) s) :
 wpAny (model prog w) A (richCompare .Gt (.int a t) (.int c u)) Q E s :=
 (PyProof.Rows.gt_int h : wpAny (model prog w) A (compareOp .Gt (.int a t) (.int c u)) Q E s)
theorem IY (A : Around) (s : Shared) (a : Str) (t : Tok) (c : Str) (u : Tok) (prog : Program) (w : World) (E : Value -> Shared -> Prop) (Q : Value -> Shared -> Prop) (h : Q (.bool (decide (c.cps.toList < a.cps.toList))) s) :
 wpAny (model prog w) A (richCompare .Gt (.str a t) (.str c u)) Q E s :=
 (PySem.P.gt_str h : wpAny (model prog w) A (compareOp .Gt (.str a t) (.str c u)) Q E s)
theorem zc (l b : Addr) (n n2 : Nat) (dd Sq : Option Addr) (sl Ig : Array (Option Value)) (i j : Int) (t u t2 u2 : Tok) (c d : Str) :
 Meets (Builtin.«tuple.__gt__» ⟨[.ref l, .ref b], []⟩)
  (fun _ R s => s.heap.get? l = some { cls := .type "tuple", dict := dd, data := .seq #[.int i t, .str c t2] n, slots := sl } /\ s.heap.get? b = some { cls := .type "tuple", dict := Sq, data := .seq #[.int j u, .str d u2] n2, slots := Ig } /\
   R (.ok (.ret (.bool (aS (j, d) (i, c))))) s) :=
 .of_wp fun prog w A R s h => by
  obtain ⟨hp, g, d0, tk, os⟩ := s; obtain ⟨hl, hb, h⟩ := h
  have f2 := AutoSeq1.sub_tuple_tuple
  wp_walk using wpAny_loadPart' hl, wpAny_loadPart' hb, wpAny_forIn_list _ (fun rest b s' => b.1 = none /\ s' = ⟨hp, g, d0, tk, os⟩ /\
   (rest = [(.int i t, .int j u), (.str c t2, .str d u2)] \/ (rest = [(.str c t2, .str d u2)] /\ i = j) \/ (rest = [] /\ i = j /\ c = d))) _
  case turn =>
   rintro ⟨y, x⟩ rest b s' ⟨yl, rfl, hr⟩
   rcases hr with hr | ⟨hr, e⟩ | ⟨hr, _⟩
   . injection hr with UY hrest
     injection UY with hy hx
     subst hy hx hrest
     have he := EqAt.int_int (A := A.in1) (s := ⟨hp, g, d0, tk, os⟩) i t j u
     refine wpAny_bind (he prog w _ _ ?_)
     by_cases e : i = j
     . rw [show (i == j) = true from beq_iff_eq.mpr e]
       wp_walk
       exact ⟨rfl, rfl, .inr (.inl ⟨rfl, e⟩)⟩
     . rw [show (i == j) = false from beq_eq_false_iff_ne.mpr e]
       have Ss := K5 A.in1 ⟨hp, g, d0, tk, os⟩ i t j u prog w
       have hv : aS (j, d) (i, c) = decide (i > j) := by
        unfold aS
        have : ¬ j = i := fun z => e z.symm
        simp [this]
       rw [hv] at h
       wp_walk using Ss
       exact ⟨_, rfl, by simpa using h⟩
   . injection hr with UY hrest
     injection UY with hy hx
     subst hy hx hrest
     have he := EqAt.str_str (A := A.in1) (s := ⟨hp, g, d0, tk, os⟩) c t2 d u2
     refine wpAny_bind (he prog w _ _ ?_)
     by_cases e2 : c = d
     . rw [show (c == d) = true from beq_iff_eq.mpr e2]
       wp_walk
       exact ⟨rfl, rfl, .inr (.inr ⟨rfl, e, e2⟩)⟩
     . rw [show (c == d) = false from beq_eq_false_iff_ne.mpr e2]
       have Ss := IY A.in1 ⟨hp, g, d0, tk, os⟩ c t2 d u2 prog w
       have hv : aS (j, d) (i, c) = decide (d.cps.toList < c.cps.toList) := by
        unfold aS DF
        simp [e]
       rw [hv] at h
       wp_walk using Ss
       exact ⟨_, rfl, by simpa using h⟩
   . cases hr
  case fin =>
   rintro ⟨b1, b2⟩ s' ⟨yl, rfl, hr⟩
   simp only at yl
   subst yl
   rcases hr with hr | ⟨hr, _⟩ | ⟨_, e, e2⟩
   . cases hr
   . cases hr
   . have hv : aS (j, d) (i, c) = false := by rw [e, e2]; exact fM _
     rw [hv] at h
     wp_walk
     exact ⟨_, rfl, by simpa [Builtin.Tuple.tupleCompareSizes] using h⟩
  case h =>
   exact ⟨rfl, rfl, .inl rfl⟩
end
section
variable {X : Cx}
def Ww (K : PySem.W.Frag) : R2 := fun x y H Q => ∃ a b i c j d, x = .ref a /\ y = .ref b /\ DA K H a [.int i, .str c] /\ DA K H b [.int j, .str d] /\ Q (.bl (aS (j, d) (i, c))) H
theorem SK (hu : X.A.units < cLine) : o4 X (compareOp .Gt) (Ww X.K) := by
 intro pins s σ H x y v u Q I rx ry h
 obtain ⟨a, b, i, c, j, d, rfl, rfl, ha, hb, q⟩ := h
 cases rx
 cases ry
 obtain ⟨bb, r1, p1, _⟩ := I.tuple ha
 obtain ⟨G0, r2, p2, _⟩ := I.tuple hb
 cases r1 with
 | cons ri r1 =>
   obtain ⟨t, rfl⟩ := ri
   obtain ⟨_, rfl, t2, rfl⟩ := Vals.one r1
   cases r2 with
   | cons rj r2 =>
     obtain ⟨t', rfl⟩ := rj
     obtain ⟨_, rfl, ZF, rfl⟩ := Vals.one r2
     obtain ⟨⟨cls, dd, data, sl⟩, ho, hc, n, hd⟩ := id p1
     obtain ⟨⟨Z9, Sq, data2, Ig⟩, X7, IE, n2, hd2⟩ := id p2
     simp only at hc hd IE hd2
     subst hc hd IE hd2
     exact richCompare_meets_room (op := .Gt) ⟨_, ho, rfl⟩ ⟨_, X7, rfl⟩ PySem.F.slot_tuple_gt PySem.F.entry_tuple_gt (PySem.F.args_tuple_gt_2 _ _) (zc a b n n2 dd Sq sl Ig i j t t' t2 ZF c d)
      ⟨ho, X7, show Value.bool (aS (j, d) (i, c)) ≠ Value.notImplemented /\ (EP X pins σ Q) (.bool (aS (j, d) (i, c))) s from ⟨(fun x => nomatch x), ⟨.bl _, H, I, rfl, q⟩⟩⟩ hu
end
section
variable {σ : St} {H : Hp} {Q : VK} {D : Ends} {K : PySem.W.Frag}
theorem wx {v : V} {k : Int × Str} (h : Dv H v (pairD k)) : ∃ a, v = .ref a /\ H a = some (.tup [.int k.1, .str k.2]) := by
 unfold pairD at h
 cases h with
 | tup ha r =>
   cases r with
   | cons h1 r =>
     cases r with
     | cons h2 r =>
       cases r
       cases h1; cases h2
       exact ⟨_, rfl, ha⟩
theorem Ae {H : Hp} : ∀ {xs : List V} {ds : List PyData} (n : Nat), cB H xs ds -> cB H (xs.eraseIdx n) (ds.eraseIdx n)
 | _, _, _, .nil => .nil
 | _, _, 0, .cons _ r => r
 | _, _, n + 1, .cons h r => .cons h (Ae n r)
theorem xf {α β : Type} {f : α -> β} : ∀ {l : List α} {i : Nat}, (l.eraseIdx i).map f = (l.map f).eraseIdx i
 | [], _ => rfl
 | _ :: _, 0 => rfl
 | a :: l, i + 1 => by rw [List.eraseIdx_cons_succ, List.map_cons, List.map_cons, List.eraseIdx_cons_succ, xf]
theorem Wc {x y : V} {k j : Int × Str} (h1 : Dv H x (pairD k)) (h2 : Dv H y (pairD j)) (h : Q (.bl (aS j k)) H) : Ww K x y H Q := by
 obtain ⟨a, rfl, ha⟩ := wx h1
 obtain ⟨b, rfl, hb⟩ := wx h2
 exact ⟨a, b, k.1, k.2, j.1, j.2, rfl, rfl, .of ha, .of hb, h⟩
theorem R1 {p : Addr} {ks : List (Int × Str)} {y : V} {k : Int × Str} {i : Int} (hp : dJ H p (ks.map pairD)) (hy : Dv H y (pairD k)) (h0 : 0 <= i) (h1 : i <= ks.length) (hl : ks.length <= 4000) (h : ∀ H2, Mv [p] H H2 -> dJ H2 p ((qo ks i.toNat k).map pairD) -> Q .bG H2) : FC (.ref p) [.int i, y] H Q := by
 obtain ⟨xs, e, dv, im⟩ := hp
 have HS : xs.length = ks.length := by rw [dv.length, List.length_map]
 have m : Mv [p] H (upd H p (.lst (qo xs i.toNat y))) := .cO e (by intro _ z; cases z)
 have e2 : (qo ks i.toNat k).map pairD = (ks.map pairD).take i.toNat ++ pairD k :: (ks.map pairD).drop i.toNat := by
  unfold qo
  rw [List.map_append, List.map_cons, List.map_take, List.map_drop]
 refine ⟨p, xs, i, y, rfl, rfl, e, h0, by omega, by rw [HS]; exact dQ hl, h _ m ⟨_, au, m.EZ (cg (fun _ => rfl) _) ?_, cg (fun _ => rfl) _⟩⟩
 rw [e2]
 exact cB.append (dv.take i.toNat) (.cons hy (dv.drop i.toNat))
theorem Sf {p : Addr} {ks : List (Int × Str)} {i : Int} (hp : dJ H p (ks.map pairD)) (h0 : 0 <= i) (h1 : i < ks.length) (hl : ks.length <= 4000) (h : ∀ v H2, Mv [p] H H2 -> dJ H2 p ((ks.eraseIdx i.toNat).map pairD) -> Q v H2) : Lj (.ref p) [.int i] H Q := by
 obtain ⟨xs, e, dv, im⟩ := hp
 have HS : xs.length = ks.length := by rw [dv.length, List.length_map]
 have hi : i.toNat < xs.length := by omega
 have m : Mv [p] H (upd H p (.lst (xs.eraseIdx i.toNat))) := .cO e (by intro _ z; cases z)
 refine ⟨p, xs, i, i.toNat, xs[i.toNat], rfl, rfl, e, by omega, by omega, ?_, List.getElem?_eq_getElem hi, h _ _ m ⟨_, au, m.EZ (cg (fun _ => rfl) _) ?_, cg (fun _ => rfl) _⟩⟩
 . unfold seqIndex?
   have abT : ¬ i < 0 := by omega
   have hc : (decide (0 <= i) && decide (i < (xs.length : Int))) = true := by rw [decide_eq_true h0, decide_eq_true (by omega : i < (xs.length : Int))]; rfl
   simp only [abT, if_false, hc, if_true]
 . rw [xf]
   exact Ae i.toNat dv
theorem WR {p : Addr} {xs : List V} {g : TG} {tb : TS} (Pv : Nat -> St -> Hp -> Prop) (h0 : Pv 0 σ H) (hk : ∀ i σ H', i <= xs.length -> Pv i σ H' -> H' p = some (.lst xs))
 (hs : ∀ i x t σ H', xs[i]? = some x -> Pv i σ H' -> H' t = none -> g (.ref t) σ (upd H' t (.tup [.int (i : Int), x])) fun σ2 H2 => tb { D with nx := Pv (i + 1), ct := Pv (i + 1), bk := D.nx } σ2 H2) (hd : ∀ σ H', Pv xs.length σ H' -> D.nx σ H') : T7 K [.ref p] g tb D σ H := by
 have at' : ∀ i σ H', i <= xs.length -> Pv i σ H' -> fj K H' p xs := fun i σ H' hi hp => .of (hk i σ H' hi hp)
 refine ⟨p, rfl, ⟨xs, at' 0 σ H (Nat.zero_le _) h0⟩, fun i m σ H => i <= xs.length /\ m = xs.length - i /\ Pv i σ H, ⟨_, Nat.zero_le _, rfl, h0⟩, ?_⟩
 rintro i m σ H' ⟨hi, hm, hp⟩
 have yL := at' i σ H' hi hp
 by_cases hc : i = xs.length
 . subst hc
   exact .inl ⟨⟨xs, yL, by omega⟩, hd σ H' hp⟩
 . have Nj : i < xs.length := by omega
   refine .inr ⟨⟨xs, xs[i], yL, List.getElem?_eq_getElem Nj⟩, Pv (i + 1), fun σ' H2 Oi => ⟨xs.length - (i + 1), by omega, by omega, rfl, Oi⟩, fun x H2 hy => ?_⟩
   obtain ⟨t, x', hy, rfl, ht, rfl⟩ := hy
   have hx := hy xs yL
   exact hs i x' t σ H' hx hp ht
theorem S5 {k n : Nat} {g : TG} {tc : TT} {te : TE} (Pd : Nat -> PyData -> Prop) (hlen : n <= 4000) (hi : ∀ i d, Pd i d -> yI d = true)
 (turn : ∀ i H' (N : Option V -> Hp -> Prop), i < n -> az H H' -> (∀ y d H4, az H' H4 -> Pd i d -> Dv H4 y d -> N (some y) H4) ->
  g (.int (i : Int)) (List.replicate k none ++ σ) H' fun σ2 H2 => tc σ2 H2 fun b H3 => Vw te N σ2 b H3)
 (kk : ∀ q H' ds, az H H' -> H q = none -> dJ H' q ds -> ds.length = n -> (∀ i d, ds[i]? = some d -> Pd i d) -> Q (.ref q) H') : UO k g tc te (zB Q) σ (Ju 0 n) H := by
 refine ⟨fun i m acc H' => i <= n /\ m = n - i /\ az H H' /\ ∃ ds, cB H' acc ds /\ ds.length = i /\ ∀ j d, ds[j]? = some d -> Pd j d, ⟨n, Nat.zero_le _, rfl, az.refl _, [], .nil, rfl, fun j d h => by simp at h⟩, ?_⟩
 rintro i m acc H' ⟨Ed, hm, sm, ds, gT, AB, JK⟩
 have yZ : acc.length = i := by rw [gT.length, AB]
 have aaF : b6 ds = true := ji.mpr fun d hd => by
  obtain ⟨j, hj⟩ := List.getElem?_of_mem hd
  exact hi j d (JK j d hj)
 by_cases hc : i = n
 . subst hc
   refine .inl ⟨Nat.le_refl _, fun q hq => ?_⟩
   exact kk q _ ds (sm.trans (bw hq)) (sm.none hq) ⟨acc, au, gT.keeps (bw hq), aaF⟩ AB JK
 . refine .inr ⟨by show i < n; omega, dQ (by omega), fun x H2 hy => ?_⟩
   obtain ⟨rfl, rfl⟩ := hy
   rw [Int.zero_add]
   refine turn i H2 (fun o H4 => match o with | some y => ∃ m', m' < m /\ i + 1 <= n /\ m' = n - (i + 1) /\ az H H4 /\ ∃ ds, cB H4 (acc ++ [y]) ds /\ ds.length = i + 1 /\ ∀ j d, ds[j]? = some d -> Pd j d | none => ∃ m', m' < m /\ i + 1 <= n /\ m' = n - (i + 1) /\ az H H4 /\ ∃ ds, cB H4 acc ds /\ ds.length = i + 1 /\ ∀ j d, ds[j]? = some d -> Pd j d) (by omega) sm fun y d H4 s4 hp d4 => ?_
   refine ⟨n - (i + 1), by omega, by omega, rfl, sm.trans s4, ds ++ [d], cB.append (gT.keeps s4) (.cons d4 .nil), by simp [AB], fun j e he => ?_⟩
   rw [List.getElem?_append] at he
   split at he
   . exact JK j e he
   . rename_i hj
     by_cases e0 : j = ds.length
     . rw [e0] at he
       have : d = e := by simpa using he
       rw [e0, AB]; exact this ▸ hp
     . rw [List.getElem?_eq_none (by simp; omega)] at he; cases he
theorem N6 {S : List Addr} {H0 H1 H2 : Hp} (s : az H0 H1) (m : Mv S H1 H2) (h : ∀ b ∈ S, H0 b = none) : az H0 H2 := fun b u e => m.kp b u (fun z => by rw [h b z] at e; cases e) (s b u e)
end
section
variable {X : Cx}
def Pw : V -> List V -> Hp -> VK -> Prop := fun x vs H Q => ∃ i : Int, x = .int i /\ vs = [] /\ Q (.int (Builtin.Int.intBits i : Nat)) H
theorem HN : Zv X "int.bit_length" Pw := by
 intro pins s σ H x vs v us Q I rx rv h
 obtain ⟨i, rfl, rfl, q⟩ := h
 obtain ⟨t, rfl⟩ := rx
 have An := rv.zero
 subst An
 exact call_gives F.slot_int_bit_length (typeIs_int _ _ _) F.entry_int_bit_length (F.args_int_bit_length_1 _) (AutoIntG2.int_bit_length_int_0 i t) ⟨.int _, H, I.tok _, ⟨_, rfl⟩, q⟩
end
theorem xH {x y : Int} (hx : 0 <= x) (hy : 0 <= y) : Builtin.bitAnd x y = ((x.toNat &&& y.toNat : Nat) : Int) := by
 unfold Builtin.bitAnd
 rw [decide_eq_true hx, decide_eq_true hy]
theorem zY {x y : Int} (hx : 0 <= x) (hy : 0 <= y) : Builtin.bitOr x y = ((x.toNat ||| y.toNat : Nat) : Int) := by
 have e : ∀ z : Int, Builtin.bitNot (Builtin.bitNot z) = z := fun z => by unfold Builtin.bitNot; omega
 have n1 : ¬ 0 <= Builtin.bitNot x := by unfold Builtin.bitNot; omega
 have n2 : ¬ 0 <= Builtin.bitNot y := by unfold Builtin.bitNot; omega
 unfold Builtin.bitOr Builtin.bitAnd
 rw [decide_eq_false n1, decide_eq_false n2]
 simp only [e]
theorem vo {x s j : Nat} (hb : x.testBit s = true) : (x - 2 ^ s).testBit j = (x.testBit j && decide (j ≠ s)) := by
 have hp : 0 < 2 ^ s := Nat.two_pow_pos s
 have hl : x % 2 ^ s < 2 ^ (s + 1) := Nat.lt_of_lt_of_le (Nat.mod_lt _ hp) (Nat.pow_le_pow_right (by decide) (by omega))
 have hx : x = 2 ^ (s + 1) * (x / 2 ^ (s + 1)) + (2 ^ s + x % 2 ^ s) := by
  have h1 := Nat.div_add_mod x (2 ^ s)
  have h2 := Nat.div_add_mod (x / 2 ^ s) 2
  have h3 : x / 2 ^ s % 2 = 1 := by
   rw [Nat.testBit_eq_decide_div_mod_eq] at hb
   exact of_decide_eq_true hb
  have h4 : x / 2 ^ s / 2 = x / 2 ^ (s + 1) := by rw [Nat.div_div_eq_div_mul, Nat.pow_succ]
  have e : 2 ^ (s + 1) * (x / 2 ^ (s + 1)) = 2 ^ s * (2 * (x / 2 ^ (s + 1))) := by rw [Nat.pow_succ, Nat.mul_assoc]
  rw [e]
  rw [h3, h4] at h2
  have h5 : 2 ^ s * (x / 2 ^ s) = 2 ^ s * (2 * (x / 2 ^ (s + 1))) + 2 ^ s := by
   conv => lhs; rw [<- h2]
   rw [Nat.mul_add, Nat.mul_one]
  omega
 have hs : x - 2 ^ s = 2 ^ (s + 1) * (x / 2 ^ (s + 1)) + x % 2 ^ s := by omega
 rw [hs, Nat.testBit_two_pow_mul_add _ hl]
 split
 . rename_i hj
   rw [Nat.testBit_mod_two_pow]
   by_cases e : j = s
   . simp [e]
   . simp [e, show j < s from by omega]
 . rename_i hj
   rw [Nat.testBit_div_two_pow]
   rw [show j - (s + 1) + (s + 1) = j from by omega]
   simp [show j ≠ s from by omega]
theorem xJ {x : Int} {s : Nat} (hx : 0 <= x) (hb : x.toNat.testBit s = true) : Builtin.bitXor x (1 * 2 ^ s) = ((x.toNat - 2 ^ s : Nat) : Int) := by
 have hy : (0 : Int) <= 1 * 2 ^ s := by rw [Int.one_mul]; exact Int.le_of_lt (Int.pow_pos (by decide))
 have ey : (1 * 2 ^ s : Int).toNat = 2 ^ s := by
  rw [Int.one_mul]
  have : (2 : Int) ^ s = ((2 ^ s : Nat) : Int) := by norm_cast
  rw [this]; rfl
 have e1 : x.toNat ||| 2 ^ s = x.toNat := by
  apply Nat.eq_of_testBit_eq
  intro i
  rw [Nat.testBit_or, Nat.testBit_two_pow]
  by_cases c : s = i
  . subst c; rw [hb]; rfl
  . simp [c]
 have e2 : x.toNat &&& 2 ^ s = 2 ^ s := by
  apply Nat.eq_of_testBit_eq
  intro i
  rw [Nat.testBit_and, Nat.testBit_two_pow]
  by_cases c : s = i
  . subst c; rw [hb]; simp
  . simp [c]
 unfold Builtin.bitXor
 rw [zY hx hy, xH hx hy, ey, e1, e2]
 have hle : 2 ^ s <= x.toNat := Nat.ge_two_pow_of_testBit hb
 omega
theorem Iw (s : Nat) : (1 * 2 ^ s : Int).toNat = 2 ^ s := by
 rw [Int.one_mul]
 have : (2 : Int) ^ s = ((2 ^ s : Nat) : Int) := by norm_cast
 rw [this]; rfl
theorem BR {x : Nat} (h : 0 < x) : x.testBit x.log2 = true := by
 rw [Nat.testBit_eq_decide_div_mod_eq]
 have h1 : 2 ^ x.log2 <= x := Nat.log2_self_le (by omega)
 have h2 : x < 2 ^ (x.log2 + 1) := Nat.lt_log2_self
 have h3 : x / 2 ^ x.log2 = 1 := by
  apply Nat.div_eq_of_lt_le
  . omega
  . rw [Nat.pow_succ] at h2; omega
 rw [h3]; rfl
section
variable {X : Cx}
end
section
variable {σ : St} {H : Hp} {Q : VK}
end
section
variable {X : Cx} {pins : List (Addr × Obj)} {σ : St} {H : Hp} {s : Shared} {h' : Heap} {f : Addr -> Option HO}
end
section
variable {X : Cx}
end
section
variable {σ : St} {H : Hp} {Q : VK} {p : Addr} {m : List (Str × PyData)}
end
section
variable {P : Program} {w : World} {K : PySem.W.Frag} {mg : Str -> Option Value} {base : Heap} {k : Nat} {f : Addr} {fd : FuncData} {ps : List Str} {bJ : List V} {sp : Sp}
end
section
variable {X : Cx}
end
section
variable {σ : St} {H : Hp} {Q : VK}
end
section
variable {σ : St} {H : Hp} {Q : VK} {K : PySem.W.Frag}
theorem Yh {k : Nat} {g : TG} {tc : TT} {te : TE} {p : Addr} {xs : List V} (hl : fj K H p xs) (hlen : xs.length <= 4000) (Pv : Nat -> List V -> Hp -> Prop) (h0 : Pv 0 [] H) (hk : ∀ i acc H', i <= xs.length -> Pv i acc H' -> fj K H' p xs /\ acc.length <= xs.length)
 (turn : ∀ i x acc H' (N : Option V -> Hp -> Prop), xs[i]? = some x -> Pv i acc H' -> (∀ y H4, Pv (i + 1) (acc ++ [y]) H4 -> N (some y) H4) -> (∀ H4, Pv (i + 1) acc H4 -> N none H4) ->
  g x (List.replicate k none ++ σ) H' fun σ2 H2 => tc σ2 H2 fun b H3 => Vw te N σ2 b H3)
 (kk : ∀ acc H' q, Pv xs.length acc H' -> H' q = none -> Q (.ref q) (upd H' q (.lst acc))) : ∃ a, V.ref p = .ref a /\ (∃ xs, fj K H a xs) /\ UO k g tc te (zB Q) σ (Ld K a) H := by
 refine ⟨p, rfl, ⟨xs, hl⟩, fun i m acc H' => i <= xs.length /\ m = xs.length - i /\ Pv i acc H', ⟨xs.length, Nat.zero_le _, rfl, h0⟩, ?_⟩
 rintro i m acc H' ⟨Ed, hm, hp⟩
 obtain ⟨yL, yZ⟩ := hk i acc H' Ed hp
 by_cases hc : i = xs.length
 . subst hc
   exact .inl ⟨⟨xs, yL, Nat.le_refl _⟩, fun q hq => kk acc H' q hp hq⟩
 . have Nj : i < xs.length := by omega
   refine .inr ⟨⟨xs, xs[i], yL, List.getElem?_eq_getElem Nj⟩, dQ (by omega), fun x H2 hy => ?_⟩
   obtain ⟨rfl, hy⟩ := hy
   have hx := hy xs yL
   exact turn i x acc H2 (fun o H4 => match o with | some y => ∃ m', m' < m /\ i + 1 <= xs.length /\ m' = xs.length - (i + 1) /\ Pv (i + 1) (acc ++ [y]) H4 | none => ∃ m', m' < m /\ i + 1 <= xs.length /\ m' = xs.length - (i + 1) /\ Pv (i + 1) acc H4) hx hp
    (fun y H4 h => ⟨xs.length - (i + 1), by omega, Nj, rfl, h⟩) fun H4 h => ⟨xs.length - (i + 1), by omega, Nj, rfl, h⟩
end
section
variable {X : Cx}
end
section
variable {H : Hp} {Q : VK}
end
section
open PySem.SeqAt
open PySem.AutoSeq1 (wpAny_loadPart')
open PySem.MeetsSeq PySem.MeetsSeq2 PySem.MeetsSeq3
theorem MG (A : Around) (s : Shared) (a : Int) (t : Tok) (c : Int) (u : Tok) (prog : Program) (w : World) (E : Value -> Shared -> Prop) (Q : Value -> Shared -> Prop) (h : Q (.bool (decide (a < c))) s) :
 wpAny (model prog w) A (richCompare .Lt (.int a t) (.int c u)) Q E s :=
 (PyProof.Rows.lt_int h : wpAny (model prog w) A (compareOp .Lt (.int a t) (.int c u)) Q E s)
theorem K8 (A : Around) (s : Shared) (a : Str) (t : Tok) (c : Str) (u : Tok) (prog : Program) (w : World) (E : Value -> Shared -> Prop) (Q : Value -> Shared -> Prop) (h : Q (.bool (decide (a.cps.toList < c.cps.toList))) s) :
 wpAny (model prog w) A (richCompare .Lt (.str a t) (.str c u)) Q E s :=
 (PySem.P.lt_str h : wpAny (model prog w) A (compareOp .Lt (.str a t) (.str c u)) Q E s)
theorem yQ (l b : Addr) (n n2 : Nat) (dd Sq : Option Addr) (sl Ig : Array (Option Value)) (i j : Int) (t u t2 u2 : Tok) (c d : Str) :
 Meets (Builtin.«tuple.__lt__» ⟨[.ref l, .ref b], []⟩)
  (fun _ R s => s.heap.get? l = some { cls := .type "tuple", dict := dd, data := .seq #[.int i t, .str c t2] n, slots := sl } /\ s.heap.get? b = some { cls := .type "tuple", dict := Sq, data := .seq #[.int j u, .str d u2] n2, slots := Ig } /\
   R (.ok (.ret (.bool (aS (i, c) (j, d))))) s) :=
 .of_wp fun prog w A R s h => by
  obtain ⟨hp, g, d0, tk, os⟩ := s; obtain ⟨hl, hb, h⟩ := h
  have f2 := AutoSeq1.sub_tuple_tuple
  wp_walk using wpAny_loadPart' hl, wpAny_loadPart' hb, wpAny_forIn_list _ (fun rest b s' => b.1 = none /\ s' = ⟨hp, g, d0, tk, os⟩ /\
   (rest = [(.int i t, .int j u), (.str c t2, .str d u2)] \/ (rest = [(.str c t2, .str d u2)] /\ i = j) \/ (rest = [] /\ i = j /\ c = d))) _
  case turn =>
   rintro ⟨y, x⟩ rest b s' ⟨yl, rfl, hr⟩
   rcases hr with hr | ⟨hr, e⟩ | ⟨hr, _⟩
   . injection hr with UY hrest
     injection UY with hy hx
     subst hy hx hrest
     have he := EqAt.int_int (A := A.in1) (s := ⟨hp, g, d0, tk, os⟩) i t j u
     refine wpAny_bind (he prog w _ _ ?_)
     by_cases e : i = j
     . rw [show (i == j) = true from beq_iff_eq.mpr e]
       wp_walk
       exact ⟨rfl, rfl, .inr (.inl ⟨rfl, e⟩)⟩
     . rw [show (i == j) = false from beq_eq_false_iff_ne.mpr e]
       have Ss := MG A.in1 ⟨hp, g, d0, tk, os⟩ i t j u prog w
       have hv : aS (i, c) (j, d) = decide (i < j) := by
        unfold aS
        simp [e]
       rw [hv] at h
       wp_walk using Ss
       exact ⟨_, rfl, by simpa using h⟩
   . injection hr with UY hrest
     injection UY with hy hx
     subst hy hx hrest
     have he := EqAt.str_str (A := A.in1) (s := ⟨hp, g, d0, tk, os⟩) c t2 d u2
     refine wpAny_bind (he prog w _ _ ?_)
     by_cases e2 : c = d
     . rw [show (c == d) = true from beq_iff_eq.mpr e2]
       wp_walk
       exact ⟨rfl, rfl, .inr (.inr ⟨rfl, e, e2⟩)⟩
     . rw [show (c == d) = false from beq_eq_false_iff_ne.mpr e2]
       have Ss := K8 A.in1 ⟨hp, g, d0, tk, os⟩ c t2 d u2 prog w
       have hv : aS (i, c) (j, d) = decide (c.cps.toList < d.cps.toList) := by
        unfold aS DF
        simp [e]
       rw [hv] at h
       wp_walk using Ss
       exact ⟨_, rfl, by simpa using h⟩
   . cases hr
  case fin =>
   rintro ⟨b1, b2⟩ s' ⟨yl, rfl, hr⟩
   simp only at yl
   subst yl
   rcases hr with hr | ⟨hr, _⟩ | ⟨_, e, e2⟩
   . cases hr
   . cases hr
   . have hv : aS (i, c) (j, d) = false := by rw [e, e2]; exact fM _
     rw [hv] at h
     wp_walk
     exact ⟨_, rfl, by simpa [Builtin.Tuple.tupleCompareSizes] using h⟩
  case h =>
   exact ⟨rfl, rfl, .inl rfl⟩
end
section
variable {X : Cx}
def VY (K : PySem.W.Frag) : R2 := fun x y H Q => ∃ a b i c j d, x = .ref a /\ y = .ref b /\ DA K H a [.int i, .str c] /\ DA K H b [.int j, .str d] /\ Q (.bl (aS (i, c) (j, d))) H
theorem RT (hu : X.A.units < cLine) : o4 X (compareOp .Lt) (VY X.K) := by
 intro pins s σ H x y v u Q I rx ry h
 obtain ⟨a, b, i, c, j, d, rfl, rfl, ha, hb, q⟩ := h
 cases rx
 cases ry
 obtain ⟨bb, r1, p1, _⟩ := I.tuple ha
 obtain ⟨G0, r2, p2, _⟩ := I.tuple hb
 cases r1 with
 | cons ri r1 =>
   obtain ⟨t, rfl⟩ := ri
   obtain ⟨_, rfl, t2, rfl⟩ := Vals.one r1
   cases r2 with
   | cons rj r2 =>
     obtain ⟨t', rfl⟩ := rj
     obtain ⟨_, rfl, ZF, rfl⟩ := Vals.one r2
     obtain ⟨⟨cls, dd, data, sl⟩, ho, hc, n, hd⟩ := id p1
     obtain ⟨⟨Z9, Sq, data2, Ig⟩, X7, IE, n2, hd2⟩ := id p2
     simp only at hc hd IE hd2
     subst hc hd IE hd2
     exact richCompare_meets_room (op := .Lt) ⟨_, ho, rfl⟩ ⟨_, X7, rfl⟩ PySem.F.slot_tuple_lt PySem.F.entry_tuple_lt (PySem.F.args_tuple_lt_2 _ _) (yQ a b n n2 dd Sq sl Ig i j t t' t2 ZF c d)
      ⟨ho, X7, show Value.bool (aS (i, c) (j, d)) ≠ Value.notImplemented /\ (EP X pins σ Q) (.bool (aS (i, c) (j, d))) s from ⟨(fun x => nomatch x), ⟨.bl _, H, I, rfl, q⟩⟩⟩ hu
end
section
variable {H : Hp} {Q : VK} {K : PySem.W.Frag}
theorem Xj {x y : V} {k l : Int × Str} (h1 : Dv H x (pairD k)) (h2 : Dv H y (pairD l)) (h : Q (.bl (aS k l)) H) : VY K x y H Q := by
 obtain ⟨a, rfl, ha⟩ := wx h1
 obtain ⟨b, rfl, hb⟩ := wx h2
 exact ⟨a, b, _, _, _, _, rfl, rfl, .of ha, .of hb, h⟩
end
def Tc (xs : List V) (H1 : Hp) (Q : VK) : Prop := xs.length <= sizeLine /\ ∀ p H2, az H1 H2 -> H1 p = none -> H2 p = some (.lst xs) -> Q (.ref p) H2
def Qu (t : TA) : TE := fun σ H Q => t σ H fun xs H1 => Tc xs H1 Q
section
variable {X : Cx} {es : List Expr} {t : TA} {pos : Pos}
theorem Fv (h : PA X es t) : PE X (.List es pos) (Qu t) := PE.weak (K4 h.m) fun σ H Q q => ⟨_, q, fun xs H1 ⟨hl, k⟩ => ⟨hl, fun p hp => k p _ (bw hp) hp au⟩⟩
end
section
variable {σ : St} {H : Hp} {Q : VK}
theorem R0 {t : TA} (h : t σ H fun xs H1 => Tc xs H1 Q) : Qu t σ H Q := h
theorem PJ {xs : List V} (hl : xs.length <= sizeLine) (k : ∀ p H2, az H H2 -> H p = none -> H2 p = some (.lst xs) -> Q (.ref p) H2) : Tc xs H Q := ⟨hl, k⟩
end
end L2
set_option maxHeartbeats 4000000
namespace My
open PySem L2
local macro_rules | `(tactic| walk_at "same") => `(tactic| first
 | exact az.refl _
 | assumption
 | (refine' az.trans ?m ?s; (case s => assumption); (case m => walk_at "same")))
local macro_rules | `(tactic| walk_at "at") => `(tactic| first
 | assumption
 | exact au
 | (refine' az.at ?s ?m; (case s => assumption); (case m => walk_at "at")))
local macro_rules | `(tactic| walk_at "dat") => `(tactic| first
 | exact Dv.int _
 | exact Dv.bG
 | exact Dv.bl _
 | exact Dv.str _
 | assumption
 | (refine' Dv.keeps ?s ?m; (case s => assumption); (case m => walk_at "dat")))
local macro_rules | `(tactic| walk_at "ins") => `(tactic| first
 | assumption
 | (refine' sv.keeps ?s ?m; (case s => assumption); (case m => walk_at "ins")))
local macro_rules | `(tactic| walk_at "dats") => `(tactic| first
 | exact cB.nil
 | (refine' cB.cons ?m ?s; (case m => walk_at "dat"); (case s => walk_at "dats"))
 | assumption
 | (refine' cB.keeps ?s ?m; (case s => assumption); (case m => walk_at "dats")))
local macro_rules | `(tactic| walk_at "sql") => `(tactic| first
 | assumption
 | (refine' az.seq ?s ?m; (case s => assumption); (case m => walk_at "sql")))
local macro_rules | `(tactic| walk_at "isq") => `(tactic| first
 | (refine' Or.inl ?m; case m => walk_at "dat")
 | (refine' Or.inr ?m; case m => walk_at "dat"))
set_option hygiene false in
local macro_rules | `(tactic| walk_at "side") => `(tactic| first
 | omega
 | assumption
 | exact (by decide)
 | exact V4 (by omega) (by omega)
 | exact X1 ⟨by omega, by omega⟩ ⟨by omega, by omega⟩
 | exact ⟨by decide, by decide, by decide⟩)
set_option hygiene false in
local macro_rules | `(tactic| walk_at "use") => `(tactic| fail)
set_option hygiene false in
local macro_rules | `(tactic| walk_at "lk") => `(tactic| fail)
set_option hygiene false in
local macro_rules | `(tactic| walk_at "put") => `(tactic| fail)
set_option hygiene false in
local macro_rules | `(tactic| walk_at "fin") => `(tactic| fail)
set_option hygiene false in
local macro_rules | `(tactic| walk_at "wds") => `(tactic| first
 | with_reducible refine EL (ws := [_]) rfl ?_
 | with_reducible refine EL (ws := [_, _]) rfl ?_
 | with_reducible refine EL (ws := [_, _, _]) rfl ?_
 | with_reducible refine EL (ws := [_, _, _, _]) rfl ?_
 | with_reducible refine EL (ws := [_, _, _, _, _]) rfl ?_
 | with_reducible refine EL (ws := [_, _, _, _, _, _]) rfl ?_
 | with_reducible refine EL (ws := []) rfl ?_)
set_option hygiene false in
local macro_rules | `(tactic| walk_at "mks") => `(tactic| first
 | fail)
local macro_rules | `(tactic| walk_at "br") => `(tactic| ((with_reducible refine W6 (fun hb => ?_) (fun hb => ?_)) <;> (try simp only [id, decide_eq_true_eq, decide_eq_false_iff_not, Bool.not_eq_true', Bool.not_eq_false', Bool.not_true, Bool.not_false, V.int.injEq, Bool.true_eq_false, Bool.false_eq_true, reduceCtorEq, decide_true, decide_false, not_true, not_false_iff, PyData.eqv, PyData.eqvAll, Bool.and_eq_true, Bool.and_eq_false_iff, Bool.or_eq_true, Bool.or_eq_false_iff, beq_iff_eq, beq_eq_false_iff_ne, ne_eq, bne_iff_ne, Bool.and_true, Bool.and_false, Bool.and_self, beq_self_eq_true, isInt, isBool, isStr, QO, isTup, WK, List.length_cons, List.length_nil] at hb) <;> (try (exfalso; omega)) <;> (try (exfalso; (refine' abE hb ?d); (case d => walk_at "dat")))))
local macro_rules | `(tactic| walk_at "rd1") => `(tactic| first
 | with_reducible refine Ji ?_
 | with_reducible refine Xm ?_
 | with_reducible refine WN ?_
 | with_reducible refine Rm ?_
 | with_reducible refine XZ ?_
 | ((with_reducible refine' Fi ?e ?_); case e => exact rfl)
 | with_reducible refine r_c ?_
 | with_reducible refine Z3 ?_
 | with_reducible refine abF ?_
 | with_reducible refine ZV ?_
 | ((with_reducible refine' Rr ?e1 ?e2 ?_); (case e1 => exact ⟨by decide, by decide, by decide⟩); (case e2 => ((conv => lhs; simp only [Int.reduceToNat]) <;> exact rfl)))
 | ((with_reducible refine' Vm ?e ?_); case e => walk_at "side")
 | with_reducible refine r_u ?_
 | with_reducible refine Tp ?_
 | with_reducible refine Wi ?_
 | with_reducible refine Oh ?_
 | with_reducible refine abq ?_
 | with_reducible refine RG ?_
 | with_reducible refine Yj ?_
 | with_reducible refine abb ?_
 | with_reducible refine Yo ?_
 | with_reducible refine Va ?_
 | with_reducible refine Uo ?_
 | with_reducible refine aaP ?_
 | with_reducible refine Ry ?_
 | with_reducible refine Kg ?_
 | with_reducible refine Il ?_
 | walk_at "br"
 | with_reducible refine S6 ?_
 | ((with_reducible refine' XC ?e ?_); case e => exact rfl)
 | ((with_reducible refine' Mq ?e1 ?e2 ?e3 ?e4 ?e5 ?_); (case e1 => walk_at "dat"); (case e2 => walk_at "dat"); (case e3 => first | rfl | assumption); (case e4 => first | rfl | assumption); (case e5 => first | exact Nat.le_of_ble_eq_true rfl | assumption))
 | ((with_reducible refine' zv ?e1 ?e2 ?_); (case e1 => walk_at "isq"); (case e2 => exact rfl))
 | ((with_reducible refine' KW ?e ?_); case e => walk_at "isq")
 | ((with_reducible refine' Bj ?e ?_); case e => walk_at "sql")
 | with_reducible refine U0 (fun _ _ _ _ => ?_)
 | ((with_reducible refine' Uy ?e (fun _ _ => ?_)); case e => walk_at "side")
 | with_reducible refine UT ?_
 | ((with_reducible refine' M6 ?e1 ?e2 ?e3 ?e4 ?e5 ?_); (case e1 => walk_at "at"); (case e2 => assumption); (case e3 => assumption); (case e4 => exact PX rfl); (case e5 => walk_at "put"))
 | ((with_reducible refine' RM ?e1 ?e2 ?e3 ?e4 ?_); (case e1 => walk_at "ins"); (case e2 => assumption); (case e3 => assumption); (case e4 => walk_at "lk"))
 | ((with_reducible refine' UD ?e1 ?e2 ?e3 ?e4 ?_); (case e1 => walk_at "at"); (case e2 => assumption); (case e3 => assumption); (case e4 => walk_at "lk"))
 | ((with_reducible refine' lN ?e1 ?e2 ?_); (case e1 => walk_at "ins"); (case e2 => walk_at "lk"))
 | ((with_reducible refine' Hc ?e ?_); case e => walk_at "dat")
 | ((with_reducible refine' D7 ?e ?_); case e => walk_at "dat")
 | ((with_reducible refine' IB ?e ?_); case e => walk_at "dat")
 | ((with_reducible refine' Iv ?e ?_); case e => walk_at "dat")
 | ((with_reducible refine' UC ?e1 ?e2 ?e3 ?e4 ?_); (case e1 => walk_at "ins"); (case e2 => assumption); (case e3 => assumption); (case e4 => assumption))
 | with_reducible refine Fg ?_
 | with_reducible refine Ff ?_
 | with_reducible refine Nb (fun _ _ => ?_)
 | with_reducible refine N0 (fun _ _ => ?_)
 | with_reducible refine RE ?_
 | ((with_reducible refine' SY ?e1 ?e2 (fun _ _ _ _ => ?_)); (case e1 => exact Cm rfl); (case e2 => walk_at "dats"))
 | with_reducible refine T6 ?_
 | ((with_reducible refine' TB ?e1 ?e2 (fun _ _ _ _ _ _ _ => ?_)); (case e1 => exact Cm rfl); (case e2 => walk_at "dats"))
 | with_reducible refine SR ?_
 | with_reducible refine Wu ?_
 | with_reducible refine Pq ?_
 | ((with_reducible refine' UL ?e1 ?e2 ?_); (case e1 => omega); (case e2 => omega))
 | with_reducible refine VW ?_
 | with_reducible refine Fo ?_
 | with_reducible refine P8 ?_
 | ((with_reducible refine QZ ?_); (with_reducible refine Fo ?_); ((with_reducible refine' Fi ?e ?_); case e => exact rfl); ((with_reducible refine' lN ?e1 ?e2 ?_); (case e1 => walk_at "ins"); (case e2 => walk_at "lk")))
 | with_reducible refine WY ?_
 | with_reducible refine Gh (fun _ _ => ?_)
 | walk_at "wds"
 | walk_at "mks"
 | walk_at "use"
 | walk_at "fin")
local macro_rules | `(tactic| walk_at "lat") => `(tactic| first
 | assumption
 | (refine' dJ.keeps ?s ?m; (case s => assumption); (case m => walk_at "lat"))
 | (refine' dJ.mv ?s ?n ?m; (case s => assumption); (case n => walk_at "nin"); (case m => walk_at "lat"))
 | fail)
local macro_rules | `(tactic| walk_at "nin") => `(tactic| first
 | (refine' K9 ?n1; (case n1 => walk_at "ne"))
 | fail)
local macro_rules | `(tactic| walk_at "ne") => `(tactic| first
 | assumption
 | (refine Ne.symm ?_; assumption)
 | (refine' dJ.ne ?h ?n; (case n => assumption); (case h => walk_at "lat"))
 | (refine' Ne.symm (dJ.ne ?h ?n); (case n => assumption); (case h => walk_at "lat"))
 | fail)
local macro_rules | `(tactic| walk_at "dla") => `(tactic| first
 | assumption
 | (refine' la.keeps ?s ?m; (case s => assumption); (case m => walk_at "dla"))
 | (refine' la.mv ?s ?n ?m; (case s => assumption); (case n => walk_at "nin"); (case m => walk_at "dla"))
 | fail)
local macro_rules | `(tactic| walk_at "ne") => `(tactic| first
 | (refine' la.ne ?h ?n; (case n => assumption); (case h => walk_at "dla"))
 | (refine' Ne.symm (la.ne ?h ?n); (case n => assumption); (case h => walk_at "dla"))
 | fail)
local macro_rules | `(tactic| walk_at "imm") => `(tactic| first
 | rfl
 | assumption
 | exact cg (fun _ => rfl) _
 | (refine' dJ.zK ?h; (case h => assumption))
 | fail)
set_option hygiene false in
local macro_rules | `(tactic| walk_at "dm") => `(tactic| first
 | exact fun _ h => h
 | fail)
set_option hygiene false in
local macro_rules | `(tactic| walk_at "none") => `(tactic| first
 | assumption
 | fail)
local macro_rules | `(tactic| walk_at "same") => `(tactic| first
 | (refine' Mv.MD ?s ?m ?n; (case m => assumption); (case s => walk_at "same"); (case n => walk_at "none"))
 | fail)
local macro_rules | `(tactic| walk_at "mv") => `(tactic| first
 | exact Mv.refl
 | assumption
 | (refine' Mv.iq ?m ?s; (case s => assumption); (case m => walk_at "mv"))
 | (refine' Mv.step ?m ?s ?h; (case s => assumption); (case m => walk_at "mv"); (case h => walk_at "ours"))
 | fail)
set_option hygiene false in
local macro_rules | `(tactic| walk_at "ours") => `(tactic| first
 | fail)
local macro_rules | `(tactic| walk_at "dat") => `(tactic| first
 | (refine' dJ.dv ?m; (case m => walk_at "lat"))
 | (refine' Mv.dat ?s ?i ?m; (case s => assumption); (case i => walk_at "imm"); (case m => walk_at "dat"))
 | fail)
local macro_rules | `(tactic| walk_at "dats") => `(tactic| first
 | (refine' Mv.EZ ?s ?i ?m; (case s => assumption); (case i => walk_at "imm"); (case m => walk_at "dats"))
 | fail)
set_option hygiene false in
local macro_rules | `(tactic| walk_at "len") => `(tactic| first
 | (simp only [List.length_map, List.length_append, List.length_cons, List.length_nil]; omega)
 | omega
 | fail)
local macro_rules | `(tactic| walk_at "rd1") => `(tactic| first
 | with_reducible refine abU ?_
 | with_reducible refine Oq ?_
 | with_reducible refine RV (fun _ _ _ _ _ => ?_)
 | with_reducible refine PB ?_
 | with_reducible refine O0 ?_
 | with_reducible refine Ul ?_
 | with_reducible refine Pz ?_
 | ((with_reducible refine' La ?e1 ?e2 ?e3 ?e4 (fun _ _ _ => ?_)); (case e1 => walk_at "dla"); (case e3 => walk_at "dat"); (case e2 => walk_at "len"); (case e4 => walk_at "imm"))
 | ((with_reducible refine' V0 ?e1 (fun _ _ => ?_)); (case e1 => walk_at "dla"))
 | ((with_reducible refine' TN ?e1 ?e2 ?_); (case e1 => walk_at "dla"); (case e2 => assumption))
 | with_reducible refine Om ?_
 | with_reducible refine Zu ?_
 | with_reducible refine Xs ?_
 | ((with_reducible refine' Lr ?e ?_); case e => walk_at "lat")
 | ((with_reducible refine' X5 ?e1 ?e2 ?e3 ?e4 (fun _ _ _ => ?_)); (case e1 => walk_at "lat"); (case e3 => walk_at "dat"); (case e2 => walk_at "len"); (case e4 => walk_at "imm"))
 | ((with_reducible refine' UI ?e1 ?e2 ?e3 (fun _ _ _ _ _ => ?_)); (case e1 => exact Cm rfl); (case e2 => walk_at "dats"); (case e3 => exact rfl))
 | with_reducible refine ZE ?_
 | with_reducible refine Sg ?_
 | with_reducible refine Jg ?_
 | with_reducible refine OC ?_
 | with_reducible refine Xu ?_
 | ((with_reducible refine' Uv ?e ?_); case e => walk_at "dat")
 | ((with_reducible refine' Sr ?e ?e2 ?_); (case e => walk_at "dat"); (case e2 => simp))
 | ((with_reducible refine' Ek ?e ?_); case e => walk_at "dat")
 | ((with_reducible refine' T5 ?e ?_); case e => walk_at "len")
 | ((with_reducible refine' TX ?e ?_); case e => walk_at "dat")
 | ((with_reducible refine' zv ?e1 ?e2 ?_); (case e1 => walk_at "isq"); (case e2 => first | exact Vv | (refine' MA ?a ?b; (case a => omega); (case b => walk_at "len")) | fail))
 | fail)
local macro_rules | `(tactic| walk_at "rd1") => `(tactic| first
 | ((with_reducible refine' LA _ ?e1 (fun _ _ _ _ _ => ?_)); (case e1 => walk_at "lat"))
 | fail)
set_option hygiene false in
local macro_rules | `(tactic| walk_at "rd1") => `(tactic| first
 | fail)
local macro_rules | `(tactic| walk_at "rd1") => `(tactic| first
 | with_reducible refine L5 ?_
 | ((with_reducible refine' SA ?e1 ?e2 ?e3 (fun _ _ _ => ?_)); (case e1 => exact rfl); (case e2 => omega); (case e3 => omega))
 | fail)
set_option hygiene false in
local macro_rules | `(tactic| walk_at "rd1") => `(tactic| first
 | fail)
local macro_rules | `(tactic| walk_at "rd1") => `(tactic| first
 | with_reducible refine NS ?_
 | with_reducible refine Jf ?_
 | ((with_reducible refine' NP ?e1 ?_); (case e1 => walk_at "dla"))
 | fail)
local macro_rules | `(tactic| walk_at "rd1") => `(tactic| first
 | with_reducible refine PF ?_
 | with_reducible refine Gw ?_
 | with_reducible refine PR ?_
 | with_reducible refine JR ?_
 | with_reducible refine JP ?_
 | with_reducible refine Ht ?_
 | with_reducible refine N5 ?_
 | with_reducible refine Tw ?_
 | with_reducible refine UZ ?_
 | with_reducible refine W4 ?_
 | ((with_reducible refine' Uc ?e (fun _ => ?_)); case e => assumption)
 | fail)
set_option hygiene false in
local macro_rules | `(tactic| walk_at "rd1") => `(tactic| first
 | with_reducible refine UM ?_
 | with_reducible refine S8 ?_
 | fail)
set_option hygiene false in
local macro_rules | `(tactic| walk_at "rd1") => `(tactic| first
 | with_reducible refine Rj ?_
 | fail)
local macro_rules | `(tactic| walk_at "rd1") => `(tactic| first
 | ((with_reducible refine QZ ?_); (with_reducible refine Gw ?_); ((with_reducible refine' Fi ?e ?_); case e => exact rfl); ((with_reducible refine' lN ?e1 ?e2 ?_); (case e1 => walk_at "ins"); (case e2 => walk_at "lk")))
 | fail)
set_option hygiene false in
local macro_rules | `(tactic| walk_at "rd1") => `(tactic| first
 | fail)
set_option hygiene false in
local macro_rules | `(tactic| walk_at "rd1") => `(tactic| first
 | fail)
def top (i : Nat) : Stmt := PySem.Challenge.pw_wakefew_k18_whole_wheels_tell_as_a_row.main.body.getD i (.Pass ⟨0, 0, 0, 0⟩)
set_option hygiene false in
local macro_rules | `(tactic| walk_at "scp") => `(tactic| exact ⟨rfl, rfl, rfl, by decide +kernel, rfl, by decide +kernel, by decide +kernel⟩)
abbrev gK : Stmt := inClass (top 5) 0
theorem ug : aB ["self", "name"] ["self", "name"] (av gK) := by walk_at "scp"
abbrev fF : Stmt := inClass (top 6) 0
theorem se : aB ["self", "name"] ["self", "name"] (av fF) := by walk_at "scp"
abbrev gG : Stmt := inClass (top 8) 0
theorem uB : aB ["self", "now"] ["self", "now"] (av gG) := by walk_at "scp"
abbrev pz : Stmt := inClass (top 8) 1
theorem AH : aB ["self", "name", "time"] ["self", "name", "time"] (av pz) := by walk_at "scp"
abbrev lX : Stmt := inClass (top 8) 2
theorem qO : aB ["self", "name", "time"] ["self", "name"] (av lX) := by walk_at "scp"
abbrev jY : Stmt := inClass (top 8) 3
theorem iG : aB ["self", "to", "told", "time", "name"] ["self", "to"] (av jY) := by walk_at "scp"
abbrev ka : Stmt := inClass (top 8) 4
theorem yk : aB ["self"] ["self"] (av ka) := by walk_at "scp"
abbrev ik : Stmt := inClass (top 8) 5
theorem vh : aB ["self", "name"] ["self", "name"] (av ik) := by walk_at "scp"
abbrev fZ : Stmt := inClass (top 8) 6
theorem wa : aB ["self"] ["self"] (av fZ) := by walk_at "scp"
abbrev eK : Stmt := inClass (top 8) 7
theorem oj : aB ["self", "name"] ["self", "name"] (av eK) := by walk_at "scp"
abbrev pN : Stmt := inClass (top 9) 0
theorem Bg : aB ["self", "name", "time"] ["self", "name", "time"] (av pN) := by walk_at "scp"
abbrev oU : Stmt := inClass (top 9) 1
theorem Aw : aB ["self", "name", "time"] ["self", "name", "time"] (av oU) := by walk_at "scp"
abbrev gM : Stmt := inClass (top 9) 2
theorem xt : aB ["self", "to"] ["self", "to"] (av gM) := by walk_at "scp"
abbrev rO : Stmt := top 11
theorem CJ : aB ["thing"] ["thing"] (av rO) := by walk_at "scp"
abbrev jq : Stmt := top 16
theorem nr : aB ["rounds", "slots"] ["rounds"] (av jq) := by walk_at "scp"
abbrev pS : Stmt := top 17
theorem fE : aB ["rounds", "wheels", "unit", "slots"] ["rounds"] (av pS) := by walk_at "scp"
abbrev rT : Stmt := top 18
theorem fx : aB ["row", "pair", "low", "high", "middle"] ["row", "pair"] (av rT) := by walk_at "scp"
abbrev gD : Stmt := inClass (top 19) 0
theorem uF : aB ["self", "unit", "slots"] ["self", "unit", "slots"] (av gD) := by walk_at "scp"
abbrev ko : Stmt := inClass (top 19) 1
theorem yd : aB ["self", "time", "now"] ["self", "time", "now"] (av ko) := by walk_at "scp"
abbrev ip : Stmt := inClass (top 19) 2
theorem uV : aB ["self", "time"] ["self", "time"] (av ip) := by walk_at "scp"
abbrev i3 : Stmt := inClass (top 19) 3
theorem nM : aB ["self", "name", "time", "slot"] ["self", "name", "time"] (av i3) := by walk_at "scp"
abbrev gw : Stmt := inClass (top 19) 4
theorem jF : aB ["self", "name", "time", "slot"] ["self", "name", "time"] (av gw) := by walk_at "scp"
abbrev ki : Stmt := inClass (top 19) 5
theorem xQ : aB ["self", "slot"] ["self", "slot"] (av ki) := by walk_at "scp"
abbrev ig : Stmt := inClass (top 19) 6
theorem cC : aB ["self", "now", "to", "passed", "names", "slot"] ["self", "now", "to"] (av ig) := by walk_at "scp"
abbrev fV : Stmt := inClass (top 20) 0
theorem rP : aB ["self", "rounds", "now"] ["self", "rounds", "now"] (av fV) := by walk_at "scp"
abbrev gf : Stmt := inClass (top 20) 4
theorem fm : aB ["self", "time", "now", "k", "wheel"] ["self", "time", "now"] (av gf) := by walk_at "scp"
abbrev jj : Stmt := inClass (top 20) 5
theorem vY : aB ["self", "name", "time"] ["self", "name", "time"] (av jj) := by walk_at "scp"
abbrev fK : Stmt := inClass (top 20) 6
theorem jc : aB ["self", "name", "time", "now", "k"] ["self", "name", "time", "now"] (av fK) := by walk_at "scp"
abbrev jb : Stmt := inClass (top 20) 7
theorem nP : aB ["self", "name", "time", "k"] ["self", "name", "time"] (av jb) := by walk_at "scp"
abbrev gI : Stmt := inClass (top 20) 8
theorem cV : aB ["self", "to", "left", "wheel", "over", "name"] ["self", "to"] (av gI) := by walk_at "scp"
abbrev fu : Stmt := inClass (top 20) 9
theorem eM : aB ["self", "to", "span", "names"] ["self", "to"] (av fu) := by walk_at "scp"
abbrev mz : Stmt := top 22
theorem yR : aB ["_law_found"] ["_law_found"] (av mz) := by walk_at "scp"
abbrev iX : Stmt := top 23
theorem wc : aB ["_law_script", "_law_k"] ["_law_script", "_law_k"] (av iX) := by walk_at "scp"
abbrev lV : Stmt := top 24
theorem j4 : aB ["_law_cell", "_law_k", "_law_number"] ["_law_cell", "_law_k"] (av lV) := by walk_at "scp"
abbrev lO : Stmt := top 25
theorem gO : aB ["_law_cell", "_law_many", "_law_way", "_law_found", "_law_k"] ["_law_cell", "_law_many", "_law_way"] (av lO) := by walk_at "scp"
abbrev p4 : Stmt := top 26
theorem eB : aB ["_law_draw", "_law_name_here", "_law_rest", "_law_k"] ["_law_draw"] (av p4) := by walk_at "scp"
abbrev eQ : Stmt := top 27
theorem jf : aB ["_law_script", "_law_at", "_law_cell", "_law_many"] ["_law_script", "_law_at"] (av eQ) := by walk_at "scp"
abbrev oG : Stmt := top 28
theorem sN : aB ["_law_draw", "_law_style", "_law_some"] ["_law_draw", "_law_style"] (av oG) := by walk_at "scp"
abbrev pj : Stmt := top 29
theorem ez : aB ["_law_draw", "_law_now", "_law_rounds_here", "_law_way", "_law_rest", "_law_unit", "_law_many"] ["_law_draw", "_law_now", "_law_rounds_here"] (av pj) := by walk_at "scp"
abbrev oo : Stmt := top 30
theorem bQ : aB ["_law_told", "_law_draws_here", "_law_style", "_law_rounds_here", "_law_word_here", "_law_rest", "_law_waiting", "_law_name_here", "_law_time_here"] ["_law_told", "_law_draws_here", "_law_style", "_law_rounds_here"] (av oo) := by walk_at "scp"
abbrev mF : Stmt := top 31
theorem eP : aB ["_law_told", "_law_deed_here", "_law_word_here", "_law_name_here", "_law_time_here", "e"] ["_law_told", "_law_deed_here"] (av mF) := by walk_at "scp"
abbrev ke : Stmt := top 32
theorem oz : aB ["_law_found", "_law_k"] ["_law_found"] (av ke) := by walk_at "scp"
abbrev gq : Stmt := top 33
theorem dP : aB ["_law_one", "_law_other", "_law_held", "_law_time_here", "_law_name_here"] ["_law_one", "_law_other"] (av gq) := by walk_at "scp"
abbrev Fn : Stmt := top 34
theorem gu : aB ["_law_script", "_law_lots", "_law_now", "_law_several", "_law_style", "_law_way", "_law_k", "_law_cell", "_law_draws_here", "_law_deed_here", "_law_answers", "_law_j"] ["_law_script"] (av Fn) := by walk_at "scp"
theorem uf : ¬ (("now" : Str) = "times") := by decide +kernel
theorem uv : ¬ (("times" : Str) = "now") := by decide +kernel
theorem uq : ¬ (("enter" : Str) = "now") := by decide +kernel
theorem oY : ¬ (("enter" : Str) = "times") := by decide +kernel
theorem tq : ¬ (("leave" : Str) = "now") := by decide +kernel
theorem ou : ¬ (("leave" : Str) = "times") := by decide +kernel
theorem pV : ¬ (("pass_on" : Str) = "now") := by decide +kernel
theorem kK : ¬ (("pass_on" : Str) = "times") := by decide +kernel
theorem nG : ¬ (("__init__" : Str) = "now") := by decide +kernel
theorem jK : ¬ (("__init__" : Str) = "times") := by decide +kernel
theorem xP : ¬ (("put" : Str) = "now") := by decide +kernel
theorem sA : ¬ (("put" : Str) = "times") := by decide +kernel
theorem vx : ¬ (("take" : Str) = "now") := by decide +kernel
theorem qX : ¬ (("take" : Str) = "times") := by decide +kernel
theorem wR : ¬ (("due" : Str) = "now") := by decide +kernel
theorem tV : ¬ (("due" : Str) = "times") := by decide +kernel
theorem uz : ¬ (("least" : Str) = "now") := by decide +kernel
theorem oF : ¬ (("least" : Str) = "times") := by decide +kernel
theorem oh : ¬ (("time_of" : Str) = "now") := by decide +kernel
theorem kA : ¬ (("time_of" : Str) = "times") := by decide +kernel
theorem qZ : ¬ (("all_of" : Str) = "now") := by decide +kernel
theorem m6 : ¬ (("all_of" : Str) = "times") := by decide +kernel
theorem iU : ¬ (("check_waits" : Str) = "now") := by decide +kernel
theorem hV : ¬ (("check_waits" : Str) = "times") := by decide +kernel
theorem rJ : ¬ (("unit" : Str) = "slots") := by decide +kernel
theorem sM : ¬ (("unit" : Str) = "span") := by decide +kernel
theorem tO : ¬ (("unit" : Str) = "mask") := by decide +kernel
theorem kM : ¬ (("unit" : Str) = "names_in") := by decide +kernel
theorem qB : ¬ (("slots" : Str) = "unit") := by decide +kernel
theorem rE : ¬ (("slots" : Str) = "span") := by decide +kernel
theorem qF : ¬ (("slots" : Str) = "mask") := by decide +kernel
theorem jI : ¬ (("slots" : Str) = "names_in") := by decide +kernel
theorem tf : ¬ (("span" : Str) = "unit") := by decide +kernel
theorem qS : ¬ (("span" : Str) = "slots") := by decide +kernel
theorem uH : ¬ (("span" : Str) = "mask") := by decide +kernel
theorem lF : ¬ (("span" : Str) = "names_in") := by decide +kernel
theorem tu : ¬ (("mask" : Str) = "unit") := by decide +kernel
theorem q9 : ¬ (("mask" : Str) = "slots") := by decide +kernel
theorem sD : ¬ (("mask" : Str) = "span") := by decide +kernel
theorem lH : ¬ (("mask" : Str) = "names_in") := by decide +kernel
theorem lz : ¬ (("names_in" : Str) = "unit") := by decide +kernel
theorem jx : ¬ (("names_in" : Str) = "slots") := by decide +kernel
theorem kH : ¬ (("names_in" : Str) = "span") := by decide +kernel
theorem lq : ¬ (("names_in" : Str) = "mask") := by decide +kernel
theorem lB : ¬ (("__init__" : Str) = "unit") := by decide +kernel
theorem jw : ¬ (("__init__" : Str) = "slots") := by decide +kernel
theorem kF : ¬ (("__init__" : Str) = "span") := by decide +kernel
theorem k9 : ¬ (("__init__" : Str) = "mask") := by decide +kernel
theorem gX : ¬ (("__init__" : Str) = "names_in") := by decide +kernel
theorem rg : ¬ (("holds" : Str) = "unit") := by decide +kernel
theorem oV : ¬ (("holds" : Str) = "slots") := by decide +kernel
theorem rF : ¬ (("holds" : Str) = "span") := by decide +kernel
theorem rB : ¬ (("holds" : Str) = "mask") := by decide +kernel
theorem jv : ¬ (("holds" : Str) = "names_in") := by decide +kernel
theorem nU : ¬ (("slot_of" : Str) = "unit") := by decide +kernel
theorem kD : ¬ (("slot_of" : Str) = "slots") := by decide +kernel
theorem m8 : ¬ (("slot_of" : Str) = "span") := by decide +kernel
theorem nk : ¬ (("slot_of" : Str) = "mask") := by decide +kernel
theorem iy : ¬ (("slot_of" : Str) = "names_in") := by decide +kernel
theorem oR : ¬ (("lay_in" : Str) = "unit") := by decide +kernel
theorem mS : ¬ (("lay_in" : Str) = "slots") := by decide +kernel
theorem pG : ¬ (("lay_in" : Str) = "span") := by decide +kernel
theorem pQ : ¬ (("lay_in" : Str) = "mask") := by decide +kernel
theorem jr : ¬ (("lay_in" : Str) = "names_in") := by decide +kernel
theorem lg : ¬ (("lift_out" : Str) = "unit") := by decide +kernel
theorem jX : ¬ (("lift_out" : Str) = "slots") := by decide +kernel
theorem lA : ¬ (("lift_out" : Str) = "span") := by decide +kernel
theorem lb : ¬ (("lift_out" : Str) = "mask") := by decide +kernel
theorem g7 : ¬ (("lift_out" : Str) = "names_in") := by decide +kernel
theorem qz : ¬ (("empty" : Str) = "unit") := by decide +kernel
theorem pW : ¬ (("empty" : Str) = "slots") := by decide +kernel
theorem qA : ¬ (("empty" : Str) = "span") := by decide +kernel
theorem ro : ¬ (("empty" : Str) = "mask") := by decide +kernel
theorem jB : ¬ (("empty" : Str) = "names_in") := by decide +kernel
theorem nI : ¬ (("let_out" : Str) = "unit") := by decide +kernel
theorem kB : ¬ (("let_out" : Str) = "slots") := by decide +kernel
theorem nN : ¬ (("let_out" : Str) = "span") := by decide +kernel
theorem nz : ¬ (("let_out" : Str) = "mask") := by decide +kernel
theorem iu : ¬ (("let_out" : Str) = "names_in") := by decide +kernel
theorem qC : ¬ (("now" : Str) = "wheels") := by decide +kernel
theorem yh : ¬ (("now" : Str) = "far") := by decide +kernel
theorem uC : ¬ (("now" : Str) = "moves") := by decide +kernel
theorem nQ : ¬ (("times" : Str) = "wheels") := by decide +kernel
theorem ua : ¬ (("times" : Str) = "far") := by decide +kernel
theorem oO : ¬ (("times" : Str) = "moves") := by decide +kernel
theorem rG : ¬ (("wheels" : Str) = "now") := by decide +kernel
theorem mY : ¬ (("wheels" : Str) = "times") := by decide +kernel
theorem rK : ¬ (("wheels" : Str) = "far") := by decide +kernel
theorem nh : ¬ (("wheels" : Str) = "moves") := by decide +kernel
theorem xV : ¬ (("far" : Str) = "now") := by decide +kernel
theorem tS : ¬ (("far" : Str) = "times") := by decide +kernel
theorem rl : ¬ (("far" : Str) = "wheels") := by decide +kernel
theorem sR : ¬ (("far" : Str) = "moves") := by decide +kernel
theorem sH : ¬ (("moves" : Str) = "now") := by decide +kernel
theorem oW : ¬ (("moves" : Str) = "times") := by decide +kernel
theorem mZ : ¬ (("moves" : Str) = "wheels") := by decide +kernel
theorem tW : ¬ (("moves" : Str) = "far") := by decide +kernel
theorem i7 : ¬ (("__init__" : Str) = "wheels") := by decide +kernel
theorem m9 : ¬ (("__init__" : Str) = "far") := by decide +kernel
theorem jW : ¬ (("__init__" : Str) = "moves") := by decide +kernel
theorem nj : ¬ (("wheel_of" : Str) = "now") := by decide +kernel
theorem jy : ¬ (("wheel_of" : Str) = "times") := by decide +kernel
theorem iZ : ¬ (("wheel_of" : Str) = "wheels") := by decide +kernel
theorem nR : ¬ (("wheel_of" : Str) = "far") := by decide +kernel
theorem jz : ¬ (("wheel_of" : Str) = "moves") := by decide +kernel
theorem vt : ¬ (("bits" : Str) = "now") := by decide +kernel
theorem qI : ¬ (("bits" : Str) = "times") := by decide +kernel
theorem o1 : ¬ (("bits" : Str) = "wheels") := by decide +kernel
theorem vB : ¬ (("bits" : Str) = "far") := by decide +kernel
theorem qy : ¬ (("bits" : Str) = "moves") := by decide +kernel
theorem ui : ¬ (("moved" : Str) = "now") := by decide +kernel
theorem oZ : ¬ (("moved" : Str) = "times") := by decide +kernel
theorem mQ : ¬ (("moved" : Str) = "wheels") := by decide +kernel
theorem sG : ¬ (("moved" : Str) = "far") := by decide +kernel
theorem pJ : ¬ (("moved" : Str) = "moves") := by decide +kernel
theorem mU : ¬ (("wheel_at" : Str) = "now") := by decide +kernel
theorem jJ : ¬ (("wheel_at" : Str) = "times") := by decide +kernel
theorem iK : ¬ (("wheel_at" : Str) = "wheels") := by decide +kernel
theorem mR : ¬ (("wheel_at" : Str) = "far") := by decide +kernel
theorem jT : ¬ (("wheel_at" : Str) = "moves") := by decide +kernel
theorem m3 : ¬ (("enter" : Str) = "wheels") := by decide +kernel
theorem uA : ¬ (("enter" : Str) = "far") := by decide +kernel
theorem o5 : ¬ (("enter" : Str) = "moves") := by decide +kernel
theorem nH : ¬ (("lie_down" : Str) = "now") := by decide +kernel
theorem jC : ¬ (("lie_down" : Str) = "times") := by decide +kernel
theorem iS : ¬ (("lie_down" : Str) = "wheels") := by decide +kernel
theorem nB : ¬ (("lie_down" : Str) = "far") := by decide +kernel
theorem jG : ¬ (("lie_down" : Str) = "moves") := by decide +kernel
theorem nC : ¬ (("leave" : Str) = "wheels") := by decide +kernel
theorem sT : ¬ (("leave" : Str) = "far") := by decide +kernel
theorem oC : ¬ (("leave" : Str) = "moves") := by decide +kernel
theorem jO : ¬ (("pass_on" : Str) = "wheels") := by decide +kernel
theorem p9 : ¬ (("pass_on" : Str) = "far") := by decide +kernel
theorem lj : ¬ (("pass_on" : Str) = "moves") := by decide +kernel
theorem kY : ¬ (("come_near" : Str) = "now") := by decide +kernel
theorem iQ : ¬ (("come_near" : Str) = "times") := by decide +kernel
theorem iw : ¬ (("come_near" : Str) = "wheels") := by decide +kernel
theorem ly : ¬ (("come_near" : Str) = "far") := by decide +kernel
theorem iN : ¬ (("come_near" : Str) = "moves") := by decide +kernel
theorem qL : ¬ (("put" : Str) = "wheels") := by decide +kernel
theorem ym : ¬ (("put" : Str) = "far") := by decide +kernel
theorem tL : ¬ (("put" : Str) = "moves") := by decide +kernel
theorem pB : ¬ (("take" : Str) = "wheels") := by decide +kernel
theorem vE : ¬ (("take" : Str) = "far") := by decide +kernel
theorem rD : ¬ (("take" : Str) = "moves") := by decide +kernel
theorem rm : ¬ (("due" : Str) = "wheels") := by decide +kernel
theorem yb : ¬ (("due" : Str) = "far") := by decide +kernel
theorem tF : ¬ (("due" : Str) = "moves") := by decide +kernel
theorem nK : ¬ (("least" : Str) = "wheels") := by decide +kernel
theorem tY : ¬ (("least" : Str) = "far") := by decide +kernel
theorem oI : ¬ (("least" : Str) = "moves") := by decide +kernel
theorem jS : ¬ (("time_of" : Str) = "wheels") := by decide +kernel
theorem pF : ¬ (("time_of" : Str) = "far") := by decide +kernel
theorem kC : ¬ (("time_of" : Str) = "moves") := by decide +kernel
theorem lI : ¬ (("all_of" : Str) = "wheels") := by decide +kernel
theorem qK : ¬ (("all_of" : Str) = "far") := by decide +kernel
theorem nJ : ¬ (("all_of" : Str) = "moves") := by decide +kernel
theorem gp : ¬ (("check_waits" : Str) = "wheels") := by decide +kernel
theorem i5 : ¬ (("check_waits" : Str) = "far") := by decide +kernel
theorem g5 : ¬ (("check_waits" : Str) = "moves") := by decide +kernel
set_option hygiene false in
local macro_rules | `(tactic| walk_at "lk") => `(tactic| first
 | assumption
 | (rw [vJ]; ((conv => lhs; simp only [look, reduceIte, uf, uv, uq, oY, tq, ou, pV, kK, nG, jK, xP, sA, vx, qX, wR, tV, uz, oF, oh, kA, qZ, m6, iU, hV, rJ, sM, tO, kM, qB, rE, qF, jI, tf, qS, uH, lF, tu, q9, sD, lH, lz, jx, kH, lq, lB, jw, kF, k9, gX, rg, oV, rF, rB, jv, nU, kD, m8, nk, iy, oR, mS, pG, pQ, jr, lg, jX, lA, lb, g7, qz, pW, qA, ro, jB, nI, kB, nN, nz, iu, qC, yh, uC, nQ, ua, oO, rG, mY, rK, nh, xV, tS, rl, sR, sH, oW, mZ, tW, i7, m9, jW, nj, jy, iZ, nR, jz, vt, qI, o1, vB, qy, ui, oZ, mQ, sG, pJ, mU, jJ, iK, mR, jT, m3, uA, o5, nH, jC, iS, nB, jG, nC, sT, oC, jO, p9, lj, kY, iQ, iw, ly, iN, qL, ym, tL, pB, vE, rD, rm, yb, tF, nK, tY, oI, jS, pF, kC, lI, qK, nJ, gp, i5, g5]) <;> exact rfl)))
set_option hygiene false in
local macro_rules | `(tactic| walk_at "put") => `(tactic| ((conv => lhs; simp only [iI, reduceIte, uf, uv, uq, oY, tq, ou, pV, kK, nG, jK, xP, sA, vx, qX, wR, tV, uz, oF, oh, kA, qZ, m6, iU, hV, rJ, sM, tO, kM, qB, rE, qF, jI, tf, qS, uH, lF, tu, q9, sD, lH, lz, jx, kH, lq, lB, jw, kF, k9, gX, rg, oV, rF, rB, jv, nU, kD, m8, nk, iy, oR, mS, pG, pQ, jr, lg, jX, lA, lb, g7, qz, pW, qA, ro, jB, nI, kB, nN, nz, iu, qC, yh, uC, nQ, ua, oO, rG, mY, rK, nh, xV, tS, rl, sR, sH, oW, mZ, tW, i7, m9, jW, nj, jy, iZ, nR, jz, vt, qI, o1, vB, qy, ui, oZ, mQ, sG, pJ, mU, jJ, iK, mR, jT, m3, uA, o5, nH, jC, iS, nB, jG, nC, sT, oC, jO, p9, lj, kY, iQ, iw, ly, iN, qL, ym, tL, pB, vE, rD, rm, yb, tF, nK, tY, oI, jS, pF, kC, lI, qK, nJ, gp, i5, g5]) <;> exact rfl))
structure o6 (K : PySem.W.Frag) (x q : Str) (s : Stmt) (d : Value) (f : Addr) : Prop where
 a : PySem.W.nsIn K mainGlobals x = some (some (.ref f))
 l : ∃ fd, bS K x q s f d fd
 k : PySem.W.keepIn K (.ref f) = true
structure gF (K : PySem.W.Frag) (C : Addr) (x q : Str) (s : Stmt) (d : Value) (f : Addr) : Prop where
 a : PySem.W.findIn K (.ref C) x = some (some (.ref f))
 l : ∃ fd, bS K x q s f d fd
 k : PySem.W.keepIn K (.ref f) = true
 i : PySem.W.isFn K (.ref f) = true
structure ND (K : PySem.W.Frag) (C : Addr) : Prop where
 pg : PySem.W.plainGet K C Str.empty = true
 hd : PySem.W.hasDictIn K C = true
 po : PySem.W.plainOver K C = true
 sa : PySem.W.findIn K (.ref C) "__setattr__" = some (some (.builtin "object.__setattr__"))
 t1 : PySem.W.findIn K (.ref C) "__class__" = some (some (.builtin "object.__class__"))
 t2 : PySem.W.mroIn K C (.type "object") = some true
 t3 : PySem.W.typeIn K (.ref C) = some (.type "type")
structure ExL (K : PySem.W.Frag) (C W : Addr) : Prop where
 ex : ∃ (nm q : Str) (N : Addr) (bs : List Value) (sn : List Str) (sub : List Value) (ab : Bool) (col : Option Bool) (dd : Option Addr) (k0 k1 k2 k3 k5 : Option Value), K.lookup C = some (excClassObj nm q C N bs (.ref W :: IV) true sn sub ab col dd k0 k1 k2 k3 k5 "ValueError.__new__")
theorem U5 {K : PySem.W.Frag} {C W : Addr} {nm q : Str} {N : Addr} {bs : List Value} {sn : List Str} {sub : List Value} {ab : Bool} {col : Option Bool} {dd : Option Addr} {k0 k1 k2 k3 k5 : Option Value} (l : K.lookup C = some (excClassObj nm q C N bs (.ref W :: IV) true sn sub ab col dd k0 k1 k2 k3 k5 "ValueError.__new__")) : ExL K C W := ⟨⟨_, _, _, _, _, _, _, _, _, _, _, _, _, _, l⟩⟩
theorem P7 {K : PySem.W.Frag} {t : Addr} {xs : Array Value} {n : Nat} {d : Option Addr} {z : Array (Option Value)} {c : Value} (l : K.lookup t = some ⟨c, d, .seq xs n, z⟩) : JI K t xs := ⟨⟨_, _, l, rfl⟩⟩
set_option genSizeOf false in
set_option genInjectivity false in
structure Ad where
 bM : Addr
 j0 : FuncData
 bz : Addr
 jd : FuncData
 aK : Addr
 dS : FuncData
 bY : Addr
 ck : Tok
 cq : Addr
 ub : FuncData
 bP : Addr
 qU : FuncData
 cw : Addr
 uh : FuncData
 bu : Addr
 oX : FuncData
 aU : Addr
 kT : FuncData
 a8 : Addr
 mP : FuncData
 aE : Addr
 gW : FuncData
 d5 : Addr
 sx : FuncData
 dY : Addr
 tI : FuncData
 c5 : Addr
 oN : FuncData
 ei : Addr
 vO : FuncData
 bR : Addr
 nO : FuncData
 dj : Addr
 ud : FuncData
 d6 : Addr
 vF : FuncData
 bO : Addr
 jA : FuncData
 c7 : Addr
 pP : FuncData
 b7 : Addr
 kG : FuncData
 cF : Addr
 mW : FuncData
 bN : Addr
 jZ : FuncData
 c3 : Addr
 oq : FuncData
 b8 : Addr
 lC : FuncData
 a0 : Addr
 fg : FuncData
 bL : Addr
 bU : Tok
 bB : Addr
 iV : FuncData
 cG : Addr
 mV : FuncData
 bD : Addr
 jk : FuncData
 cJ : Addr
 nS : FuncData
 bK : Addr
 jV : FuncData
 bf : Addr
 iz : FuncData
 cR : Addr
 rA : FuncData
 bW : Addr
 m7 : FuncData
 cW : Addr
 rC : FuncData
 cU : Addr
 qx : FuncData
 di : Addr
 tP : FuncData
 cz : Addr
 oK : FuncData
 du : Addr
 sC : FuncData
 dt : Addr
 tX : FuncData
 dq : Addr
 tK : FuncData
 cZ : Addr
 qV : FuncData
 cu : Addr
 pX : FuncData
 bh : Addr
 jR : FuncData
 rz : Addr
 Av : FuncData
 bC : Addr
 aL : Addr
 ak : Addr
 ag : Addr
 aA : Addr
 bZ : Addr
 aN : Addr
 aH : Addr
 bj : Addr
 eY : Tok
 gb : Tok
 eV : Tok
structure Txt (K : PySem.W.Frag) (mg : Str -> Option Value) (a : Ad) : Prop where
 gA : bS K "__init__" "Twice.__init__" gK a.bM (.none) a.j0
 fB : bS K "__init__" "NoBell.__init__" fF a.bz (.none) a.jd
 eA : bS K "__init__" "Waits.__init__" gG a.aK (.ref a.bY) a.dS
 gH : JI K a.bY #[(.int 0 a.ck)]
 pE : bS K "put" "Waits.put" pz a.cq (.none) a.ub
 mG : bS K "take" "Waits.take" lX a.bP (.none) a.qU
 pO : bS K "due" "Waits.due" jY a.cw (.none) a.uh
 j6 : bS K "least" "Waits.least" ka a.bu (.none) a.oX
 ie : bS K "time_of" "Waits.time_of" ik a.aU (.none) a.kT
 iY : bS K "all_of" "Waits.all_of" fZ a.a8 (.none) a.mP
 eN : bS K "check_waits" "Waits.check_waits" eK a.aE (.none) a.gW
 pH : bS K "enter" "Row.enter" pN a.d5 (.none) a.sx
 oB : bS K "leave" "Row.leave" oU a.dY (.none) a.tI
 kg : bS K "pass_on" "Row.pass_on" gM a.c5 (.none) a.oN
 rV : bS K "is_whole" "is_whole" rO a.ei (.none) a.vO
 vA : PySem.W.keepIn K (.ref a.ei) = true
 vv : mg "is_whole" = some (.ref a.ei)
 i6 : bS K "check_rounds" "check_rounds" jq a.bR (.none) a.nO
 nA : PySem.W.keepIn K (.ref a.bR) = true
 m5 : mg "check_rounds" = some (.ref a.bR)
 pR : bS K "wheels_of" "wheels_of" pS a.dj (.none) a.ud
 sZ : PySem.W.keepIn K (.ref a.dj) = true
 ur : mg "wheels_of" = some (.ref a.dj)
 sg : bS K "place_in" "place_in" rT a.d6 (.none) a.vF
 oE : PySem.W.keepIn K (.ref a.d6) = true
 o3 : mg "place_in" = some (.ref a.d6)
 gs : bS K "__init__" "Wheel.__init__" gD a.bO (.none) a.jA
 km : bS K "holds" "Wheel.holds" ko a.c7 (.none) a.pP
 ia : bS K "slot_of" "Wheel.slot_of" ip a.b7 (.none) a.kG
 jo : bS K "lay_in" "Wheel.lay_in" i3 a.cF (.none) a.mW
 gv : bS K "lift_out" "Wheel.lift_out" gw a.bN (.none) a.jZ
 ku : bS K "empty" "Wheel.empty" ki a.c3 (.none) a.oq
 ib : bS K "let_out" "Wheel.let_out" ig a.b8 (.none) a.lC
 dR : bS K "__init__" "Wheels.__init__" fV a.a0 (.ref a.bL) a.fg
 fO : JI K a.bL #[(.int 0 a.bU)]
 fU : bS K "wheel_at" "Wheels.wheel_at" gf a.bB (.none) a.iV
 i9 : bS K "enter" "Wheels.enter" jj a.cG (.none) a.mV
 fC : bS K "lie_down" "Wheels.lie_down" fK a.bD (.none) a.jk
 iR : bS K "leave" "Wheels.leave" jb a.cJ (.none) a.nS
 gy : bS K "pass_on" "Wheels.pass_on" gI a.bK (.none) a.jV
 fk : bS K "come_near" "Wheels.come_near" fu a.bf (.none) a.iz
 lT : bS K "_law_whole" "_law_whole" mz a.cR (.none) a.rA
 qM : PySem.W.keepIn K (.ref a.cR) = true
 rh : mg "_law_whole" = some (.ref a.cR)
 jm : bS K "_law_cell_at" "_law_cell_at" iX a.bW (.none) a.m7
 b9 : PySem.W.keepIn K (.ref a.bW) = true
 cb : mg "_law_cell_at" = some (.ref a.bW)
 mM : bS K "_law_drawn" "_law_drawn" lV a.cW (.none) a.rC
 rH : PySem.W.keepIn K (.ref a.cW) = true
 rM : mg "_law_drawn" = some (.ref a.cW)
 ml : bS K "_law_draws" "_law_draws" lO a.cU (.none) a.qx
 qQ : PySem.W.keepIn K (.ref a.cU) = true
 qY : mg "_law_draws" = some (.ref a.cU)
 oi : bS K "_law_word" "_law_word" p4 a.di (.none) a.tP
 uy : PySem.W.keepIn K (.ref a.di) = true
 um : mg "_law_word" = some (.ref a.di)
 kh : bS K "_law_rounds" "_law_rounds" eQ a.cz (.none) a.oK
 jn : PySem.W.keepIn K (.ref a.cz) = true
 iO : mg "_law_rounds" = some (.ref a.cz)
 ow : bS K "_law_name" "_law_name" oG a.du (.none) a.sC
 tQ : PySem.W.keepIn K (.ref a.du) = true
 sI : mg "_law_name" = some (.ref a.du)
 pL : bS K "_law_time" "_law_time" pj a.dt (.none) a.tX
 sV : PySem.W.keepIn K (.ref a.dt) = true
 tT : mg "_law_time" = some (.ref a.dt)
 pU : bS K "_law_deed" "_law_deed" oo a.dq (.none) a.tK
 tj : PySem.W.keepIn K (.ref a.dq) = true
 ux : mg "_law_deed" = some (.ref a.dq)
 mh : bS K "_law_asked" "_law_asked" mF a.cZ (.none) a.qV
 rn : PySem.W.keepIn K (.ref a.cZ) = true
 qJ : mg "_law_asked" = some (.ref a.cZ)
 kc : bS K "_law_rising" "_law_rising" ke a.cu (.none) a.pX
 iM : PySem.W.keepIn K (.ref a.cu) = true
 jl : mg "_law_rising" = some (.ref a.cu)
 gx : bS K "_law_stands_as" "_law_stands_as" gq a.bh (.none) a.jR
 jU : PySem.W.keepIn K (.ref a.bh) = true
 jQ : mg "_law_stands_as" = some (.ref a.bh)
 Ln : bS K "law" "law" Fn a.rz (.none) a.Av
 Lk : mg "law" = some (.ref a.rz)
 tN : mg "Waits" = some (.ref a.bC)
 Ey : mg "Row" = some (.ref a.aL)
 bX : su K a.aL
 dw : bp K a.aL "now"
 dz : bp K a.aL "times"
 Jm : Mk K a.aL a.aK
 vw : Meth K a.aL "enter" a.d5
 vn : Meth K a.aL "leave" a.dY
 rq : Meth K a.aL "pass_on" a.c5
 zt : Meth K a.aL "put" a.cq
 xg : Meth K a.aL "take" a.bP
 zQ : Meth K a.aL "due" a.cw
 px : Meth K a.aL "least" a.bu
 kn : Meth K a.aL "time_of" a.aU
 fG : Meth K a.aL "all_of" a.a8
 jM : Meth K a.aL "check_waits" a.aE
 J9 : Dy K a.aL
 iE : PySem.W.kitOne K (.ref a.aL) (.ref a.bC) = some true
 Ci : mg "Wheel" = some (.ref a.ak)
 bE : su K a.ak
 eT : bp K a.ak "unit"
 d8 : bp K a.ak "slots"
 dH : bp K a.ak "span"
 cn : bp K a.ak "mask"
 bA : bp K a.ak "names_in"
 Fs : Mk K a.ak a.bO
 j5 : Meth K a.ak "holds" a.c7
 fb : Meth K a.ak "slot_of" a.b7
 pA : Meth K a.ak "lay_in" a.cF
 kO : Meth K a.ak "lift_out" a.bN
 kq : Meth K a.ak "empty" a.c3
 nD : Meth K a.ak "let_out" a.b8
 kN : mg "Wheels" = some (.ref a.ag)
 aF : su K a.ag
 bq : bp K a.ag "now"
 b5 : bp K a.ag "times"
 aX : bp K a.ag "wheels"
 c6 : bp K a.ag "far"
 cf : bp K a.ag "moves"
 p7 : Mk K a.ag a.a0
 fX : Meth K a.ag "wheel_at" a.bB
 pZ : Meth K a.ag "enter" a.cG
 fP : Meth K a.ag "lie_down" a.bD
 ph : Meth K a.ag "leave" a.cJ
 k6 : Meth K a.ag "pass_on" a.bK
 iJ : Meth K a.ag "come_near" a.bf
 sy : Meth K a.ag "put" a.cq
 qW : Meth K a.ag "take" a.bP
 tG : Meth K a.ag "due" a.cw
 jg : Meth K a.ag "least" a.bu
 gJ : Meth K a.ag "time_of" a.aU
 dC : Meth K a.ag "all_of" a.a8
 g4 : Meth K a.ag "check_waits" a.aE
 zo : Dy K a.ag
 eX : PySem.W.kitOne K (.ref a.ag) (.ref a.bC) = some true
 ve : mg "NoBell" = some (.ref a.aA)
 oS : mg "NoRounds" = some (.ref a.bZ)
 ja : DN K a.bZ
 wI : mg "Past" = some (.ref a.aN)
 uM : DN K a.aN
 wY : mg "Twice" = some (.ref a.aH)
 my : mg "WakeError" = some (.ref a.bj)
 lG : GJ K a.aA a.bj a.bz
 kJ : PySem.W.mroIn K a.aA (.ref a.aA) = some true
 ng : PySem.W.mroIn K a.aA (.ref a.aH) = some false
 pT : PySem.W.mroIn K a.aN (.ref a.aA) = some false
 uE : PySem.W.mroIn K a.aN (.ref a.aN) = some true
 qD : PySem.W.mroIn K a.aN (.ref a.aH) = some false
 qg : GJ K a.aH a.bj a.bM
 pD : PySem.W.mroIn K a.aH (.ref a.aH) = some true
 mE : QR K a.bj
 lE : Gx K a.bC "__init__" a.aK
 p5 : mg "LEAST_ROUND" = some (.int 2 a.eY)
 qR : mg "MOST_ROUND" = some (.int 60 a.gb)
 oM : mg "MOST_WHEELS" = some (.int 6 a.eV)
 sO : mg "bool" = none
 fW : mg "enumerate" = none
 xN : mg "int" = none
 aV : mg "isinstance" = none
 hZ : mg "len" = none
 qf : mg "list" = none
 xD : mg "max" = none
 Br : mg "min" = none
 gU : mg "range" = none
 kP : mg "sorted" = none
 t5 : mg "tuple" = none
theorem UN {K : PySem.W.Frag} {h : Heap} {mg : Str -> Option Value} {bM bz aK bY cq bP cw bu aU a8 aE d5 dY c5 ei bR dj d6 bO c7 b7 cF bN c3 b8 a0 bL bB cG bD cJ bK bf cR bW cW cU di cz du dt dq cZ cu bh rz bC aL ak ag aA bZ aN aH bj : Addr} {ck bU eY gb eV : Tok}  (X : K.In h) (G : h.Ns mainGlobals mg)
 (Kk : PySem.W.nsIn K mainGlobals "Waits" = some (some (.ref bC)))
 (Rt : PySem.W.nsIn K mainGlobals "Row" = some (some (.ref aL)))
 (KQ : PySem.W.nsIn K mainGlobals "Wheel" = some (some (.ref ak)))
 (Hw : PySem.W.nsIn K mainGlobals "Wheels" = some (some (.ref ag)))
 (Iu : PySem.W.nsIn K mainGlobals "NoBell" = some (some (.ref aA)))
 (Ck : PySem.W.nsIn K mainGlobals "NoRounds" = some (some (.ref bZ)))
 (NI : PySem.W.nsIn K mainGlobals "Past" = some (some (.ref aN)))
 (LQ : PySem.W.nsIn K mainGlobals "Twice" = some (some (.ref aH)))
 (AO : PySem.W.nsIn K mainGlobals "WakeError" = some (some (.ref bj)))
 (Y6 : PySem.W.specialIn K (.builtin "object.__class__") "__get__" = some (some (.builtin "getset_descriptor.__get__")))
 (VD : PySem.W.takesIn K (.builtin "object.__class__") = some true)
 (ej : gF K aH "__init__" "Twice.__init__" gK (.none) bM)
 (dO : gF K aA "__init__" "NoBell.__init__" fF (.none) bz)
 (ek : gF K bC "__init__" "Waits.__init__" gG (.ref bY) aK)
 (uT : JI K bY #[(.int 0 ck)])
 (fv : gF K bC "put" "Waits.put" pz (.none) cq)
 (eD : gF K bC "take" "Waits.take" lX (.none) bP)
 (fz : gF K bC "due" "Waits.due" jY (.none) cw)
 (dI : gF K bC "least" "Waits.least" ka (.none) bu)
 (cQ : gF K bC "time_of" "Waits.time_of" ik (.none) aU)
 (dg : gF K bC "all_of" "Waits.all_of" fZ (.none) a8)
 (bF : gF K bC "check_waits" "Waits.check_waits" eK (.none) aE)
 (gY : gF K aL "enter" "Row.enter" pN (.none) d5)
 (hJ : gF K aL "leave" "Row.leave" oU (.none) dY)
 (eU : gF K aL "pass_on" "Row.pass_on" gM (.none) c5)
 (mr : o6 K "is_whole" "is_whole" rO (.none) ei)
 (fD : o6 K "check_rounds" "check_rounds" jq (.none) bR)
 (j3 : o6 K "wheels_of" "wheels_of" pS (.none) dj)
 (lW : o6 K "place_in" "place_in" rT (.none) d6)
 (et : gF K ak "__init__" "Wheel.__init__" gD (.none) bO)
 (eR : gF K ak "holds" "Wheel.holds" ko (.none) c7)
 (dF : gF K ak "slot_of" "Wheel.slot_of" ip (.none) b7)
 (eh : gF K ak "lay_in" "Wheel.lay_in" i3 (.none) cF)
 (df : gF K ak "lift_out" "Wheel.lift_out" gw (.none) bN)
 (eO : gF K ak "empty" "Wheel.empty" ki (.none) c3)
 (dE : gF K ak "let_out" "Wheel.let_out" ig (.none) b8)
 (dW : gF K ag "__init__" "Wheels.__init__" fV (.ref bL) a0)
 (sS : JI K bL #[(.int 0 bU)])
 (cS : gF K ag "wheel_at" "Wheels.wheel_at" gf (.none) bB)
 (dZ : gF K ag "enter" "Wheels.enter" jj (.none) cG)
 (cY : gF K ag "lie_down" "Wheels.lie_down" fK (.none) bD)
 (d7 : gF K ag "leave" "Wheels.leave" jb (.none) cJ)
 (de : gF K ag "pass_on" "Wheels.pass_on" gI (.none) bK)
 (cE : gF K ag "come_near" "Wheels.come_near" fu (.none) bf)
 (iA : o6 K "_law_whole" "_law_whole" mz (.none) cR)
 (fN : o6 K "_law_cell_at" "_law_cell_at" iX (.none) bW)
 (iD : o6 K "_law_drawn" "_law_drawn" lV (.none) cW)
 (iH : o6 K "_law_draws" "_law_draws" lO (.none) cU)
 (jL : o6 K "_law_word" "_law_word" p4 (.none) di)
 (gL : o6 K "_law_rounds" "_law_rounds" eQ (.none) cz)
 (j1 : o6 K "_law_name" "_law_name" oG (.none) du)
 (jD : o6 K "_law_time" "_law_time" pj (.none) dt)
 (jN : o6 K "_law_deed" "_law_deed" oo (.none) dq)
 (iC : o6 K "_law_asked" "_law_asked" mF (.none) cZ)
 (gR : o6 K "_law_rising" "_law_rising" ke (.none) cu)
 (eF : o6 K "_law_stands_as" "_law_stands_as" gq (.none) bh)
 (KJ : o6 K "law" "law" Fn (.none) rz)
 (tJ : ND K bC)
 (bX : ND K aL)
 (dw : PySem.W.findIn K (.ref aL) "now" = some none)
 (dz : PySem.W.findIn K (.ref aL) "times" = some none)
 (Ti : PySem.W.makesIn K aL = true)
 (Ta : PySem.W.keepIn K (.ref aL) = true)
 (R7 : PySem.W.findIn K (.ref aL) "__init__" = some (some (.ref aK)))
 (Ef : PySem.W.findIn K (.ref aL) "put" = some (some (.ref cq)))
 (Ds : PySem.W.findIn K (.ref aL) "take" = some (some (.ref bP)))
 (D0 : PySem.W.findIn K (.ref aL) "due" = some (some (.ref cw)))
 (Be : PySem.W.findIn K (.ref aL) "least" = some (some (.ref bu)))
 (wZ : PySem.W.findIn K (.ref aL) "time_of" = some (some (.ref aU)))
 (yX : PySem.W.findIn K (.ref aL) "all_of" = some (some (.ref a8)))
 (rY : PySem.W.findIn K (.ref aL) "check_waits" = some (some (.ref aE)))
 (iE : PySem.W.mroIn K aL (.ref bC) = some true)
 (bE : ND K ak)
 (eT : PySem.W.findIn K (.ref ak) "unit" = some none)
 (d8 : PySem.W.findIn K (.ref ak) "slots" = some none)
 (dH : PySem.W.findIn K (.ref ak) "span" = some none)
 (cn : PySem.W.findIn K (.ref ak) "mask" = some none)
 (bA : PySem.W.findIn K (.ref ak) "names_in" = some none)
 (J0 : PySem.W.makesIn K ak = true)
 (KP : PySem.W.keepIn K (.ref ak) = true)
 (aF : ND K ag)
 (bq : PySem.W.findIn K (.ref ag) "now" = some none)
 (b5 : PySem.W.findIn K (.ref ag) "times" = some none)
 (aX : PySem.W.findIn K (.ref ag) "wheels" = some none)
 (c6 : PySem.W.findIn K (.ref ag) "far" = some none)
 (cf : PySem.W.findIn K (.ref ag) "moves" = some none)
 (IH : PySem.W.makesIn K ag = true)
 (GV : PySem.W.keepIn K (.ref ag) = true)
 (y9 : PySem.W.findIn K (.ref ag) "put" = some (some (.ref cq)))
 (wV : PySem.W.findIn K (.ref ag) "take" = some (some (.ref bP)))
 (y3 : PySem.W.findIn K (.ref ag) "due" = some (some (.ref cw)))
 (vT : PySem.W.findIn K (.ref ag) "least" = some (some (.ref bu)))
 (sP : PySem.W.findIn K (.ref ag) "time_of" = some (some (.ref aU)))
 (uO : PySem.W.findIn K (.ref ag) "all_of" = some (some (.ref a8)))
 (nW : PySem.W.findIn K (.ref ag) "check_waits" = some (some (.ref aE)))
 (eX : PySem.W.mroIn K ag (.ref bC) = some true)
 (Hl : ExL K aA bj)
 (Ii : PySem.W.mroIn K aA (.type "object") = some true)
 (ja : PySem.W.excIn K bZ [.type "ValueError", .type "Exception", .type "BaseException", .type "object"] "ValueError.__new__" = true)
 (uM : PySem.W.excIn K aN [.type "ValueError", .type "Exception", .type "BaseException", .type "object"] "ValueError.__new__" = true)
 (KA : ExL K aH bj)
 (JW : PySem.W.mroIn K aH (.type "object") = some true)
 (vy : PySem.W.excIn K bj [.type "ValueError", .type "Exception", .type "BaseException", .type "object"] "ValueError.__new__" = true)
 (HR : PySem.W.findIn K (.ref aA) "__getattribute__" = some (some (.builtin "BaseException.__getattribute__")))
 (HK : PySem.W.findIn K (.ref aA) "__getattr__" = some none)
 (HL : PySem.W.mroIn K aA (.type "BaseException") = some true)
 (GU : PySem.W.hasDictIn K aA = true)
 (HQ : PySem.W.findIn K (.ref aA) "__class__" = some (some (.builtin "object.__class__")))
 (HH : PySem.W.findIn K (.ref aA) "__setattr__" = some (some (.builtin "object.__setattr__")))
 (Hr : PySem.W.takerIn K aA "name" = some none)
 (Hg : PySem.W.findIn K (.ref aA) "name" = some none)
 (uZ : PySem.W.mroIn K aA (.ref aA) = some true)
 (vX : PySem.W.mroIn K aA (.ref aH) = some false)
 (xX : PySem.W.mroIn K aN (.ref aA) = some false)
 (AK : PySem.W.mroIn K aN (.ref aN) = some true)
 (za : PySem.W.mroIn K aN (.ref aH) = some false)
 (KU : PySem.W.findIn K (.ref aH) "__getattribute__" = some (some (.builtin "BaseException.__getattribute__")))
 (Ke : PySem.W.findIn K (.ref aH) "__getattr__" = some none)
 (K2 : PySem.W.mroIn K aH (.type "BaseException") = some true)
 (Le : PySem.W.hasDictIn K aH = true)
 (J1 : PySem.W.findIn K (.ref aH) "__class__" = some (some (.builtin "object.__class__")))
 (K1 : PySem.W.findIn K (.ref aH) "__setattr__" = some (some (.builtin "object.__setattr__")))
 (Jt : PySem.W.takerIn K aH "name" = some none)
 (JB : PySem.W.findIn K (.ref aH) "name" = some none)
 (w5 : PySem.W.mroIn K aH (.ref aH) = some true)
 (yO : PySem.W.specialIn K (.ref bj) "__getattribute__" = some (some (.builtin "type.__getattribute__")))
 (y7 : PySem.W.readsIn K bj (.type "type") = true)
 (yN : PySem.W.findCls K (.ref bj) (.type "type") "__init__" = some (.val (.builtin "ValueError.__init__")))
 (tM : PySem.W.specialIn K (.ref bC) "__getattribute__" = some (some (.builtin "type.__getattribute__")))
 (tZ : PySem.W.readsIn K bC (.type "type") = true)
 (tH : PySem.W.findCls K (.ref bC) (.type "type") "__init__" = some (.val (.ref aK)))
 (yC : PySem.W.nsIn K mainGlobals "LEAST_ROUND" = some (some (.int 2 eY)))
 (zb : PySem.W.nsIn K mainGlobals "MOST_ROUND" = some (some (.int 60 gb)))
 (xR : PySem.W.nsIn K mainGlobals "MOST_WHEELS" = some (some (.int 6 eV)))
 (sO : PySem.W.nsIn K mainGlobals "bool" = some none)
 (fW : PySem.W.nsIn K mainGlobals "enumerate" = some none)
 (xN : PySem.W.nsIn K mainGlobals "int" = some none)
 (aV : PySem.W.nsIn K mainGlobals "isinstance" = some none)
 (hZ : PySem.W.nsIn K mainGlobals "len" = some none)
 (qf : PySem.W.nsIn K mainGlobals "list" = some none)
 (xD : PySem.W.nsIn K mainGlobals "max" = some none)
 (Br : PySem.W.nsIn K mainGlobals "min" = some none)
 (gU : PySem.W.nsIn K mainGlobals "range" = some none)
 (kP : PySem.W.nsIn K mainGlobals "sorted" = some none)
 (t5 : PySem.W.nsIn K mainGlobals "tuple" = some none)
 : ∃ a : Ad, a.rz = a.rz /\ Txt K mg a :=
 ⟨⟨bM, ej.l.choose, bz, dO.l.choose, aK, ek.l.choose, bY, ck, cq, fv.l.choose, bP, eD.l.choose, cw, fz.l.choose, bu, dI.l.choose, aU, cQ.l.choose, a8, dg.l.choose, aE, bF.l.choose, d5, gY.l.choose, dY, hJ.l.choose, c5, eU.l.choose, ei, mr.l.choose, bR, fD.l.choose, dj, j3.l.choose, d6, lW.l.choose, bO, et.l.choose, c7, eR.l.choose, b7, dF.l.choose, cF, eh.l.choose, bN, df.l.choose, c3, eO.l.choose, b8, dE.l.choose, a0, dW.l.choose, bL, bU, bB, cS.l.choose, cG, dZ.l.choose, bD, cY.l.choose, cJ, d7.l.choose, bK, de.l.choose, bf, cE.l.choose, cR, iA.l.choose, bW, fN.l.choose, cW, iD.l.choose, cU, iH.l.choose, di, jL.l.choose, cz, gL.l.choose, du, j1.l.choose, dt, jD.l.choose, dq, jN.l.choose, cZ, iC.l.choose, cu, gR.l.choose, bh, eF.l.choose, rz, KJ.l.choose, bC, aL, ak, ag, aA, bZ, aN, aH, bj, eY, gb, eV⟩, rfl, {
   gA := ej.l.choose_spec,
   fB := dO.l.choose_spec,
   eA := ek.l.choose_spec,
   gH := uT,
   pE := fv.l.choose_spec,
   mG := eD.l.choose_spec,
   pO := fz.l.choose_spec,
   j6 := dI.l.choose_spec,
   ie := cQ.l.choose_spec,
   iY := dg.l.choose_spec,
   eN := bF.l.choose_spec,
   pH := gY.l.choose_spec,
   oB := hJ.l.choose_spec,
   kg := eU.l.choose_spec,
   rV := mr.l.choose_spec,
   vA := mr.k,
   vv := PySem.W.mg_of X G mr.a,
   i6 := fD.l.choose_spec,
   nA := fD.k,
   m5 := PySem.W.mg_of X G fD.a,
   pR := j3.l.choose_spec,
   sZ := j3.k,
   ur := PySem.W.mg_of X G j3.a,
   sg := lW.l.choose_spec,
   oE := lW.k,
   o3 := PySem.W.mg_of X G lW.a,
   gs := et.l.choose_spec,
   km := eR.l.choose_spec,
   ia := dF.l.choose_spec,
   jo := eh.l.choose_spec,
   gv := df.l.choose_spec,
   ku := eO.l.choose_spec,
   ib := dE.l.choose_spec,
   dR := dW.l.choose_spec,
   fO := sS,
   fU := cS.l.choose_spec,
   i9 := dZ.l.choose_spec,
   fC := cY.l.choose_spec,
   iR := d7.l.choose_spec,
   gy := de.l.choose_spec,
   fk := cE.l.choose_spec,
   lT := iA.l.choose_spec,
   qM := iA.k,
   rh := PySem.W.mg_of X G iA.a,
   jm := fN.l.choose_spec,
   b9 := fN.k,
   cb := PySem.W.mg_of X G fN.a,
   mM := iD.l.choose_spec,
   rH := iD.k,
   rM := PySem.W.mg_of X G iD.a,
   ml := iH.l.choose_spec,
   qQ := iH.k,
   qY := PySem.W.mg_of X G iH.a,
   oi := jL.l.choose_spec,
   uy := jL.k,
   um := PySem.W.mg_of X G jL.a,
   kh := gL.l.choose_spec,
   jn := gL.k,
   iO := PySem.W.mg_of X G gL.a,
   ow := j1.l.choose_spec,
   tQ := j1.k,
   sI := PySem.W.mg_of X G j1.a,
   pL := jD.l.choose_spec,
   sV := jD.k,
   tT := PySem.W.mg_of X G jD.a,
   pU := jN.l.choose_spec,
   tj := jN.k,
   ux := PySem.W.mg_of X G jN.a,
   mh := iC.l.choose_spec,
   rn := iC.k,
   qJ := PySem.W.mg_of X G iC.a,
   kc := gR.l.choose_spec,
   iM := gR.k,
   jl := PySem.W.mg_of X G gR.a,
   gx := eF.l.choose_spec,
   jU := eF.k,
   jQ := PySem.W.mg_of X G eF.a,
   Ln := KJ.l.choose_spec,
   Lk := PySem.W.mg_of X G KJ.a,
   tN := PySem.W.mg_of X G Kk,
   Ey := PySem.W.mg_of X G Rt,
   bX := ⟨bX.pg, bX.hd, bX.po, bX.sa⟩,
   dw := dw,
   dz := dz,
   Jm := ⟨Ti, R7, ek.i, Ta⟩,
   vw := ⟨gY.a, gY.i, gY.k⟩,
   vn := ⟨hJ.a, hJ.i, hJ.k⟩,
   rq := ⟨eU.a, eU.i, eU.k⟩,
   zt := ⟨Ef, fv.i, fv.k⟩,
   xg := ⟨Ds, eD.i, eD.k⟩,
   zQ := ⟨D0, fz.i, fz.k⟩,
   px := ⟨Be, dI.i, dI.k⟩,
   kn := ⟨wZ, cQ.i, cQ.k⟩,
   fG := ⟨yX, dg.i, dg.k⟩,
   jM := ⟨rY, bF.i, bF.k⟩,
   J9 := ⟨bX.t1, Y6, VD, bX.t2⟩,
   iE := GD tJ.t2 tJ.t3 iE,
   Ci := PySem.W.mg_of X G KQ,
   bE := ⟨bE.pg, bE.hd, bE.po, bE.sa⟩,
   eT := eT,
   d8 := d8,
   dH := dH,
   cn := cn,
   bA := bA,
   Fs := ⟨J0, et.a, et.i, KP⟩,
   j5 := ⟨eR.a, eR.i, eR.k⟩,
   fb := ⟨dF.a, dF.i, dF.k⟩,
   pA := ⟨eh.a, eh.i, eh.k⟩,
   kO := ⟨df.a, df.i, df.k⟩,
   kq := ⟨eO.a, eO.i, eO.k⟩,
   nD := ⟨dE.a, dE.i, dE.k⟩,
   kN := PySem.W.mg_of X G Hw,
   aF := ⟨aF.pg, aF.hd, aF.po, aF.sa⟩,
   bq := bq,
   b5 := b5,
   aX := aX,
   c6 := c6,
   cf := cf,
   p7 := ⟨IH, dW.a, dW.i, GV⟩,
   fX := ⟨cS.a, cS.i, cS.k⟩,
   pZ := ⟨dZ.a, dZ.i, dZ.k⟩,
   fP := ⟨cY.a, cY.i, cY.k⟩,
   ph := ⟨d7.a, d7.i, d7.k⟩,
   k6 := ⟨de.a, de.i, de.k⟩,
   iJ := ⟨cE.a, cE.i, cE.k⟩,
   sy := ⟨y9, fv.i, fv.k⟩,
   qW := ⟨wV, eD.i, eD.k⟩,
   tG := ⟨y3, fz.i, fz.k⟩,
   jg := ⟨vT, dI.i, dI.k⟩,
   gJ := ⟨sP, cQ.i, cQ.k⟩,
   dC := ⟨uO, dg.i, dg.k⟩,
   g4 := ⟨nW, bF.i, bF.k⟩,
   zo := ⟨aF.t1, Y6, VD, aF.t2⟩,
   eX := GD tJ.t2 tJ.t3 eX,
   ve := PySem.W.mg_of X G Iu,
   oS := PySem.W.mg_of X G Ck,
   ja := ja,
   wI := PySem.W.mg_of X G NI,
   uM := uM,
   wY := PySem.W.mg_of X G LQ,
   my := PySem.W.mg_of X G AO,
   lG := ⟨Hl.ex, vy, dO.a, dO.i, ⟨HR, HK, HL, GU, ⟨HQ, Y6, VD, Ii⟩⟩, HH, Hr, Hg⟩,
   kJ := uZ,
   ng := vX,
   pT := xX,
   uE := AK,
   qD := za,
   qg := ⟨KA.ex, vy, ej.a, ej.i, ⟨KU, Ke, K2, Le, ⟨J1, Y6, VD, JW⟩⟩, K1, Jt, JB⟩,
   pD := w5,
   mE := ⟨yO, y7, yN⟩,
   lE := ⟨tM, tZ, tH, ek.k⟩,
   p5 := PySem.W.mg_of X G yC,
   qR := PySem.W.mg_of X G zb,
   oM := PySem.W.mg_of X G xR,
   sO := PySem.W.mg_none_of X G sO,
   fW := PySem.W.mg_none_of X G fW,
   xN := PySem.W.mg_none_of X G xN,
   aV := PySem.W.mg_none_of X G aV,
   hZ := PySem.W.mg_none_of X G hZ,
   qf := PySem.W.mg_none_of X G qf,
   xD := PySem.W.mg_none_of X G xD,
   Br := PySem.W.mg_none_of X G Br,
   gU := PySem.W.mg_none_of X G gU,
   kP := PySem.W.mg_none_of X G kP,
   t5 := PySem.W.mg_none_of X G t5
 }⟩
theorem Txt.uw {K : PySem.W.Frag} {mg : Str -> Option Value} {a : Ad} (T : Txt K mg a) : Bn K a.aA := GJ.o T.lG
theorem Txt.A6 {K : PySem.W.Frag} {mg : Str -> Option Value} {a : Ad} (T : Txt K mg a) : Bn K a.aN := DN.o T.uM
theorem Txt.Bt {K : PySem.W.Frag} {mg : Str -> Option Value} {a : Ad} (T : Txt K mg a) : Bn K a.aH := GJ.o T.qg
theorem Txt.j2 {K : PySem.W.Frag} {mg : Str -> Option Value} {a : Ad} (T : Txt K mg a) : D3 K a.aA a.aA true := ⟨T.uw, T.kJ⟩
theorem Txt.kX {K : PySem.W.Frag} {mg : Str -> Option Value} {a : Ad} (T : Txt K mg a) : D3 K a.aH a.aA false := ⟨T.uw, T.ng⟩
theorem Txt.eW {K : PySem.W.Frag} {mg : Str -> Option Value} {a : Ad} (T : Txt K mg a) : D3 K a.aA a.aN false := ⟨T.A6, T.pT⟩
theorem Txt.gQ {K : PySem.W.Frag} {mg : Str -> Option Value} {a : Ad} (T : Txt K mg a) : D3 K a.aN a.aN true := ⟨T.A6, T.uE⟩
theorem Txt.fY {K : PySem.W.Frag} {mg : Str -> Option Value} {a : Ad} (T : Txt K mg a) : D3 K a.aH a.aN false := ⟨T.A6, T.qD⟩
theorem Txt.nF {K : PySem.W.Frag} {mg : Str -> Option Value} {a : Ad} (T : Txt K mg a) : D3 K a.aH a.aH true := ⟨T.Bt, T.pD⟩
def LN (K : PySem.W.Frag) : Sp := fun vs H Q _ => ∃ (l : Addr) (ns : List Int), vs = [.ref l] /\ fj K H l (ns.map V.int) /\ ns.length <= 63 /\ ∀ H', Q (.bl true) H'
theorem p6 {α : Type} [DecidableEq α] : ∀ {l l' : List α}, l.Nodup -> (∀ x ∈ l, x ∈ l') -> l.length <= l'.length
 | [], _, _, _ => Nat.zero_le _
 | a :: l, l', h, hs => by
   rw [List.nodup_cons] at h
   have ha := hs a List.mem_cons_self
   have := p6 (l := l) (l' := l'.erase a) h.2 fun x hx => (List.mem_erase_of_ne (fun z : x = a => h.1 (z ▸ hx))).mpr (hs x (List.mem_cons_of_mem _ hx))
   rw [List.length_erase_of_mem ha] at this
   have := List.length_pos_of_mem ha
   simp only [List.length_cons]
   omega
theorem OS {α : Type} {A B X Y : List α} (h : (A ++ (X ++ B)).Nodup) (hy : Y.Nodup) (hs : ∀ b ∈ Y, b ∈ X \/ (b ∉ A /\ b ∉ B)) : (A ++ (Y ++ B)).Nodup := by
 simp only [List.nodup_append, List.mem_append] at h ⊢
 obtain ⟨h1, ⟨h2, h3, h4⟩, h5⟩ := h
 refine ⟨h1, ⟨hy, h3, fun a ha b hb e => ?_⟩, fun a ha b hb e => ?_⟩
 . rcases hs a ha with q | ⟨_, q⟩
   . exact h4 a q b hb e
   . exact q (e ▸ hb)
 . rcases hb with hb | hb
   . rcases hs b hb with q | ⟨q, _⟩
     . exact h5 a ha b (.inl q) e
     . exact q (e ▸ ha)
   . exact h5 a ha b (.inr hb) e
theorem bV {S S' : List Addr} {H H' : Hp} (m : Mv S H H') (h : ∀ b ∈ S, b ∈ S') : Mv S' H H' := ⟨fun a o n e => m.kp a o (fun z => n (h a z)) e, m.tp, m.dm⟩
def fh (us : List (Int × Int)) (t n : Int) : Nat := us.findIdx fun q => decide (t / (q.1 * q.2) = n / (q.1 * q.2))
theorem sj (us : List (Int × Int)) (t n : Int) : fh us t n <= us.length := List.findIdx_le_length
theorem BI {us : List (Int × Int)} {t n : Int} {k : Nat} {q : Int × Int} (h : k < fh us t n) (hq : us[k]? = some q) : ¬ t / (q.1 * q.2) = n / (q.1 * q.2) := by
 obtain ⟨hk, rfl⟩ := List.getElem?_eq_some_iff.mp hq
 have := List.not_of_lt_findIdx h
 simpa using this
theorem wD {us : List (Int × Int)} {t n : Int} {q : Int × Int} (hq : us[fh us t n]? = some q) : t / (q.1 * q.2) = n / (q.1 * q.2) := by
 obtain ⟨hk, rfl⟩ := List.getElem?_eq_some_iff.mp hq
 have := List.findIdx_getElem (w := hk)
 unfold fh
 simpa using this
theorem A2 {us : List (Int × Int)} {t n : Int} {k : Nat} (h1 : ∀ j q, j < k -> us[j]? = some q -> ¬ t / (q.1 * q.2) = n / (q.1 * q.2)) (h2 : k = us.length \/ ∃ q, us[k]? = some q /\ t / (q.1 * q.2) = n / (q.1 * q.2)) : fh us t n = k := by
 have hle := sj us t n
 have hk : k <= us.length := by
  rcases h2 with h | ⟨q, h, _⟩
  . omega
  . exact Nat.le_of_lt (List.getElem?_eq_some_iff.mp h).1
 by_cases c : fh us t n < k
 . have hl : fh us t n < us.length := by omega
   exact absurd (wD (List.getElem?_eq_getElem hl)) (h1 _ _ c (List.getElem?_eq_getElem hl))
 . by_cases c2 : k < fh us t n
   . rcases h2 with h | ⟨q, h, e⟩
     . omega
     . exact absurd e (BI c2 h)
   . omega
structure Sl where
 k : Int
 p : Addr
 ns : List Str
structure Wh where
 x : Addr
 dn : Addr
 u : Int
 s : Int
 m : Int
 cs : List Sl
structure dU where
 q : Addr
 f : Addr
 ws : List Wh
 dc : List (Int × Str)
def fq (w : Wh) : Prop := 0 <= w.m /\ ∀ i : Nat, w.m.toNat.testBit i = w.cs.any fun c => decide (c.k = (i : Int))
structure MV (w : Wh) (B : Str -> Int -> Prop) : Prop where
 mk' : fq w
 nd : (w.cs.map (·.k)).Nodup
 ne : ∀ c ∈ w.cs, c.ns ≠ [] /\ c.ns.Nodup /\ 0 <= c.k /\ c.k < w.s
 mem : ∀ n j, (∃ c ∈ w.cs, c.k = j /\ n ∈ c.ns) ↔ B n j
theorem MV.congr {w : Wh} {B B' : Str -> Int -> Prop} (h : MV w B) (e : ∀ n j, B n j ↔ B' n j) : MV w B' := ⟨h.mk', h.nd, h.ne, fun n j => (h.mem n j).trans (e n j)⟩
def mC (slot : Int) (x : Str) (c : Sl) : Sl := if c.k = slot then ⟨c.k, c.p, c.ns ++ [x]⟩ else c
def nX (cs : List Sl) (slot : Int) (pd : Addr) (x : Str) : List Sl := if (cs.any fun c => decide (c.k = slot)) = true then cs.map (mC slot x) else cs ++ [⟨slot, pd, [x]⟩]
def c9 (slot : Int) (x : Str) (c : Sl) : Sl := if c.k = slot then ⟨c.k, c.p, c.ns.filter fun y => !decide (y = x)⟩ else c
def iW (cs : List Sl) (slot : Int) : List Sl := cs.filter fun c => !decide (c.k = slot)
def vR (cs : List Sl) (slot : Int) (x : Str) : List Sl := (cs.map (c9 slot x)).filter fun c => !c.ns.isEmpty
theorem mI (slot : Int) (x : Str) (c : Sl) : (mC slot x c).k = c.k := by unfold mC; split <;> rfl
theorem E1 (slot : Int) (x : Str) (c : Sl) : (mC slot x c).p = c.p := by unfold mC; split <;> rfl
theorem eC (slot : Int) (x : Str) (c : Sl) : (c9 slot x c).k = c.k := by unfold c9; split <;> rfl
theorem AX (slot : Int) (x : Str) (c : Sl) : (c9 slot x c).p = c.p := by unfold c9; split <;> rfl
theorem g9 {cs : List Sl} {slot : Int} : (cs.any fun c => decide (c.k = slot)) = true ↔ ∃ c ∈ cs, c.k = slot := by
 rw [List.any_eq_true]
 exact ⟨fun ⟨c, h1, h2⟩ => ⟨c, h1, of_decide_eq_true h2⟩, fun ⟨c, h1, h2⟩ => ⟨c, h1, decide_eq_true h2⟩⟩
theorem MV.lay {w : Wh} {B : Str -> Int -> Prop} {x : Str} {slot m : Int} {pd : Addr} (h : MV w B) (hx : ∀ j, ¬ B x j) (h0 : 0 <= slot) (h1 : slot < w.s) (hm : fq ⟨w.x, w.dn, w.u, w.s, m, nX w.cs slot pd x⟩) :
 MV ⟨w.x, w.dn, w.u, w.s, m, nX w.cs slot pd x⟩ (fun y j => B y j \/ (y = x /\ j = slot)) := by
 have XG : ∀ c ∈ w.cs, x ∉ c.ns := fun c hc hm => hx c.k ((h.mem x c.k).mp ⟨c, hc, rfl, hm⟩)
 by_cases e : (w.cs.any fun c => decide (c.k = slot)) = true
 . have el : nX w.cs slot pd x = w.cs.map (mC slot x) := if_pos e
   refine ⟨hm, ?_, fun c hc => ?_, fun n j => ?_⟩
   . show ((nX w.cs slot pd x).map _).Nodup
     rw [el, List.map_map, show (Sl.k ∘ mC slot x) = Sl.k from funext (mI slot x)]; exact h.nd
   . have hc : c ∈ nX w.cs slot pd x := hc
     rw [el] at hc
     obtain ⟨c0, wz, rfl⟩ := List.mem_map.mp hc
     obtain ⟨a1, a2, a3, a4⟩ := h.ne c0 wz
     rw [mI]
     unfold mC
     split
     . refine ⟨by simp, ?_, a3, a4⟩
       show (c0.ns ++ [x]).Nodup
       rw [List.nodup_append]
       refine ⟨a2, by simp, fun a ha b hb => ?_⟩
       have hb : b = x := by simpa using hb
       exact fun z => XG c0 wz (hb ▸ z ▸ ha)
     . exact ⟨a1, a2, a3, a4⟩
   . show (∃ c ∈ nX w.cs slot pd x, _) ↔ _
     rw [el]
     constructor
     . rintro ⟨c, hc, hk, hn⟩
       obtain ⟨c0, wz, rfl⟩ := List.mem_map.mp hc
       rw [mI] at hk
       unfold mC at hn
       split at hn
       . rename_i hs
         rcases List.mem_append.mp hn with hn | hn
         . exact .inl ((h.mem n j).mp ⟨c0, wz, hk, hn⟩)
         . exact .inr ⟨by simpa using hn, by rw [<- hk, hs]⟩
       . exact .inl ((h.mem n j).mp ⟨c0, wz, hk, hn⟩)
     . rintro (hb | ⟨rfl, rfl⟩)
       . obtain ⟨c0, wz, hk, hn⟩ := (h.mem n j).mpr hb
         refine ⟨_, List.mem_map_of_mem wz, by rw [mI]; exact hk, ?_⟩
         unfold mC
         split
         . exact List.mem_append_left _ hn
         . exact hn
       . obtain ⟨c0, wz, hk⟩ := g9.mp e
         refine ⟨_, List.mem_map_of_mem wz, by rw [mI]; exact hk, ?_⟩
         unfold mC
         rw [if_pos hk]
         simp
 . have el : nX w.cs slot pd x = w.cs ++ [⟨slot, pd, [x]⟩] := if_neg e
   have jt : ∀ c ∈ w.cs, c.k ≠ slot := fun c hc z => e (g9.mpr ⟨c, hc, z⟩)
   refine ⟨hm, ?_, fun c hc => ?_, fun n j => ?_⟩
   . show ((nX w.cs slot pd x).map _).Nodup
     rw [el, List.map_append, List.nodup_append]
     refine ⟨h.nd, by simp, fun a ha b hb => ?_⟩
     obtain ⟨c, hc, rfl⟩ := List.mem_map.mp ha
     have hb : b = slot := by simpa using hb
     rw [hb]; exact jt c hc
   . have hc : c ∈ nX w.cs slot pd x := hc
     rw [el] at hc
     rcases List.mem_append.mp hc with hc | hc
     . exact h.ne c hc
     . have hc : c = ⟨slot, pd, [x]⟩ := by simpa using hc
       subst hc
       exact ⟨by simp, by simp, h0, h1⟩
   . show (∃ c ∈ nX w.cs slot pd x, _) ↔ _
     rw [el]
     constructor
     . rintro ⟨c, hc, hk, hn⟩
       rcases List.mem_append.mp hc with hc | hc
       . exact .inl ((h.mem n j).mp ⟨c, hc, hk, hn⟩)
       . have hc : c = ⟨slot, pd, [x]⟩ := by simpa using hc
         subst hc
         exact .inr ⟨by simpa using hn, hk.symm⟩
     . rintro (hb | ⟨rfl, rfl⟩)
       . obtain ⟨c, hc, hk, hn⟩ := (h.mem n j).mpr hb
         exact ⟨c, List.mem_append_left _ hc, hk, hn⟩
       . exact ⟨⟨j, pd, [n]⟩, List.mem_append_right _ (by simp), rfl, by simp⟩
theorem MV.lift {w : Wh} {B : Str -> Int -> Prop} {x : Str} {slot m : Int} (h : MV w B) (hu : ∀ j, B x j -> j = slot) (hm : fq ⟨w.x, w.dn, w.u, w.s, m, vR w.cs slot x⟩) :
 MV ⟨w.x, w.dn, w.u, w.s, m, vR w.cs slot x⟩ (fun y j => B y j /\ y ≠ x) := by
 refine ⟨hm, ?_, fun c hc => ?_, fun n j => ?_⟩
 . show ((vR w.cs slot x).map _).Nodup
   refine List.Nodup.sublist ((List.filter_sublist).map _) ?_
   rw [List.map_map, show (Sl.k ∘ c9 slot x) = Sl.k from funext (eC slot x)]; exact h.nd
 . have hc : c ∈ vR w.cs slot x := hc
   obtain ⟨Tb, IE⟩ := List.mem_filter.mp hc
   obtain ⟨c0, wz, rfl⟩ := List.mem_map.mp Tb
   obtain ⟨a1, a2, a3, a4⟩ := h.ne c0 wz
   rw [eC]
   refine ⟨by simpa using IE, ?_, a3, a4⟩
   unfold c9
   split
   . exact a2.sublist List.filter_sublist
   . exact a2
 . show (∃ c ∈ vR w.cs slot x, _) ↔ _
   constructor
   . rintro ⟨c, hc, hk, hn⟩
     obtain ⟨Tb, IE⟩ := List.mem_filter.mp hc
     obtain ⟨c0, wz, rfl⟩ := List.mem_map.mp Tb
     rw [eC] at hk
     unfold c9 at hn
     split at hn
     . obtain ⟨lQ, uG⟩ := List.mem_filter.mp hn
       exact ⟨(h.mem n j).mp ⟨c0, wz, hk, lQ⟩, by simpa using uG⟩
     . rename_i hs
       have hb := (h.mem n j).mp ⟨c0, wz, hk, hn⟩
       refine ⟨hb, fun z => hs ?_⟩
       rw [hk]
       exact hu j (z ▸ hb)
   . rintro ⟨hb, nZ⟩
     obtain ⟨c0, wz, hk, hn⟩ := (h.mem n j).mpr hb
     have AY : n ∈ (c9 slot x c0).ns := by
      unfold c9
      split
      . exact List.mem_filter.mpr ⟨hn, by simpa using nZ⟩
      . exact hn
     refine ⟨_, List.mem_filter.mpr ⟨List.mem_map_of_mem wz, ?_⟩, by rw [eC]; exact hk, AY⟩
     cases e : (c9 slot x c0).ns with
     | nil => rw [e] at AY; cases AY
     | cons => rfl
theorem B9 {cs Sv : List Sl} {i : Nat} (h : (∃ c ∈ cs, c.k = (i : Int)) ↔ ∃ c ∈ Sv, c.k = (i : Int)) : (cs.any fun c => decide (c.k = (i : Int))) = Sv.any fun c => decide (c.k = (i : Int)) := by
 rw [Bool.eq_iff_iff, g9, g9]; exact h
def Wh.t6 (w : Wh) (slot m : Int) (pd : Addr) (x : Str) : Wh := ⟨w.x, w.dn, w.u, w.s, m, nX w.cs slot pd x⟩
def Wh.iL (w : Wh) (slot m : Int) (x : Str) : Wh := ⟨w.x, w.dn, w.u, w.s, m, vR w.cs slot x⟩
def Wh.emptied (w : Wh) (slot m : Int) : Wh := ⟨w.x, w.dn, w.u, w.s, m, iW w.cs slot⟩
theorem Hs {cs : List Sl} {slot : Int} {pd : Addr} {x : Str} {j : Int} : (∃ c ∈ nX cs slot pd x, c.k = j) ↔ (∃ c ∈ cs, c.k = j) \/ j = slot := by
 unfold nX
 split
 . rename_i h
   constructor
   . rintro ⟨c, hc, e⟩
     obtain ⟨c0, wz, rfl⟩ := List.mem_map.mp hc
     rw [mI] at e
     exact .inl ⟨c0, wz, e⟩
   . rintro (⟨c, hc, e⟩ | rfl)
     . exact ⟨_, List.mem_map_of_mem hc, by rw [mI]; exact e⟩
     . obtain ⟨c, hc, e⟩ := g9.mp h
       exact ⟨_, List.mem_map_of_mem hc, by rw [mI]; exact e⟩
 . constructor
   . rintro ⟨c, hc, e⟩
     rcases List.mem_append.mp hc with hc | hc
     . exact .inl ⟨c, hc, e⟩
     . have : c = ⟨slot, pd, [x]⟩ := by simpa using hc
       subst this
       exact .inr e.symm
   . rintro (⟨c, hc, e⟩ | rfl)
     . exact ⟨c, List.mem_append_left _ hc, e⟩
     . exact ⟨_, List.mem_append_right _ (List.mem_singleton.mpr rfl), rfl⟩
theorem JV {w : Wh} {slot : Int} {pd : Addr} {x : Str} (h : fq w) (h0 : 0 <= slot) : fq (w.t6 slot (Builtin.bitOr w.m (1 * 2 ^ slot.toNat)) pd x) := by
 have hy : (0 : Int) <= 1 * 2 ^ slot.toNat := by rw [Int.one_mul]; exact Int.le_of_lt (Int.pow_pos (by decide))
 have e := zY h.1 hy
 refine ⟨by show 0 <= Builtin.bitOr w.m (1 * 2 ^ slot.toNat); rw [e]; omega, fun i => ?_⟩
 show (Builtin.bitOr w.m (1 * 2 ^ slot.toNat)).toNat.testBit i = (nX w.cs slot pd x).any _
 rw [e, Int.toNat_natCast, Iw, Nat.testBit_or, Nat.testBit_two_pow, h.2 i, Bool.eq_iff_iff, Bool.or_eq_true, g9, g9, Hs, decide_eq_true_eq]
 refine or_congr Iff.rfl ⟨fun z => by omega, fun z => by omega⟩
theorem wW {w : Wh} {slot : Int} {c : Sl} (h : fq w) (h0 : 0 <= slot) (hc : c ∈ w.cs) (hk : c.k = slot) : fq (w.emptied slot (Builtin.bitXor w.m (1 * 2 ^ slot.toNat))) := by
 have hb : w.m.toNat.testBit slot.toNat = true := by rw [h.2]; exact g9.mpr ⟨c, hc, by omega⟩
 have e := xJ h.1 hb
 refine ⟨by show 0 <= Builtin.bitXor w.m (1 * 2 ^ slot.toNat); rw [e]; omega, fun i => ?_⟩
 show (Builtin.bitXor w.m (1 * 2 ^ slot.toNat)).toNat.testBit i = (iW w.cs slot).any _
 rw [e, Int.toNat_natCast, vo hb, h.2 i, Bool.eq_iff_iff, Bool.and_eq_true, g9, g9, decide_eq_true_eq]
 unfold iW
 constructor
 . rintro ⟨⟨d, hd, e1⟩, e2⟩
   exact ⟨d, List.mem_filter.mpr ⟨hd, by simp; omega⟩, e1⟩
 . rintro ⟨d, hd, e1⟩
   obtain ⟨yG, hd2⟩ := List.mem_filter.mp hd
   have hd2 : ¬ d.k = slot := by simpa using hd2
   exact ⟨⟨d, yG, e1⟩, by omega⟩
structure GI (us : List (Int × Int)) (n : Int) (ts : List (Str × Int)) (G : dU) : Prop where
 eu : G.ws.map (fun w => (w.u, w.s)) = us
 wh : ∀ k w, G.ws[k]? = some w -> MV w fun x j => ∃ t, (x, t) ∈ ts /\ fh us t n = k /\ t / w.u % w.s = j
 dc : ∀ c, c ∈ G.dc ↔ (c.2, c.1) ∈ ts /\ fh us c.1 n = us.length
 GN : G.dc.Pairwise fun c d => aS d c = true
theorem GI.at {us : List (Int × Int)} {n : Int} {ts : List (Str × Int)} {G : dU} (h : GI us n ts G) {k : Nat} {w : Wh} (hw : G.ws[k]? = some w) : us[k]? = some (w.u, w.s) := by
 rw [<- h.eu, List.getElem?_map, hw]; rfl
theorem GI.len {us : List (Int × Int)} {n : Int} {ts : List (Str × Int)} {G : dU} (h : GI us n ts G) : G.ws.length = us.length := by
 rw [<- h.eu, List.length_map]
theorem Lb {ws : List Wh} {k : Nat} {w w' : Wh} (hw : ws[k]? = some w) (e : (w'.u, w'.s) = (w.u, w.s)) : (ws.set k w').map (fun w => (w.u, w.s)) = ws.map fun w => (w.u, w.s) := by
 rw [List.map_set, e]
 refine List.ext_getElem? fun i => ?_
 rw [List.getElem?_set]
 split
 . rename_i hi
   subst hi
   obtain ⟨hk, rfl⟩ := List.getElem?_eq_some_iff.mp hw
   rw [if_pos (by simpa using hk)]
   simp [hk]
 . rfl
theorem GI.lay {us : List (Int × Int)} {n t m : Int} {ts : List (Str × Int)} {G : dU} {x : Str} {w : Wh} {pd : Addr} (h : GI us n ts G) (hx : x ∉ ts.map (·.1)) (hw : G.ws[fh us t n]? = some w) (hs : 0 < w.s) (hm : fq (w.t6 (t / w.u % w.s) m pd x)) :
 GI us n (ts ++ [(x, t)]) ⟨G.q, G.f, G.ws.set (fh us t n) (w.t6 (t / w.u % w.s) m pd x), G.dc⟩ := by
 have XG : ∀ t', (x, t') ∉ ts := fun t' hm => hx (List.mem_map.mpr ⟨_, hm, rfl⟩)
 have hk : fh us t n < G.ws.length := (List.getElem?_eq_some_iff.mp hw).1
 refine ⟨(Lb (w' := w.t6 (t / w.u % w.s) m pd x) hw rfl).trans h.eu, fun k w1 gS => ?_, fun c => ?_, h.GN⟩
 . replace gS : (G.ws.set (fh us t n) _)[k]? = some w1 := gS
   rw [List.getElem?_set] at gS
   split at gS
   . rename_i e
     subst e
     obtain rfl := Option.some.inj gS
     refine ((h.wh _ w hw).lay (m := m) (pd := pd) (fun j ⟨t', h1, _⟩ => XG t' h1) (Int.emod_nonneg _ (by omega)) (Int.emod_lt_of_pos _ hs) hm).congr fun y j => ?_
     constructor
     . rintro (⟨t', h1, h2, h3⟩ | ⟨rfl, rfl⟩)
       . exact ⟨t', List.mem_append_left _ h1, h2, h3⟩
       . exact ⟨t, List.mem_append_right _ (by simp), rfl, rfl⟩
     . rintro ⟨t', h1, h2, h3⟩
       rcases List.mem_append.mp h1 with h1 | h1
       . exact .inl ⟨t', h1, h2, h3⟩
       . have : y = x /\ t' = t := by simpa using h1
         obtain ⟨rfl, rfl⟩ := this
         exact .inr ⟨rfl, h3.symm⟩
   . rename_i e
     refine (h.wh k w1 gS).congr fun y j => ⟨fun ⟨t', h1, h2, h3⟩ => ⟨t', List.mem_append_left _ h1, h2, h3⟩, fun ⟨t', h1, h2, h3⟩ => ?_⟩
     rcases List.mem_append.mp h1 with h1 | h1
     . exact ⟨t', h1, h2, h3⟩
     . have : y = x /\ t' = t := by simpa using h1
       obtain ⟨rfl, rfl⟩ := this
       exact absurd h2 e
 . refine (h.dc c).trans ⟨fun ⟨h1, h2⟩ => ⟨List.mem_append_left _ h1, h2⟩, fun ⟨h1, h2⟩ => ?_⟩
   rcases List.mem_append.mp h1 with h1 | h1
   . exact ⟨h1, h2⟩
   . have : c.2 = x /\ c.1 = t := by simpa using h1
     rw [this.2] at h2
     have := h.len
     omega
theorem Ly {α : Type} {xs : List α} {k : Nat} {y c : α} : c ∈ qo xs k y ↔ c ∈ xs \/ c = y := by
 unfold qo
 rw [List.mem_append, List.mem_cons]
 constructor
 . rintro (h | h | h)
   . exact .inl (List.mem_of_mem_take h)
   . exact .inr h
   . exact .inl (List.mem_of_mem_drop h)
 . rintro (h | h)
   . rw [<- List.take_append_drop k xs, List.mem_append] at h
     rcases h with h | h
     . exact .inl h
     . exact .inr (.inr h)
   . exact .inr (.inl h)
def Y5 (dc : List (Int × Str)) (c : Int × Str) (i : Nat) : Prop := i <= dc.length /\ (∀ j d, j < i -> dc[j]? = some d -> aS c d = true) /\ ∀ j d, i <= j -> dc[j]? = some d -> aS c d = false
theorem rZ {a b c : Int × Str} (h : aS a b = true) (h2 : aS b c = true) : aS a c = true := by
 cases e : aS a c with
 | true => rfl
 | false =>
   have h3 := wK e (x8 h2)
   rw [h3] at h; cases h
theorem TC {dc : List (Int × Str)} {c : Int × Str} {i : Nat} (h : dc.Pairwise fun c d => aS d c = true) (hp : Y5 dc c i) (hc : c ∉ dc) : (qo dc i c).Pairwise fun c d => aS d c = true := by
 obtain ⟨hi, h1, h2⟩ := hp
 have h' := h
 rw [<- List.take_append_drop i dc, List.pairwise_append] at h'
 obtain ⟨a1, a2, a3⟩ := h'
 unfold qo
 rw [List.pairwise_append, List.pairwise_cons]
 have hb : ∀ d ∈ dc.drop i, aS d c = true := fun d hd => by
  obtain ⟨j, hj, rfl⟩ := List.getElem_of_mem hd
  have := h2 (i + j) ((dc.drop i)[j]) (by omega) (by rw [<- List.getElem?_drop]; exact List.getElem?_eq_getElem hj)
  cases e : aS (dc.drop i)[j] c with
  | true => rfl
  | false =>
    have := x9 this e
    exact absurd (List.mem_of_mem_drop (this ▸ hd)) hc
 have ha : ∀ d ∈ dc.take i, aS c d = true := fun d hd => by
  obtain ⟨j, hj, rfl⟩ := List.getElem_of_mem hd
  rw [List.length_take] at hj
  have hj1 : j < i := by omega
  have IK : j < dc.length := by omega
  have := h1 j dc[j] hj1 (List.getElem?_eq_getElem IK)
  rw [List.getElem_take]; exact this
 refine ⟨a1, ⟨hb, a2⟩, fun x hx y hy => ?_⟩
 rcases List.mem_cons.mp hy with rfl | hy
 . exact ha x hx
 . exact rZ (hb y hy) (ha x hx)
theorem GI.Ut {us : List (Int × Int)} {n t : Int} {ts : List (Str × Int)} {G : dU} {x : Str} {i : Nat} (h : GI us n ts G) (hx : x ∉ ts.map (·.1)) (hw : fh us t n = us.length) (hi : Y5 G.dc (t, x) i) :
 GI us n (ts ++ [(x, t)]) ⟨G.q, G.f, G.ws, qo G.dc i (t, x)⟩ := by
 have XG : ∀ t', (x, t') ∉ ts := fun t' hm => hx (List.mem_map.mpr ⟨_, hm, rfl⟩)
 refine ⟨h.eu, fun k w1 gS => ?_, fun c => ?_, TC h.GN hi fun z => XG t ((h.dc _).mp z).1⟩
 . refine (h.wh k w1 gS).congr fun y j => ⟨fun ⟨t', h1, h2, h3⟩ => ⟨t', List.mem_append_left _ h1, h2, h3⟩, fun ⟨t', h1, h2, h3⟩ => ?_⟩
   rcases List.mem_append.mp h1 with h1 | h1
   . exact ⟨t', h1, h2, h3⟩
   . have : y = x /\ t' = t := by simpa using h1
     obtain ⟨rfl, rfl⟩ := this
     have h4 : k < G.ws.length := (List.getElem?_eq_some_iff.mp gS).1
     have := h.len
     omega
 . rw [Ly, h.dc c]
   constructor
   . rintro (⟨h1, h2⟩ | rfl)
     . exact ⟨List.mem_append_left _ h1, h2⟩
     . exact ⟨List.mem_append_right _ (by simp), hw⟩
   . rintro ⟨h1, h2⟩
     rcases List.mem_append.mp h1 with h1 | h1
     . exact .inl ⟨h1, h2⟩
     . have : c.2 = x /\ c.1 = t := by simpa using h1
       exact .inr (Prod.ext this.2 this.1)
def fy (ts : List (Str × Int)) (x : Str) : List (Str × Int) := ts.filter fun y => !decide (y.1 = x)
theorem cD {ts : List (Str × Int)} {x : Str} {y : Str × Int} : y ∈ fy ts x ↔ y ∈ ts /\ y.1 ≠ x := by
 unfold fy
 rw [List.mem_filter]
 simp
theorem il {ts : List (Str × Int)} (h : (ts.map (·.1)).Nodup) {x : Str} {t t' : Int} (h1 : (x, t) ∈ ts) (h2 : (x, t') ∈ ts) : t = t' := by
 induction ts with
 | nil => cases h1
 | cons y r ih =>
   rw [List.map_cons, List.nodup_cons] at h
   rcases List.mem_cons.mp h1 with e1 | e1
   . rcases List.mem_cons.mp h2 with e2 | e2
     . rw [<- e1] at e2; exact (Prod.mk.inj e2).2.symm
     . exact absurd (List.mem_map.mpr ⟨_, e2, rfl⟩) (by rw [<- e1] at h; exact h.1)
   . rcases List.mem_cons.mp h2 with e2 | e2
     . exact absurd (List.mem_map.mpr ⟨_, e1, rfl⟩) (by rw [<- e2] at h; exact h.1)
     . exact ih h.2 e1 e2
theorem GI.lift {us : List (Int × Int)} {n t m : Int} {ts : List (Str × Int)} {G : dU} {x : Str} {w : Wh} (h : GI us n ts G) (jP : (ts.map (·.1)).Nodup) (hx : (x, t) ∈ ts) (hw : G.ws[fh us t n]? = some w) (hm : fq (w.iL (t / w.u % w.s) m x)) :
 GI us n (fy ts x) ⟨G.q, G.f, G.ws.set (fh us t n) (w.iL (t / w.u % w.s) m x), G.dc⟩ := by
 have hk : fh us t n < G.ws.length := (List.getElem?_eq_some_iff.mp hw).1
 refine ⟨(Lb (w' := w.iL (t / w.u % w.s) m x) hw rfl).trans h.eu, fun k w1 gS => ?_, fun c => ?_, h.GN⟩
 . replace gS : (G.ws.set (fh us t n) _)[k]? = some w1 := gS
   rw [List.getElem?_set] at gS
   split at gS
   . rename_i e
     subst e
     obtain rfl := Option.some.inj gS
     refine ((h.wh _ w hw).lift (m := m) (x := x) (slot := t / w.u % w.s) (fun j ⟨t', h1, h2, h3⟩ => ?_) hm).congr fun y j => ⟨fun ⟨⟨t', h1, h2, h3⟩, nZ⟩ => ⟨t', cD.mpr ⟨h1, nZ⟩, h2, h3⟩, fun ⟨t', h1, h2, h3⟩ => ?_⟩
     . rw [il jP hx h1]; exact h3.symm
     . obtain ⟨h1, nZ⟩ := cD.mp h1
       exact ⟨⟨t', h1, h2, h3⟩, nZ⟩
   . rename_i e
     refine (h.wh k w1 gS).congr fun y j => ⟨fun ⟨t', h1, h2, h3⟩ => ⟨t', cD.mpr ⟨h1, fun z => e ?_⟩, h2, h3⟩, fun ⟨t', h1, h2, h3⟩ => ⟨t', (cD.mp h1).1, h2, h3⟩⟩
     have z : y = x := z
     subst z
     rw [il jP hx h1]; exact h2
 . refine (h.dc c).trans ⟨fun ⟨h1, h2⟩ => ⟨cD.mpr ⟨h1, fun z => ?_⟩, h2⟩, fun ⟨h1, h2⟩ => ⟨(cD.mp h1).1, h2⟩⟩
   have z : c.2 = x := z
   rw [z] at h1
   rw [il jP h1 hx] at h2
   have := h.len
   omega
theorem RU {dc : List (Int × Str)} {c : Int × Str} {i : Nat} (h : dc.Pairwise fun c d => aS d c = true) (hp : Y5 dc c i) (hc : c ∈ dc) : dc[i]? = some c := by
 obtain ⟨j, hj, rfl⟩ := List.getElem_of_mem hc
 obtain ⟨_, h1, h2⟩ := hp
 have e : i = j := by
  by_cases c1 : j < i
  . have := h1 j _ c1 (List.getElem?_eq_getElem hj)
    rw [fM] at this; cases this
  . by_cases c2 : i < j
    . have := h2 i dc[i] (Nat.le_refl _) (List.getElem?_eq_getElem (by omega))
      rw [List.pairwise_iff_getElem.mp h i j (by omega) hj c2] at this
      cases this
    . omega
 rw [e]; exact List.getElem?_eq_getElem hj
theorem mem_erase {dc : List (Int × Str)} {c : Int × Str} {i : Nat} (h : dc.Pairwise fun c d => aS d c = true) (hc : dc[i]? = some c) {d : Int × Str} : d ∈ dc.eraseIdx i ↔ d ∈ dc /\ d ≠ c := by
 obtain ⟨hi, rfl⟩ := List.getElem?_eq_some_iff.mp hc
 have pw := List.pairwise_iff_getElem.mp h
 constructor
 . intro hd
   obtain ⟨j, hj, nZ⟩ := List.mem_eraseIdx_iff_getElem?.mp hd
   obtain ⟨Pb, rfl⟩ := List.getElem?_eq_some_iff.mp nZ
   refine ⟨List.getElem_mem _, fun z => ?_⟩
   by_cases c1 : j < i
   . have := pw j i Pb hi c1
     rw [z, fM] at this; cases this
   . have := pw i j hi Pb (by omega)
     rw [z, fM] at this; cases this
 . rintro ⟨hd, nZ⟩
   obtain ⟨j, hj, rfl⟩ := List.getElem_of_mem hd
   exact List.mem_eraseIdx_iff_getElem?.mpr ⟨j, fun z => nZ (by subst z; rfl), List.getElem?_eq_getElem hj⟩
theorem GI.OX {us : List (Int × Int)} {n t : Int} {ts : List (Str × Int)} {G : dU} {x : Str} {i : Nat} (h : GI us n ts G) (jP : (ts.map (·.1)).Nodup) (hx : (x, t) ∈ ts) (hw : fh us t n = us.length) (hi : G.dc[i]? = some (t, x)) :
 GI us n (fy ts x) ⟨G.q, G.f, G.ws, G.dc.eraseIdx i⟩ := by
 refine ⟨h.eu, fun k w1 gS => ?_, fun c => ?_, h.GN.sublist (List.eraseIdx_sublist _ _)⟩
 . refine (h.wh k w1 gS).congr fun y j => ⟨fun ⟨t', h1, h2, h3⟩ => ⟨t', cD.mpr ⟨h1, fun z => ?_⟩, h2, h3⟩, fun ⟨t', h1, h2, h3⟩ => ⟨t', (cD.mp h1).1, h2, h3⟩⟩
   have z : y = x := z
   subst z
   rw [il jP h1 hx] at h2
   have h4 : k < G.ws.length := (List.getElem?_eq_some_iff.mp gS).1
   have := h.len
   omega
 . show c ∈ G.dc.eraseIdx i ↔ _
   rw [mem_erase h.GN hi, h.dc c]
   constructor
   . rintro ⟨⟨h1, h2⟩, h3⟩
     refine ⟨cD.mpr ⟨h1, fun z => h3 ?_⟩, h2⟩
     have z : c.2 = x := z
     rw [z] at h1
     exact Prod.ext (il jP h1 hx) z
   . rintro ⟨h1, h2⟩
     obtain ⟨h1, h3⟩ := cD.mp h1
     exact ⟨⟨h1, h2⟩, fun z => h3 (by rw [z])⟩
def ML (u s m : Int) (dn : Addr) : List (Str × V) := [("unit", .int u), ("slots", .int s), ("span", .int (u * s)), ("mask", .int m), ("names_in", .ref dn)]
def uP (cs : List Sl) : List (Key × V) := cs.map fun c => (Sum.inl c.k, V.ref c.p)
def BL (ns : List Str) : List (Str × PyData) := ns.map fun x => (x, .bool true)
structure gg (C : Addr) (H : Hp) (w : Wh) : Prop where
 i : ∃ dx, H w.x = some (.ins C dx (ML w.u w.s w.m w.dn))
 d : H w.dn = some (.dK (uP w.cs))
 c : ∀ c ∈ w.cs, la H c.p (BL c.ns)
def Wh.foot (w : Wh) : List Addr := w.x :: w.dn :: w.cs.map (·.p)
def dU.foot (G : dU) : List Addr := G.q :: G.f :: G.ws.flatMap Wh.foot
theorem gg.keeps {C : Addr} {H H' : Hp} {w : Wh} (sm : az H H') (h : gg C H w) : gg C H' w := ⟨let ⟨dx, e⟩ := h.i; ⟨dx, sm _ _ e⟩, sm _ _ h.d, fun c hc => (h.c c hc).keeps sm⟩
theorem gg.mv {C : Addr} {S : List Addr} {H H' : Hp} {w : Wh} (mv : Mv S H H') (n : ∀ b ∈ w.foot, b ∉ S) (h : gg C H w) : gg C H' w := by
 refine ⟨?_, mv.at (n _ (by simp [Wh.foot])) h.d, fun c hc => (h.c c hc).mv mv (n _ ?_)⟩
 . obtain ⟨dx, e⟩ := h.i
   exact ⟨dx, mv.at (n _ (by simp [Wh.foot])) e⟩
 . unfold Wh.foot
   exact List.mem_cons_of_mem _ (List.mem_cons_of_mem _ (List.mem_map_of_mem hc))
theorem gg.alive {C : Addr} {H : Hp} {w : Wh} (h : gg C H w) : ∀ b ∈ w.foot, H b ≠ none := by
 intro b hb
 unfold Wh.foot at hb
 rcases List.mem_cons.mp hb with rfl | hb
 . obtain ⟨dx, e⟩ := h.i
   rw [e]; simp
 . rcases List.mem_cons.mp hb with rfl | hb
   . rw [h.d]; simp
   . obtain ⟨c, hc, rfl⟩ := List.mem_map.mp hb
     obtain ⟨ax, e, _⟩ := h.c c hc
     rw [e]; simp
theorem LY {cs : List Sl} {k : Int} (h : ∀ c ∈ cs, c.k ≠ k) : kQ (uP cs) (.inl k) = none := by
 unfold kQ uP
 rw [Option.map_eq_none_iff, List.find?_eq_none]
 intro kv Vx
 obtain ⟨c, hc, rfl⟩ := List.mem_map.mp Vx
 simp [h c hc]
theorem pC {cs : List Sl} {c : Sl} (hn : (cs.map (·.k)).Nodup) (hc : c ∈ cs) : kQ (uP cs) (.inl c.k) = some (.ref c.p) := by
 induction cs with
 | nil => cases hc
 | cons y r ih =>
   rw [List.map_cons, List.nodup_cons] at hn
   rcases List.mem_cons.mp hc with rfl | hc
   . exact o8 rfl
   . have nZ : y.k ≠ c.k := fun z => hn.1 (z ▸ List.mem_map_of_mem (f := (·.k)) hc)
     exact (kU (fun z => nZ (Sum.inl.inj z))).trans (ih hn.2 hc)
theorem P9 {cs : List Sl} {k : Int} {p : Addr} {ns : List Str} (h : ∀ c ∈ cs, c.k ≠ k) : putK (uP cs) (.inl k) (.ref p) = uP (cs ++ [⟨k, p, ns⟩]) := by
 have e : ((uP cs).any fun kv => decide (kv.1 = Sum.inl k)) = false := by
  rw [<- Bool.not_eq_true, List.any_eq_true]
  rintro ⟨kv, h1, h2⟩
  unfold uP at h1
  obtain ⟨c, hc, rfl⟩ := List.mem_map.mp h1
  exact h c hc (Sum.inl.inj (of_decide_eq_true h2))
 unfold putK
 rw [e, if_neg (by decide)]
 unfold uP
 rw [List.map_append]; rfl
theorem JQ (cs : List Sl) (k : Int) : ni (uP cs) (.inl k) = uP (iW cs k) := by
 unfold ni uP iW
 rw [List.filter_map]
 congr 1
 refine List.filter_congr fun c _ => ?_
 simp [Function.comp]
theorem Gf {cs : List Sl} {f : Sl -> Sl} (h1 : ∀ c, (f c).k = c.k) (h2 : ∀ c, (f c).p = c.p) : uP (cs.map f) = uP cs := by
 unfold uP
 rw [List.map_map]
 refine List.map_congr_left fun c _ => ?_
 show (Sum.inl (f c).k, V.ref (f c).p) = _
 rw [h1, h2]
theorem Ng (cs : List Sl) : (uP cs).length = cs.length := List.length_map ..
theorem Nc (ns : List Str) : (BL ns).length = ns.length := List.length_map ..
theorem KL {ns : List Str} {x : Str} (h : x ∈ ns) : qp (BL ns) x = some (.bool true) := by
 unfold qp BL
 induction ns with
 | nil => cases h
 | cons y r ih =>
   rw [List.map_cons, List.find?_cons]
   by_cases e : y = x
   . simp [e]
   . simp only [e, decide_false]
     exact ih ((List.mem_cons.mp h).resolve_left fun z => e z.symm)
theorem Nv {ns : List Str} {x : Str} (h : x ∉ ns) : putD (BL ns) x (.bool true) = BL (ns ++ [x]) := by
 unfold putD
 have e : ((BL ns).any fun kv => decide (kv.1 = x)) = false := by
  rw [<- Bool.not_eq_true, List.any_eq_true]
  rintro ⟨kv, h1, h2⟩
  unfold BL at h1
  obtain ⟨y, hy, rfl⟩ := List.mem_map.mp h1
  exact h (of_decide_eq_true h2 ▸ hy)
 rw [e, if_neg (by decide)]
 unfold BL
 rw [List.map_append]; rfl
theorem Jz (ns : List Str) (x : Str) : pq (BL ns) x = BL (ns.filter fun y => !decide (y = x)) := by
 unfold pq BL
 rw [List.filter_map]
 congr 1
 refine List.filter_congr fun y _ => ?_
 simp [Function.comp]
theorem wm {w : Wh} (h : w.foot.Nodup) : w.x ≠ w.dn /\ (∀ c ∈ w.cs, c.p ≠ w.x /\ c.p ≠ w.dn) /\ (w.cs.map (·.p)).Nodup := by
 unfold Wh.foot at h
 rw [List.nodup_cons, List.nodup_cons] at h
 refine ⟨fun z => h.1 (by simp [z]), fun c hc => ⟨fun z => h.1 ?_, fun z => h.2.1 (z ▸ List.mem_map_of_mem hc)⟩, h.2.2⟩
 exact List.mem_cons_of_mem _ (z ▸ List.mem_map_of_mem (f := (·.p)) hc)
theorem Ra {cs : List Sl} (h : (cs.map (·.p)).Nodup) {c d : Sl} (hc : c ∈ cs) (hd : d ∈ cs) (e : c.p = d.p) : c = d := by
 induction cs with
 | nil => cases hc
 | cons y r ih =>
   rw [List.map_cons, List.nodup_cons] at h
   rcases List.mem_cons.mp hc with rfl | kz
   . rcases List.mem_cons.mp hd with rfl | lM
     . rfl
     . exact absurd (List.mem_map_of_mem (f := (·.p)) lM) (e ▸ h.1)
   . rcases List.mem_cons.mp hd with rfl | lM
     . exact absurd (List.mem_map_of_mem (f := (·.p)) kz) (e ▸ h.1)
     . exact ih h.2 kz lM
theorem Gi {cs : List Sl} (h : (cs.map (·.k)).Nodup) {c d : Sl} (hc : c ∈ cs) (hd : d ∈ cs) (e : c.k = d.k) : c = d := by
 induction cs with
 | nil => cases hc
 | cons y r ih =>
   rw [List.map_cons, List.nodup_cons] at h
   rcases List.mem_cons.mp hc with rfl | kz
   . rcases List.mem_cons.mp hd with rfl | lM
     . rfl
     . exact absurd (List.mem_map_of_mem (f := (·.k)) lM) (e ▸ h.1)
   . rcases List.mem_cons.mp hd with rfl | lM
     . exact absurd (List.mem_map_of_mem (f := (·.k)) kz) (e ▸ h.1)
     . exact ih h.2 kz lM
def Ao (us : List (Int × Int)) : Prop := ∀ q ∈ us, 0 < q.1 /\ q.1 <= 10 ^ 12 /\ 2 <= q.2 /\ q.2 <= 60
def Iq (w : Wh) : Prop := 0 < w.u /\ w.u <= 10 ^ 12 /\ 2 <= w.s /\ w.s <= 60
theorem T4 {K : PySem.W.Frag} {σ : St} {H : Hp} {t : Addr} {v1 v2 : V} {i j : Nat} {R : St -> Hp -> Prop} (ha : H t = some (.tup [v1, v2])) (h : R ((σ.set i (some v1)).set j (some v2)) H) : GW K 2 (uc (jE i) (uc (jE j) Md)) (.ref t) σ H R :=
 ⟨_, _, rfl, .of ha, rfl, _, _, rfl, _, _, rfl, rfl, h⟩
structure we (CW : Addr) (H : Hp) (G : dU) : Prop where
 q : H G.q = some (.lst (G.ws.map fun w => V.ref w.x))
 f : dJ H G.f (G.dc.map pairD)
 w : ∀ w ∈ G.ws, gg CW H w
 nd : G.foot.Nodup
theorem we.keeps {C : Addr} {H H' : Hp} {G : dU} (sm : az H H') (h : we C H G) : we C H' G := ⟨sm _ _ h.q, h.f.keeps sm, fun w hw => (h.w w hw).keeps sm, h.nd⟩
theorem j8 {G : dU} {w : Wh} (hw : w ∈ G.ws) : ∀ b ∈ w.foot, b ∈ G.foot := fun b hb => List.mem_cons_of_mem _ (List.mem_cons_of_mem _ (List.mem_flatMap.mpr ⟨w, hw, hb⟩))
theorem we.mv {C : Addr} {S : List Addr} {H H' : Hp} {G : dU} (mv : Mv S H H') (n : ∀ b ∈ G.foot, b ∉ S) (h : we C H G) : we C H' G :=
 ⟨mv.at (n _ (by simp [dU.foot])) h.q, h.f.mv mv (n _ (by simp [dU.foot])), fun w hw => (h.w w hw).mv mv fun b hb => n b (j8 hw b hb), h.nd⟩
theorem we.alive {C : Addr} {H : Hp} {G : dU} (h : we C H G) : ∀ b ∈ G.foot, H b ≠ none := by
 intro b hb
 unfold dU.foot at hb
 rcases List.mem_cons.mp hb with rfl | hb
 . rw [h.q]; simp
 . rcases List.mem_cons.mp hb with rfl | hb
   . obtain ⟨xs, e, _⟩ := h.f
     rw [e]; simp
   . obtain ⟨w, hw, hb⟩ := List.mem_flatMap.mp hb
     exact (h.w w hw).alive b hb
theorem we.zW {C : Addr} {H : Hp} {G : dU} (h : we C H G) : G.q ≠ G.f /\ (∀ w ∈ G.ws, ∀ b ∈ w.foot, b ≠ G.q /\ b ≠ G.f) /\ (G.ws.flatMap Wh.foot).Nodup := by
 have hn := h.nd
 unfold dU.foot at hn
 rw [List.nodup_cons, List.nodup_cons] at hn
 refine ⟨fun z => hn.1 (by simp [z]), fun w hw b hb => ⟨fun z => hn.1 ?_, fun z => hn.2.1 (z ▸ List.mem_flatMap.mpr ⟨w, hw, hb⟩)⟩, hn.2.2⟩
 exact List.mem_cons_of_mem _ (z ▸ List.mem_flatMap.mpr ⟨w, hw, hb⟩)
theorem tD {α : Type} {l : List α} {k : Nat} {w : α} (h : l[k]? = some w) (w' : α) : l = l.take k ++ w :: l.drop (k + 1) /\ l.set k w' = l.take k ++ w' :: l.drop (k + 1) := by
 obtain ⟨hk, rfl⟩ := List.getElem?_eq_some_iff.mp h
 constructor
 . rw [List.getElem_cons_drop]; exact (List.take_append_drop k l).symm
 . rw [List.set_eq_take_append_cons_drop, if_pos hk]
theorem we.set {C : Addr} {H H' : Hp} {G : dU} {k : Nat} {w w' : Wh} (h : we C H G) (hw : G.ws[k]? = some w) (mv : Mv w.foot H H') (F7 : gg C H' w') (ex : w'.x = w.x) (hn : w'.foot.Nodup) (hs : ∀ b ∈ w'.foot, b ∈ w.foot \/ H b = none) :
 we C H' ⟨G.q, G.f, G.ws.set k w', G.dc⟩ /\ ∀ b ∈ dU.foot ⟨G.q, G.f, G.ws.set k w', G.dc⟩, b ∈ G.foot \/ H b = none := by
 obtain ⟨f1, f2, f3⟩ := h.zW
 obtain ⟨e1, e2⟩ := tD hw w'
 have ZY : w ∈ G.ws := List.mem_of_getElem? hw
 have S9 : ∀ b ∈ dU.foot ⟨G.q, G.f, G.ws.set k w', G.dc⟩, b ∈ G.foot \/ H b = none := fun b hb => by
  unfold dU.foot at hb
  rcases List.mem_cons.mp hb with rfl | hb
  . exact .inl (by simp [dU.foot])
  . rcases List.mem_cons.mp hb with rfl | hb
    . exact .inl (by simp [dU.foot])
    . obtain ⟨y, hy, Dh⟩ := List.mem_flatMap.mp hb
      have hy : y ∈ G.ws.set k w' := hy
      rcases List.mem_or_eq_of_mem_set hy with hy | hy
      . exact .inl (j8 hy b Dh)
      . rcases hs b (hy ▸ Dh) with q | q
        . exact .inl (j8 ZY b q)
        . exact .inr q
 refine ⟨⟨?_, h.f.mv mv fun z => (f2 w ZY _ z).2 rfl, fun y hy => ?_, ?_⟩, S9⟩
 . show H' G.q = some (.lst ((G.ws.set k w').map _))
   rw [show (G.ws.set k w').map (fun w => V.ref w.x) = G.ws.map fun w => V.ref w.x from ?_]
   . exact mv.at (fun z => (f2 w ZY _ z).1 rfl) h.q
   . rw [e2, List.map_append, List.map_cons, ex]
     conv => rhs; rw [e1, List.map_append, List.map_cons]
 . have hy : y ∈ G.ws.set k w' := hy
   obtain ⟨j, hj⟩ := List.getElem?_of_mem hy
   rw [List.getElem?_set] at hj
   split at hj
   . split at hj
     . cases hj; exact F7
     . cases hj
   . rename_i DJ
     refine (h.w y (List.mem_of_getElem? hj)).mv mv fun b hb yl => ?_
     have key : ∀ (l : List Wh) (i j : Nat) (x y : Wh), (l.flatMap Wh.foot).Nodup -> l[i]? = some x -> l[j]? = some y -> i ≠ j -> ∀ b ∈ x.foot, b ∉ y.foot := by
      intro l
      induction l with
      | nil => intro i j x y _ hx; simp at hx
      | cons z r ih =>
        intro i j x y hn hx hy vQ b hb Dh
        rw [List.flatMap_cons, List.nodup_append] at hn
        obtain ⟨_, uG, DC⟩ := hn
        cases i with
        | zero =>
          cases j with
          | zero => exact vQ rfl
          | succ j =>
            have hx : z = x := by simpa using hx
            have hy : r[j]? = some y := by simpa using hy
            exact DC b (hx ▸ hb) b (List.mem_flatMap.mpr ⟨y, List.mem_of_getElem? hy, Dh⟩) rfl
        | succ i =>
          have hx : r[i]? = some x := by simpa using hx
          cases j with
          | zero =>
            have hy : z = y := by simpa using hy
            exact DC b (hy ▸ Dh) b (List.mem_flatMap.mpr ⟨x, List.mem_of_getElem? hx, hb⟩) rfl
          | succ j =>
            have hy : r[j]? = some y := by simpa using hy
            exact ih i j x y uG hx hy (fun z => vQ (by rw [z])) b hb Dh
     exact key G.ws k j w y f3 hw hj DJ b yl hb
 . have BK := h.nd
   unfold dU.foot at BK ⊢
   show (G.q :: G.f :: (G.ws.set k w').flatMap Wh.foot).Nodup
   rw [e1] at BK
   rw [e2]
   rw [List.flatMap_append, List.flatMap_cons] at BK ⊢
   have c1 : G.q :: G.f :: ((G.ws.take k).flatMap Wh.foot ++ (w.foot ++ (G.ws.drop (k + 1)).flatMap Wh.foot)) = (G.q :: G.f :: (G.ws.take k).flatMap Wh.foot) ++ (w.foot ++ (G.ws.drop (k + 1)).flatMap Wh.foot) := by simp
   have c2 : G.q :: G.f :: ((G.ws.take k).flatMap Wh.foot ++ (w'.foot ++ (G.ws.drop (k + 1)).flatMap Wh.foot)) = (G.q :: G.f :: (G.ws.take k).flatMap Wh.foot) ++ (w'.foot ++ (G.ws.drop (k + 1)).flatMap Wh.foot) := by simp
   rw [c1] at BK
   rw [c2]
   refine OS BK hn fun b hb => ?_
   rcases hs b hb with q | q
   . exact .inl q
   . have yZ := h.alive
     refine .inr ⟨fun z => yZ b ?_ q, fun z => yZ b ?_ q⟩
     . unfold dU.foot
       rw [e1, List.flatMap_append]
       rcases List.mem_cons.mp z with rfl | z
       . simp
       . rcases List.mem_cons.mp z with rfl | z
         . simp
         . exact List.mem_cons_of_mem _ (List.mem_cons_of_mem _ (List.mem_append_left _ z))
     . unfold dU.foot
       rw [e1, List.flatMap_append, List.flatMap_cons]
       exact List.mem_cons_of_mem _ (List.mem_cons_of_mem _ (List.mem_append_right _ (List.mem_append_right _ z)))
theorem we.WV {C : Addr} {H H' : Hp} {G : dU} {dc : List (Int × Str)} (h : we C H G) (mv : Mv [G.f] H H') (hf : dJ H' G.f (dc.map pairD)) : we C H' ⟨G.q, G.f, G.ws, dc⟩ := by
 obtain ⟨f1, f2, f3⟩ := h.zW
 exact ⟨mv.at (by simpa using f1) h.q, hf, fun w hw => (h.w w hw).mv mv fun b hb => by simpa using (f2 w hw b hb).2, h.nd⟩
theorem GI.Xy {us : List (Int × Int)} {n : Int} {ts : List (Str × Int)} {G : dU} (h : GI us n ts G) (hu : Ao us) {k : Nat} {w : Wh} (hw : G.ws[k]? = some w) : Iq w := by
 have := hu _ (List.mem_of_getElem? (h.at hw))
 exact this
theorem GI.small {us : List (Int × Int)} {n : Int} {ts : List (Str × Int)} {G : dU} (h : GI us n ts G) (hu : Ao us) {k : Nat} {w : Wh} (hw : G.ws[k]? = some w) : w.cs.length <= 60 /\ ∀ c ∈ w.cs, c.ns.length <= ts.length := by
 have hi := h.wh k w hw
 have hb := h.Xy hu hw
 constructor
 . have := p6 (l' := (List.range 60).map fun i : Nat => (i : Int)) hi.nd fun x hx => by
    obtain ⟨c, hc, rfl⟩ := List.mem_map.mp hx
    obtain ⟨_, _, h0, h1⟩ := hi.ne c hc
    refine List.mem_map.mpr ⟨c.k.toNat, List.mem_range.mpr ?_, by omega⟩
    have := hb.2.2.2
    omega
   simpa using this
 . intro c hc
   have := p6 (l' := ts.map (·.1)) (hi.ne c hc).2.1 fun x hx => by
    obtain ⟨t, ht, _⟩ := (hi.mem x c.k).mp ⟨c, hc, rfl, hx⟩
    exact List.mem_map.mpr ⟨_, ht, rfl⟩
   simpa using this
theorem GI.EJ {us : List (Int × Int)} {n : Int} {ts : List (Str × Int)} {G : dU} (h : GI us n ts G) : G.dc.length <= ts.length := by
 have jP : G.dc.Nodup := h.GN.imp fun {a b} Vc e => by subst e; rw [fM] at Vc; cases Vc
 have := p6 (l' := ts.map fun x => (x.2, x.1)) jP fun x hx => List.mem_map.mpr ⟨_, ((h.dc x).mp hx).1, rfl⟩
 simpa using this
section
variable {P : Program} {w : World} {K : PySem.W.Frag} {mg : Str -> Option Value} {base : Heap} {a : Ad}
theorem GP (T : Txt K mg a) (s : Shared) (u : Value) : BindsTo s a.Av ⟨[u], []⟩ [("_law_script", u)] := by
 obtain ⟨oc, od, kV, doc, pm, an, dB, ct, HP, e, lk, F6⟩ := T.Ln.ex
 rw [e]
 exact .of_eq rfl
theorem xY (T : Txt K mg a) : a7 P w K mg base kj 1 a.bW a.m7 ["_law_script", "_law_k"] (Eg K) := by
 refine T.jm.ok wc (fun vs H Q E h => ?_) (fun dB A outer s H vs Q E hr h => ?_)
 . obtain ⟨_, _, _, rfl, _⟩ := h; rfl
 . obtain ⟨l, ns, i, rfl, hl, h0, k⟩ := h
   refine ⟨_, (aq (bT (aJ xA (pv 1) (aZ eE rfl T.hZ PySem.boot_len (af (pv 0) ai)) (aR _))
    (ao (aI (aW cL (pv 0) (pv 1) (fun _ _ => rfl))))
    aQ)
    (ao (aI aj))), ?_⟩
   repeat' (walk_at "rd1")
   . exact fS hl (N3 h0 (by assumption)) k
   . rw [Px h0 (by assumption)] at k; exact k
theorem mX (T : Txt K mg a) : gk P w K mg base 1 a.bW ["_law_script", "_law_k"] [] (Eg K) :=
 ⟨⟨_, _, xY T, T.jm.binds fun _ _ _ _ _ _ => .all fun us hl => match us, hl with | [_, _], _ => rfl, .nil⟩⟩
local macro_rules | `(tactic| walk_at "use") => `(tactic| first
 | ((with_reducible refine' Tj ?e1 ?e2 ?_); (case e1 => walk_at "sql"); (case e2 => omega))
 | fail)
def lu : Sp := fun vs H Q _ => ∃ v d, vs = [v] /\ Dv H v d /\ Q (.bl (isInt d && !isBool d)) H
theorem Az {H : Hp} {Q : VK} {E : XK} {v : V} {d : PyData} (h : Dv H v d) (q : Q (.bl (isInt d && !isBool d)) H) : lu [v] H Q E := ⟨v, d, rfl, h, q⟩
theorem KG (T : Txt K mg a) : a7 P w K mg base kj 1 a.ei a.vO ["thing"] lu := by
 refine T.rV.ok CJ (fun vs H Q E h => ?_) (fun dB A outer s H vs Q E hr h => ?_)
 . obtain ⟨_, _, rfl, _⟩ := h; rfl
 . obtain ⟨v, d, rfl, hd, k⟩ := h
   refine ⟨_, (ao (aI (DY (aZ fL rfl T.aV PyProof.Rows.boot_isinstance (af (pv 0) (af (mJ (v := .ty "int") rfl T.xN PyProof.Rows.boot_int rfl) ai))) (Ew (Je (aZ fL rfl T.aV PyProof.Rows.boot_isinstance (af (pv 0) (af (mJ (v := .ty "bool") rfl T.sO PyProof.Rows.boot_bool rfl) ai)))))))), ?_⟩
   repeat' (walk_at "rd1")
   . refine Oa ?_; cases d <;> simp_all [isInt, isBool]
   . refine Oa ?_; cases d <;> simp_all [isInt, isBool]
theorem GZ (T : Txt K mg a) : gk P w K mg base 1 a.ei ["thing"] [] lu :=
 ⟨⟨_, _, KG T, T.rV.binds fun _ _ _ _ _ _ => .all fun us hl => match us, hl with | [_], _ => rfl, .nil⟩⟩
def VG : PyData -> Bool
 | .int i => decide (2 <= i) && decide (i <= 60)
 | _ => false
def scD : PyData -> Bool
 | .int _ => true
 | .bool _ => true
 | .str _ => true
 | _ => false
def good (ds : List PyData) : Prop := 1 <= ds.length /\ ds.length <= 6 /\ ds.all VG = true
def Di (cN : Addr) : Sp := fun vs H Q E => ∃ l ds, vs = [.ref l] /\ dJ H l ds /\ ds.length <= 60 /\ ds.all scD = true /\ (good ds -> Q .bG H) /\ (¬ good ds -> E (.ref cN) none H)
theorem Mx (T : Txt K mg a) : a7 P w K mg base (BM P w) 2 a.bR a.nO ["rounds"] (Di a.bZ) := by
 have EE := GZ (P := P) (w := w) (base := base) T
 refine T.i6.Vz nr (fun vs H Q E h => ?_) (fun dB A outer s H vs Q E hr h => ?_)
 . obtain ⟨_, _, rfl, _⟩ := h; rfl
 . obtain ⟨l, ds, rfl, hl, hlen, hsc, q, qE⟩ := h
   refine ⟨_, (aq (bT (PW.pt (yf (ic (dG (aZ fL rfl T.aV PyProof.Rows.boot_isinstance (af (pv 0) (af (mJ (v := .ty "list") rfl T.qf PyProof.Rows.boot_list rfl) ai))) (fun _ => rfl))) (uS (ic (C3 vC vC aj (aZ eE rfl T.hZ PySem.boot_len (af (pv 0) ai)) (sU (v := .int 6) rfl T.oM ⟨_, rfl⟩))))))
    (ao (qm u9 rfl (af c4 ai) rfl T.oS T.ja rfl))
    aQ)
    (ao (gC PassesOwn.leaving rfl (gP (pv 0)) (aT (i := 1) nr.nd rfl (Or.inl rfl))
     (ao (bT (PW.pt (yf (ic (dG (bx EE (hr.mono (by decide)) rfl T.vv T.vA (af (pv 1) ai)) (fun _ => rfl))) (uS (ic (C3 vC vC (sU (v := .int 2) rfl T.p5 ⟨_, rfl⟩) (pv 1) (sU (v := .int 60) rfl T.qR ⟨_, rfl⟩))))))
      (ao (qm u9 rfl (af c4 ai) rfl T.oS T.ja rfl))
      aQ))))), ?_⟩
   repeat' (walk_at "rd1")
   . rename_i h1 h2
     exact qE fun g => by have := g.2.1; omega
   . rename_i h1 h2
     have bad : ∀ {j : Nat} {c : PyData}, ds[j]? = some c -> VG c = false -> E (.ref a.bZ) none H := fun hj hc => qE fun g => by
      have := List.all_eq_true.mp g.2.2 _ (List.mem_of_getElem? hj)
      rw [hc] at this; cases this
     refine yy (Hb := H) (cs := ds) (gd := id) (by rw [List.map_id]; exact hl.dv) (fun j σ' H' => H = H' /\ (ds.take j).all VG = true /\ ∃ z, σ' = [some (.ref l), z]) ⟨rfl, rfl, _, rfl⟩ (fun i σ' H' _ ⟨e, _⟩ a' xs _ hx => e ▸ hx) ?_ ?_
     . rintro j c x σ' H' hj ⟨rfl, G9, z, rfl⟩ _ yG
       have hx : Dv H x c := yG (az.refl _)
       have hs := List.all_eq_true.mp hsc c (List.mem_of_getElem? hj)
       have Y8 : VG c = true -> (ds.take (j + 1)).all VG = true := fun hc => by rw [List.take_add_one, hj, List.all_append, G9]; simp [hc]
       cases c with
       | int i =>
         obtain rfl := hx.int_inv
         repeat' (walk_at "rd1")
         refine Az (.int i) ?_
         repeat' (walk_at "rd1")
         . exact bad hj (by show (decide (2 <= i) && decide (i <= 60)) = _; rw [decide_eq_false (by omega : ¬ i <= 60), Bool.and_false])
         . exact ⟨rfl, Y8 (by show (decide (2 <= i) && decide (i <= 60)) = _; rw [decide_eq_true (by omega : 2 <= i), decide_eq_true (by omega : i <= 60)]; rfl), _, rfl⟩
         . exact bad hj (by show (decide (2 <= i) && decide (i <= 60)) = _; rw [decide_eq_false (by omega : ¬ 2 <= i), Bool.false_and])
       | bool b =>
         obtain rfl : x = .bl b := by cases hx; rfl
         repeat' (walk_at "rd1")
         refine Az (.bl b) ?_
         repeat' (walk_at "rd1")
         all_goals exact bad hj rfl
       | str y =>
         obtain rfl := hx.str_inv
         repeat' (walk_at "rd1")
         refine Az (.str y) ?_
         repeat' (walk_at "rd1")
         all_goals exact bad hj rfl
       | _ => cases hs
     . rintro σ' H' ⟨rfl, G9, z, rfl⟩
       rw [List.take_length] at G9
       repeat' (walk_at "rd1")
       exact q ⟨by omega, by omega, G9⟩
   . rename_i h1 h2
     exact qE fun g => by have := g.1; omega
theorem Ij (T : Txt K mg a) : y4 P w K mg base 2 a.bR ["rounds"] [] (Di a.bZ) :=
 ⟨⟨_, _, Mx T, T.i6.binds fun _ _ _ _ _ _ => .all fun us hl => match us, hl with | [_], _ => rfl, .nil⟩⟩
def vj (C : Addr) : Sp := fun vs H Q _ => ∃ p dx u s, vs = [.ref p, .int u, .int s] /\ H p = some (.ins C dx []) /\ 0 < u /\ u <= 10 ^ 12 /\ 0 < s /\ s <= 60 /\ ∀ H' dn, Mv [p] H H' -> H dn = none -> gg C H' ⟨p, dn, u, s, 0, []⟩ -> Q .bG H'
theorem Hq (T : Txt K mg a) : a7 P w K mg base kj 1 a.bO a.jA ["self", "unit", "slots"] (vj a.ak) := by
 have n1 := T.eT; have n2 := T.d8; have n3 := T.dH; have n4 := T.cn; have n5 := T.bA; have cl := T.bE
 refine T.gs.ok uF (fun vs H Q E h => ?_) (fun dB A outer s H vs Q E hr h => ?_)
 . obtain ⟨_, _, _, _, rfl, _⟩ := h; rfl
 . obtain ⟨p, dx, u, sl, rfl, hp, Kt, Qk, Y7, Nh, q⟩ := h
   refine ⟨_, (aq (gB (pv 0) (pv 1) rfl)
    (aq (gB (pv 0) (pv 2) rfl)
    (aq (gB (pv 0) (ay jH (pv 1) (pv 2)) rfl)
    (aq (gB (pv 0) aj rfl)
    (ao (gB (pv 0) sX rfl)))))), ?_⟩
   repeat' (walk_at "rd1")
   rename_i dn H2 fA uG hd2
   rw [Bd, Bd, Bd] at fA uG
   have qc : Mv [p] H (upd H p (.ins a.ak dx [("unit", .int u), ("slots", .int sl), ("span", .int (u * sl)), ("mask", .int 0)])) := .cO hp (by intro _ z; cases z)
   have e2 := fA p _ au
   have lK : Mv [p] H2 (upd H2 p (.ins a.ak dx (ML u sl 0 dn))) := .cO e2 (by intro _ z; cases z)
   have jP : H dn = none := qc.none uG
   have W0 : dn ≠ p := Ne.symm (aG hp jP)
   refine q _ dn (qc.trans ((fA.mv (S := [p])).trans lK)) jP ⟨⟨dx, au⟩, ?_, fun c hc => by cases hc⟩
   obtain ⟨ax, e3, dk⟩ := hd2
   cases dk
   exact lK.at (by simpa using W0) e3
theorem BP (T : Txt K mg a) : gk P w K mg base 1 a.bO ["self", "unit", "slots"] [] (vj a.ak) :=
 ⟨⟨_, _, Hq T, T.gs.binds fun _ _ _ _ _ _ => .all fun us hl => match us, hl with | [_, _, _], _ => rfl, .nil⟩⟩
theorem Bs {C x dx : Addr} {H H' : Hp} (hx : H x = none) (hd : H dx = none) (mv : Mv [x] (upd (upd H dx (.own x)) x (.ins C dx [])) H') : az H H' := fun b u e => by
 have hb : b ≠ x := aG e hx
 refine mv.kp b u (by simpa using hb) ?_
 rw [aw hb, aw (aG e hd)]
 exact e
theorem xU {C x dx d : Addr} {H : Hp} (h : upd (upd H dx (.own x)) x (.ins C dx []) d = none) : H d = none := by
 unfold upd at h
 split at h
 . cases h
 . split at h
   . cases h
   . exact h
theorem Ma {C : Addr} {H : Hp} {Q : VK} {E : XK} {u s : Int} (Kt : 0 < u) (Qk : u <= 10 ^ 12) (Y7 : 0 < s) (Nh : s <= 60) (k : ∀ x dn H2, az H H2 -> H x = none -> H dn = none -> gg C H2 ⟨x, dn, u, s, 0, []⟩ -> Q (.ref x) H2) : sL C (vj C) [.int u, .int s] H Q E :=
 ⟨_, rfl, fun x dx hx hd ne => ⟨x, dx, u, s, rfl, au, Kt, Qk, Y7, Nh, fun H' dn mv WG hw => ⟨rfl, k x dn H' (Bs hx hd mv) hx (xU WG) hw⟩⟩⟩
def wO (CW : Addr) : Sp := fun vs H Q _ => ∃ (x : Addr) (y : Wh) (t n : Int), vs = [.ref x, .int t, .int n] /\ x = y.x /\ gg CW H y /\ Iq y /\ Q (.bl (decide (t / (y.u * y.s) = n / (y.u * y.s)))) H
theorem Fh {CW x : Addr} {H : Hp} {Q : VK} {E : XK} {y : Wh} {t n : Int} (e : x = y.x) (h : gg CW H y) (hb : Iq y) (q : Q (.bl (decide (t / (y.u * y.s) = n / (y.u * y.s)))) H) : wO CW [.ref x, .int t, .int n] H Q E := ⟨x, y, t, n, rfl, e, h, hb, q⟩
theorem JH (T : Txt K mg a) : a7 P w K mg base kj 1 a.c7 a.pP ["self", "time", "now"] (wO a.ak) := by
 have n3 := T.dH; have cl := T.bE
 refine T.km.ok yd (fun vs H Q E h => ?_) (fun dB A outer s H vs Q E hr h => ?_)
 . obtain ⟨_, _, _, _, rfl, _⟩ := h; rfl
 . obtain ⟨_, y, t, n, rfl, rfl, hw, ⟨Kt, Qk, Y7, Nh⟩, q⟩ := h
   obtain ⟨dx, hx⟩ := hw.i
   have hi : sv H (.ref y.x) a.ak [("unit", .int y.u), ("slots", .int y.s), ("span", .int (y.u * y.s)), ("mask", .int y.m), ("names_in", .ref y.dn)] := ⟨y.x, dx, rfl, hx⟩
   have UG : 0 < y.u * y.s := Int.mul_pos Kt (by omega)
   have hle : y.u * y.s <= 10 ^ 12 * 60 := Int.mul_le_mul Qk Nh (by omega) (by decide)
   generalize y.u * y.s = sp at *
   refine ⟨_, (ao (aI (OD (j9 hr.AV) (ay aO (pv 1) (aD (pv 0) rfl)) (ay aO (pv 2) (aD (pv 0) rfl)) (aR _)))), ?_⟩
   repeat' (walk_at "rd1")
   have e : decide (V.int (t / sp) = V.int (n / sp)) = decide (t / sp = n / sp) := by simp
   show Q (.bl (decide (V.int (t / sp) = V.int (n / sp)))) H
   rw [e]; exact q
theorem zM (T : Txt K mg a) : gk P w K mg base 1 a.c7 ["self", "time", "now"] [] (wO a.ak) :=
 ⟨⟨_, _, JH T, T.km.binds fun _ _ _ _ _ _ => .all fun us hl => match us, hl with | [_, _, _], _ => rfl, .nil⟩⟩
def d9 (y : Wh) (t : Int) : Int := t / y.u % y.s
theorem s9 {y : Wh} (h : Iq y) (t : Int) : 0 <= d9 y t := Int.emod_nonneg _ (by have := h.2.2.1; omega)
theorem yB {y : Wh} (h : Iq y) (t : Int) : d9 y t < y.s := Int.emod_lt_of_pos _ (by have := h.2.2.1; omega)
def u0 (CW : Addr) : Sp := fun vs H Q _ => ∃ (x : Addr) (y : Wh) (t : Int), vs = [.ref x, .int t] /\ x = y.x /\ gg CW H y /\ Iq y /\ Q (.int (d9 y t)) H
theorem x6 {CW x : Addr} {H : Hp} {Q : VK} {E : XK} {y : Wh} {t : Int} (e : x = y.x) (h : gg CW H y) (hb : Iq y) (q : Q (.int (d9 y t)) H) : u0 CW [.ref x, .int t] H Q E := ⟨x, y, t, rfl, e, h, hb, q⟩
theorem Io (T : Txt K mg a) : a7 P w K mg base kj 1 a.b7 a.kG ["self", "time"] (u0 a.ak) := by
 have n1 := T.eT; have n2 := T.d8; have cl := T.bE
 refine T.ia.ok uV (fun vs H Q E h => ?_) (fun dB A outer s H vs Q E hr h => ?_)
 . obtain ⟨_, _, _, rfl, _⟩ := h; rfl
 . obtain ⟨_, y, t, rfl, rfl, hw, ⟨Kt, Qk, Y7, Nh⟩, q⟩ := h
   obtain ⟨dx, hx⟩ := hw.i
   have hi : sv H (.ref y.x) a.ak [("unit", .int y.u), ("slots", .int y.s), ("span", .int (y.u * y.s)), ("mask", .int y.m), ("names_in", .ref y.dn)] := ⟨y.x, dx, rfl, hx⟩
   refine ⟨_, (ao (aI (ay aM (ay aO (pv 1) (aD (pv 0) rfl)) (aD (pv 0) rfl)))), ?_⟩
   repeat' (walk_at "rd1")
   exact q
theorem rR (T : Txt K mg a) : gk P w K mg base 1 a.b7 ["self", "time"] [] (u0 a.ak) :=
 ⟨⟨_, _, Io T, T.ia.binds fun _ _ _ _ _ _ => .all fun us hl => match us, hl with | [_, _], _ => rfl, .nil⟩⟩
def qu (cs : List Sl) (slot : Int) (pd : Addr) : List Sl := if (cs.any fun c => decide (c.k = slot)) = true then cs else cs ++ [⟨slot, pd, []⟩]
theorem xq (cs : List Sl) (slot : Int) (pd : Addr) (x : Str) : (qu cs slot pd).map (mC slot x) = nX cs slot pd x := by
 unfold qu nX
 split
 . rfl
 . rename_i h
   rw [List.map_append]
   have e1 : cs.map (mC slot x) = cs := by
    conv => rhs; rw [<- List.map_id cs]
    refine List.map_congr_left fun c hc => ?_
    unfold mC
    rw [if_neg fun z => h (g9.mpr ⟨c, hc, z⟩)]; rfl
   rw [e1]
   simp [mC]
theorem Jq (cs : List Sl) (slot : Int) (pd : Addr) : ∃ c ∈ qu cs slot pd, c.k = slot := by
 unfold qu
 split
 . rename_i h; exact g9.mp h
 . exact ⟨_, List.mem_append_right _ (List.mem_singleton.mpr rfl), rfl⟩
theorem Ge {cs : List Sl} {slot : Int} {pd : Addr} (h : (cs.map (·.k)).Nodup) : ((qu cs slot pd).map (·.k)).Nodup := by
 unfold qu
 split
 . exact h
 . rename_i hn
   rw [List.map_append, List.nodup_append]
   refine ⟨h, by simp, fun a ha b hb => ?_⟩
   obtain ⟨c, hc, rfl⟩ := List.mem_map.mp ha
   have hb : b = slot := by simpa using hb
   rw [hb]; exact fun z => hn (g9.mpr ⟨c, hc, z⟩)
def BU (CW : Addr) : Sp := fun vs H Q _ => ∃ (z : Addr) (y : Wh) (x : Str) (t : Int), vs = [.ref z, .str x, .int t] /\ z = y.x /\ gg CW H y /\ Iq y /\ y.foot.Nodup /\ (y.cs.map (·.k)).Nodup /\ y.cs.length <= 100 /\ (∀ c ∈ y.cs, c.ns.length <= 3000 /\ (c.k = d9 y t -> x ∉ c.ns)) /\
 ∀ H' pd, Mv y.foot H H' -> gg CW H' (y.t6 (d9 y t) (Builtin.bitOr y.m (1 * 2 ^ (d9 y t).toNat)) pd x) -> (y.t6 (d9 y t) (Builtin.bitOr y.m (1 * 2 ^ (d9 y t).toNat)) pd x).foot.Nodup -> (∀ b ∈ (y.t6 (d9 y t) (Builtin.bitOr y.m (1 * 2 ^ (d9 y t).toNat)) pd x).foot, b ∈ y.foot \/ H b = none) -> Q .bG H'
theorem Kp (T : Txt K mg a) : a7 P w K mg base kj 2 a.cF a.mW ["self", "name", "time"] (BU a.ak) := by
 have n1 := T.bA; have n2 := T.cn; have cl := T.bE
 have k7 := T.fb
 have kW := rR (P := P) (w := w) (base := base) T
 refine T.jo.ok nM (fun vs H Q E h => ?_) (fun dB A outer s H vs Q E hr h => ?_)
 . obtain ⟨_, _, _, _, rfl, _⟩ := h; rfl
 . obtain ⟨_, y, x, t, rfl, rfl, hw, hb, A7, B3, Nr, G4, q⟩ := h
   obtain ⟨dx, hx⟩ := hw.i
   have hi : sv H (.ref y.x) a.ak [("unit", .int y.u), ("slots", .int y.s), ("span", .int (y.u * y.s)), ("mask", .int y.m), ("names_in", .ref y.dn)] := ⟨y.x, dx, rfl, hx⟩
   have s0 := s9 hb t
   have s1 := yB hb t
   have s2 := hb.2.2.2
   refine ⟨_, (aq (aC (i := 3) nM.nd rfl (Or.inl rfl) (bH (pv 0) cl k7 kW (hr.mono (by decide)) (af (pv 2) ai)))
    (gZ (bT (EV (zN (gm hr) (pv 3) (aD (pv 0) rfl)) rfl)
     (ao (tU (gm hr) (aD (pv 0) rfl) (pv 3) sX rfl))
     aQ)
    (aq (tU (gm hr) (mO (gm hr) (aD (pv 0) rfl) (pv 3) (fun _ _ => rfl)) (pv 1) rp rfl)
    (ao (gB (pv 0) (ay Wy (aD (pv 0) rfl) (ay AU aj (pv 3))) rfl))))), ?_⟩
   repeat' (walk_at "rd1")
   refine x6 rfl hw hb ?_
   generalize PY : d9 y t = slot at *
   refine o7 (fun σ' H' => ∃ pd, σ' = [some (.ref y.x), some (.str x), some (.int t), some (.int slot)] /\ Mv y.foot H H' /\ gg a.ak H' ⟨y.x, y.dn, y.u, y.s, y.m, qu y.cs slot pd⟩ /\ (∀ b ∈ Wh.foot ⟨y.x, y.dn, y.u, y.s, y.m, qu y.cs slot pd⟩, b ∈ y.foot \/ H b = none) /\ (Wh.foot ⟨y.x, y.dn, y.u, y.s, y.m, qu y.cs slot pd⟩).Nodup) ?_ ?_
   . repeat' (walk_at "rd1")
     by_cases hp : (y.cs.any fun c => decide (c.k = slot)) = true
     . obtain ⟨c, hc, hk⟩ := g9.mp hp
       refine ⟨y.dn, some (.ref c.p), rfl, by rw [<- pC B3 hc, hk]; exact g8.k (k := .inl slot) hw.d, false, rfl, ?_⟩
       repeat' (walk_at "rd1")
       have e : qu y.cs slot y.dn = y.cs := if_pos hp
       exact ⟨y.dn, rfl, Mv.refl, by rw [e]; exact hw, fun b hb => .inl (by rw [e] at hb; exact hb), by rw [e]; exact A7⟩
     . have jt : ∀ c ∈ y.cs, c.k ≠ slot := fun c hc z => hp (g9.mpr ⟨c, hc, z⟩)
       refine ⟨y.dn, none, rfl, by rw [<- LY jt]; exact g8.k (k := .inl slot) hw.d, true, rfl, ?_⟩
       repeat' (walk_at "rd1")
       rename_i pd H2 fA uG hd2
       have wu := hw.keeps fA
       have e : qu y.cs slot pd = y.cs ++ [⟨slot, pd, []⟩] := if_neg hp
       refine ⟨y.dn, _, rfl, CU.k (k := .inl slot) wu.d (by rw [Ng]; exact dQ (by omega)), ?_⟩
       have qv : Mv [y.dn] H2 (upd H2 y.dn (.dK (putK (uP y.cs) (.inl slot) (.ref pd)))) := .cO wu.d (by intro _ z; cases z)
       have yZ := hw.alive
       have Vd : ∀ b ∈ y.foot, b ≠ pd := fun b hb z => yZ b hb (z ▸ uG)
       have JK : pd ≠ y.dn := fun z => Vd y.dn (by simp [Wh.foot]) z.symm
       obtain ⟨f1, f2, f3⟩ := wm A7
       have Wk : (Wh.foot ⟨y.x, y.dn, y.u, y.s, y.m, qu y.cs slot pd⟩) = y.foot ++ [pd] := by
        unfold Wh.foot
        rw [e]; simp
       refine ⟨pd, rfl, (fA.mv).trans (bV qv fun b hb => ?_), ⟨?_, ?_, ?_⟩, fun b hb => ?_, ?_⟩
       . have : b = y.dn := by simpa using hb
         rw [this]; simp [Wh.foot]
       . obtain ⟨dx2, Mw⟩ := wu.i
         exact ⟨dx2, qv.at (by simpa using f1) Mw⟩
       . show upd H2 y.dn _ y.dn = some (.dK (uP (qu y.cs slot pd)))
         rw [au, e, P9 jt (ns := [])]
       . intro c hc
         have hc : c ∈ qu y.cs slot pd := hc
         rw [e] at hc
         rcases List.mem_append.mp hc with hc | hc
         . exact (wu.c c hc).mv qv (by simpa using (f2 c hc).2)
         . have hc : c = ⟨slot, pd, []⟩ := by simpa using hc
           subst hc
           exact hd2.mv qv (by simpa using JK)
       . rw [Wk] at hb
         rcases List.mem_append.mp hb with hb | hb
         . exact .inl hb
         . have : b = pd := by simpa using hb
           exact .inr (this ▸ uG)
       . rw [Wk, List.nodup_append]
         refine ⟨A7, by simp, fun b hb b' yl => ?_⟩
         have : b' = pd := by simpa using yl
         rw [this]; exact Vd b hb
   . rintro σ' H' ⟨pd, rfl, mv, F7, S9, V1⟩
     obtain ⟨YH, vK⟩ := F7.i
     have Fy : sv H' (.ref y.x) a.ak [("unit", .int y.u), ("slots", .int y.s), ("span", .int (y.u * y.s)), ("mask", .int y.m), ("names_in", .ref y.dn)] := ⟨y.x, YH, rfl, vK⟩
     repeat' (walk_at "rd1")
     obtain ⟨c, hc, hk⟩ := Jq y.cs slot pd
     have hcx : x ∉ c.ns /\ c.ns.length <= 3000 := by
      have kz := hc
      unfold qu at kz
      split at kz
      . exact ⟨(G4 c kz).2 hk, (G4 c kz).1⟩
      . rcases List.mem_append.mp kz with kz | kz
        . exact ⟨(G4 c kz).2 hk, (G4 c kz).1⟩
        . have kz : c = ⟨slot, pd, []⟩ := by simpa using kz
          subst kz
          exact ⟨by simp, by simp⟩
     refine ⟨y.dn, .ref c.p, rfl, by rw [<- pC (Ge B3) hc, hk]; exact g8.k (k := .inl slot) F7.d, ?_⟩
     repeat' (walk_at "rd1")
     refine La (F7.c c hc) (by rw [Nc]; omega) (.bl true) rfl (fun H2 lK hd2 => ?_)
     rw [Nv hcx.1] at hd2
     obtain ⟨f1, f2, f3⟩ := wm V1
     have Mw := lK.at (by simpa using Ne.symm (f2 c hc).1) vK
     have LI : sv H2 (.ref y.x) a.ak [("unit", .int y.u), ("slots", .int y.s), ("span", .int (y.u * y.s)), ("mask", .int y.m), ("names_in", .ref y.dn)] := ⟨y.x, YH, rfl, Mw⟩
     repeat' (walk_at "rd1")
     refine Vm ⟨s0, by omega, by decide⟩ ?_
     repeat' (walk_at "rd1")
     have qv : Mv [y.x] H2 (upd H2 y.x (.ins a.ak YH (ML y.u y.s (Builtin.bitOr y.m (1 * 2 ^ slot.toNat)) y.dn))) := .cO Mw (by intro _ z; cases z)
     have ef : (y.t6 slot (Builtin.bitOr y.m (1 * 2 ^ slot.toNat)) pd x).foot = Wh.foot ⟨y.x, y.dn, y.u, y.s, y.m, qu y.cs slot pd⟩ := by
      unfold Wh.foot Wh.t6
      rw [<- xq, List.map_map, show (Sl.p ∘ mC slot x) = Sl.p from funext (E1 slot x)]
     have ZK : y.x ∈ y.foot := by simp [Wh.foot]
     have hcp : c.p ∈ y.foot \/ H c.p = none := S9 c.p (List.mem_cons_of_mem _ (List.mem_cons_of_mem _ (List.mem_map_of_mem (f := (·.p)) hc)))
     refine q _ pd (Mv.step (Mv.step mv lK fun b hb => (List.mem_singleton.mp hb) ▸ hcp) qv fun b hb => .inl ((List.mem_singleton.mp hb) ▸ ZK)) ⟨⟨YH, au⟩, ?_, ?_⟩ (by rw [ef]; exact V1) (by rw [ef]; exact S9)
     . show upd H2 y.x _ y.dn = some (.dK (uP (nX y.cs slot pd x)))
       rw [<- xq, Gf (mI slot x) (E1 slot x)]
       exact qv.at (by simpa using Ne.symm f1) (lK.at (by simpa using Ne.symm (f2 c hc).2) F7.d)
     . intro d hd
       have hd : d ∈ nX y.cs slot pd x := hd
       rw [<- xq] at hd
       obtain ⟨d0, EB, rfl⟩ := List.mem_map.mp hd
       have hpx : (mC slot x d0).p ≠ y.x := by rw [E1]; exact (f2 d0 EB).1
       by_cases e : d0 = c
       . subst e
         have : mC slot x d0 = ⟨d0.k, d0.p, d0.ns ++ [x]⟩ := if_pos hk
         rw [this]
         exact hd2.mv qv (by simpa using (f2 d0 EB).1)
       . have hk0 : d0.k ≠ slot := fun z => e (Gi (Ge B3) EB hc (z.trans hk.symm))
         have : mC slot x d0 = d0 := if_neg hk0
         rw [this]
         exact ((F7.c d0 EB).mv lK (by simpa using fun z => e (Ra f3 EB hc z))).mv qv (by simpa using (f2 d0 EB).1)
theorem Hh (T : Txt K mg a) : gk P w K mg base 2 a.cF ["self", "name", "time"] [] (BU a.ak) :=
 ⟨⟨_, _, Kp T, T.jo.binds fun _ _ _ _ _ _ => .all fun us hl => match us, hl with | [_, _, _], _ => rfl, .nil⟩⟩
theorem Ep (cs : List Sl) (slot : Int) (x : Str) (nZ : ∀ c ∈ cs, c.ns ≠ []) (he : ∀ c ∈ cs, c.k = slot -> (c.ns.filter fun y => !decide (y = x)) = []) : iW (cs.map (c9 slot x)) slot = vR cs slot x := by
 unfold iW vR
 refine List.filter_congr fun c hc => ?_
 obtain ⟨c0, wz, rfl⟩ := List.mem_map.mp hc
 rw [eC]
 unfold c9
 split
 . rename_i h
   simp only [h, he c0 wz h]
   rfl
 . rename_i h
   have := nZ c0 wz
   cases e : c0.ns with
   | nil => exact absurd e this
   | cons => simp [h]
theorem Hx (cs : List Sl) (slot : Int) (x : Str) (nZ : ∀ c ∈ cs, c.ns ≠ []) (he : ∀ c ∈ cs, c.k = slot -> (c.ns.filter fun y => !decide (y = x)) ≠ []) : cs.map (c9 slot x) = vR cs slot x := by
 unfold vR
 rw [eq_comm, List.filter_eq_self]
 intro c hc
 obtain ⟨c0, wz, rfl⟩ := List.mem_map.mp hc
 unfold c9
 split
 . rename_i h
   have := he c0 wz h
   cases e : c0.ns.filter fun y => !decide (y = x) with
   | nil => exact absurd e this
   | cons => simp
 . rename_i h
   have := nZ c0 wz
   cases e : c0.ns with
   | nil => exact absurd e this
   | cons => simp
theorem HF (cs : List Sl) (slot : Int) : ((iW cs slot).map (·.p)).Sublist (cs.map (·.p)) := (List.filter_sublist).map _
theorem A0 (w : Wh) (slot m : Int) : (w.emptied slot m).foot.Sublist w.foot := by
 unfold Wh.foot Wh.emptied
 exact ((HF w.cs slot).cons₂ _).cons₂ _
def Dz (CW : Addr) : Sp := fun vs H Q _ => ∃ (z : Addr) (y : Wh) (slot : Int) (c : Sl), vs = [.ref z, .int slot] /\ z = y.x /\ gg CW H y /\ Iq y /\ y.foot.Nodup /\ (y.cs.map (·.k)).Nodup /\ c ∈ y.cs /\ c.k = slot /\ 0 <= slot /\ slot < 60 /\
 ∀ l H', Mv y.foot H H' -> gg CW H' (y.emptied slot (Builtin.bitXor y.m (1 * 2 ^ slot.toNat))) -> H l = none -> dJ H' l (c.ns.map PyData.str) -> Q (.ref l) H'
theorem Jk (T : Txt K mg a) : a7 P w K mg base kj 1 a.c3 a.oq ["self", "slot"] (Dz a.ak) := by
 have n1 := T.bA; have n2 := T.cn; have cl := T.bE
 refine T.ku.ok xQ (fun vs H Q E h => ?_) (fun dB A outer s H vs Q E hr h => ?_)
 . obtain ⟨_, _, _, _, rfl, _⟩ := h; rfl
 . obtain ⟨_, y, slot, c, rfl, rfl, hw, hb, A7, B3, hc, hk, s0, s1, q⟩ := h
   obtain ⟨dx, hx⟩ := hw.i
   have hi : sv H (.ref y.x) a.ak [("unit", .int y.u), ("slots", .int y.s), ("span", .int (y.u * y.s)), ("mask", .int y.m), ("names_in", .ref y.dn)] := ⟨y.x, dx, rfl, hx⟩
   obtain ⟨f1, f2, f3⟩ := wm A7
   refine ⟨_, (aq (gB (pv 0) (ay KI (aD (pv 0) rfl) (ay AU aj (pv 1))) rfl)
    (ao (aI (Hv (DL rfl) rfl T.qf PyProof.Rows.boot_list (af (je PySem.F.plainAttrs_dict PySem.F.slot_dict_pop PySem.F.type_dict_pop qd (aD (pv 0) rfl) (af (pv 1) ai)) ai))))), ?_⟩
   repeat' (walk_at "rd1")
   refine Vm ⟨s0, by omega, by decide⟩ ?_
   repeat' (walk_at "rd1")
   have qc : Mv [y.x] H (upd H y.x (.ins a.ak dx (ML y.u y.s (Builtin.bitXor y.m (1 * 2 ^ slot.toNat)) y.dn))) := .cO hx (by intro _ z; cases z)
   have MS : upd H y.x (.ins a.ak dx (ML y.u y.s (Builtin.bitXor y.m (1 * 2 ^ slot.toNat)) y.dn)) y.x = some (.ins a.ak dx (ML y.u y.s (Builtin.bitXor y.m (1 * 2 ^ slot.toNat)) y.dn)) := au
   have ep : iI "mask" (.int (Builtin.bitXor y.m (1 * 2 ^ slot.toNat))) (ML y.u y.s y.m y.dn) = ML y.u y.s (Builtin.bitXor y.m (1 * 2 ^ slot.toNat)) y.dn := by unfold ML; walk_at "put"
   rw [ep]
   have yG := qc.at (by simpa using Ne.symm f1) hw.d
   have Tb : ∀ d ∈ y.cs, la _ d.p (BL d.ns) := fun d hd => (hw.c d hd).mv qc (by simpa using (f2 d hd).1)
   generalize upd H y.x (.ins a.ak dx (ML y.u y.s (Builtin.bitXor y.m (1 * 2 ^ slot.toNat)) y.dn)) = H1 at *
   refine ⟨.inr (.inr (.inl ⟨rfl, .inl ⟨_, yG⟩⟩)), ?_⟩
   repeat' (walk_at "rd1")
   refine ⟨y.dn, uP y.cs, .inl slot, .ref c.p, rfl, rfl, yG, by rw [<- hk]; exact pC B3 hc, ?_⟩
   rw [JQ]
   have lK : Mv [y.dn] H1 (upd H1 y.dn (.dK (uP (iW y.cs slot)))) := .cO yG (by intro _ z; cases z)
   have hd2 : upd H1 y.dn (.dK (uP (iW y.cs slot))) y.dn = some (.dK (uP (iW y.cs slot))) := au
   have Mw := lK.at (by simpa using f1) MS
   have IE : ∀ d ∈ y.cs, la _ d.p (BL d.ns) := fun d hd => (Tb d hd).mv lK (by simpa using (f2 d hd).2)
   generalize upd H1 y.dn (.dK (uP (iW y.cs slot))) = H2 at *
   repeat' (walk_at "rd1")
   refine NV (IE c hc).rd (fun l H3 sm3 DC Ph => ?_)
   repeat' (walk_at "rd1")
   have ZK : y.x ∈ y.foot := by simp [Wh.foot]
   have hfd : y.dn ∈ y.foot := by simp [Wh.foot]
   have mv : Mv y.foot H H2 := (bV qc fun b hb => (List.mem_singleton.mp hb) ▸ ZK).trans (bV lK fun b hb => (List.mem_singleton.mp hb) ▸ hfd)
   refine q l H3 (mv.iq sm3) ⟨⟨dx, sm3 _ _ Mw⟩, sm3 _ _ hd2, fun d hd => (IE d (List.mem_filter.mp hd).1).keeps sm3⟩ (mv.none DC) ?_
   have e : (BL c.ns).map (·.1) = c.ns := by unfold BL; rw [List.map_map]; exact List.map_id _
   rw [e] at Ph; exact Ph
theorem Ai (T : Txt K mg a) : gk P w K mg base 1 a.c3 ["self", "slot"] [] (Dz a.ak) :=
 ⟨⟨_, _, Jk T, T.ku.binds fun _ _ _ _ _ _ => .all fun us hl => match us, hl with | [_, _], _ => rfl, .nil⟩⟩
theorem Jo (cs : List Sl) (slot : Int) (x : Str) : ((vR cs slot x).map (·.p)).Sublist (cs.map (·.p)) := by
 unfold vR
 have h := (List.filter_sublist (p := fun c : Sl => !c.ns.isEmpty) (l := cs.map (c9 slot x))).map (·.p)
 rwa [List.map_map, show (Sl.p ∘ c9 slot x) = Sl.p from funext (AX slot x)] at h
theorem Dk (w : Wh) (slot m : Int) (x : Str) : (w.iL slot m x).foot.Sublist w.foot := by
 unfold Wh.foot Wh.iL
 exact ((Jo w.cs slot x).cons₂ _).cons₂ _
def Fp (CW : Addr) : Sp := fun vs H Q _ => ∃ (z : Addr) (y : Wh) (x : Str) (t : Int) (c : Sl), vs = [.ref z, .str x, .int t] /\ z = y.x /\ gg CW H y /\ Iq y /\ y.foot.Nodup /\ (y.cs.map (·.k)).Nodup /\ (∀ d ∈ y.cs, d.ns ≠ []) /\ c ∈ y.cs /\ c.k = d9 y t /\ x ∈ c.ns /\
 ∀ H' m, Mv y.foot H H' -> gg CW H' (y.iL (d9 y t) m x) -> (fq y -> fq (y.iL (d9 y t) m x)) -> Q .bG H'
theorem O5 (T : Txt K mg a) : a7 P w K mg base kj 2 a.bN a.jZ ["self", "name", "time"] (Fp a.ak) := by
 have n1 := T.bA; have n2 := T.cn; have cl := T.bE
 have k7 := T.fb; have Ba := T.kq
 have kW := rR (P := P) (w := w) (base := base) T
 have BH := Ai (P := P) (w := w) (base := base) T
 refine T.gv.ok jF (fun vs H Q E h => ?_) (fun dB A outer s H vs Q E hr h => ?_)
 . obtain ⟨_, _, _, _, _, rfl, _⟩ := h; rfl
 . obtain ⟨_, y, x, t, c, rfl, rfl, hw, hb, A7, B3, nZ, hc, hk, Ko, q⟩ := h
   obtain ⟨dx, hx⟩ := hw.i
   have hi : sv H (.ref y.x) a.ak [("unit", .int y.u), ("slots", .int y.s), ("span", .int (y.u * y.s)), ("mask", .int y.m), ("names_in", .ref y.dn)] := ⟨y.x, dx, rfl, hx⟩
   obtain ⟨f1, f2, f3⟩ := wm A7
   have s0 := s9 hb t
   have s1 := yB hb t
   have s2 := hb.2.2.2
   refine ⟨_, (aq (aC (i := 3) jF.nd rfl (Or.inl rfl) (bH (pv 0) cl k7 kW (hr.mono (by decide)) (af (pv 2) ai)))
    (aq (a9 (je PySem.F.plainAttrs_dict PySem.F.slot_dict_pop PySem.F.type_dict_pop qd (mO (gm hr) (aD (pv 0) rfl) (pv 3) (fun _ _ => rfl)) (af (pv 1) ai)))
    (ao (bT (ic (dG (mO (gm hr) (aD (pv 0) rfl) (pv 3) (fun _ _ => rfl)) (fun _ => rfl)))
     (ao (a9 (bH (pv 0) cl Ba BH (hr.mono (by decide)) (af (pv 3) ai))))
     aQ)))), ?_⟩
   repeat' (walk_at "rd1")
   refine x6 rfl hw hb ?_
   generalize PY : d9 y t = slot at *
   repeat' (walk_at "rd1")
   refine ⟨y.dn, .ref c.p, rfl, by rw [<- pC B3 hc, hk]; exact g8.k (k := .inl slot) hw.d, ?_⟩
   have hdc := hw.c c hc
   refine B7 hdc ?_
   repeat' (walk_at "rd1")
   refine Bx hdc (KL Ko) (fun v1 H1 qc yG => ?_)
   rw [Jz] at yG
   have MS := qc.at (by simpa using Ne.symm (f2 c hc).1) hx
   have Ed : sv H1 (.ref y.x) a.ak [("unit", .int y.u), ("slots", .int y.s), ("span", .int (y.u * y.s)), ("mask", .int y.m), ("names_in", .ref y.dn)] := ⟨y.x, dx, rfl, MS⟩
   have X9 := qc.at (by simpa using Ne.symm (f2 c hc).2) hw.d
   have kvt : uP (y.cs.map (c9 slot x)) = uP y.cs := Gf (eC slot x) (AX slot x)
   have gS : gg a.ak H1 ⟨y.x, y.dn, y.u, y.s, y.m, y.cs.map (c9 slot x)⟩ := by
    refine ⟨⟨dx, MS⟩, ?_, fun d hd => ?_⟩
    . show H1 y.dn = some (.dK (uP (y.cs.map (c9 slot x))))
      rw [kvt]; exact X9
    . obtain ⟨d0, EB, rfl⟩ := List.mem_map.mp hd
      by_cases e : d0 = c
      . subst e
        have : c9 slot x d0 = ⟨d0.k, d0.p, d0.ns.filter fun y => !decide (y = x)⟩ := if_pos hk
        rw [this]; exact yG
      . have hk0 : d0.k ≠ slot := fun z => e (Gi B3 EB hc (z.trans hk.symm))
        have : c9 slot x d0 = d0 := if_neg hk0
        rw [this]
        exact (hw.c d0 EB).mv qc (by simpa using fun z => e (Ra f3 EB hc z))
   have hcp : c.p ∈ y.foot := List.mem_cons_of_mem _ (List.mem_cons_of_mem _ (List.mem_map_of_mem (f := (·.p)) hc))
   have LC : Mv y.foot H H1 := bV qc fun b hb => (List.mem_singleton.mp hb) ▸ hcp
   have huq : ∀ d ∈ y.cs, d.k = slot -> d = c := fun d hd z => Gi B3 hd hc (z.trans hk.symm)
   repeat' (walk_at "rd1")
   refine ⟨y.dn, .ref c.p, rfl, by rw [<- pC B3 hc, hk]; exact g8.k (k := .inl slot) X9, ?_⟩
   refine Fj yG ?_
   repeat' (walk_at "rd1")
   . rename_i Us
     have he : (c.ns.filter fun y => !decide (y = x)) = [] := by
      cases e : c.ns.filter fun y => !decide (y = x) with
      | nil => rfl
      | cons => rw [e] at Us; simp [BL] at Us
     have ef : Wh.foot ⟨y.x, y.dn, y.u, y.s, y.m, y.cs.map (c9 slot x)⟩ = y.foot := by
      unfold Wh.foot
      rw [List.map_map, show (Sl.p ∘ c9 slot x) = Sl.p from funext (AX slot x)]
     refine ⟨y.x, ⟨y.x, y.dn, y.u, y.s, y.m, y.cs.map (c9 slot x)⟩, slot, c9 slot x c, rfl, rfl, gS, hb, by rw [ef]; exact A7, ?_, List.mem_map_of_mem hc, by rw [eC]; exact hk, s0, by omega, fun l H2 lK wu _ _ => ?_⟩
     . rw [List.map_map, show (Sl.k ∘ c9 slot x) = Sl.k from funext (eC slot x)]; exact B3
     . repeat' (walk_at "rd1")
       rw [ef] at lK
       have edr := Ep y.cs slot x nZ fun d hd z => by rw [huq d hd z]; exact he
       refine q H2 (Builtin.bitXor y.m (1 * 2 ^ slot.toNat)) (LC.trans lK) ?_ fun hm => ?_
       . have := wu
         unfold Wh.emptied at this
         rw [edr] at this
         exact this
       . have := wW (w := ⟨y.x, y.dn, y.u, y.s, y.m, y.cs.map (c9 slot x)⟩) (slot := slot) ⟨hm.1, fun i => (hm.2 i).trans (B9 ⟨fun ⟨d, hd, e⟩ => ⟨_, List.mem_map_of_mem hd, by rw [eC]; exact e⟩, fun ⟨d, hd, e⟩ => by obtain ⟨d0, EB, rfl⟩ := List.mem_map.mp hd; rw [eC] at e; exact ⟨d0, EB, e⟩⟩)⟩ s0 (List.mem_map_of_mem hc) (by rw [eC]; exact hk)
         unfold Wh.emptied at this
         rw [edr] at this
         exact this
   . rename_i Us
     have he : (c.ns.filter fun y => !decide (y = x)) ≠ [] := fun e => by rw [e] at Us; simp [BL] at Us
     have ekp := Hx y.cs slot x nZ fun d hd z => by rw [huq d hd z]; exact he
     refine q H1 y.m LC ?_ fun hm => ?_
     . unfold Wh.iL
       rw [<- ekp]
       exact gS
     . unfold Wh.iL
       rw [<- ekp]
       exact ⟨hm.1, fun i => (hm.2 i).trans (B9 ⟨fun ⟨d, hd, e⟩ => ⟨_, List.mem_map_of_mem hd, by rw [eC]; exact e⟩, fun ⟨d, hd, e⟩ => by obtain ⟨d0, EB, rfl⟩ := List.mem_map.mp hd; rw [eC] at e; exact ⟨d0, EB, e⟩⟩)⟩
theorem JF (T : Txt K mg a) : gk P w K mg base 2 a.bN ["self", "name", "time"] [] (Fp a.ak) :=
 ⟨⟨_, _, O5 T, T.gv.binds fun _ _ _ _ _ _ => .all fun us hl => match us, hl with | [_, _, _], _ => rfl, .nil⟩⟩
def Ce : Sp := fun vs H Q _ => ∃ (f : Addr) (dc : List (Int × Str)) (v : V) (c : Int × Str), vs = [.ref f, v] /\ dJ H f (dc.map pairD) /\ Dv H v (pairD c) /\ dc.length <= 3000 /\ (dc.Pairwise fun c d => aS d c = true) /\ ∀ i : Nat, Y5 dc c i -> Q (.int i) H
theorem MB (T : Txt K mg a) : a7 P w K mg base kj 1 a.d6 a.vF ["row", "pair"] Ce := by
 refine T.sg.ok fx (fun vs H Q E h => ?_) (fun dB A outer s H vs Q E hr h => ?_)
 . obtain ⟨_, _, _, _, rfl, _⟩ := h; rfl
 . obtain ⟨f, dc, v, c, rfl, hf, hv, hlen, QF, q⟩ := h
   have Zw : (dc.map pairD).length = dc.length := List.length_map ..
   refine ⟨_, (aq (aC (i := 2) fx.nd rfl (Or.inl rfl) aj)
    (aq (aC (i := 3) fx.nd rfl (Or.inl rfl) (aZ eE rfl T.hZ PySem.boot_len (af (pv 0) ai)))
    (aq (yc PassesOwn.never (aJ xA (pv 2) (pv 3) (aR _))
     (aq (aC (i := 4) fx.nd rfl (Or.inl rfl) (ay aO (ay dX (pv 2) (pv 3)) aj))
     (ao (bT (aJ (SK (Nat.lt_of_succ_lt (gm hr))) (aW cL (pv 0) (pv 4) (fun _ _ => rfl)) (pv 1) (aR _))
      (ao (aC (i := 2) fx.nd rfl (Or.inl rfl) (ay dX (pv 4) aj)))
      (ao (aC (i := 3) fx.nd rfl (Or.inl rfl) (pv 4)))))))
    (ao (aI (pv 2)))))), ?_⟩
   repeat' (walk_at "rd1")
   refine Bo (fun m σ' H' => ∃ (lo hi : Nat) (z : Option V), σ' = [some (.ref f), some v, some (.int lo), some (.int hi), z] /\ H' = H /\ m = hi - lo /\ lo <= hi /\ hi <= dc.length /\ (∀ j d, j < lo -> dc[j]? = some d -> aS c d = true) /\ ∀ j d, hi <= j -> dc[j]? = some d -> aS c d = false) ⟨dc.length, 0, dc.length, none, rfl, rfl, rfl, Nat.zero_le _, Nat.le_refl _, fun j d h => by omega, fun j d h hd => by have := (List.getElem?_eq_some_iff.mp hd).1; omega⟩ ?_
   rintro m σ' H' ⟨lo, hi, z, rfl, rfl, rfl, h1, h2, h3, h4⟩
   repeat' (walk_at "rd1")
   . rename_i hb x hx
     have Yp : ((lo : Int) + hi) / 2 = (((lo + hi) / 2 : Nat) : Int) := by omega
     have Xe : (lo + hi) / 2 < dc.length := by omega
     have Ru : lo <= (lo + hi) / 2 := by omega
     have hm2 : (lo + hi) / 2 < hi := by omega
     rw [Yp, Int.toNat_natCast, List.getD_eq_getElem?_getD, List.getElem?_eq_getElem Xe, Option.getD_some] at hx
     rw [Yp]
     have yJ : dc[(lo + hi) / 2]? = some dc[(lo + hi) / 2] := List.getElem?_eq_getElem Xe
     generalize dc[(lo + hi) / 2] = e at hx yJ
     generalize (lo + hi) / 2 = mid at *
     refine Wc hx hv ?_
     have pw := List.pairwise_iff_getElem.mp QF
     have pw2 : ∀ i j d1 d2, i < j -> dc[i]? = some d1 -> dc[j]? = some d2 -> aS d2 d1 = true := fun i j d1 d2 vQ e1 e2 => by
      obtain ⟨a1, rfl⟩ := List.getElem?_eq_some_iff.mp e1
      obtain ⟨a2, rfl⟩ := List.getElem?_eq_some_iff.mp e2
      exact pw i j a1 a2 vQ
     repeat' (walk_at "rd1")
     . rename_i eI
       refine ⟨hi - (mid + 1), by omega, mid + 1, hi, some (.int mid), rfl, rfl, rfl, by omega, h2, fun j d hj hd => ?_, h4⟩
       by_cases e1 : j = mid
       . subst e1
         rw [yJ] at hd; cases hd; exact eI
       . exact rZ eI (pw2 j mid d e (by omega) hd yJ)
     . rename_i eI
       refine ⟨mid - lo, by omega, lo, mid, some (.int mid), rfl, rfl, rfl, Ru, by omega, h3, fun j d hj hd => ?_⟩
       by_cases e1 : j = mid
       . subst e1
         rw [yJ] at hd; cases hd
         exact eI
       . cases e2 : aS c d with
         | false => rfl
         | true => rw [rZ e2 (pw2 mid j e d (by omega) yJ hd)] at eI; cases eI
   . rename_i hb
     have e : lo = hi := by omega
     subst e
     exact q lo ⟨h2, h3, h4⟩
theorem zF (T : Txt K mg a) : gk P w K mg base 1 a.d6 ["row", "pair"] [] Ce :=
 ⟨⟨_, _, MB T, T.sg.binds fun _ _ _ _ _ _ => .all fun us hl => match us, hl with | [_, _], _ => rfl, .nil⟩⟩
def VS (n : Int) (d q f m : Addr) : List (Str × V) := [("now", .int n), ("times", .ref d), ("wheels", .ref q), ("far", .ref f), ("moves", .ref m)]
def xl (C CW : Addr) : Sp := fun vs H Q _ => ∃ (p dx d m : Addr) (n : Int) (G : dU) (us : List (Int × Int)) (t nw : Int), vs = [.ref p, .int t, .int nw] /\ H p = some (.ins C dx (VS n d G.q G.f m)) /\ we CW H G /\ G.ws.map (fun w => (w.u, w.s)) = us /\ Ao us /\ ∀ H', az H H' -> Q (.int (fh us t nw : Nat)) H'
theorem Ei (T : Txt K mg a) : a7 P w K mg base kj 2 a.bB a.iV ["self", "time", "now"] (xl a.ag a.ak) := by
 have n1 := T.aX; have cl := T.aF
 have yP := zM (P := P) (w := w) (base := base) T
 refine T.fU.ok fm (fun vs H Q E h => ?_) (fun dB A outer s H vs Q E hr h => ?_)
 . obtain ⟨_, _, _, _, _, _, _, _, _, rfl, _⟩ := h; rfl
 . obtain ⟨p, dx, d, m, n, G, us, t, nw, rfl, hp, hg, An, aP, q⟩ := h
   have hi : sv H (.ref p) a.ag [("now", .int n), ("times", .ref d), ("wheels", .ref G.q), ("far", .ref G.f), ("moves", .ref m)] := ⟨p, dx, rfl, hp⟩
   have Fd : us.length = G.ws.length := by rw [<- An, List.length_map]
   refine ⟨_, (aq (gC PassesOwn.never rfl (FI rfl T.fW (af (aD (pv 0) rfl) ai)) (uR (n := 2) rfl (cK (aT (i := 3) fm.nd rfl (Or.inl rfl)) (cK (aT (i := 4) fm.nd rfl (Or.inl rfl)) lR)))
    (ao (bT (dG (bH (pv 4) T.bE T.j5 yP (hr.mono (by decide)) (af (pv 1) (af (pv 2) ai))) (fun _ => rfl))
     (ao (aI (pv 3)))
     aQ)))
    (ao (aI (aZ eE rfl T.hZ PySem.boot_len (af (aD (pv 0) rfl) ai))))), ?_⟩
   repeat' (walk_at "rd1")
   refine WR (xs := G.ws.map fun w => V.ref w.x) (fun i σ' H' => ∃ z1 z2, σ' = [some (.ref p), some (.int t), some (.int nw), z1, z2] /\ az H H' /\ ∀ j q, j < i -> us[j]? = some q -> ¬ t / (q.1 * q.2) = nw / (q.1 * q.2)) ⟨_, _, rfl, az.refl _, fun j q h => by omega⟩ (fun i σ' H' _ ⟨_, _, _, sm, _⟩ => sm _ _ hg.q) ?_ ?_
   . rintro i x tt σ' H' hx ⟨z1, z2, rfl, sm, jt⟩ VD
     obtain ⟨y, hy, rfl⟩ : ∃ y, G.ws[i]? = some y /\ V.ref y.x = x := by
      rw [List.getElem?_map] at hx
      cases e : G.ws[i]? with
      | none => rw [e] at hx; cases hx
      | some y => rw [e] at hx; exact ⟨y, rfl, Option.some.inj hx⟩
     have hui : us[i]? = some (y.u, y.s) := by rw [<- An, List.getElem?_map, hy]; rfl
     have fA : az H (upd H' tt (.tup [.int (i : Int), .ref y.x])) := sm.trans (bw VD)
     refine T4 au ?_
     generalize upd H' tt (.tup [.int (i : Int), .ref y.x]) = H2 at *
     have BZ := (hg.w y (List.mem_of_getElem? hy)).keeps fA
     obtain ⟨NK, Ee⟩ := BZ.i
     have WC : sv H2 (.ref y.x) a.ak [("unit", .int y.u), ("slots", .int y.s), ("span", .int (y.u * y.s)), ("mask", .int y.m), ("names_in", .ref y.dn)] := ⟨y.x, NK, rfl, Ee⟩
     repeat' (walk_at "rd1")
     refine Fh rfl BZ (aP _ (List.mem_of_getElem? hui)) ?_
     repeat' (walk_at "rd1")
     . rename_i hb
       have e : fh us t nw = i := A2 jt (.inr ⟨_, hui, hb⟩)
       have := q H2 fA
       rw [e] at this
       exact this
     . rename_i hb
       refine ⟨_, _, rfl, fA, fun j q hj hq => ?_⟩
       by_cases e : j = i
       . subst e
         rw [hui] at hq; cases hq; exact hb
       . exact jt j q (by omega) hq
   . rintro σ' H' ⟨z1, z2, rfl, sm, jt⟩
     have Ed := hi.keeps sm
     have rS := sm _ _ hg.q
     repeat' (walk_at "rd1")
     refine Bj (.of rS) ?_
     rw [List.length_map] at jt ⊢
     have e : fh us t nw = G.ws.length := A2 jt (.inl Fd.symm)
     have := q H' sm
     rw [e] at this
     exact this
theorem vM (T : Txt K mg a) : gk P w K mg base 2 a.bB ["self", "time", "now"] [] (xl a.ag a.ak) :=
 ⟨⟨_, _, Ei T, T.fU.binds fun _ _ _ _ _ _ => .all fun us hl => match us, hl with | [_, _, _], _ => rfl, .nil⟩⟩
def Kd (C CW : Addr) : Sp := fun vs H Q _ => ∃ (p dx d m : Addr) (n : Int) (G : dU) (us : List (Int × Int)) (ts : List (Str × Int)) (x : Str) (t nw : Int), vs = [.ref p, .str x, .int t, .int nw] /\ H p = some (.ins C dx (VS n d G.q G.f m)) /\ we CW H G /\ GI us nw ts G /\ Ao us /\ p ∉ G.foot /\ x ∉ ts.map (·.1) /\ ts.length <= 2000 /\
 ∀ H' G', Mv G.foot H H' -> we CW H' G' -> GI us nw (ts ++ [(x, t)]) G' -> G'.q = G.q -> G'.f = G.f -> (∀ b ∈ G'.foot, b ∈ G.foot \/ H b = none) -> Q .bG H'
theorem Ms {ws : List Wh} {k : Nat} {y : Wh} (h : ws[k]? = some y) : uj (ws.map fun w => V.ref w.x) (k : Int) = some (.ref y.x) := by
 obtain ⟨hk, rfl⟩ := List.getElem?_eq_some_iff.mp h
 unfold uj E9
 rw [if_pos (by omega), List.length_map, if_pos (by omega)]
 simp [hk]
theorem U9 (T : Txt K mg a) : a7 P w K mg base kj 3 a.bD a.jk ["self", "name", "time", "now"] (Kd a.ag a.ak) := by
 have n1 := T.aX; have n2 := T.c6; have cl := T.aF
 have sh := T.fX
 have r9 := vM (P := P) (w := w) (base := base) T
 have yA := Hh (P := P) (w := w) (base := base) T
 have rN := zF (P := P) (w := w) (base := base) T
 refine T.fC.ok jc (fun vs H Q E h => ?_) (fun dB A outer s H vs Q E hr h => ?_)
 . obtain ⟨_, _, _, _, _, _, _, _, _, _, _, rfl, _⟩ := h; rfl
 . obtain ⟨p, dx, d, m, n, G, us, ts, x, t, nw, rfl, hp, hg, og, aP, Wk, hx, hlen, q⟩ := h
   have hi : sv H (.ref p) a.ag [("now", .int n), ("times", .ref d), ("wheels", .ref G.q), ("far", .ref G.f), ("moves", .ref m)] := ⟨p, dx, rfl, hp⟩
   have Fd := og.len
   refine ⟨_, (aq (aC (i := 4) jc.nd rfl (Or.inl rfl) (bH (pv 0) cl sh r9 (hr.mono (by decide)) (af (pv 2) (af (pv 3) ai))))
    (ao (bT (aJ xA (pv 4) (aZ eE rfl T.hZ PySem.boot_len (af (aD (pv 0) rfl) ai)) (aR _))
     (ao (a9 (bH (aW cL (aD (pv 0) rfl) (pv 4) (fun _ _ => rfl)) T.bE T.pA yA (hr.mono (by decide)) (af (pv 1) (af (pv 2) ai)))))
     (ao (a9 (je PySem.F.plainAttrs_list PySem.F.slot_list_insert PySem.F.type_list_insert HU (aD (pv 0) rfl) (af (bx rN (hr.mono (by decide)) rfl T.o3 T.oE (af (aD (pv 0) rfl) (af (fc (af (pv 2) (af (pv 1) ai))) ai))) (af (fc (af (pv 2) (af (pv 1) ai))) ai)))))))), ?_⟩
   repeat' (walk_at "rd1")
   refine ⟨p, dx, d, m, n, G, us, t, nw, rfl, hp, hg, og.eu, aP, fun H1 js => ?_⟩
   have Ed := hi.keeps js
   have BO := hg.keeps js
   repeat' (walk_at "rd1")
   refine Bj (.of BO.q) ?_
   rw [List.length_map]
   repeat' (walk_at "rd1")
   . rename_i hb
     have eI : fh us t nw < G.ws.length := by omega
     have hy : G.ws[fh us t nw]? = some G.ws[fh us t nw] := List.getElem?_eq_getElem eI
     generalize G.ws[fh us t nw] = y at hy
     refine fS (.of BO.q) (Ms hy) ?_
     have Vl := List.mem_of_getElem? hy
     have BZ := BO.w y Vl
     have MM := og.Xy aP hy
     obtain ⟨aeJ, ZI⟩ := og.small aP hy
     have Cg := og.wh _ y hy
     obtain ⟨NK, Ee⟩ := BZ.i
     have WC : sv H1 (.ref y.x) a.ak [("unit", .int y.u), ("slots", .int y.s), ("span", .int (y.u * y.s)), ("mask", .int y.m), ("names_in", .ref y.dn)] := ⟨y.x, NK, rfl, Ee⟩
     repeat' (walk_at "rd1")
     have Kz : y.foot.Nodup := by
      have := hg.zW.2.2
      obtain ⟨e1, _⟩ := tD hy y
      rw [e1, List.flatMap_append, List.flatMap_cons, List.nodup_append, List.nodup_append] at this
      exact this.2.1.1
     refine ⟨y.x, y, x, t, rfl, rfl, BZ, MM, Kz, Cg.nd, by omega, fun c hc => ⟨by have := ZI c hc; omega, fun _ Ko => ?_⟩, fun H2 pd lK wu M3 MC => ?_⟩
     . obtain ⟨t', vU, _⟩ := (Cg.mem x c.k).mp ⟨c, hc, rfl, Ko⟩
       exact hx (List.mem_map.mpr ⟨_, vU, rfl⟩)
     . repeat' (walk_at "rd1")
       obtain ⟨IT, S9⟩ := BO.set hy lK wu rfl M3 MC
       refine q H2 _ ((js.mv).trans (bV lK (j8 Vl))) IT (og.lay hx hy (by have := MM.2.2.1; omega) (JV Cg.mk' (s9 MM t))) rfl rfl fun b hb => ?_
       rcases S9 b hb with r | r
       . exact .inl r
       . exact .inr (js.none r)
   . rename_i hb
     have PU : fh us t nw = us.length := by have := sj us t nw; omega
     have Zw := og.EJ
     have Xl := BO.f
     refine Lr Xl ?_
     repeat' (walk_at "rd1")
     rename_i v2 H2 fA Vb
     have M3 := Xl.keeps fA
     refine ⟨G.f, G.dc, v2, (t, x), rfl, M3, Vb, by omega, og.GN, fun i Fy => ?_⟩
     repeat' (walk_at "rd1")
     rename_i v3 H3 sm3 Y9
     have Vj := M3.keeps sm3
     refine R1 Vj (k := (t, x)) Y9 (by omega) (by have := Fy.1; omega) (by omega) (fun H4 uJ MP => ?_)
     repeat' (walk_at "rd1")
     rw [Int.toNat_natCast] at MP
     have sm := (js.trans fA).trans sm3
     have VM : G.f ∈ G.foot := by simp [dU.foot]
     exact q H4 _ ((sm.mv).trans (bV uJ fun b hb => (List.mem_singleton.mp hb) ▸ VM)) ((hg.keeps sm).WV uJ MP) (og.Ut hx PU Fy) rfl rfl fun b hb => .inl hb
theorem Gj (T : Txt K mg a) : gk P w K mg base 3 a.bD ["self", "name", "time", "now"] [] (Kd a.ag a.ak) :=
 ⟨⟨_, _, U9 T, T.fC.binds fun _ _ _ _ _ _ => .all fun us hl => match us, hl with | [_, _, _, _], _ => rfl, .nil⟩⟩
def n6 (ts : List (Str × Int)) : List (Str × PyData) := ts.map fun x => (x.1, .int x.2)
theorem sF (ts : List (Str × Int)) : (n6 ts).length = ts.length := List.length_map ..
theorem Gy (ts : List (Str × Int)) (x : Str) (t : Int) : n6 (ts ++ [(x, t)]) = n6 ts ++ [(x, .int t)] := by unfold n6; rw [List.map_append]; rfl
theorem C6 {m : List (Str × PyData)} {k : Str} {d : PyData} (h : qp m k = none) : putD m k d = m ++ [(k, d)] := by
 unfold putD
 rw [if_neg]
 unfold qp at h
 rw [Option.map_eq_none_iff, List.find?_eq_none] at h
 simp only [List.any_eq_true, not_exists, not_and]
 exact h
theorem ya (ts : List (Str × Int)) (x : Str) : pq (n6 ts) x = n6 (fy ts x) := by
 unfold pq n6 fy
 rw [List.filter_map]
 congr 1
 refine List.filter_congr fun y _ => ?_
 simp
theorem Fu {ts : List (Str × Int)} {x : Str} (h : x ∉ ts.map (·.1)) : qp (n6 ts) x = none := by
 unfold qp n6
 rw [Option.map_eq_none_iff, List.find?_eq_none]
 intro kv Vx
 obtain ⟨y, hy, rfl⟩ := List.mem_map.mp Vx
 have : y.1 ≠ x := fun z => h (z ▸ List.mem_map_of_mem (f := (·.1)) hy)
 simpa using this
theorem xT {ts : List (Str × Int)} (h : (ts.map (·.1)).Nodup) {x : Str} {t : Int} (hx : (x, t) ∈ ts) : qp (n6 ts) x = some (.int t) := by
 unfold qp n6
 rw [List.find?_map]
 induction ts with
 | nil => cases hx
 | cons y r ih =>
   rw [List.map_cons, List.nodup_cons] at h
   rw [List.find?_cons]
   by_cases e : y.1 = x
   . simp only [Function.comp, e, decide_true]
     rcases List.mem_cons.mp hx with rfl | vK
     . rfl
     . exact absurd (List.mem_map_of_mem (f := (·.1)) vK) (e ▸ h.1)
   . simp only [Function.comp, e, decide_false]
     rcases List.mem_cons.mp hx with rfl | vK
     . exact absurd rfl e
     . exact ih h.2 vK
theorem Mb {ts : List (Str × Int)} {x : Str} {t : Int} (h : qp (n6 ts) x = some (.int t)) : (x, t) ∈ ts := by
 unfold qp at h
 obtain ⟨kv, h1, h2⟩ := Option.map_eq_some_iff.mp h
 have h3 := List.find?_some h1
 obtain ⟨y, hy, rfl⟩ := List.mem_map.mp (List.mem_of_find?_eq_some h1)
 have e1 : y.1 = x := by simpa using h3
 have e2 : y.2 = t := by
  have : PyData.int y.2 = .int t := h2
  injection this
 rw [<- e1, <- e2]; exact hy
theorem Fb {ts : List (Str × Int)} {x : Str} {e : PyData} (h : qp (n6 ts) x = some e) : ∃ t, e = .int t := by
 unfold qp at h
 obtain ⟨kv, h1, rfl⟩ := Option.map_eq_some_iff.mp h
 obtain ⟨y, _, rfl⟩ := List.mem_map.mp (List.mem_of_find?_eq_some h1)
 exact ⟨_, rfl⟩
theorem gE {ts : List (Str × Int)} {x : Str} : (qp (n6 ts) x).isSome = true ↔ x ∈ ts.map (·.1) := by
 constructor
 . intro h
   obtain ⟨e, he⟩ := Option.isSome_iff_exists.mp h
   obtain ⟨t, rfl⟩ := Fb he
   exact List.mem_map.mpr ⟨_, Mb he, rfl⟩
 . intro h
   cases e : qp (n6 ts) x with
   | some _ => rfl
   | none =>
     exfalso
     obtain ⟨y, hy, rfl⟩ := List.mem_map.mp h
     unfold qp at e
     rw [Option.map_eq_none_iff, List.find?_eq_none] at e
     exact e (y.1, .int y.2) (List.mem_map.mpr ⟨y, hy, rfl⟩) (by simp)
structure eJ (C CW : Addr) (H : Hp) (p d m : Addr) (n : Int) (G : dU) (tt cX : List (Str × Int)) : Prop where
 ex : ∃ dx, H p = some (.ins C dx (VS n d G.q G.f m))
 dd : la H d (n6 tt)
 mm : la H m (n6 cX)
 g : we CW H G
 nd : (p :: d :: m :: G.foot).Nodup
theorem eJ.keeps {C CW p d m : Addr} {H H' : Hp} {n : Int} {G : dU} {tt cX : List (Str × Int)} (sm : az H H') (h : eJ C CW H p d m n G tt cX) : eJ C CW H' p d m n G tt cX :=
 ⟨let ⟨dx, e⟩ := h.ex; ⟨dx, sm _ _ e⟩, h.dd.keeps sm, h.mm.keeps sm, h.g.keeps sm, h.nd⟩
theorem eJ.mv {C CW p d m : Addr} {S : List Addr} {H H' : Hp} {n : Int} {G : dU} {tt cX : List (Str × Int)} (mv : Mv S H H') (hn : ∀ b ∈ p :: d :: m :: G.foot, b ∉ S) (h : eJ C CW H p d m n G tt cX) : eJ C CW H' p d m n G tt cX :=
 ⟨let ⟨dx, e⟩ := h.ex; ⟨dx, mv.at (hn _ (by simp)) e⟩, h.dd.mv mv (hn _ (by simp)), h.mm.mv mv (hn _ (by simp)), h.g.mv mv (fun b hb => hn b (by simp [hb])), h.nd⟩
theorem eJ.alive {C CW p d m : Addr} {H : Hp} {n : Int} {G : dU} {tt cX : List (Str × Int)} (h : eJ C CW H p d m n G tt cX) : ∀ b ∈ p :: d :: m :: G.foot, H b ≠ none := by
 intro b hb
 rcases List.mem_cons.mp hb with rfl | hb
 . obtain ⟨dx, e⟩ := h.ex
   rw [e]; simp
 . rcases List.mem_cons.mp hb with rfl | hb
   . obtain ⟨ax, e, _⟩ := h.dd
     rw [e]; simp
   . rcases List.mem_cons.mp hb with rfl | hb
     . obtain ⟨ax, e, _⟩ := h.mm
       rw [e]; simp
     . exact h.g.alive b hb
theorem eJ.vG {C CW p d m : Addr} {H : Hp} {n : Int} {G : dU} {tt cX : List (Str × Int)} (h : eJ C CW H p d m n G tt cX) : p ≠ d /\ p ≠ m /\ d ≠ m /\ p ∉ G.foot /\ d ∉ G.foot /\ m ∉ G.foot := by
 have hn := h.nd
 rw [List.nodup_cons, List.nodup_cons, List.nodup_cons] at hn
 obtain ⟨h1, h2, h3, _⟩ := hn
 refine ⟨fun z => h1 (by simp [z]), fun z => h1 (by simp [z]), fun z => h2 (by simp [z]), fun z => h1 (by simp [z]), fun z => h2 (by simp [z]), h3⟩
theorem eJ.Yr {C CW p d m : Addr} {H H' : Hp} {n : Int} {G G' : dU} {tt cX : List (Str × Int)} (h : eJ C CW H p d m n G tt cX) (mv : Mv G.foot H H') (hg : we CW H' G') (e1 : G'.q = G.q) (e2 : G'.f = G.f) (hs : ∀ b ∈ G'.foot, b ∈ G.foot \/ H b = none) : eJ C CW H' p d m n G' tt cX := by
 obtain ⟨f1, f2, f3, f4, f5, f6⟩ := h.vG
 have yZ := h.alive
 have key : ∀ b ∈ [p, d, m], b ∉ G'.foot := fun b hb z => by
  rcases hs b z with r | r
  . have : b = p \/ b = d \/ b = m := by simpa using hb
    rcases this with rfl | rfl | rfl
    . exact f4 r
    . exact f5 r
    . exact f6 r
  . exact yZ b (by have : b = p \/ b = d \/ b = m := by simpa using hb
                   rcases this with rfl | rfl | rfl <;> simp) r
 refine ⟨?_, h.dd.mv mv f5, h.mm.mv mv f6, hg, ?_⟩
 . obtain ⟨dx, e⟩ := h.ex
   exact ⟨dx, by rw [e1, e2]; exact mv.at f4 e⟩
 . rw [List.nodup_cons, List.nodup_cons, List.nodup_cons]
   refine ⟨fun z => ?_, fun z => ?_, key m (by simp), hg.nd⟩
   . rcases List.mem_cons.mp z with z | z
     . exact f1 z
     . rcases List.mem_cons.mp z with z | z
       . exact f2 z
       . exact key p (by simp) z
   . rcases List.mem_cons.mp z with z | z
     . exact f3 z
     . exact key d (by simp) z
theorem eJ.setM {C CW p d m : Addr} {H H' : Hp} {n : Int} {G : dU} {tt cX hU : List (Str × Int)} (h : eJ C CW H p d m n G tt cX) (mv : Mv [m] H H') (hm : la H' m (n6 hU)) : eJ C CW H' p d m n G tt hU := by
 obtain ⟨f1, f2, f3, f4, f5, f6⟩ := h.vG
 exact ⟨let ⟨dx, e⟩ := h.ex; ⟨dx, mv.at (by simpa using f2) e⟩, h.dd.mv mv (by simpa using f3), hm, h.g.mv mv (fun b hb => by simpa using fun z : b = m => f6 (z ▸ hb)), h.nd⟩
theorem eJ.DP {C CW p d m : Addr} {H H' : Hp} {n : Int} {G : dU} {tt tt' cX : List (Str × Int)} (h : eJ C CW H p d m n G tt cX) (mv : Mv [d] H H') (hm : la H' d (n6 tt')) : eJ C CW H' p d m n G tt' cX := by
 obtain ⟨f1, f2, f3, f4, f5, f6⟩ := h.vG
 exact ⟨let ⟨dx, e⟩ := h.ex; ⟨dx, mv.at (by simpa using f1) e⟩, hm, h.mm.mv mv (by simpa using Ne.symm f3), h.g.mv mv (fun b hb => by simpa using fun z : b = d => f5 (z ▸ hb)), h.nd⟩
theorem eJ.ins {C CW p d m : Addr} {H : Hp} {n : Int} {G : dU} {tt cX : List (Str × Int)} (h : eJ C CW H p d m n G tt cX) : sv H (.ref p) C [("now", .int n), ("times", .ref d), ("wheels", .ref G.q), ("far", .ref G.f), ("moves", .ref m)] := let ⟨dx, e⟩ := h.ex; ⟨p, dx, rfl, e⟩
def x3 (C CW : Addr) : Sp := fun vs H Q _ => ∃ (p d m : Addr) (n : Int) (G : dU) (us : List (Int × Int)) (tt ts cX : List (Str × Int)) (x : Str) (t : Int), vs = [.ref p, .str x, .int t] /\ eJ C CW H p d m n G tt cX /\ GI us n ts G /\ Ao us /\ x ∉ ts.map (·.1) /\ x ∉ cX.map (·.1) /\ ts.length <= 2000 /\ cX.length <= 2000 /\
 ∀ H' G', Mv (m :: G.foot) H H' -> eJ C CW H' p d m n G' tt (cX ++ [(x, 0)]) -> GI us n (ts ++ [(x, t)]) G' -> (∀ b ∈ G'.foot, b ∈ G.foot \/ H b = none) -> Q .bG H'
theorem Km (T : Txt K mg a) : a7 P w K mg base kj 4 a.cG a.mV ["self", "name", "time"] (x3 a.ag a.ak) := by
 have n1 := T.cf; have n2 := T.bq; have cl := T.aF
 have rQ := T.fP
 have sd := Gj (P := P) (w := w) (base := base) T
 refine T.i9.ok vY (fun vs H Q E h => ?_) (fun dB A outer s H vs Q E hr h => ?_)
 . obtain ⟨_, _, _, _, _, _, _, _, _, _, _, rfl, _⟩ := h; rfl
 . obtain ⟨p, d, m, n, G, us, tt, ts, cX, x, t, rfl, hw, og, aP, hx, QS, yK, Jl, q⟩ := h
   have hi := hw.ins; have hm := hw.mm
   have Xe := sF cX
   refine ⟨_, (aq (tU (gm hr) (aD (pv 0) rfl) (pv 1) aj rfl)
    (ao (a9 (bH (pv 0) cl rQ sd (hr.mono (by decide)) (af (pv 1) (af (pv 2) (af (aD (pv 0) rfl) ai))))))), ?_⟩
   repeat' (walk_at "rd1")
   rename_i H1 qc Ru
   rw [C6 (Fu QS), <- Gy] at Ru
   have gS := hw.setM qc Ru
   have Ed := gS.ins
   repeat' (walk_at "rd1")
   obtain ⟨dx, Ap⟩ := gS.ex
   refine ⟨p, dx, d, m, n, G, us, ts, x, t, n, rfl, Ap, gS.g, og, aP, gS.vG.2.2.2.1, hx, yK, fun H2 G' lK IT aaK e1 e2 hs => ?_⟩
   repeat' (walk_at "rd1")
   refine q H2 G' ((bV qc fun b hb => by simp [List.mem_singleton.mp hb]).trans (bV lK fun b hb => List.mem_cons_of_mem _ hb)) (gS.Yr lK IT e1 e2 hs) aaK fun b hb => ?_
   rcases hs b hb with r | r
   . exact .inl r
   . exact .inr (qc.none r)
theorem HJ (T : Txt K mg a) : gk P w K mg base 4 a.cG ["self", "name", "time"] [] (x3 a.ag a.ak) :=
 ⟨⟨_, _, Km T, T.i9.binds fun _ _ _ _ _ _ => .all fun us hl => match us, hl with | [_, _, _], _ => rfl, .nil⟩⟩
def wM (C CW : Addr) : Sp := fun vs H Q _ => ∃ (p d m : Addr) (n : Int) (G : dU) (us : List (Int × Int)) (tt ts cX : List (Str × Int)) (x : Str) (t : Int), vs = [.ref p, .str x, .int t] /\ eJ C CW H p d m n G tt cX /\ GI us n ts G /\ Ao us /\ (x, t) ∈ ts /\ (ts.map (·.1)).Nodup /\ x ∈ cX.map (·.1) /\ ts.length <= 2000 /\
 ∀ H' G', Mv (m :: G.foot) H H' -> eJ C CW H' p d m n G' tt (fy cX x) -> GI us n (fy ts x) G' -> (∀ b ∈ G'.foot, b ∈ G.foot) -> Q .bG H'
theorem BW {G : dU} {k : Nat} {w w' : Wh} (hw : G.ws[k]? = some w) (hs : ∀ b ∈ w'.foot, b ∈ w.foot) : ∀ b ∈ dU.foot ⟨G.q, G.f, G.ws.set k w', G.dc⟩, b ∈ G.foot := fun b hb => by
 unfold dU.foot at hb
 rcases List.mem_cons.mp hb with rfl | hb
 . simp [dU.foot]
 . rcases List.mem_cons.mp hb with rfl | hb
   . simp [dU.foot]
   . obtain ⟨y, hy, Dh⟩ := List.mem_flatMap.mp hb
     have hy : y ∈ G.ws.set k w' := hy
     rcases List.mem_or_eq_of_mem_set hy with hy | hy
     . exact j8 hy b Dh
     . exact j8 (List.mem_of_getElem? hw) b (hs b (hy ▸ Dh))
theorem Lf (T : Txt K mg a) : a7 P w K mg base kj 3 a.cJ a.nS ["self", "name", "time"] (wM a.ag a.ak) := by
 have n1 := T.cf; have n2 := T.bq; have n3 := T.aX; have n4 := T.c6; have cl := T.aF
 have sh := T.fX
 have r9 := vM (P := P) (w := w) (base := base) T
 have uQ := JF (P := P) (w := w) (base := base) T
 have rN := zF (P := P) (w := w) (base := base) T
 refine T.iR.ok nP (fun vs H Q E h => ?_) (fun dB A outer s H vs Q E hr h => ?_)
 . obtain ⟨_, _, _, _, _, _, _, _, _, _, _, rfl, _⟩ := h; rfl
 . obtain ⟨p, d, m, n, G, us, tt, ts, cX, x, t, rfl, hw, og, aP, hx, jP, QS, yK, q⟩ := h
   have hi := hw.ins; have hm := hw.mm
   have Fd := og.len
   refine ⟨_, (aq (a9 (je PySem.F.plainAttrs_dict PySem.F.slot_dict_pop PySem.F.type_dict_pop qd (aD (pv 0) rfl) (af (pv 1) ai)))
    (aq (aC (i := 3) nP.nd rfl (Or.inl rfl) (bH (pv 0) cl sh r9 (hr.mono (by decide)) (af (pv 2) (af (aD (pv 0) rfl) ai))))
    (ao (bT (aJ xA (pv 3) (aZ eE rfl T.hZ PySem.boot_len (af (aD (pv 0) rfl) ai)) (aR _))
     (ao (a9 (bH (aW cL (aD (pv 0) rfl) (pv 3) (fun _ _ => rfl)) T.bE T.kO uQ (hr.mono (by decide)) (af (pv 1) (af (pv 2) ai)))))
     (ao (a9 (je PySem.F.plainAttrs_list PySem.F.slot_list_pop PySem.F.type_list_pop Mf (aD (pv 0) rfl) (af (bx rN (hr.mono (by decide)) rfl T.o3 T.oE (af (aD (pv 0) rfl) (af (fc (af (pv 2) (af (pv 1) ai))) ai))) ai)))))))), ?_⟩
   repeat' (walk_at "rd1")
   refine B7 hm ?_
   repeat' (walk_at "rd1")
   obtain ⟨u, hu⟩ := Option.isSome_iff_exists.mp (gE.mpr QS)
   refine Bx hm hu (fun v1 H1 qc Ru => ?_)
   rw [ya] at Ru
   have gS := hw.setM qc Ru
   have Ed := gS.ins
   repeat' (walk_at "rd1")
   obtain ⟨dx, Ap⟩ := gS.ex
   refine ⟨p, dx, d, m, n, G, us, t, n, rfl, Ap, gS.g, og.eu, aP, fun H2 fA => ?_⟩
   have wu := gS.keeps fA
   have LI := wu.ins
   have IT := wu.g
   have F4 : Mv (m :: G.foot) H H2 := (bV qc fun b hb => by simp [List.mem_singleton.mp hb]).iq fA
   repeat' (walk_at "rd1")
   refine Bj (.of IT.q) ?_
   rw [List.length_map]
   repeat' (walk_at "rd1")
   . rename_i hb
     have eI : fh us t n < G.ws.length := by omega
     have hy : G.ws[fh us t n]? = some G.ws[fh us t n] := List.getElem?_eq_getElem eI
     generalize G.ws[fh us t n] = y at hy
     refine fS (.of IT.q) (Ms hy) ?_
     have Vl := List.mem_of_getElem? hy
     have BZ := IT.w y Vl
     have MM := og.Xy aP hy
     have Cg := og.wh _ y hy
     obtain ⟨NK, Ee⟩ := BZ.i
     have WC : sv H2 (.ref y.x) a.ak [("unit", .int y.u), ("slots", .int y.s), ("span", .int (y.u * y.s)), ("mask", .int y.m), ("names_in", .ref y.dn)] := ⟨y.x, NK, rfl, Ee⟩
     repeat' (walk_at "rd1")
     have Kz : y.foot.Nodup := by
      have := IT.zW.2.2
      obtain ⟨e1, _⟩ := tD hy y
      rw [e1, List.flatMap_append, List.flatMap_cons, List.nodup_append, List.nodup_append] at this
      exact this.2.1.1
     obtain ⟨c, hc, hk, Ko⟩ := (Cg.mem x (d9 y t)).mpr ⟨t, hx, rfl, rfl⟩
     refine ⟨y.x, y, x, t, c, rfl, rfl, BZ, MM, Kz, Cg.nd, fun d hd => (Cg.ne d hd).1, hc, hk, Ko, fun H3 mk qv sr Vi => ?_⟩
     repeat' (walk_at "rd1")
     have rW := Dk y (d9 y t) mk x
     obtain ⟨hg3, S9⟩ := IT.set (w' := y.iL (d9 y t) mk x) hy qv sr rfl (Kz.sublist rW) fun b hb => .inl (rW.subset hb)
     have hsb := BW (w' := y.iL (d9 y t) mk x) hy fun b hb => rW.subset hb
     exact q H3 _ (F4.trans (bV qv fun b hb => List.mem_cons_of_mem _ (j8 Vl b hb))) (wu.Yr (bV qv (j8 Vl)) hg3 rfl rfl fun b hb => .inl (hsb b hb)) (og.lift jP hx hy (Vi Cg.mk')) hsb
   . rename_i hb
     have PU : fh us t n = us.length := by have := sj us t n; omega
     have Zw := og.EJ
     have M3 := IT.f
     refine Lr M3 ?_
     repeat' (walk_at "rd1")
     rename_i v3 H3 sm3 Y9
     have Vj := M3.keeps sm3
     refine ⟨G.f, G.dc, v3, (t, x), rfl, Vj, Y9, by omega, og.GN, fun i Fy => ?_⟩
     have yJ := RU og.GN Fy ((og.dc (t, x)).mpr ⟨hx, PU⟩)
     have K6 := (List.getElem?_eq_some_iff.mp yJ).1
     repeat' (walk_at "rd1")
     refine Sf Vj (by omega) (by omega) (by omega) (fun v4 H4 uJ MP => ?_)
     repeat' (walk_at "rd1")
     rw [Int.toNat_natCast] at MP
     have sr := wu.keeps sm3
     have VM : G.f ∈ G.foot := by simp [dU.foot]
     have Yc : Mv G.foot H3 H4 := bV uJ fun b hb => (List.mem_singleton.mp hb) ▸ VM
     exact q H4 _ ((F4.iq sm3).trans (bV Yc fun b hb => List.mem_cons_of_mem _ hb)) (sr.Yr Yc (sr.g.WV uJ MP) rfl rfl fun b hb => .inl hb) (og.OX jP hx PU yJ) fun b hb => hb
theorem HI (T : Txt K mg a) : gk P w K mg base 3 a.cJ ["self", "name", "time"] [] (wM a.ag a.ak) :=
 ⟨⟨_, _, Lf T, T.iR.binds fun _ _ _ _ _ _ => .all fun us hl => match us, hl with | [_, _, _], _ => rfl, .nil⟩⟩
theorem yY (T : Txt K mg a) : a7 P w K mg base kj 1 a.bM a.j0 ["self", "name"] (lD K a.aH) := by
 have hO := T.Bt
 refine T.gA.ok ug (fun vs H Q E h => ?_) (fun dB A outer s H vs Q E hr h => ?_)
 . obtain ⟨_, _, rfl, _⟩ := h; rfl
 . obtain ⟨p, n, rfl, hn, hp, q⟩ := h
   refine ⟨_, (aq (a9 (xn rfl T.my T.mE (af (pv 0) (af (OZ (pv 1) (by decide +kernel)) ai))))
    (ao (F1 (pv 0) (pv 1) rfl))), ?_⟩
   repeat' (walk_at "rd1")
   refine yz hp hO ?_
   repeat' (walk_at "rd1")
   exact ⟨p, _, _, _, rfl, hp, T.qg, fun d h1 h2 => q d h1 h2⟩
theorem xW (T : Txt K mg a) : gk P w K mg base 1 a.bM ["self", "name"] [] (lD K a.aH) :=
 ⟨⟨_, _, yY T, T.gA.binds fun _ _ _ _ _ _ => .all fun us hl => match us, hl with | [_, _], _ => rfl, .nil⟩⟩
theorem yi (T : Txt K mg a) : a7 P w K mg base kj 1 a.bz a.jd ["self", "name"] (lD K a.aA) := by
 have hO := T.uw
 refine T.fB.ok se (fun vs H Q E h => ?_) (fun dB A outer s H vs Q E hr h => ?_)
 . obtain ⟨_, _, rfl, _⟩ := h; rfl
 . obtain ⟨p, n, rfl, hn, hp, q⟩ := h
   refine ⟨_, (aq (a9 (xn rfl T.my T.mE (af (pv 0) (af (Pr (pv 1) (by decide +kernel)) ai))))
    (ao (F1 (pv 0) (pv 1) rfl))), ?_⟩
   repeat' (walk_at "rd1")
   refine yz hp hO ?_
   repeat' (walk_at "rd1")
   exact ⟨p, _, _, _, rfl, hp, T.lG, fun d h1 h2 => q d h1 h2⟩
theorem vZ (T : Txt K mg a) : gk P w K mg base 1 a.bz ["self", "name"] [] (lD K a.aA) :=
 ⟨⟨_, _, yi T, T.fB.binds fun _ _ _ _ _ _ => .all fun us hl => match us, hl with | [_, _], _ => rfl, .nil⟩⟩
def Xn (H : Hp) (d : Addr) (x : Str) : Hp := upd H d (.xd [("name", .str x)])
theorem Nx {H : Hp} {d e : Addr} {x : Str} {o : HO} (hd : H d = none) (he : Xn H d x e = none) : az H (upd (Xn H d x) e o) := fun b u hb => by
 rw [aw (fun z => by subst z; unfold Xn at he; rw [aw (fun y => by subst y; rw [hd] at hb; cases hb)] at he; rw [he] at hb; cases hb)]
 unfold Xn
 rw [aw (fun y => by subst y; rw [hd] at hb; cases hb)]
 exact hb
structure yM (C CW : Addr) (H : Hp) (p d m : Addr) (n : Int) (us : List (Int × Int)) (G : dU) (ts cX : List (Str × Int)) : Prop where
 ws : eJ C CW H p d m n G ts cX
 gi : GI us n ts G
 uo : Ao us
 nd : (ts.map (·.1)).Nodup
 Sz : (cX.map (·.1)).Nodup
 mem : ∀ x, x ∈ cX.map (·.1) ↔ x ∈ ts.map (·.1)
theorem yM.keeps {C CW p d m : Addr} {H H' : Hp} {n : Int} {us : List (Int × Int)} {G : dU} {ts cX : List (Str × Int)} (sm : az H H') (h : yM C CW H p d m n us G ts cX) : yM C CW H' p d m n us G ts cX := ⟨h.ws.keeps sm, h.gi, h.uo, h.nd, h.Sz, h.mem⟩
theorem yM.mv {C CW p d m : Addr} {S : List Addr} {H H' : Hp} {n : Int} {us : List (Int × Int)} {G : dU} {ts cX : List (Str × Int)} (mv : Mv S H H') (hn : ∀ b ∈ p :: d :: m :: G.foot, b ∉ S) (h : yM C CW H p d m n us G ts cX) : yM C CW H' p d m n us G ts cX := ⟨h.ws.mv mv hn, h.gi, h.uo, h.nd, h.Sz, h.mem⟩
theorem yM.abR {C CW p d m : Addr} {H : Hp} {n : Int} {us : List (Int × Int)} {G : dU} {ts cX : List (Str × Int)} (h : yM C CW H p d m n us G ts cX) : cX.length <= ts.length := by
 have := p6 (l' := ts.map (·.1)) h.Sz fun x hx => (h.mem x).mp hx
 simpa using this
theorem wq {ts : List (Str × Int)} {x : Str} {t : Int} (h : (ts.map (·.1)).Nodup) (hx : x ∉ ts.map (·.1)) : ((ts ++ [(x, t)]).map (·.1)).Nodup := by
 rw [List.map_append, List.nodup_append]
 refine ⟨h, by simp, fun a ha b hb => ?_⟩
 have hb : b = x := by simpa using hb
 rw [hb]; exact fun z => hx (z ▸ ha)
theorem Nf {H : Hp} {Q : VK} {p : Addr} {m : List (Str × PyData)} {k : Str} {d : PyData} (hp : la H p m) (hk : qp m k = some d) (h : ∀ v H2, Dv H v d -> Mv [p] H H2 -> la H2 p (pq m k) -> Q v H2) : Lh (.ref p) [.str k] H Q := by
 obtain ⟨ax, e, dk⟩ := hp
 obtain ⟨v, hv, hd⟩ := (dk.val (k := k)).1 d hk
 have mv : Mv [p] H (upd H p (.dK (ni ax (.inr k)))) := .cO e (by intro _ z; cases z)
 refine ⟨p, ax, .inr k, v, rfl, rfl, e, hv, h v _ hd mv ⟨_, au, dk.drop.zK mv.tp⟩⟩
theorem oJ {ts : List (Str × Int)} {x : Str} (h : (ts.map (·.1)).Nodup) : ((fy ts x).map (·.1)).Nodup := h.sublist (List.filter_sublist.map _)
theorem zl {ts : List (Str × Int)} {x y : Str} : y ∈ (fy ts x).map (·.1) ↔ y ∈ ts.map (·.1) /\ y ≠ x := by
 simp only [List.mem_map, cD]
 constructor
 . rintro ⟨z, ⟨h1, h2⟩, rfl⟩; exact ⟨⟨z, h1, rfl⟩, h2⟩
 . rintro ⟨⟨z, h1, rfl⟩, h2⟩; exact ⟨z, ⟨h1, h2⟩, rfl⟩
def unitsOf : Int -> List Int -> List (Int × Int)
 | _, [] => []
 | u, r :: rs => (u, r) :: unitsOf (u * r) rs
def dN (u : Int) (rs : List Int) : Int := rs.foldl (· * ·) u
theorem uI (r : Int) : ∀ (u : Int) (rs : List Int), unitsOf u (rs ++ [r]) = unitsOf u rs ++ [(dN u rs, r)]
 | u, [] => rfl
 | u, q :: rs => by rw [List.cons_append, unitsOf, unitsOf, uI r (u * q) rs]; rfl
theorem oP (u r : Int) (rs : List Int) : dN u (rs ++ [r]) = dN u rs * r := by unfold dN; rw [List.foldl_append]; rfl
theorem pY : ∀ (u : Int) (rs : List Int), (unitsOf u rs).length = rs.length
 | _, [] => rfl
 | u, r :: rs => by rw [unitsOf, List.length_cons, List.length_cons, pY]
theorem o9 : ∀ (rs : List Int) (u : Int), 0 < u -> (∀ r ∈ rs, 2 <= r /\ r <= 60) -> 0 < dN u rs /\ dN u rs <= u * 60 ^ rs.length
 | [], u, h, _ => ⟨h, by simp [dN]⟩
 | r :: rs, u, h, hr => by
   have Ud := hr r List.mem_cons_self
   have hp : 0 < u * r := Int.mul_pos h (by omega)
   obtain ⟨h1, h2⟩ := o9 rs (u * r) hp fun x hx => hr x (List.mem_cons_of_mem _ hx)
   refine ⟨h1, Int.le_trans h2 ?_⟩
   rw [List.length_cons, Int.pow_succ]
   have : (0 : Int) < 60 ^ rs.length := Int.pow_pos (by decide)
   have e : u * (60 ^ rs.length * 60) = u * 60 * 60 ^ rs.length := by rw [Int.mul_assoc, Int.mul_comm (60 ^ rs.length) 60]
   rw [e]
   exact Int.mul_le_mul_of_nonneg_right (Int.mul_le_mul_of_nonneg_left Ud.2 (Int.le_of_lt h)) (Int.le_of_lt this)
theorem GC {j : Nat} (h : j <= 6) : (60 : Int) ^ j <= 10 ^ 12 := by
 match j, h with
 | 0, _ => exact (by decide)
 | 1, _ => exact (by decide)
 | 2, _ => exact (by decide)
 | 3, _ => exact (by decide)
 | 4, _ => exact (by decide)
 | 5, _ => exact (by decide)
 | 6, _ => exact (by decide)
theorem iP : ∀ (rs : List Int) (u : Int) (k : Nat) (q : Int × Int), (unitsOf u rs)[k]? = some q -> q.1 = dN u (rs.take k) /\ rs[k]? = some q.2
 | [], _, k, q, h => by simp [unitsOf] at h
 | r :: rs, u, 0, q, h => by
   have : (u, r) = q := by simpa [unitsOf] using h
   subst this
   exact ⟨rfl, rfl⟩
 | r :: rs, u, k + 1, q, h => by
   have h : (unitsOf (u * r) rs)[k]? = some q := by simpa [unitsOf] using h
   obtain ⟨h1, h2⟩ := iP rs (u * r) k q h
   exact ⟨h1, by simpa using h2⟩
theorem wN {rs : List Int} (hl : rs.length <= 6) (hr : ∀ r ∈ rs, 2 <= r /\ r <= 60) : Ao (unitsOf 1 rs) := by
 intro q hq
 obtain ⟨k, hk⟩ := List.getElem?_of_mem hq
 obtain ⟨h1, h2⟩ := iP rs 1 k q hk
 obtain ⟨p1, p2⟩ := o9 (rs.take k) 1 (by decide) fun r Ls => hr r (List.mem_of_mem_take Ls)
 have VX := hr q.2 (List.mem_of_getElem? h2)
 have eI : (rs.take k).length <= 6 := by rw [List.length_take]; omega
 have := GC eI
 rw [h1]
 exact ⟨p1, by omega, VX.1, VX.2⟩
theorem UW {H : Hp} {p : Addr} {xs : List V} {R : Prop} (e : H p = some (.lst xs)) (h : R) : QI K "list" (.ref p) H /\ R := ⟨.inl ⟨rfl, xs, .of e⟩, h⟩
theorem Al : ∀ {ds : List PyData}, ds.all VG = true -> ∃ rs : List Int, ds = rs.map PyData.int /\ ∀ r ∈ rs, 2 <= r /\ r <= 60
 | [], _ => ⟨[], rfl, fun r h => by cases h⟩
 | d :: ds, h => by
   rw [List.all_cons, Bool.and_eq_true] at h
   obtain ⟨rs, rfl, xx⟩ := Al h.2
   cases d with
   | int i =>
     have h1 : (decide (2 <= i) && decide (i <= 60)) = true := h.1
     rw [Bool.and_eq_true, decide_eq_true_eq, decide_eq_true_eq] at h1
     refine ⟨i :: rs, rfl, fun r hr => ?_⟩
     rcases List.mem_cons.mp hr with rfl | hr
     . exact h1
     . exact xx r hr
   | _ => cases h.1
def To (CW : Addr) (H : Hp) (ws : List Wh) : Prop := ∀ y ∈ ws, gg CW H y /\ y.cs = [] /\ y.m = 0
def vz (CW : Addr) : Sp := fun vs H Q _ => ∃ (l : Addr) (rs : List Int), vs = [.ref l] /\ dJ H l (rs.map PyData.int) /\ rs.length <= 6 /\ (∀ r ∈ rs, 2 <= r /\ r <= 60) /\
 ∀ q H' (ws : List Wh), az H H' -> H q = none -> H' q = some (.lst (ws.map fun y => V.ref y.x)) -> ws.map (fun y => (y.u, y.s)) = unitsOf 1 rs -> To CW H' ws -> (q :: ws.flatMap Wh.foot).Nodup -> (∀ b ∈ ws.flatMap Wh.foot, H b = none) -> Q (.ref q) H'
theorem CP (T : Txt K mg a) : a7 P w K mg base kj 3 a.dj a.ud ["rounds"] (vz a.ak) := by
 have Hz := BP (P := P) (w := w) (base := base) T
 refine T.pR.ok fE (fun vs H Q E h => ?_) (fun dB A outer s H vs Q E hr h => ?_)
 . obtain ⟨_, _, rfl, _⟩ := h; rfl
 . obtain ⟨l, rs, rfl, hl, hlen, xx, q⟩ := h
   refine ⟨_, (aq (aC (i := 1) fE.nd rfl (Or.inl rfl) (eZ ai))
    (aq (aC (i := 2) fE.nd rfl (Or.inl rfl) aj)
    (aq (gC PassesOwn.never rfl (gP (pv 0)) (aT (i := 3) fE.nd rfl (Or.inl rfl))
     (aq (a9 (je PySem.F.plainAttrs_list PySem.F.slot_list_append PySem.F.type_list_append lh (pv 1) (af (Gv T.Fs Hz (hr.mono (by decide)) rfl T.Ci (af (pv 2) (af (pv 3) ai))) ai)))
     (ao (aC (i := 2) fE.nd rfl (Or.inl rfl) (ay jH (pv 2) (pv 3))))))
    (ao (aI (pv 1)))))), ?_⟩
   repeat' (walk_at "rd1")
   rename_i ql H1 js lQ rS
   have yK := hl.keeps js
   have hlq : l ≠ ql := hl.ne lQ
   refine yy (Hb := H1) (cs := rs) (gd := PyData.int) yK.dv (fun j σ' H' => Mv [ql] H1 H' /\ ∃ (ws : List Wh) (z : Option V), σ' = [some (.ref l), some (.ref ql), some (.int (dN 1 (rs.take j))), z] /\ H' ql = some (.lst (ws.map fun y => V.ref y.x)) /\ ws.map (fun y => (y.u, y.s)) = unitsOf 1 (rs.take j) /\ To a.ak H' ws /\ (ql :: ws.flatMap Wh.foot).Nodup /\ ∀ b ∈ ws.flatMap Wh.foot, H1 b = none) ⟨Mv.refl, [], _, rfl, (by obtain ⟨xs, e, dv, _⟩ := rS; cases dv; exact e), rfl, (fun x hx => nomatch hx), (by simp), (fun b hb => nomatch hb)⟩ (fun i σ' H' _ ⟨mv, _⟩ a' xs e hx => by cases e; exact mv.sq (by simpa using hlq) hx) ?_ ?_
   . rintro j r x σ' H' hj ⟨mv, ws, z, rfl, hq, An, aP, jP, zg⟩ Kv _
     obtain rfl := (Kv rfl mv.tp).int_inv
     have VX := xx r (List.mem_of_getElem? hj)
     have hj6 : j < 6 := by have := (List.getElem?_eq_some_iff.mp hj).1; omega
     have MN : (rs.take j).length <= 6 := by rw [List.length_take]; omega
     obtain ⟨Kt, Qk⟩ := o9 (rs.take j) 1 (by decide) fun r Ls => xx r (List.mem_of_mem_take Ls)
     have Y2 : dN 1 (rs.take j) <= 10 ^ 12 := by have := GC MN; omega
     have Cw : rs.take (j + 1) = rs.take j ++ [r] := by rw [List.take_add_one, hj]; rfl
     have YM : ws.length <= 6 := by
      have := congrArg List.length An
      rw [List.length_map, pY] at this
      omega
     rw [Cw, oP, uI]
     generalize dN 1 (rs.take j) = u at *
     repeat' (walk_at "rd1")
     refine UW hq ?_
     repeat' (walk_at "rd1")
     refine Ma Kt Y2 (by omega) VX.2 (fun x dn H3 sm3 Tt Ux sr => ?_)
     have CB := sm3 _ _ hq
     repeat' (walk_at "rd1")
     refine U7 CB (by rw [List.length_map]; omega) ?_
     have uJ : Mv [ql] H3 (upd H3 ql (.lst (ws.map (fun y => V.ref y.x) ++ [.ref x]))) := .cO CB (by intro _ z; cases z)
     have hxq : x ≠ ql := fun z => by rw [z, hq] at Tt; cases Tt
     have hdq : dn ≠ ql := fun z => by rw [z, hq] at Ux; cases Ux
     have Vu : upd H3 ql (.lst (ws.map (fun y => V.ref y.x) ++ [.ref x])) ql = some (.lst ((ws ++ [(⟨x, dn, u, r, 0, []⟩ : Wh)]).map fun y => V.ref y.x)) := by rw [au, List.map_append]; rfl
     generalize upd H3 ql (.lst (ws.map (fun y => V.ref y.x) ++ [.ref x])) = H4 at *
     repeat' (walk_at "rd1")
     have YX : Wh.foot ⟨x, dn, u, r, 0, []⟩ = [x, dn] := rfl
     have hxd : x ≠ dn := fun z => by
      obtain ⟨dx, e⟩ := sr.i
      have e2 := sr.d
      have e : H3 x = some _ := e
      have e2 : H3 dn = some _ := e2
      rw [z, e2] at e
      cases e
     have yZ : ∀ b ∈ ql :: ws.flatMap Wh.foot, H' b ≠ none := fun b hb => by
      rcases List.mem_cons.mp hb with rfl | hb
      . rw [hq]; simp
      . obtain ⟨y, hy, hb⟩ := List.mem_flatMap.mp hb
        exact (aP y hy).1.alive b hb
     refine ⟨(mv.iq sm3).trans uJ, ws ++ [⟨x, dn, u, r, 0, []⟩], _, rfl, Vu, by rw [List.map_append, An]; rfl, fun y hy => ?_, ?_, fun b hb => ?_⟩
     . rcases List.mem_append.mp hy with hy | hy
       . obtain ⟨h1, h2⟩ := aP y hy
         refine ⟨(h1.keeps sm3).mv uJ fun b hb => ?_, h2⟩
         have := (List.nodup_cons.mp jP).1
         simpa using fun z : b = ql => this (z ▸ List.mem_flatMap.mpr ⟨y, hy, hb⟩)
       . have hy : y = ⟨x, dn, u, r, 0, []⟩ := by simpa using hy
         subst hy
         refine ⟨sr.mv uJ fun b hb => ?_, rfl, rfl⟩
         rw [YX] at hb
         have : b = x \/ b = dn := by simpa using hb
         rcases this with rfl | rfl
         . simpa using hxq
         . simpa using hdq
     . rw [List.flatMap_append, <- List.cons_append, List.nodup_append]
       refine ⟨jP, by simp [YX, hxd], fun b hb b' yl => ?_⟩
       have : b' = x \/ b' = dn := by simpa [YX] using yl
       rcases this with rfl | rfl
       . exact fun z => yZ b hb (z ▸ Tt)
       . exact fun z => yZ b hb (z ▸ Ux)
     . rw [List.flatMap_append] at hb
       rcases List.mem_append.mp hb with hb | hb
       . exact zg b hb
       . have : b = x \/ b = dn := by simpa [YX] using hb
         rcases this with rfl | rfl
         . exact mv.none Tt
         . exact mv.none Ux
   . rintro σ' H' ⟨mv, ws, z, rfl, hq, An, aP, jP, zg⟩
     rw [List.take_length] at An
     repeat' (walk_at "rd1")
     exact q ql H' ws (Mv.MD js mv lQ) lQ hq An aP jP fun b hb => js.none (zg b hb)
theorem A5 (T : Txt K mg a) : gk P w K mg base 3 a.dj ["rounds"] [] (vz a.ak) :=
 ⟨⟨_, _, CP T, T.pR.binds fun _ _ _ _ _ _ => .all fun us hl => match us, hl with | [_], _ => rfl, .nil⟩⟩
def pI (C : Addr) : Sp := fun vs H Q _ => ∃ p dx n, vs = [.ref p, .int n] /\ H p = some (.ins C dx []) /\ ∀ H' d, Mv [p] H H' -> H d = none -> la H' d [] -> H' p = some (.ins C dx [("now", .int n), ("times", .ref d)]) -> Q .bG H'
theorem xc (T : Txt K mg a) {C : Addr} (cl : su K C) (n1 : bp K C "now") (n2 : bp K C "times") : a7 P w K mg base kj 1 a.aK a.dS ["self", "now"] (pI C) := by
 refine T.eA.ok uB (fun vs H Q E h => ?_) (fun dB A outer s H vs Q E hr h => ?_)
 . obtain ⟨_, _, _, rfl, _⟩ := h; rfl
 . obtain ⟨p, dx, n, rfl, hp, q⟩ := h
   refine ⟨_, (aq (gB (pv 0) (pv 1) rfl)
    (ao (gB (pv 0) sX rfl))), ?_⟩
   repeat' (walk_at "rd1")
   rename_i d H2 fA uG hd2
   have qc : Mv [p] H (upd H p (.ins C dx [("now", .int n)])) := .cO hp (by intro _ z; cases z)
   have e2 := fA p _ au
   have lK : Mv [p] H2 (upd H2 p (.ins C dx [("now", .int n), ("times", .ref d)])) := .cO e2 (by intro _ z; cases z)
   have hn : H d = none := qc.none uG
   have JK : d ≠ p := Ne.symm (aG hp hn)
   exact q _ d (qc.trans ((fA.mv (S := [p])).trans lK)) hn (hd2.mv lK (by simpa using JK)) au
theorem FO (T : Txt K mg a) : Binds K a.dS ["self", "now"] [] := T.eA.binds fun _ _ _ _ _ _ s us kx hl => by
 obtain ⟨o, n, h1, h2⟩ := T.gH.ex
 have hl : us.length = 2 := by simp at hl; omega
 match us, hl with
 | [_, _], _ => exact PySem.W.binds_K kx rfl h1 h2 rfl rfl
theorem Ia (T : Txt K mg a) : gk P w K mg base 1 a.aK ["self", "now"] [] (pI a.ag) :=
 ⟨⟨_, _, xc T T.aF T.bq T.b5, FO T, .nil⟩⟩
theorem RX {us : List (Int × Int)} {n : Int} {q f : Addr} {ws : List Wh} {CW : Addr} {H : Hp} (An : ws.map (fun y => (y.u, y.s)) = us) (he : To CW H ws) : GI us n [] ⟨q, f, ws, []⟩ := by
 refine ⟨An, fun k y hy => ?_, fun c => ⟨(fun h => nomatch h), (fun h => nomatch h.1)⟩, .nil⟩
 have hc := (he y (List.mem_of_getElem? hy)).2.1
 have hm := (he y (List.mem_of_getElem? hy)).2.2
 refine ⟨⟨by rw [hm]; decide, fun i => by rw [hm, hc]; simp⟩, by rw [hc]; exact .nil, (fun c h => by rw [hc] at h; exact nomatch h), fun x j => ⟨(fun ⟨c, h, _⟩ => by rw [hc] at h; exact nomatch h), (fun ⟨t, h, _⟩ => nomatch h)⟩⟩
def qi (C CW cN : Addr) : Sp := fun vs H Q E => ∃ p dx l ds n, vs = [.ref p, .ref l, .int n] /\ H p = some (.ins C dx []) /\ dJ H l ds /\ ds.length <= 60 /\ ds.all scD = true /\ (¬ good ds -> E (.ref cN) none H) /\
 (∀ rs : List Int, ds = rs.map PyData.int -> rs.length <= 6 -> 1 <= rs.length -> (∀ r ∈ rs, 2 <= r /\ r <= 60) -> ∀ H' d m G, Mv [p] H H' -> (∀ b ∈ d :: m :: G.foot, H b = none) -> yM C CW H' p d m n (unitsOf 1 rs) G [] [] -> Q .bG H')
theorem Ag (T : Txt K mg a) : a7 P w K mg base (BM P w) 5 a.a0 a.fg ["self", "rounds", "now"] (qi a.ag a.ak a.bZ) := by
 have n1 := T.bq; have n2 := T.b5; have n3 := T.aX; have n4 := T.c6; have n5 := T.cf; have cl := T.aF
 have xm := Ij (P := P) (w := w) (base := base) T
 have uW := Ia (P := P) (w := w) (base := base) T
 have C5 := A5 (P := P) (w := w) (base := base) T
 refine T.dR.Vz rP (fun vs H Q E h => ?_) (fun dB A outer s H vs Q E hr h => ?_)
 . obtain ⟨_, _, _, _, _, rfl, _⟩ := h; rfl
 . obtain ⟨p, dx, l, ds, n, rfl, hp, hl, hlen, hsc, qE, q⟩ := h
   refine ⟨_, (aq (a9 (Ow xm (hr.mono (by decide)) rfl T.m5 T.nA QC (af (pv 1) ai)))
    (aq (a9 (Oe rfl T.tN T.lE uW (hr.mono (by decide)) (af (pv 0) (af (pv 2) ai))))
    (aq (gB (pv 0) (bx C5 (hr.mono (by decide)) rfl T.ur T.sZ (af (pv 1) ai)) rfl)
    (aq (gB (pv 0) (eZ ai) rfl)
    (ao (gB (pv 0) sX rfl)))))), ?_⟩
   repeat' (walk_at "rd1")
   refine ⟨l, ds, rfl, hl, hlen, hsc, fun g => ?_, qE⟩
   obtain ⟨rs, rfl, xx⟩ : ∃ rs : List Int, ds = rs.map PyData.int /\ ∀ r ∈ rs, 2 <= r /\ r <= 60 := Al g.2.2
   have Qx : rs.length <= 6 := by have := g.2.1; rw [List.length_map] at this; exact this
   have Ud : 1 <= rs.length := by have := g.1; rw [List.length_map] at this; exact this
   replace q := q rs rfl Qx Ud xx
   repeat' (walk_at "rd1")
   refine ⟨p, dx, n, rfl, hp, fun H1 d qc yG Ug Ap => ?_⟩
   have hlp : l ≠ p := by obtain ⟨xs, e, _⟩ := hl; exact kL e hp (by intro y; cases y)
   have yK : dJ H1 l (rs.map PyData.int) := hl.mv qc (by simpa using hlp)
   repeat' (walk_at "rd1")
   refine ⟨l, rs, rfl, yK, Qx, xx, fun q3 H3 ws sm3 DC CB An aP jP zg => ?_⟩
   have RY := sm3 _ _ Ap
   repeat' (walk_at "rd1")
   rename_i f H4 DG hn4 MP m H5 DX Y3 hm5
   have F4 : Mv [p] H3 (upd H3 p (.ins a.ag dx [("now", .int n), ("times", .ref d), ("wheels", .ref q3)])) := .cO RY (by intro _ z; cases z)
   have e4 := DG p _ au
   have mvB : Mv [p] H4 (upd H4 p (.ins a.ag dx [("now", .int n), ("times", .ref d), ("wheels", .ref q3), ("far", .ref f)])) := .cO e4 (by intro _ z; cases z)
   have e5 := DX p _ au
   have Z8 : Mv [p] H5 (upd H5 p (.ins a.ag dx [("now", .int n), ("times", .ref d), ("wheels", .ref q3), ("far", .ref f), ("moves", .ref m)])) := .cO e5 (by intro _ z; cases z)
   have YQ := F4.trans ((DG.mv (S := [p])).trans (mvB.trans ((DX.mv (S := [p])).trans Z8)))
   have RF : Mv [p] H H3 := qc.iq sm3
   have Zm : Mv [p] H H4 := RF.trans (F4.iq DG)
   have A7 : H3 f = none := F4.none hn4
   have Gn : H4 m = none := mvB.none Y3
   have fH : H f = none := RF.none A7
   have mH : H m = none := Zm.none Gn
   have qH : H q3 = none := qc.none DC
   have dH1 : H1 d ≠ none := by obtain ⟨ax, e, _⟩ := Ug; rw [e]; simp
   have dH3 : H3 d ≠ none := by obtain ⟨ax, e, _⟩ := Ug.keeps sm3; rw [e]; simp
   have wH1 : ∀ b ∈ ws.flatMap Wh.foot, H1 b = none := zg
   have wH : ∀ b ∈ ws.flatMap Wh.foot, H b = none := fun b hb => qc.none (zg b hb)
   have wH3 : ∀ b ∈ ws.flatMap Wh.foot, H3 b ≠ none := fun b hb => by
    obtain ⟨y, hy, hb⟩ := List.mem_flatMap.mp hb
    exact (aP y hy).1.alive b hb
   have qH3 : H3 q3 ≠ none := by rw [CB]; simp
   have Zr : ∀ b, H3 b ≠ none -> H4 b ≠ none := fun b hb z => hb ((F4.iq DG).none z)
   have f4 : H4 f ≠ none := by obtain ⟨xs, e, _⟩ := MP; rw [e]; simp
   have Kq : ∀ b, H b = none -> b ≠ p := fun b hb z => by rw [z, hp] at hb; cases hb
   have WZ : (p :: d :: m :: dU.foot ⟨q3, f, ws, []⟩).Nodup := by
    show (p :: d :: m :: q3 :: f :: ws.flatMap Wh.foot).Nodup
    simp only [List.nodup_cons, List.mem_cons, not_or] at jP ⊢
    refine ⟨⟨(Kq d yG).symm, (Kq m mH).symm, (Kq q3 qH).symm, (Kq f fH).symm, fun z => Kq p (wH p z) rfl⟩, ⟨fun z => Zr d dH3 (z ▸ Gn), fun z => dH1 (z ▸ DC), fun z => dH3 (z ▸ A7), fun z => dH1 (wH1 d z)⟩, ⟨fun z => Zr q3 qH3 (z ▸ Gn), fun z => f4 (z ▸ Gn), fun z => Zr m (wH3 m z) Gn⟩, ⟨fun z => qH3 (z ▸ A7), jP.1⟩, fun z => wH3 f z A7, jP.2⟩
   have W0 := Kq d yG
   refine q _ d m ⟨q3, f, ws, []⟩ (RF.trans YQ) (fun b hb => ?_) ⟨⟨⟨dx, au⟩, (Ug.keeps sm3).mv YQ (by simpa using W0), hm5.mv Z8 (by simpa using Kq m mH), ⟨YQ.at (by simpa using Kq q3 qH) CB, ((MP.mv mvB (by simpa using Kq f fH)).keeps DX).mv Z8 (by simpa using Kq f fH), fun y hy => (aP y hy).1.mv YQ fun b hb => by simpa using Kq b (wH b (List.mem_flatMap.mpr ⟨y, hy, hb⟩)), ?_⟩, WZ⟩, RX An aP, wN Qx xx, .nil, .nil, fun x => Iff.rfl⟩
   . rcases List.mem_cons.mp hb with rfl | hb
     . exact yG
     . rcases List.mem_cons.mp hb with rfl | hb
       . exact mH
       . rcases List.mem_cons.mp hb with rfl | hb
         . exact qH
         . rcases List.mem_cons.mp hb with rfl | hb
           . exact fH
           . exact wH b hb
   . have := WZ
     rw [List.nodup_cons, List.nodup_cons, List.nodup_cons] at this
     exact this.2.2.2
theorem AZ (T : Txt K mg a) : y4 P w K mg base 5 a.a0 ["self", "rounds", "now"] [] (qi a.ag a.ak a.bZ) :=
 ⟨⟨_, _, Ag T, T.dR.binds fun _ _ _ _ _ _ s us kx hl => by
   obtain ⟨o, n, h1, h2⟩ := T.fO.ex
   have hl : us.length = 3 := by simp at hl; omega
   match us, hl with
   | [_, _, _], _ => exact PySem.W.binds_K kx rfl h1 h2 rfl rfl, .nil⟩⟩
theorem DS (T : Txt K mg a) : Binds K a.fg ["self", "rounds", "now"] [.int 0 a.bU] := T.dR.binds fun _ _ _ _ _ _ s us kx hl => by
 obtain ⟨o, n, h1, h2⟩ := T.fO.ex
 have hl : us.length = 2 := by simp at hl; omega
 match us, hl with
 | [_, _], _ => exact PySem.W.binds_K kx rfl h1 h2 rfl rfl
theorem Bi (T : Txt K mg a) : y4 P w K mg base 5 a.a0 ["self", "rounds", "now"] [.int 0] (qi a.ag a.ak a.bZ) := ⟨⟨_, _, Ag T, DS T, .cons ⟨_, rfl⟩ .nil⟩⟩
theorem Oy {rs : List Int} (h1 : 1 <= rs.length) (h6 : rs.length <= 6) (hr : ∀ r ∈ rs, 2 <= r /\ r <= 60) : good (rs.map PyData.int) /\ (rs.map PyData.int).all scD = true := by
 refine ⟨⟨by rw [List.length_map]; exact h1, by rw [List.length_map]; exact h6, ?_⟩, ?_⟩
 . rw [List.all_eq_true]
   intro d hd
   obtain ⟨r, Ls, rfl⟩ := List.mem_map.mp hd
   show (decide (2 <= r) && decide (r <= 60)) = true
   rw [decide_eq_true (hr r Ls).1, decide_eq_true (hr r Ls).2]; rfl
 . rw [List.all_eq_true]
   intro d hd
   obtain ⟨r, Ls, rfl⟩ := List.mem_map.mp hd
   rfl
theorem Dr : ∀ {rs Zi : List Int}, rs.map PyData.int = Zi.map PyData.int -> rs = Zi
 | [], [], _ => rfl
 | [], _ :: _, h => by cases h
 | _ :: _, [], h => by cases h
 | r :: rs, r' :: Zi, h => by
   rw [List.map_cons, List.map_cons] at h
   injection h with h1 h2
   injection h1 with h1
   rw [h1, Dr h2]
theorem tE {C CW cN : Addr} {H : Hp} {Q : VK} {E : XK} {n : Int} {l : Addr} {rs : List Int} {us : List V} (eu : us = [.ref l, .int n]) (hl : dJ H l (rs.map PyData.int)) (h1 : 1 <= rs.length) (h6 : rs.length <= 6) (hr : ∀ r ∈ rs, 2 <= r /\ r <= 60)
 (k : ∀ x d m G H2, az H H2 -> (∀ b ∈ x :: d :: m :: G.foot, H b = none) -> yM C CW H2 x d m n (unitsOf 1 rs) G [] [] -> Q (.ref x) H2) : sL C (qi C CW cN) us H Q E := by
 refine ⟨_, eu, fun x dx hx hd ne => ?_⟩
 have sm : az H (upd (upd H dx (.own x)) x (.ins C dx [])) := fun b u e => by rw [aw (aG e hx), aw (aG e hd)]; exact e
 obtain ⟨hg, hs⟩ := Oy h1 h6 hr
 refine ⟨x, dx, l, _, n, rfl, au, hl.keeps sm, by rw [List.length_map]; omega, hs, fun g => absurd hg g, fun Zi e _ _ _ H' d m G mv zg hw => ⟨rfl, ?_⟩⟩
 obtain rfl := Dr e
 refine k x d m G H' (Bs hx hd mv) (fun b hb => ?_) hw
 rcases List.mem_cons.mp hb with rfl | hb
 . exact hx
 . exact xU (zg b hb)
structure Ch (us : List (Int × Int)) : Prop where
 ok : Ao us
 one : ∀ q, us[0]? = some q -> q.1 = 1
 Y8 : ∀ (k : Nat) q q', us[k]? = some q -> us[k + 1]? = some q' -> q'.1 = q.1 * q.2
 pos : 0 < us.length
theorem Ch.mul {us : List (Int × Int)} (h : Ch us) : ∀ (k j : Nat) (q q' : Int × Int), j < k -> us[j]? = some q -> us[k]? = some q' -> ∃ r, 0 < r /\ q'.1 = q.1 * q.2 * r
 | 0, j, q, q', hj, _, _ => by omega
 | k + 1, j, q, q', hj, h1, h2 => by
   have hk : k < us.length := by have := (List.getElem?_eq_some_iff.mp h2).1; omega
   have WO := List.getElem?_eq_getElem hk
   have e := h.Y8 k _ q' WO h2
   by_cases c : j = k
   . subst c
     rw [h1] at WO
     cases WO
     exact ⟨1, by decide, by rw [e, Int.mul_one]⟩
   . obtain ⟨r, r0, er⟩ := h.mul k j q _ (by omega) h1 WO
     have hs := (h.ok _ (List.mem_of_getElem? WO)).2.2.1
     refine ⟨r * us[k].2, Int.mul_pos r0 (by omega), ?_⟩
     rw [e, er, Int.mul_assoc]
theorem yu {a r t n : Int} (ha : 0 < a) (h : t / a = n / a) : t / (a * r) = n / (a * r) := by
 rw [<- Int.ediv_ediv_of_nonneg (Int.le_of_lt ha), <- Int.ediv_ediv_of_nonneg (Int.le_of_lt ha), h]
theorem lP {us : List (Int × Int)} (h : Ch us) {k : Nat} {q : Int × Int} (hq : us[k]? = some q) : 0 < q.1 * q.2 /\ 0 < q.1 /\ 0 < q.2 := by
 obtain ⟨a1, a2, a3, a4⟩ := h.ok q (List.mem_of_getElem? hq)
 exact ⟨Int.mul_pos a1 (by omega), a1, by omega⟩
theorem Dl {us : List (Int × Int)} (h : Ch us) {j k : Nat} {q q' : Int × Int} (hj : j < k) (h1 : us[j]? = some q) (h2 : us[k]? = some q') {t n : Int} (nZ : ¬ t / q'.1 = n / q'.1) : ¬ t / (q.1 * q.2) = n / (q.1 * q.2) := fun e => by
 obtain ⟨r, _, er⟩ := h.mul k j q q' hj h1 h2
 rw [er] at nZ
 exact nZ (yu (lP h h1).1 e)
def Yz (q : Int × Int) (now to t : Int) : Prop := to / (q.1 * q.2) = now / (q.1 * q.2) -> t / q.1 % q.2 <= to / q.1 % q.2
def Out (us : List (Int × Int)) (now to t : Int) : Prop := (∀ q, us[fh us t now]? = some q -> Yz q now to t) /\ (fh us t now = us.length -> ∀ q, us[us.length - 1]? = some q -> t / (q.1 * q.2) <= to / (q.1 * q.2))
theorem mx {u s t : Int} (hu : 0 <= u) : t / u = s * (t / (u * s)) + t / u % s := by
 rw [<- Int.ediv_ediv_of_nonneg hu]
 exact (Int.mul_ediv_add_emod (t / u) s).symm
theorem Em {us : List (Int × Int)} (h : Ch us) {now to t : Int} (hle : t <= to) : Out us now to t := by
 refine ⟨fun q hq ho => ?_, fun _ q hq => Int.ediv_le_ediv (lP h hq).1 hle⟩
 obtain ⟨p1, p2, p3⟩ := lP h hq
 have hy := wD hq
 have a1 := mx (s := q.2) (t := t) (Int.le_of_lt p2)
 have a2 := mx (s := q.2) (t := to) (Int.le_of_lt p2)
 rw [hy] at a1
 rw [ho] at a2
 have := Int.ediv_le_ediv p2 hle
 omega
theorem xZ {us : List (Int × Int)} (h : Ch us) : ∃ q, us[us.length - 1]? = some q := ⟨_, List.getElem?_eq_getElem (by have := h.pos; omega)⟩
theorem iF {us : List (Int × Int)} (h : Ch us) {now to t : Int} (ho : ¬ Out us now to t) : to < t /\ fh us t to = fh us t now := by
 have MJ : to < t := by
  by_cases c : t <= to
  . exact absurd (Em h c) ho
  . omega
 refine ⟨MJ, ?_⟩
 by_cases c : fh us t now = us.length
 . obtain ⟨q, hq⟩ := xZ h
   have jt : ¬ t / (q.1 * q.2) <= to / (q.1 * q.2) := fun z => ho ⟨(fun q' lL => by rw [c, List.getElem?_eq_none (Nat.le_refl _)] at lL; cases lL), (fun _ q' lL => by rw [hq] at lL; cases lL; exact z)⟩
   rw [c]
   refine A2 (fun j q' hj lL e => ?_) (.inl rfl)
   by_cases cj : j = us.length - 1
   . subst cj
     rw [hq] at lL; cases lL
     omega
   . obtain ⟨r, _, er⟩ := h.mul (us.length - 1) j q' q (by omega) lL hq
     have e2 : t / (q.1 * q.2) = to / (q.1 * q.2) := by
      rw [er, Int.mul_assoc]
      exact yu (lP h lL).1 e
     omega
 . have eI : fh us t now < us.length := by have := sj us t now; omega
   have hq := List.getElem?_eq_getElem eI
   generalize us[fh us t now] = q at hq
   have hnw : ¬ Yz q now to t := fun z => ho ⟨(fun q' lL => by rw [hq] at lL; cases lL; exact z), (fun e => absurd e c)⟩
   have hh : to / (q.1 * q.2) = now / (q.1 * q.2) := by
    by_cases e : to / (q.1 * q.2) = now / (q.1 * q.2)
    . exact e
    . exact absurd (fun z => absurd z e) hnw
   have hs : ¬ t / q.1 % q.2 <= to / q.1 % q.2 := fun z => hnw fun _ => z
   have hy := wD hq
   refine A2 (fun j q' hj lL => Dl h hj lL hq fun e => hs (by rw [e]; exact Int.le_refl _)) (.inr ⟨q, hq, by rw [hy, hh]⟩)
theorem down {us : List (Int × Int)} (h : Ch us) {now to t : Int} (MU : now <= to) (ho : Out us now to t) (MJ : to < t) : fh us t to < fh us t now := by
 by_cases c : fh us t now = us.length
 . obtain ⟨q, hq⟩ := xZ h
   have h1 := ho.2 c q hq
   have h2 := Int.ediv_le_ediv (lP h hq).1 (Int.le_of_lt MJ)
   rw [c]
   by_cases d : fh us t to < us.length
   . exact d
   . have hp := h.pos
     exact absurd (by omega : t / (q.1 * q.2) = to / (q.1 * q.2)) (BI (k := us.length - 1) (by have := sj us t to; omega) hq)
 . have eI : fh us t now < us.length := by have := sj us t now; omega
   have hq := List.getElem?_eq_getElem eI
   generalize us[fh us t now] = q at hq
   obtain ⟨p1, p2, p3⟩ := lP h hq
   have hy := wD hq
   have hw := ho.1 q hq
   have b1 := Int.ediv_le_ediv p1 MU
   have b2 := Int.ediv_le_ediv p1 (Int.le_of_lt MJ)
   have hh : to / (q.1 * q.2) = now / (q.1 * q.2) := by omega
   have hs := hw hh
   have a1 := mx (s := q.2) (t := t) (Int.le_of_lt p2)
   have a2 := mx (s := q.2) (t := to) (Int.le_of_lt p2)
   rw [hy] at a1
   rw [hh] at a2
   have b3 := Int.ediv_le_ediv p2 (Int.le_of_lt MJ)
   have e : t / q.1 = to / q.1 := by omega
   cases hk : fh us t now with
   | zero =>
     rw [hk] at hq
     rw [h.one q hq] at e
     rw [Int.ediv_one, Int.ediv_one] at e
     omega
   | succ k =>
     rw [hk] at hq
     have Qw : k < us.length := by omega
     have zp := List.getElem?_eq_getElem Qw
     have en := h.Y8 k _ q zp hq
     by_cases d : fh us t to <= k
     . omega
     . rw [en] at e
       exact absurd e (BI (k := k) (by omega) zp)
theorem yt {rs : List Int} (h1 : 1 <= rs.length) (hl : rs.length <= 6) (hr : ∀ r ∈ rs, 2 <= r /\ r <= 60) : Ch (unitsOf 1 rs) := by
 refine ⟨wN hl hr, fun q hq => (iP rs 1 0 q hq).1, fun k q q' hq lL => ?_, by rw [pY]; omega⟩
 obtain ⟨a1, a2⟩ := iP rs 1 k q hq
 obtain ⟨b1, _⟩ := iP rs 1 (k + 1) q' lL
 rw [b1, List.take_add_one, a2, a1]
 exact oP 1 q.2 (rs.take k)
theorem Jr {H : Hp} {Q : VK} {p b : Addr} {ds es : List PyData} (hp : dJ H p ds) (hb : dJ H b es) (hl : ds.length + es.length <= 4000) (h : ∀ H2, Mv [p] H H2 -> dJ H2 p (ds ++ es) -> Q .bG H2) : F3 (.ref p) [.ref b] H Q := by
 obtain ⟨xs, e, dv, i⟩ := hp
 obtain ⟨zs, e2, dv2, i2⟩ := hb
 have m : Mv [p] H (upd H p (.lst (xs ++ zs))) := .cO e (by intro _ z; cases z)
 exact ⟨p, b, xs, zs, rfl, rfl, e, e2, by rw [dv.length, dv2.length]; exact Nat.le_of_lt (dQ hl), h _ m ⟨_, au, m.EZ (gN i i2) (dv.append dv2), gN i i2⟩⟩
def ti (y : Wh) (now to : Int) : Int := if to / (y.u * y.s) = now / (y.u * y.s) then d9 y to else 59
def namesOf (cs : List Sl) : List Str := cs.flatMap (·.ns)
theorem B4 {cs : List Sl} {L : Nat} (h : (namesOf cs).length <= L) {c : Sl} (hc : c ∈ cs) : c.ns.length <= L := by
 obtain ⟨a, b, e⟩ := List.append_of_mem hc
 unfold namesOf at h
 rw [e, List.flatMap_append, List.flatMap_cons, List.length_append, List.length_append] at h
 omega
theorem Ky {m s : Int} (hm : 0 <= m) (hs : 0 <= s) : Builtin.bitAnd m (2 * 2 ^ s.toNat - 1) = ((m.toNat % 2 ^ (s.toNat + 1) : Nat) : Int) := by
 have e : (2 * 2 ^ s.toNat - 1 : Int) = ((2 ^ (s.toNat + 1) - 1 : Nat) : Int) := by
  have h1 : (2 : Int) ^ s.toNat = ((2 ^ s.toNat : Nat) : Int) := by norm_cast
  have h2 : 0 < 2 ^ s.toNat := Nat.two_pow_pos _
  rw [h1, Nat.pow_succ]
  omega
 rw [e, xH hm (by omega), Int.toNat_natCast, Nat.and_two_pow_sub_one_eq_mod]
def zS (CW : Addr) : Sp := fun vs H Q _ => ∃ (z : Addr) (y : Wh) (nw to : Int), vs = [.ref z, .int nw, .int to] /\ z = y.x /\ gg CW H y /\ Iq y /\ y.foot.Nodup /\ (y.cs.map (·.k)).Nodup /\ fq y /\ (∀ c ∈ y.cs, 0 <= c.k /\ c.k < 60) /\ (namesOf y.cs).length <= 3000 /\
 ∀ l H' y' xi, Mv y.foot H H' -> gg CW H' y' -> y'.x = y.x -> y'.dn = y.dn -> y'.u = y.u -> y'.s = y.s -> fq y' -> y'.cs.Sublist y.cs -> (∀ c, c ∈ y'.cs ↔ c ∈ y.cs /\ ¬ c.k <= ti y nw to) -> (xi ++ y'.cs).Perm y.cs -> (∀ c ∈ xi, c.k <= ti y nw to) -> H l = none -> dJ H' l ((namesOf xi).map PyData.str) -> Q (.ref l) H'
theorem Ir (T : Txt K mg a) : a7 P w K mg base kj 2 a.b8 a.lC ["self", "now", "to"] (zS a.ak) := by
 have n4 := T.cn; have cl := T.bE
 have OB := T.j5; have k7 := T.fb; have Ba := T.kq
 have Qd := zM (P := P) (w := w) (base := base) T
 have kW := rR (P := P) (w := w) (base := base) T
 have BH := Ai (P := P) (w := w) (base := base) T
 refine T.ib.ok cC (fun vs H Q E h => ?_) (fun dB A outer s H vs Q E hr h => ?_)
 . obtain ⟨_, _, _, _, rfl, _⟩ := h; rfl
 . obtain ⟨_, y, nw, to, rfl, rfl, hw, hb, A7, B3, Vi, SE, hlen, q⟩ := h
   obtain ⟨dx, hx⟩ := hw.i
   have hi : sv H (.ref y.x) a.ak [("unit", .int y.u), ("slots", .int y.s), ("span", .int (y.u * y.s)), ("mask", .int y.m), ("names_in", .ref y.dn)] := ⟨y.x, dx, rfl, hx⟩
   have s0 := s9 hb to
   have s1 := yB hb to
   have s2 := hb.2.2.2
   have hm0 := Vi.1
   refine ⟨_, (aq (aC (i := 3) cC.nd rfl (Or.inl rfl) (aD (pv 0) rfl))
    (gZ (bT (dG (bH (pv 0) cl OB Qd (hr.mono (by decide)) (af (pv 2) (af (pv 1) ai))) (fun _ => rfl))
     (ao (aC (i := 3) cC.nd rfl (Or.inl rfl) (ay SQ (pv 3) (ay yw (ay AU aj (bH (pv 0) cl k7 kW (hr.mono (by decide)) (af (pv 2) ai))) aj))))
     aQ)
    (aq (aC (i := 4) cC.nd rfl (Or.inl rfl) (eZ ai))
    (aq (yc PassesOwn.never (aJ B8 (pv 3) aj (aR _))
     (aq (aC (i := 5) cC.nd rfl (Or.inl rfl) (ay yw (JL PySem.F.plainAttrs_int PySem.F.slot_int_bit_length PySem.F.type_int_bit_length HN (pv 3)) aj))
     (aq (a9 (je PySem.F.plainAttrs_list PySem.F.slot_list_extend PySem.F.type_list_extend zP (pv 4) (af (bH (pv 0) cl Ba BH (hr.mono (by decide)) (af (pv 5) ai)) ai)))
     (ao (aC (i := 3) cC.nd rfl (Or.inl rfl) (ay KI (pv 3) (ay AU aj (pv 5))))))))
    (ao (aI (pv 4))))))), ?_⟩
   repeat' (walk_at "rd1")
   refine o7 (fun σ' H' => H' = H /\ ∃ P : Nat, σ' = [some (.ref y.x), some (.int nw), some (.int to), some (.int P), none, none] /\ ∀ i : Nat, P.testBit i = y.cs.any fun c => decide (c.k = (i : Int) /\ c.k <= ti y nw to)) ?_ ?_
   . repeat' (walk_at "rd1")
     refine Fh rfl hw hb ?_
     repeat' (walk_at "rd1")
     . rename_i hh
       refine x6 rfl hw hb ?_
       refine Vm ⟨s0, by omega, by decide⟩ ?_
       repeat' (walk_at "rd1")
       refine ⟨rfl, y.m.toNat % 2 ^ ((d9 y to).toNat + 1), by rw [Ky hm0 s0]; rfl, fun i => ?_⟩
       have Bz : ti y nw to = d9 y to := if_pos hh
       rw [Nat.testBit_mod_two_pow, Vi.2 i, Bz, Bool.eq_iff_iff, Bool.and_eq_true, g9, List.any_eq_true, decide_eq_true_eq]
       constructor
       . rintro ⟨h1, c, hc, e⟩
         exact ⟨c, hc, decide_eq_true ⟨e, by omega⟩⟩
       . rintro ⟨c, hc, e⟩
         obtain ⟨e1, e2⟩ := of_decide_eq_true e
         exact ⟨by omega, c, hc, e1⟩
     . rename_i hh
       refine ⟨rfl, y.m.toNat, by rw [Int.toNat_of_nonneg hm0]; rfl, fun i => ?_⟩
       have Bz : ti y nw to = 59 := if_neg hh
       rw [Vi.2 i, Bz, Bool.eq_iff_iff, g9, List.any_eq_true]
       constructor
       . rintro ⟨c, hc, e⟩
         have := SE c hc
         exact ⟨c, hc, decide_eq_true ⟨e, by omega⟩⟩
       . rintro ⟨c, hc, e⟩
         exact ⟨c, hc, (of_decide_eq_true e).1⟩
   . rintro σ' H' ⟨rfl, P0, rfl, hP0⟩
     generalize Bz : ti y nw to = lim at *
     repeat' (walk_at "rd1")
     rename_i l H1 js lQ yK
     have gS := hw.keeps js
     have hlf : l ∉ y.foot := fun z => hw.alive l z lQ
     refine Bo (fun M σ' H' => ∃ (P : Nat) (xi : List Sl) (y1 : Wh) (z : Option V), σ' = [some (.ref y.x), some (.int nw), some (.int to), some (.int P), some (.ref l), z] /\ M = P /\ Mv (l :: y.foot) H1 H' /\ gg a.ak H' y1 /\ y1.x = y.x /\ y1.dn = y.dn /\ y1.u = y.u /\ y1.s = y.s /\ fq y1 /\ y1.cs.Sublist y.cs /\ (xi ++ y1.cs).Perm y.cs /\ (∀ c ∈ xi, c.k <= lim) /\ (∀ i : Nat, P.testBit i = y1.cs.any fun c => decide (c.k = (i : Int) /\ c.k <= lim)) /\ dJ H' l ((namesOf xi).map PyData.str)) ⟨P0, P0, [], y, none, rfl, rfl, Mv.refl, gS, rfl, rfl, rfl, rfl, Vi, List.Sublist.refl _, List.Perm.refl _, (fun c h => nomatch h), hP0, yK⟩ ?_
     rintro M σ' H2 ⟨P, xi, y1, z, rfl, rfl, mv, BZ, ex, ed, eu, es, XB, rW, vI, XH, hP, Jl⟩
     have AY : ∀ c, c ∈ y1.cs -> c ∈ y.cs := fun c hc => rW.subset hc
     have Kz : y1.foot.Sublist y.foot := by
      unfold Wh.foot
      rw [ex, ed]
      exact ((rW.map _).cons₂ _).cons₂ _
     obtain ⟨dx2, Mw⟩ := BZ.i
     have LI : sv H2 (.ref y.x) a.ak [("unit", .int y1.u), ("slots", .int y1.s), ("span", .int (y1.u * y1.s)), ("mask", .int y1.m), ("names_in", .ref y1.dn)] := ⟨y.x, dx2, rfl, by rw [<- ex]; exact Mw⟩
     repeat' (walk_at "rd1")
     . rename_i hM
       have VL : 0 < M := by omega
       refine ⟨rfl, (M : Int), rfl, rfl, ?_⟩
       have eS : ((Builtin.Int.intBits (M : Int) : Nat) : Int) - 1 = (M.log2 : Int) := by
        unfold Builtin.Int.intBits
        have : ¬ ((M : Int) == 0) = true := by simp; omega
        rw [if_neg this, Int.natAbs_natCast]
        omega
       repeat' (walk_at "rd1")
       rw [eS]
       have YL : M.testBit M.log2 = true := BR VL
       have hbk := hP M.log2
       rw [YL] at hbk
       obtain ⟨c, hc, hck⟩ := List.any_eq_true.mp hbk.symm
       obtain ⟨hk, Nr⟩ := of_decide_eq_true hck
       have hcy := AY c hc
       have hk2 := SE c hcy
       have Ur : (y1.cs.map (·.k)).Nodup := B3.sublist (rW.map _)
       repeat' (walk_at "rd1")
       refine ⟨y.x, y1, (M.log2 : Int), c, rfl, ex.symm, BZ, by unfold Iq; rw [eu, es]; exact hb, A7.sublist Kz, Ur, hc, hk, by omega, by omega, fun q2 H3 qv sr aej zp => ?_⟩
       have hly : l ∉ y1.foot := fun z => hlf (Kz.subset z)
       have Ph := Jl.mv qv hly
       have hln : ((namesOf xi).map PyData.str).length + (c.ns.map PyData.str).length <= 3000 := by
        have h1 := (vI.flatMap_right (·.ns)).length_eq
        rw [List.flatMap_append, List.length_append] at h1
        have h2 := B4 (cs := y1.cs) (Nat.le_refl _) hc
        unfold namesOf at hlen h2 ⊢
        rw [List.length_map, List.length_map]
        omega
       repeat' (walk_at "rd1")
       refine Jr Ph zp (by omega) (fun H4 uJ Ya => ?_)
       repeat' (walk_at "rd1")
       refine Vm ⟨by omega, by omega, by decide⟩ ?_
       repeat' (walk_at "rd1")
       rw [Int.toNat_natCast] at sr ⊢
       rw [xJ (by omega) (by rw [Int.toNat_natCast]; exact YL), Int.toNat_natCast]
       have QF : 0 < 2 ^ M.log2 := Nat.two_pow_pos _
       have aeP : 2 ^ M.log2 <= M := Nat.ge_two_pow_of_testBit YL
       have nZ : ∀ d ∈ y1.cs, d.k = (M.log2 : Int) -> d = c := fun d hd e => Gi Ur hd hc (e.trans hk.symm)
       have W0 : (c :: iW y1.cs (M.log2 : Int)).Perm y1.cs := by
        obtain ⟨A1, B1, e⟩ := List.append_of_mem hc
        have jP := Ur
        rw [e, List.map_append, List.map_cons, List.nodup_append, List.nodup_cons] at jP
        have f1 : A1.filter (fun c => !decide (c.k = (M.log2 : Int))) = A1 := List.filter_eq_self.mpr fun d hd => by
         have := jP.2.2 d.k (List.mem_map_of_mem hd) c.k List.mem_cons_self
         simpa [<- hk] using this
        have f2 : B1.filter (fun c => !decide (c.k = (M.log2 : Int))) = B1 := List.filter_eq_self.mpr fun d hd => by
         have : d.k ≠ c.k := fun z => jP.2.1.1 (z ▸ List.mem_map_of_mem hd)
         simpa [<- hk] using this
        have f3 : iW y1.cs (M.log2 : Int) = A1 ++ B1 := by
         unfold iW
         rw [e, List.filter_append, List.filter_cons, if_neg (by simp [hk]), f1, f2]
        rw [f3, e]
        exact (List.perm_middle).symm
       refine ⟨M - 2 ^ M.log2, by omega, M - 2 ^ M.log2, xi ++ [c], y1.emptied (M.log2 : Int) (Builtin.bitXor y1.m (1 * 2 ^ M.log2)), _, rfl, rfl, Mv.step (Mv.step mv qv fun b hb => .inl (List.mem_cons_of_mem _ (Kz.subset hb))) uJ fun b hb => .inl (by rw [List.mem_singleton.mp hb]; exact List.mem_cons_self), sr.mv uJ fun b hb => ?_, ex, ed, eu, es, ?_, (List.filter_sublist).trans rW, ?_, fun d hd => ?_, fun i => ?_, ?_⟩
       . have : b ∈ y1.foot := (A0 y1 _ _).subset hb
         simpa using fun z : b = l => hly (z ▸ this)
       . have := wW (slot := (M.log2 : Int)) XB (by omega) hc hk
         rwa [Int.toNat_natCast] at this
       . rw [List.append_assoc]
         exact ((List.Perm.refl xi).append (by rw [List.singleton_append]; exact W0)).trans vI
       . rcases List.mem_append.mp hd with hd | hd
         . exact XH d hd
         . rw [List.mem_singleton.mp hd]; exact Nr
       . rw [vo YL, hP i, Bool.eq_iff_iff, Bool.and_eq_true, decide_eq_true_eq, List.any_eq_true, List.any_eq_true]
         constructor
         . rintro ⟨⟨d, hd, e⟩, TU⟩
           obtain ⟨e1, e2⟩ := of_decide_eq_true e
           exact ⟨d, List.mem_filter.mpr ⟨hd, by simp; omega⟩, e⟩
         . rintro ⟨d, hd, e⟩
           obtain ⟨yG, hd2⟩ := List.mem_filter.mp hd
           obtain ⟨e1, e2⟩ := of_decide_eq_true e
           have hd2 : ¬ d.k = (M.log2 : Int) := by simpa using hd2
           exact ⟨⟨d, yG, e⟩, by omega⟩
       . have e : (namesOf (xi ++ [c])).map PyData.str = (namesOf xi).map PyData.str ++ c.ns.map PyData.str := by
          unfold namesOf
          rw [List.flatMap_append, List.map_append]
          simp
         rw [e]; exact Ya
     . rename_i hM
       have VL : M = 0 := by omega
       subst VL
       have jt : ∀ c ∈ y1.cs, ¬ c.k <= lim := fun c hc hl => by
        have h1 := SE c (AY c hc)
        have h2 := hP c.k.toNat
        rw [Nat.zero_testBit] at h2
        have h3 : (y1.cs.any fun d => decide (d.k = (c.k.toNat : Int) /\ d.k <= lim)) = true := List.any_eq_true.mpr ⟨c, hc, decide_eq_true ⟨by omega, hl⟩⟩
        rw [h3] at h2; cases h2
       refine q l H2 y1 xi ?_ BZ ex ed eu es XB rW (fun c => ⟨fun hc => ⟨AY c hc, jt c hc⟩, fun ⟨h1, h2⟩ => ?_⟩) vI XH lQ Jl
       . exact Mv.step (js.mv) mv fun b hb => by
          rcases List.mem_cons.mp hb with rfl | hb
          . exact .inr lQ
          . exact .inl hb
       . rcases List.mem_append.mp (vI.mem_iff.mpr h1) with h3 | h3
         . exact absurd (XH c h3) h2
         . exact h3
theorem Eo (T : Txt K mg a) : gk P w K mg base 2 a.b8 ["self", "now", "to"] [] (zS a.ak) :=
 ⟨⟨_, _, Ir T, T.ib.binds fun _ _ _ _ _ _ => .all fun us hl => match us, hl with | [_, _, _], _ => rfl, .nil⟩⟩
def FG (C CW : Addr) : Sp := fun vs H Q _ => ∃ (p dx d m : Addr) (n : Int) (G : dU) (us : List (Int × Int)) (ql : Int × Int) (to : Int), vs = [.ref p, .int to] /\ H p = some (.ins C dx (VS n d G.q G.f m)) /\ we CW H G /\ G.ws.map (fun w => (w.u, w.s)) = us /\ Ch us /\ us[us.length - 1]? = some ql /\ p ∉ G.foot /\ G.dc.length <= 3000 /\ (G.dc.Pairwise fun c d => aS d c = true) /\
 ∀ l H' keep gone, Mv [G.f] H H' -> we CW H' ⟨G.q, G.f, G.ws, keep⟩ -> G.dc = keep ++ gone -> H l = none -> dJ H' l ((gone.reverse.map (·.2)).map PyData.str) -> (∀ c ∈ gone, c.1 / (ql.1 * ql.2) <= to / (ql.1 * ql.2)) -> (∀ c ∈ keep, ¬ c.1 / (ql.1 * ql.2) <= to / (ql.1 * ql.2)) -> Q (.ref l) H'
theorem Kc {ws : List Wh} {y : Wh} (h : ws[ws.length - 1]? = some y) : uj (ws.map fun w => V.ref w.x) (-1) = some (.ref y.x) := by
 obtain ⟨hk, rfl⟩ := List.getElem?_eq_some_iff.mp h
 have e : E9 (ws.map fun w => V.ref w.x).length (-1) = some (ws.length - 1) := by
  unfold E9
  rw [List.length_map]
  simp
  omega
 unfold uj
 rw [e]
 simp [hk]
theorem JZ {xs : List PyData} {x : PyData} : uj (xs ++ [x]) (-1) = some x := by
 unfold uj
 have e : E9 (xs ++ [x]).length (-1) = some xs.length := by
  unfold E9
  rw [List.length_append]
  simp
  omega
 rw [e]
 simp
theorem Ui {H : Hp} {Q : VK} {p : Addr} {ks : List (Int × Str)} {c : Int × Str} (hp : dJ H p (ks.map pairD ++ [pairD c])) (h : ∀ v H2, Dv H2 v (.tuple [.int c.1, .str c.2]) -> Mv [p] H H2 -> dJ H2 p (ks.map pairD) -> Q v H2) : Xp (.ref p) [] H Q := by
 obtain ⟨xs, e, dv, im⟩ := hp
 have HS : xs.length = ks.length + 1 := by rw [dv.length, List.length_append, List.length_map]; rfl
 have eI : xs.length - 1 < xs.length := by omega
 have m : Mv [p] H (upd H p (.lst xs.dropLast)) := .cO e (by intro _ z; cases z)
 obtain ⟨v, hv, hd⟩ := dv.get (i := xs.length - 1) (d := pairD c) (by rw [HS, Nat.add_sub_cancel, List.getElem?_append_right (by rw [List.length_map]; omega)]; simp)
 refine ⟨p, xs, v, rfl, rfl, e, hv, h v _ (m.dat rfl hd) m ⟨_, au, m.EZ (cg (fun _ => rfl) _) ?_, cg (fun _ => rfl) _⟩⟩
 have := dv.take ks.length
 rw [List.take_left' (by rw [List.length_map])] at this
 rw [List.dropLast_eq_take, HS, Nat.add_sub_cancel]
 exact this
theorem NT (T : Txt K mg a) : a7 P w K mg base kj 1 a.bf a.iz ["self", "to"] (FG a.ag a.ak) := by
 have n1 := T.aX; have n2 := T.c6; have cl := T.aF
 have n3 := T.dH; have clw := T.bE
 refine T.fk.ok eM (fun vs H Q E h => ?_) (fun dB A outer s H vs Q E hr h => ?_)
 . obtain ⟨_, _, _, _, _, _, _, _, _, rfl, _⟩ := h; rfl
 . obtain ⟨p, dx, d, m, n, G, us, ql, to, rfl, hp, hg, An, qb, Eb, Wk, Zw, abC, q⟩ := h
   have hi : sv H (.ref p) a.ag [("now", .int n), ("times", .ref d), ("wheels", .ref G.q), ("far", .ref G.f), ("moves", .ref m)] := ⟨p, dx, rfl, hp⟩
   have Fd : us.length = G.ws.length := by rw [<- An, List.length_map]
   obtain ⟨y, hy, eq⟩ : ∃ y, G.ws[G.ws.length - 1]? = some y /\ (y.u, y.s) = ql := by
    rw [Fd, <- An, List.getElem?_map] at Eb
    cases e : G.ws[G.ws.length - 1]? with
    | none => rw [e] at Eb; cases Eb
    | some y => rw [e] at Eb; exact ⟨y, rfl, Option.some.inj Eb⟩
   have AQ := lP qb Eb
   obtain ⟨rS, zp, CB, Vu⟩ := qb.ok _ (List.mem_of_getElem? Eb)
   have BZ := hg.w y (List.mem_of_getElem? hy)
   obtain ⟨NK, Ee⟩ := BZ.i
   have WC : sv H (.ref y.x) a.ak [("unit", .int y.u), ("slots", .int y.s), ("span", .int (y.u * y.s)), ("mask", .int y.m), ("names_in", .ref y.dn)] := ⟨y.x, NK, rfl, Ee⟩
   have esp : y.u * y.s = ql.1 * ql.2 := by rw [<- eq]
   have hle : ql.1 * ql.2 <= 10 ^ 12 * 60 := Int.mul_le_mul zp Vu (by omega) (by decide)
   rw [esp] at WC
   have hp0 := AQ.1
   generalize hSP : ql.1 * ql.2 = sp at *
   refine ⟨_, (aq (aC (i := 2) eM.nd rfl (Or.inl rfl) (aD (aW cL (aD (pv 0) rfl) (QH KC aj) (fun _ _ => rfl)) rfl))
    (aq (aC (i := 3) eM.nd rfl (Or.inl rfl) (eZ ai))
    (aq (yc PassesOwn.never (PW.pt (rX (dG (aD (pv 0) rfl) (fun _ => rfl)) (sW (aJ vC (ay aO (aW cL (aW cL (aD (pv 0) rfl) (QH KC aj) (fun _ _ => rfl)) aj (fun _ _ => rfl)) (pv 2)) (ay aO (pv 1) (pv 2)) (aR _)))))
     (ao (a9 (je PySem.F.plainAttrs_list PySem.F.slot_list_append PySem.F.type_list_append lh (pv 3) (af (aW cL (JL PySem.F.plainAttrs_list PySem.F.slot_list_pop PySem.F.type_list_pop RD (aD (pv 0) rfl)) aj (fun _ _ => rfl)) ai)))))
    (ao (aI (pv 3)))))), ?_⟩
   repeat' (walk_at "rd1")
   refine fS (.of hg.q) (Kc hy) ?_
   repeat' (walk_at "rd1")
   rename_i nl H1 js lQ yK
   have BO := hg.keeps js
   have Ed := hi.keeps js
   have hff : G.f ≠ nl := fun z => by
    obtain ⟨xs, e, _⟩ := hg.f
    rw [z, lQ] at e; cases e
   have hpg : p ≠ G.f := fun z => Wk (by simp [dU.foot, z])
   have Vd : p ≠ nl := aG hp lQ
   refine Bo (fun M σ' H' => ∃ keep gone, σ' = [some (.ref p), some (.int to), some (.int sp), some (.ref nl)] /\ M = keep.length /\ G.dc = keep ++ gone /\ Mv [nl, G.f] H1 H' /\ dJ H' G.f (keep.map pairD) /\ dJ H' nl ((gone.reverse.map (·.2)).map PyData.str) /\ ∀ c ∈ gone, c.1 / sp <= to / sp) ⟨_, G.dc, [], rfl, rfl, (List.append_nil _).symm, Mv.refl, BO.f, yK, (fun c h => nomatch h)⟩ ?_
   rintro M σ' H2 ⟨keep, gone, rfl, rfl, Dq, mv, M3, Jl, Cp⟩
   have LI : sv H2 (.ref p) a.ag [("now", .int n), ("times", .ref d), ("wheels", .ref G.q), ("far", .ref G.f), ("moves", .ref m)] := ⟨p, dx, rfl, mv.at (by simp [Vd, hpg]) (js _ _ hp)⟩
   have fin : (∀ c ∈ keep, ¬ c.1 / sp <= to / sp) -> Q (.ref nl) H2 := fun hk => by
    have hgk : we a.ak H2 ⟨G.q, G.f, G.ws, keep⟩ := by
     obtain ⟨f1, f2, f3⟩ := BO.zW
     have nq : ∀ b ∈ G.foot, b ≠ nl := fun b hb z => hg.alive b hb (z ▸ lQ)
     have YZ : G.q ∈ G.foot := by simp [dU.foot]
     refine ⟨mv.at ?_ BO.q, M3, fun w hw => (BO.w w hw).mv mv fun b hb => ?_, BO.nd⟩
     . simp [nq G.q YZ, f1]
     . have := nq b (j8 hw b hb)
       simp [this, (f2 w hw b hb).2]
    refine q nl H2 keep gone ?_ hgk Dq lQ Jl Cp hk
    exact Mv.step (js.mv) mv fun b hb => by
     have : b = nl \/ b = G.f := by simpa using hb
     rcases this with rfl | rfl
     . exact .inr lQ
     . exact .inl (by simp)
   rcases List.eq_nil_or_concat keep with rfl | ⟨k0, c, rfl⟩
   . repeat' (walk_at "rd1")
     exact fin (fun c h => nomatch h)
   . have RW := M3
     rw [List.concat_eq_append, List.map_append] at RW
     have QF := abC
     rw [Dq, List.concat_eq_append, List.append_assoc, List.pairwise_append, List.pairwise_append] at QF
     repeat' (walk_at "rd1")
     refine zv (.inr RW.dv) JZ ?_
     show vW H2 (.tuple [.int c.1, .str c.2]) _
     repeat' (walk_at "rd1")
     . rename_i v0 Yw hb
       refine Ui RW (fun v3 H3 Y9 qv Vj => ?_)
       have Ph := Jl.mv qv (by simpa using Ne.symm hff)
       have hgl : gone.length <= 3000 := by
        have := congrArg List.length Dq
        rw [List.length_append] at this
        omega
       have AB : ((gone.reverse.map (·.2)).map PyData.str).length = gone.length := by rw [List.length_map, List.length_map, List.length_reverse]
       repeat' (walk_at "rd1")
       rename_i H4 uJ Ya
       have MP := Vj.mv uJ (by simpa using hff)
       refine ⟨k0.length, by rw [List.concat_eq_append, List.length_append]; simp, k0, c :: gone, rfl, rfl, by rw [Dq, List.concat_eq_append, List.append_assoc]; rfl, ?_, MP, ?_, fun e he => ?_⟩
       . exact Mv.step (Mv.step mv qv fun b hb => .inl (by rw [List.mem_singleton.mp hb]; simp)) uJ fun b hb => .inl (by rw [List.mem_singleton.mp hb]; simp)
       . rw [List.reverse_cons, List.map_append, List.map_append]; exact Ya
       . rcases List.mem_cons.mp he with rfl | he
         . exact hb
         . exact Cp e he
     . rename_i v0 Yw hb
       refine fin fun e he => ?_
       rw [List.concat_eq_append] at he
       rcases List.mem_append.mp he with he | he
       . have h1 := QF.2.2 e he c (by simp)
         have h2 : c.1 <= e.1 := by
          rcases CH.mp h1 with h | h
          . omega
          . omega
         have h3 := Int.ediv_le_ediv hp0 h2
         omega
       . rw [List.mem_singleton.mp he]; exact hb
theorem Jj (T : Txt K mg a) : gk P w K mg base 1 a.bf ["self", "to"] [] (FG a.ag a.ak) :=
 ⟨⟨_, _, NT T, T.fk.binds fun _ _ _ _ _ _ => .all fun us hl => match us, hl with | [_, _], _ => rfl, .nil⟩⟩
theorem GI.ext {us : List (Int × Int)} {n : Int} {ts VJ : List (Str × Int)} {G : dU} (h : GI us n ts G) (e : ∀ y, y ∈ ts ↔ y ∈ VJ) : GI us n VJ G :=
 ⟨h.eu, fun k w hw => (h.wh k w hw).congr fun x j => ⟨fun ⟨t, h1, h2⟩ => ⟨t, (e _).mp h1, h2⟩, fun ⟨t, h1, h2⟩ => ⟨t, (e _).mpr h1, h2⟩⟩, fun c => (h.dc c).trans ⟨fun ⟨h1, h2⟩ => ⟨(e _).mp h1, h2⟩, fun ⟨h1, h2⟩ => ⟨(e _).mpr h1, h2⟩⟩, h.GN⟩
theorem P6 {cs : List Sl} (hk : (cs.map (·.k)).Nodup) (hn : ∀ c ∈ cs, c.ns.Nodup) (hd : ∀ c ∈ cs, ∀ d ∈ cs, ∀ x, x ∈ c.ns -> x ∈ d.ns -> c.k = d.k) : (namesOf cs).Nodup := by
 unfold namesOf
 induction cs with
 | nil => exact .nil
 | cons c r ih =>
   rw [List.map_cons, List.nodup_cons] at hk
   rw [List.flatMap_cons, List.nodup_append]
   refine ⟨hn c List.mem_cons_self, ih hk.2 (fun d lM => hn d (List.mem_cons_of_mem _ lM)) fun d lM e he => hd d (List.mem_cons_of_mem _ lM) e (List.mem_cons_of_mem _ he), fun x hx y hy e => ?_⟩
   obtain ⟨d, lM, MR⟩ := List.mem_flatMap.mp hy
   have := hd c List.mem_cons_self d (List.mem_cons_of_mem _ lM) x hx (e ▸ MR)
   exact hk.1 (this ▸ List.mem_map_of_mem lM)
theorem GI.CQ {us : List (Int × Int)} {n : Int} {ts : List (Str × Int)} {G : dU} (h : GI us n ts G) (jP : (ts.map (·.1)).Nodup) {k : Nat} {w : Wh} (hw : G.ws[k]? = some w) {cs : List Sl} (hs : ∀ c ∈ cs, c ∈ w.cs) (hk : (cs.map (·.k)).Nodup) : (namesOf cs).Nodup := by
 have hi := h.wh k w hw
 refine P6 hk (fun c hc => (hi.ne c (hs c hc)).2.1) fun c hc d hd x hx vK => ?_
 obtain ⟨t, ht, _, e⟩ := (hi.mem x c.k).mp ⟨c, hs c hc, rfl, hx⟩
 obtain ⟨t', vU, _, e'⟩ := (hi.mem x d.k).mp ⟨d, hs d hd, rfl, vK⟩
 rw [il jP ht vU] at e
 exact e.symm.trans e'
theorem zG {cs : List Sl} {x : Str} : x ∈ namesOf cs ↔ ∃ c ∈ cs, x ∈ c.ns := List.mem_flatMap
theorem sJ {us : List (Int × Int)} {n to t : Int} {w : Wh} (hq : us[fh us t n]? = some (w.u, w.s)) (hb : Iq w) (hl : fh us t n < us.length) : Out us n to t ↔ t / w.u % w.s <= ti w n to := by
 have PY : t / w.u % w.s < w.s := Int.emod_lt_of_pos _ (by have := hb.2.2.1; omega)
 have hs6 := hb.2.2.2
 unfold ti
 constructor
 . intro ho
   have := ho.1 _ hq
   split
   . rename_i e; exact this e
   . omega
 . intro Bz
   refine ⟨fun q lL e => ?_, fun e => absurd e (by omega)⟩
   rw [hq] at lL
   cases lL
   rw [if_pos e] at Bz
   exact Bz
def K7 (us : List (Int × Int)) (n to : Int) (ws vD : List Wh) (i : Nat) : Prop := vD.length = ws.length /\ (∀ j, i <= j -> vD[j]? = ws[j]?) /\ ∀ (j : Nat) w, j < i -> ws[j]? = some w -> ∃ w', vD[j]? = some w' /\ w'.x = w.x /\ w'.dn = w.dn /\ w'.u = w.u /\ w'.s = w.s /\ fq w' /\ w'.cs.Sublist w.cs /\ ∀ c, c ∈ w'.cs ↔ c ∈ w.cs /\ ¬ c.k <= ti w n to
theorem Nt {us : List (Int × Int)} {n to : Int} {ts st : List (Str × Int)} {G : dU} {vD : List Wh} {keep gone : List (Int × Str)} {ql : Int × Int} (h : GI us n ts G) (qb : Ch us) (qe : ∀ y, y ∈ st ↔ y ∈ ts /\ ¬ Out us n to y.2) (hr : K7 us n to G.ws vD G.ws.length) (hf : G.dc = keep ++ gone) (Eb : us[us.length - 1]? = some ql) (hg : ∀ c ∈ gone, c.1 / (ql.1 * ql.2) <= to / (ql.1 * ql.2)) (hk : ∀ c ∈ keep, ¬ c.1 / (ql.1 * ql.2) <= to / (ql.1 * ql.2)) : GI us to st ⟨G.q, G.f, vD, keep⟩ := by
 have Fd := h.len
 obtain ⟨r1, r2, r3⟩ := hr
 refine ⟨?_, fun k w' F7 => ?_, fun c => ?_, ?_⟩
 . refine List.ext_getElem? fun j => ?_
   rw [<- h.eu]
   show (vD.map fun w => (w.u, w.s))[j]? = (G.ws.map fun w => (w.u, w.s))[j]?
   rw [List.getElem?_map, List.getElem?_map]
   by_cases c : j < G.ws.length
   . obtain ⟨w', e1, _, _, e4, e5, _⟩ := r3 j _ c (List.getElem?_eq_getElem c)
     rw [e1, List.getElem?_eq_getElem c]
     simp [e4, e5]
   . rw [r2 j (by omega)]
 . have F7 : vD[k]? = some w' := F7
   have Qw : k < G.ws.length := by have := (List.getElem?_eq_some_iff.mp F7).1; omega
   have hw := List.getElem?_eq_getElem Qw
   generalize G.ws[k] = w at hw
   obtain ⟨w2, e1, e2, e3, e4, e5, hm, rW, y6⟩ := r3 k w Qw hw
   rw [F7] at e1
   cases e1
   have hi := h.wh k w hw
   have hq := h.at hw
   have hb := h.Xy qb.ok hw
   refine ⟨hm, hi.nd.sublist (rW.map _), fun c hc => ?_, fun x j => ?_⟩
   . obtain ⟨a1, a2, a3, a4⟩ := hi.ne c (rW.subset hc)
     exact ⟨a1, a2, a3, by rw [e5]; exact a4⟩
   . rw [e4, e5]
     constructor
     . rintro ⟨c, hc, XJ, hx⟩
       obtain ⟨Tb, IE⟩ := (y6 c).mp hc
       obtain ⟨t, ht, IC, MQ⟩ := (hi.mem x j).mp ⟨c, Tb, XJ, hx⟩
       have jt : ¬ Out us n to t := fun ho => by
        have := (sJ (to := to) (by rw [IC]; exact hq) hb (by omega)).mp ho
        rw [MQ, <- XJ] at this
        exact IE this
       exact ⟨t, (qe _).mpr ⟨ht, jt⟩, (iF qb jt).2.trans IC, MQ⟩
     . rintro ⟨t, ht, IC, MQ⟩
       obtain ⟨Xx, jt⟩ := (qe _).mp ht
       have jt : ¬ Out us n to t := jt
       have Pu : fh us t n = k := (iF qb jt).2.symm.trans IC
       obtain ⟨c, hc, XJ, hx⟩ := (hi.mem x j).mpr ⟨t, Xx, Pu, MQ⟩
       refine ⟨c, (y6 c).mpr ⟨hc, fun hl => jt ?_⟩, XJ, hx⟩
       refine (sJ (to := to) (by rw [Pu]; exact hq) hb (by omega)).mpr ?_
       rw [MQ, <- XJ]; exact hl
 . show c ∈ keep ↔ _
   have SX := h.dc c
   rw [hf, List.mem_append] at SX
   constructor
   . intro hc
     obtain ⟨h1, h2⟩ := SX.mp (.inl hc)
     have jt : ¬ Out us n to c.1 := fun ho => hk c hc (ho.2 h2 ql Eb)
     exact ⟨(qe _).mpr ⟨h1, jt⟩, (iF qb jt).2.trans h2⟩
   . rintro ⟨h1, h2⟩
     obtain ⟨h3, jt⟩ := (qe _).mp h1
     have jt : ¬ Out us n to c.1 := jt
     have h4 : fh us c.1 n = us.length := (iF qb jt).2.symm.trans h2
     rcases SX.mpr ⟨h3, h4⟩ with hc | hc
     . exact hc
     . refine absurd ⟨fun q hq => ?_, fun _ q hq => ?_⟩ jt
       . rw [h4, List.getElem?_eq_none (Nat.le_refl _)] at hq; cases hq
       . rw [Eb] at hq; cases hq; exact hg c hc
 . have := h.GN
   rw [hf] at this
   exact (List.pairwise_append.mp this).1
def t7 (ts : List (Str × Int)) (x : Str) : Int := ((ts.find? fun y => decide (y.1 = x)).map (·.2)).getD 0
theorem me {ts : List (Str × Int)} (hn : (ts.map (·.1)).Nodup) {x : Str} {t : Int} (h : (x, t) ∈ ts) : t7 ts x = t := by
 unfold t7
 cases e : ts.find? fun y => decide (y.1 = x) with
 | none =>
   rw [List.find?_eq_none] at e
   exact absurd (by simp) (e _ h)
 | some y =>
   have h1 := List.mem_of_find?_eq_some e
   have h2 : y.1 = x := by simpa using List.find?_some e
   have h3 : (x, y.2) ∈ ts := by rw [<- h2]; exact h1
   exact il hn h3 h
def EY (mv : List (Str × Int)) (x : Str) (v : Int) : List (Str × Int) := mv.map fun y => if y.1 = x then (y.1, v) else y
theorem D2 (mv : List (Str × Int)) (x : Str) (v : Int) : (EY mv x v).map (·.1) = mv.map (·.1) := by
 unfold EY
 rw [List.map_map]
 refine List.map_congr_left fun y _ => ?_
 show (if y.1 = x then (y.1, v) else y).1 = y.1
 split <;> rfl
theorem J5 {mv : List (Str × Int)} {x : Str} {v : Int} (h : x ∈ mv.map (·.1)) : putD (n6 mv) x (.int v) = n6 (EY mv x v) := by
 unfold putD
 have e : ((n6 mv).any fun kv => decide (kv.1 = x)) = true := by
  obtain ⟨y, hy, rfl⟩ := List.mem_map.mp h
  exact List.any_eq_true.mpr ⟨(y.1, .int y.2), List.mem_map.mpr ⟨y, hy, rfl⟩, by simp⟩
 rw [if_pos e]
 unfold n6 EY
 rw [List.map_map, List.map_map]
 refine List.map_congr_left fun y _ => ?_
 simp only [Function.comp]
 split <;> rfl
theorem Jx {mv : List (Str × Int)} {x : Str} {v : Int} {y : Str × Int} (hx : x ∈ mv.map (·.1)) : y ∈ EY mv x v ↔ (y.1 = x /\ y.2 = v) \/ (y.1 ≠ x /\ y ∈ mv) := by
 unfold EY
 constructor
 . intro h
   obtain ⟨z, hz, rfl⟩ := List.mem_map.mp h
   by_cases e : z.1 = x
   . rw [if_pos e]; exact .inl ⟨e, rfl⟩
   . rw [if_neg e]; exact .inr ⟨e, hz⟩
 . rintro (⟨h1, h2⟩ | ⟨h1, h2⟩)
   . obtain ⟨z, hz, e⟩ := List.mem_map.mp hx
     exact List.mem_map.mpr ⟨z, hz, by rw [if_pos e]; exact Prod.ext (e.trans h1.symm) h2.symm⟩
   . exact List.mem_map.mpr ⟨y, h2, if_neg h1⟩
open Classical in
noncomputable def wX (us : List (Int × Int)) (n to : Int) (ts : List (Str × Int)) : List (Str × Int) := ts.filter fun y => decide (¬ Out us n to y.2)
open Classical in
theorem vb {us : List (Int × Int)} {n to : Int} {ts : List (Str × Int)} {y : Str × Int} : y ∈ wX us n to ts ↔ y ∈ ts /\ ¬ Out us n to y.2 := by
 unfold wX
 rw [List.mem_filter, decide_eq_true_eq]
theorem Ip (us : List (Int × Int)) (n to : Int) (ts : List (Str × Int)) : (wX us n to ts).length <= ts.length := List.length_filter_le _ _
def oH (ts : List (Str × Int)) (to : Int) (ln : List Str) : List (Str × Int) := (ln.filter fun x => decide (to < t7 ts x)).map fun x => (x, t7 ts x)
theorem ye (ts : List (Str × Int)) (to : Int) (l : List Str) (x : Str) : oH ts to (l ++ [x]) = oH ts to l ++ (if to < t7 ts x then [(x, t7 ts x)] else []) := by
 unfold oH
 rw [List.filter_append, List.map_append]
 congr 1
 by_cases h : to < t7 ts x <;> simp [h]
def overs (ts : List (Str × Int)) (to : Int) (ln : List Str) : List Str := ln.filter fun x => decide (t7 ts x <= to)
theorem xF (ts : List (Str × Int)) (to : Int) (l : List Str) (x : Str) : overs ts to (l ++ [x]) = overs ts to l ++ (if t7 ts x <= to then [x] else []) := by
 unfold overs
 rw [List.filter_append]
 congr 1
 by_cases h : t7 ts x <= to <;> simp [h]
theorem Ak {ts : List (Str × Int)} {to : Int} {l : List Str} {y : Str × Int} : y ∈ oH ts to l ↔ y.1 ∈ l /\ y.2 = t7 ts y.1 /\ to < t7 ts y.1 := by
 unfold oH
 rw [List.mem_map]
 constructor
 . rintro ⟨x, hx, rfl⟩
   obtain ⟨h1, h2⟩ := List.mem_filter.mp hx
   exact ⟨h1, rfl, of_decide_eq_true h2⟩
 . rintro ⟨h1, h2, h3⟩
   exact ⟨y.1, List.mem_filter.mpr ⟨h1, decide_eq_true h3⟩, Prod.ext rfl h2.symm⟩
theorem GY {ts : List (Str × Int)} {to : Int} {l : List Str} {x : Str} : x ∈ overs ts to l ↔ x ∈ l /\ t7 ts x <= to := by
 unfold overs
 rw [List.mem_filter, decide_eq_true_eq]
def u3 (C CW : Addr) : Sp := fun vs H Q _ => ∃ (p d m : Addr) (n : Int) (us : List (Int × Int)) (G : dU) (ts cX : List (Str × Int)) (to : Int), vs = [.ref p, .int to] /\ yM C CW H p d m n us G ts cX /\ Ch us /\ n <= to /\ ts.length <= 900 /\
 ∀ (l : Addr) (H' : Hp) (G' : dU) (hU : List (Str × Int)) (ov : List Str), Mv (m :: G.foot) H H' -> eJ C CW H' p d m n G' ts hU -> GI us to (ts.filter fun y => decide (to < y.2)) G' -> ov.Nodup -> (∀ x, x ∈ ov ↔ ∃ t, (x, t) ∈ ts /\ t <= to) -> (hU.map (·.1)).Nodup -> (∀ x v', (x, v') ∈ hU ↔ ∃ t v, (x, t) ∈ ts /\ to < t /\ (x, v) ∈ cX /\ v' = v + (if fh us t to < fh us t n then 1 else 0)) -> (∀ b ∈ G'.foot, b ∈ G.foot \/ H b = none) -> H l = none -> dJ H' l (ov.map PyData.str) -> Q (.ref l) H'
theorem Ih (T : Txt K mg a) : a7 P w K mg base kj 4 a.bK a.jV ["self", "to"] (u3 a.ag a.ak) := by
 have n1 := T.aX; have n2 := T.bq; have n3 := T.b5; have n4 := T.cf; have cl := T.aF; have clw := T.bE
 have CM := T.iJ; have rQ := T.fP
 have CA := Jj (P := P) (w := w) (base := base) T
 have sd := Gj (P := P) (w := w) (base := base) T
 have vV := Eo (P := P) (w := w) (base := base) T
 refine T.gy.ok cV (fun vs H Q E h => ?_) (fun dB A outer s H vs Q E hr h => ?_)
 . obtain ⟨_, _, _, _, _, _, _, _, _, rfl, _⟩ := h; rfl
 . obtain ⟨p, d, m, n, us, G, ts, cX, to, rfl, hw, qb, MU, hlen, q⟩ := h
   have hi := hw.ws.ins
   obtain ⟨dx, hp⟩ := hw.ws.ex
   obtain ⟨ff1, ff2, ff3, ff4, ff5, ff6⟩ := hw.ws.vG
   obtain ⟨ql, Eb⟩ := xZ qb
   have og := hw.gi
   have Fd := og.len
   have acr := og.EJ
   refine ⟨_, (aq (aC (i := 2) cV.nd rfl (Or.inl rfl) (bH (pv 0) cl CM CA (hr.mono (by decide)) (af (pv 1) ai)))
    (aq (gC PassesOwn.never rfl (gP (aD (pv 0) rfl)) (aT (i := 3) cV.nd rfl (Or.inl rfl))
     (ao (a9 (je PySem.F.plainAttrs_list PySem.F.slot_list_extend PySem.F.type_list_extend zP (pv 2) (af (bH (pv 3) T.bE T.nD vV (hr.mono (by decide)) (af (aD (pv 0) rfl) (af (pv 1) ai))) ai)))))
    (aq (aC (i := 4) cV.nd rfl (Or.inl rfl) (eZ ai))
    (aq (gC PassesOwn.never rfl (gP (pv 2)) (aT (i := 5) cV.nd rfl (Or.inl rfl))
     (ao (bT (aJ vC (mO (gm hr) (aD (pv 0) rfl) (pv 5) (fun _ _ => rfl)) (pv 1) (aR _))
      (aq (a9 (je PySem.F.plainAttrs_dict PySem.F.slot_dict_pop PySem.F.type_dict_pop qd (aD (pv 0) rfl) (af (pv 5) ai)))
      (ao (a9 (je PySem.F.plainAttrs_list PySem.F.slot_list_append PySem.F.type_list_append lh (pv 4) (af (pv 5) ai)))))
      (aq (tU (gm hr) (aD (pv 0) rfl) (pv 5) (ay dX (mO (gm hr) (aD (pv 0) rfl) (pv 5) (fun _ _ => rfl)) aj) rfl)
      (ao (a9 (bH (pv 0) cl rQ sd (hr.mono (by decide)) (af (pv 5) (af (mO (gm hr) (aD (pv 0) rfl) (pv 5) (fun _ _ => rfl)) (af (pv 1) ai))))))))))
    (ao (aI (pv 4))))))), ?_⟩
   repeat' (walk_at "rd1")
   refine ⟨p, dx, d, m, n, G, us, ql, to, rfl, hp, hw.ws.g, og.eu, qb, Eb, ff4, by omega, og.GN, fun nl H1 keep gone qc BO Dq lQ yK Cp QK => ?_⟩
   have VM : G.f ∈ G.foot := by simp [dU.foot]
   have LC : Mv G.foot H H1 := bV qc fun b hb => (List.mem_singleton.mp hb) ▸ VM
   have Ap := LC.at ff4 hp
   have Ed : sv H1 (.ref p) a.ag [("now", .int n), ("times", .ref d), ("wheels", .ref G.q), ("far", .ref G.f), ("moves", .ref m)] := ⟨p, dx, rfl, Ap⟩
   have YT : ∀ b ∈ p :: d :: m :: G.foot, b ≠ nl := fun b hb z => hw.ws.alive b hb (z ▸ lQ)
   have nlG : nl ∉ G.foot := fun z => YT nl (by simp [z]) rfl
   have Vd : p ≠ nl := YT p (by simp)
   have hqn : G.q ≠ nl := YT G.q (by simp [dU.foot])
   repeat' (walk_at "rd1")
   have W9 : (gone.reverse.map (·.2)).Nodup /\ ∀ x, x ∈ gone.reverse.map (·.2) ↔ ∃ t, (x, t) ∈ ts /\ Out us n to t /\ (fh us t n < 0 \/ fh us t n = us.length) := by
    have y6 : ∀ c, c ∈ gone ↔ (c.2, c.1) ∈ ts /\ fh us c.1 n = us.length /\ Out us n to c.1 := fun c => by
     have SX := og.dc c
     rw [Dq, List.mem_append] at SX
     constructor
     . intro hc
       obtain ⟨h1, h2⟩ := SX.mp (.inr hc)
       refine ⟨h1, h2, fun q hq => ?_, fun _ q hq => ?_⟩
       . rw [h2, List.getElem?_eq_none (Nat.le_refl _)] at hq; cases hq
       . rw [Eb] at hq; cases hq; exact Cp c hc
     . rintro ⟨h1, h2, h3⟩
       rcases SX.mpr ⟨h1, h2⟩ with hc | hc
       . exact absurd (h3.2 h2 ql Eb) (QK c hc)
       . exact hc
    constructor
    . rw [List.map_reverse]
      refine (List.reverse_perm _).nodup_iff.mpr ?_
      have QF := og.GN
      rw [Dq] at QF
      have hpg := (List.pairwise_append.mp QF).2.1
      rw [List.Nodup, List.pairwise_map]
      refine hpg.imp_of_mem fun {c d} hc hd eI e => ?_
      have h1 := ((y6 c).mp hc).1
      have h2 := ((y6 d).mp hd).1
      rw [e] at h1
      have e1 := il hw.nd h1 h2
      have : c = d := Prod.ext e1 e
      rw [this, fM] at eI; cases eI
    . intro x
      rw [List.mem_map]
      constructor
      . rintro ⟨c, hc, rfl⟩
        obtain ⟨h1, h2, h3⟩ := (y6 c).mp (List.mem_reverse.mp hc)
        exact ⟨c.1, h1, h3, .inr h2⟩
      . rintro ⟨t, h1, h2, h3⟩
        exact ⟨(t, x), List.mem_reverse.mpr ((y6 (t, x)).mpr ⟨h1, h3.resolve_left (by omega), h2⟩), rfl⟩
   have Xr : K7 us n to G.ws G.ws 0 := ⟨rfl, fun j _ => rfl, fun j w h => absurd h (by omega)⟩
   have Gr : ∀ (ln : List Str), ln.Nodup -> (∀ x ∈ ln, ∃ t, (x, t) ∈ ts) -> ln.length <= 900 := fun ln h1 h2 => by
    have := p6 (l' := ts.map (·.1)) h1 fun x hx => let ⟨t, ht⟩ := h2 x hx; List.mem_map.mpr ⟨_, ht, rfl⟩
    rw [List.length_map] at this
    omega
   refine forL (xs := G.ws.map fun w => V.ref w.x) (.of (by have := BO.q; exact this)) (fun i σ' H' => ∃ z, σ' = [some (.ref p), some (.int to), some (.ref nl), z, none, none] /\ Mv (nl :: G.foot) H1 H' /\ ∃ vD ln, we a.ak H' ⟨G.q, G.f, vD, keep⟩ /\ K7 us n to G.ws vD i /\ (∀ b ∈ dU.foot ⟨G.q, G.f, vD, keep⟩, b ∈ G.foot) /\ dJ H' nl (ln.map PyData.str) /\ ln.Nodup /\ ∀ x, x ∈ ln ↔ ∃ t, (x, t) ∈ ts /\ Out us n to t /\ (fh us t n < i \/ fh us t n = us.length)) ⟨_, rfl, Mv.refl, G.ws, _, BO, Xr, fun b hb => hb, yK, W9.1, W9.2⟩ ?_ ?_ ?_
   . rintro i σ' H' - ⟨z, -, mv, vD, ln, SU, w4, -⟩
     have e : vD.map (fun w => V.ref w.x) = G.ws.map fun w => V.ref w.x := by
      refine List.ext_getElem? fun j => ?_
      rw [List.getElem?_map, List.getElem?_map]
      by_cases c : j < i
      . by_cases c2 : j < G.ws.length
        . obtain ⟨w', e1, e2, _⟩ := w4.2.2 j _ c (List.getElem?_eq_getElem c2)
          rw [e1, List.getElem?_eq_getElem c2]; simp [e2]
        . rw [List.getElem?_eq_none (by rw [w4.1]; omega), List.getElem?_eq_none (by omega)]
      . rw [w4.2.1 j (by omega)]
     rw [<- e]
     exact .of SU.q
   . rintro i x σ' H' hx ⟨z, rfl, mv, vD, ln, SU, w4, Xt, yL, HA, VA⟩
     obtain ⟨y, hy, rfl⟩ : ∃ y, G.ws[i]? = some y /\ V.ref y.x = x := by
      rw [List.getElem?_map] at hx
      cases e : G.ws[i]? with
      | none => rw [e] at hx; cases hx
      | some y => rw [e] at hx; exact ⟨y, rfl, Option.some.inj hx⟩
     have MR : vD[i]? = some y := by rw [w4.2.1 i (Nat.le_refl _)]; exact hy
     have BZ := SU.w y (List.mem_of_getElem? MR)
     have Cg := og.wh i y hy
     have MM := og.Xy qb.ok hy
     obtain ⟨NK, Ee⟩ := BZ.i
     have WC : sv H' (.ref y.x) a.ak [("unit", .int y.u), ("slots", .int y.s), ("span", .int (y.u * y.s)), ("mask", .int y.m), ("names_in", .ref y.dn)] := ⟨y.x, NK, rfl, Ee⟩
     have hpG : p ∉ nl :: G.foot := by simp [Vd, ff4]
     have Fy : sv H' (.ref p) a.ag [("now", .int n), ("times", .ref d), ("wheels", .ref G.q), ("far", .ref G.f), ("moves", .ref m)] := ⟨p, dx, rfl, mv.at hpG Ap⟩
     repeat' (walk_at "rd1")
     have Z4 := List.mem_of_getElem? MR
     have Kz : y.foot.Nodup := by
      have := SU.zW.2.2
      obtain ⟨e1, _⟩ := tD MR y
      rw [show (dU.ws ⟨G.q, G.f, vD, keep⟩) = vD from rfl, e1, List.flatMap_append, List.flatMap_cons, List.nodup_append, List.nodup_append] at this
      exact this.2.1.1
     have hyG : ∀ b ∈ y.foot, b ∈ G.foot := fun b hb => Xt b (j8 (G := ⟨G.q, G.f, vD, keep⟩) Z4 b hb)
     have hny : nl ∉ y.foot := fun z => nlG (hyG nl z)
     have abz := og.CQ hw.nd hy (fun c hc => hc) Cg.nd
     have adE := Gr _ abz fun x hx => by
      obtain ⟨c, hc, Ko⟩ := zG.mp hx
      obtain ⟨t, ht, _⟩ := (Cg.mem x c.k).mp ⟨c, hc, rfl, Ko⟩
      exact ⟨t, ht⟩
     have ZC := Gr ln HA fun x hx => let ⟨t, ht, _⟩ := (VA x).mp hx; ⟨t, ht⟩
     refine ⟨y.x, y, n, to, rfl, rfl, BZ, MM, Kz, Cg.nd, Cg.mk', fun c hc => ?_, by omega, fun l2 H2 y' xi lK wu ex ed eu es hm2 rW y6 vI XH uG Jl => ?_⟩
     . obtain ⟨_, _, a3, a4⟩ := Cg.ne c hc
       have := MM.2.2.2
       exact ⟨a3, by omega⟩
     have hvs : ∀ c ∈ xi, c ∈ y.cs := fun c hc => vI.mem_iff.mp (List.mem_append_left _ hc)
     have Za : (xi.map (·.k)).Nodup := by
      have := ((vI.map (·.k)).nodup_iff).mpr Cg.nd
      rw [List.map_append, List.nodup_append] at this
      exact this.1
     have XQ := og.CQ hw.nd hy hvs Za
     have hvm : ∀ x, x ∈ namesOf xi ↔ ∃ t, (x, t) ∈ ts /\ Out us n to t /\ fh us t n = i := fun x => by
      have K6 : i < us.length := by have := (List.getElem?_eq_some_iff.mp hy).1; omega
      rw [zG]
      constructor
      . rintro ⟨c, hc, Ko⟩
        obtain ⟨t, ht, IC, MQ⟩ := (Cg.mem x c.k).mp ⟨c, hvs c hc, rfl, Ko⟩
        refine ⟨t, ht, (sJ (to := to) (by rw [IC]; exact og.at hy) MM (by omega)).mpr ?_, IC⟩
        rw [MQ]; exact XH c hc
      . rintro ⟨t, ht, ho, IC⟩
        obtain ⟨c, hc, hk, Ko⟩ := (Cg.mem x (t / y.u % y.s)).mpr ⟨t, ht, IC, rfl⟩
        have hle := (sJ (to := to) (by rw [IC]; exact og.at hy) MM (by omega)).mp ho
        rw [<- hk] at hle
        rcases List.mem_append.mp (vI.mem_iff.mpr hc) with h | h
        . exact ⟨c, h, Ko⟩
        . exact absurd hle ((y6 c).mp h).2
     have R9 : y'.foot.Sublist y.foot := by
      unfold Wh.foot
      rw [ex, ed]
      exact ((rW.map _).cons₂ _).cons₂ _
     have ZX := yL.mv lK hny
     have hlv := Gr _ XQ fun x hx => let ⟨t, ht, _⟩ := (hvm x).mp hx; ⟨t, ht⟩
     repeat' (walk_at "rd1")
     refine Jr ZX Jl (by rw [List.length_map, List.length_map]; omega) (fun H3 qv Ph => ?_)
     obtain ⟨IT, afk⟩ := SU.set (w' := y') MR lK wu ex (Kz.sublist R9) fun b hb => .inl (R9.subset hb)
     have Yg : ∀ b ∈ dU.foot ⟨G.q, G.f, vD.set i y', keep⟩, b ∈ G.foot := fun b hb => Xt b (BW (G := ⟨G.q, G.f, vD, keep⟩) (w' := y') MR (fun b hb => R9.subset hb) b hb)
     have hg3 := IT.mv qv fun b hb => by
      have : b ≠ nl := fun z => nlG (z ▸ Yg b hb)
      simpa using this
     refine ⟨_, rfl, Mv.step (Mv.step mv lK fun b hb => .inl (List.mem_cons_of_mem _ (hyG b hb))) qv fun b hb => .inl (by rw [List.mem_singleton.mp hb]; exact List.mem_cons_self), vD.set i y', ln ++ namesOf xi, hg3, ⟨by rw [List.length_set]; exact w4.1, fun j hj => ?_, fun j w0 hj Vo => ?_⟩, Yg, by rw [List.map_append]; exact Ph, ?_, fun x => ?_⟩
     . rw [List.getElem?_set_ne (by omega)]; exact w4.2.1 j (by omega)
     . by_cases e : j = i
       . subst e
         rw [hy] at Vo
         cases Vo
         exact ⟨y', by rw [List.getElem?_set_self (List.getElem?_eq_some_iff.mp MR).1], ex, ed, eu, es, hm2, rW, y6⟩
       . rw [List.getElem?_set_ne (fun z => e z.symm)]
         exact w4.2.2 j w0 (by omega) Vo
     . rw [List.nodup_append]
       refine ⟨HA, XQ, fun x hx y0 hy0 e => ?_⟩
       subst e
       obtain ⟨t, ht, _, h1⟩ := (VA x).mp hx
       obtain ⟨t', vU, _, h2⟩ := (hvm x).mp hy0
       rw [il hw.nd ht vU] at h1
       have K6 : i < us.length := by have := (List.getElem?_eq_some_iff.mp hy).1; omega
       omega
     . rw [List.mem_append, VA x, hvm x]
       constructor
       . rintro (⟨t, h1, h2, h3⟩ | ⟨t, h1, h2, h3⟩)
         . exact ⟨t, h1, h2, by omega⟩
         . exact ⟨t, h1, h2, by omega⟩
       . rintro ⟨t, h1, h2, h3⟩
         by_cases e : fh us t n = i
         . exact .inr ⟨t, h1, h2, e⟩
         . exact .inl ⟨t, h1, h2, by omega⟩
   . rintro σ' H' ⟨z, rfl, mv, vD, ln, SU, w4, Xt, yL, HA, VA⟩
     rw [List.length_map] at w4 VA
     have EG : ∀ x, x ∈ ln ↔ ∃ t, (x, t) ∈ ts /\ Out us n to t := fun x => (VA x).trans ⟨fun ⟨t, h1, h2, _⟩ => ⟨t, h1, h2⟩, fun ⟨t, h1, h2⟩ => ⟨t, h1, h2, by have := sj us t n; omega⟩⟩
     have aai : GI us to (wX us n to ts) ⟨G.q, G.f, vD, keep⟩ := Nt og qb (fun y => vb) w4 Dq Eb Cp QK
     have ZC := Gr ln HA fun x hx => let ⟨t, ht, _⟩ := (EG x).mp hx; ⟨t, ht⟩
     have F4 : Mv G.foot H H' := Mv.step LC mv fun b hb => by
      rcases List.mem_cons.mp hb with rfl | hb
      . exact .inr lQ
      . exact .inl hb
     have hwA : eJ a.ag a.ak H' p d m n ⟨G.q, G.f, vD, keep⟩ ts cX := hw.ws.Yr F4 SU rfl rfl fun b hb => .inl (Xt b hb)
     have IQ : ∀ x ∈ ln, (x, t7 ts x) ∈ ts /\ Out us n to (t7 ts x) := fun x hx => by
      obtain ⟨t, h1, h2⟩ := (EG x).mp hx
      rw [me hw.nd h1]; exact ⟨h1, h2⟩
     repeat' (walk_at "rd1")
     rename_i ov H2 fA uG V7
     have hwB := hwA.keeps fA
     have aaQ := yL.keeps fA
     have Qa : ∀ b ∈ p :: d :: m :: G.foot, b ≠ ov := fun b hb z => by
      have : H b ≠ none := hw.ws.alive b hb
      exact this (F4.none (z ▸ uG))
     have V3 : nl ≠ ov := yL.ne uG
     have ZQ : nl ∉ ov :: m :: G.foot := by
      simp only [List.mem_cons, not_or]
      exact ⟨V3, Ne.symm (YT m (by simp)), nlG⟩
     have e0 : ∀ x v', (x, v') ∈ cX ↔ ∃ v, (x, v) ∈ cX /\ ¬ (x ∈ ln.take 0 /\ t7 ts x <= to) /\ v' = v + (if x ∈ ln.take 0 then 1 else 0) := fun x v' => by simp
     have Cw : ∀ {i : Nat} {x : Str}, ln[i]? = some x -> ln.take (i + 1) = ln.take i ++ [x] := fun {i x} h => by rw [List.take_add_one, h]; rfl
     refine yy (Hb := H2) (cs := ln) (gd := PyData.str) aaQ.dv (fun i σ' TY => ∃ z5, σ' = [some (.ref p), some (.int to), some (.ref nl), z, some (.ref ov), z5] /\ Mv (ov :: m :: G.foot) H2 TY /\ ∃ (G' : dU) (hU : List (Str × Int)), eJ a.ag a.ak TY p d m n G' ts hU /\ GI us to (wX us n to ts ++ oH ts to (ln.take i)) G' /\ (∀ b ∈ G'.foot, b ∈ G.foot \/ H2 b = none) /\ dJ TY ov ((overs ts to (ln.take i)).map PyData.str) /\ (hU.map (·.1)).Nodup /\ ∀ x v', (x, v') ∈ hU ↔ ∃ v, (x, v) ∈ cX /\ ¬ (x ∈ ln.take i /\ t7 ts x <= to) /\ v' = v + (if x ∈ ln.take i then 1 else 0)) ⟨_, rfl, Mv.refl, ⟨G.q, G.f, vD, keep⟩, cX, hwB, aai.ext (fun y => by simp [oH]), fun b hb => .inl (Xt b hb), V7, hw.Sz, e0⟩ (fun i σ' TY _ ⟨_, _, aa6, _⟩ a' xs e hx => by cases e; exact aa6.sq ZQ hx) ?_ ?_
     . rintro i x v σ' H3 hx ⟨z5, rfl, qv, G', hU, sr, uN, GH, KN, GQ, C2⟩ Kv _
       obtain rfl := (Kv rfl qv.tp).str_inv
       have HS := List.mem_of_getElem? hx
       obtain ⟨Wd, hxo⟩ := IQ x HS
       have WB := xT hw.nd Wd
       have hi3 := sr.ins
       have Ux := sr.dd
       have hm3 := sr.mm
       have RQ : x ∉ ln.take i := fun z => by
        obtain ⟨j, hj, e⟩ := List.getElem_of_mem z
        have IK : j < i := by rw [List.length_take] at hj; omega
        have K6 := (List.getElem?_eq_some_iff.mp hx).1
        rw [List.getElem_take] at e
        have := List.pairwise_iff_getElem.mp HA j i (by omega) K6 IK
        exact this (e.trans (List.getElem?_eq_some_iff.mp hx).2.symm)
       have QS : x ∈ cX.map (·.1) := (hw.mem x).mpr (List.mem_map.mpr ⟨_, Wd, rfl⟩)
       obtain ⟨v0, Yw⟩ : ∃ v0, (x, v0) ∈ cX := by obtain ⟨y, hy, e⟩ := List.mem_map.mp QS; exact ⟨y.2, by rw [<- e]; exact hy⟩
       have X4 : (x, v0) ∈ hU := (C2 x v0).mpr ⟨v0, Yw, fun z => RQ z.1, by rw [if_neg RQ]; omega⟩
       have aay := xT GQ X4
       have Xe : hU.length <= 900 := by
        have := p6 (l' := ts.map (·.1)) GQ fun y hy => by
         obtain ⟨⟨_, v1⟩, XU, rfl⟩ := List.mem_map.mp hy
         obtain ⟨v2, h2, _⟩ := (C2 _ v1).mp XU
         exact (hw.mem _).mp (List.mem_map.mpr ⟨_, h2, rfl⟩)
        rw [List.length_map, List.length_map] at this
        omega
       have acx := sF hU
       have Rn : m ≠ ov := Qa m (by simp)
       have XF : ∀ b ∈ p :: d :: m :: G'.foot, b ≠ ov := fun b hb z => by
        have abx : H2 ov ≠ none := by obtain ⟨xs, e, _⟩ := V7; rw [e]; simp
        rcases List.mem_cons.mp hb with h | hb
        . exact Qa p (by simp) (h ▸ z)
        . rcases List.mem_cons.mp hb with h | hb
          . exact Qa d (by simp) (h ▸ z)
          . rcases List.mem_cons.mp hb with h | hb
            . exact Rn (h ▸ z)
            . rcases GH b hb with r | r
              . exact Qa b (by simp [r]) z
              . exact abx (z ▸ r)
       have Zt : ((overs ts to (ln.take i)).map PyData.str).length <= 900 := by
        rw [List.length_map]
        have h1 : (overs ts to (ln.take i)).length <= (ln.take i).length := List.length_filter_le _ _
        rw [List.length_take] at h1
        omega
       repeat' (walk_at "rd1")
       . rename_i hle
         refine B7 hm3 ?_
         repeat' (walk_at "rd1")
         refine Bx hm3 aay (fun v4 H4 uJ Yd => ?_)
         rw [ya] at Yd
         have DI := sr.setM uJ Yd
         have aff := KN.mv uJ (by simpa using Ne.symm Rn)
         repeat' (walk_at "rd1")
         rename_i H5 Fx Rw
         have PD := DI.mv Fx fun b hb => by simpa using XF b hb
         have Zq : ¬ to < t7 ts x := by omega
         refine ⟨_, rfl, Mv.step (Mv.step qv uJ fun b hb => .inl (by rw [List.mem_singleton.mp hb]; simp)) Fx fun b hb => .inl (by rw [List.mem_singleton.mp hb]; simp), G', fy hU x, PD, ?_, GH, ?_, oJ GQ, fun y v' => ?_⟩
         . rw [Cw hx, ye, if_neg Zq, List.append_nil]; exact uN
         . rw [Cw hx, xF, if_pos hle, List.map_append]; exact Rw
         . rw [cD, C2 y v', Cw hx]
           constructor
           . rintro ⟨⟨v, h1, h2, h3⟩, h4⟩
             have h4 : y ≠ x := h4
             refine ⟨v, h1, fun z => h2 ⟨?_, z.2⟩, ?_⟩
             . rcases List.mem_append.mp z.1 with h | h
               . exact h
               . exact absurd (List.mem_singleton.mp h) h4
             . rw [h3]
               congr 1
               by_cases c : y ∈ ln.take i
               . rw [if_pos c, if_pos (List.mem_append_left _ c)]
               . rw [if_neg c, if_neg (fun z => by rcases List.mem_append.mp z with h | h; exact c h; exact h4 (List.mem_singleton.mp h))]
           . rintro ⟨v, h1, h2, h3⟩
             have h4 : y ≠ x := fun z => h2 ⟨by rw [z]; simp, by rw [z]; exact hle⟩
             refine ⟨⟨v, h1, fun z => h2 ⟨List.mem_append_left _ z.1, z.2⟩, ?_⟩, h4⟩
             rw [h3]
             congr 1
             by_cases c : y ∈ ln.take i
             . rw [if_pos c, if_pos (List.mem_append_left _ c)]
             . rw [if_neg c, if_neg (fun z => by rcases List.mem_append.mp z with h | h; exact c h; exact h4 (List.mem_singleton.mp h))]
       . rename_i hle H4 uJ Yd
         have eI : to < t7 ts x := by omega
         have Yv : x ∈ hU.map (·.1) := List.mem_map.mpr ⟨_, X4, rfl⟩
         rw [J5 Yv] at Yd
         have DI := sr.setM uJ Yd
         have hi4 := DI.ins
         have hd4 := DI.dd
         repeat' (walk_at "rd1")
         obtain ⟨dx4, hp4⟩ := DI.ex
         have Wg : x ∉ (wX us n to ts ++ oH ts to (ln.take i)).map (·.1) := fun z => by
          rw [List.map_append] at z
          rcases List.mem_append.mp z with z | z
          . obtain ⟨y, hy, e⟩ := List.mem_map.mp z
            obtain ⟨h1, h2⟩ := vb.mp hy
            have e : y.1 = x := e
            rw [<- me hw.nd (show (y.1, y.2) ∈ ts from h1), e] at h2
            exact h2 hxo
          . obtain ⟨y, hy, e⟩ := List.mem_map.mp z
            have e : y.1 = x := e
            exact RQ (e ▸ (Ak.mp hy).1)
         have PY : (wX us n to ts ++ oH ts to (ln.take i)).length <= 2000 := by
          rw [List.length_append]
          have h1 := Ip us n to ts
          have h2 : (oH ts to (ln.take i)).length <= (ln.take i).length := by
           unfold oH
           rw [List.length_map]
           exact List.length_filter_le _ _
          rw [List.length_take] at h2
          omega
         refine ⟨p, dx4, d, m, n, G', us, _, x, _, to, rfl, hp4, DI.g, uN, qb.ok, DI.vG.2.2.2.1, Wg, PY, fun H5 G5 Fx hg5 ZH e1 e2 hs5 => ?_⟩
         have PD := DI.Yr Fx hg5 e1 e2 hs5
         have WT : ov ∉ G'.foot := fun z => XF ov (by simp [z]) rfl
         have Rw := (KN.mv uJ (by simpa using Ne.symm Rn)).mv Fx WT
         have Yi : ¬ t7 ts x <= to := by omega
         refine ⟨_, rfl, Mv.step (Mv.step qv uJ fun b hb => .inl (by rw [List.mem_singleton.mp hb]; simp)) Fx fun b hb => ?_, G5, EY hU x (v0 + 1), PD, ?_, fun b hb => ?_, ?_, by rw [D2]; exact GQ, fun y v' => ?_⟩
         . rcases GH b hb with r | r
           . exact .inl (by simp [r])
           . exact .inr r
         . rw [Cw hx, ye, if_pos eI, <- List.append_assoc]; exact ZH
         . rcases hs5 b hb with r | r
           . exact GH b r
           . exact .inr (qv.none (uJ.none r))
         . rw [Cw hx, xF, if_neg Yi, List.append_nil]; exact Rw
         . rw [Jx Yv, Cw hx]
           by_cases c0 : y = x
           . subst c0
             constructor
             . rintro (⟨_, h⟩ | ⟨h, _⟩)
               . have h : v' = v0 + 1 := h
                 exact ⟨v0, Yw, fun z => Yi z.2, by rw [h, if_pos (by simp)]⟩
               . exact absurd rfl h
             . rintro ⟨v, h1, _, h3⟩
               rw [if_pos (by simp)] at h3
               have : v = v0 := il hw.Sz h1 Yw
               exact .inl ⟨rfl, by show v' = v0 + 1; omega⟩
           . have GO : y ∈ ln.take i ++ [x] ↔ y ∈ ln.take i := ⟨fun z => by rcases List.mem_append.mp z with h | h; exact h; exact absurd (List.mem_singleton.mp h) c0, fun z => List.mem_append_left _ z⟩
             constructor
             . rintro (⟨h, _⟩ | ⟨_, h⟩)
               . exact absurd h c0
               . obtain ⟨v, h1, h2, h3⟩ := (C2 y v').mp h
                 refine ⟨v, h1, fun z => h2 ⟨GO.mp z.1, z.2⟩, ?_⟩
                 rw [h3]
                 congr 1
                 by_cases c : y ∈ ln.take i
                 . rw [if_pos c, if_pos (GO.mpr c)]
                 . rw [if_neg c, if_neg (fun z => c (GO.mp z))]
             . rintro ⟨v, h1, h2, h3⟩
               refine .inr ⟨c0, (C2 y v').mpr ⟨v, h1, fun z => h2 ⟨GO.mpr z.1, z.2⟩, ?_⟩⟩
               rw [h3]
               congr 1
               by_cases c : y ∈ ln.take i
               . rw [if_pos c, if_pos (GO.mpr c)]
               . rw [if_neg c, if_neg (fun z => c (GO.mp z))]
     . rintro σ' H3 ⟨z5, rfl, qv, G', hU, sr, uN, GH, KN, GQ, C2⟩
       rw [List.take_length] at uN KN C2
       repeat' (walk_at "rd1")
       refine q ov H3 G' hU (overs ts to ln) ?_ sr (uN.ext fun y => ?_) (HA.sublist List.filter_sublist) (fun x => ?_) GQ (fun x v' => ?_) (fun b hb => ?_) (F4.none uG) KN
       . exact Mv.step (Mv.step (bV F4 fun b hb => List.mem_cons_of_mem _ hb) (fA.mv (S := [])) fun b hb => nomatch hb) qv fun b hb => by
          rcases List.mem_cons.mp hb with rfl | hb
          . exact .inr (F4.none uG)
          . exact .inl hb
       . rw [List.mem_append, vb, Ak, List.mem_filter, decide_eq_true_eq]
         constructor
         . rintro (⟨h1, h2⟩ | ⟨h1, h2, h3⟩)
           . exact ⟨h1, (iF qb h2).1⟩
           . obtain ⟨h4, _⟩ := IQ y.1 h1
             rw [<- h2] at h4 h3
             exact ⟨h4, h3⟩
         . rintro ⟨h1, h2⟩
           by_cases ho : Out us n to y.2
           . have h3 : y.1 ∈ ln := (EG y.1).mpr ⟨y.2, h1, ho⟩
             have h4 := me hw.nd (show (y.1, y.2) ∈ ts from h1)
             exact .inr ⟨h3, h4.symm, by rw [h4]; exact h2⟩
           . exact .inl ⟨h1, ho⟩
       . rw [GY]
         constructor
         . rintro ⟨h1, h2⟩
           exact ⟨_, (IQ x h1).1, h2⟩
         . rintro ⟨t, h1, h2⟩
           rw [me hw.nd h1]
           exact ⟨(EG x).mpr ⟨t, h1, Em qb h2⟩, h2⟩
       . rw [C2 x v']
         constructor
         . rintro ⟨v, h1, h2, h3⟩
           obtain ⟨⟨_, t⟩, ht, e⟩ := List.mem_map.mp ((hw.mem x).mp (List.mem_map.mpr ⟨_, h1, rfl⟩))
           have e : _ = x := e
           subst e
           have MJ := me hw.nd ht
           have eI : to < t := by
            by_cases c : t <= to
            . exact absurd ⟨(EG _).mpr ⟨t, ht, Em qb c⟩, by rw [MJ]; exact c⟩ h2
            . omega
           refine ⟨t, v, ht, eI, h1, ?_⟩
           rw [h3]
           congr 1
           by_cases ho : Out us n to t
           . rw [if_pos ((EG _).mpr ⟨t, ht, ho⟩), if_pos (down qb MU ho eI)]
           . have := (iF qb ho).2
             rw [if_neg (fun z => ho (by have := (IQ _ z).2; rwa [MJ] at this)), if_neg (by omega)]
         . rintro ⟨t, v, ht, eI, h1, h3⟩
           have MJ := me hw.nd ht
           refine ⟨v, h1, fun z => by have := z.2; omega, ?_⟩
           rw [h3]
           congr 1
           by_cases ho : Out us n to t
           . rw [if_pos ((EG _).mpr ⟨t, ht, ho⟩), if_pos (down qb MU ho eI)]
           . have := (iF qb ho).2
             rw [if_neg (by omega : ¬ fh us t to < fh us t n), if_neg (fun z => ho (by have := (IQ _ z).2; rwa [MJ] at this))]
       . rcases GH b hb with r | r
         . exact .inl r
         . exact .inr (F4.none (fA.none r))
theorem D1 (T : Txt K mg a) : gk P w K mg base 4 a.bK ["self", "to"] [] (u3 a.ag a.ak) :=
 ⟨⟨_, _, Ih T, T.gy.binds fun _ _ _ _ _ _ => .all fun us hl => match us, hl with | [_, _], _ => rfl, .nil⟩⟩
def C1 (x : Str × Int) : Int × Str := (x.2, x.1)
def MX (ks : List (Int × Str)) : Prop := ks.Pairwise fun c d => aS d c = false
theorem AI {α : Type} (l : List α) : l.filter (fun _ => true) = l := List.filter_eq_self.mpr fun _ _ => rfl
theorem OL {α β : Type} {f : α -> β} {l : List α} {j : Nat} {c : α} (h : (l.map f).Nodup) (hc : l[j]? = some c) : f c ∉ (l.take j).map f := by
 intro hm
 obtain ⟨d, hd, e⟩ := List.mem_map.mp hm
 obtain ⟨i, hi, rfl⟩ := List.getElem_of_mem hd
 have vQ : i < j := by rw [List.length_take] at hi; omega
 have Vt : j < l.length := (List.getElem?_eq_some_iff.mp hc).1
 rw [List.Nodup, List.pairwise_map] at h
 have := List.pairwise_iff_getElem.mp h i j (by omega) Vt vQ
 rw [List.getElem_take] at e
 have kz : l[j] = c := Option.some.inj ((List.getElem?_eq_getElem Vt).symm.trans hc)
 rw [kz] at this
 exact this e
theorem take_snoc {α : Type} {l : List α} {j : Nat} {c : α} (h : l[j]? = some c) : l.take (j + 1) = l.take j ++ [c] := by
 rw [List.take_add_one, h]; rfl
structure n9 (C : Addr) (H : Hp) (p d : Addr) (n : Int) (ts : List (Str × Int)) (fr : List (Str × V)) : Prop where
 ex : ∃ dx, H p = some (.ins C dx (("now", .int n) :: ("times", .ref d) :: fr))
 dd : la H d (n6 ts)
 nf : fr.lookup (Str.ofString "enter") = none /\ fr.lookup (Str.ofString "leave") = none /\ fr.lookup (Str.ofString "pass_on") = none /\ fr.lookup (Str.ofString "check_waits") = none
 fl : fr.length < 900
theorem FK {m : Str} {x y : V} {fr : List (Str × V)} (h1 : (m == Str.ofString "now") = false) (h2 : (m == Str.ofString "times") = false) (h : fr.lookup m = none) : List.lookup m (("now", x) :: ("times", y) :: fr) = none := by
 rw [List.lookup_cons, List.lookup_cons]
 show (match m == Str.ofString "now" with | true => _ | false => match m == Str.ofString "times" with | true => _ | false => _) = _
 rw [h1, h2]; exact h
section
variable {C : Addr} {H H' : Hp} {p d : Addr} {n : Int} {ts VJ : List (Str × Int)} {fr : List (Str × V)} {S : List Addr}
theorem n9.ins (h : n9 C H p d n ts fr) : sv H (.ref p) C (("now", .int n) :: ("times", .ref d) :: fr) := let ⟨dx, e⟩ := h.ex; ⟨p, dx, rfl, e⟩
theorem n9.keeps (sm : az H H') (h : n9 C H p d n ts fr) : n9 C H' p d n ts fr := ⟨let ⟨dx, e⟩ := h.ex; ⟨dx, sm _ _ e⟩, h.dd.keeps sm, h.nf, h.fl⟩
theorem n9.ne (h : n9 C H p d n ts fr) : p ≠ d := by
 obtain ⟨dx, e⟩ := h.ex
 obtain ⟨ax, e2, _⟩ := h.dd
 exact kL e e2 (by intro y; cases y)
theorem n9.mv (m : Mv S H H') (hp : p ∉ S) (hd : d ∉ S) (h : n9 C H p d n ts fr) : n9 C H' p d n ts fr := ⟨let ⟨dx, e⟩ := h.ex; ⟨dx, m.at hp e⟩, h.dd.mv m hd, h.nf, h.fl⟩
theorem n9.DP (m : Mv [d] H H') (hd : la H' d (n6 VJ)) (h : n9 C H p d n ts fr) : n9 C H' p d n VJ fr := ⟨let ⟨dx, e⟩ := h.ex; ⟨dx, m.at (by simpa using h.ne) e⟩, hd, h.nf, h.fl⟩
end
structure DE (K : PySem.W.Frag) (C : Addr) : Prop where
 cl : su K C
 n1 : bp K C "now"
 n2 : bp K C "times"
theorem Txt.Ez (T : Txt K mg a) : DE K a.aL := ⟨T.bX, T.dw, T.dz⟩
theorem Txt.mq (T : Txt K mg a) : DE K a.ag := ⟨T.aF, T.bq, T.b5⟩
def wA (C cT cP : Addr) (RN : Sp) : Sp := fun vs H Q E => ∃ (p d : Addr) (n : Int) (ts : List (Str × Int)) (fr : List (Str × V)) (x : Str) (t : Int), vs = [.ref p, .str x, .int t] /\ n9 C H p d n ts fr /\ ts.length <= 1000 /\ nY x /\
 (x ∈ ts.map (·.1) -> ∀ d', H d' = none -> E (.ref cT) (some d') (Xn H d' x)) /\ (x ∉ ts.map (·.1) -> t <= n -> E (.ref cP) none H) /\
 (x ∉ ts.map (·.1) -> n < t -> ∀ H1, Mv [d] H H1 -> n9 C H1 p d n (ts ++ [(x, t)]) fr -> ∃ B : Hp -> Prop, (∀ Q' : VK, (∀ H2, B H2 -> Q' .bG H2) -> RN [.ref p, .str x, .int t] H1 Q' E0) /\ ∀ H2, B H2 -> Q .bG H2)
theorem OH (T : Txt K mg a) {C f : Addr} {RN : Sp} (k : DE K C) (Nn : Meth K C "enter" f) (OM : gk P w K mg base 4 f ["self", "name", "time"] [] RN) : a7 P w K mg base (BM P w) 6 a.cq a.ub ["self", "name", "time"] (wA C a.aH a.aN RN) := by
 have n1 := k.n1; have n2 := k.n2; have cl := k.cl
 have AJ := xW (P := P) (w := w) (base := base) T
 refine T.pE.Vz AH (fun vs H Q E h => ?_) (fun dB A outer s H vs Q E hr h => ?_)
 . obtain ⟨_, _, _, _, _, _, _, rfl, _⟩ := h; rfl
 . obtain ⟨p, d, n, ts, fr, x, t, rfl, hw, hl, hx, qT, qP, q⟩ := h
   have hi := hw.ins; have hd := hw.dd
   have Xe := sF ts
   refine ⟨_, (aq (bT (EV (UK (gm hr) (pv 1) (aD (pv 0) rfl)) rfl)
    (ao (zX u9 rfl (af (pv 1) ai) rfl T.wY T.qg (hr.mono (by decide)) AJ rfl))
    aQ)
    (aq (bT (aJ vC (pv 2) (aD (pv 0) rfl) (aR _))
     (ao (qm u9 rfl (af c4 ai) rfl T.wI T.uM rfl))
     aQ)
    (aq (tU (gm hr) (aD (pv 0) rfl) (pv 1) (pv 2) rfl)
    (ao (a9 (bH (pv 0) cl Nn OM (hr.mono (by decide)) (af (pv 1) (af (pv 2) ai)))))))), ?_⟩
   repeat' (walk_at "rd1")
   . rename_i o e hb
     refine zC hx (fun d' lM => ?_)
     rw [e] at hb
     exact qT (gE.mp hb) d' lM
   . rename_i o e JU Dh
     rw [e] at JU
     exact qP (fun z => by rw [gE.mpr z] at JU; cases JU) Dh
   . rename_i o e JU Dh H2 lK hd2
     have YY : x ∉ ts.map (·.1) := fun z => by rw [e, gE.mpr z] at JU; cases JU
     rw [C6 (Fu YY), <- Gy] at hd2
     have wu := hw.DP lK hd2
     have LI := wu.ins
     obtain ⟨B, h1, h2⟩ := q YY (by omega) H2 lK wu
     repeat' (walk_at "rd1")
     refine lN LI (FK (by decide +kernel) (by decide +kernel) hw.nf.1) ?_
     repeat' (walk_at "rd1")
     refine h1 _ fun H3 hB => ?_
     repeat' (walk_at "rd1")
     exact h2 H3 hB
theorem Dp (T : Txt K mg a) {C f : Addr} {RN : Sp} (k : DE K C) (m : Meth K C "enter" f) (c : gk P w K mg base 4 f ["self", "name", "time"] [] RN) : y4 P w K mg base 6 a.cq ["self", "name", "time"] [] (wA C a.aH a.aN RN) :=
 ⟨⟨_, _, OH T k m c, T.pE.binds fun _ _ _ _ _ _ => .all fun us hl => match us, hl with | [_, _, _], _ => rfl, .nil⟩⟩
def zR (C cN : Addr) : Sp := fun vs H Q E => ∃ (p d : Addr) (n : Int) (ts : List (Str × Int)) (fr : List (Str × V)) (x : Str), vs = [.ref p, .str x] /\ n9 C H p d n ts fr /\ nY x /\ (x ∉ ts.map (·.1) -> ∀ d', H d' = none -> E (.ref cN) (some d') (Xn H d' x)) /\ (x ∈ ts.map (·.1) -> Q .bG H)
theorem Ic (T : Txt K mg a) {C : Addr} (k : DE K C) : a7 P w K mg base (BM P w) 3 a.aE a.gW ["self", "name"] (zR C a.aA) := by
 have n1 := k.n1; have n2 := k.n2; have cl := k.cl
 have yW := vZ (P := P) (w := w) (base := base) T
 refine T.eN.Vz oj (fun vs H Q E h => ?_) (fun dB A outer s H vs Q E hr h => ?_)
 . obtain ⟨_, _, _, _, _, _, rfl, _⟩ := h; rfl
 . obtain ⟨p, d, n, ts, fr, x, rfl, hw, hx, qN, q⟩ := h
   have hi := hw.ins; have hd := hw.dd
   refine ⟨_, (ao (bT (EV (zN (gm hr) (pv 1) (aD (pv 0) rfl)) rfl)
    (ao (zX u9 rfl (af (pv 1) ai) rfl T.ve T.lG (hr.mono (by decide)) yW rfl))
    aQ)), ?_⟩
   repeat' (walk_at "rd1")
   . rename_i o e hb
     refine zC hx (fun d' lM => ?_)
     rw [e] at hb
     exact qN (fun z => by rw [gE.mpr z] at hb; cases hb) d' lM
   . rename_i o e hb
     rw [e] at hb
     exact q (gE.mp hb)
theorem DU (T : Txt K mg a) {C : Addr} (k : DE K C) : y4 P w K mg base 3 a.aE ["self", "name"] [] (zR C a.aA) :=
 ⟨⟨_, _, Ic T k, T.eN.binds fun _ _ _ _ _ _ => .all fun us hl => match us, hl with | [_, _], _ => rfl, .nil⟩⟩
def t9 (C cN : Addr) (TQ : Sp) : Sp := fun vs H Q E => ∃ (p d : Addr) (n : Int) (ts : List (Str × Int)) (fr : List (Str × V)) (x : Str), vs = [.ref p, .str x] /\ n9 C H p d n ts fr /\ (ts.map (·.1)).Nodup /\ nY x /\ (x ∉ ts.map (·.1) -> ∀ d', H d' = none -> E (.ref cN) (some d') (Xn H d' x)) /\
 (∀ t, (x, t) ∈ ts -> ∀ H1, Mv [d] H H1 -> n9 C H1 p d n (fy ts x) fr -> ∃ B : Hp -> Prop, (∀ Q' : VK, (∀ H2, B H2 -> Q' .bG H2) -> TQ [.ref p, .str x, .int t] H1 Q' E0) /\ ∀ H2, B H2 -> Q (.int t) H2)
theorem I9 (T : Txt K mg a) {C f : Addr} {TQ : Sp} (k : DE K C) (yV : Meth K C "check_waits" a.aE) (OY : Meth K C "leave" f) (NA : gk P w K mg base 3 f ["self", "name", "time"] [] TQ) : a7 P w K mg base (BM P w) 5 a.bP a.qU ["self", "name"] (t9 C a.aA TQ) := by
 have n1 := k.n1; have n2 := k.n2; have cl := k.cl
 have y8 := DU (P := P) (w := w) (base := base) T k
 refine T.mG.Vz qO (fun vs H Q E h => ?_) (fun dB A outer s H vs Q E hr h => ?_)
 . obtain ⟨_, _, _, _, _, _, rfl, _⟩ := h; rfl
 . obtain ⟨p, d, n, ts, fr, x, rfl, hw, jP, hx, qN, q⟩ := h
   have hi := hw.ins; have hd := hw.dd
   refine ⟨_, (aq (a9 (lU (pv 0) cl yV y8 (hr.mono (by decide)) QC (af (pv 1) ai)))
    (aq (aC (i := 2) qO.nd rfl (Or.inl rfl) (je PySem.F.plainAttrs_dict PySem.F.slot_dict_pop PySem.F.type_dict_pop qd (aD (pv 0) rfl) (af (pv 1) ai)))
    (aq (a9 (bH (pv 0) cl OY NA (hr.mono (by decide)) (af (pv 1) (af (pv 2) ai))))
    (ao (aI (pv 2)))))), ?_⟩
   repeat' (walk_at "rd1")
   refine lN hi (FK (by decide +kernel) (by decide +kernel) hw.nf.2.2.2) ?_
   repeat' (walk_at "rd1")
   refine ⟨p, d, n, ts, fr, x, rfl, hw, hx, qN, fun AY => ?_⟩
   obtain ⟨⟨_, t⟩, IQ, rfl⟩ := List.mem_map.mp AY
   have WB := xT jP IQ
   repeat' (walk_at "rd1")
   refine B7 hd ?_
   repeat' (walk_at "rd1")
   refine Nf hd WB (fun v6 H6 hv6 Zd YV => ?_)
   obtain rfl := hv6.int_inv
   rw [ya] at YV
   have Vk := hw.DP Zd YV
   have hi6 := Vk.ins
   obtain ⟨B, h1, h2⟩ := q t IQ H6 Zd Vk
   repeat' (walk_at "rd1")
   refine lN hi6 (FK (by decide +kernel) (by decide +kernel) hw.nf.2.1) ?_
   repeat' (walk_at "rd1")
   refine h1 _ fun H3 hB => ?_
   repeat' (walk_at "rd1")
   exact h2 H3 hB
theorem Aa (T : Txt K mg a) {C f : Addr} {TQ : Sp} (k : DE K C) (m1 : Meth K C "check_waits" a.aE) (m2 : Meth K C "leave" f) (c : gk P w K mg base 3 f ["self", "name", "time"] [] TQ) : y4 P w K mg base 5 a.bP ["self", "name"] [] (t9 C a.aA TQ) :=
 ⟨⟨_, _, I9 T k m1 m2 c, T.mG.binds fun _ _ _ _ _ _ => .all fun us hl => match us, hl with | [_, _], _ => rfl, .nil⟩⟩
def wB (C cP : Addr) (T8 : Sp) : Sp := fun vs H Q E => ∃ (p d : Addr) (n : Int) (ts : List (Str × Int)) (fr : List (Str × V)) (t : Int), vs = [.ref p, .int t] /\ n9 C H p d n ts fr /\ ts.length < 60 /\ (ts.map (·.1)).Nodup /\ (t < n -> E (.ref cP) none H) /\
 (n <= t -> ∃ B : Hp -> Prop,
  (∀ Q' : VK, (∀ (q0 : Addr) (H1 : Hp) (ov : List Str), n9 C H1 p d n ts fr -> ov.Nodup -> (∀ x, x ∈ ov ↔ ∃ u, (x, u) ∈ ts /\ u <= t) -> H q0 = none -> dJ H1 q0 (ov.map PyData.str) -> (∀ b, H1 b = none -> H b = none) -> B H1 -> Q' (.ref q0) H1) -> T8 [.ref p, .int t] H Q' E0) /\
  ∀ (l : Addr) (H' : Hp) (ks : List (Int × Str)), H l = none -> ks.Perm ((ts.filter fun y => decide (y.2 <= t)).map C1) -> MX ks -> dJ H' l (ks.map pairD) -> n9 C H' p d t (ts.filter fun y => decide (t < y.2)) fr -> (∃ H1, H1 l = none /\ B H1 /\ Mv [p, d] H1 H') -> Q (.ref l) H')
theorem Ny (T : Txt K mg a) {C f : Addr} {T8 : Sp} (k : DE K C) (HV : Meth K C "pass_on" f) (IJ : gk P w K mg base 4 f ["self", "to"] [] T8) : a7 P w K mg base (BM P w) 5 a.cw a.uh ["self", "to"] (wB C a.aN T8) := by
 have n1 := k.n1; have n2 := k.n2; have cl := k.cl
 refine T.pO.Vz iG (fun vs H Q E h => ?_) (fun dB A outer s H vs Q E hr h => ?_)
 . obtain ⟨_, _, _, _, _, _, rfl, _⟩ := h; rfl
 . obtain ⟨p, d, n, ts, fr, t, rfl, hw, hl, jP, qP, q⟩ := h
   have hi := hw.ins; have hd := hw.dd
   refine ⟨_, (aq (bT (aJ xA (pv 1) (aD (pv 0) rfl) (aR _))
    (ao (qm u9 rfl (af c4 ai) rfl T.wI T.uM rfl))
    aQ)
    (aq (aC (i := 2) iG.nd rfl (Or.inl rfl) (aZ xu rfl T.kP PyProof.Rows.boot_sorted (af (C4 (T := ["name"]) (M := ["self", "to", "told", "time", "04"]) (VC (av jY) ["self", "to", "told", "time", "name"] rfl rfl (by decide +kernel)) rfl (gP (bH (pv 0) cl HV IJ (hr.mono (by decide)) (af (pv 1) ai))) (fun _ _ _ _ _ => (aT (i := 0) (show List.Nodup (["name", "self", "to", "told", "time", "04"] : List Str) by decide +kernel) rfl (Or.inl rfl))) (qh (by decide)) (fun _ _ _ _ _ => tm) (fun _ _ _ _ _ => (fc (af (mO (gm hr) (M7 (K := K) rfl (pv 1) rfl) (pv 0) (fun _ _ => rfl)) (af (pv 0) ai))))) ai)))
    (aq (gB (pv 0) (pv 1) rfl)
    (aq (PS.SM (gC PassesOwn.never rfl (gP (pv 2)) (uR (n := 2) rfl (cK (aT (i := 3) iG.nd rfl (Or.inl rfl)) (cK (aT (i := 4) iG.nd rfl (Or.inl rfl)) lR)))
     (ao (a9 (je PySem.F.plainAttrs_dict PySem.F.slot_dict_pop PySem.F.type_dict_pop qd (aD (pv 0) rfl) (af (pv 4) ai))))))
    (ao (aI (pv 2))))))), ?_⟩
   repeat' (walk_at "rd1")
   . rename_i hb
     exact qP hb
   rename_i MU
   obtain ⟨B, hP, q⟩ := q (by omega)
   refine lN hi (FK (by decide +kernel) (by decide +kernel) hw.nf.2.2.1) ?_
   repeat' (walk_at "rd1")
   refine hP _ fun q0 H1 ov gS PV M5 lQ ZP hold hB1 => ?_
   have yG := gS.dd
   have Ed := gS.ins
   have IQ : ∀ x ∈ ov, (x, t7 ts x) ∈ ts /\ t7 ts x <= t := fun x hx => by
    obtain ⟨u, h1, h2⟩ := (M5 x).mp hx
    rw [me jP h1]; exact ⟨h1, h2⟩
   have Zt : ov.length <= ts.length := by
    have := p6 (l' := ts.map (·.1)) PV fun x hx => List.mem_map.mpr ⟨_, (IQ x hx).1, rfl⟩
    rwa [List.length_map] at this
   refine abn (cs := ov) (gd := fun x => .str x) (fun _ => true) (fun x => pairD (t7 ts x, x)) ZP.dv (by omega) (fun _ => rfl) (fun y x H2 N hx fA hy yes no => ?_) (fun q1 H2 fA uG rS => ?_)
   . have WB := xT jP (IQ x hx).1
     obtain rfl := hy.str_inv
     have LI := Ed.keeps fA
     have hd2 := yG.keeps fA
     repeat' (walk_at "rd1")
     refine zT (fun hb => ?_) (fun hb => by cases hb)
     repeat' (walk_at "rd1")
     exact yes rfl _ _ (by walk_at "same") (by walk_at "dat")
   rw [AI] at rS
   have Mu : Dv H2 (.ref q1) (.list ((ov.map fun x => (t7 ts x, x)).map pairD)) := by
    have := rS.dv
    rw [List.map_map]; exact this
   have hpm : (ov.map fun x => (t7 ts x, x)).Perm ((ts.filter fun y => decide (y.2 <= t)).map C1) := by
    have h1 : (ov.map fun x => (t7 ts x, x)).Nodup := by
     rw [List.Nodup, List.pairwise_map]
     exact PV.imp fun {x y} Ee e => Ee (Prod.mk.inj e).2
    have h2 : ((ts.filter fun y => decide (y.2 <= t)).map C1).Nodup := by
     rw [List.Nodup, List.pairwise_map]
     have h3 : (ts.filter fun y => decide (y.2 <= t)).Pairwise fun a b => a.1 ≠ b.1 := by
      rw [List.Nodup, List.pairwise_map] at jP
      exact jP.sublist List.filter_sublist
     exact h3.imp fun {x y} Ee e => Ee (Prod.mk.inj e).2
    refine (List.perm_ext_iff_of_nodup h1 h2).mpr fun c => ?_
    rw [List.mem_map, List.mem_map]
    constructor
    . rintro ⟨x, hx, rfl⟩
      obtain ⟨a1, a2⟩ := IQ x hx
      exact ⟨(x, t7 ts x), List.mem_filter.mpr ⟨a1, decide_eq_true a2⟩, rfl⟩
    . rintro ⟨y, hy, rfl⟩
      obtain ⟨a1, a2⟩ := List.mem_filter.mp hy
      have a2 := of_decide_eq_true a2
      refine ⟨y.1, (M5 y.1).mpr ⟨y.2, a1, a2⟩, ?_⟩
      show (t7 ts y.1, y.1) = (y.2, y.1)
      rw [me jP (show (y.1, y.2) ∈ ts from a1)]
   repeat' (walk_at "rd1")
   refine Fe Mu (by rw [List.length_map]; omega) (fun q2 H3 ks sm3 DC hp hs zp => ?_)
   repeat' (walk_at "rd1")
   have Cr : az H1 H3 := fA.trans sm3
   have sr := gS.keeps Cr
   obtain ⟨dx, WM⟩ := sr.ex
   have hqp : q2 ≠ p := fun z => by
    obtain ⟨dx, e⟩ := gS.ex
    rw [<- z, fA.none DC] at e; cases e
   have hqd : q2 ≠ d := fun z => by
    obtain ⟨ax, e, _⟩ := gS.dd
    rw [<- z, fA.none DC] at e; cases e
   have JK := gS.ne
   repeat' (walk_at "rd1")
   refine ⟨p, C, dx, _, rfl, WM, cl, n1, by have := hw.fl; simp only [List.length_cons]; omega, ?_⟩
   have uJ : Mv [p] H3 (upd H3 p (.ins C dx (iI (Str.ofString "now") (.int t) (("now", .int n) :: ("times", .ref d) :: fr)))) := .cO WM (by intro _ z; cases z)
   have hp4 : upd H3 p (.ins C dx (iI (Str.ofString "now") (.int t) (("now", .int n) :: ("times", .ref d) :: fr))) p = some (.ins C dx (("now", .int t) :: ("times", .ref d) :: fr)) := by
    rw [au]
    exact congrArg (fun z => some (HO.ins C dx z)) (if_pos rfl)
   generalize upd H3 p (.ins C dx (iI (Str.ofString "now") (.int t) (("now", .int n) :: ("times", .ref d) :: fr))) = H4 at *
   have DI : n9 C H4 p d t ts fr := ⟨⟨dx, hp4⟩, sr.dd.mv uJ (by simpa using Ne.symm JK), hw.nf, hw.fl⟩
   have Vu : dJ H4 q2 (ks.map pairD) := zp.mv uJ (by simpa using hqp)
   have HW : ks.Perm ((ts.filter fun y => decide (y.2 <= t)).map C1) := hp.trans hpm
   have B3 : (ks.map (·.2)).Nodup := by
    have h1 : (ks.map (·.2)).Perm (((ts.filter fun x => decide (x.2 <= t)).map C1).map (·.2)) := HW.map _
    refine h1.nodup_iff.mpr ?_
    rw [List.map_map]
    exact jP.sublist (List.filter_sublist.map _)
   have JO : ∀ k ∈ ks, ∃ x ∈ ts, x.2 <= t /\ k = C1 x := fun k hk => by
    obtain ⟨x, hx, rfl⟩ := List.mem_map.mp (HW.mem_iff.mp hk)
    exact ⟨x, (List.mem_filter.mp hx).1, of_decide_eq_true (List.mem_filter.mp hx).2, rfl⟩
   repeat' (walk_at "rd1")
   refine yy (Hb := H4) (cs := ks) (gd := pairD) Vu.dv (fun j σ' H' => ∃ z3 z4, σ' = [some (.ref p), some (.int t), some (.ref q2), z3, z4] /\ Mv [d] H4 H' /\ la H' d (n6 (ts.filter fun x => !((ks.take j).map (·.2)).contains x.1))) ⟨_, _, rfl, Mv.refl, by show la H4 d (n6 (ts.filter fun _ => true)); rw [AI]; exact DI.dd⟩ (fun i σ' H' _ ⟨_, _, _, mv, _⟩ a' xs e hx => by cases e; exact mv.sq (by simpa using hqd) hx) ?_ ?_
   . rintro j k x σ' H' hk ⟨z3, z4, rfl, Fx, Se⟩ Kv _
     have hx : Dv H' x (.tuple [.int k.1, .str k.2]) := Kv rfl Fx.tp
     refine wU hx (fun w1 w2 f1 f2 => ?_)
     obtain rfl := f1.int_inv
     obtain rfl := f2.str_inv
     have hi5 := (DI.DP Fx Se).ins
     obtain ⟨y, hy, hyt, rfl⟩ := JO k (List.mem_of_getElem? hk)
     have WB : qp (n6 (ts.filter fun x => !((ks.take j).map (·.2)).contains x.1)) (C1 y).2 = some (.int y.2) := by
      refine xT (x := y.1) (t := y.2) (jP.sublist (List.filter_sublist.map _)) (List.mem_filter.mpr ⟨hy, ?_⟩)
      have := OL B3 hk
      rw [Bool.not_eq_true', <- Bool.not_eq_true, List.contains_iff_mem]
      exact this
     repeat' (walk_at "rd1")
     refine B7 Se ?_
     repeat' (walk_at "rd1")
     refine Bx Se WB (fun v6 H6 Zd YV => ?_)
     repeat' (walk_at "rd1")
     refine ⟨_, _, rfl, Fx.trans Zd, ?_⟩
     have e : n6 (ts.filter fun x => !((ks.take (j + 1)).map (·.2)).contains x.1) = pq (n6 (ts.filter fun x => !((ks.take j).map (·.2)).contains x.1)) (C1 y).2 := by
      unfold pq n6
      rw [List.filter_map, List.filter_filter]
      congr 1
      refine List.filter_congr fun x hx => ?_
      rw [take_snoc hk, List.map_append, Bool.eq_iff_iff]
      simp
      exact and_comm
     rw [e]; exact YV
   . rintro σ' H' ⟨z3, z4, rfl, Fx, Se⟩
     rw [List.take_length] at Se
     have e : (ts.filter fun x => !(ks.map (·.2)).contains x.1) = ts.filter fun x => decide (t < x.2) := by
      refine List.filter_congr fun x hx => ?_
      rw [Bool.eq_iff_iff, Bool.not_eq_true', <- Bool.not_eq_true, List.contains_iff_mem, decide_eq_true_eq]
      constructor
      . intro hm
        by_cases c : x.2 <= t
        . exact absurd (List.mem_map.mpr ⟨C1 x, HW.mem_iff.mpr (List.mem_map_of_mem (List.mem_filter.mpr ⟨hx, decide_eq_true c⟩)), rfl⟩) hm
        . omega
      . intro ht hm
        obtain ⟨k, hk, e⟩ := List.mem_map.mp hm
        obtain ⟨y, hy, hyt, rfl⟩ := JO k hk
        have e' : y.1 = x.1 := e
        have h1 : (x.1, y.2) ∈ ts := by rw [<- e']; exact hy
        have := il jP h1 (show (x.1, x.2) ∈ ts from hx)
        omega
     rw [e] at Se
     have PD := DI.DP Fx Se
     repeat' (walk_at "rd1")
     have aau : Mv [p, d] H3 H' := (bV uJ (by simp)).trans (bV Fx (by simp))
     exact q q2 H' ks (hold _ (fA.none DC)) HW hs (Vu.mv Fx (by simpa using hqd)) PD ⟨H1, fA.none DC, hB1, Cr.mv.trans aau⟩
theorem Dd (T : Txt K mg a) {C f : Addr} {T8 : Sp} (k : DE K C) (m : Meth K C "pass_on" f) (c : gk P w K mg base 4 f ["self", "to"] [] T8) : y4 P w K mg base 5 a.cw ["self", "to"] [] (wB C a.aN T8) :=
 ⟨⟨_, _, Ny T k m c, T.pO.binds fun _ _ _ _ _ _ => .all fun us hl => match us, hl with | [_, _], _ => rfl, .nil⟩⟩
def xK (C : Addr) : Sp := fun vs H Q _ => ∃ (p d : Addr) (n : Int) (ts : List (Str × Int)) (fr : List (Str × V)) (x : Str), vs = [.ref p, .str x] /\ n9 C H p d n ts fr /\ (∀ t, (x, t) ∈ ts -> Q (.int t) H) /\ (x ∉ ts.map (·.1) -> Q .bG H)
theorem D9 (T : Txt K mg a) {C : Addr} (k : DE K C) : a7 P w K mg base kj 1 a.aU a.kT ["self", "name"] (xK C) := by
 have n1 := k.n1; have n2 := k.n2; have cl := k.cl
 refine T.ie.ok vh (fun vs H Q E h => ?_) (fun dB A outer s H vs Q E hr h => ?_)
 . obtain ⟨_, _, _, _, _, _, rfl, _⟩ := h; rfl
 . obtain ⟨p, d, n, ts, fr, x, rfl, hw, q1, q2⟩ := h
   have hi := hw.ins; have hd := hw.dd
   refine ⟨_, (ao (aI (Mj (gm hr) (aD (pv 0) rfl) (pv 1) ⟨rfl, rfl, rfl, rfl⟩))), ?_⟩
   repeat' (walk_at "rd1")
   refine Mh hd (fun e he v' hv' => ?_) (fun he => ?_)
   . obtain ⟨t, rfl⟩ := Fb he
     obtain rfl := hv'.int_inv
     exact q1 t (Mb he)
   . exact q2 fun z => by have := gE.mpr z; rw [he] at this; cases this
theorem vp (T : Txt K mg a) {C : Addr} (k : DE K C) : gk P w K mg base 1 a.aU ["self", "name"] [] (xK C) :=
 ⟨⟨_, _, D9 T k, T.ie.binds fun _ _ _ _ _ _ => .all fun us hl => match us, hl with | [_, _], _ => rfl, .nil⟩⟩
def zm (C : Addr) : Sp := fun vs H Q _ => ∃ (p d : Addr) (n : Int) (ts : List (Str × Int)) (fr : List (Str × V)), vs = [.ref p] /\ n9 C H p d n ts fr /\ (ts = [] -> Q .bG H) /\ (∀ t ∈ ts.map (·.2), (∀ u ∈ ts.map (·.2), t <= u) -> Q (.int t) H)
theorem G3 (T : Txt K mg a) {C : Addr} (k : DE K C) : a7 P w K mg base kj 1 a.bu a.oX ["self"] (zm C) := by
 have n1 := k.n1; have n2 := k.n2; have cl := k.cl
 refine T.j6.ok yk (fun vs H Q E h => ?_) (fun dB A outer s H vs Q E hr h => ?_)
 . obtain ⟨_, _, _, _, _, rfl, _⟩ := h; rfl
 . obtain ⟨p, d, n, ts, fr, rfl, hw, q1, q2⟩ := h
   have hi := hw.ins; have hd := hw.dd
   refine ⟨_, (aq (bT (ic (dG (aD (pv 0) rfl) (fun _ => rfl)))
    (ao (aI LR))
    aQ)
    (ao (aI (O9 (aD (pv 0) rfl) rfl rfl T.Br)))), ?_⟩
   repeat' (walk_at "rd1")
   refine Fj hd ?_
   repeat' (walk_at "rd1")
   . rename_i hb
     exact q1 (by cases ts with | nil => rfl | cons y r => simp [n6] at hb)
   . rename_i hb
     have nZ : 0 < (ts.map (·.2)).length := by
      cases ts with
      | nil => simp [n6] at hb
      | cons y r => simp
     refine Tx hd (ns := ts.map (·.2)) (by unfold n6; rw [List.map_map, List.map_map]; rfl) nZ (fun t ht hm => ?_)
     exact q2 t ht hm
theorem xO (T : Txt K mg a) {C : Addr} (k : DE K C) : gk P w K mg base 1 a.bu ["self"] [] (zm C) :=
 ⟨⟨_, _, G3 T k, T.j6.binds fun _ _ _ _ _ _ => .all fun us hl => match us, hl with | [_], _ => rfl, .nil⟩⟩
def wpD (x : Str × PyData) : PyData := match x.2 with
 | .int t => pairD (t, x.1)
 | _ => .none
theorem NM (x : Str × PyData) : yI (wpD x) = true := by
 obtain ⟨n, d⟩ := x
 cases d <;> rfl
def zx (C : Addr) : Sp := fun vs H Q _ => ∃ (p d : Addr) (n : Int) (ts : List (Str × Int)) (fr : List (Str × V)), vs = [.ref p] /\ n9 C H p d n ts fr /\ ts.length < 60 /\ ∀ q H' ks, az H H' -> H q = none -> ks.Perm (ts.map C1) -> MX ks -> dJ H' q (ks.map pairD) -> Q (.ref q) H'
theorem GR (T : Txt K mg a) {C : Addr} (k : DE K C) : a7 P w K mg base kj 1 a.a8 a.mP ["self"] (zx C) := by
 have n1 := k.n1; have n2 := k.n2; have cl := k.cl
 refine T.iY.ok wa (fun vs H Q E h => ?_) (fun dB A outer s H vs Q E hr h => ?_)
 . obtain ⟨_, _, _, _, _, rfl, _⟩ := h; rfl
 . obtain ⟨p, d, n, ts, fr, rfl, hw, hl, q⟩ := h
   have hi := hw.ins; have hd := hw.dd
   refine ⟨_, (ao (aI (aZ xu rfl T.kP PyProof.Rows.boot_sorted (af (Gk (C4 (T := ["name", "time"]) (M := ["self"]) (VC (av fZ) ["self"] rfl rfl (by decide +kernel)) rfl (C8 (aD (pv 0) rfl)) (fun _ _ _ _ _ => (FD (K := K) (n := 2) rfl rfl (cK (aT (i := 0) (show List.Nodup (["name", "time", "self"] : List Str) by decide +kernel) rfl (Or.inl rfl)) (cK (aT (i := 1) (show List.Nodup (["name", "time", "self"] : List Str) by decide +kernel) rfl (Or.inl rfl)) lR)))) (Dg (mK (by decide) (mK (by decide) zL))) (fun _ _ _ _ _ => tm) (fun _ _ _ _ _ => (fc (af (pv 1) (af (pv 0) ai)))))) ai)))), ?_⟩
   repeat' (walk_at "rd1")
   refine Qs hd (fun R hR => ?_) (fun _ => true) wpD (by rw [sF]; omega) NM (fun y c Hf H2 N hc mvf hrd fA hy yes no => ?_) (fun q1 H1 js lQ rS => ?_)
   . repeat' (walk_at "rd1")
     exact hR
   . obtain ⟨x, hx, rfl⟩ := List.mem_map.mp hc
     refine wU hy (fun w1 w2 f1 f2 => ?_)
     obtain rfl := f1.str_inv
     obtain rfl := f2.int_inv
     refine zT (fun hb => ?_) (fun hb => by cases hb)
     repeat' (walk_at "rd1")
     exact yes rfl _ _ (by walk_at "same") (by walk_at "dat")
   have Mu : Dv H1 (.ref q1) (.list ((ts.map C1).map pairD)) := by
    have := rS.dv
    rw [AI] at this
    unfold n6 at this
    rw [List.map_map] at this
    rw [List.map_map]; exact this
   repeat' (walk_at "rd1")
   refine Fe Mu (by rw [List.length_map]; omega) (fun q2 H2 ks fA uG hp hs zp => ?_)
   repeat' (walk_at "rd1")
   exact q q2 H2 ks (js.trans fA) (js.none uG) hp hs zp
theorem mB (T : Txt K mg a) {C : Addr} (k : DE K C) : gk P w K mg base 1 a.a8 ["self"] [] (zx C) :=
 ⟨⟨_, _, GR T k, T.iY.binds fun _ _ _ _ _ _ => .all fun us hl => match us, hl with | [_], _ => rfl, .nil⟩⟩
def kR : Sp := fun vs H Q _ => ∃ v n t, vs = [v, n, t] /\ Q .bG H
theorem GL (T : Txt K mg a) : a7 P w K mg base kj 4 a.d5 a.sx ["self", "name", "time"] kR := by
 refine T.pH.ok Bg (fun vs H Q E h => ?_) (fun dB A outer s H vs Q E hr h => ?_)
 . obtain ⟨_, _, _, rfl, _⟩ := h; rfl
 . obtain ⟨v, n, t, rfl, q⟩ := h
   refine ⟨_, (ao Fz), ?_⟩
   repeat' (walk_at "rd1")
   exact q
theorem DZ (T : Txt K mg a) : gk P w K mg base 4 a.d5 ["self", "name", "time"] [] kR :=
 ⟨⟨_, _, GL T, T.pH.binds fun _ _ _ _ _ _ => .all fun us hl => match us, hl with | [_, _, _], _ => rfl, .nil⟩⟩
theorem Hu (T : Txt K mg a) : a7 P w K mg base kj 3 a.dY a.tI ["self", "name", "time"] kR := by
 refine T.oB.ok Aw (fun vs H Q E h => ?_) (fun dB A outer s H vs Q E hr h => ?_)
 . obtain ⟨_, _, _, rfl, _⟩ := h; rfl
 . obtain ⟨v, n, t, rfl, q⟩ := h
   refine ⟨_, (ao Fz), ?_⟩
   repeat' (walk_at "rd1")
   exact q
theorem EH (T : Txt K mg a) : gk P w K mg base 3 a.dY ["self", "name", "time"] [] kR :=
 ⟨⟨_, _, Hu T, T.oB.binds fun _ _ _ _ _ _ => .all fun us hl => match us, hl with | [_, _, _], _ => rfl, .nil⟩⟩
def leD (t : Int) (x : Str × PyData) : Bool := match x.2 with
 | .int u => decide (u <= t)
 | _ => false
def r6 (C : Addr) : Sp := fun vs H Q _ => ∃ (p d : Addr) (n : Int) (ts : List (Str × Int)) (t : Int), vs = [.ref p, .int t] /\ n9 C H p d n ts [] /\ ts.length < 60 /\ ∀ q H', az H H' -> H q = none -> dJ H' q (((ts.filter fun x => decide (x.2 <= t)).map (·.1)).map PyData.str) -> Q (.ref q) H'
theorem EF (T : Txt K mg a) : a7 P w K mg base kj 4 a.c5 a.oN ["self", "to"] (r6 a.aL) := by
 have n1 := T.dw; have n2 := T.dz; have cl := T.bX
 refine T.kg.ok xt (fun vs H Q E h => ?_) (fun dB A outer s H vs Q E hr h => ?_)
 . obtain ⟨_, _, _, _, _, rfl, _⟩ := h; rfl
 . obtain ⟨p, d, n, ts, t, rfl, hw, hl, q⟩ := h
   have hi := hw.ins; have hd := hw.dd
   refine ⟨_, (ao (aI (Gk (C4 (T := ["name", "time"]) (M := ["self", "to"]) (VC (av gM) ["self", "to"] rfl rfl (by decide +kernel)) rfl (C8 (aD (pv 0) rfl)) (fun _ _ _ _ _ => (FD (K := K) (n := 2) rfl rfl (cK (aT (i := 0) (show List.Nodup (["name", "time", "self", "to"] : List Str) by decide +kernel) rfl (Or.inl rfl)) (cK (aT (i := 1) (show List.Nodup (["name", "time", "self", "to"] : List Str) by decide +kernel) rfl (Or.inl rfl)) lR)))) (Dg (mK (by decide) (mK (by decide) zL))) (fun _ _ _ _ _ => (Pm (aJ vC (pv 1) (pv 3) (aR _)))) (fun _ _ _ _ _ => (pv 0)))))), ?_⟩
   repeat' (walk_at "rd1")
   refine Qs hd (fun R hR => ?_) (leD t) (fun x => .str x.1) (by rw [sF]; omega) (fun _ => rfl) (fun y c Hf H2 N hc mvf hrd fA hy yes no => ?_) (fun q1 H1 js lQ rS => ?_)
   . repeat' (walk_at "rd1")
     exact hR
   . obtain ⟨x, hx, rfl⟩ := List.mem_map.mp hc
     refine wU hy (fun w1 w2 f1 f2 => ?_)
     obtain rfl := f1.str_inv
     obtain rfl := f2.int_inv
     repeat' (walk_at "rd1")
     refine zT (fun hb => ?_) (fun hb => no hb _ (az.refl _))
     repeat' (walk_at "rd1")
     exact yes hb _ _ (az.refl _) (.str _)
   have Mu : dJ H1 q1 (((ts.filter fun x => decide (x.2 <= t)).map (·.1)).map PyData.str) := by
    unfold n6 at rS
    rw [List.filter_map, List.map_map] at rS
    rw [List.map_map]; exact rS
   repeat' (walk_at "rd1")
   exact q q1 H1 js lQ Mu
theorem BQ (T : Txt K mg a) : gk P w K mg base 4 a.c5 ["self", "to"] [] (r6 a.aL) :=
 ⟨⟨_, _, EF T, T.kg.binds fun _ _ _ _ _ _ => .all fun us hl => match us, hl with | [_, _], _ => rfl, .nil⟩⟩
theorem ER (T : Txt K mg a) : gk P w K mg base 1 a.aK ["self", "now"] [] (pI a.aL) := ⟨⟨_, _, xc T T.bX T.dw T.dz, FO T, .nil⟩⟩
theorem Lw (T : Txt K mg a) : Binds K a.dS ["self", "now"] [.int 0 a.ck] := T.eA.binds fun _ _ _ _ _ _ s us kx hl => by
 obtain ⟨o, n, h1, h2⟩ := T.gH.ex
 have hl : us.length = 1 := by simp at hl; omega
 match us, hl with
 | [_], _ => exact PySem.W.binds_K kx rfl h1 h2 rfl rfl
theorem El (T : Txt K mg a) : gk P w K mg base 1 a.aK ["self", "now"] [.int 0] (pI a.aL) := ⟨⟨_, _, xc T T.bX T.dw T.dz, Lw T, .cons ⟨_, rfl⟩ .nil⟩⟩
theorem Cd {C : Addr} {H : Hp} {Q : VK} {E : XK} {n : Int} {us : List V} (eu : us = [.int n]) (k : ∀ x H2 d, az H H2 -> H x = none -> H d = none -> n9 C H2 x d n [] [] -> Q (.ref x) H2) : sL C (pI C) us H Q E := by
 refine ⟨_, eu, fun x dx hx hd ne => ⟨x, dx, n, rfl, au, fun H' d mv h1 h2 h3 => ⟨rfl, ?_⟩⟩⟩
 exact k x _ d (Bs hx hd mv) hx (xU h1) ⟨⟨dx, h3⟩, h2, ⟨rfl, rfl, rfl, rfl⟩, by decide⟩
def Told (a : Ad) (kd : Bool) (H : Hp) (x : Addr) (S : List Addr) (n : Int) (ts : List (Str × Int)) : Prop :=
 (ts.map (·.1)).Nodup /\ ((kd = true /\ ∃ d, S = [x, d] /\ n9 a.aL H x d n ts []) \/ (kd = false /\ ∃ d m us G cX, S = x :: d :: m :: G.foot /\ Ch us /\ yM a.ag a.ak H x d m n us G ts cX))
section
variable {H H' : Hp} {x : Addr} {S S' : List Addr} {n : Int} {ts : List (Str × Int)} {kd : Bool}
theorem yM.wt {C CW p d m : Addr} {us : List (Int × Int)} {G : dU} {cX : List (Str × Int)} (h : yM C CW H p d m n us G ts cX) : n9 C H p d n ts [("wheels", .ref G.q), ("far", .ref G.f), ("moves", .ref m)] := ⟨h.ws.ex, h.ws.dd, ⟨rfl, rfl, rfl, rfl⟩, Nat.le_of_ble_eq_true rfl⟩
theorem Told.keeps (sm : az H H') (h : Told a kd H x S n ts) : Told a kd H' x S n ts := by
 obtain ⟨h0, ⟨k, d, e, h1⟩ | ⟨k, d, m, us, G, cX, e, hc, h1⟩⟩ := h
 . exact ⟨h0, .inl ⟨k, d, e, h1.keeps sm⟩⟩
 . exact ⟨h0, .inr ⟨k, d, m, us, G, cX, e, hc, h1.keeps sm⟩⟩
theorem Told.mv (mv : Mv S' H H') (hn : ∀ b ∈ S, b ∉ S') (h : Told a kd H x S n ts) : Told a kd H' x S n ts := by
 obtain ⟨h0, ⟨k, d, rfl, h1⟩ | ⟨k, d, m, us, G, cX, rfl, hc, h1⟩⟩ := h
 . exact ⟨h0, .inl ⟨k, d, rfl, h1.mv mv (hn x (by simp)) (hn d (by simp))⟩⟩
 . exact ⟨h0, .inr ⟨k, d, m, us, G, cX, rfl, hc, h1.mv mv hn⟩⟩
theorem Told.alive (h : Told a kd H x S n ts) : ∀ b ∈ S, H b ≠ none := by
 obtain ⟨h0, ⟨k, d, rfl, h1⟩ | ⟨k, d, m, us, G, cX, rfl, hc, h1⟩⟩ := h
 . intro b hb
   have : b = x \/ b = d := by simpa using hb
   rcases this with rfl | rfl
   . obtain ⟨dx, e⟩ := h1.ex
     rw [e]; simp
   . obtain ⟨ax, e2, _⟩ := h1.dd
     rw [e2]; simp
 . exact h1.ws.alive
theorem Told.self (h : Told a kd H x S n ts) : x ∈ S := by
 obtain ⟨h0, ⟨k, d, rfl, h1⟩ | ⟨k, d, m, us, G, cX, rfl, hc, h1⟩⟩ := h <;> exact List.mem_cons_self
end
def Ft (a : Ad) (kd : Bool) (H : Hp) (x : Addr) (S : List Addr) (n : Int) (ts : List (Str × Int)) (R : Hp -> Prop) : Prop := ∀ S' H', Mv S H H' -> Told a kd H' x S' n ts -> (∀ b ∈ S', b ∈ S \/ H b = none) -> R H'
section
variable {H : Hp} {Q : VK} {E : XK} {x d m : Addr} {n t : Int} {ts cX : List (Str × Int)} {us : List (Int × Int)} {G : dU} {nm : Str}
theorem Rg (h0 : (ts.map (·.1)).Nodup) (h1 : n9 a.aL H x d n ts []) (hl : ts.length <= 1000) (hx : nY nm) (qT : nm ∈ ts.map (·.1) -> ∀ d', H d' = none -> E (.ref a.aH) (some d') (Xn H d' nm)) (qP : nm ∉ ts.map (·.1) -> t <= n -> E (.ref a.aN) none H)
 (q : nm ∉ ts.map (·.1) -> n < t -> Ft a true H x [x, d] n (ts ++ [(nm, t)]) (Q .bG)) : wA a.aL a.aH a.aN kR [.ref x, .str nm, .int t] H Q E :=
 ⟨x, d, n, ts, [], nm, t, rfl, h1, hl, hx, qT, qP, fun hn ht H1 mv hw => ⟨fun H2 => H2 = H1, fun _ h => ⟨_, _, _, rfl, h _ rfl⟩, fun H2 e => by
  subst e
  exact q hn ht [x, d] H2 (bV mv (by simp)) ⟨wq h0 hn, .inl ⟨rfl, d, rfl, hw⟩⟩ fun b hb => .inl hb⟩⟩
theorem RP (hc : Ch us) (h1 : yM a.ag a.ak H x d m n us G ts cX) (hl : ts.length <= 1000) (hx : nY nm) (qT : nm ∈ ts.map (·.1) -> ∀ d', H d' = none -> E (.ref a.aH) (some d') (Xn H d' nm)) (qP : nm ∉ ts.map (·.1) -> t <= n -> E (.ref a.aN) none H)
 (q : nm ∉ ts.map (·.1) -> n < t -> Ft a false H x (x :: d :: m :: G.foot) n (ts ++ [(nm, t)]) (Q .bG)) : wA a.ag a.aH a.aN (x3 a.ag a.ak) [.ref x, .str nm, .int t] H Q E :=
 ⟨x, d, n, ts, _, nm, t, rfl, h1.wt, hl, hx, qT, qP, fun hn ht H1 mv hw => by
  have wu := h1.ws.DP mv hw.dd
  have QS : nm ∉ cX.map (·.1) := fun z => hn ((h1.mem nm).mp z)
  have Gn := h1.abR
  refine ⟨fun H2 => ∃ G', Mv (m :: G.foot) H1 H2 /\ eJ a.ag a.ak H2 x d m n G' (ts ++ [(nm, t)]) (cX ++ [(nm, 0)]) /\ GI us n (ts ++ [(nm, t)]) G' /\ ∀ b ∈ G'.foot, b ∈ G.foot \/ H1 b = none, fun Q' h => ?_, fun H2 ⟨G', lK, sr, uN, hs⟩ => ?_⟩
  . exact ⟨x, d, m, n, G, us, ts ++ [(nm, t)], ts, cX, nm, t, rfl, wu, h1.gi, h1.uo, hn, QS, by omega, by omega, fun H3 G' qv sr uN hs => h H3 ⟨G', qv, sr, uN, hs⟩⟩
  . refine q hn ht _ H2 ((bV mv fun b hb => by simp [List.mem_singleton.mp hb]).trans (bV lK fun b hb => List.mem_cons_of_mem _ (List.mem_cons_of_mem _ hb))) ⟨wq h1.nd hn, .inr ⟨rfl, d, m, us, G', _, rfl, hc, ⟨sr, uN, h1.uo, wq h1.nd hn, wq h1.Sz QS, fun y => ?_⟩⟩⟩ fun b hb => ?_
    . rw [List.map_append, List.map_append, List.mem_append, List.mem_append, h1.mem y]; rfl
    . simp only [List.mem_cons] at hb ⊢
      rcases hb with hb | hb | hb | hb
      . exact .inl (.inl hb)
      . exact .inl (.inr (.inl hb))
      . exact .inl (.inr (.inr (.inl hb)))
      . rcases hs b hb with r | r
        . exact .inl (.inr (.inr (.inr r)))
        . exact .inr (mv.none r)⟩
theorem Nu (h0 : (ts.map (·.1)).Nodup) (h1 : n9 a.aL H x d n ts []) (hx : nY nm) (qN : nm ∉ ts.map (·.1) -> ∀ d', H d' = none -> E (.ref a.aA) (some d') (Xn H d' nm))
 (q : ∀ t, (nm, t) ∈ ts -> Ft a true H x [x, d] n (fy ts nm) (Q (.int t))) : t9 a.aL a.aA kR [.ref x, .str nm] H Q E :=
 ⟨x, d, n, ts, [], nm, rfl, h1, h0, hx, qN, fun t ht H1 mv hw => ⟨fun H2 => H2 = H1, fun _ h => ⟨_, _, _, rfl, h _ rfl⟩, fun H2 e => by
  subst e
  exact q t ht [x, d] H2 (bV mv (by simp)) ⟨oJ h0, .inl ⟨rfl, d, rfl, hw⟩⟩ fun b hb => .inl hb⟩⟩
theorem Ot (hc : Ch us) (h1 : yM a.ag a.ak H x d m n us G ts cX) (hl : ts.length <= 1000) (hx : nY nm) (qN : nm ∉ ts.map (·.1) -> ∀ d', H d' = none -> E (.ref a.aA) (some d') (Xn H d' nm))
 (q : ∀ t, (nm, t) ∈ ts -> Ft a false H x (x :: d :: m :: G.foot) n (fy ts nm) (Q (.int t))) : t9 a.ag a.aA (wM a.ag a.ak) [.ref x, .str nm] H Q E :=
 ⟨x, d, n, ts, _, nm, rfl, h1.wt, h1.nd, hx, qN, fun t ht H1 mv hw => by
  have wu := h1.ws.DP mv hw.dd
  refine ⟨fun H2 => ∃ G', Mv (m :: G.foot) H1 H2 /\ eJ a.ag a.ak H2 x d m n G' (fy ts nm) (fy cX nm) /\ GI us n (fy ts nm) G' /\ ∀ b ∈ G'.foot, b ∈ G.foot, fun Q' h => ?_, fun H2 ⟨G', lK, sr, uN, hs⟩ => ?_⟩
  . exact ⟨x, d, m, n, G, us, _, ts, cX, nm, t, rfl, wu, h1.gi, h1.uo, ht, h1.nd, (h1.mem _).mpr (List.mem_map_of_mem (f := (·.1)) ht), by omega, fun H3 G' qv sr uN hs => h H3 ⟨G', qv, sr, uN, hs⟩⟩
  . refine q t ht _ H2 ((bV mv fun b hb => by simp [List.mem_singleton.mp hb]).trans (bV lK fun b hb => List.mem_cons_of_mem _ (List.mem_cons_of_mem _ hb))) ⟨oJ h1.nd, .inr ⟨rfl, d, m, us, G', _, rfl, hc, ⟨sr, uN, h1.uo, oJ h1.nd, oJ h1.Sz, fun y => ?_⟩⟩⟩ fun b hb => ?_
    . rw [zl, zl, h1.mem y]
    . simp only [List.mem_cons] at hb ⊢
      exact .inl (hb.imp_right fun hb => hb.imp_right fun hb => hb.imp_right fun hb => hs b hb)⟩
def WW (a : Ad) (kd : Bool) (H : Hp) (x : Addr) (S : List Addr) (t : Int) (ts : List (Str × Int)) (Q : VK) : Prop := ∀ S' H' (l : Addr) (ks : List (Int × Str)), Mv S H H' -> Told a kd H' x S' t (ts.filter fun y => decide (t < y.2)) -> (∀ b ∈ S', b ∈ S \/ H b = none) -> H l = none -> l ∉ S' -> ks.Perm ((ts.filter fun y => decide (y.2 <= t)).map C1) -> MX ks -> dJ H' l (ks.map pairD) -> Q (.ref l) H'
theorem Aq {f : Str × Int -> Bool} (h : (ts.map (·.1)).Nodup) : ((ts.filter f).map (·.1)).Nodup := h.sublist (List.filter_sublist.map _)
theorem RL (h0 : (ts.map (·.1)).Nodup) (h1 : n9 a.aL H x d n ts []) (hl : ts.length < 60) (qP : t < n -> E (.ref a.aN) none H) (q : n <= t -> WW a true H x [x, d] t ts Q) : wB a.aL a.aN (r6 a.aL) [.ref x, .int t] H Q E :=
 ⟨x, d, n, ts, [], t, rfl, h1, hl, h0, qP, fun MU => ⟨fun H1 => az H H1, fun Q' h => ⟨x, d, n, ts, t, rfl, h1, hl, fun q0 H1 sm hn hq => by
     refine h q0 H1 _ (h1.keeps sm) (Aq h0) (fun y => ?_) hn hq (fun b => sm.none) sm
     rw [List.mem_map]
     constructor
     . rintro ⟨z, hz, rfl⟩
       obtain ⟨z1, z2⟩ := List.mem_filter.mp hz
       exact ⟨z.2, z1, of_decide_eq_true z2⟩
     . rintro ⟨u, hu, hut⟩
       exact ⟨(y, u), List.mem_filter.mpr ⟨hu, decide_eq_true hut⟩, rfl⟩⟩,
  fun l H' ks hn hp hs hq hw ⟨H1, lQ, sm, mv⟩ => by
   refine q MU [x, d] H' l ks (sm.mv.trans mv) ⟨Aq h0, .inl ⟨rfl, d, rfl, hw⟩⟩ (fun b hb => .inl hb) hn (fun z => ?_) hp hs hq
   have yZ : Told a true H x [x, d] n ts := ⟨h0, .inl ⟨rfl, d, rfl, h1⟩⟩
   exact yZ.alive l z hn⟩⟩
theorem UH (hc : Ch us) (h1 : yM a.ag a.ak H x d m n us G ts cX) (hl : ts.length < 60) (qP : t < n -> E (.ref a.aN) none H) (q : n <= t -> WW a false H x (x :: d :: m :: G.foot) t ts Q) : wB a.ag a.aN (u3 a.ag a.ak) [.ref x, .int t] H Q E :=
 ⟨x, d, n, ts, _, t, rfl, h1.wt, hl, h1.nd, qP, fun MU => by
  refine ⟨fun H1 => ∃ G' hU, Mv (m :: G.foot) H H1 /\ eJ a.ag a.ak H1 x d m n G' ts hU /\ GI us t (ts.filter fun y => decide (t < y.2)) G' /\ (hU.map (·.1)).Nodup /\ (∀ y, y ∈ hU.map (·.1) ↔ y ∈ (ts.filter fun y => decide (t < y.2)).map (·.1)) /\ (∀ b ∈ G'.foot, b ∈ G.foot \/ H b = none) /\ G'.q = G.q /\ G'.f = G.f, ?_, ?_⟩
  . refine fun Q' h => ⟨x, d, m, n, us, G, ts, cX, t, rfl, h1, hc, MU, by omega, fun q0 H1 G1 Oc ov qc gS SW PV M5 SN NU R6 lQ ZP => ?_⟩
    obtain ⟨f1, f2, f3, f4, f5, f6⟩ := h1.ws.vG
    obtain ⟨dx, e1⟩ := h1.ws.ex
    obtain ⟨dx1, e2⟩ := gS.ex
    have e3 := qc.at (a := x) (fun z => by
     rcases List.mem_cons.mp z with z | z
     . exact f2 z
     . exact f4 z) e1
    rw [e3] at e2
    obtain ⟨_, e5⟩ := HO.ins.inj (Option.some.inj e2) |>.2
    simp only [VS, List.cons.injEq, Prod.mk.injEq, V.ref.injEq, true_and, and_true] at e5
    refine h q0 H1 ov ⟨⟨dx, e3⟩, gS.dd, ⟨rfl, rfl, rfl, rfl⟩, Nat.le_of_ble_eq_true rfl⟩ PV M5 lQ ZP (fun b => qc.none) ⟨G1, Oc, qc, gS, SW, SN, fun y => ?_, R6, e5.1.symm, e5.2.symm⟩
    constructor
    . intro hx
      obtain ⟨⟨_, v'⟩, hv, rfl⟩ := List.mem_map.mp hx
      obtain ⟨u, v, h1, h2, _⟩ := (NU _ v').mp hv
      exact List.mem_map.mpr ⟨_, List.mem_filter.mpr ⟨h1, decide_eq_true h2⟩, rfl⟩
    . intro hx
      obtain ⟨⟨x0, u⟩, hu, e0⟩ := List.mem_map.mp hx
      have e0 : x0 = y := e0
      subst e0
      obtain ⟨g1, g2⟩ := List.mem_filter.mp hu
      have g2 : t < u := of_decide_eq_true g2
      obtain ⟨y, hy, e⟩ := List.mem_map.mp ((h1.mem x0).mpr (List.mem_map.mpr ⟨_, g1, rfl⟩))
      have e : y.1 = x0 := e
      refine List.mem_map.mpr ⟨(x0, _), (NU x0 _).mpr ⟨u, y.2, g1, g2, ?_, rfl⟩, rfl⟩
      rw [<- e]; exact hy
  . rintro l H' ks hn hp hs hq hw ⟨H1, lQ, ⟨G1, Oc, qc, gS, SW, SN, NU, R6, eq1, eq2⟩, mv⟩
    obtain ⟨f1, f2, f3, f4, f5, f6⟩ := gS.vG
    have F7 : eJ a.ag a.ak H' x d m t G1 (ts.filter fun y => decide (t < y.2)) Oc := ⟨by rw [eq1, eq2]; exact hw.ex, hw.dd, gS.mm.mv mv (by simp; exact ⟨Ne.symm f2, Ne.symm f3⟩), gS.g.mv mv (fun b hb => by simp; exact ⟨fun z => f4 (z ▸ hb), fun z => f5 (z ▸ hb)⟩), gS.nd⟩
    refine q MU _ H' l ks ?_ ⟨Aq h1.nd, .inr ⟨rfl, d, m, us, G1, Oc, rfl, hc, ⟨F7, SW, h1.uo, Aq h1.nd, SN, NU⟩⟩⟩ (fun b hb => ?_) hn (fun z => gS.alive l z lQ) hp hs hq
    . exact Mv.step (bV qc fun b hb => by simp only [List.mem_cons] at hb ⊢; exact .inr (.inr hb)) mv fun b hb => .inl (by simp at hb ⊢; rcases hb with hb | hb <;> simp [hb])
    . simp only [List.mem_cons] at hb ⊢
      rcases hb with hb | hb | hb | hb
      . exact .inl (.inl hb)
      . exact .inl (.inr (.inl hb))
      . exact .inl (.inr (.inr (.inl hb)))
      . exact (R6 b hb).imp (fun r => .inr (.inr (.inr r))) id⟩
end
def Dt : Sp := fun vs H Q _ => ∃ c k, vs = [.int c, .int k] /\ 0 <= k /\ k <= 1000 /\ ∀ r, 0 <= r -> Q (.int r) H
theorem L9 (T : Txt K mg a) : a7 P w K mg base kj 1 a.cW a.rC ["_law_cell", "_law_k"] Dt := by
 refine T.mM.ok j4 (fun vs H Q E h => ?_) (fun dB A outer s H vs Q E hr h => ?_)
 . obtain ⟨_, _, rfl, _⟩ := h; rfl
 . obtain ⟨c, k, rfl, h0, h1, q⟩ := h
   refine ⟨_, (aq (aC (i := 2) j4.nd rfl (Or.inl rfl) (ay aM (ay Rx (ay dX (ay dX (pv 0) (ay jH aj (pv 1))) aj) aj) aj))
    (aq (aC (i := 2) j4.nd rfl (Or.inl rfl) (ay aM (ay jH (pv 2) (ay dX (ay aO (pv 2) aj) aj)) aj))
    (ao (aI (ay aM (ay jH (pv 2) (ay dX (ay aO (pv 2) aj) aj)) aj))))), ?_⟩
   repeat' (walk_at "rd1")
   refine Vm (.inr ⟨by decide, by decide⟩) ?_
   repeat' (walk_at "rd1")
   rename_i b1 b2
   exact q _ b1
theorem G8 (T : Txt K mg a) : gk P w K mg base 1 a.cW ["_law_cell", "_law_k"] [] Dt :=
 ⟨⟨_, _, L9 T, T.mM.binds fun _ _ _ _ _ _ => .all fun us hl => match us, hl with | [_, _], _ => rfl, .nil⟩⟩
def Df : Sp := fun vs H Q _ => ∃ (c w : Int) (m : Nat), vs = [.int c, .int (m : Int), .int w] /\ m <= 3 /\ ∀ q H' (ds : List Int), az H H' -> H q = none -> dJ H' q (ds.map PyData.int) -> ds.length = m -> (∀ d ∈ ds, 0 <= d) -> Q (.ref q) H'
theorem Kr (T : Txt K mg a) : a7 P w K mg base kj 2 a.cU a.qx ["_law_cell", "_law_many", "_law_way"] Df := by
 have Ay := G8 (P := P) (w := w) (base := base) T
 refine T.ml.ok gO (fun vs H Q E h => ?_) (fun dB A outer s H vs Q E hr h => ?_)
 . obtain ⟨_, _, _, rfl, _⟩ := h; rfl
 . obtain ⟨c, w', m, rfl, hm, q⟩ := h
   refine ⟨_, (aq (aC (i := 3) gO.nd rfl (Or.inl rfl) (eZ ai))
    (aq (gC PassesOwn.never rfl (lJ rfl T.gU (af (pv 1) ai)) (aT (i := 4) gO.nd rfl (Or.inl rfl))
     (ao (bT (aJ (j9 hr.AV) (ay aM (pv 2) aj) aj (aR _))
      (aq (a9 (je PySem.F.plainAttrs_list PySem.F.slot_list_append PySem.F.type_list_append lh (pv 3) (af (ay aM (pv 0) (ay xh aj aj)) ai)))
      (ao (aC (i := 0) gO.nd rfl (Or.inl rfl) (ay aO (pv 0) (ay xh aj aj)))))
      (ao (a9 (je PySem.F.plainAttrs_list PySem.F.slot_list_append PySem.F.type_list_append lh (pv 3) (af (bx Ay (hr.mono (by decide)) rfl T.rM T.rH (af (pv 0) (af (pv 4) ai))) ai)))))))
    (ao (aI (pv 3))))), ?_⟩
   repeat' (walk_at "rd1")
   rename_i ql H1 js lQ rS
   refine uK (fun j σ' H' => ∃ c' z ds, σ' = [some (.int c'), some (.int (m : Int)), some (.int w'), some (.ref ql), z] /\ Mv [ql] H1 H' /\ dJ H' ql (ds.map PyData.int) /\ ds.length = j /\ (∀ d ∈ ds, 0 <= d)) ⟨c, _, [], rfl, Mv.refl, rS, rfl, fun d h => nomatch h⟩ ?_ ?_
   . rintro j σ' H' hj ⟨c', z, ds, rfl, mv, hq, AB, O7⟩
     rw [Int.toNat_natCast] at hj
     have YC : (ds.map PyData.int).length = ds.length := List.length_map ..
     have fin : ∀ (r c2 : Int) H2, 0 <= r -> Mv [ql] H' H2 -> dJ H2 ql (ds.map PyData.int ++ [.int r]) -> ∀ z, ∃ c' z', ∃ ds' : List Int, ([some (.int c2), some (.int (m : Int)), some (.int w'), some (.ref ql), z] : St) = [some (.int c'), some (.int (m : Int)), some (.int w'), some (.ref ql), z'] /\ Mv [ql] H1 H2 /\ dJ H2 ql (ds'.map PyData.int) /\ ds'.length = j + 1 /\ (∀ d ∈ ds', 0 <= d) := fun r c2 H2 hr lK zp z => by
      refine ⟨c2, z, ds ++ [r], rfl, mv.trans lK, by rw [List.map_append]; exact zp, by rw [List.length_append, AB]; rfl, fun d hd => ?_⟩
      rcases List.mem_append.mp hd with hd | hd
      . exact O7 d hd
      . rw [List.mem_singleton.mp hd]; exact hr
     repeat' (walk_at "rd1")
     . rename_i _ _ _ b0 _ H2 lK zp
       exact fin _ _ H2 b0 lK zp _
     . refine ⟨c', _, rfl, by omega, by omega, fun r hr => ?_⟩
       repeat' (walk_at "rd1")
       rename_i H2 lK zp
       exact fin _ _ H2 hr lK zp _
   . rintro σ' H' ⟨c', z, ds, rfl, mv, hq, AB, O7⟩
     repeat' (walk_at "rd1")
     exact q ql H' ds (Mv.MD js mv lQ) lQ hq (by rw [AB, Int.toNat_natCast]) O7
theorem Hy (T : Txt K mg a) : gk P w K mg base 2 a.cU ["_law_cell", "_law_many", "_law_way"] [] Df :=
 ⟨⟨_, _, Kr T, T.ml.binds fun _ _ _ _ _ _ => .all fun us hl => match us, hl with | [_, _, _], _ => rfl, .nil⟩⟩
def Vr (s : Str) : Prop := ∀ c ∈ s.cps.toList, c < 1114112
theorem Np (x y : Str) : (x ++ y).cps.toList = x.cps.toList ++ y.cps.toList := by show (x.cps ++ y.cps).toList = _; simp
theorem Bk {s t : Str} (h : Vr s) (k : Vr t) : Vr (s ++ t) := by
 intro c hc
 rw [Np] at hc
 rcases List.mem_append.mp hc with hc | hc
 . exact h c hc
 . exact k c hc
abbrev abO : Str := Str.ofString "abcdefghijklmnopqrstuvwxyz"
theorem Gs : (Str.ofString "abcdefghijklmnopqrstuvwxyz").length = 26 := by decide +kernel
theorem Ub : ∀ i : Fin 26, abO.cps.toList[i.val]? = some (97 + i.val) := by decide +kernel
theorem wF (c : Nat) : (Str.mk #[c]).length = 1 := rfl
theorem OQ {H : Hp} {Q : VK} {i : Int} (h0 : 0 <= i) (h1 : i < 26) (h : Q (.str ⟨#[97 + i.toNat]⟩) H) : Bc K (.str (Str.ofString "abcdefghijklmnopqrstuvwxyz")) (.int i) H Q :=
 S4 (by rw [Gs]; decide) h0 (by rw [Gs]; omega) fun c hc => by
  have e := Ub ⟨i.toNat, by omega⟩
  have e2 : some c = some (97 + i.toNat) := hc.symm.trans e
  rw [Option.some.inj e2]; exact h
theorem wk {c : Nat} (h : c < 200) : Vr ⟨#[c]⟩ := fun d hd => by
 have : d = c := by simpa using hd
 omega
local macro_rules | `(tactic| walk_at "rd1") => `(tactic| first
 | ((with_reducible refine' OQ ?e1 ?e2 ?_); (case e1 => omega); (case e2 => omega))
 | fail)
set_option hygiene false in
local macro_rules | `(tactic| walk_at "len") => `(tactic| first
 | (simp only [Str.length_append, wF] at *; omega)
 | fail)
def Gm : Sp := fun vs H Q _ => ∃ d : Int, vs = [.int d] /\ ∀ x : Str, nY x -> Q (.str x) H
theorem Pa (T : Txt K mg a) : a7 P w K mg base kj 1 a.di a.tP ["_law_draw"] Gm := by
 refine T.oi.ok eB (fun vs H Q E h => ?_) (fun dB A outer s H vs Q E hr h => ?_)
 . obtain ⟨_, rfl, _⟩ := h; rfl
 . obtain ⟨d, rfl, q⟩ := h
   refine ⟨_, (aq (aC (i := 1) eB.nd rfl (Or.inl rfl) (aW cL c4 (ay aM (ay aO (pv 0) aj) aj) (fun _ _ => rfl)))
    (aq (aC (i := 2) eB.nd rfl (Or.inl rfl) (ay aO (pv 0) aj))
    (aq (gC PassesOwn.never rfl (lJ rfl T.gU (af (ay aM (pv 0) aj) ai)) (aT (i := 3) eB.nd rfl (Or.inl rfl))
     (aq (aC (i := 1) eB.nd rfl (Or.inl rfl) (ay Bp (pv 1) (aW cL c4 (ay aM (pv 2) aj) (fun _ _ => rfl))))
     (ao (aC (i := 2) eB.nd rfl (Or.inl rfl) (ay aO (pv 2) aj)))))
    (ao (aI (pv 1)))))), ?_⟩
   repeat' (walk_at "rd1")
   refine uK (fun j σ' H' => H' = H /\ ∃ x r z, σ' = [some (.int d), some (.str x), some (.int r), z] /\ x.length <= j + 1 /\ Vr x) ⟨rfl, _, _, _, rfl, Nat.le_refl _, wk (by omega)⟩ ?_ ?_
   . rintro j σ' H' hj ⟨rfl, x, r, z, rfl, HS, hx⟩
     repeat' (walk_at "rd1")
     exact ⟨rfl, _, _, _, rfl, by simp only [Str.length_append, wF]; omega, Bk hx (wk (by omega))⟩
   . rintro σ' H' ⟨rfl, x, r, z, rfl, HS, hx⟩
     repeat' (walk_at "rd1")
     exact q _ ⟨by omega, hx⟩
theorem Kn (T : Txt K mg a) : gk P w K mg base 1 a.di ["_law_draw"] [] Gm :=
 ⟨⟨_, _, Pa T, T.oi.binds fun _ _ _ _ _ _ => .all fun us hl => match us, hl with | [_], _ => rfl, .nil⟩⟩
theorem Qg {t : Str} (h : ∀ c ∈ t.cps.toList, c ∈ (Str.cps "w").toList) : Vr t := fun c hc => by
 have := h c hc
 have e : (Str.cps "w").toList = [119] := by decide +kernel
 rw [e] at this
 simp at this
 omega
def FV : Sp := fun vs H Q _ => ∃ d st : Int, vs = [.int d, .int st] /\ ∀ x : Str, nY x -> Q (.str x) H
theorem Nk (T : Txt K mg a) : a7 P w K mg base kj 2 a.du a.sC ["_law_draw", "_law_style"] FV := by
 have BV := Kn (P := P) (w := w) (base := base) T
 refine T.ow.ok sN (fun vs H Q E h => ?_) (fun dB A outer s H vs Q E hr h => ?_)
 . obtain ⟨_, _, rfl, _⟩ := h; rfl
 . obtain ⟨d, st, rfl, q⟩ := h
   refine ⟨_, (aq (aC (i := 2) sN.nd rfl (Or.inl rfl) c4)
    (aq (bT (aJ (j9 hr.AV) (ay aM (pv 1) aj) aj (aR _))
     (ao (aI (ay Bp (ay FE c4 (ay aM (ay aO (pv 1) aj) aj)) (aW cL (pv 2) (ay aM (pv 0) aj) (fun _ _ => rfl)))))
     aQ)
    (aq (bT (aJ (j9 hr.AV) (ay aM (pv 1) aj) aj (aR _))
     (ao (aI (bx BV (hr.mono (by decide)) rfl T.um T.uy (af (pv 0) ai))))
     aQ)
    (ao (aI (ay Bp (ay FE c4 (ay aM (ay aO (pv 0) aj) aj)) (aW cL (pv 2) (ay aM (pv 0) aj) (fun _ _ => rfl)))))))), ?_⟩
   repeat' (walk_at "rd1")
   . rename_i ah yZ hah _ _
     refine q _ ⟨?_, Bk (Qg hah) (wk (by omega))⟩
     simp only [Str.length_append, wF]; omega
   . exact ⟨_, rfl, fun x hx => q x hx⟩
   . rename_i ah yZ hah _ _
     refine q _ ⟨?_, Bk (Qg hah) (wk (by omega))⟩
     simp only [Str.length_append, wF]; omega
theorem KD (T : Txt K mg a) : gk P w K mg base 2 a.du ["_law_draw", "_law_style"] [] FV :=
 ⟨⟨_, _, Nk T, T.ow.binds fun _ _ _ _ _ _ => .all fun us hl => match us, hl with | [_, _], _ => rfl, .nil⟩⟩
theorem NX {α : Type} {g : α -> PyData} {l : List α} (h : ∀ x ∈ l, (g x).canLay0 = true) : PyData.canLayAll0 (l.map g) = true := by
 induction l with
 | nil => rfl
 | cons x r ih =>
   rw [List.map_cons, PyData.canLayAll0, h x List.mem_cons_self, ih fun y hy => h y (List.mem_cons_of_mem _ hy)]; rfl
theorem OJ {α : Type} {g : α -> PyData} {n : Nat} {l : List α} (h : ∀ x ∈ l, (g x).depth <= n) : PyData.depthAll (l.map g) <= n := by
 induction l with
 | nil => rw [List.map_nil, PyData.depthAll]; exact Nat.zero_le _
 | cons x r ih =>
   rw [List.map_cons, PyData.depthAll]
   exact Nat.max_le.mpr ⟨h x List.mem_cons_self, ih fun y hy => h y (List.mem_cons_of_mem _ hy)⟩
theorem Kh {s : Str} (h : nY s) : PyData.canLay0 (.str s) = true := by
 show s.cps.all (· < 0x110000) = true
 rw [Array.all_eq_true']
 intro c hc
 exact decide_eq_true (h.2 c (by simpa using hc))
section
variable {H : Hp} {Q : VK} {f : Bool -> Bool} {x y : V}
theorem LV {d : PyData} (h1 : Dv H x d) (h2 : Dv H y d) (hl : d.canLay0 = true) (hd : d.depth <= 8) (h : Q (.bl (f true)) H) : A4 K f x y H Q := Mq h1 h2 hl hl hd (by rw [PySem.SeqAt.eqv_refl d hl]; exact h)
theorem U8 {ds : List PyData} (h1 : Dv H x (.list ds)) (h2 : Dv H y (.list [])) (hl : PyData.canLayAll0 ds = true) (hd : PyData.depthAll ds <= 7) (h : Q (.bl (f ds.isEmpty)) H) : A4 K f x y H Q := by
 refine Mq h1 h2 (by rw [PyData.canLay0]; exact hl) rfl (by rw [PyData.depth]; omega) ?_
 cases ds with
 | nil => exact h
 | cons d r => exact h
variable {ks : List (Int × Str)}
theorem EK (hs : ∀ k ∈ ks, nY k.2) : PyData.canLayAll0 (ks.map pairD) = true := NX fun k hk => by
 have := Kh (hs k hk)
 simp only [pairD, PyData.canLay0, PyData.canLayAll0, Bool.and_true, Bool.true_and] at this ⊢
 exact this
theorem DM : PyData.depthAll (ks.map pairD) <= 3 := OJ fun k _ => by simp [pairD, PyData.depth, PyData.depthAll]
theorem Kw (h1 : Dv H x (.list (ks.map pairD))) (h2 : Dv H y (.list (ks.map pairD))) (hs : ∀ k ∈ ks, nY k.2) (h : Q (.bl (f true)) H) : A4 K f x y H Q :=
 LV h1 h2 (by rw [PyData.canLay0]; exact EK hs) (by have := DM (ks := ks); rw [PyData.depth]; omega) h
theorem Lg (h1 : Dv H x (.list (ks.map pairD))) (h2 : Dv H y (.list [])) (hs : ∀ k ∈ ks, nY k.2) (h : Q (.bl (f ks.isEmpty)) H) : A4 K f x y H Q :=
 U8 h1 h2 (EK hs) (by have := DM (ks := ks); omega) (by cases ks <;> exact h)
end
theorem mw : ∀ {xs ys : List (Int × Str)}, xs.Perm ys -> MX xs -> MX ys -> xs = ys
 | [], _, hp, _, _ => List.Perm.nil_eq hp
 | x :: xs, [], hp, _, _ => by have := hp.length_eq; simp at this
 | x :: xs, y :: ys, hp, h1, h2 => by
   have hx := List.pairwise_cons.mp h1
   have hy := List.pairwise_cons.mp h2
   have Ee : x = y := by
    have m1 : y ∈ x :: xs := hp.mem_iff.mpr List.mem_cons_self
    have m2 : x ∈ y :: ys := hp.mem_iff.mp List.mem_cons_self
    rcases List.mem_cons.mp m1 with e | m1'
    . exact e.symm
    rcases List.mem_cons.mp m2 with e | m2'
    . exact e
    exact x9 (hy.1 x m2') (hx.1 y m1')
   subst Ee
   rw [mw (List.Perm.cons_inv hp) hx.2 hy.2]
def Am : Sp := fun vs H Q _ => ∃ (l : Addr) (ns : List Int) (j : Nat), vs = [.ref l, .int (j : Int)] /\ fj K H l (ns.map V.int) /\ ∀ q H' (rs : List Int), az H H' -> H q = none -> dJ H' q (rs.map PyData.int) -> 1 <= rs.length -> rs.length <= 6 -> (∀ r ∈ rs, 2 <= r /\ r <= 60) -> Q (.ref q) H'
def Xa (d : PyData) : Prop := ∃ r : Int, d = .int r /\ 2 <= r /\ r <= 60
theorem u5 : ∀ {ds : List PyData}, (∀ d ∈ ds, Xa d) -> ∃ rs : List Int, ds = rs.map PyData.int /\ ∀ r ∈ rs, 2 <= r /\ r <= 60
 | [], _ => ⟨[], rfl, fun r h => by cases h⟩
 | d :: ds, h => by
   obtain ⟨rs, rfl, hr⟩ := u5 fun x hx => h x (List.mem_cons_of_mem _ hx)
   obtain ⟨r, rfl, h1⟩ := h d List.mem_cons_self
   refine ⟨r :: rs, rfl, fun x hx => ?_⟩
   rcases List.mem_cons.mp hx with rfl | hx
   . exact h1
   . exact hr x hx
theorem Ha (T : Txt K mg a) : a7 P w K mg base kj 2 a.cz a.oK ["_law_script", "_law_at"] (Am (K := K)) := by
 have cH := mX (P := P) (w := w) (base := base) T
 refine T.kh.ok jf (fun vs H Q E h => ?_) (fun dB A outer s H vs Q E hr h => ?_)
 . obtain ⟨_, _, _, rfl, _⟩ := h; rfl
 . obtain ⟨l, ns, j, rfl, hl, q⟩ := h
   refine ⟨_, (aq (aC (i := 2) jf.nd rfl (Or.inl rfl) (bx cH (hr.mono (by decide)) rfl T.cb T.b9 (af (pv 0) (af aj ai))))
    (aq (aC (i := 3) jf.nd rfl (Or.inl rfl) (ay dX aj (ay aM (ay dX (pv 2) (pv 1)) aj)))
    (aq (bT (aJ (j9 hr.AV) (ay aM (ay aO (pv 2) aj) aj) aj (aR _))
     (ao (aI (C4 (T := ["_law_k"]) (M := ["_law_script", "_law_at", "_law_cell", "_law_many"]) (VC (av eQ) ["_law_script", "_law_at", "_law_cell", "_law_many"] rfl rfl (by decide +kernel)) rfl (lJ rfl T.gU (af (pv 3) ai)) (fun _ _ _ _ _ => (aT (i := 0) (show List.Nodup (["_law_k", "_law_script", "_law_at", "_law_cell", "_law_many"] : List Str) by decide +kernel) rfl (Or.inl rfl))) (qh (by decide)) (fun _ _ _ _ _ => tm) (fun _ _ _ _ _ => aj))))
     aQ)
    (ao (aI (C4 (T := ["_law_k"]) (M := ["_law_script", "_law_at", "_law_cell", "_law_many"]) (VC (av eQ) ["_law_script", "_law_at", "_law_cell", "_law_many"] rfl rfl (by decide +kernel)) rfl (lJ rfl T.gU (af (pv 3) ai)) (fun _ _ _ _ _ => (aT (i := 0) (show List.Nodup (["_law_k", "_law_script", "_law_at", "_law_cell", "_law_many"] : List Str) by decide +kernel) rfl (Or.inl rfl))) (qh (by decide)) (fun _ _ _ _ _ => tm) (fun _ _ _ _ _ => (ay dX aj (ay aM (bx cH (hr.mono (by decide)) rfl T.cb T.b9 (af (pv 1) (af (ay dX (pv 2) (pv 0)) ai))) aj))))))))), ?_⟩
   repeat' (walk_at "rd1")
   all_goals refine S5 (fun _ d => Xa d) (by omega) (fun _ d ⟨r, e, _⟩ => by rw [e]; rfl) (fun i H1 N hi js yes => ?_) (fun p0 H1 ds js lQ rS AB O7 => ?_)
   . repeat' (walk_at "rd1")
     refine zT (fun hb => ?_) (fun hb => by cases hb)
     repeat' (walk_at "rd1")
     exact yes _ _ _ (az.refl _) ⟨2, rfl, by decide, by decide⟩ (.int _)
   . obtain ⟨rs, rfl, xx⟩ := u5 fun d hd => by
      obtain ⟨j, hj⟩ := List.getElem?_of_mem hd
      exact O7 j d hj
     rw [List.length_map] at AB
     repeat' (walk_at "rd1")
     exact q p0 H1 rs js lQ rS (by omega) (by omega) xx
   . have yK : fj K H1 l (ns.map V.int) := by walk_at "sql"
     repeat' (walk_at "rd1")
     refine zT (fun hb => ?_) (fun hb => by cases hb)
     repeat' (walk_at "rd1")
     exact yes _ _ _ (az.refl _) ⟨_, rfl, by omega, by omega⟩ (.int _)
   . obtain ⟨rs, rfl, xx⟩ := u5 fun d hd => by
      obtain ⟨j, hj⟩ := List.getElem?_of_mem hd
      exact O7 j d hj
     rw [List.length_map] at AB
     repeat' (walk_at "rd1")
     exact q p0 H1 rs js lQ rS (by omega) (by omega) xx
theorem D8 (T : Txt K mg a) : gk P w K mg base 2 a.cz ["_law_script", "_law_at"] [] (Am (K := K)) :=
 ⟨⟨_, _, Ha T, T.kh.binds fun _ _ _ _ _ _ => .all fun us hl => match us, hl with | [_, _], _ => rfl, .nil⟩⟩
def FU : Sp := fun vs H Q _ => ∃ (l : Addr) (d n : Int) (rs : List Int), vs = [.int d, .int n, .ref l] /\ dJ H l (rs.map PyData.int) /\ rs.length <= 6 /\ (∀ r ∈ rs, 2 <= r /\ r <= 60) /\ 0 <= n /\ n <= 10 ^ 60 /\ ∀ H' t, az H H' -> n <= t -> t <= n + 10 ^ 38 - 1 -> Q (.int t) H'
theorem Pk (T : Txt K mg a) : a7 P w K mg base kj 2 a.dt a.tX ["_law_draw", "_law_now", "_law_rounds_here"] FU := by
 refine T.pL.ok ez (fun vs H Q E h => ?_) (fun dB A outer s H vs Q E hr h => ?_)
 . obtain ⟨_, _, _, _, rfl, _⟩ := h; rfl
 . obtain ⟨l, d, n, rs, rfl, hl, h6, xx, BK, lQ, q⟩ := h
   refine ⟨_, (aq (aC (i := 3) ez.nd rfl (Or.inl rfl) (ay aM (pv 0) aj))
    (aq (aC (i := 4) ez.nd rfl (Or.inl rfl) (ay aO (pv 0) aj))
    (aq (bT (aJ xA (pv 3) aj (aR _))
     (ao (aI (ay dX (pv 1) (ay aM (pv 4) (aW cL (eZ (af aj (af aj (af aj (af (ay xh aj aj) (af (ay xh aj aj) ai)))))) (pv 3) (fun _ _ => rfl))))))
     aQ)
    (aq (aC (i := 5) ez.nd rfl (Or.inl rfl) aj)
    (aq (gC PassesOwn.never rfl (gP (CN FL (pv 2) PL (BA (ay aM (pv 4) aj)))) (aT (i := 6) ez.nd rfl (Or.inl rfl))
     (ao (aC (i := 5) ez.nd rfl (Or.inl rfl) (ay jH (pv 5) (pv 6)))))
    (ao (aI (aZ (zr rfl) rfl T.xD PyProof.Rows.boot_max (af (pv 1) (af (ay yw (ay dX (ay jH (ay dX (ay dX (ay aO (pv 1) (pv 5)) aj) (ay aM (ay aO (pv 4) aj) aj)) (pv 5)) (ay aM (ay aO (pv 4) aj) aj)) aj) ai)))))))))), ?_⟩
   repeat' (walk_at "rd1")
   . rename_i pl H1 js lQ rS
     refine Yt (ns := [4, 60, 5000, 10 ^ 12, 10 ^ 37]) rS.dv (by omega) (by show d % 7 < 5; omega) (fun b hb => ?_)
     have yl : 0 < b /\ b <= 10 ^ 37 := by
      simp only [List.mem_cons, List.not_mem_nil, or_false] at hb
      rcases hb with rfl | rfl | rfl | rfl | rfl <;> exact ⟨by decide, by decide⟩
     obtain ⟨hb0, JU⟩ := yl
     repeat' (walk_at "rd1")
     exact q _ _ js (by omega) (by omega)
   . rename_i c0 c1
     obtain ⟨j, hj⟩ := Int.eq_ofNat_of_zero_le c0
     rw [hj]
     refine LA j hl (fun pl H1 js lQ rS => ?_)
     rw [<- List.map_take] at rS
     refine yy (Hb := H1) (cs := rs.take j) (gd := PyData.int) rS.dv (fun i σ' H' => H' = H1 /\ ∃ z, σ' = [some (.int d), some (.int n), some (.ref l), some (.int (d % 7)), some (.int (d / 7)), some (.int (dN 1 ((rs.take j).take i))), z]) ⟨rfl, _, rfl⟩ (fun i σ' H' _ ⟨e, _⟩ a' xs _ hx => by rw [e]; exact hx) ?_ ?_
     . rintro i r x σ' H' hi ⟨rfl, z, rfl⟩ Kv _
       obtain rfl := (Kv rfl (Mv.refl (S := [])).tp).int_inv
       have VX := xx r (List.mem_of_mem_take (List.mem_of_getElem? hi))
       obtain ⟨Kt, Qk⟩ := o9 ((rs.take j).take i) 1 (by decide) fun r Ls => xx r (List.mem_of_mem_take (List.mem_of_mem_take Ls))
       have MN : ((rs.take j).take i).length <= 6 := by rw [List.length_take, List.length_take]; omega
       have Y2 : dN 1 ((rs.take j).take i) <= 10 ^ 12 := by have := GC MN; omega
       have e2 : dN 1 ((rs.take j).take (i + 1)) = dN 1 ((rs.take j).take i) * r := by rw [List.take_add_one, hi, <- oP]; rfl
       rw [e2]
       generalize dN 1 ((rs.take j).take i) = u at *
       repeat' (walk_at "rd1")
       exact ⟨rfl, _, rfl⟩
     . rintro σ' H' ⟨rfl, z, rfl⟩
       obtain ⟨Kt, Qk⟩ := o9 ((rs.take j).take (rs.take j).length) 1 (by decide) fun r Ls => xx r (List.mem_of_mem_take (List.mem_of_mem_take Ls))
       have MN : ((rs.take j).take (rs.take j).length).length <= 6 := by rw [List.length_take, List.length_take]; omega
       have Y2 : dN 1 ((rs.take j).take (rs.take j).length) <= 10 ^ 12 := by have := GC MN; omega
       generalize dN 1 ((rs.take j).take (rs.take j).length) = u at *
       have EB : 0 <= n / u := Int.ediv_nonneg BK (Int.le_of_lt Kt)
       have yG : n / u <= n := Int.ediv_le_self u BK
       have hm : (n / u + 1 + d / 7 / 21 % 3) * u <= n + 3 * 10 ^ 12 := by
        have e1 := Int.ediv_mul_le n (Int.ne_of_gt Kt)
        have e2 : (1 + d / 7 / 21 % 3) * u <= 3 * 10 ^ 12 := Int.mul_le_mul (by omega) Y2 (by omega) (by decide)
        rw [Int.add_assoc, Int.add_mul]
        omega
       repeat' (walk_at "rd1")
       exact q _ _ js (by omega) (by omega)
theorem JT (T : Txt K mg a) : gk P w K mg base 2 a.dt ["_law_draw", "_law_now", "_law_rounds_here"] [] FU :=
 ⟨⟨_, _, Pk T, T.pL.binds fun _ _ _ _ _ _ => .all fun us hl => match us, hl with | [_, _, _], _ => rfl, .nil⟩⟩
def ZR (wd nm : Str) (t : Int) : PyData := .tuple [.str wd, .str nm, .int t]
theorem Rv {H : Hp} {Q : VK} {v : V} {ss : List Str} {i : Int} (hp : Dv H v (.list (ss.map PyData.str))) (h0 : 0 <= i) (h1 : i < ss.length) (h : ∀ n ∈ ss, Q (.str n) H) : Bc K v (.int i) H Q := by
 have hi : i.toNat < ss.length := by omega
 refine zv (.inr hp) (d := .str ss[i.toNat]) ?_ (Ff (h _ (List.getElem_mem hi)))
 unfold uj E9
 rw [if_pos h0, List.length_map, if_pos (by omega)]
 simp [hi]
theorem RZ {H : Hp} {Q : VK} {v : V} {ks : List (Int × Str)} {i : Int} (hp : Dv H v (.list (ks.map pairD))) (h0 : 0 <= i) (h1 : i < ks.length) (h : ∀ k ∈ ks, ∀ x, Dv H x (.tuple [.int k.1, .str k.2]) -> Q x H) : Bc K v (.int i) H Q := by
 have hi : i.toNat < ks.length := by omega
 refine zv (.inr hp) (d := pairD ks[i.toNat]) ?_ (Gh fun x hx => h _ (List.getElem_mem hi) x hx)
 unfold uj E9
 rw [if_pos h0, List.length_map, if_pos (by omega)]
 simp [hi]
def Y0 : List Str := ["put", "take", "due"]
def Gg (a : Ad) : Sp := fun vs H Q _ => ∃ (x d ld lr : Addr) (st n B : Int) (ts : List (Str × Int)) (d0 d1 d2 : Int) (rs : List Int), vs = [.ref x, .ref ld, .int st, .ref lr] /\ n9 a.aL H x d n ts [] /\ ts.length < 60 /\ (∀ y ∈ ts, nY y.1 /\ y.2 <= B) /\ 0 <= n /\ n <= B /\ B <= 10 ^ 60 /\ dJ H ld ([d0, d1, d2].map PyData.int) /\ dJ H lr (rs.map PyData.int) /\ rs.length <= 6 /\ (∀ r ∈ rs, 2 <= r /\ r <= 60) /\
 ∀ v H' wd nm t, az H H' -> Dv H' v (ZR wd nm t) -> wd ∈ Y0 -> nY nm -> t <= B + 10 ^ 38 -> Q v H'
theorem Py (T : Txt K mg a) : a7 P w K mg base kj 4 a.dq a.tK ["_law_told", "_law_draws_here", "_law_style", "_law_rounds_here"] (Gg a) := by
 have n1 := T.dw; have cl := T.bX
 have fJ := mB (P := P) (w := w) (base := base) T T.Ez
 have dA := mB (P := P) (w := w) (base := base) T T.mq
 have Dm := KD (P := P) (w := w) (base := base) T
 have Ct := JT (P := P) (w := w) (base := base) T
 refine T.pU.ok bQ (fun vs H Q E h => ?_) (fun dB A outer s H vs Q E hr h => ?_)
 . obtain ⟨_, _, _, _, _, _, _, _, _, _, _, _, rfl, _⟩ := h; rfl
 . obtain ⟨x, d, ld, lr, st, n, B, ts, d0, d1, d2, rs, rfl, hw, hl, DB, BK, YN, hB, hld, hlr, h6, xx, q⟩ := h
   have hi := hw.ins
   have Ux : Dv H (.ref ld) (.list [.int d0, .int d1, .int d2]) := hld.dv
   refine ⟨_, (aq (aC (i := 4) bQ.nd rfl (Or.inl rfl) (ay aM (aW cL (pv 1) aj (fun _ _ => rfl)) aj))
    (aq (aC (i := 5) bQ.nd rfl (Or.inl rfl) (ay aO (aW cL (pv 1) aj (fun _ _ => rfl)) aj))
    (aq (aC (i := 6) bQ.nd rfl (Or.inl rfl) (iT (dD (pv 0) T.bX T.fG fJ (hr.mono (by decide))) (dD (pv 0) T.aF T.dC dA (hr.mono (by decide)))))
    (aq (aC (i := 7) bQ.nd rfl (Or.inl rfl) (bx Dm (hr.mono (by decide)) rfl T.sI T.tQ (af (aW cL (pv 1) aj (fun _ _ => rfl)) (af (pv 2) ai))))
    (gZ (bT (PW.pt (rX (aJ B8 (pv 4) aj (aR _)) (rX (aJ B8 (ay aM (pv 5) aj) aj (aR _)) (sW (aJ (om hr.AV) (pv 6) (eZ ai) (aR _))))))
     (ao (aC (i := 7) bQ.nd rfl (Or.inl rfl) (aW cL (aW cL (pv 6) (ay aM (aW cL (pv 1) aj (fun _ _ => rfl)) (aZ eE rfl T.hZ PySem.boot_len (af (pv 6) ai))) (fun _ _ => rfl)) aj (fun _ _ => rfl))))
     aQ)
    (aq (aC (i := 8) bQ.nd rfl (Or.inl rfl) (bx Ct (hr.mono (by decide)) rfl T.tT T.sV (af (aW cL (pv 1) aj (fun _ _ => rfl)) (af (aD (pv 0) rfl) (af (pv 3) ai)))))
    (gZ (bT (aJ xA (pv 4) aj (aR _))
     (ao (aC (i := 8) bQ.nd rfl (Or.inl rfl) (ay dX (pv 8) aj)))
     aQ)
    (gZ (bT (aJ (j9 hr.AV) (ay aM (ay aO (pv 5) aj) aj) aj (aR _))
     (ao (aC (i := 8) bQ.nd rfl (Or.inl rfl) (aZ (zr rfl) rfl T.xD PyProof.Rows.boot_max (af aj (af (ay yw (aD (pv 0) rfl) (ay aM (ay aO (pv 5) aj) aj)) ai)))))
     aQ)
    (gZ (bT (PW.pt (rX (aJ (j9 hr.AV) (pv 4) aj (aR _)) (sW (aJ (om hr.AV) (pv 6) (eZ ai) (aR _)))))
     (ao (aC (i := 8) bQ.nd rfl (Or.inl rfl) (aW cL (aW cL (pv 6) aj (fun _ _ => rfl)) aj (fun _ _ => rfl))))
     aQ)
    (ao (aI (fc (af (aW cL (eZ (FP (vs := [.str "put", .str "put", .str "put", .str "put", .str "take", .str "due", .str "due", .str "due"]) rfl)) (pv 4) (fun _ _ => rfl)) (af (pv 7) (af (pv 8) ai))))))))))))))), ?_⟩
   repeat' (walk_at "rd1")
   refine ⟨x, d, n, ts, [], rfl, hw, hl, fun q1 H1 ks js lQ Ap Nh rS => ?_⟩
   have Ed := hi.keeps js
   have XR := Ux.keeps js
   have Qw : ks.length = ts.length := by rw [Ap.length_eq, List.length_map]
   have JO : ∀ k ∈ ks, nY k.2 /\ k.1 <= B := fun k hk => by
    obtain ⟨y, hy, rfl⟩ := List.mem_map.mp (Ap.mem_iff.mp hk)
    exact DB y hy
   repeat' (walk_at "rd1")
   refine ⟨_, _, rfl, fun nm0 Uh => ?_⟩
   repeat' (walk_at "rd1")
   rename_i b0 b1
   generalize Vo : [d0, d1, d2].getD (Int.toNat 0) default = w0 at *
   refine o7 (fun σ' H' => az H1 H' /\ ∃ nm z8, nY nm /\ σ' = [some (.ref x), some (.ref ld), some (.int st), some (.ref lr), some (.int (w0 % 8)), some (.int (w0 / 8)), some (.ref q1), some (.str nm), z8]) ?_ ?_
   . repeat' (walk_at "rd1")
     . rename_i _ _ _ _ pe He MT nZ Wv
       refine Lg (rS.keeps MT).dv Wv.dv (fun k hk => (JO k hk).1) ?_
       have aeD := rS.keeps MT
       have afb := XR.keeps MT
       repeat' (walk_at "rd1")
       . rename_i hb
         have UG : 0 < ks.length := by
          cases ks with
          | nil => cases hb
          | cons => simp
         repeat' (walk_at "rd1")
         rename_i c0 c1 _ _
         have hgm : ks.getD ([d0, d1, d2].getD (Int.toNat 1) default % ↑ks.length).toNat default ∈ ks := by
          have eI : ([d0, d1, d2].getD (Int.toNat 1) default % ↑ks.length).toNat < ks.length := by omega
          rw [List.getD_eq_getElem?_getD, List.getElem?_eq_getElem eI]
          exact List.getElem_mem eI
         exact ⟨MT, _, _, (JO _ hgm).1, rfl⟩
       . exact ⟨MT, nm0, _, Uh, rfl⟩
     . exact ⟨az.refl _, nm0, _, Uh, rfl⟩
     . exact ⟨az.refl _, nm0, _, Uh, rfl⟩
   rintro σ' H2 ⟨fA, nm, z8, DH, rfl⟩
   have LI := Ed.keeps fA
   have adU := XR.keeps fA
   have ZN := (hlr.keeps js).keeps fA
   have zp := rS.keeps fA
   repeat' (walk_at "rd1")
   refine ⟨lr, _, n, rs, rfl, ZN, h6, xx, BK, by omega, fun H3 t sm3 ht0 Xx => ?_⟩
   have hi3 := LI.keeps sm3
   have CB := zp.keeps sm3
   repeat' (walk_at "rd1")
   refine o7 (fun σ' H' => H' = H3 /\ ∃ t, t <= B + 10 ^ 38 /\ σ' = [some (.ref x), some (.ref ld), some (.int st), some (.ref lr), some (.int (w0 % 8)), some (.int (w0 / 8)), some (.ref q1), some (.str nm), some (.int t)]) ?_ ?_
   . repeat' (walk_at "rd1")
     . exact ⟨rfl, _, by omega, rfl⟩
     . exact ⟨rfl, t, by omega, rfl⟩
   rintro σ' H3 ⟨rfl, t2, IC, rfl⟩
   repeat' (walk_at "rd1")
   refine o7 (fun σ' H' => H' = H3 /\ ∃ t, t <= B + 10 ^ 38 /\ σ' = [some (.ref x), some (.ref ld), some (.int st), some (.ref lr), some (.int (w0 % 8)), some (.int (w0 / 8)), some (.ref q1), some (.str nm), some (.int t)]) ?_ ?_
   . repeat' (walk_at "rd1")
     . exact ⟨rfl, _, by omega, rfl⟩
     . exact ⟨rfl, t2, by omega, rfl⟩
   rintro σ' H3 ⟨rfl, t3, MQ, rfl⟩
   repeat' (walk_at "rd1")
   refine o7 (fun σ' H' => az H3 H' /\ ∃ t, t <= B + 10 ^ 38 /\ σ' = [some (.ref x), some (.ref ld), some (.int st), some (.ref lr), some (.int (w0 % 8)), some (.int (w0 / 8)), some (.ref q1), some (.str nm), some (.int t)]) ?_ ?_
   . repeat' (walk_at "rd1")
     . rename_i pe He MT nZ Wv
       refine Lg (CB.keeps MT).dv Wv.dv (fun k hk => (JO k hk).1) ?_
       have Z0 := CB.keeps MT
       repeat' (walk_at "rd1")
       . rename_i hb
         have UG : 0 < ks.length := by
          cases ks with
          | nil => cases hb
          | cons => simp
         refine RZ Z0.dv (by decide) (by omega) (fun k hk y hy => ?_)
         have hkB := (JO k hk).2
         repeat' (walk_at "rd1")
         exact ⟨MT, _, by omega, rfl⟩
       . exact ⟨MT, t3, MQ, rfl⟩
     . exact ⟨az.refl _, t3, MQ, rfl⟩
   rintro σ' H4 ⟨DG, t4, ht4, rfl⟩
   repeat' (walk_at "rd1")
   rename_i pw H5 DX Y3 hq5
   refine Rv (ss := ["put", "put", "put", "put", "take", "due", "due", "due"]) hq5.dv (by omega) (by show w0 % 8 < 8; omega) (fun wd Q5 => ?_)
   repeat' (walk_at "rd1")
   rename_i v H6 WH hv
   refine q v H6 wd nm t4 ((((js.trans fA).trans sm3).trans DG).trans (DX.trans WH)) hv ?_ DH ht4
   simp only [List.mem_cons, List.not_mem_nil, or_false] at Q5
   unfold Y0
   rcases Q5 with rfl | rfl | rfl | rfl | rfl | rfl | rfl | rfl <;> simp
theorem Jp (T : Txt K mg a) : gk P w K mg base 4 a.dq ["_law_told", "_law_draws_here", "_law_style", "_law_rounds_here"] [] (Gg a) :=
 ⟨⟨_, _, Py T, T.pU.binds fun _ _ _ _ _ _ => .all fun us hl => match us, hl with | [_, _, _, _], _ => rfl, .nil⟩⟩
inductive Ar
 | nothing
 | num (t : Int)
 | pairs (ks : List (Int × Str))
 | nm (w x : Str)
def IP : Ar -> PyData
 | .nothing => .tuple [.str "told", .none]
 | .num t => .tuple [.str "told", .int t]
 | .pairs ks => .tuple [.str "told", .list (ks.map pairD)]
 | .nm w x => .tuple [.str w, .str x]
def v9 (ts : List (Str × Int)) (t : Int) : List (Int × Str) := ((ts.filter fun y => decide (y.2 <= t)).map C1).mergeSort fun x y => !aS y x
theorem wg (ts : List (Str × Int)) (t : Int) : (v9 ts t).Perm ((ts.filter fun y => decide (y.2 <= t)).map C1) /\ MX (v9 ts t) := by
 refine ⟨List.mergeSort_perm _ _, ?_⟩
 have := List.pairwise_mergeSort (le := fun x y : Int × Str => !aS y x) (fun x y z h1 h2 => by
  simp only [Bool.not_eq_true'] at h1 h2 ⊢
  exact wK h2 h1) (fun x y => by
  cases h : aS y x with
  | false => simp
  | true => simp [x8 h]) ((ts.filter fun y => decide (y.2 <= t)).map C1)
 exact this.imp fun {x y} h => by simpa using h
def cM (n : Int) (ts : List (Str × Int)) (wd nm : Str) (t : Int) : Ar × Int × List (Str × Int) :=
 if wd = "put" then if nm ∈ ts.map (·.1) then (.nm "twice" nm, n, ts) else if t <= n then (.nm "past" "", n, ts) else (.nothing, n, ts ++ [(nm, t)])
 else if wd = "take" then if nm ∈ ts.map (·.1) then (.num (t7 ts nm), n, fy ts nm) else (.nm "nobell" nm, n, ts)
 else if t < n then (.nm "past" "", n, ts) else (.pairs (v9 ts t), t, ts.filter fun y => decide (t < y.2))
structure Hid (p : Prop) : Prop where
 h : p
def Cv (Hb H : Hp) (v : V) (N : Addr -> Prop) : Ar -> Prop
 | .pairs ks => ∃ p l, v = .ref p /\ H p = some (.tup [.str "told", .ref l]) /\ dJ H l (ks.map pairD) /\ N l /\ Hb l = none
 | r => Dv H v (IP r)
theorem Bb {H : Hp} {d e C : Addr} {x : Str} (hd : H d = none) (he : Xn H d x e = none) : ∃ HE, upd (Xn H d x) e (.ext (yT e C (some d))) = HE /\ az H HE /\ HE e = some (.ext (yT e C (some d))) /\ HE d = some (.xd [("name", .str x)]) := by
 have nZ : d ≠ e := fun z => by subst z; unfold Xn at he; rw [au] at he; cases he
 exact ⟨_, rfl, Nx hd he, au, by rw [aw nZ]; exact au⟩
theorem Ua {D : Ends} {σ : St} {H : Hp} {te : TE} {g : TG} (h : te σ H fun v H1 => g v σ H1 fun σ2 H2 => D.nx σ2 H2) : Lp te g D σ H := h
def LX (a : Ad) (kd : Bool) (H : Hp) (x : Addr) (S : List Addr) (r : Ar × Int × List (Str × Int)) (Q : VK) : Prop := ∀ v S' H', Mv S H H' -> Told a kd H' x S' r.2.1 r.2.2 -> (∀ b ∈ S', b ∈ S \/ H b = none) -> Cv H H' v (· ∉ S') r.1 -> Q v H'
def CG (a : Ad) : Sp := fun vs H Q _ => ∃ (kd : Bool) (x : Addr) (S : List Addr) (dv : V) (n : Int) (ts : List (Str × Int)) (wd nm : Str) (t : Int), vs = [.ref x, dv] /\ Told a kd H x S n ts /\ ts.length < 60 /\ Dv H dv (ZR wd nm t) /\ wd ∈ Y0 /\ nY nm /\ LX a kd H x S (cM n ts wd nm t) Q
theorem JX (T : Txt K mg a) : a7 P w K mg base kj 9 a.cZ a.qV ["_law_told", "_law_deed_here"] (CG a) := by
 have G7 := Dp (P := P) (w := w) (base := base) T T.Ez T.vw (DZ T)
 have Bm := Dp (P := P) (w := w) (base := base) T T.mq T.pZ (HJ T)
 have E8 := Aa (P := P) (w := w) (base := base) T T.Ez T.jM T.vn (EH T)
 have yU := Aa (P := P) (w := w) (base := base) T T.mq T.g4 T.ph (HI T)
 have Ik := Dd (P := P) (w := w) (base := base) T T.Ez T.rq (BQ T)
 have A3 := Dd (P := P) (w := w) (base := base) T T.mq T.k6 (D1 T)
 refine T.mh.ok eP (fun vs H Q E h => ?_) (fun dB A outer s H vs Q E hr h => ?_)
 . obtain ⟨_, _, _, _, _, _, _, _, _, rfl, _⟩ := h; rfl
 . obtain ⟨kd, x, S, dv, n, ts, wd, nm, t, rfl, ht, hl, Qn, Q5, DH, q⟩ := h
   unfold ZR at Qn
   have fR : ∀ (w0 x0 : Str) v H', cM n ts wd nm t = (.nm w0 x0, n, ts) -> az H H' -> Dv H' v (.tuple [.str w0, .str x0]) -> Q v H' := fun w0 x0 v H' e sm hv => by
    unfold LX at q
    rw [e] at q
    exact q v S H' sm.mv (ht.keeps sm) (fun b hb => .inl hb) hv
   refine ⟨_, (aq (Uk (pv 1) (uR (n := 3) rfl (cK (aT (i := 2) eP.nd rfl (Or.inl rfl)) (cK (aT (i := 3) eP.nd rfl (Or.inl rfl)) (cK (aT (i := 4) eP.nd rfl (Or.inl rfl)) lR)))))
    (ao (Pt (fun _ _ _ hP => (aq (bT (aJ (Kf (K := K) rfl hr.AV) (pv 2) c4 (aR _))
     (ao (aI (fc (af c4 (af (iT (lU (pv 0) T.bX T.zt G7 (hr.mono (by decide)) hP (af (pv 3) (af (pv 4) ai))) (lU (pv 0) T.aF T.sy Bm (hr.mono (by decide)) hP (af (pv 3) (af (pv 4) ai)))) ai)))))
     aQ)
     (aq (bT (aJ (Kf (K := K) rfl hr.AV) (pv 2) c4 (aR _))
      (ao (aI (fc (af c4 (af (iT (lU (pv 0) T.bX T.xg E8 (hr.mono (by decide)) hP (af (pv 3) ai)) (lU (pv 0) T.aF T.qW yU (hr.mono (by decide)) hP (af (pv 3) ai))) ai)))))
      aQ)
     (ao (aI (fc (af c4 (af (iT (lU (pv 0) T.bX T.zQ Ik (hr.mono (by decide)) hP (af (pv 4) ai)) (lU (pv 0) T.aF T.tG A3 (hr.mono (by decide)) hP (af (pv 4) ai))) ai))))))))
     aQ
     (uk.cons (i := some 5) (As rfl T.wY T.Bt) (fun ae => (ao (aI (fc (af c4 (af (CZ (K := K) rfl (pv 5) rfl) ai)))))) ⟨rfl, rfl⟩
     (uk.cons (i := some 5) (As rfl T.ve T.uw) (fun ae => (ao (aI (fc (af c4 (af (CZ (K := K) rfl (pv 5) rfl) ai)))))) ⟨rfl, rfl⟩
     (uk.cons (i := none) (As rfl T.wI T.A6) (fun ae => (ao (aI (fc (af c4 (af c4 ai)))))) trivial
     uk.nil))) eP.nd rfl rfl rfl))), ?_⟩
   refine Ji ?_
   refine Ua ?_
   refine Fi rfl ?_
   refine RA Qn (fun w1 w2 w3 f1 f2 f3 => ?_)
   obtain rfl := f1.str_inv
   obtain rfl := f2.str_inv
   obtain rfl := f3.int_inv
   unfold Y0 at Q5
   simp only [List.mem_cons, List.not_mem_nil, or_false] at Q5
   rcases Q5 with rfl | rfl | rfl
   . have fQ : nm ∉ ts.map (·.1) -> n < t -> ∀ v H1 S' H', Mv S H H1 -> Told a kd H1 x S' n (ts ++ [(nm, t)]) -> (∀ b ∈ S', b ∈ S \/ H b = none) -> az H1 H' -> Dv H' v (IP .nothing) -> Q v H' := fun jt eI v H1 S' H' mv vU hs sm hv => by
      have e : cM n ts "put" nm t = (.nothing, n, ts ++ [(nm, t)]) := by
       unfold cM
       rw [if_pos rfl, if_neg jt, if_neg (by omega)]
      unfold LX at q
      rw [e] at q
      exact q v S' H' (mv.iq sm) (vU.keeps sm) hs hv
     obtain ⟨h0, ⟨rfl, d, rfl, h1⟩ | ⟨rfl, d, m, us, G, cX, rfl, hc, h1⟩⟩ := ht
     . have hi := h1.ins
       repeat' (walk_at "rd1")
       refine Rg h0 h1 (by omega) DH (fun AY d' lM => ?_) (fun jt hle => ?_) (fun jt eI S' H' KH vU sk => ?_)
       . refine ⟨_, rfl, .inl ⟨T.nF, fun ae BJ => ?_⟩⟩
         obtain ⟨HE, e, sm, ha, N2⟩ := Bb (C := a.aH) lM BJ
         rw [e]
         repeat' (walk_at "rd1")
         refine wG ha T.qg N2 rfl ?_
         repeat' (walk_at "rd1")
         rename_i v7 H7 uL xM
         exact fR _ _ v7 H7 (by unfold cM; simp [AY]) (sm.trans uL) xM
       . refine ⟨_, rfl, .inr ⟨T.fY, .inr ⟨T.eW, .inl ⟨T.gQ, fun ae BJ => ?_⟩⟩⟩⟩
         have sm : az H (upd H ae (.ext (yT ae a.aN none))) := bw BJ
         generalize upd H ae (.ext (yT ae a.aN none)) = HE at *
         repeat' (walk_at "rd1")
         rename_i v7 H7 uL xM
         exact fR _ _ v7 H7 (by unfold cM; simp [jt, hle]) (sm.trans uL) xM
       . repeat' (walk_at "rd1")
         rename_i v7 H7 uL xM
         exact fQ jt eI v7 H' S' H7 KH vU sk uL xM
     . have hi := h1.ws.ins
       repeat' (walk_at "rd1")
       refine RP hc h1 (by omega) DH (fun AY d' lM => ?_) (fun jt hle => ?_) (fun jt eI S' H' KH vU sk => ?_)
       . refine ⟨_, rfl, .inl ⟨T.nF, fun ae BJ => ?_⟩⟩
         obtain ⟨HE, e, sm, ha, N2⟩ := Bb (C := a.aH) lM BJ
         rw [e]
         repeat' (walk_at "rd1")
         refine wG ha T.qg N2 rfl ?_
         repeat' (walk_at "rd1")
         rename_i v7 H7 uL xM
         exact fR _ _ v7 H7 (by unfold cM; simp [AY]) (sm.trans uL) xM
       . refine ⟨_, rfl, .inr ⟨T.fY, .inr ⟨T.eW, .inl ⟨T.gQ, fun ae BJ => ?_⟩⟩⟩⟩
         have sm : az H (upd H ae (.ext (yT ae a.aN none))) := bw BJ
         generalize upd H ae (.ext (yT ae a.aN none)) = HE at *
         repeat' (walk_at "rd1")
         rename_i v7 H7 uL xM
         exact fR _ _ v7 H7 (by unfold cM; simp [jt, hle]) (sm.trans uL) xM
       . repeat' (walk_at "rd1")
         rename_i v7 H7 uL xM
         exact fQ jt eI v7 H' S' H7 KH vU sk uL xM
   . have fQ : ∀ u, (nm, u) ∈ ts -> ∀ v H1 S' H', Mv S H H1 -> Told a kd H1 x S' n (fy ts nm) -> (∀ b ∈ S', b ∈ S \/ H b = none) -> az H1 H' -> Dv H' v (IP (.num u)) -> Q v H' := fun u hu v H1 S' H' mv vU hs sm hv => by
      have e : cM n ts "take" nm t = (.num u, n, fy ts nm) := by
       unfold cM
       rw [if_neg (by decide +kernel), if_pos rfl, if_pos (List.mem_map_of_mem (f := (·.1)) hu), me ht.1 hu]
      unfold LX at q
      rw [e] at q
      exact q v S' H' (mv.iq sm) (vU.keeps sm) hs hv
     obtain ⟨h0, ⟨rfl, d, rfl, h1⟩ | ⟨rfl, d, m, us, G, cX, rfl, hc, h1⟩⟩ := ht
     . have hi := h1.ins
       repeat' (walk_at "rd1")
       try any_goals (rename_i h; exact absurd (V.str.inj h) (by decide +kernel))
       refine Nu h0 h1 DH (fun jt d' lM => ?_) (fun u hu S' H' KH vU sk => ?_)
       . refine ⟨_, rfl, .inr ⟨T.kX, .inl ⟨T.j2, fun ae BJ => ?_⟩⟩⟩
         obtain ⟨HE, e, sm, ha, N2⟩ := Bb (C := a.aA) lM BJ
         rw [e]
         repeat' (walk_at "rd1")
         refine wG ha T.lG N2 rfl ?_
         repeat' (walk_at "rd1")
         rename_i v7 H7 uL xM
         exact fR _ _ v7 H7 (by unfold cM; rw [if_neg (by decide +kernel), if_pos rfl, if_neg jt]) (sm.trans uL) xM
       . repeat' (walk_at "rd1")
         rename_i v7 H7 uL xM
         exact fQ u hu v7 H' S' H7 KH vU sk uL xM
     . have hi := h1.ws.ins
       repeat' (walk_at "rd1")
       try any_goals (rename_i h; exact absurd (V.str.inj h) (by decide +kernel))
       refine Ot hc h1 (by omega) DH (fun jt d' lM => ?_) (fun u hu S' H' KH vU sk => ?_)
       . refine ⟨_, rfl, .inr ⟨T.kX, .inl ⟨T.j2, fun ae BJ => ?_⟩⟩⟩
         obtain ⟨HE, e, sm, ha, N2⟩ := Bb (C := a.aA) lM BJ
         rw [e]
         repeat' (walk_at "rd1")
         refine wG ha T.lG N2 rfl ?_
         repeat' (walk_at "rd1")
         rename_i v7 H7 uL xM
         exact fR _ _ v7 H7 (by unfold cM; rw [if_neg (by decide +kernel), if_pos rfl, if_neg jt]) (sm.trans uL) xM
       . repeat' (walk_at "rd1")
         rename_i v7 H7 uL xM
         exact fQ u hu v7 H' S' H7 KH vU sk uL xM
   . have fQ : n <= t -> ∀ S' H1 (l : Addr) ks, Mv S H H1 -> Told a kd H1 x S' t (ts.filter fun y => decide (t < y.2)) -> (∀ b ∈ S', b ∈ S \/ H b = none) -> H l = none -> l ∉ S' -> ks.Perm ((ts.filter fun y => decide (y.2 <= t)).map C1) -> MX ks -> dJ H1 l (ks.map pairD) -> Li [.str "told", .ref l] H1 Q := fun hle S' H1 l ks mv vU hs IU yK hp qe QU => by
      have e : cM n ts "due" nm t = (.pairs (v9 ts t), t, ts.filter fun y => decide (t < y.2)) := by
       unfold cM
       rw [if_neg (by decide +kernel), if_neg (by decide +kernel), if_neg (by omega)]
      unfold LX at q
      rw [e] at q
      obtain rfl := mw (hp.trans (wg ts t).1.symm) qe (wg ts t).2
      refine RK (ds := [.str "told", .list ((v9 ts t).map pairD)]) (Cm rfl) (.cons (.str _) (.cons QU.dv .nil)) (fun p H2 sm uG Oi => ?_)
      exact q _ S' H2 (mv.iq sm) (vU.keeps sm) hs ⟨p, l, rfl, Oi, QU.keeps sm, yK, IU⟩
     obtain ⟨h0, ⟨rfl, d, rfl, h1⟩ | ⟨rfl, d, m, us, G, cX, rfl, hc, h1⟩⟩ := ht
     . have hi := h1.ins
       repeat' (walk_at "rd1")
       try any_goals (rename_i h; exact absurd (V.str.inj h) (by decide +kernel))
       refine RL h0 h1 hl (fun eI => ?_) (fun hle S' H' l ks KH vU sk IU yK hp qe QU => ?_)
       . refine ⟨_, rfl, .inr ⟨T.fY, .inr ⟨T.eW, .inl ⟨T.gQ, fun ae BJ => ?_⟩⟩⟩⟩
         have sm : az H (upd H ae (.ext (yT ae a.aN none))) := bw BJ
         generalize upd H ae (.ext (yT ae a.aN none)) = HE at *
         repeat' (walk_at "rd1")
         rename_i v7 H7 uL xM
         exact fR _ _ v7 H7 (by unfold cM; rw [if_neg (by decide +kernel), if_neg (by decide +kernel), if_pos eI]) (sm.trans uL) xM
       . have hh := Hid.mk QU
         clear QU
         repeat' (walk_at "rd1")
         exact fQ hle S' H' l ks KH vU sk IU yK hp qe hh.h
     . have hi := h1.ws.ins
       repeat' (walk_at "rd1")
       try any_goals (rename_i h; exact absurd (V.str.inj h) (by decide +kernel))
       refine UH hc h1 hl (fun eI => ?_) (fun hle S' H' l ks KH vU sk IU yK hp qe QU => ?_)
       . refine ⟨_, rfl, .inr ⟨T.fY, .inr ⟨T.eW, .inl ⟨T.gQ, fun ae BJ => ?_⟩⟩⟩⟩
         have sm : az H (upd H ae (.ext (yT ae a.aN none))) := bw BJ
         generalize upd H ae (.ext (yT ae a.aN none)) = HE at *
         repeat' (walk_at "rd1")
         rename_i v7 H7 uL xM
         exact fR _ _ v7 H7 (by unfold cM; rw [if_neg (by decide +kernel), if_neg (by decide +kernel), if_pos eI]) (sm.trans uL) xM
       . have hh := Hid.mk QU
         clear QU
         repeat' (walk_at "rd1")
         exact fQ hle S' H' l ks KH vU sk IU yK hp qe hh.h
theorem Hi (T : Txt K mg a) : gk P w K mg base 9 a.cZ ["_law_told", "_law_deed_here"] [] (CG a) :=
 ⟨⟨_, _, JX T, T.mh.binds fun _ _ _ _ _ _ => .all fun us hl => match us, hl with | [_, _], _ => rfl, .nil⟩⟩
theorem Js {H : Hp} {Q : VK} {E : XK} {v : V} {d : PyData} (h : Dv H v d) (q : Q (.bl (isInt d && !isBool d)) H) : lu [v] H Q E := ⟨v, d, rfl, h, q⟩
theorem Iy (T : Txt K mg a) : a7 P w K mg base kj 1 a.cR a.rA ["_law_found"] lu := by
 refine T.lT.ok yR (fun vs H Q E h => ?_) (fun dB A outer s H vs Q E hr h => ?_)
 . obtain ⟨_, _, rfl, _⟩ := h; rfl
 . obtain ⟨v, d, rfl, hd, k⟩ := h
   refine ⟨_, (ao (aI (DY (aZ fL rfl T.aV PyProof.Rows.boot_isinstance (af (pv 0) (af (mJ (v := .ty "int") rfl T.xN PyProof.Rows.boot_int rfl) ai))) (Ew (Je (aZ fL rfl T.aV PyProof.Rows.boot_isinstance (af (pv 0) (af (mJ (v := .ty "bool") rfl T.sO PyProof.Rows.boot_bool rfl) ai)))))))), ?_⟩
   repeat' (walk_at "rd1")
   . refine Oa ?_; cases d <;> simp_all [isInt, isBool]
   . refine Oa ?_; cases d <;> simp_all [isInt, isBool]
theorem EC (T : Txt K mg a) : gk P w K mg base 1 a.cR ["_law_found"] [] lu :=
 ⟨⟨_, _, Iy T, T.lT.binds fun _ _ _ _ _ _ => .all fun us hl => match us, hl with | [_], _ => rfl, .nil⟩⟩
theorem Sy {ks : List (Int × Str)} (hs : MX ks) (hn : (ks.map (·.2)).Nodup) {j : Nat} {k k' : Int × Str} (h : ks[j]? = some k) (h' : ks[j + 1]? = some k') : aS k k' = true := by
 obtain ⟨h1, e1⟩ := List.getElem?_eq_some_iff.mp h
 obtain ⟨h2, e2⟩ := List.getElem?_eq_some_iff.mp h'
 have a1 := List.pairwise_iff_getElem.mp hs j (j + 1) h1 h2 (by omega)
 rw [List.Nodup, List.pairwise_map] at hn
 have a2 := List.pairwise_iff_getElem.mp hn j (j + 1) h1 h2 (by omega)
 rw [e1, e2] at a1 a2
 cases c : aS k k' with
 | true => rfl
 | false => exact absurd (congrArg Prod.snd (x9 c a1)) a2
def Ac : Sp := fun vs H Q _ => ∃ (v : V) (ks : List (Int × Str)), vs = [v] /\ Dv H v (.list (ks.map pairD)) /\ MX ks /\ (ks.map (·.2)).Nodup /\ ks.length < 60 /\ Q (.bl true) H
theorem IA (T : Txt K mg a) : a7 P w K mg base kj 2 a.cu a.pX ["_law_found"] Ac := by
 have AF := EC (P := P) (w := w) (base := base) T
 refine T.kc.ok oz (fun vs H Q E h => ?_) (fun dB A outer s H vs Q E hr h => ?_)
 . obtain ⟨_, _, rfl, _⟩ := h; rfl
 . obtain ⟨v, ks, rfl, hv, hs, hn, hl, q⟩ := h
   refine ⟨_, (aq (bT (ic (dG (aZ fL rfl T.aV PyProof.Rows.boot_isinstance (af (pv 0) (af (mJ (v := .ty "list") rfl T.qf PyProof.Rows.boot_list rfl) ai))) (fun _ => rfl)))
    (ao (aI rp))
    aQ)
    (aq (gC PassesOwn.never rfl (lJ rfl T.gU (af (aZ eE rfl T.hZ PySem.boot_len (af (pv 0) ai)) ai)) (aT (i := 1) oz.nd rfl (Or.inl rfl))
     (aq (bT (PW.pt (yf (ic (dG (aZ fL rfl T.aV PyProof.Rows.boot_isinstance (af (aW cL (pv 0) (pv 1) (fun _ _ => rfl)) (af (mJ (v := .ty "tuple") rfl T.t5 PyProof.Rows.boot_tuple rfl) ai))) (fun _ => rfl))) (uS (aJ (om hr.AV) (aZ eE rfl T.hZ PySem.boot_len (af (aW cL (pv 0) (pv 1) (fun _ _ => rfl)) ai)) aj (aR _)))))
      (ao (aI rp))
      aQ)
     (ao (bT (PW.pt (yf (ic (dG (bx AF (hr.mono (by decide)) rfl T.rh T.qM (af (aW cL (aW cL (pv 0) (pv 1) (fun _ _ => rfl)) aj (fun _ _ => rfl)) ai)) (fun _ => rfl))) (uS (PW.pt (rX (aJ B8 (pv 1) aj (aR _)) (sW (ic (aJ (RT (Nat.lt_of_succ_lt (gm hr))) (aW cL (pv 0) (ay yw (pv 1) aj) (fun _ _ => rfl)) (aW cL (pv 0) (pv 1) (fun _ _ => rfl)) (aR _)))))))))
      (ao (aI rp))
      aQ))))
    (ao (aI rp)))), ?_⟩
   repeat' (walk_at "rd1")
   refine uK (fun j σ' H' => H' = H /\ ∃ z, σ' = [some v, z]) ⟨rfl, _, rfl⟩ ?_ ?_
   . rintro j σ' H' hj ⟨rfl, z, rfl⟩
     rw [Int.zero_add]
     rw [Int.toNat_natCast] at hj
     repeat' (walk_at "rd1")
     . rename_i hb
       cases hb
     refine Js (.int _) ?_
     repeat' (walk_at "rd1")
     . rename_i hb v1 XU v2 Vb
       have e : aS (ks.getD ((j : Int) - 1).toNat default) (ks.getD (j : Int).toNat default) = true := by
        have h1 : ((j : Int) - 1).toNat < ks.length := by omega
        have h2 : (j : Int).toNat < ks.length := by omega
        rw [List.getD_eq_getElem?_getD, List.getD_eq_getElem?_getD, List.getElem?_eq_getElem h1, List.getElem?_eq_getElem h2]
        refine Sy hs hn (j := ((j : Int) - 1).toNat) (List.getElem?_eq_getElem h1) ?_
        rw [show ((j : Int) - 1).toNat + 1 = (j : Int).toNat by omega]
        exact List.getElem?_eq_getElem h2
       refine Xj XU Vb ?_
       rw [e]
       repeat' (walk_at "rd1")
       exact ⟨rfl, _, rfl⟩
     . exact ⟨rfl, _, rfl⟩
   . rintro σ' H' ⟨rfl, z, rfl⟩
     repeat' (walk_at "rd1")
     exact q
theorem yj (T : Txt K mg a) : gk P w K mg base 2 a.cu ["_law_found"] [] Ac :=
 ⟨⟨_, _, IA T, T.kc.binds fun _ _ _ _ _ _ => .all fun us hl => match us, hl with | [_], _ => rfl, .nil⟩⟩
def zf (a : Ad) : Sp := fun vs H Q _ => ∃ (x d y d' m : Addr) (n : Int) (ts cX : List (Str × Int)) (us : List (Int × Int)) (G : dU), vs = [.ref x, .ref y] /\ n9 a.aL H x d n ts [] /\ yM a.ag a.ak H y d' m n us G ts cX /\ ts.length < 60 /\ (∀ z ∈ ts, nY z.1) /\ ∀ H', az H H' -> Q (.bl true) H'
theorem Hk (T : Txt K mg a) : a7 P w K mg base kj 3 a.bh a.jR ["_law_one", "_law_other"] (zf a) := by
 have n1 := T.bq; have n2 := T.dw; have cl1 := T.aF; have cl2 := T.bX
 have fJ := mB (P := P) (w := w) (base := base) T T.Ez
 have dA := mB (P := P) (w := w) (base := base) T T.mq
 have vL := xO (P := P) (w := w) (base := base) T T.Ez
 have oA := xO (P := P) (w := w) (base := base) T T.mq
 have qG := vp (P := P) (w := w) (base := base) T T.Ez
 have kI := vp (P := P) (w := w) (base := base) T T.mq
 have kr := yj (P := P) (w := w) (base := base) T
 refine T.gx.ok dP (fun vs H Q E h => ?_) (fun dB A outer s H vs Q E hr h => ?_)
 . obtain ⟨_, _, _, _, _, _, _, _, _, _, rfl, _⟩ := h; rfl
 . obtain ⟨x, d, y, d', m, n, ts, cX, us, G, rfl, hx, hy, hl, DH, q⟩ := h
   refine ⟨_, (aq (aC (i := 2) dP.nd rfl (Or.inl rfl) (iT (dD (pv 0) T.bX T.fG fJ (hr.mono (by decide))) (dD (pv 0) T.aF T.dC dA (hr.mono (by decide)))))
    (gZ (bT (PW.pt (yf (aJ (om hr.AV) (aD (pv 0) rfl) (aD (pv 1) rfl) (aR _)) (yf (aJ (om hr.AV) (iT (dD (pv 0) T.bX T.px vL (hr.mono (by decide))) (dD (pv 0) T.aF T.jg oA (hr.mono (by decide)))) (iT (dD (pv 1) T.bX T.px vL (hr.mono (by decide))) (dD (pv 1) T.aF T.jg oA (hr.mono (by decide)))) (aR _)) (uS (aJ (om hr.AV) (pv 2) (iT (dD (pv 1) T.bX T.fG fJ (hr.mono (by decide))) (dD (pv 1) T.aF T.dC dA (hr.mono (by decide)))) (aR _))))))
     (ao (aI rp))
     aQ)
    (aq (gC PassesOwn.never rfl (gP (pv 2)) (uR (n := 2) rfl (cK (aT (i := 3) dP.nd rfl (Or.inl rfl)) (cK (aT (i := 4) dP.nd rfl (Or.inl rfl)) lR)))
     (ao (bT (aJ (om hr.AV) (iT (bH (pv 0) T.bX T.kn qG (hr.mono (by decide)) (af (pv 4) ai)) (bH (pv 0) T.aF T.gJ kI (hr.mono (by decide)) (af (pv 4) ai))) (iT (bH (pv 1) T.bX T.kn qG (hr.mono (by decide)) (af (pv 4) ai)) (bH (pv 1) T.aF T.gJ kI (hr.mono (by decide)) (af (pv 4) ai))) (aR _))
      (ao (aI rp))
      aQ)))
    (ao (aI (bx kr (hr.mono (by decide)) rfl T.jl T.iM (af (iT (dD (pv 1) T.bX T.fG fJ (hr.mono (by decide))) (dD (pv 1) T.aF T.dC dA (hr.mono (by decide)))) ai))))))), ?_⟩
   have hix := hx.ins
   repeat' (walk_at "rd1")
   refine ⟨x, d, n, ts, [], rfl, hx, hl, fun q1 H1 ks js lQ Ap Nh rS => ?_⟩
   have Qw : ks.length = ts.length := by rw [Ap.length_eq, List.length_map]
   have JO : ∀ k ∈ ks, nY k.2 /\ (k.2, k.1) ∈ ts := fun k hk => by
    obtain ⟨z, hz, rfl⟩ := List.mem_map.mp (Ap.mem_iff.mp hk)
    exact ⟨DH z hz, hz⟩
   have B3 : (ks.map (·.2)).Nodup := by
    refine (Ap.map (·.2)).nodup_iff.mpr ?_
    rw [List.map_map]
    exact hy.nd
   repeat' (walk_at "rd1")
   refine o7 (fun σ' H' => az H1 H' /\ σ' = [some (.ref x), some (.ref y), some (.ref q1), none, none]) ?_ ?_
   . have MS := hx.keeps js
     have QQ := hy.keeps js
     have adC := MS.ins
     have adJ := QQ.ws.ins
     have fin : ∀ q3 H3 M4, az H1 H3 -> M4.Perm (ts.map C1) -> MX M4 -> dJ H3 q3 (M4.map pairD) -> M4 = ks := fun q3 H3 M4 sm hp hs hq => mw (hp.trans Ap.symm) hs Nh
     repeat' (walk_at "rd1")
     refine ⟨x, d, n, ts, [], rfl, MS, fun e => ?_, fun t Xx IC => ?_⟩
     . repeat' (walk_at "rd1")
       refine ⟨y, d', n, ts, _, rfl, QQ.wt, fun _ => ?_, fun t ht => absurd ht (by rw [e]; exact List.not_mem_nil)⟩
       repeat' (walk_at "rd1")
       refine ⟨y, d', n, ts, _, rfl, QQ.wt, hl, fun q3 H3 M4 sm3 DC RY VE CB => ?_⟩
       obtain rfl := fin q3 H3 M4 sm3 RY VE CB
       repeat' (walk_at "rd1")
       refine Kw (rS.keeps sm3).dv CB.dv (fun k hk => (JO k hk).1) ?_
       repeat' (walk_at "rd1")
       exact ⟨sm3, rfl⟩
     . repeat' (walk_at "rd1")
       refine ⟨y, d', n, ts, _, rfl, QQ.wt, fun e => absurd Xx (by rw [e]; exact List.not_mem_nil), fun t' abB Pu => ?_⟩
       have e : t = t' := Int.le_antisymm (IC t' abB) (Pu t Xx)
       subst e
       repeat' (walk_at "rd1")
       refine ⟨y, d', n, ts, _, rfl, QQ.wt, hl, fun q3 H3 M4 sm3 DC RY VE CB => ?_⟩
       obtain rfl := fin q3 H3 M4 sm3 RY VE CB
       repeat' (walk_at "rd1")
       refine Kw (rS.keeps sm3).dv CB.dv (fun k hk => (JO k hk).1) ?_
       repeat' (walk_at "rd1")
       exact ⟨sm3, rfl⟩
   rintro σ' H2 ⟨fA, rfl⟩
   have zp := rS.keeps fA
   repeat' (walk_at "rd1")
   refine yy (Hb := H2) (cs := ks) (gd := pairD) zp.dv (fun j σ' H' => H' = H2 /\ ∃ z4 z5, σ' = [some (.ref x), some (.ref y), some (.ref q1), z4, z5]) ⟨rfl, _, _, rfl⟩ (fun i σ' H' _ ⟨e, _⟩ a' xs _ hx => by rw [e]; exact hx) ?_ ?_
   . rintro j k v σ' H3 hk ⟨rfl, z4, z5, rfl⟩ Kv _
     have hd : Dv H3 v (.tuple [.int k.1, .str k.2]) := Kv rfl (Mv.refl (S := [])).tp
     refine wU hd (fun w1 w2 f1 f2 => ?_)
     obtain rfl := f1.int_inv
     obtain rfl := f2.str_inv
     obtain ⟨_, hkt⟩ := JO k (List.mem_of_getElem? hk)
     have Tt := hx.keeps (js.trans fA)
     have Rz := hy.keeps (js.trans fA)
     have afq := Tt.ins
     have aaz := Rz.ws.ins
     repeat' (walk_at "rd1")
     refine ⟨x, d, n, ts, [], _, rfl, Tt, fun t ht => ?_, fun h => absurd (List.mem_map_of_mem (f := (·.1)) hkt) h⟩
     repeat' (walk_at "rd1")
     refine ⟨y, d', n, ts, _, _, rfl, Rz.wt, fun t' vU => ?_, fun h => absurd (List.mem_map_of_mem (f := (·.1)) hkt) h⟩
     obtain rfl := il hy.nd ht vU
     repeat' (walk_at "rd1")
     exact ⟨rfl, _, _, rfl⟩
   rintro σ' H3 ⟨rfl, z4, z5, rfl⟩
   have Rz := hy.keeps (js.trans fA)
   have aaz := Rz.ws.ins
   repeat' (walk_at "rd1")
   refine ⟨y, d', n, ts, _, rfl, Rz.wt, hl, fun q3 H3 M4 sm3 DC RY VE CB => ?_⟩
   obtain rfl := mw (RY.trans Ap.symm) VE Nh
   repeat' (walk_at "rd1")
   refine ⟨_, _, rfl, CB.dv, VE, B3, by omega, ?_⟩
   repeat' (walk_at "rd1")
   exact q _ ((js.trans fA).trans sm3)
theorem E5 (T : Txt K mg a) : gk P w K mg base 3 a.bh ["_law_one", "_law_other"] [] (zf a) :=
 ⟨⟨_, _, Hk T, T.gx.binds fun _ _ _ _ _ _ => .all fun us hl => match us, hl with | [_, _], _ => rfl, .nil⟩⟩
local macro_rules | `(tactic| walk_at "rd1") => `(tactic| first
 | with_reducible refine R0 ?_
 | ((with_reducible refine' PJ ?e1 (fun _ _ _ _ _ => ?_)); (case e1 => exact Cm rfl))
 | fail)
structure Pl where
 kd : Bool
 x : Addr
 S : List Addr
structure IM (a : Ad) (Hd H : Hp) (L0 L : List Pl) (i : Nat) (n : Int) (ts : List (Str × Int)) (r : Ar × Int × List (Str × Int)) (acc : List V) : Prop where
 ky : L.map (fun e => (e.kd, e.x)) = L0.map (fun e => (e.kd, e.x))
 ap : ∀ (j k : Nat) (e f : Pl), j ≠ k -> L[j]? = some e -> L[k]? = some f -> ∀ b ∈ e.S, b ∉ f.S
 old : ∀ (j : Nat) (e : Pl), i <= j -> L[j]? = some e -> Told a e.kd H e.x e.S n ts
 new : ∀ (j : Nat) (e : Pl), j < i -> L[j]? = some e -> Told a e.kd H e.x e.S r.2.1 r.2.2
 len : acc.length = i
 VZ : ∀ v ∈ acc, Cv Hd H v (fun l => ∀ (j : Nat) (e : Pl), L[j]? = some e -> l ∉ e.S) r.1
 mv : Mv (L0.flatMap Pl.S) Hd H
 ft : ∀ (j : Nat) (e : Pl), L[j]? = some e -> ∀ b ∈ e.S, b ∈ L0.flatMap Pl.S \/ Hd b = none
theorem Cv.weak {Hb Hb' H H' : Hp} {v : V} {N N' : Addr -> Prop} {S : List Addr} (mv : Mv S H H') (h2 : ∀ l, Hb l = none -> Hb' l = none) : ∀ {r : Ar}, (∀ l, H l ≠ none -> Hb l = none -> N l -> N' l /\ l ∉ S) -> Cv Hb H v N r -> Cv Hb' H' v N' r
 | .pairs ks, h1, ⟨p, l, e, hp, hl, hn, hb⟩ => by
   have yZ : H l ≠ none := fun z => by
    obtain ⟨_, e, _⟩ := hl
    rw [z] at e; cases e
   obtain ⟨a1, a2⟩ := h1 l yZ hb hn
   exact ⟨p, l, e, mv.tp _ _ hp, hl.mv mv a2, a1, h2 l hb⟩
 | .nothing, _, h => mv.dat rfl h
 | .num _, _, h => mv.dat rfl h
 | .nm _ _, _, h => mv.dat rfl h
theorem Cv.dv {Hb H : Hp} {v : V} {N : Addr -> Prop} : ∀ {r : Ar}, Cv Hb H v N r -> Dv H v (IP r)
 | .pairs ks, ⟨p, l, e, hp, hl, _, _⟩ => by
   rw [e]
   exact .tup hp (.cons (.str _) (.cons hl.dv .nil))
 | .nothing, h => h
 | .num _, h => h
 | .nm _ _, h => h
section
variable {Hd H H' : Hp} {L0 L : List Pl} {i : Nat} {n : Int} {ts : List (Str × Int)} {r : Ar × Int × List (Str × Int)} {acc : List V} {e : Pl} {v : V} {S' : List Addr}
theorem IM.told (h : IM a Hd H L0 L i n ts r acc) {j : Nat} {e : Pl} (he : L[j]? = some e) : ∃ n ts, Told a e.kd H e.x e.S n ts := by
 by_cases c : j < i
 . exact ⟨_, _, h.new j e c he⟩
 . exact ⟨_, _, h.old j e (by omega) he⟩
theorem IM.alive (h : IM a Hd H L0 L i n ts r acc) {j : Nat} {e : Pl} (he : L[j]? = some e) : ∀ b ∈ e.S, H b ≠ none := by
 obtain ⟨n, ts, ht⟩ := h.told he
 exact ht.alive
theorem IM.keeps (sm : az H H') (h : IM a Hd H L0 L i n ts r acc) : IM a Hd H' L0 L i n ts r acc :=
 ⟨h.ky, h.ap, fun j e hj he => (h.old j e hj he).keeps sm, fun j e hj he => (h.new j e hj he).keeps sm, h.len, fun v hv => (h.VZ v hv).weak (sm.mv (S := [])) (fun _ z => z) fun l _ _ hn => ⟨hn, List.not_mem_nil⟩, h.mv.iq sm, h.ft⟩
theorem IM.step (h : IM a Hd H L0 L i n ts r acc) (he : L[i]? = some e) (mv : Mv e.S H H') (ht : Told a e.kd H' e.x S' r.2.1 r.2.2) (hs : ∀ b ∈ S', b ∈ e.S \/ H b = none) (hv : Cv H H' v (· ∉ S') r.1) :
 IM a Hd H' L0 (L.set i ⟨e.kd, e.x, S'⟩) (i + 1) n ts r (acc ++ [v]) := by
 have hi : i < L.length := (List.getElem?_eq_some_iff.mp he).1
 have yJ : ∀ j f, (L.set i ⟨e.kd, e.x, S'⟩)[j]? = some f -> (j = i /\ f = ⟨e.kd, e.x, S'⟩) \/ (j ≠ i /\ L[j]? = some f) := fun j f hf => by
  rw [List.getElem?_set] at hf
  split at hf
  . rename_i c
    exact .inl ⟨c.symm, (Option.some.inj hf).symm⟩
  . rename_i c
    exact .inr ⟨fun z => c z.symm, hf⟩
 have XW : ∀ j f, j ≠ i -> L[j]? = some f -> ∀ b ∈ f.S, b ∉ S' := fun j f hj hf b hb yl => by
  rcases hs b yl with z | z
  . exact h.ap j i f e hj hf he b hb z
  . exact h.alive hf b hb z
 have AY : ∀ b ∈ e.S, b ∈ L0.flatMap Pl.S \/ Hd b = none := h.ft i e he
 refine ⟨?_, fun j k f g DJ hf hg b hb => ?_, fun j f hj hf => ?_, fun j f hj hf => ?_, by rw [List.length_append, h.len]; rfl, fun u hu => ?_, Mv.step h.mv mv AY, fun j f hf b hb => ?_⟩
 . rw [<- h.ky, List.map_set]
   refine List.ext_getElem? fun j => ?_
   rw [List.getElem?_set]
   split
   . rename_i c
     subst c
     rw [if_pos (by simpa using hi), List.getElem?_map, he]; rfl
   . rfl
 . rcases yJ j f hf with ⟨rfl, rfl⟩ | ⟨hj, Xl⟩
   . rcases yJ k g hg with ⟨rfl, _⟩ | ⟨hk, BO⟩
     . exact absurd rfl DJ
     . exact fun z => XW k g hk BO b z hb
   . rcases yJ k g hg with ⟨rfl, rfl⟩ | ⟨hk, BO⟩
     . exact XW j f hj Xl b hb
     . exact h.ap j k f g DJ Xl BO b hb
 . rcases yJ j f hf with ⟨rfl, _⟩ | ⟨Pb, hf⟩
   . omega
   . exact (h.old j f (by omega) hf).mv mv fun b hb => h.ap j i f e Pb hf he b hb
 . rcases yJ j f hf with ⟨rfl, rfl⟩ | ⟨Pb, hf⟩
   . exact ht
   . exact (h.new j f (by omega) hf).mv mv fun b hb => h.ap j i f e Pb hf he b hb
 . rcases List.mem_append.mp hu with hu | hu
   . refine (h.VZ u hu).weak mv (fun _ z => z) fun l yZ _ hn => ⟨fun j f hf => ?_, hn i e he⟩
     rcases yJ j f hf with ⟨rfl, rfl⟩ | ⟨Pb, hf⟩
     . exact fun z => (hs l z).elim (hn j e he) yZ
     . exact hn j f hf
   . rw [List.mem_singleton.mp hu]
     refine hv.weak (Mv.refl (S := [])) (fun l hl => h.mv.none hl) fun l _ hl hn => ⟨fun j f hf => ?_, List.not_mem_nil⟩
     rcases yJ j f hf with ⟨rfl, rfl⟩ | ⟨Pb, hf⟩
     . exact hn
     . exact fun z => h.alive hf l z hl
 . rcases yJ j f hf with ⟨rfl, rfl⟩ | ⟨Pb, hf⟩
   . rcases hs b hb with z | z
     . exact AY b z
     . exact .inr (h.mv.none z)
   . exact h.ft j f hf b hb
end
theorem N4 {n B t : Int} {ts : List (Str × Int)} {wd nm : Str} {k : Nat} (h0 : 0 <= n) (hn : n <= B) (DB : ∀ y ∈ ts, nY y.1 /\ y.2 <= B) (hl : ts.length <= k) (DH : nY nm) (ht : t <= B + 10 ^ 38) :
 0 <= (cM n ts wd nm t).2.1 /\ (cM n ts wd nm t).2.1 <= B + 10 ^ 38 /\ (∀ y ∈ (cM n ts wd nm t).2.2, nY y.1 /\ y.2 <= B + 10 ^ 38) /\ (cM n ts wd nm t).2.2.length <= k + 1 := by
 have EI : ∀ y ∈ ts, nY y.1 /\ y.2 <= B + 10 ^ 38 := fun y hy => ⟨(DB y hy).1, by have := (DB y hy).2; omega⟩
 unfold cM
 split
 . split
   . exact ⟨h0, by show n <= _; omega, EI, by show ts.length <= _; omega⟩
   . split
     . exact ⟨h0, by show n <= _; omega, EI, by show ts.length <= _; omega⟩
     . refine ⟨h0, by show n <= _; omega, fun y hy => ?_, by show (ts ++ [(nm, t)]).length <= _; rw [List.length_append]; simpa using hl⟩
       rcases List.mem_append.mp hy with hy | hy
       . exact EI y hy
       . rw [List.mem_singleton.mp hy]; exact ⟨DH, ht⟩
 . split
   . split
     . refine ⟨h0, by show n <= _; omega, fun y hy => EI y (cD.mp hy).1, ?_⟩
       have := List.length_filter_le (fun z : Str × Int => !decide (z.1 = nm)) ts
       show (ts.filter _).length <= _
       omega
     . exact ⟨h0, by show n <= _; omega, EI, by show ts.length <= _; omega⟩
   . split
     . exact ⟨h0, by show n <= _; omega, EI, by show ts.length <= _; omega⟩
     . refine ⟨by show 0 <= t; omega, ht, fun y hy => EI y (List.mem_filter.mp hy).1, ?_⟩
       have := List.length_filter_le (fun y : Str × Int => decide (t < y.2)) ts
       show (ts.filter _).length <= _
       omega
theorem VV {n t : Int} {ts : List (Str × Int)} {wd nm : Str} (DB : ∀ y ∈ ts, nY y.1) (DH : nY nm) : (IP (cM n ts wd nm t).1).canLay0 = true /\ (IP (cM n ts wd nm t).1).depth <= 8 := by
 have h1 := Kh DH
 have hd : ∀ s : Str, (PyData.tuple [.str "told", .str s]).depth <= 8 := fun s => by simp [PyData.depth, PyData.depthAll]
 have hs : ∀ w x : Str, PyData.canLay0 (.str w) = true -> PyData.canLay0 (.str x) = true -> (IP (.nm w x)).canLay0 = true /\ (IP (.nm w x)).depth <= 8 := fun w x h1 h2 => by
  refine ⟨?_, by simp [IP, PyData.depth, PyData.depthAll]⟩
  show (PyData.canLay0 (.str w) && (PyData.canLay0 (.str x) && true)) = true
  rw [h1, h2]; rfl
 unfold cM
 split
 . split
   . exact hs _ _ (by decide +kernel) h1
   . split
     . exact hs _ _ (by decide +kernel) (by decide +kernel)
     . exact ⟨by show (PyData.canLay0 (.str "told") && (true && true)) = true; decide +kernel, by simp [IP, PyData.depth, PyData.depthAll]⟩
 . split
   . split
     . exact ⟨by show (PyData.canLay0 (.str "told") && (true && true)) = true; decide +kernel, by simp [IP, PyData.depth, PyData.depthAll]⟩
     . exact hs _ _ (by decide +kernel) h1
   . split
     . exact hs _ _ (by decide +kernel) (by decide +kernel)
     . have hk : ∀ k ∈ v9 ts t, nY k.2 := fun k hk => by
        obtain ⟨y, hy, rfl⟩ := List.mem_map.mp ((wg ts t).1.mem_iff.mp hk)
        exact DB y (List.mem_filter.mp hy).1
       refine ⟨?_, ?_⟩
       . show (PyData.canLay0 (.str "told") && (PyData.canLayAll0 ((v9 ts t).map pairD) && true)) = true
         rw [EK hk]; decide +kernel
       . have := DM (ks := v9 ts t)
         simp only [IP, PyData.depth, PyData.depthAll]
         omega
structure HZ (a : Ad) (Hb H : Hp) (n : Int) (ts : List (Str × Int)) (ql x y1 y2 : Addr) (L : List Pl) : Prop where
 ky : L.map (fun e => (e.kd, e.x)) = [(true, x), (false, y1), (false, y2)]
 ap : ∀ (j k : Nat) (e f : Pl), j ≠ k -> L[j]? = some e -> L[k]? = some f -> ∀ b ∈ e.S, b ∉ f.S
 tl : ∀ e ∈ L, Told a e.kd H e.x e.S n ts
 ft : ∀ e ∈ L, ∀ b ∈ e.S, Hb b = none /\ b ≠ ql
 sm : az Hb H
 ls : H ql = some (.lst [.ref x, .ref y1, .ref y2])
 qn : Hb ql = none
theorem HZ.keeps {Hb H H' : Hp} {n : Int} {ts : List (Str × Int)} {ql x y1 y2 : Addr} {L : List Pl} (sm : az H H') (h : HZ a Hb H n ts ql x y1 y2 L) : HZ a Hb H' n ts ql x y1 y2 L := ⟨h.ky, h.ap, fun e he => (h.tl e he).keeps sm, h.ft, h.sm.trans sm, sm _ _ h.ls, h.qn⟩
theorem HZ.three {Hb H : Hp} {n : Int} {ts : List (Str × Int)} {ql x y1 y2 : Addr} {L : List Pl} (h : HZ a Hb H n ts ql x y1 y2 L) : ∃ S0 S1 S2, L = [⟨true, x, S0⟩, ⟨false, y1, S1⟩, ⟨false, y2, S2⟩] := by
 match L, h.ky with
 | [⟨k0, x0, S0⟩, ⟨k1, x1, S1⟩, ⟨k2, x2, S2⟩], e =>
   simp only [List.map_cons, List.map_nil, List.cons.injEq, Prod.mk.injEq, and_true] at e
   obtain ⟨⟨rfl, rfl⟩, ⟨rfl, rfl⟩, rfl, rfl⟩ := e
   exact ⟨S0, S1, S2, rfl⟩
theorem HZ.row {Hb H : Hp} {n : Int} {ts : List (Str × Int)} {ql x y1 y2 : Addr} {L : List Pl} (h : HZ a Hb H n ts ql x y1 y2 L) : ∃ d, n9 a.aL H x d n ts [] := by
 obtain ⟨S0, S1, S2, rfl⟩ := h.three
 obtain ⟨_, ⟨_, d, _, h1⟩ | ⟨z, _⟩⟩ := h.tl _ List.mem_cons_self
 . exact ⟨d, h1⟩
 . cases z
theorem HZ.whl {Hb H : Hp} {n : Int} {ts : List (Str × Int)} {ql x y1 y2 y : Addr} {L : List Pl} (h : HZ a Hb H n ts ql x y1 y2 L) (hy : y = y1 \/ y = y2) : ∃ d m us G cX, yM a.ag a.ak H y d m n us G ts cX := by
 obtain ⟨S0, S1, S2, rfl⟩ := h.three
 have go : ∀ S, Told a false H y S n ts -> ∃ d m us G cX, yM a.ag a.ak H y d m n us G ts cX := fun S ht => by
  obtain ⟨_, ⟨z, _⟩ | ⟨_, d, m, us, G, cX, _, _, h1⟩⟩ := ht
  . cases z
  . exact ⟨d, m, us, G, cX, h1⟩
 rcases hy with rfl | rfl
 . exact go S1 (h.tl ⟨false, y, S1⟩ (by simp))
 . exact go S2 (h.tl ⟨false, y, S2⟩ (by simp))
theorem Jv {X : Cx} {k : Nat} {f C : Addr} {ps : List Str} {sp : Sp} {bJ : List V} {x : Str} {p pos : Pos} (M : Mk X.K C f) (F : gk X.prog X.w X.K X.mg X.base k f ps bJ sp) (hr : cI (k + 1) X.A) (hg : Gl X x) (hm : X.mg x = some (.ref C))
 (nV : (x == ("__debug__" : Str)) = false := by decide) : PE X (.Call (.Name x p) [] [] pos) (xI C sp bJ E0 Ec) := by
 rw [zq]
 obtain ⟨fd, ds, F, hb, hd⟩ := F.ex
 exact Mp M F hr hg hm hb hd zk nV
theorem U6 (T : Txt K mg a) : a7 P w K mg base kj 12 a.rz a.Av ["_law_script"] (LN K) := by
 have cH := mX (P := P) (w := w) (base := base) T
 have qw := D8 (P := P) (w := w) (base := base) T
 have A8 := Hy (P := P) (w := w) (base := base) T
 have Dx := Jp (P := P) (w := w) (base := base) T
 have Bu := Hi (P := P) (w := w) (base := base) T
 have va := E5 (P := P) (w := w) (base := base) T
 have kr := yj (P := P) (w := w) (base := base) T
 have xC := Bi (P := P) (w := w) (base := base) T
 have yn := AZ (P := P) (w := w) (base := base) T
 have Qe := El (P := P) (w := w) (base := base) T
 have OA := ER (P := P) (w := w) (base := base) T
 refine T.Ln.ok gu (fun vs H Q E h => ?_) (fun dB A outer s H vs Q E hr h => ?_)
 . obtain ⟨_, _, rfl, _⟩ := h; rfl
 . obtain ⟨l, ns, rfl, hl, hlen, fin⟩ := h
   refine ⟨_, (aq (aC (i := 1) gu.nd rfl (Or.inl rfl) (eZ (af (bx qw (hr.mono (by decide)) rfl T.iO T.jn (af (pv 0) (af aj ai))) (af (bx qw (hr.mono (by decide)) rfl T.iO T.jn (af (pv 0) (af aj ai))) ai))))
    (gZ (bT (aJ B8 (ay aM (bx cH (hr.mono (by decide)) rfl T.cb T.b9 (af (pv 0) (af aj ai))) aj) aj (aR _))
     (aq (aC (i := 2) gu.nd rfl (Or.inl rfl) (ay aM (ay aO (bx cH (hr.mono (by decide)) rfl T.cb T.b9 (af (pv 0) (af aj ai))) aj) (ay xh aj aj)))
     (ao (aC (i := 3) gu.nd rfl (Or.inl rfl) (Fv (af (Gv T.Jm OA (hr.mono (by decide)) rfl T.Ey (af (pv 2) ai)) (af (wJ T.p7 yn (hr.mono (by decide)) rfl T.kN BE (af (aW cL (pv 1) aj (fun _ _ => rfl)) (af (pv 2) ai))) (af (wJ T.p7 yn (hr.mono (by decide)) rfl T.kN BE (af (aW cL (pv 1) aj (fun _ _ => rfl)) (af (pv 2) ai))) ai)))))))
     (ao (aC (i := 3) gu.nd rfl (Or.inl rfl) (Fv (af (Jv T.Jm Qe (hr.mono (by decide)) rfl T.Ey) (af (wJ T.p7 xC (hr.mono (by decide)) rfl T.kN BE (af (aW cL (pv 1) aj (fun _ _ => rfl)) ai)) (af (wJ T.p7 xC (hr.mono (by decide)) rfl T.kN BE (af (aW cL (pv 1) aj (fun _ _ => rfl)) ai)) ai)))))))
    (aq (aC (i := 4) gu.nd rfl (Or.inl rfl) (ay aO (bx cH (hr.mono (by decide)) rfl T.cb T.b9 (af (pv 0) (af aj ai))) aj))
    (aq (aC (i := 5) gu.nd rfl (Or.inl rfl) (ay aO (bx cH (hr.mono (by decide)) rfl T.cb T.b9 (af (pv 0) (af aj ai))) aj))
    (aq (gC PassesOwn.never rfl (FI rfl T.fW (af (CN FL (pv 0) (BA aj) (BA aj)) ai)) (uR (n := 2) rfl (cK (aT (i := 6) gu.nd rfl (Or.inl rfl)) (cK (aT (i := 7) gu.nd rfl (Or.inl rfl)) lR)))
     (aq (aC (i := 8) gu.nd rfl (Or.inl rfl) (bx A8 (hr.mono (by decide)) rfl T.qY T.qQ (af (ay dX (pv 7) (ay jH (pv 6) (ay aM (pv 5) aj))) (af aj (af (pv 5) ai)))))
     (aq (aC (i := 9) gu.nd rfl (Or.inr rfl) (bx Dx (hr.mono (by decide)) rfl T.ux T.tj (af (aW cL (pv 3) aj (fun _ _ => rfl)) (af (pv 8) (af (pv 4) (af (aW cL (pv 1) (ay aM (pv 6) aj) (fun _ _ => rfl)) ai))))))
     (aq (Wf (i := 10) gu.nd rfl (Or.inl rfl) (T := ["_law_told"]) (M := ["_law_script", "_law_lots", "_law_now", "_law_several", "_law_style", "_law_way", "_law_k", "_law_cell", "_law_draws_here", "_law_deed_here", "_law_answers", "_law_j"]) (VC (av Fn) ["_law_script", "_law_lots", "_law_now", "_law_several", "_law_style", "_law_way", "_law_k", "_law_cell", "_law_draws_here", "_law_deed_here", "_law_answers", "_law_j"] rfl rfl (by decide +kernel)) rfl (gP (pv 3)) (fun _ _ _ _ _ => (aT (i := 0) (show List.Nodup (["_law_told", "_law_script", "_law_lots", "_law_now", "_law_several", "_law_style", "_law_way", "_law_k", "_law_cell", "_law_draws_here", "_law_deed_here", "_law_answers", "_law_j"] : List Str) by decide +kernel) rfl (Or.inl rfl))) (qh (by decide)) (fun _ _ _ _ _ => tm) (fun _ _ _ _ _ => (bx Bu (hr.mono (by decide)) rfl T.qJ T.rn (af (pv 0) (af (pv 10) ai)))) rfl)
     (ao (gC PassesOwn.never rfl (gP (eZ (af aj (af aj ai)))) (aT (i := 11) gu.nd rfl (Or.inl rfl))
      (aq (bT (PW.pt (yf (aJ (om hr.AV) (aW cL (pv 10) (pv 11) (fun _ _ => rfl)) (aW cL (pv 10) aj (fun _ _ => rfl)) (aR _)) (uS (ic (dG (bx va (hr.mono (by decide)) rfl T.jQ T.jU (af (aW cL (pv 3) aj (fun _ _ => rfl)) (af (aW cL (pv 3) (pv 11) (fun _ _ => rfl)) ai))) (fun _ => rfl))))))
       (ao (aI rp))
       aQ)
      (ao (bT (PW.pt (rX (aJ (j9 hr.AV) (aW cL (pv 9) aj (fun _ _ => rfl)) c4 (aR _)) (rX (aJ (j9 hr.AV) (aW cL (aW cL (pv 10) (pv 11) (fun _ _ => rfl)) aj (fun _ _ => rfl)) c4 (aR _)) (sW (ic (dG (bx kr (hr.mono (by decide)) rfl T.jl T.iM (af (aW cL (aW cL (pv 10) (pv 11) (fun _ _ => rfl)) aj (fun _ _ => rfl)) ai)) (fun _ => rfl)))))))
       (ao (aI rp))
       aQ)))))))))
    (ao (aI (DY (aZ fL rfl T.aV PyProof.Rows.boot_isinstance (af (aW cL (pv 3) aj (fun _ _ => rfl)) (af (sU (v := .ref a.bC) rfl T.tN rfl) ai))) (Ew (aZ fL rfl T.aV PyProof.Rows.boot_isinstance (af (aW cL (pv 3) aj (fun _ _ => rfl)) (af (sU (v := .ref a.bC) rfl T.tN rfl) ai)))))))))))), ?_⟩
   repeat' (walk_at "rd1")
   refine ⟨l, ns, 2, rfl, hl, fun pr H1 rs js lQ Ap Ud Qx xx => ?_⟩
   have yK : fj K H1 l (ns.map V.int) := az.seq js hl
   repeat' (walk_at "rd1")
   refine ⟨l, ns, 8, rfl, yK, fun pr2 H2 rs2 fA uG Oi SG P2 O4 => ?_⟩
   have Z5 := Ap.keeps fA
   have Jl : fj K H2 l (ns.map V.int) := az.seq fA yK
   repeat' (walk_at "rd1")
   rename_i ll H3 sm3 DC YC hz1 hz2
   clear hz1 hz2
   have Ro := Z5.keeps sm3
   have TV := Oi.keeps sm3
   have Ph : fj K H3 l (ns.map V.int) := az.seq sm3 Jl
   have qb := yt Ud Qx xx
   have ZW := yt SG P2 O4
   have mk : ∀ n x H4 d y1 d1 m1 G1 H5 y2 d2 m2 G2 H6 ql H7, az H3 H4 -> H3 x = none -> H3 d = none -> n9 a.aL H4 x d n [] [] -> az H4 H5 -> (∀ b ∈ y1 :: d1 :: m1 :: G1.foot, H4 b = none) -> yM a.ag a.ak H5 y1 d1 m1 n (unitsOf 1 rs) G1 [] [] -> az H5 H6 -> (∀ b ∈ y2 :: d2 :: m2 :: G2.foot, H5 b = none) -> yM a.ag a.ak H6 y2 d2 m2 n (unitsOf 1 rs2) G2 [] [] -> az H6 H7 -> H6 ql = none -> H7 ql = some (.lst [.ref x, .ref y1, .ref y2]) -> ∃ L, HZ a H3 H7 n [] ql x y1 y2 L := by
    intro n x H4 d y1 d1 m1 G1 H5 y2 d2 m2 G2 H6 ql H7 s4 hx hd Vo s5 f1 gS s6 f2 wu s7 hq hls
    have t0 : Told a true H4 x [x, d] n [] := ⟨.nil, .inl ⟨rfl, d, rfl, Vo⟩⟩
    have t1 : Told a false H5 y1 (y1 :: d1 :: m1 :: G1.foot) n [] := ⟨.nil, .inr ⟨rfl, _, _, _, _, _, rfl, qb, gS⟩⟩
    have t2 : Told a false H6 y2 (y2 :: d2 :: m2 :: G2.foot) n [] := ⟨.nil, .inr ⟨rfl, _, _, _, _, _, rfl, ZW, wu⟩⟩
    have f0 : ∀ b ∈ [x, d], H3 b = none := fun b hb => by
     have : b = x \/ b = d := by simpa using hb
     rcases this with rfl | rfl
     . exact hx
     . exact hd
    have z01 : ∀ b ∈ [x, d], b ∉ y1 :: d1 :: m1 :: G1.foot := fun b hb yl => t0.alive b hb (f1 b yl)
    have z02 : ∀ b ∈ [x, d], b ∉ y2 :: d2 :: m2 :: G2.foot := fun b hb yl => (t0.keeps s5).alive b hb (f2 b yl)
    have z12 : ∀ b ∈ y1 :: d1 :: m1 :: G1.foot, b ∉ y2 :: d2 :: m2 :: G2.foot := fun b hb yl => t1.alive b hb (f2 b yl)
    have s36 : az H3 H6 := (s4.trans s5).trans s6
    refine ⟨[⟨true, x, [x, d]⟩, ⟨false, y1, y1 :: d1 :: m1 :: G1.foot⟩, ⟨false, y2, y2 :: d2 :: m2 :: G2.foot⟩], rfl, fun j k e f DJ he hf b hb => ?_, fun e he => ?_, fun e he b hb => ?_, s36.trans s7, hls, s36.none hq⟩
    . match j, k, he, hf with
      | 0, 0, _, _ => exact absurd rfl DJ
      | 1, 1, _, _ => exact absurd rfl DJ
      | 2, 2, _, _ => exact absurd rfl DJ
      | 0, 1, he, hf => cases he; cases hf; exact z01 b hb
      | 0, 2, he, hf => cases he; cases hf; exact z02 b hb
      | 1, 2, he, hf => cases he; cases hf; exact z12 b hb
      | 1, 0, he, hf => cases he; cases hf; exact fun z => z01 b z hb
      | 2, 0, he, hf => cases he; cases hf; exact fun z => z02 b z hb
      | 2, 1, he, hf => cases he; cases hf; exact fun z => z12 b z hb
      | j + 3, _, he, _ => simp at he
      | _, k + 3, _, hf => simp at hf
    . simp only [List.mem_cons, List.not_mem_nil, or_false] at he
      rcases he with rfl | rfl | rfl
      . exact ((t0.keeps s5).keeps s6).keeps s7
      . exact (t1.keeps s6).keeps s7
      . exact t2.keeps s7
    . simp only [List.mem_cons, List.not_mem_nil, or_false] at he
      rcases he with rfl | rfl | rfl
      . exact ⟨f0 b hb, fun z => ((t0.keeps s5).keeps s6).alive b hb (z ▸ hq)⟩
      . exact ⟨s4.none (f1 b hb), fun z => (t1.keeps s6).alive b hb (z ▸ hq)⟩
      . exact ⟨(s4.trans s5).none (f2 b hb), fun z => t2.alive b hb (z ▸ hq)⟩
   refine o7 (fun σ' H' => ∃ n ql x y1 y2 z2 L, 0 <= n /\ n <= 10 ^ 38 /\ HZ a H3 H' n [] ql x y1 y2 L /\ σ' = [some (.ref l), some (.ref ll), z2, some (.ref ql), none, none, none, none, none, none, none, none]) ?_ ?_
   . repeat' (walk_at "rd1")
     . refine Cd rfl (fun x H4 d DG hx hd DI => ?_)
       have JS := DG _ _ YC
       have TJ := Ro.keeps DG
       repeat' (walk_at "rd1")
       refine fS (.of JS) rfl ?_
       repeat' (walk_at "rd1")
       refine tE rfl TJ Ud Qx xx (fun y1 d1 m1 G1 H5 DX hf5 PD => ?_)
       have RC := DX _ _ JS
       have RJ := (TV.keeps DG).keeps DX
       repeat' (walk_at "rd1")
       refine fS (.of RC) rfl ?_
       repeat' (walk_at "rd1")
       refine tE rfl RJ SG P2 O4 (fun y2 d2 m2 G2 H6 WH ZT Vk => ?_)
       repeat' (walk_at "rd1")
       rename_i ql H7 uL hn7 hq7
       obtain ⟨L, hL⟩ := mk _ x H4 d y1 d1 m1 G1 H5 y2 d2 m2 G2 H6 ql H7 DG hx hd DI DX hf5 PD WH ZT Vk uL hn7 hq7
       exact ⟨_, ql, x, y1, y2, _, L, by omega, by omega, hL, rfl⟩
     . refine Cd rfl (fun x H4 d DG hx hd DI => ?_)
       have JS := DG _ _ YC
       have TJ := Ro.keeps DG
       repeat' (walk_at "rd1")
       refine fS (.of JS) rfl ?_
       repeat' (walk_at "rd1")
       refine tE rfl TJ Ud Qx xx (fun y1 d1 m1 G1 H5 DX hf5 PD => ?_)
       have RC := DX _ _ JS
       have RJ := (TV.keeps DG).keeps DX
       repeat' (walk_at "rd1")
       refine fS (.of RC) rfl ?_
       repeat' (walk_at "rd1")
       refine tE rfl RJ SG P2 O4 (fun y2 d2 m2 G2 H6 WH ZT Vk => ?_)
       repeat' (walk_at "rd1")
       rename_i ql H7 uL hn7 hq7
       obtain ⟨L, hL⟩ := mk _ x H4 d y1 d1 m1 G1 H5 y2 d2 m2 G2 H6 ql H7 DG hx hd DI DX hf5 PD WH ZT Vk uL hn7 hq7
       exact ⟨_, ql, x, y1, y2, _, L, by decide, by decide, hL, rfl⟩
   rintro σ' H4 ⟨n0, ql, x, y1, y2, z2, L, BK, abp, hL, rfl⟩
   have Ya : fj K H4 l (ns.map V.int) := az.seq hL.sm Ph
   repeat' (walk_at "rd1")
   refine SD 14 63 Ya (fun pc H5 DX Y3 hpc => ?_)
   have ab0 : ((ns.drop 14).take (63 - 14)).length <= 49 := by rw [List.length_take]; omega
   generalize (ns.drop 14).take (63 - 14) = cs at *
   have hL5 := hL.keeps DX
   have abM : ∀ e ∈ L, pc ∉ e.S := fun e he z => (hL.tl e he).alive pc z Y3
   repeat' (walk_at "rd1")
   refine Wb (Hb := H5) hpc.dv (fun j σ' H' => ∃ n ts L z6 z7 z8 z9 z10 S3, σ' = [some (.ref l), some (.ref ll), z2, some (.ref ql), some (.int (cell ns (Int.toNat 1) / 6)), some (.int (cell ns (Int.toNat 1) / 3)), z6, z7, z8, z9, z10, S3] /\ HZ a H3 H' n ts ql x y1 y2 L /\ (∃ S, Mv S H5 H' /\ pc ∉ S) /\ (∀ e ∈ L, pc ∉ e.S) /\ 0 <= n /\ n <= 10 ^ 38 * ((j : Int) + 1) /\ (∀ y ∈ ts, nY y.1 /\ y.2 <= 10 ^ 38 * ((j : Int) + 1)) /\ ts.length <= j)
    ⟨n0, [], L, _, _, _, _, _, _, rfl, hL5, ⟨[], Mv.refl, List.not_mem_nil⟩, abM, BK, by simpa using abp, (fun y h => nomatch h), Nat.le_refl _⟩ (fun i σ' H' _ ⟨_, _, _, _, _, _, _, _, _, _, _, ⟨S, mv, hS⟩, _⟩ a' xs e hx => by cases e; exact mv.sq hS hx) ?_ ?_
   . rintro i c t0 σ' H7 hc ⟨n, ts, L, z6, z7, z8, z9, z10, S3, rfl, VH, ⟨S7, mv7, hS7⟩, Uw, hn, YN, DB, MN⟩ ht0
     have afh : i < 49 := by have := (List.getElem?_eq_some_iff.mp hc).1; omega
     have Z6 : az H7 (upd H7 t0 (.tup [.int (i : Int), .int c])) := bw ht0
     have Wz : Dv (upd H7 t0 (.tup [.int (i : Int), .int c])) (.ref t0) (.tuple [.int (i : Int), .int c]) := .tup au (.cons (.int _) (.cons (.int _) .nil))
     generalize upd H7 t0 (.tup [.int (i : Int), .int c]) = H8 at *
     refine wU Wz (fun w1 w2 f1 f2 => ?_)
     obtain rfl := f1.int_inv
     obtain rfl := f2.int_inv
     have hL8 := VH.keeps Z6
     repeat' (walk_at "rd1")
     refine ⟨_, _, 3, rfl, by decide, fun pd H9 ds sm9 hn9 JK AB O7 => ?_⟩
     obtain ⟨d0, d1, d2, rfl⟩ : ∃ d0 d1 d2, ds = [d0, d1, d2] := by
      match ds, AB with
      | [d0, d1, d2], _ => exact ⟨d0, d1, d2, rfl⟩
     have VI := hL8.keeps sm9
     have abg := VI.sm _ _ YC
     obtain ⟨pk, rk, hpk, aaw, ZU, hrk⟩ : ∃ (pk : Addr) (rk : List Int), uj [V.ref pr, V.ref pr2] ((i : Int) % 2) = some (.ref pk) /\ dJ H9 pk (rk.map PyData.int) /\ rk.length <= 6 /\ ∀ r ∈ rk, 2 <= r /\ r <= 60 := by
      rcases (by omega : (i : Int) % 2 = 0 \/ (i : Int) % 2 = 1) with e | e
      . rw [e]; exact ⟨pr, rs, rfl, Ro.keeps VI.sm, Qx, xx⟩
      . rw [e]; exact ⟨pr2, rs2, rfl, TV.keeps VI.sm, P2, O4⟩
     obtain ⟨dr, Lq⟩ := VI.row
     repeat' (walk_at "rd1")
     refine fS (.of VI.ls) rfl ?_
     repeat' (walk_at "rd1")
     refine fS (.of abg) hpk ?_
     repeat' (walk_at "rd1")
     refine ⟨x, dr, pd, pk, _, n, _, ts, d0, d1, d2, rk, rfl, Lq, by omega, DB, hn, YN, by omega, JK, aaw, ZU, hrk, fun dv H10 wd nm t Uj Qn Q5 DH htB => ?_⟩
     have sE := VI.keeps Uj
     have Xq := N4 (wd := wd) hn YN DB MN DH htB
     have aP := VV (n := n) (t := t) (wd := wd) (fun y hy => (DB y hy).1) DH
     have Rf : (cM n ts wd nm t).1 = (cM n ts wd nm t).1 := rfl
     obtain ⟨S0, S1, S2, rfl⟩ := sE.three
     have YZ : ql ∉ List.flatMap Pl.S [⟨true, x, S0⟩, ⟨false, y1, S1⟩, ⟨false, y2, S2⟩] := fun z => by
      obtain ⟨e, he, hb⟩ := List.mem_flatMap.mp z
      exact (sE.ft e he ql hb).2 rfl
     have VL : IM a H10 H10 [⟨true, x, S0⟩, ⟨false, y1, S1⟩, ⟨false, y2, S2⟩] [⟨true, x, S0⟩, ⟨false, y1, S1⟩, ⟨false, y2, S2⟩] 0 n ts (cM n ts wd nm t) [] :=
      ⟨rfl, sE.ap, fun j e _ he => sE.tl e (List.mem_of_getElem? he), fun j e hj => absurd hj (Nat.not_lt_zero _), rfl, (fun v h => nomatch h), Mv.refl, fun j e he b hb => .inl (List.mem_flatMap.mpr ⟨e, List.mem_of_getElem? he, hb⟩)⟩
     generalize hr : cM n ts wd nm t = r at *
     generalize VP : [(⟨true, x, S0⟩ : Pl), ⟨false, y1, S1⟩, ⟨false, y2, S2⟩] = LL at *
     repeat' (walk_at "rd1")
     refine Yh (.of sE.ls) (Nat.le_of_ble_eq_true rfl) (fun k acc H' => ∃ L', IM a H10 H' LL L' k n ts r acc) ⟨LL, VL⟩ (fun k acc H' hk ⟨L', M⟩ => ⟨.of (M.mv.at YZ sE.ls), by rw [M.len]; exact hk⟩) ?_ ?_
     . rintro k v acc U4 N hk ⟨L', M⟩ yes no
       have Qw : k < 3 := (List.getElem?_eq_some_iff.mp hk).1
       have aet : L'.length = 3 := by have := congrArg List.length M.ky; rw [<- VP] at this; simpa using this
       obtain ⟨e, he⟩ : ∃ e, L'[k]? = some e := ⟨_, List.getElem?_eq_getElem (by omega)⟩
       have hex : v = .ref e.x := by
        have h1 : (L'.map (fun e => (e.kd, e.x)))[k]? = some (e.kd, e.x) := by rw [List.getElem?_map, he]; rfl
        rw [M.ky, <- VP] at h1
        match k, Qw, hk, h1 with
        | 0, _, hk, h1 => exact (Option.some.inj hk).symm.trans (congrArg V.ref (congrArg Prod.snd (Option.some.inj h1)))
        | 1, _, hk, h1 => exact (Option.some.inj hk).symm.trans (congrArg V.ref (congrArg Prod.snd (Option.some.inj h1)))
        | 2, _, hk, h1 => exact (Option.some.inj hk).symm.trans (congrArg V.ref (congrArg Prod.snd (Option.some.inj h1)))
       subst hex
       have aaN := M.mv.dat rfl Qn
       repeat' (walk_at "rd1")
       refine zT (fun hb => ?_) (fun hb => by cases hb)
       repeat' (walk_at "rd1")
       refine ⟨e.kd, e.x, e.S, dv, n, ts, wd, nm, t, rfl, M.old k e (Nat.le_refl _) he, by omega, aaN, Q5, DH, ?_⟩
       rw [hr]
       intro u S' H12 abh Zn aan abu
       exact yes u H12 ⟨_, M.step he abh Zn aan abu⟩
     rintro acc U4 qa ⟨L', M⟩ hqa
     have gT : acc.length = 3 := M.len
     obtain ⟨v0, v1, v2, rfl⟩ : ∃ v0 v1 v2, acc = [v0, v1, v2] := by
      match acc, gT with
      | [v0, v1, v2], _ => exact ⟨v0, v1, v2, rfl⟩
     have IU : ∀ b ∈ LL.flatMap Pl.S, H3 b = none := fun b hb => by
      obtain ⟨e, he, hb⟩ := List.mem_flatMap.mp hb
      exact (sE.ft e he b hb).1
     have abH : HZ a H3 U4 r.2.1 r.2.2 ql x y1 y2 L' := by
      have hlen : L'.length = 3 := by have := congrArg List.length M.ky; rw [<- VP] at this; simpa using this
      refine ⟨by rw [M.ky, <- VP]; rfl, M.ap, fun e he => ?_, fun e he b hb => ?_, N6 sE.sm M.mv IU, M.mv.at YZ sE.ls, sE.qn⟩
      . obtain ⟨j, hj⟩ := List.getElem?_of_mem he
        have Vt := (List.getElem?_eq_some_iff.mp hj).1
        exact M.new j e (by show j < 3; omega) hj
      . obtain ⟨j, hj⟩ := List.getElem?_of_mem he
        rcases M.ft j e hj b hb with z | z
        . obtain ⟨f, hf, hb⟩ := List.mem_flatMap.mp z
          exact sE.ft f hf b hb
        . exact ⟨sE.sm.none z, fun y => by rw [y, sE.ls] at z; cases z⟩
     have Xi : ∀ e ∈ L', pc ∉ e.S := fun e he z => by
      obtain ⟨j, hj⟩ := List.getElem?_of_mem he
      rcases M.ft j e hj pc z with y | y
      . obtain ⟨f, hf, hb⟩ := List.mem_flatMap.mp y
        exact Uw f hf hb
      . have h5 : H5 pc ≠ none := by
         obtain ⟨_, e, _⟩ := hpc
         rw [e]; simp
        exact h5 (mv7.none ((Z6.trans sm9).trans Uj |>.none y))
     have aa9 : pc ∉ S7 ++ LL.flatMap Pl.S := fun z => by
      rcases List.mem_append.mp z with z | z
      . exact hS7 z
      . obtain ⟨f, hf, hb⟩ := List.mem_flatMap.mp z
        exact Uw f hf hb
     have aaD : Mv (S7 ++ LL.flatMap Pl.S) H5 U4 := (((bV mv7 fun b hb => List.mem_append_left _ hb).iq ((Z6.trans sm9).trans Uj))).trans (bV M.mv fun b hb => List.mem_append_right _ hb)
     have Xf := M.mv.dat rfl Qn
     have YS : az U4 (upd U4 qa (.lst [v0, v1, v2])) := bw hqa
     have Wv : upd U4 qa (.lst [v0, v1, v2]) qa = some (.lst [v0, v1, v2]) := au
     have M12 := M.keeps YS
     generalize upd U4 qa (.lst [v0, v1, v2]) = H12 at *
     have aa5 := abH.keeps YS
     have Wl := Xf.keeps YS
     repeat' (walk_at "rd1")
     rename_i qj V8 Cr aeY hqj
     have abt : dJ V8 qj (([1, 2] : List Int).map PyData.int) := hqj
     have W2 := Cr _ _ Wv
     have VU := aa5.keeps Cr
     have M13 := M12.keeps Cr
     have X8 : Dv V8 dv (.tuple [.str wd, .str nm, .int t]) := Wl.keeps Cr
     have hjs : ∀ k ∈ ([1, 2] : List Int), ∃ v y, uj [v0, v1, v2] k = some v /\ v ∈ [v0, v1, v2] /\ uj [V.ref x, V.ref y1, V.ref y2] k = some (.ref y) /\ (y = y1 \/ y = y2) := fun k hk => by
      simp only [List.mem_cons, List.not_mem_nil, or_false] at hk
      rcases hk with rfl | rfl
      . exact ⟨v1, y1, rfl, by simp, rfl, .inl rfl⟩
      . exact ⟨v2, y2, rfl, by simp, rfl, .inr rfl⟩
     refine yy (Hb := V8) (cs := ([1, 2] : List Int)) (gd := PyData.int) abt.dv (fun j σ' H' => az V8 H' /\ ∃ S3, σ' = [some (.ref l), some (.ref ll), z2, some (.ref ql), some (.int (cell ns (Int.toNat 1) / 6)), some (.int (cell ns (Int.toNat 1) / 3)), some (.int (i : Int)), some (.int c), some (.ref pd), some dv, some (.ref qa), S3]) ⟨az.refl _, _, rfl⟩ (fun i σ' H' _ ⟨sm, _⟩ a' xs e hx => by cases e; exact az.seq sm hx) ?_ ?_
     . rintro j k v σ' H14 hj ⟨Bf, S3, rfl⟩ Kv _
       obtain rfl := (Kv rfl (Bf.mv (S := [])).tp).int_inv
       obtain ⟨vk, y, yJ, Za, abV, hy⟩ := hjs k (List.mem_of_getElem? hj)
       have LW := Bf _ _ W2
       have O8 := VU.keeps Bf
       have M14 := M13.keeps Bf
       have YB := X8.keeps Bf
       have hak := M14.VZ vk Za
       have ha0 := M14.VZ v0 (by simp)
       obtain ⟨dr, Lq⟩ := O8.row
       obtain ⟨d', m', us', G', hU, hwh⟩ := O8.whl hy
       repeat' (walk_at "rd1")
       refine fS (.of LW) yJ ?_
       repeat' (walk_at "rd1")
       refine fS (.of LW) rfl ?_
       repeat' (walk_at "rd1")
       refine LV hak.dv ha0.dv aP.1 aP.2 ?_
       repeat' (walk_at "rd1")
       refine fS (.of O8.ls) rfl ?_
       repeat' (walk_at "rd1")
       refine fS (.of O8.ls) abV ?_
       repeat' (walk_at "rd1")
       refine ⟨x, dr, y, d', m', r.2.1, r.2.2, hU, us', G', rfl, Lq, hwh, by omega, fun z hz => (Xq.2.2.1 z hz).1, fun H15 NF => ?_⟩
       have MF := NF _ _ LW
       have acg := YB.keeps NF
       have Ga := (M14.keeps NF).VZ vk Za
       have UA : az V8 H15 := Bf.trans NF
       repeat' (walk_at "rd1")
       . rename_i hb
         obtain rfl := V.str.inj hb
         by_cases htn : t < n
         . have er : r.1 = .nm "past" "" := by rw [<- hr]; unfold cM; rw [if_neg (by decide +kernel), if_neg (by decide +kernel), if_pos htn]
           rw [er] at Ga
           have XS : Dv H15 vk (.tuple [.str "past", .str ""]) := Ga
           refine fS (.of MF) yJ ?_
           repeat' (walk_at "rd1")
           . rename_i h
             exact absurd (V.str.inj h) (by decide +kernel)
           . exact ⟨UA, _, rfl⟩
         . have er : r.1 = .pairs (v9 ts t) := by rw [<- hr]; unfold cM; rw [if_neg (by decide +kernel), if_neg (by decide +kernel), if_neg htn]
           rw [er] at Ga
           have XS : Dv H15 vk (.tuple [.str "told", .list ((v9 ts t).map pairD)]) := Ga.dv
           obtain ⟨AQ, hss⟩ := wg ts t
           have PY : (v9 ts t).length <= ts.length := by rw [AQ.length_eq, List.length_map]; exact List.length_filter_le _ _
           have hsn : ((v9 ts t).map (·.2)).Nodup := by
            refine (AQ.map (·.2)).nodup_iff.mpr ?_
            rw [List.map_map]
            have := (sE.tl ⟨true, x, S0⟩ (by rw [<- VP]; simp)).1
            exact this.sublist (List.filter_sublist.map _)
           refine fS (.of MF) yJ ?_
           repeat' (walk_at "rd1")
           refine fS (.of MF) yJ ?_
           repeat' (walk_at "rd1")
           rename_i u hu
           refine ⟨u, _, rfl, hu, hss, hsn, by omega, ?_⟩
           repeat' (walk_at "rd1")
           exact ⟨UA, _, rfl⟩
       . exact ⟨UA, _, rfl⟩
     . rintro σ' H14 ⟨Bf, S3, rfl⟩
       obtain ⟨b1, b2, b3, b4⟩ := Xq
       repeat' (walk_at "rd1")
       exact ⟨r.2.1, r.2.2, L', _, _, _, _, _, _, rfl, VU.keeps Bf, ⟨_, ((aaD.iq YS).iq Cr).iq Bf, aa9⟩, Xi, b1, by omega, fun y hy => ⟨(b3 y hy).1, by have := (b3 y hy).2; omega⟩, b4⟩
   . rintro σ' H7 ⟨n, ts, L, z6, z7, z8, z9, z10, S3, rfl, VH, ⟨S7, mv7, hS7⟩, Uw, hn, YN, DB, MN⟩
     have ty := T.J9; have isw := T.iE; have ty' := T.zo; have adY := T.eX; have cl := T.bX; have cl' := T.aF
     obtain ⟨dr, Lq⟩ := VH.row
     obtain ⟨d', m', us', G', hU, hwh⟩ := VH.whl (.inl rfl)
     have hi := Lq.ins
     have Fy := hwh.ws.ins
     repeat' (walk_at "rd1")
     refine fS (.of VH.ls) rfl ?_
     repeat' (walk_at "rd1")
     refine fS (.of VH.ls) rfl ?_
     repeat' (walk_at "rd1")
     exact fin _
end
end My
open PySem PySem.W PyProof.Rows
local macro_rules | `(tactic| walk_at "k_dg") => `(tactic| (refine' ⟨?a, ⟨_, L2.F2 ?l ?c⟩, ?k⟩; (case a => k_is); (case l => k_is); (case c => k_is); (case k => k_is)))
local macro_rules | `(tactic| walk_at "k_dm") => `(tactic| (refine' ⟨?a, ⟨_, L2.F2 ?l ?c⟩, ?k, ?i⟩; (case a => k_is); (case l => k_is); (case c => k_is); (case k => k_is); (case i => k_is)))
local macro_rules | `(tactic| walk_at "k_dt") => `(tactic| (refine' My.P7 ?l; (case l => k_is)))
local macro_rules | `(tactic| walk_at "k_ck") => `(tactic| (refine' ⟨?a, ?b, ?c, ?d, ?e, ?f, ?g⟩; (case a => k_is); (case b => k_is); (case c => k_is); (case d => k_is); (case e => k_is); (case f => k_is); (case g => k_is)))
local macro_rules | `(tactic| walk_at "k_xl") => `(tactic| (refine' My.U5 ?l; (case l => k_is)))
theorem PySem.W.Fast.tw14972688208668145572 : True := trivial
theorem PySem.W.Fast.tw5620815894330193029 : True := trivial
theorem PySem.W.Fast.tw1779960952510398606 : True := trivial
theorem PySem.W.Fast.tw5888570968377394128 : True := trivial
theorem PySem.W.Fast.tw7177295975329148252 : True := trivial
theorem PySem.W.Fast.tw3829637150287413236 : True := trivial
theorem PySem.W.Fast.tw15428962862419005495 : True := trivial
theorem PySem.W.Fast.tw8675167105267366325 : True := trivial
theorem PySem.W.Fast.tw5073051613014601468 : True := trivial
theorem PySem.W.Fast.tw17733398064895028463 : True := trivial
theorem PySem.W.Fast.tw2729251621565701657 : True := trivial
theorem PySem.W.Fast.tw7910386579676103814 : True := trivial
theorem PySem.W.Fast.tw13354325220801659592 : True := trivial
theorem PySem.W.Fast.tw1374064128998370331 : True := trivial
theorem PySem.W.Fast.tw11373945199474399338 : True := trivial
theorem PySem.W.Fast.tw3505721642339018050 : True := trivial
theorem PySem.W.Fast.tw8678707220049381540 : True := trivial
theorem PySem.W.Fast.tw17750856785756793884 : True := trivial
theorem PySem.W.Fast.tw13422486895566368365 : True := trivial
set_option maxRecDepth 100000 in
set_option maxHeartbeats 0 in
theorem PySem.Challenge.cw_wakefew_k18_whole_wheels_tell_as_a_row_holds : PySem.Challenge.rw_wakefew_k18_whole_wheels_tell_as_a_row.Holds := by
 w_on; o_law; k_head; (case hw => w_witness2)
 k_fill
 refine L2.Mt (l := PySem.Challenge.rw_wakefew_k18_whole_wheels_tell_as_a_row) (n := 63) (k := 16) (x := "_law_script") (CX := L2.kj) (sp := My.LN) rfl (by decide) rfl ⟨rfl, by decide, by decide⟩ (fun w h Y => PySem.W.kIn_of Y) ?F ?S ?C
 case F =>
  intro w mg fa h KX G XX
  have T : ∃ a : My.Ad, a.rz = a.rz /\ My.Txt (L2.KOf KX) mg a := by
   dsimp only [L2.KOf]
   refine' My.UN KX G ?h0 ?h1 ?h2 ?h3 ?h4 ?h5 ?h6 ?h7 ?h8 ?h9 ?h10 ?h11 ?h12 ?h13 ?h14 ?h15 ?h16 ?h17 ?h18 ?h19 ?h20 ?h21 ?h22 ?h23 ?h24 ?h25 ?h26 ?h27 ?h28 ?h29 ?h30 ?h31 ?h32 ?h33 ?h34 ?h35 ?h36 ?h37 ?h38 ?h39 ?h40 ?h41 ?h42 ?h43 ?h44 ?h45 ?h46 ?h47 ?h48 ?h49 ?h50 ?h51 ?h52 ?h53 ?h54 ?h55 ?h56 ?h57 ?h61 ?h62 ?h63 ?h64 ?h65 ?h66 ?h67 ?h68 ?h69 ?h70 ?h71 ?h72 ?h73 ?h74 ?h75 ?h76 ?h77 ?h78 ?h79 ?h80 ?h81 ?h82 ?h83 ?h84 ?h85 ?h86 ?h87 ?h88 ?h89 ?h90 ?h91 ?h92 ?h93 ?h94 ?h95 ?h96 ?h97 ?h98 ?h99 ?h100 ?h102 ?h105 ?h108 ?h109 ?h111 ?h114 ?h115 ?h116 ?h117 ?h118 ?h120 ?h121 ?h122 ?h123 ?h128 ?h151 ?h155 ?h156 ?h159 ?h160 ?h161 ?h162 ?h163 ?h165 ?h166 ?h167 ?h174 ?h176 ?h177 ?h178 ?h179 ?h180 ?h181 ?h182 ?h183 ?h184 ?h185 ?h186 ?h187 ?h188 ?h189 ?h190 ?h191 ?h192 ?h193 ?h194 ?h195
   (case h0 => k_is)
   (case h1 => k_is)
   (case h2 => k_is)
   (case h3 => k_is)
   (case h4 => k_is)
   (case h5 => k_is)
   (case h6 => k_is)
   (case h7 => k_is)
   (case h8 => k_is)
   (case h9 => k_is)
   (case h10 => k_is)
   (case h11 => walk_at "k_dm")
   (case h12 => walk_at "k_dm")
   (case h13 => walk_at "k_dm")
   (case h14 => walk_at "k_dt")
   (case h15 => walk_at "k_dm")
   (case h16 => walk_at "k_dm")
   (case h17 => walk_at "k_dm")
   (case h18 => walk_at "k_dm")
   (case h19 => walk_at "k_dm")
   (case h20 => walk_at "k_dm")
   (case h21 => walk_at "k_dm")
   (case h22 => walk_at "k_dm")
   (case h23 => walk_at "k_dm")
   (case h24 => walk_at "k_dm")
   (case h25 => walk_at "k_dg")
   (case h26 => walk_at "k_dg")
   (case h27 => walk_at "k_dg")
   (case h28 => walk_at "k_dg")
   (case h29 => walk_at "k_dm")
   (case h30 => walk_at "k_dm")
   (case h31 => walk_at "k_dm")
   (case h32 => walk_at "k_dm")
   (case h33 => walk_at "k_dm")
   (case h34 => walk_at "k_dm")
   (case h35 => walk_at "k_dm")
   (case h36 => walk_at "k_dm")
   (case h37 => walk_at "k_dt")
   (case h38 => walk_at "k_dm")
   (case h39 => walk_at "k_dm")
   (case h40 => walk_at "k_dm")
   (case h41 => walk_at "k_dm")
   (case h42 => walk_at "k_dm")
   (case h43 => walk_at "k_dm")
   (case h44 => walk_at "k_dg")
   (case h45 => walk_at "k_dg")
   (case h46 => walk_at "k_dg")
   (case h47 => walk_at "k_dg")
   (case h48 => walk_at "k_dg")
   (case h49 => walk_at "k_dg")
   (case h50 => walk_at "k_dg")
   (case h51 => walk_at "k_dg")
   (case h52 => walk_at "k_dg")
   (case h53 => walk_at "k_dg")
   (case h54 => walk_at "k_dg")
   (case h55 => walk_at "k_dg")
   (case h56 => walk_at "k_dg")
   (case h57 => walk_at "k_ck")
   (case h61 => walk_at "k_ck")
   (case h62 => k_is)
   (case h63 => k_is)
   (case h64 => k_is)
   (case h65 => k_is)
   (case h66 => k_is)
   (case h67 => k_is)
   (case h68 => k_is)
   (case h69 => k_is)
   (case h70 => k_is)
   (case h71 => k_is)
   (case h72 => k_is)
   (case h73 => k_is)
   (case h74 => k_is)
   (case h75 => walk_at "k_ck")
   (case h76 => k_is)
   (case h77 => k_is)
   (case h78 => k_is)
   (case h79 => k_is)
   (case h80 => k_is)
   (case h81 => k_is)
   (case h82 => k_is)
   (case h83 => walk_at "k_ck")
   (case h84 => k_is)
   (case h85 => k_is)
   (case h86 => k_is)
   (case h87 => k_is)
   (case h88 => k_is)
   (case h89 => k_is)
   (case h90 => k_is)
   (case h91 => k_is)
   (case h92 => k_is)
   (case h93 => k_is)
   (case h94 => k_is)
   (case h95 => k_is)
   (case h96 => k_is)
   (case h97 => k_is)
   (case h98 => k_is)
   (case h99 => walk_at "k_xl")
   (case h100 => k_is)
   (case h102 => k_exc)
   (case h105 => k_exc)
   (case h108 => walk_at "k_xl")
   (case h109 => k_is)
   (case h111 => k_exc)
   (case h114 => k_is)
   (case h115 => k_is)
   (case h116 => k_is)
   (case h117 => k_is)
   (case h118 => k_is)
   (case h120 => k_is)
   (case h121 => k_is)
   (case h122 => k_is)
   (case h123 => k_is)
   (case h128 => k_is)
   (case h151 => k_is)
   (case h155 => k_is)
   (case h156 => k_is)
   (case h159 => k_is)
   (case h160 => k_is)
   (case h161 => k_is)
   (case h162 => k_is)
   (case h163 => k_is)
   (case h165 => k_is)
   (case h166 => k_is)
   (case h167 => k_is)
   (case h174 => k_is)
   (case h176 => k_is)
   (case h177 => k_is)
   (case h178 => k_is)
   (case h179 => k_is)
   (case h180 => k_is)
   (case h181 => k_is)
   (case h182 => k_is)
   (case h183 => k_is)
   (case h184 => k_is)
   (case h185 => k_is)
   (case h186 => k_is)
   (case h187 => k_is)
   (case h188 => k_is)
   (case h189 => k_is)
   (case h190 => k_is)
   (case h191 => k_is)
   (case h192 => k_is)
   (case h193 => k_is)
   (case h194 => k_is)
   (case h195 => k_is)
  obtain ⟨a, _, T⟩ := T
  have e0 := XX.symm.trans T.Lk
  cases e0
  exact ⟨a.Av, fun s u => My.GP T s u, fun base kb nb => (My.U6 T).mono (by decide)⟩
 case S => exact fun K H l ns hl hO hS => ⟨l, ns, rfl, hS, hl, fun _ => rfl⟩
 case C => exact fun H s e s' h => h
