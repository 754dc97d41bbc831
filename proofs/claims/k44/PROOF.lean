import PyProof.Rows.All
import Wide.All
import OpenK.AllK
import Wide.FinOn
import Lean
import PyProof.EqAt
import PyProof.EqKinds
import PyProof.TupleCall
import PyProof.StrLawsRepr
import PySem.Challenge.RW_wakefew_k44_no_share_can_grow
set_option compiler.extract_closed false
set_option Elab.async false
set_option linter.all false
set_option maxRecDepth 100000
namespace L2
open PySem PySem.Spec PyProof.Rows
abbrev Key := Sum Int Str
def iM : Key -> Value -> Bool
 | .inl k, v => Value.isInt k v
 | .inr x, v => Value.isStrOf x v
def CW (w : World) : Key -> Int
 | .inl k => hashInt k
 | .inr x => hashStr w x
theorem aT : ∀ {k : Key} {v : Value}, iM k v = true -> (∃ i t, k = Sum.inl i /\ v = Value.int i t) \/ (∃ x t, k = Sum.inr x /\ v = Value.str x t)
 | .inl i, v, h => by
   obtain ⟨t, e⟩ := Value.isInt_shape (k := i) (v := v) h
   exact .inl ⟨i, t, rfl, e⟩
 | .inr x, v, h => by
   obtain ⟨t, e⟩ := Value.isStrOf_shape (x := x) (v := v) h
   exact .inr ⟨x, t, rfl, e⟩
theorem oI (i : Int) (t : Tok) : iM (.inl i) (.int i t) = true := by simp [iM, Value.isInt]
theorem n9 (x : Str) (t : Tok) : iM (.inr x) (.str x t) = true := by simp [iM, Value.isStrOf]
theorem xx (a b : Int) : decide ((Sum.inl a : Key) = Sum.inl b) = (a == b) := by
 by_cases e : a = b
 . subst e; simp
 . have h : ¬ (Sum.inl a : Key) = Sum.inl b := fun q => e (Sum.inl.inj q)
   rw [decide_eq_false h]
   exact (beq_eq_false_iff_ne.mpr e).symm
theorem v9 (a b : Str) : decide ((Sum.inr a : Key) = Sum.inr b) = decide (a = b) := by
 by_cases e : a = b
 . subst e; simp
 . have h : ¬ (Sum.inr a : Key) = Sum.inr b := fun q => e (Sum.inr.inj q)
   rw [decide_eq_false h, decide_eq_false e]
theorem yz (a : Int) (b : Str) : decide ((Sum.inl a : Key) = Sum.inr b) = false := decide_eq_false (fun q => nomatch q)
theorem wo (a : Str) (b : Int) : decide ((Sum.inr a : Key) = Sum.inl b) = false := decide_eq_false (fun q => nomatch q)
def bp (prog : Program) (w : World) : PySem.KeyKind prog w Key where
 is := iM
 hash := CW w
 inj := fun v a b ha hb => by
  rcases aT ha with ⟨i, t, rfl, rfl⟩ | ⟨x, t, rfl, rfl⟩
  . rcases aT hb with ⟨j, u, rfl, e⟩ | ⟨y, u, rfl, e⟩
    . injection e with e1 _; rw [e1]
    . exact nomatch e
  . rcases aT hb with ⟨j, u, rfl, e⟩ | ⟨y, u, rfl, e⟩
    . exact nomatch e
    . injection e with e1 _; rw [e1]
 byValue := fun k v h => by
  rcases aT h with ⟨i, t, rfl, rfl⟩ | ⟨x, t, rfl, rfl⟩ <;> rfl
 pyHash := fun hv h => by
  rcases aT hv with ⟨i, t, rfl, rfl⟩ | ⟨x, t, rfl, rfl⟩
  . exact wpAny_pyHash_int h
  . exact wpAny_pyHash_str h
 eqBool := fun hu hv h => by
  rcases aT hu with ⟨i, t, rfl, rfl⟩ | ⟨x, t, rfl, rfl⟩
  . rcases aT hv with ⟨j, u, rfl, rfl⟩ | ⟨y, u, rfl, rfl⟩
    . rw [xx] at h; exact wpAny_eqBool_int h
    . rw [yz] at h; exact SeqAt.EqAt.int_str i t y u _ _ _ _ h
  . rcases aT hv with ⟨j, u, rfl, rfl⟩ | ⟨y, u, rfl, rfl⟩
    . rw [wo] at h; exact SeqAt.EqAt.str_int x t j u _ _ _ _ h
    . rw [v9] at h; exact wpAny_eqBool_str h
 «strs» := fun k x t v h => by
  rcases aT h with ⟨i, u, rfl, e⟩ | ⟨y, u, rfl, e⟩
  . exact nomatch e
  . injection e with e1 _
    subst e1
    cases v <;> rfl
theorem j3 (prog : Program) (w : World) (i : Int) (t : Tok) : (bp prog w).is (.inl i) (.int i t) = true := oI i t
theorem kh (prog : Program) (w : World) (x : Str) (t : Tok) : (bp prog w).is (.inr x) (.str x t) = true := n9 x t
inductive V where
 | a7 | bl (b : Bool) | int (i : Int) | str (x : Str) | n5 (b : Array UInt8) | yE (b : UInt64) | ref (a : Addr) | ty (n : String)
 deriving DecidableEq
def RelV : V -> Value -> Prop
 | .a7, u => u = Value.none
 | .bl b, u => u = Value.bool b
 | .int i, u => ∃ t, u = Value.int i t
 | .str x, u => ∃ t, u = Value.str x t
 | .n5 b, u => ∃ t, u = Value.bytes b t
 | .yE b, u => ∃ t, u = Value.float b t
 | .ref a, u => u = Value.ref a
 | .ty n, u => u = Value.type n
abbrev Vals : List V -> List Value -> Prop := Paired RelV
theorem Vals.length {xs : List V} {us : List Value} (r : Vals xs us) : xs.length = us.length := Paired.length r
theorem Vals.get : ∀ {xs : List V} {us : List Value} {i : Nat} {x : V}, Vals xs us -> xs[i]? = some x -> ∃ u, us[i]? = some u /\ RelV x u
 | _, _, _, _, .nil, e => by simp at e
 | _, _, 0, _, .cons r _, e => by simp at e; subst e; exact ⟨_, rfl, r⟩
 | _, _, i + 1, x, .cons _ t, e => by
   obtain ⟨u, h1, h2⟩ := Vals.get (i := i) (x := x) t (by simpa using e)
   exact ⟨u, by simpa using h1, h2⟩
theorem Vals.set {x : V} {u : Value} (r : RelV x u) : ∀ {xs : List V} {us : List Value} (i : Nat), Vals xs us -> Vals (xs.set i x) (us.set i u)
 | _, _, _, .nil => .nil
 | _, _, 0, .cons _ t => .cons r t
 | _, _, i + 1, .cons q t => .cons q (Vals.set r i t)
theorem Vals.append : ∀ {xs ys : List V} {us ws : List Value}, Vals xs us -> Vals ys ws -> Vals (xs ++ ys) (us ++ ws)
 | _, _, _, _, .nil, s => s
 | _, _, _, _, .cons r t, s => .cons r (Vals.append t s)
theorem Vals.take : ∀ {xs : List V} {us : List Value} (n : Nat), Vals xs us -> Vals (xs.take n) (us.take n)
 | _, _, 0, _ => .nil
 | _, _, _ + 1, .nil => .nil
 | _, _, n + 1, .cons r t => .cons r (Vals.take n t)
theorem Vals.drop : ∀ {xs : List V} {us : List Value} (n : Nat), Vals xs us -> Vals (xs.drop n) (us.drop n)
 | _, _, 0, r => r
 | _, _, _ + 1, .nil => .nil
 | _, _, n + 1, .cons _ t => Vals.drop n t
def gm : Option V -> Option Value -> Prop
 | some v, some u => RelV v u
 | none, none => True
 | _, _ => False
def KV {κ : Type} : List (κ × V) -> List (κ × Value) -> Prop := Paired fun (p : κ × V) (q : κ × Value) => p.1 = q.1 /\ RelV p.2 q.2
def kV : Key -> V
 | .inl i => .int i
 | .inr x => .str x
inductive HO where
 | lst (xs : List V)
 | tup (xs : List V)
 | dK (ao : List (Key × V)) | dT (ao : List (List Key × V))
 | set (S : Int -> Bool) (n : Nat)
 | ins (C dx : Addr) (fs : List (Str × V))
 | own (x : Addr)
 | xd (fs : List (Str × V))
 | met (f x : Addr)
 | Cj (lo hi : Int)
 | km (o : Obj) (u : HO)
 | eU (ps : Array Value)
 | ext (φ : Heap -> Prop)
abbrev Hp := Addr -> Option HO
def upd (H : Hp) (a : Addr) (o : HO) : Hp := fun b => if b = a then some o else H b
theorem av {H : Hp} {a : Addr} {o : HO} : upd H a o a = some o := by unfold upd; rw [if_pos rfl]
theorem ai {H : Hp} {a b : Addr} {o : HO} (h : b ≠ a) : upd H a o b = H b := by unfold upd; rw [if_neg h]
theorem Aw {H : Hp} {a b : Addr} {o u : HO} (h : H a = some o) (h' : H b = some u) (d : o ≠ u) : a ≠ b := by
 intro e; subst e; rw [h] at h'; exact d (Option.some.inj h')
theorem aw {H : Hp} {a b : Addr} {o : HO} (h : H a = some o) (h' : H b = none) : a ≠ b := by
 intro e; subst e; rw [h] at h'; cases h'
section
variable (P : Program) (w : World)
def aP (H : Hp) (h : Heap) (a : Addr) : HO -> Prop
 | .lst xs => xs.length <= sizeLine /\ ∃ (aq : List Value) (n : Nat), Vals xs aq /\ h.get? a = some { cls := .type "list", data := .seq aq.toArray n }
 | .tup xs => xs.length <= sizeLine /\ ∃ aq : List Value, Vals xs aq /\ IsTup h a aq.toArray
 | .dK ao => ao.length <= sizeLine /\ (a == sysModules) = false /\ ∃ vs, KV ao vs /\ h.DictOf (bp P w) a vs
 | .dT ao => ao.length <= sizeLine /\ (a == sysModules) = false /\ ∃ xs : List (List Key × Addr × Value),
  Paired (fun (p : List Key × V) (q : List Key × Addr × Value) => p.1 = q.1 /\ H q.2.1 = some (.tup (p.1.map kV)) /\ RelV p.2 q.2.2) ao xs /\
  ∃ o es ep, h.get? a = some o /\ o.ExactDict /\ o.data = .dict es ep /\ es.toList = xs.map (entryOfKey (tupleKind (bp P w))) /\ (xs.map (·.1)).Nodup
 | .set S n => h.SetOf (intKind P w) a S n
 | .ins C dx fs => H dx = some (.own a) /\ fs.length <= 1000 /\ dx ≠ a /\ h.get? a = some (PySem.W.instObj C dx) /\
  ∃ mA, h.Ns1 dx mA /\ (∀ f, gm (fs.lookup f) (mA f)) /\ PySem.Within mA (fs.map (·.1))
 | .own _ => ∃ o, h.get? a = some o
 | .xd fs => ∃ mA, h.Ns1 a mA /\ ∀ f, gm (fs.lookup f) (mA f)
 | .Cj lo hi => ∃ t u v, h.get? a = some { cls := .type "range", data := .fields #[.int lo t, .int hi u, .int 1 v] }
 | .km o u => h.get? a = some o /\ aP H h a u
 | .eU ps => h.get? a = some { cls := .none, data := .fields ps }
 | .met f x => h.get? a = some (PySem.W.methodObj (.ref f) (.ref x))
 | .ext φ => φ h /\ (∃ o, h.get? a = some o) /\ ∀ h1 h2 : Heap, φ h1 -> (∀ o, h1.get? a = some o -> h2.get? a = some o) -> φ h2
def eO (H : Hp) (h : Heap) : Prop := ∀ a o, H a = some o -> aP P w H h a o
end
section
variable {P : Program} {w : World} {H H' : Hp} {h h' : Heap} {a : Addr} {o : HO}
theorem aP.lt (x : aP P w H h a o) : a < h.objs.size := by
 cases o with
 | lst xs => obtain ⟨_, _, _, _, e⟩ := x; exact Heap.lt_size e
 | tup xs => obtain ⟨_, _, _, p⟩ := x; exact p.lt
 | dK ao => obtain ⟨_, _, _, _, o, _, _, e, _⟩ := x; exact Heap.lt_size e
 | dT ao => obtain ⟨_, _, _, _, o, _, _, e, _⟩ := x; exact Heap.lt_size e
 | set S n => obtain ⟨o, _, _, _, e, _⟩ := x; exact Heap.lt_size e
 | ins C dx fs => obtain ⟨_, _, _, e, _⟩ := x; exact Heap.lt_size e
 | own y => obtain ⟨_, e⟩ := x; exact Heap.lt_size e
 | xd fs => obtain ⟨_, ⟨_, _, _, e, _⟩, _⟩ := x; exact Heap.lt_size e
 | Cj lo hi => obtain ⟨_, _, _, e⟩ := x; exact Heap.lt_size e
 | km ob u => obtain ⟨e, _⟩ := x; exact Heap.lt_size e
 | eU ps => exact Heap.lt_size (show h.get? a = some _ from x)
 | met f y => exact Heap.lt_size (show h.get? a = some _ from x)
 | ext φ => obtain ⟨_, ⟨_, e⟩, _⟩ := x; exact Heap.lt_size e
theorem Paired.wM {α β : Type} {F G : α -> β -> Prop} : ∀ {l₁ : List α} {l₂ : List β}, Paired F l₁ l₂ -> (∀ a b, F a b -> G a b) -> Paired G l₁ l₂
 | _, _, .nil, _ => .nil
 | _, _, .cons r t, f => .cons (f _ _ r) (Paired.wM t f)
theorem aP.jh (x : aP P w H h a o) (k : ∀ b u, (b = a \/ H b = some (.own a)) -> h.get? b = some u -> h'.get? b = some u)
 (ho : ∀ b, H b = some (.own a) -> H' b = some (.own a)) (ht : ∀ b xs, H b = some (.tup xs) -> H' b = some (.tup xs)) : aP P w H' h' a o := by
 induction o with
 | lst xs => obtain ⟨z, aq, n, r, e⟩ := x; exact ⟨z, aq, n, r, k _ _ (.inl rfl) e⟩
 | tup xs => obtain ⟨z, aq, r, ob, e, c⟩ := x; exact ⟨z, aq, r, ob, k _ _ (.inl rfl) e, c⟩
 | dK ao => obtain ⟨z, y, vs, r, ob, es, ep, e, c⟩ := x; exact ⟨z, y, vs, r, ob, es, ep, k _ _ (.inl rfl) e, c⟩
 | dT ao =>
   obtain ⟨z, y, xs, r, ob, es, ep, e, c⟩ := x
   exact ⟨z, y, xs, Paired.wM r fun p q z => ⟨z.1, ht _ _ z.2.1, z.2.2⟩, ob, es, ep, k _ _ (.inl rfl) e, c⟩
 | set S n => obtain ⟨ob, es, ep, t, e, c⟩ := x; exact ⟨ob, es, ep, t, k _ _ (.inl rfl) e, c⟩
 | ins C dx fs =>
   obtain ⟨d, z, ne, e, mA, ⟨od, es, ep, e2, c⟩, r⟩ := x
   exact ⟨ho _ d, z, ne, k _ _ (.inl rfl) e, mA, ⟨od, es, ep, k _ _ (.inr d) e2, c⟩, r⟩
 | own y => obtain ⟨ob, e⟩ := x; exact ⟨ob, k _ _ (.inl rfl) e⟩
 | xd fs => obtain ⟨mA, ⟨od, es, ep, e, c⟩, r⟩ := x; exact ⟨mA, ⟨od, es, ep, k _ _ (.inl rfl) e, c⟩, r⟩
 | Cj lo hi => obtain ⟨t, u, v, e⟩ := x; exact ⟨t, u, v, k _ _ (.inl rfl) e⟩
 | km ob u ih => obtain ⟨e, q⟩ := x; exact ⟨k _ _ (.inl rfl) e, ih q⟩
 | eU ps =>
   have e : h.get? a = some { cls := .none, data := .fields ps } := x
   show h'.get? a = some { cls := .none, data := .fields ps }
   exact k a _ (.inl rfl) e
 | met f y =>
   have e : h.get? a = some (PySem.W.methodObj (.ref f) (.ref y)) := x
   show h'.get? a = some (PySem.W.methodObj (.ref f) (.ref y))
   exact k a _ (.inl rfl) e
 | ext φ => obtain ⟨p, ⟨o, e⟩, st⟩ := x; exact ⟨st _ _ p fun o q => k _ _ (.inl rfl) q, ⟨o, k _ _ (.inl rfl) e⟩, st⟩
theorem eO.lt (x : eO P w H h) (e : H a = some o) : a < h.objs.size := (x a o e).lt
theorem eO.fresh (x : eO P w H h) (e : h.objs.size <= a) : H a = none := by
 cases q : H a with
 | none => rfl
 | some u => exact absurd (Nat.lt_of_lt_of_le (x.lt q) e) (Nat.lt_irrefl _)
theorem eO.kept (x : eO P w H h) (k : ∀ b u, h.get? b = some u -> h'.get? b = some u) : eO P w H h' := fun a o e =>
 (x a o e).jh (fun b u _ q => k b u q) (fun _ q => q) fun _ _ q => q
theorem eO.laid (x : eO P w H h) (k : ∀ b u, h.get? b = some u -> h'.get? b = some u) (hp : h.objs.size <= a) (new : aP P w (upd H a o) h' a o) : eO P w (upd H a o) h' := fun b u e => by
 have hn := x.fresh hp
 by_cases hb : b = a
 . subst hb; rw [av] at e; cases e; exact new
 . rw [ai hb] at e
   exact (x b u e).jh (fun c v _ q => k c v q) (fun c q => by rw [ai (aw q hn)]; exact q) fun c xs q => by rw [ai (aw q hn)]; exact q
end
def Rd (H : Hp) (a : Addr) (u : HO) : Prop := H a = some u \/ ∃ o, H a = some (.km o u)
theorem Rd.of {H : Hp} {a : Addr} {u : HO} (h : H a = some u) : Rd H a u := .inl h
theorem Rd.ok {P : Program} {w : World} {H : Hp} {h : Heap} {a : Addr} {u : HO} (r : Rd H a u) (x : eO P w H h) : aP P w H h a u := by
 rcases r with r | ⟨o, r⟩
 . exact x a u r
 . obtain ⟨_, q⟩ := x a _ r
   exact q
def AQ : Option HO -> Prop
 | some (.lst _) => True
 | some (.dK _) => True
 | some (.dT _) => True
 | some (.set _ _) => True
 | some (.ins _ _ _) => True
 | some (.ext _) => True
 | _ => False
section
variable {P : Program} {w : World} {H : Hp} {h h' : Heap} {x e : Addr} {o' : HO}
theorem eO.write (ok : eO P w H h) (mu : AQ (H x)) (he : e = x \/ H e = some (.own x)) (k : ∀ b u, b ≠ e -> h.get? b = some u -> h'.get? b = some u) (vC : ∃ u, h'.get? e = some u)
 (new : aP P w (upd H x o') h' x o') : eO P w (upd H x o') h' := fun b u q => by
 have y4 : ∀ c y, H c = some (.own y) -> c ≠ x := fun c y r z => by subst z; rw [r] at mu; exact mu
 have CA : ∀ c xs, H c = some (.tup xs) -> c ≠ x := fun c xs r z => by subst z; rw [r] at mu; exact mu
 by_cases hb : b = x
 . subst hb; rw [av] at q; cases q; exact new
 . rw [ai hb] at q
   by_cases wa : b = e
   . have q' : H b = some (.own x) := by
      rcases he with z | z
      . exact absurd (wa.trans z) hb
      . rw [wa]; exact z
     rw [q] at q'; cases q'
     obtain ⟨v, hv⟩ := vC
     exact ⟨v, by rw [wa]; exact hv⟩
   . refine (ok b u q).jh (fun c v hc r => k c v ?_ r) (fun c r => by rw [ai (y4 c b r)]; exact r) fun c xs r => by rw [ai (CA c xs r)]; exact r
     rcases hc with rfl | hc
     . exact wa
     . rintro rfl
       rcases he with z | z
       . exact y4 c b hc z
       . rw [hc] at z; cases z; exact hb rfl
end
structure Un (fs ex : List Addr) (H H' : Hp) (h h' : Heap) : Prop where
 keep : ∀ b o, h.get? b = some o -> H b = none -> b ∉ fs -> b ∉ ex -> h'.get? b = some o
 slot : ∀ b o, h.get? b = some o -> H b = none -> b ∈ fs -> b ∉ ex -> ∃ sl, h'.get? b = some { o with slots := sl }
 free : ∀ b o, h.get? b = some o -> H b = none -> b ∉ ex -> H' b = none
 there : ∀ b o, h.get? b = some o -> b ∉ ex -> ∃ o', h'.get? b = some o'
 f7 : ∀ b xs, H b = some (.tup xs) -> H' b = some (.tup xs)
 fN : ∀ b o u, H b = some (.km o u) -> H' b = some (.km o u)
 gD : ∀ b ps, H b = some (.eU ps) -> ∃ more, H' b = some (.eU (ps ++ more))
section
variable {fs Gj ex IT : List Addr} {H H1 H2 : Hp} {h h1 h2 h' : Heap} {a x e : Addr} {o : HO}
theorem Un.any (u : Un fs ex H H1 h h1) {b : Addr} {ob : Obj} (q : h.get? b = some ob) (n : H b = none) (hx : b ∉ ex) : ∃ sl, h1.get? b = some { ob with slots := sl } := by
 by_cases hb : b ∈ fs
 . exact u.slot b ob q n hb hx
 . exact ⟨ob.slots, u.keep b ob q n hb hx⟩
theorem Un.kept (k : ∀ b u, h.get? b = some u -> h'.get? b = some u) : Un fs ex H H h h' :=
 ⟨fun b ob q _ _ _ => k b ob q, fun b ob q _ _ _ => ⟨ob.slots, k b ob q⟩, fun _ _ _ n _ => n, fun b ob q _ => ⟨ob, k b ob q⟩, fun _ _ q => q, fun _ _ _ q => q, fun _ ps q => ⟨#[], by rw [q]; simp⟩⟩
theorem Un.refl : Un fs ex H H h h := Un.kept fun _ _ q => q
theorem Un.laid (k : ∀ b u, h.get? b = some u -> h'.get? b = some u) (hp : h.objs.size <= a) (hn : H a = none) : Un fs ex H (upd H a o) h h' where
 keep := fun b u q _ _ _ => k b u q
 slot := fun b u q _ _ _ => ⟨u.slots, k b u q⟩
 free := fun b u q n _ => by rw [ai (Nat.ne_of_lt (Nat.lt_of_lt_of_le (Heap.lt_size q) hp))]; exact n
 there := fun b u q _ => ⟨u, k b u q⟩
 f7 := fun b xs q => by rw [ai (aw q hn)]; exact q
 fN := fun b u xs q => by rw [ai (aw q hn)]; exact q
 gD := fun b ps q => ⟨#[], by rw [ai (aw q hn), q]; simp⟩
theorem Un.write (mu : AQ (H x)) (he : e = x \/ H e = some (.own x)) (k : ∀ b u, b ≠ e -> h.get? b = some u -> h'.get? b = some u) (vC : ∃ u, h'.get? e = some u) : Un fs ex H (upd H x o) h h' := by
 have hx : ∀ b, H b = none -> b ≠ x := fun b n z => by subst z; rw [n] at mu; exact mu
 have hb : ∀ b, H b = none -> b ≠ e := fun b n z => by
  subst z
  rcases he with r | r
  . exact hx b n r
  . rw [n] at r; cases r
 have hm : ∀ b u, H b = some u -> ¬ AQ (some u) -> b ≠ x := fun b u q nm z => by subst z; rw [q] at mu; exact nm mu
 refine ⟨fun b u q n _ _ => k b u (hb b n) q, fun b u q n _ _ => ⟨u.slots, k b u (hb b n) q⟩, fun b u q n _ => by rw [ai (hx b n)]; exact n, fun b u q _ => ?_,
  fun b xs q => by rw [ai (hm b _ q fun z => z)]; exact q, fun b u xs q => by rw [ai (hm b _ q fun z => z)]; exact q, fun b ps q => ⟨#[], by rw [ai (hm b _ q fun z => z), q]; simp⟩⟩
 by_cases wa : b = e
 . subst wa; exact vC
 . exact ⟨u, k b u wa q⟩
end
def Bm (h : Heap) (H : Hp) : List Addr := (List.range h.objs.size).filter fun a => (H a).isSome
def iA (h : Heap) (H : Hp) : Heap := PySem.W.hideAll h (Bm h H)
theorem n0 (h : Heap) (H : Hp) : (iA h H).objs.size = h.objs.size := PySem.W.hideAll_size _ _
theorem rG {h : Heap} {H : Hp} {b : Addr} {o : Obj} (e : h.get? b = some o) (n : H b = none) : (iA h H).get? b = some o :=
 PySem.W.hideAll_get _ e fun hm => by
  have q : (H b).isSome = true := (List.mem_filter.mp hm).2
  rw [n] at q; simp at q
theorem ui {h : Heap} {H : Hp} {b : Addr} {o : Obj} (e : (iA h H).get? b = some o) : h.get? b = some o /\ H b = none := by
 have e' : h.get? b = some o := PySem.W.of_hideAll (Bm h H) e
 refine ⟨e', ?_⟩
 cases q : H b with
 | none => rfl
 | some x =>
   have hm : b ∈ Bm h H := List.mem_filter.mpr ⟨List.mem_range.mpr (Heap.lt_size e'), by simp [q]⟩
   have z : (iA h H).get? b = none := PySem.W.hideAll_none (Bm h H) hm
   rw [z] at e; cases e
def uv (g h : Heap) (L : Addr) : List (Addr × Obj) := (List.range h.objs.size).filterMap fun a => if a = L \/ (g.get? a).isSome = true then none else (h.get? a).map fun o => (a, o)
def rest (g h : Heap) (L d : Addr) : List (Addr × Obj) := (uv g h L).filter fun p => decide (p.1 ≠ d)
structure Mod (K : PySem.W.Frag) (mg : Str -> Option Value) (base : Heap) : Prop where
 DP : K.In base
 glob : base.Ns mainGlobals mg
 blt : ∃ mb, base.Ns builtinsNs mb /\ ∀ x : Str, x ≠ "__name__" -> mb x = bootBuiltins x
 nolimit : base.NoLimit
structure Cx where
 prog : Program
 w : World
 K : PySem.W.Frag
 mg : Str -> Option Value
 base : Heap
 A : Around
 N : List Str
 bE : Shared
 oZ : Hp
 env : Env
 outer : List Env
 stack : List Env
 ex : List Addr
 fn : Str -> Bool
 calm : Bool
 pn : List (Addr × Obj)
 xe : Value -> Shared -> Prop
def kr (l : List Env) : List Addr := l.filterMap (·.frame)
abbrev Cx.fs (X : Cx) : List Addr := kr X.outer
def yV (sc : Scope) (x : Str) : Prop := sc.names.lookup x = some .local \/ sc.names.lookup x = some .cell \/ sc.names.lookup x = some .free
def Loc (sc : Scope) (x : Str) : Prop := sc.names.lookup x = some .local \/ sc.names.lookup x = some .cell
def Look (env : Env) (h : Heap) (m : Str -> Option Value) (x : Str) (u : Value) : Prop :=
 (env.kindOf x = some .local /\ m x = some u) \/ ((env.kindOf x = some .cell \/ env.kindOf x = some .free) /\ ∃ c, env.cells.lookup x = some c /\ h.IsCell c (some u))
structure Cx.Ok (X : Cx) : Prop where
 mod : Mod X.K X.mg X.base
 kind : X.env.scope.kind = .function
 glob : X.env.globals = mainGlobals
 blt : X.env.builtins = builtinsNs
 above : X.bE.heap.objs.size <= X.env.locals
 inj : ∀ x y c, X.env.cells.lookup x = some c -> X.env.cells.lookup y = some c -> x = y
 has : ∀ x, (X.env.kindOf x = some .cell \/ X.env.kindOf x = some .free) -> ∃ c, X.env.cells.lookup x = some c
 yN : ∀ x c, X.fn x = true -> X.env.cells.lookup x = some c -> X.bE.heap.objs.size <= c
 hd : X.calm = true -> X.A.handled = none
 frames : X.A.frames = some X.stack
 zT : X.stack = X.outer \/ (X.stack = X.env :: X.outer /\ X.env.frame = some X.env.locals)
 A7 : ∀ b ∈ X.ex, b ≠ X.env.locals /\ ∀ x c, X.env.cells.lookup x = some c -> c ≠ b
 bs : ∀ b o, X.base.get? b = some o -> X.bE.heap.get? b = some o /\ X.oZ b = none
 qF : X.base.objs.size <= X.bE.heap.objs.size
 oP : ∀ b o, X.base.get? b = some o -> b ∉ X.ex
 nY : ∀ b ∈ X.ex, b ∉ X.fs
 fg : X.bE.heap.FunFrames X.base X.outer
 sO : ∀ b ∈ X.fs, X.oZ b = none
structure Inv (X : Cx) (pins : List (Addr × Obj)) (σ : List (Option V)) (H : Hp) (s : Shared) : Prop where
 ok : X.Ok
 os : s.os = X.bE.os
 bare : AllBare s.gens
 base : Un X.fs X.ex X.oZ H X.bE.heap s.heap
 loc : ∃ m, s.heap.Ns X.env.locals m /\ ∀ (i : Nat) (x : Str) (v : V), X.N[i]? = some x -> σ[i]? = some (some v) -> yV X.env.scope x -> ∃ u, RelV v u /\ Look X.env s.heap m x u
 cell : ∀ x c, X.env.cells.lookup x = some c -> ∃ v, s.heap.IsCell c v
 free : H X.env.locals = none
 cN : ∀ x c, X.env.cells.lookup x = some c -> H c = none
 pin : ∀ p ∈ X.pn ++ pins, s.heap.get? p.1 = some p.2 /\ H p.1 = none /\ p.1 ≠ X.env.locals /\ p.1 ∉ X.fs /\ ∀ v, p.2.data ≠ .cell v
 aB : eO X.prog X.w H s.heap
 len : σ.length = X.N.length
section
variable {X : Cx} {pins : List (Addr × Obj)} {σ : List (Option V)} {H H' : Hp} {s : Shared} {h' : Heap}
theorem Cx.Ok.C5 (ok : X.Ok) {b : Addr} {o : Obj} (e : X.base.get? b = some o) : b ∉ X.fs := fun hb => by
 have := (ok.fg.mem hb).1
 rw [e] at this; cases this
theorem Inv.bs (I : Inv X pins σ H s) : ∀ b o, X.base.get? b = some o -> s.heap.get? b = some o /\ H b = none := fun b o e =>
 ⟨I.base.keep b o (I.ok.bs b o e).1 (I.ok.bs b o e).2 (I.ok.C5 e) (I.ok.oP b o e), I.base.free b o (I.ok.bs b o e).1 (I.ok.bs b o e).2 (I.ok.oP b o e)⟩
theorem Inv.bk (I : Inv X pins σ H s) : ∀ b o, X.base.get? b = some o -> s.heap.get? b = some o := fun b o e => (I.bs b o e).1
theorem Inv.mod (I : Inv X pins σ H s) : Mod X.K X.mg X.base := I.ok.mod
theorem Inv.jQ (I : Inv X pins σ H s) : X.K.In s.heap := I.ok.mod.DP.keeps I.bk
theorem Inv.nolimit (I : Inv X pins σ H s) : s.heap.NoLimit := I.ok.mod.nolimit.keeps I.bk
theorem Inv.lt (I : Inv X pins σ H s) : X.env.locals < s.heap.objs.size := let ⟨_, hn, _⟩ := I.loc; hn.lt
theorem Inv.sz (I : Inv X pins σ H s) : X.bE.heap.objs.size <= s.heap.objs.size := Nat.le_trans I.ok.above (Nat.le_of_lt I.lt)
theorem Inv.zJ (I : Inv X pins σ H s) {a : Addr} (h : s.heap.objs.size <= a) : a ∉ X.fs := fun hb => by
 obtain ⟨_, o, ho, _⟩ := I.ok.fg.mem hb
 exact absurd (Nat.lt_of_lt_of_le (Heap.lt_size ho) (Nat.le_trans I.sz h)) (Nat.lt_irrefl _)
theorem Inv.xj (I : Inv X pins σ H s) : ∀ x c, X.env.cells.lookup x = some c -> c ≠ X.env.locals := fun x c e z => by
 obtain ⟨v, o, ho, hd⟩ := I.cell x c e
 obtain ⟨m, ⟨o', es, ep, pO, jf, _⟩, _⟩ := I.loc
 rw [z, pO] at ho; cases ho; rw [jf] at hd; cases hd
theorem Inv.fg (I : Inv X pins σ H s) : s.heap.FunFrames X.base X.outer := by
 have all : ∀ (l : List Env), (∀ b ∈ kr l, b ∈ X.fs) -> X.bE.heap.FunFrames X.base l -> s.heap.FunFrames X.base l := by
  intro l
  induction l with
  | nil => intro _ _; trivial
  | cons env r ih =>
    intro hs hl
    obtain ⟨hk, ⟨L, o, hf, hn, ho, hd⟩, hr⟩ := hl
    have hL : L ∈ X.fs := hs L (by unfold kr; rw [List.filterMap_cons, hf]; exact List.mem_cons_self)
    obtain ⟨sl, e⟩ := I.base.slot L o ho (I.ok.sO L hL) hL fun z => I.ok.nY L z hL
    exact ⟨hk, ⟨L, _, hf, hn, e, hd⟩, ih (fun b hb => hs b (by unfold kr; rw [List.filterMap_cons, hf]; exact List.mem_cons_of_mem _ hb)) hr⟩
 exact all X.outer (fun _ hb => hb) I.ok.fg
theorem Inv.stack (I : Inv X pins σ H s) : s.heap.FunFrames X.base X.stack := by
 rcases I.ok.zT with e | ⟨e, hf⟩
 . rw [e]; exact I.fg
 . rw [e]
   obtain ⟨m, hn, _⟩ := I.loc
   refine .cons (by rw [I.ok.kind]; decide) hf hn ?_ I.fg
   exact Heap.get?_none_of_le (Nat.le_trans I.ok.qF I.ok.above)
theorem Inv.lF (I : Inv X pins σ H s) : ∀ b ∈ kr X.stack, b ∈ X.env.locals :: X.fs := fun b hb => by
 rcases I.ok.zT with e | ⟨e, hf⟩
 . rw [e] at hb; exact List.mem_cons_of_mem _ hb
 . rw [e] at hb
   unfold kr at hb
   rw [List.filterMap_cons, hf] at hb
   exact hb
theorem Inv.nB (I : Inv X pins σ H s) : ∀ b ∈ kr X.stack, H b = none := fun b hb => by
 rcases List.mem_cons.mp (I.lF b hb) with e | hb
 . rw [e]; exact I.free
 . obtain ⟨_, o, ho, _⟩ := I.ok.fg.mem hb
   exact I.base.free b o ho (I.ok.sO b hb) fun z => I.ok.nY b z hb
theorem Inv.step {g' : Array GenState} {t' : Nat} {d' : Drawn} {ch : List Addr} (I : Inv X pins σ H s)
 (sr : ∀ b ∈ ch, (b ∈ X.ex \/ X.bE.heap.objs.size <= b) /\ b ≠ X.env.locals /\ (∀ x c, X.env.cells.lookup x = some c -> c ≠ b) /\ ∀ p ∈ X.pn ++ pins, p.1 ≠ b)
 (keep : ∀ b o, b ≠ X.env.locals -> b ∉ X.fs -> b ∉ ch -> s.heap.get? b = some o -> H b = none -> h'.get? b = some o)
 (slot : ∀ b o, b ≠ X.env.locals -> b ∈ X.fs -> b ∉ ch -> s.heap.get? b = some o -> H b = none -> ∃ sl, h'.get? b = some { o with slots := sl }) (free : ∀ b o, b ∉ ch -> s.heap.get? b = some o -> H b = none -> H' b = none)
 (there : ∀ b o, b ∉ ch -> s.heap.get? b = some o -> ∃ o', h'.get? b = some o')
 (f7 : ∀ b xs, H b = some (.tup xs) -> H' b = some (.tup xs)) (fN : ∀ b o u, H b = some (.km o u) -> H' b = some (.km o u)) (gD : ∀ b ps, H b = some (.eU ps) -> ∃ more, H' b = some (.eU (ps ++ more)))
 (ns : ∀ m, s.heap.Ns X.env.locals m -> h'.Ns X.env.locals m) (aB : eO X.prog X.w H' h') (hg : AllBare g') :
 Inv X pins σ H' { s with heap := h', gens := g', drawn := d', toks := t' } := by
 have Bi : ∀ b o, X.bE.heap.get? b = some o -> b ≠ X.env.locals := fun b o e => Nat.ne_of_lt (Nat.lt_of_lt_of_le (Heap.lt_size e) I.ok.above)
 have BA : ∀ b o, X.bE.heap.get? b = some o -> b ∉ X.ex -> b ∉ ch := fun b o e hx hb => by
  rcases (sr b hb).1 with z | z
  . exact hx z
  . exact absurd (Nat.lt_of_lt_of_le (Heap.lt_size e) z) (Nat.lt_irrefl _)
 have cellK : ∀ x c, X.env.cells.lookup x = some c -> ∀ v, s.heap.IsCell c v -> h'.IsCell c v := fun x c e v ⟨o, ho, hd⟩ => by
  have y7 : c ∉ ch := fun z => (sr c z).2.2.1 x c e rfl
  by_cases hc : c ∈ X.fs
  . obtain ⟨sl, q⟩ := slot c o (I.xj x c e) hc y7 ho (I.cN x c e)
    exact ⟨_, q, hd⟩
  . exact ⟨o, keep c o (I.xj x c e) hc y7 ho (I.cN x c e), hd⟩
 refine ⟨I.ok, I.os, hg, ⟨fun b o e n hb hx => ?_, fun b o e n hb hx => ?_, fun b o e n hx => ?_, fun b o e hx => ?_, fun b xs e => f7 b xs (I.base.f7 b xs e), fun b o xs e => fN b o xs (I.base.fN b o xs e), fun b ps e => ?_⟩, ?_, fun x c e => ?_, ?_, fun x c e => ?_, fun p hp => ?_, aB, I.len⟩
 . exact keep b o (Bi b o e) hb (BA b o e hx) (I.base.keep b o e n hb hx) (I.base.free b o e n hx)
 . obtain ⟨sl, e1⟩ := I.base.slot b o e n hb hx
   obtain ⟨Bv, e2⟩ := slot b _ (Bi b o e) hb (BA b o e hx) e1 (I.base.free b o e n hx)
   exact ⟨Bv, e2⟩
 . obtain ⟨o', e1⟩ := I.base.there b o e hx
   exact free b o' (BA b o e hx) e1 (I.base.free b o e n hx)
 . obtain ⟨o', e1⟩ := I.base.there b o e hx
   exact there b o' (BA b o e hx) e1
 . obtain ⟨m1, e1⟩ := I.base.gD b ps e
   obtain ⟨m2, e2⟩ := gD b _ e1
   exact ⟨m1 ++ m2, by rw [e2, Array.append_assoc]⟩
 . obtain ⟨m, hn, hl⟩ := I.loc
   refine ⟨m, ns m hn, fun i x v e1 e2 e3 => ?_⟩
   obtain ⟨u, r, l⟩ := hl i x v e1 e2 e3
   refine ⟨u, r, ?_⟩
   rcases l with l | ⟨k, c, e, z⟩
   . exact .inl l
   . exact .inr ⟨k, c, e, cellK x c e _ z⟩
 . obtain ⟨v, z⟩ := I.cell x c e
   exact ⟨v, cellK x c e v z⟩
 . obtain ⟨m, ⟨o, _, _, ho, _⟩, _⟩ := I.loc
   exact free _ o (fun z => (sr _ z).2.1 rfl) ho I.free
 . obtain ⟨v, o, ho, hd⟩ := I.cell x c e
   exact free c o (fun z => (sr c z).2.2.1 x c e rfl) ho (I.cN x c e)
 . obtain ⟨e, n, ne, nf, d⟩ := I.pin p hp
   have y7 : p.1 ∉ ch := fun z => (sr p.1 z).2.2.2 p hp rfl
   exact ⟨keep p.1 p.2 ne nf y7 e n, free p.1 p.2 y7 e n, ne, nf, d⟩
theorem Inv.un {t' : Nat} (I : Inv X pins σ H s) (u : Un X.fs [] H H' s.heap h') (aB : eO X.prog X.w H' h') : Inv X pins σ H' { s with heap := h', toks := t' } := by
 obtain ⟨m, ⟨o, es, ep, ho, r⟩, _⟩ := id I.loc
 obtain ⟨sl, hL⟩ := u.any ho I.free (by simp)
 exact I.step (g' := s.gens) (d' := s.drawn) (ch := []) (fun _ z => nomatch z) (fun b o _ hb _ e n => u.keep b o e n hb (by simp)) (fun b o _ hb _ e n => u.slot b o e n hb (by simp)) (fun b o _ e n => u.free b o e n (by simp)) (fun b o _ e => u.there b o e (by simp)) u.f7 u.fN u.gD (fun m' hm => by
  obtain ⟨o', BK, Cb, pO, r'⟩ := hm
  rw [ho] at pO; cases pO
  exact ⟨_, BK, Cb, hL, r'⟩) aB I.bare
theorem Inv.call {g' : Array GenState} {t' : Nat} {d' : Drawn} {ch : List Addr} (I : Inv X pins σ H s) (u : Un (kr X.stack) ch H H' s.heap h') (aB : eO X.prog X.w H' h') (hg : AllBare g')
 (sr : ∀ b ∈ ch, (b ∈ X.ex \/ X.bE.heap.objs.size <= b) /\ b ≠ X.env.locals /\ (∀ x c, X.env.cells.lookup x = some c -> c ≠ b) /\ ∀ p ∈ X.pn ++ pins, p.1 ≠ b) :
 Inv X pins σ H' { s with heap := h', gens := g', drawn := d', toks := t' } := by
 obtain ⟨m, ⟨o, es, ep, ho, r⟩, _⟩ := id I.loc
 obtain ⟨sl, hL⟩ := u.any ho I.free fun z => (sr _ z).2.1 rfl
 exact I.step (ch := ch) sr (fun b o hL hb hc e n => u.keep b o e n (fun z => (List.mem_cons.mp (I.lF b z)).elim hL hb) hc) (fun b o _ _ hc e n => u.any e n hc) (fun b o hc e n => u.free b o e n hc) (fun b o hc e => u.there b o e hc) u.f7 u.fN u.gD (fun m' hm => by
  obtain ⟨o', BK, Cb, pO, r'⟩ := hm
  rw [ho] at pO; cases pO
  exact ⟨_, BK, Cb, hL, r'⟩) aB hg
theorem Inv.turned {t' : Nat} {it : Addr} (I : Inv X pins σ H s) (k : ∀ b o, b ≠ it -> s.heap.get? b = some o -> h'.get? b = some o) (hn : H it = none) (hL : it ≠ X.env.locals)
 (h1 : it ∈ X.ex \/ X.bE.heap.objs.size <= it) (h2 : ∀ x c, X.env.cells.lookup x = some c -> c ≠ it) (h3 : ∀ p ∈ X.pn ++ pins, p.1 ≠ it) : Inv X pins σ H { s with heap := h', toks := t' } := by
 have yg : ∀ b u, H b = some u -> b ≠ it := fun b u e z => by rw [z, hn] at e; cases e
 refine I.step (g' := s.gens) (d' := s.drawn) (ch := [it]) (fun b hb => ?_) (fun b o _ _ hc e _ => k b o (fun z => hc (by simp [z])) e) (fun b o _ _ hc e _ => ⟨o.slots, k b o (fun z => hc (by simp [z])) e⟩) (fun _ _ _ _ n => n)
  (fun b o hc e => ⟨o, k b o (fun z => hc (by simp [z])) e⟩) (fun _ _ e => e) (fun _ _ _ e => e) (fun b ps e => ⟨#[], by rw [e]; simp⟩) (fun m hm => ?_) (fun b u e => ?_) I.bare
 . have e : b = it := by simpa using hb
   subst e
   exact ⟨h1, hL, h2, h3⟩
 . obtain ⟨o, es, ep, ho, r⟩ := hm
   exact ⟨o, es, ep, k _ o (Ne.symm hL) ho, r⟩
 . refine (I.aB b u e).jh (fun c v hc q => k c v ?_ q) (fun _ q => q) fun _ _ q => q
   rcases hc with z | z
   . rw [z]; exact yg b u e
   . exact yg c _ z
theorem Inv.tok (I : Inv X pins σ H s) (t : Nat) : Inv X pins σ H { s with toks := t } := I.un (h' := s.heap) (t' := t) Un.refl I.aB
theorem Inv.kept {t' : Nat} (I : Inv X pins σ H s) (k : ∀ b u, s.heap.get? b = some u -> h'.get? b = some u) : Inv X pins σ H { s with heap := h', toks := t' } := I.un (Un.kept k) (I.aB.kept k)
theorem Inv.laid {a : Addr} {o : HO} {t' : Nat} (I : Inv X pins σ H s) (k : ∀ b u, s.heap.get? b = some u -> h'.get? b = some u) (hp : s.heap.objs.size <= a) (new : aP X.prog X.w (upd H a o) h' a o) :
 Inv X pins σ (upd H a o) { s with heap := h', toks := t' } := I.un (Un.laid k hp (I.aB.fresh hp)) (I.aB.laid k hp new)
theorem Inv.write {x e : Addr} {o : HO} {t' : Nat} (I : Inv X pins σ H s) (mu : AQ (H x)) (he : e = x \/ H e = some (.own x)) (k : ∀ b u, b ≠ e -> s.heap.get? b = some u -> h'.get? b = some u) (vC : ∃ u, h'.get? e = some u)
 (new : aP X.prog X.w (upd H x o) h' x o) : Inv X pins σ (upd H x o) { s with heap := h', toks := t' } := I.un (Un.write mu he k vC) (I.aB.write mu he k vC new)
theorem Inv.weak {σ' : List (Option V)} (I : Inv X pins σ H s) (hl : σ'.length = σ.length) (w : ∀ (i : Nat) v, σ'[i]? = some (some v) -> σ[i]? = some (some v)) : Inv X pins σ' H s :=
 ⟨I.ok, I.os, I.bare, I.base, let ⟨m, hn, uB⟩ := I.loc; ⟨m, hn, fun i x v e1 e2 e3 => uB i x v e1 (w i v e2) e3⟩, I.cell, I.free, I.cN, I.pin, I.aB, hl.trans I.len⟩
theorem Inv.cJ {vH : List (Addr × Obj)} (I : Inv X pins σ H s) (h : ∀ p ∈ vH, s.heap.get? p.1 = some p.2 /\ H p.1 = none /\ p.1 ≠ X.env.locals /\ p.1 ∉ X.fs /\ ∀ v, p.2.data ≠ .cell v) : Inv X vH σ H s :=
 ⟨I.ok, I.os, I.bare, I.base, I.loc, I.cell, I.free, I.cN, fun p hp => (List.mem_append.mp hp).elim (fun z => I.pin p (List.mem_append_left _ z)) (h p), I.aB, I.len⟩
theorem j4 {N : List Str} (hN : N.Nodup) {i j : Nat} {x : Str} (a : N[i]? = some x) (b : N[j]? = some x) : i = j := by
 obtain ⟨h1, e1⟩ := List.getElem?_eq_some_iff.mp a
 obtain ⟨h2, e2⟩ := List.getElem?_eq_some_iff.mp b
 exact (List.getElem_inj hN).mp (e1.trans e2.symm)
theorem iS {M : Model} {A : Around} {E : Value -> Shared -> Prop} {i : Nat} {x : Str} {v : V} {u : Value} {Q : Unit -> Shared -> Prop} (I : Inv X pins σ H s) (hN : X.N.Nodup) (hi : X.N[i]? = some x) (hx : Loc X.env.scope x) (r : RelV v u)
 (h : ∀ s', Inv X pins (σ.set i (some v)) H s' -> (∃ a, Heap.SameBut a s.heap s'.heap /\ (a = X.env.locals \/ X.env.cells.lookup x = some a)) -> Q () s') (hf : X.fn x = true \/ X.env.scope.names.lookup x = some .local := by first | exact .inl rfl | exact .inr rfl | assumption) : wpAny M A (storeName X.env x u) Q E s := by
 obtain ⟨m, hn, hl⟩ := id I.loc
 have Dj : (X.env.scope.kind == .class || (X.env.scope.kind == .module && X.env.locals != X.env.globals)) = false := by rw [I.ok.kind]; rfl
 have A9 : i < σ.length := by rw [I.len]; exact (List.getElem?_eq_some_iff.mp hi).1
 have xj := I.xj
 have tracked : ∀ {a : Addr} {h' : Heap}, (∃ o, s.heap.get? a = some o /\ H a = none) -> Heap.SameBut a s.heap h' -> eO X.prog X.w H h' := fun {a h'} ha hs b ob e => by
  obtain ⟨_, _, vp⟩ := ha
  refine (I.aB b ob e).jh (fun c w' hc q => (hs.2 c ?_).trans q) (fun _ q => q) fun _ _ q => q
  rintro rfl
  rcases hc with rfl | hc
  . rw [vp] at e; cases e
  . rw [vp] at hc; cases hc
 rcases hx with hk | hk
 . refine wpAny_storeName_local hk hn (fun h' yP hs => ?_) Dj
   obtain ⟨oL, _, _, k7, _⟩ := id hn
   refine h _ ⟨I.ok, I.os, I.bare, ⟨fun b o e n hb hx => ?_, fun b o e n hb hx => ?_, I.base.free, fun b o e hx => ?_, I.base.f7, I.base.fN, I.base.gD⟩, ⟨_, yP, fun j y v' e1 e2 e3 => ?_⟩, fun y c e => ?_, I.free, I.cN, fun p hp => ?_, tracked ⟨oL, k7, I.free⟩ hs, by simpa using I.len⟩ ⟨_, hs, .inl rfl⟩
   . exact (hs.2 b (Nat.ne_of_lt (Nat.lt_of_lt_of_le (Heap.lt_size e) I.ok.above))).trans (I.base.keep b o e n hb hx)
   . obtain ⟨sl, e1⟩ := I.base.slot b o e n hb hx
     exact ⟨sl, (hs.2 b (Nat.ne_of_lt (Nat.lt_of_lt_of_le (Heap.lt_size e) I.ok.above))).trans e1⟩
   . obtain ⟨o', e1⟩ := I.base.there b o e hx
     exact ⟨o', (hs.2 b (Nat.ne_of_lt (Nat.lt_of_lt_of_le (Heap.lt_size e) I.ok.above))).trans e1⟩
   . by_cases hj : j = i
     . subst hj
       rw [hi] at e1; cases e1
       rw [List.getElem?_set_self A9] at e2
       cases e2
       exact ⟨u, r, .inl ⟨hk, by simp⟩⟩
     . rw [List.getElem?_set_ne (Ne.symm hj)] at e2
       obtain ⟨u', r', q⟩ := hl j y v' e1 e2 e3
       refine ⟨u', r', ?_⟩
       rcases q with ⟨k, e⟩ | ⟨k, c, e, z⟩
       . refine .inl ⟨k, ?_⟩
         have : y ≠ x := fun e => hj (j4 hN e1 (e ▸ hi))
         simp [this, e]
       . exact .inr ⟨k, c, e, z.sameBut hs (xj y c e)⟩
   . obtain ⟨w', z⟩ := I.cell y c e
     exact ⟨w', z.sameBut hs (xj y c e)⟩
   . obtain ⟨e, n, ne, nf, d⟩ := I.pin p hp
     exact ⟨(hs.2 p.1 ne).trans e, n, ne, nf, d⟩
 . have Dh : X.fn x = true := by
    rcases hf with z | z
    . exact z
    . rw [z] at hk; cases hk
   obtain ⟨c, hc⟩ := I.ok.has x (.inl hk)
   obtain ⟨w', z⟩ := I.cell x c hc
   refine wpAny_storeName_cell I.ok.kind hk hc z (fun h' kN hs => ?_)
   obtain ⟨oc, Fm, DT⟩ := id z
   refine h { s with heap := h' } ⟨I.ok, I.os, I.bare, ⟨fun b o e n hb hx => ?_, fun b o e n hb hx => ?_, I.base.free, fun b o e hx => ?_, I.base.f7, I.base.fN, I.base.gD⟩, ⟨m, hn.sameBut hs (Ne.symm (xj x c hc)), fun j y v' e1 e2 e3 => ?_⟩, fun y c' e => ?_, I.free, I.cN, fun p hp => ?_, tracked ⟨oc, Fm, I.cN x c hc⟩ hs, by simpa using I.len⟩ ⟨c, hs, .inr hc⟩
   . exact (hs.2 b (Nat.ne_of_lt (Nat.lt_of_lt_of_le (Heap.lt_size e) (I.ok.yN x c Dh hc)))).trans (I.base.keep b o e n hb hx)
   . obtain ⟨sl, e1⟩ := I.base.slot b o e n hb hx
     exact ⟨sl, (hs.2 b (Nat.ne_of_lt (Nat.lt_of_lt_of_le (Heap.lt_size e) (I.ok.yN x c Dh hc)))).trans e1⟩
   . obtain ⟨o', e1⟩ := I.base.there b o e hx
     exact ⟨o', (hs.2 b (Nat.ne_of_lt (Nat.lt_of_lt_of_le (Heap.lt_size e) (I.ok.yN x c Dh hc)))).trans e1⟩
   . by_cases hj : j = i
     . subst hj
       rw [hi] at e1; cases e1
       rw [List.getElem?_set_self A9] at e2
       cases e2
       exact ⟨u, r, .inr ⟨.inl hk, c, hc, kN⟩⟩
     . rw [List.getElem?_set_ne (Ne.symm hj)] at e2
       obtain ⟨u', r', q⟩ := hl j y v' e1 e2 e3
       refine ⟨u', r', ?_⟩
       rcases q with q | ⟨k, c', e, z'⟩
       . exact .inl q
       . refine .inr ⟨k, c', e, z'.sameBut hs ?_⟩
         rintro rfl
         exact hj (j4 hN e1 (I.ok.inj _ _ _ e hc ▸ hi))
   . by_cases su : c' = c
     . subst su; exact ⟨_, kN⟩
     . obtain ⟨w2, z2⟩ := I.cell y c' e
       exact ⟨w2, z2.sameBut hs su⟩
   . obtain ⟨e, n, ne, nf, d⟩ := I.pin p hp
     refine ⟨(hs.2 p.1 ?_).trans e, n, ne, nf, d⟩
     intro q
     rw [q, Fm] at e
     have q' : oc = p.2 := Option.some.inj e
     exact d w' (by rw [<- q']; exact DT)
theorem kC {M : Model} {A : Around} {E : Value -> Shared -> Prop} {i : Nat} {x : Str} {v : V} {u : Value} {Q : Unit -> Shared -> Prop} (I : Inv X pins σ H s) (hN : X.N.Nodup) (hi : X.N[i]? = some x) (hx : Loc X.env.scope x) (r : RelV v u)
 (h : ∀ s', Inv X pins (σ.set i (some v)) H s' -> Q () s') (hf : X.fn x = true \/ X.env.scope.names.lookup x = some .local := by first | exact .inl rfl | exact .inr rfl | assumption) : wpAny M A (storeName X.env x u) Q E s :=
 iS I hN hi hx r (fun s' I' _ => h s' I') hf
theorem Inv.Ab {s' : Shared} {ch : List Addr} (I : Inv X pins σ H s) (ho : s'.os = s.os) (u : Un (kr X.stack) ch H H' s.heap s'.heap) (aB : eO X.prog X.w H' s'.heap) (hg : AllBare s'.gens)
 (sr : ∀ b ∈ ch, (b ∈ X.ex \/ X.bE.heap.objs.size <= b) /\ b ≠ X.env.locals /\ (∀ x c, X.env.cells.lookup x = some c -> c ≠ b) /\ ∀ p ∈ X.pn ++ pins, p.1 ≠ b) : Inv X pins σ H' s' := by
 obtain ⟨h', g', d', t', o'⟩ := s'
 have e : o' = s.os := ho
 subst e
 exact I.call (g' := g') (t' := t') (d' := d') u aB hg sr
end
abbrev XK := Value -> Option Addr -> Hp -> Prop
abbrev St := List (Option V)
abbrev VK := V -> Hp -> Prop
abbrev TE := St -> Hp -> VK -> Prop
abbrev TT := St -> Hp -> (Bool -> Hp -> Prop) -> Prop
abbrev TA := St -> Hp -> (List V -> Hp -> Prop) -> Prop
structure Ends where
 nx : St -> Hp -> Prop
 rt : VK
 bk : St -> Hp -> Prop := fun _ _ => False
 ct : St -> Hp -> Prop := fun _ _ => False
abbrev TS := Ends -> St -> Hp -> Prop
def EP (X : Cx) (pins : List (Addr × Obj)) (σ : St) (Q : VK) (u : Value) (s' : Shared) : Prop := ∃ v H', Inv X pins σ H' s' /\ RelV v u /\ Q v H'
def TP (X : Cx) (pins : List (Addr × Obj)) (σ : St) (Q : Bool -> Hp -> Prop) (b : Bool) (s' : Shared) : Prop := ∃ H', Inv X pins σ H' s' /\ Q b H'
def AP (X : Cx) (pins : List (Addr × Obj)) (σ : St) (Q : List V -> Hp -> Prop) (us : List Value) (s' : Shared) : Prop := ∃ vs H', Inv X pins σ H' s' /\ Vals vs us /\ Q vs H'
def SP (X : Cx) (pins : List (Addr × Obj)) (D : Ends) (f : Flow) (s' : Shared) : Prop :=
 match f with
 | .next => ∃ σ' H', Inv X pins σ' H' s' /\ D.nx σ' H'
 | .brk => ∃ σ' H', Inv X pins σ' H' s' /\ D.bk σ' H'
 | .cont => ∃ σ' H', Inv X pins σ' H' s' /\ D.ct σ' H'
 | .ret u => ∃ v σ' H', Inv X pins σ' H' s' /\ RelV v u /\ D.rt v H'
def PE (X : Cx) (e : Expr) (t : TE) : Prop :=
 ∀ (pins : List (Addr × Obj)) (s : Shared) (σ : St) (H : Hp) (Q : VK), Inv X pins σ H s -> t σ H Q -> wpAny (model X.prog X.w) X.A (eval e X.env) (EP X pins σ Q) X.xe s
def PT (X : Cx) (e : Expr) (t : TT) : Prop :=
 ∀ (pins : List (Addr × Obj)) (s : Shared) (σ : St) (H : Hp) (Q : Bool -> Hp -> Prop), Inv X pins σ H s -> t σ H Q -> wpAny (model X.prog X.w) X.A (isTrue e X.env (eval e X.env)) (TP X pins σ Q) X.xe s
def PW (X : Cx) (e : Expr) (t : TT) : Prop :=
 ∀ (whole : Sem Value) (pins : List (Addr × Obj)) (s : Shared) (σ : St) (H : Hp) (Q : Bool -> Hp -> Prop), Inv X pins σ H s -> t σ H Q -> wpAny (model X.prog X.w) X.A (isTrue e X.env whole) (TP X pins σ Q) X.xe s
theorem PW.pt {X : Cx} {e : Expr} {t : TT} (h : PW X e t) : PT X e t := h _
def PA (X : Cx) (es : List Expr) (t : TA) : Prop :=
 ∀ (pos : Pos) (pins : List (Addr × Obj)) (s : Shared) (σ : St) (H : Hp) (Q : List V -> Hp -> Prop), Inv X pins σ H s -> t σ H Q -> wpAny (model X.prog X.w) X.A (spliced (backTo pos (starEach es X.env))) (AP X pins σ Q) X.xe s
def PS (X : Cx) (st : Stmt) (t : TS) : Prop :=
 ∀ (pins : List (Addr × Obj)) (s : Shared) (σ : St) (H : Hp) (D : Ends), Inv X pins σ H s -> t D σ H -> wpAny (model X.prog X.w) X.A (exec st X.env) (SP X pins D) X.xe s
def j9 (X : Cx) (st : List Stmt) (t : TS) : Prop :=
 ∀ (pins : List (Addr × Obj)) (s : Shared) (σ : St) (H : Hp) (D : Ends), Inv X pins σ H s -> t D σ H -> wpAny (model X.prog X.w) X.A (execs st X.env) (SP X pins D) X.xe s
theorem bh {α : Type} {t : Sem α} {Q Q' : α -> Shared -> Prop} {M : Model} {A : Around} {E : Value -> Shared -> Prop} {s : Shared} (h : wpAny M A t Q E s) (hQ : ∀ a s, Q a s -> Q' a s) : wpAny M A t Q' E s := wpAny_mono h hQ fun _ _ x => x
section
variable {X : Cx}
def xm (i : Nat) : TE := fun σ H Q => ∃ v, σ[i]? = some (some v) /\ Q v H
def tC (v : V) : TE := fun _ H Q => Q v H
theorem vT {i : Nat} {x : Str} {pos : Pos} (hN : X.N[i]? = some x) (hv : yV X.env.scope x) (hd : (x == ("__debug__" : Str)) = false := by decide) (iE : (x == ("__classdict__" : Str)) = false := by decide) : PE X (.Name x pos) (xm i) := by
 intro pins s σ H Q I h
 obtain ⟨v, e, h⟩ := h
 obtain ⟨m, hn, hl⟩ := I.loc
 obtain ⟨u, r, l⟩ := hl i x v hN e hv
 have fin : EP X pins σ Q u s := ⟨v, H, I, r, h⟩
 rcases l with ⟨hk, hm⟩ | ⟨hk, c, hc, iU⟩
 . exact wpAny_Name (wpAny_loadName_local I.ok.kind hk hn hm fin) hd
 . rcases hk with hk | hk
   . exact wpAny_Name (wpAny_loadName_cell I.ok.kind hk hc iU fin) hd
   . exact wpAny_Name (wpAny_loadName_free I.ok.kind hk hc iU fin iE) hd
theorem af {i j pos} : PE X (.Constant (.int i) j pos) (tC (.int i)) := fun _ _ _ H _ I h => wpAny_Constant_int ⟨.int i, H, I.tok _, ⟨_, rfl⟩, h⟩
theorem nD {b j pos} : PE X (.Constant (.bool b) j pos) (tC (.bl b)) := fun _ _ _ H _ I h => Constant_bool ⟨.bl b, H, I, rfl, h⟩
theorem wA {j pos} : PE X (.Constant .none j pos) (tC .a7) := fun _ _ _ H _ I h => Constant_none ⟨.a7, H, I, rfl, h⟩
theorem my {x j pos} : PE X (.Constant (.str x) j pos) (tC (.str x)) := fun _ _ _ H _ I h => Calls.Constant_str ⟨.str x, H, I.tok _, ⟨_, rfl⟩, h⟩
def Gl (X : Cx) (x : Str) : Prop := X.env.kindOf x = some .globalImplicit
theorem nH {E : Value -> Shared -> Prop} {pins : List (Addr × Obj)} {s : Shared} {σ : St} {H : Hp} {x : Str} {u : Value} {pos : Pos} {Q : Value -> Shared -> Prop} (I : Inv X pins σ H s) (hg : Gl X x) (hm : X.mg x = some u) (h : Q u s)
 (hd : (x == ("__debug__" : Str)) = false := by decide) : wpAny (model X.prog X.w) X.A (eval (.Name x pos) X.env) Q E s :=
 Calls.Name_function_global I.ok.kind hg (Calls.loadGlobal_global (by rw [I.ok.glob]; exact I.mod.glob.keeps I.bk) hm h) hd
theorem cA {E : Value -> Shared -> Prop} {pins : List (Addr × Obj)} {s : Shared} {σ : St} {H : Hp} {x : Str} {u : Value} {pos : Pos} {Q : Value -> Shared -> Prop} (I : Inv X pins σ H s) (hg : Gl X x) (hm : X.mg x = none) (hv : bootBuiltins x = some u) (h : Q u s)
 (hn : x ≠ "__name__" := by decide) (hd : (x == ("__debug__" : Str)) = false := by decide) : wpAny (model X.prog X.w) X.A (eval (.Name x pos) X.env) Q E s := by
 obtain ⟨mb, h1, h2⟩ := I.mod.blt
 exact Calls.Name_function_global I.ok.kind hg (Calls.loadGlobal_builtin (by rw [I.ok.glob]; exact I.mod.glob.keeps I.bk) hm (by rw [I.ok.blt]; exact h1.keeps I.bk) ((h2 x hn).trans hv) h) hd
theorem uq {x : Str} {v : V} {u : Value} {pos : Pos} (hg : Gl X x) (hm : X.mg x = some u) (r : RelV v u) (hd : (x == ("__debug__" : Str)) = false := by decide) : PE X (.Name x pos) (tC v) :=
 fun _ _ _ H _ I h => nH I hg hm ⟨v, H, I, r, h⟩ hd
theorem jO {x : Str} {v : V} {u : Value} {pos : Pos} (hg : Gl X x) (hm : X.mg x = none) (hv : bootBuiltins x = some u) (r : RelV v u) (hn : x ≠ "__name__" := by decide) (hd : (x == ("__debug__" : Str)) = false := by decide) : PE X (.Name x pos) (tC v) :=
 fun _ _ _ H _ I h => cA I hg hm hv ⟨v, H, I, r, h⟩ hn hd
variable {a b : Expr} {ta tb : TE} {pos : Pos}
def PC (X : Cx) (op : CmpOp) (a b : Expr) (t : TE) : Prop :=
 ∀ (pins : List (Addr × Obj)) (s : Shared) (σ : St) (H : Hp) (Q : VK), Inv X pins σ H s -> t σ H Q ->
   wpAny (model X.prog X.w) X.A (eval a X.env) (fun v s₁ => wpAny (model X.prog X.w) X.A (eval b X.env) (fun u s₂ => wpAny (model X.prog X.w) X.A (compareOp op v u) (EP X pins σ Q) X.xe s₂) X.xe s₁) X.xe s
def tB (t : TE) : TT := fun σ H Q => t σ H fun x H1 => ∃ c, x = .bl c /\ Q c H1
theorem w4 {op : CmpOp} {t : TE} (h : PC X op a b t) (h1 : behindInMarks op b = false := by first | exact zC _ (by decide) (by decide) | rfl) : PT X (.Compare a [op] [b] pos) (tB t) := by
 intro pins s σ H Q I hw
 refine wpAny_isTrue_Compare1 (bh (h pins s σ H _ I hw) fun v s1 h1 => bh h1 fun u s2 h2 => bh h2 fun c s3 ⟨x, H1, I1, r1, q1⟩ => ?_) h1
 obtain ⟨d, rfl, q⟩ := q1
 cases r1
 exact wpAny_truthy_bool ⟨H1, I1, q⟩
variable {tA Fy : TT} {rest : List Expr}
def E1 (t u : TT) : TT := fun σ H Q => t σ H fun c H1 => if c = true then Q true H1 else u σ H1 Q
def zb (t : TT) : TT := fun σ H Q => t σ H fun c H1 => Q (!c) H1
theorem rP (ha : PT X a tA) : PW X (.BoolOp .Or [a] pos) tA := by
 intro wh pins s σ H Q I h
 refine isTrue_or (bh (ha pins s σ H Q I h) fun c s1 e => ?_)
 cases c with
 | false => exact isTrue_or_nil e
 | true => exact e
theorem qS (ha : PT X a tA) (hb : PW X (.BoolOp .Or (b :: rest) pos) Fy) : PW X (.BoolOp .Or (a :: b :: rest) pos) (E1 tA Fy) := by
 intro wh pins s σ H Q I h
 refine isTrue_or (bh (ha pins s σ H _ I h) fun c s1 ⟨H1, I1, q1⟩ => ?_)
 cases c with
 | true => exact ⟨H1, I1, q1⟩
 | false => exact hb wh pins s1 σ H1 Q I1 q1
theorem qu (ha : PT X a tA) : PT X (.UnaryOp .Not a pos) (zb tA) := by
 intro pins s σ H Q I h
 exact isTrue_not (ha pins s σ H (fun c H1 => Q (!c) H1) I h)
def uT (ta tb : TE) : TE := fun σ H Q => ta σ H fun x H1 => ∃ c, x = .bl c /\ if c = true then tb σ H1 Q else Q (.bl false) H1
def ve (ta : TE) : TE := fun σ H Q => ta σ H fun x H1 => ∃ c, x = .bl c /\ Q (.bl (!c)) H1
theorem rM {op} {t : TE} (h : PE X a t) : PE X (.BoolOp op [a] pos) t := fun pins s σ H Q I hw => BoolOp_one (h pins s σ H Q I hw)
theorem rn (ha : PE X a ta) (hb : PE X (.BoolOp .And (b :: rest) pos) tb) : PE X (.BoolOp .And (a :: b :: rest) pos) (uT ta tb) := by
 intro pins s σ H Q I h
 refine BoolOp_and (bh (ha pins s σ H _ I h) fun v s1 ⟨x, H1, I1, r1, q1⟩ => ?_)
 obtain ⟨c, rfl, q1⟩ := q1
 cases r1
 refine wpAny_truthy_bool ?_
 cases c with
 | true => exact hb pins s1 σ H1 Q I1 q1
 | false => exact ⟨.bl false, H1, I1, rfl, q1⟩
theorem ye (ha : PE X a ta) : PE X (.UnaryOp .Not a pos) (ve ta) := by
 intro pins s σ H Q I h
 refine UnaryOp_ (bh (ha pins s σ H _ I h) fun v s1 ⟨x, H1, I1, r1, q1⟩ => ?_)
 obtain ⟨c, rfl, q1⟩ := q1
 cases r1
 exact not_of (wpAny_truthy_bool ⟨.bl (!c), H1, I1, rfl, q1⟩)
end
def bF (K : PySem.W.Frag) (H : Hp) (a : Addr) (xs : List V) : Prop :=
 Rd H a (.lst xs) \/
  ∃ (o : Obj) (aq : Array Value) (n : Nat), K.lookup a = some o /\ o.cls = .type "list" /\ o.dict = none /\ o.data = .seq aq n /\ aq.size <= sizeLine /\ Vals xs aq.toList
def lC (K : PySem.W.Frag) (H : Hp) (a : Addr) (xs : List V) : Prop :=
 Rd H a (.tup xs) \/
  ∃ (o : Obj) (aq : Array Value) (n : Nat), K.lookup a = some o /\ o.cls = .type "tuple" /\ o.data = .seq aq n /\ aq.size <= sizeLine /\ Vals xs aq.toList
def D8 : Value -> Option V
 | .none => some .a7
 | .bool b => some (.bl b)
 | .int i _ => some (.int i)
 | .str x _ => some (.str x)
 | .bytes b _ => some (.n5 b)
 | .float b _ => some (.yE b)
 | .ref a => some (.ref a)
 | .type n => some (.ty n)
 | _ => none
theorem RelV.abs {x : V} {u : Value} (r : RelV x u) : D8 u = some x := by
 cases x with
 | a7 => cases r; rfl
 | bl _ => cases r; rfl
 | int _ => obtain ⟨t, rfl⟩ := r; rfl
 | str _ => obtain ⟨t, rfl⟩ := r; rfl
 | n5 _ => obtain ⟨t, rfl⟩ := r; rfl
 | yE _ => obtain ⟨t, rfl⟩ := r; rfl
 | ref _ => cases r; rfl
 | ty _ => cases r; rfl
theorem RelV.inj {x y : V} {u : Value} (r : RelV x u) (q : RelV y u) : x = y := Option.some.inj (r.abs.symm.trans q.abs)
theorem Vals.inj : ∀ {xs ys : List V} {us : List Value}, Vals xs us -> Vals ys us -> xs = ys
 | _, _, _, .nil, .nil => rfl
 | _, _, _, .cons r t, .cons r' t' => by rw [r.inj r', Vals.inj t t']
section
variable {X : Cx} {pins : List (Addr × Obj)} {σ : St} {H : Hp} {s : Shared} {a : Addr} {xs ys : List V}
theorem bF.of {K : PySem.W.Frag} (h : H a = some (.lst xs)) : bF K H a xs := .inl (.inl h)
theorem lC.of {K : PySem.W.Frag} (h : H a = some (.tup xs)) : lC K H a xs := .inl (.inl h)
theorem Inv.list (I : Inv X pins σ H s) (h : bF X.K H a xs) : ∃ aq : List Value, Vals xs aq /\ PlainL s.heap a aq.toArray /\ xs.length <= sizeLine := by
 rcases h with h | ⟨o, aq, n, hk, hc, hd, hs, hz, r⟩
 . obtain ⟨z, aq, n, r, e⟩ := h.ok I.aB
   exact ⟨aq, r, ⟨_, n, e, rfl, rfl, rfl⟩, z⟩
 . refine ⟨aq.toList, r, ⟨o, n, I.jQ a o hk, hc, hd, by simpa using hs⟩, ?_⟩
   have e := r.length
   simp only [Array.length_toList] at e
   omega
theorem Inv.tuple (I : Inv X pins σ H s) (h : lC X.K H a xs) : ∃ aq : List Value, Vals xs aq /\ IsTup s.heap a aq.toArray /\ xs.length <= sizeLine := by
 rcases h with h | ⟨o, aq, n, hk, hc, hs, hz, r⟩
 . obtain ⟨z, aq, r, p⟩ := h.ok I.aB
   exact ⟨aq, r, p, z⟩
 . refine ⟨aq.toList, r, ⟨o, I.jQ a o hk, hc, n, by simpa using hs⟩, ?_⟩
   have e := r.length
   simp only [Array.length_toList] at e
   omega
theorem Inv.kn (I : Inv X pins σ H s) (h : bF X.K H a xs) (h' : bF X.K H a ys) : xs = ys := by
 obtain ⟨aq, r, ⟨o, n, e, _, _, d⟩, _⟩ := I.list h
 obtain ⟨its', r', ⟨o', n', e', _, _, d'⟩, _⟩ := I.list h'
 rw [e] at e'; cases e'
 rw [d] at d'
 injection d' with d1 _
 have : aq = its' := by simpa using congrArg Array.toList d1
 subst this
 exact r.inj r'
end
abbrev Cx.iH (X : Cx) (E : Value -> Shared -> Prop) : Cx := { X with xe := E }
abbrev Cx.yX (X : Cx) : Cx := X.iH fun _ _ => False
theorem Cx.Ok.iH {X : Cx} (ok : X.Ok) (E : Value -> Shared -> Prop) : (X.iH E).Ok :=
 ⟨ok.mod, ok.kind, ok.glob, ok.blt, ok.above, ok.inj, ok.has, ok.yN, ok.hd, ok.frames, ok.zT, ok.A7, ok.bs, ok.qF, ok.oP, ok.nY, ok.fg, ok.sO⟩
theorem Cx.Ok.eh {X : Cx} {E : Value -> Shared -> Prop} (ok : (X.iH E).Ok) : X.Ok :=
 ⟨ok.mod, ok.kind, ok.glob, ok.blt, ok.above, ok.inj, ok.has, ok.yN, ok.hd, ok.frames, ok.zT, ok.A7, ok.bs, ok.qF, ok.oP, ok.nY, ok.fg, ok.sO⟩
section
variable {X : Cx} {pins : List (Addr × Obj)} {σ : St} {H : Hp} {s : Shared} {E : Value -> Shared -> Prop}
theorem Inv.iH (I : Inv X pins σ H s) (E : Value -> Shared -> Prop) : Inv (X.iH E) pins σ H s := ⟨I.ok.iH E, I.os, I.bare, I.base, I.loc, I.cell, I.free, I.cN, I.pin, I.aB, I.len⟩
theorem Inv.eh (I : Inv (X.iH E) pins σ H s) : Inv X pins σ H s := ⟨I.ok.eh, I.os, I.bare, I.base, I.loc, I.cell, I.free, I.cN, I.pin, I.aB, I.len⟩
theorem SP.eh {D : Ends} {f : Flow} {s' : Shared} (h : SP (X.iH E) pins D f s') : SP X pins D f s' := by
 cases f with
 | next => obtain ⟨σ', H', I, q⟩ := h; exact ⟨σ', H', I.eh, q⟩
 | brk => obtain ⟨σ', H', I, q⟩ := h; exact ⟨σ', H', I.eh, q⟩
 | cont => obtain ⟨σ', H', I, q⟩ := h; exact ⟨σ', H', I.eh, q⟩
 | ret u => obtain ⟨v, σ', H', I, r, q⟩ := h; exact ⟨v, σ', H', I.eh, r, q⟩
theorem j9.yX {st : List Stmt} {t : TS} (h : j9 X.yX st t) : j9 X st t := fun pins s σ H D I hw =>
 wpAny_mono (h pins s σ H D (I.iH _) hw) (fun _ _ q => q.eh) fun _ _ z => False.elim z
end
section
variable {X : Cx} {st : Stmt} {rest : List Stmt} {t u : TS} {e : Expr} {te : TE} {pos : Pos}
def vE : TS := fun D σ H => D.nx σ H
theorem cS : j9 X [] vE := fun _ _ σ H _ I h => wpAny_execs_nil ⟨σ, H, I, h⟩
theorem aA (h1 : PS X st t) : j9 X [st] t := by
 intro pins s σ H D I h
 refine wpAny_execs_cons (bh (h1 pins s σ H D I h) fun f s1 q => ?_)
 cases f with
 | next => exact wpAny_execs_nil q
 | ret v => exact q
 | brk => exact q
 | cont => exact q
theorem Inv.quiet {pins : List (Addr × Obj)} {σ : St} {H : Hp} {s : Shared} (I : Inv X pins σ H s) : interactive X.env = false := by simp [interactive, I.ok.kind]
def u5 (te : TE) : TS := fun D σ H => te σ H fun _ H1 => D.nx σ H1
theorem jz (he : PE X e te) (hs : swapsWith e none pos.line X.env = pure false := by rfl) : PS X (.Expr e pos) (u5 te) := by
 intro pins s σ H D I h
 exact wpAny_Expr_any (bh (he pins s σ H _ I h) fun v s1 ⟨x, H1, I1, r1, q1⟩ => ⟨σ, H1, I1, q1⟩) I.quiet hs
def zX (te : TE) : TS := fun D σ H => te σ H D.rt
theorem bw (he : PE X e te) : PS X (.Return (some e) pos) (zX te) := by
 intro pins s σ H D I h
 exact wpAny_Return_some (bh (he pins s σ H _ I h) fun v s1 ⟨x, H1, I1, r1, q1⟩ => ⟨x, σ, H1, I1, r1, q1⟩)
def AK (c : TT) (t u : TS) : TS := fun D σ H => c σ H fun b H1 => if b = true then t D σ H1 else u D σ H1
theorem fV {c : Expr} {a b : List Stmt} {tc : TT} (hc : PT X c tc) (ha : j9 X a t) (hb : j9 X b u) : PS X (.If c a b pos) (AK tc t u) := by
 intro pins s σ H D I h
 refine wpAny_If (bh (hc pins s σ H _ I h) fun d s1 ⟨H1, I1, q1⟩ => ?_)
 cases d with
 | true => exact ha pins s1 σ H1 D I1 q1
 | false => exact hb pins s1 σ H1 D I1 q1
end
abbrev TG := V -> St -> Hp -> (St -> Hp -> Prop) -> Prop
abbrev qz := List V -> St -> Hp -> (St -> Hp -> Prop) -> Prop
def PG (X : Cx) (target : Expr) (t : TG) : Prop :=
 ∀ (pins : List (Addr × Obj)) (s : Shared) (σ : St) (H : Hp) (v : V) (u : Value) (Q : St -> Hp -> Prop), Inv X pins σ H s -> RelV v u -> t v σ H Q ->
   wpAny (model X.prog X.w) X.A (assign target X.env u) (fun _ s' => ∃ σ' H', Inv X pins σ' H' s' /\ Q σ' H') X.xe s
def zF (X : Cx) (ts : List Expr) (t : qz) : Prop :=
 ∀ (pins : List (Addr × Obj)) (s : Shared) (σ : St) (H : Hp) (vs : List V) (us : List Value) (Q : St -> Hp -> Prop), Inv X pins σ H s -> Vals vs us -> t vs σ H Q ->
   wpAny (model X.prog X.w) X.A (assignInOrder ((assignEach ts X.env).map (·.2)) us) (fun _ s' => ∃ σ' H', Inv X pins σ' H' s' /\ Q σ' H') X.xe s
abbrev tZ := V -> V -> V -> Hp -> (Hp -> Prop) -> Prop
def zz (X : Cx) (t : tZ) : Prop :=
 ∀ (pins : List (Addr × Obj)) (s : Shared) (σ : St) (H : Hp) (o i v : V) (ov iv u : Value) (Q : Hp -> Prop), Inv X pins σ H s -> RelV o ov -> RelV i iv -> RelV v u -> t o i v H Q ->
   wpAny (model X.prog X.w) X.A (setItem ov iv u) (fun _ s' => ∃ H', Inv X pins σ H' s' /\ Q H') X.xe s
section
variable {X : Cx} {pos : Pos}
def dc (i : Nat) : TG := fun v σ H Q => Q (σ.set i (some v)) H
theorem aE {i : Nat} {x : Str} (hN : X.N.Nodup) (hi : X.N[i]? = some x) (hx : Loc X.env.scope x) (hf : X.fn x = true \/ X.env.scope.names.lookup x = some .local := by first | exact .inl rfl | exact .inr rfl | assumption) : PG X (.Name x pos) (dc i) := by
 intro pins s σ H v u Q I r h
 exact wpAny_assign_Name (kC I hN hi hx r (fun s' I' => ⟨_, H, I', h⟩) hf)
def sN : qz := fun vs σ H Q => vs = [] /\ Q σ H
def fY (t : TG) (u : qz) : qz := fun vs σ H Q => ∃ v r, vs = v :: r /\ t v σ H fun σ' H' => u r σ' H' Q
theorem gq : zF X [] sN := by
 intro pins s σ H vs us Q I r h
 obtain ⟨e, h⟩ := h
 subst e
 cases r
 exact assignInOrder_nil ⟨σ, H, I, h⟩
theorem aU {e : Expr} {es : List Expr} {t : TG} {u : qz} (h1 : PG X e t) (h2 : zF X es u)
 (hs : (assignEach (e :: es) X.env).map (·.2) = assign e X.env :: (assignEach es X.env).map (·.2) := by rfl) : zF X (e :: es) (fY t u) := by
 intro pins s σ H vs us Q I r h
 obtain ⟨v, vr, e1, h⟩ := h
 subst e1
 cases r with
 | cons r rr =>
   rw [hs]
   refine assignInOrder_cons (bh (h1 pins s σ H _ _ _ I r h) fun _ s1 ⟨σ1, H1, I1, q1⟩ => ?_)
   exact h2 pins s1 σ1 H1 _ _ Q I1 rr q1
def rR (K : PySem.W.Frag) (n : Nat) (t : qz) : TG := fun v σ H Q => ∃ a xs, v = .ref a /\ lC K H a xs /\ xs.length = n /\ t xs σ H Q
theorem kW {es : List Expr} {k : Nat} {t : qz} {n : Nat} (hc : X.calm = true) (h : zF X es t)
 (hn : (assignEach es X.env).length = n := by rfl) (pX : (assignEach es X.env).findIdx? (·.1) = none := by rfl) : PG X (.Tuple es k pos) (rR X.K n t) := by
 intro pins s σ H v u Q I r hw
 obtain ⟨a, xs, e1, hq, hl, hw⟩ := hw
 subst e1
 cases r
 obtain ⟨aq, rv, ht, hz⟩ := I.tuple hq
 refine assign_Tuple_tuple (I.ok.hd hc) ht (by simp [hn, <- hl, rv.length]) pX fun h' hx => ?_
 have I1 : Inv X pins σ H { s with heap := h' } := I.kept (t' := s.toks) fun b o e => hx b o (Nat.ne_of_lt (Heap.lt_size e)) e
 exact h pins _ σ H xs _ Q I1 (by simpa using rv) hw
def An (to ti : TE) (t : tZ) : TG := fun v σ H Q => to σ H fun o H1 => ti σ H1 fun i H2 => t o i v H2 fun H3 => Q σ H3
theorem wz {o i : Expr} {to ti : TE} {t : tZ} (ho : PE X o to) (hi : PE X i ti) (hs : zz X t)
 (ha : ∀ v, assign (.Subscript o i pos) X.env v = (do
  let ov <- holding [v] (eval o X.env)
  let iv <- holding [v, ov] (eval i X.env)
  standAt pos
  holding [v, ov, iv] (setItem ov iv v)
  release [v, ov, iv] []) := by intro _; rfl) : PG X (.Subscript o i pos) (An to ti t) := by
 intro pins s σ H v u Q I r h
 rw [ha]
 refine wpAny_bind (wpAny_holding (bh (ho pins s σ H _ I h) fun ov s1 ⟨x, H1, I1, r1, q1⟩ => ?_))
 refine wpAny_bind (wpAny_holding (bh (hi pins s1 σ H1 _ I1 q1) fun iv s2 ⟨y, H2, I2, r2, q2⟩ => ?_))
 refine wpAny_bind (wpAny_standAt (wpAny_bind (wpAny_holding (bh (hs pins s2 σ H2 x y v ov iv u _ I2 r1 r2 r q2) fun _ s3 ⟨H3, I3, q3⟩ => ?_))))
 exact wpAny_release ⟨σ, H3, I3, q3⟩
def qD (te : TE) (g : TG) : TS := fun D σ H => te σ H fun x H1 => g x σ H1 D.nx
theorem yu {tg e : Expr} {te : TE} {g : TG} (he : PE X e te) (hg : PG X tg g) (hs : swapsWithSole [tg] e pos.line X.env = pure false := by rfl) (hw : swappedStores [tg] e X.env = pure none := by rfl)
 (h1 : (assignEach [tg] X.env).map (·.2) = [assign tg X.env] := by rfl) : PS X (.Assign [tg] e pos) (qD te g) := by
 intro pins s σ H D I h
 refine wpAny_Assign_stores (bh (he pins s σ H _ I h) fun v s1 ⟨x, H1, I1, r1, q1⟩ => ?_) hs hw
 rw [h1]
 exact bh (hg pins s1 σ H1 x v _ I1 r1 q1) fun _ s2 q => q
theorem aC {i : Nat} {x : Str} {e : Expr} {te : TE} {pos' : Pos} (hN : X.N.Nodup) (hi : X.N[i]? = some x) (hx : Loc X.env.scope x) (he : PE X e te) (hs : swapsWith e (some (.Name x pos')) pos.line X.env = pure false := by rfl) (hf : X.fn x = true \/ X.env.scope.names.lookup x = some .local := by first | exact .inl rfl | exact .inr rfl | assumption) :
 PS X (.Assign [.Name x pos'] e pos) (qD te (dc i)) := by
 intro pins s σ H D I h
 refine wpAny_Assign_Name (bh (he pins s σ H _ I h) fun v s1 ⟨y, H1, I1, r1, q1⟩ => ?_) hs
 exact kC I1 hN hi hx r1 (fun s2 I2 => ⟨_, H1, I2, q1⟩) hf
end
section
variable {X : Cx} {pos : Pos}
def qC (c : TT) (tb : TS) : TS := fun D σ H => ∃ W : Nat -> St -> Hp -> Prop, (∃ m, W m σ H) /\ ∀ m σ H, W m σ H ->
 c σ H fun b H1 => if b = true then ∃ N : St -> Hp -> Prop, (∀ σ' H', N σ' H' -> ∃ m', m' < m /\ W m' σ' H') /\ tb { D with nx := N, ct := N, bk := D.nx } σ H1 else D.nx σ H1
theorem qO {c : Expr} {body : List Stmt} {tc : TT} {tb : TS} (hp : PassesOwn (model X.prog X.w) X.A X.env X.xe) (hc : PT X c tc) (hb : j9 X body tb) : PS X (.While c body [] pos) (qC tc tb) := by
 intro pins s σ H D I h
 obtain ⟨W, ⟨m0, w0⟩, turn⟩ := h
 refine wpAny_While (codeAny_whileLoop (fun n s' => ∃ σ' H', Inv X pins σ' H' s' /\ W n σ' H') ?_ m0 ⟨σ, H, I, w0⟩)
 rintro n s1 ⟨σ1, H1, I1, w1⟩
 refine wpAny_passesOwn hp (bh (hc pins s1 σ1 H1 _ I1 (turn n σ1 H1 w1)) fun b s2 ⟨H2, I2, q2⟩ => ?_)
 cases b with
 | true =>
   obtain ⟨N, hN, q2⟩ := q2
   rw [if_pos rfl]
   refine wpAny_passesOwn hp (bh (hb pins s2 σ1 H2 _ I2 q2) fun f s3 q3 => ?_)
   cases f with
   | next =>
     obtain ⟨σ3, H3, I3, n3⟩ := q3
     obtain ⟨m', hm, w3⟩ := hN σ3 H3 n3
     exact ⟨m', hm, σ3, H3, I3, w3⟩
   | cont =>
     obtain ⟨σ3, H3, I3, n3⟩ := q3
     obtain ⟨m', hm, w3⟩ := hN σ3 H3 n3
     exact ⟨m', hm, σ3, H3, I3, w3⟩
   | brk => exact q3
   | ret v => exact q3
 | false =>
   rw [if_neg Bool.false_ne_true]
   exact wpAny_execs_nil ⟨σ1, H2, I2, q2⟩
end
structure It where
 go : Nat -> Hp -> Prop
 wx : Nat -> Hp -> V -> Hp -> Prop
 stop : Nat -> Hp -> Prop
def bC (X : Cx) (pins : List (Addr × Obj)) (H : Hp) (b : Addr) : Prop :=
 H b = none /\ b ≠ X.env.locals /\ b ∉ X.fs /\ (b ∈ X.ex \/ X.bE.heap.objs.size <= b) /\ (∀ x c, X.env.cells.lookup x = some c -> c ≠ b) /\ ∀ p ∈ X.pn ++ pins, p.1 ≠ b
theorem Inv.gg {X : Cx} {pins : List (Addr × Obj)} {σ : St} {H H' : Hp} {s : Shared} {b : Addr} (I : Inv X pins σ H s) (hb : s.heap.objs.size <= b) (hn : H' b = none) : bC X pins H' b := by
 refine ⟨hn, Nat.ne_of_gt (Nat.lt_of_lt_of_le I.lt hb), I.zJ hb, .inr (Nat.le_trans I.sz hb), fun x c e z => ?_, fun p hp z => ?_⟩
 . obtain ⟨v, q⟩ := I.cell x c e
   exact absurd (Nat.lt_of_lt_of_le q.lt (by rw [z]; exact hb)) (Nat.lt_irrefl _)
 . exact absurd (Nat.lt_of_lt_of_le (Heap.lt_size (I.pin p hp).1) (by rw [z]; exact hb)) (Nat.lt_irrefl _)
structure Turn (P : Program) (w : World) (K : PySem.W.Frag) (tg : Expr) (J : It) (fp : List Addr) (it : Addr) (tn : Nat -> Heap -> Prop) : Prop where
 mem : it ∈ fp
 obj : ∀ i h, tn i h -> ∀ b ∈ fp, ∃ o, h.get? b = some o /\ ∀ v, o.data ≠ .cell v
 keep : ∀ i h h', tn i h -> (∀ b ∈ fp, ∀ o, h.get? b = some o -> h'.get? b = some o) -> tn i h'
 item : ∀ (X : Cx), X.prog = P -> X.w = w -> X.K = K -> X.calm = true -> ∀ (i : Nat) (pins : List (Addr × Obj)) (s : Shared) (σ : St) (H : Hp) (E : Value -> Shared -> Prop), Inv X pins σ H s -> (∀ b ∈ fp, bC X pins H b) -> tn i s.heap -> J.go i H ->
  wpAny (model P w) X.A (pyNext (.ref it)) (fun r s1 => ∃ u, r = some u /\
   wpAny (model P w) X.A (letOwnedTupleGo tg (.ref it) u) (fun _ s2 => ∃ x H', Inv X pins σ H' s2 /\ RelV x u /\ J.wx i H x H' /\ tn (i + 1) s2.heap /\ ∀ b ∈ fp, H' b = none) E s1) E s
 done : ∀ (X : Cx), X.prog = P -> X.w = w -> X.K = K -> X.calm = true -> ∀ (i : Nat) (pins : List (Addr × Obj)) (s : Shared) (σ : St) (H : Hp) (E : Value -> Shared -> Prop), Inv X pins σ H s -> (∀ b ∈ fp, bC X pins H b) -> tn i s.heap -> J.stop i H ->
  wpAny (model P w) X.A (pyNext (.ref it)) (fun r s1 => r = none /\ Inv X pins σ H s1) E s
 self : ∀ (A : Around) (i : Nat) (s : Shared) (Q : Value -> Shared -> Prop) (E : Value -> Shared -> Prop), tn i s.heap -> Q (.ref it) s -> wpAny (model P w) A (pyIter (.ref it)) Q E s
abbrev TI := St -> Hp -> (It -> Hp -> Prop) -> Prop
def EV (X : Cx) (pins : List (Addr × Obj)) (σ : St) (tg : Expr) (R : It -> Hp -> Prop) (Bn : Value) (s2 : Shared) : Prop :=
 ∃ (it : Addr) (fp : List Addr) (tn : Nat -> Heap -> Prop) (J : It) (H' : Hp), Bn = .ref it /\ Inv X pins σ H' s2 /\ Turn X.prog X.w X.K tg J fp it tn /\ tn 0 s2.heap /\ (∀ b ∈ fp, bC X pins H' b) /\ R J H'
def PI (X : Cx) (tg iter : Expr) (wi : TI) : Prop :=
 ∀ (pins : List (Addr × Obj)) (s : Shared) (σ : St) (H : Hp) (R : It -> Hp -> Prop), Inv X pins σ H s -> wi σ H R ->
   wpAny (model X.prog X.w) X.A (eval iter X.env) (fun v s1 => wpAny (model X.prog X.w) X.A (pyIter v) (EV X pins σ tg R) X.xe s1) X.xe s
theorem vm {M : Model} {A : Around} {E : Value -> Shared -> Prop} {s : Shared} {tg : Expr} {it : Addr} {u : Value} {o : Obj} {n : String} {vs : Array Value} {Q : Unit -> Shared -> Prop} (ho : s.heap.get? it = some o) (hc : o.cls = .type n) (hd : o.data = .fields vs)
 (hn : ["enumerate", "zip", "dict_itemiterator", "dict_reverseitemiterator", "odict_iterator", "itertools.zip_longest", "itertools.pairwise"].contains n = false) (hQ : Q () s) : wpAny M A (letOwnedTupleGo tg (.ref it) u) Q E s := by
 unfold letOwnedTupleGo
 cases tg <;> first
  | exact wpAny_pure hQ
  | (cases u <;> first
   | exact wpAny_pure hQ
   | (refine wpAny_bind (wpAny_load ho ?_)
      rw [hc, hd]
      show wpAny M A (if (["enumerate", "zip", "dict_itemiterator", "dict_reverseitemiterator", "odict_iterator", "itertools.zip_longest", "itertools.pairwise"].contains n && vs[0]? == some (rawInt _)) = true then _ else _) Q E s
      rw [if_neg (by intro h; rw [hn, Bool.false_and] at h; cases h)]
      exact wpAny_pure hQ))
def sd (K : PySem.W.Frag) (a : Addr) : It :=
 ⟨fun i H => ∃ xs x, bF K H a xs /\ xs[i]? = some x, fun i H x H' => H' = H /\ ∀ xs, bF K H a xs -> xs[i]? = some x, fun i H => ∃ xs, bF K H a xs /\ xs.length <= i⟩
def sF (lo : Int) (n : Nat) : It := ⟨fun i _ => i < n, fun i H x H' => H' = H /\ x = .int (lo + i), fun i _ => n <= i⟩
theorem pz {P : Program} {w : World} {K : PySem.W.Frag} {tg : Expr} (a it : Addr) : Turn P w K tg (sd K a) [it] it (fun i h => h.IsListIter it a i) where
 mem := by simp
 obj := fun i h st b hb => by
  have e : b = it := by simpa using hb
  subst e
  obtain ⟨o, e, c, d⟩ := st
  exact ⟨o, e, fun v z => by rw [d] at z; cases z⟩
 keep := fun i h h' st k => st.at fun o e => k it (by simp) o e
 item := by
  intro X hP hw hK hc i pins s σ H E I hf st hg
  subst hP hw hK
  obtain ⟨xs, x, hq, hx⟩ := hg
  obtain ⟨aq, rv, p, hz⟩ := I.list hq
  obtain ⟨u, hu, ru⟩ := rv.get hx
  obtain ⟨f0, f1, f2, f3, f4, f5⟩ := hf it (by simp)
  refine wpAny_pyNext_list_item st p.isList (x := u) (by simpa using hu) fun h' sg sb => ?_
  have I1 : Inv X pins σ H { s with heap := h' } := I.turned (t' := s.toks) (fun b o hb e => (sb.2 b hb).trans e) f0 f1 f3 f4 f5
  obtain ⟨o, e, c, d⟩ := id sg
  exact ⟨u, rfl, vm (s := { s with heap := h' }) e c d (by decide) ⟨x, H, I1, ru, ⟨rfl, fun ys hy => by rw [I.kn hy hq]; exact hx⟩, sg, fun b hb => (hf b hb).1⟩⟩
 done := by
  intro X hP hw hK hc i pins s σ H E I hf st hg
  subst hP hw hK
  obtain ⟨xs, hq, hx⟩ := hg
  obtain ⟨aq, rv, p, hz⟩ := I.list hq
  obtain ⟨f0, f1, f2, f3, f4, f5⟩ := hf it (by simp)
  have hl := rv.length
  exact wpAny_pyNext_list_end (I.ok.hd hc) st p.isList (by simp; omega) fun h' eb => ⟨rfl, I.turned (t' := s.toks) (fun b o hb e => eb b o hb e) f0 f1 f3 f4 f5⟩
 self := fun _ _ _ _ _ st h => wpAny_pyIter_listiter st h
theorem mn {P : Program} {w : World} {K : PySem.W.Frag} {tg : Expr} (it : Addr) (lo : Int) (n : Nat) : Turn P w K tg (sF lo n) [it] it (fun i h => IsRangeIter h it (lo + (i : Nat) * 1) ((n : Int) - (i : Nat)) 1) where
 mem := by simp
 obj := fun i h st b hb => by
  have e : b = it := by simpa using hb
  subst e
  exact ⟨_, st, fun v z => by
   have z' : Data.fields _ = Data.cell v := z
   cases z'⟩
 keep := fun i h h' st k => k it (by simp) _ st
 item := by
  intro X hP hw hK hc i pins s σ H E I hf st hg
  subst hP hw hK
  obtain ⟨f0, f1, f2, f3, f4, f5⟩ := hf it (by simp)
  have W := Walks.range (prog := X.prog) (w := X.w) (I.ok.hd hc) it lo 1 n
  refine W.item i s _ _ hg st fun v h' tk hv sg kk => ?_
  obtain ⟨t, rfl⟩ := hv
  have I1 : Inv X pins σ H { s with heap := h', toks := tk } := I.turned (fun b o hb e => kk b o (by simpa using hb) e) f0 f1 f3 f4 f5
  refine ⟨_, rfl, vm (s := { s with heap := h', toks := tk }) (n := "range_iterator") sg rfl rfl (by decide) ⟨.int (lo + i), H, I1, ⟨t, ?_⟩, ⟨rfl, rfl⟩, sg, fun b hb => (hf b hb).1⟩⟩
  rw [Int.mul_one]
 done := by
  intro X hP hw hK hc i pins s σ H E I hf st hg
  subst hP hw hK
  obtain ⟨f0, f1, f2, f3, f4, f5⟩ := hf it (by simp)
  exact wpAny_pyNext_range_end (I.ok.hd hc) st (by have : n <= i := hg; omega) fun h' eb => ⟨rfl, I.turned (t' := s.toks) (fun b o hb e => eb b o hb e) f0 f1 f3 f4 f5⟩
 self := fun _ _ _ _ _ st h => wpAny_pyIter_rangeiter st h
section
variable {X : Cx} {tg : Expr}
def pK (K : PySem.W.Frag) (tl : TE) : TI := fun σ H R => tl σ H fun x H1 => ∃ a, x = .ref a /\ (∃ xs, bF K H1 a xs) /\ R (sd K a) H1
theorem bH {l : Expr} {tl : TE} (hl : PE X l tl) : PI X tg l (pK X.K tl) := by
 intro pins s σ H R I h
 refine bh (hl pins s σ H _ I h) fun v s1 ⟨x, H1, I1, r1, q1⟩ => ?_
 obtain ⟨a, e, ⟨xs, hq⟩, q⟩ := q1
 subst e
 cases r1
 obtain ⟨aq, rv, p, hz⟩ := I1.list hq
 refine wpAny_pyIter_list p.isList ?_
 refine ⟨s1.heap.objs.size, [s1.heap.objs.size], _, _, H1, rfl, I1.kept (t' := s1.toks) fun b o e => Heap.get?_push_of_some _ e, pz a _, ⟨_, Heap.get?_push_size _ rfl, rfl, rfl⟩, fun b hb => ?_, q⟩
 have e : b = s1.heap.objs.size := by simpa using hb
 subst e
 exact I1.gg (Nat.le_refl _) (I1.aB.fresh (Nat.le_refl _))
theorem pT {pins : List (Addr × Obj)} {σ : St} {H : Hp} {s : Shared} {R : It -> Hp -> Prop} {E : Value -> Shared -> Prop} {lo hi : Int} {t u v : Tok} {tk : Nat} (I : Inv X pins σ H s) (h1 : -(2 ^ 62) <= lo) (h2 : lo < 2 ^ 62) (h3 : -(2 ^ 62) <= hi) (h4 : hi < 2 ^ 62)
 (q : R (sF lo (hi - lo).toNat) H) : wpAny (model X.prog X.w) X.A (pyIter (.ref s.heap.objs.size)) (EV X pins σ tg R) E { s with heap := s.heap.push { cls := .type "range", data := .fields #[.int lo t, .int hi u, .int 1 v] }, toks := tk } := by
 refine wpAny_pyIter_range (IsRange.new ..) (small_one h1 h2 h3 h4) ?_
 have I1 : Inv X pins σ H { s with heap := s.heap.push { cls := .type "range", data := .fields #[.int lo t, .int hi u, .int 1 v] }, toks := tk } := I.kept fun b o e => Heap.get?_push_of_some _ e
 refine ⟨(s.heap.push { cls := .type "range", data := .fields #[.int lo t, .int hi u, .int 1 v] }).objs.size, [(s.heap.push { cls := .type "range", data := .fields #[.int lo t, .int hi u, .int 1 v] }).objs.size], _, _, H, rfl,
  I1.kept (t' := tk) fun b o e => Heap.get?_push_of_some _ e, mn _ lo (hi - lo).toNat, ?_, fun b hb => ?_, q⟩
 . have e1 : lo + ((0 : Nat) : Int) * 1 = lo := by simp
   have e2 : (((hi - lo).toNat : Nat) : Int) - ((0 : Nat) : Int) = Builtin.Range.rangeSize lo hi 1 := by rw [rangeSize_one]; split <;> omega
   show IsRangeIter _ _ (lo + ((0 : Nat) : Int) * 1) ((((hi - lo).toNat : Nat) : Int) - ((0 : Nat) : Int)) 1
   rw [e1, e2]
   exact Heap.get?_push_size _ rfl
 . have e : b = (s.heap.push { cls := .type "range", data := .fields #[.int lo t, .int hi u, .int 1 v] }).objs.size := by simpa using hb
   subst e
   exact I1.gg (Nat.le_refl _) (I1.aB.fresh (Nat.le_refl _))
def vw (ta : TA) : TI := fun σ H R => ta σ H fun vs H1 => ∃ j : Int, vs = [.int j] /\ -(2 ^ 62) <= j /\ j < 2 ^ 62 /\ R (sF 0 j.toNat) H1
theorem o7 {a : Expr} {ta : TA} {p pos : Pos} (hg : Gl X "range") (hm : X.mg "range" = none) (ha : PA X [a] ta) (hs : starEach [a] X.env = [(false, eval a X.env)] := by rfl) : PI X tg (.Call (.Name "range" p) [a] [] pos) (vw ta) := by
 intro pins s σ H R I h
 refine Call_ (cA I hg hm boot_range (PyProof.Rows.callWith_type1 (bh (ha pos pins s σ H _ I h) fun us s1 ⟨vs, H1, I1, r1, q1⟩ => ?_) hs rfl))
 obtain ⟨j, e, q1, q2, q⟩ := q1
 subst e
 cases r1 with
 | cons r rr =>
   cases rr
   obtain ⟨t, rfl⟩ := r
   exact call_range_1 (pT I1 (by omega) (by omega) q1 q2 (by simpa using q))
def yn (wi : TI) (g : TG) (tb : TS) : TS := fun D σ H => wi σ H fun J H1 => ∃ W : Nat -> Nat -> St -> Hp -> Prop, (∃ m, W 0 m σ H1) /\ ∀ i m σ H, W i m σ H ->
 (J.stop i H /\ D.nx σ H) \/ (J.go i H /\ ∃ N : St -> Hp -> Prop, (∀ σ' H', N σ' H' -> ∃ m', m' < m /\ W (i + 1) m' σ' H') /\ ∀ x H', J.wx i H x H' -> g x σ H' fun σ2 H2 => tb { D with nx := N, ct := N, bk := D.nx } σ2 H2)
def gQ (fp : List Addr) (h : Heap) : List (Addr × Obj) := fp.filterMap fun b => (h.get? b).map fun o => (b, o)
theorem du {fp : List Addr} {h : Heap} {b : Addr} {o : Obj} (hb : b ∈ fp) (e : h.get? b = some o) : (b, o) ∈ gQ fp h := List.mem_filterMap.mpr ⟨b, hb, by rw [e]; rfl⟩
theorem oS {fp : List Addr} {h : Heap} {p : Addr × Obj} (hp : p ∈ gQ fp h) : p.1 ∈ fp /\ h.get? p.1 = some p.2 := by
 obtain ⟨b, hb, e⟩ := List.mem_filterMap.mp hp
 cases q : h.get? b with
 | none => rw [q] at e; cases e
 | some o =>
   rw [q] at e
   have e' : (b, o) = p := Option.some.inj e
   subst e'
   exact ⟨hb, q⟩
theorem Inv.pinned {pins : List (Addr × Obj)} {σ : St} {H : Hp} {s : Shared} {fp : List Addr} (I : Inv X pins σ H s) (hf : ∀ b ∈ fp, bC X pins H b) (ho : ∀ b ∈ fp, ∃ o, s.heap.get? b = some o /\ ∀ v, o.data ≠ .cell v) : Inv X (pins ++ gQ fp s.heap) σ H s :=
 I.cJ fun p hp => (List.mem_append.mp hp).elim (fun z => I.pin p (List.mem_append_right _ z)) fun z => by
  obtain ⟨hb, e⟩ := oS z
  obtain ⟨f0, f1, f2, _⟩ := hf p.1 hb
  obtain ⟨o, e', d⟩ := ho p.1 hb
  rw [e] at e'; cases e'
  exact ⟨e, f0, f1, f2, d⟩
theorem Inv.di {pins pl : List (Addr × Obj)} {σ : St} {H : Hp} {s : Shared} (I : Inv X (pins ++ pl) σ H s) : Inv X pins σ H s := I.cJ fun p hp => I.pin p (List.mem_append_right _ (List.mem_append_left _ hp))
theorem fG {iter : Expr} {body : List Stmt} {wi : TI} {g : TG} {tb : TS} {pos : Pos} (hp : PassesOwn (model X.prog X.w) X.A X.env X.xe) (hc : X.calm = true) (hi : PI X tg iter wi) (hg : PG X tg g) (hb : j9 X body tb)
 (hs : ∀ x, foldedSetIterable iter X.env x = pure x := by intro _; rfl) : PS X (.For tg iter body [] pos) (yn wi g tb) := by
 intro pins s σ H D I h
 refine wpAny_For (bh (hi pins s σ H _ I h) fun v s1 h1 => bh h1 fun Bn s2 h2 => ?_) hs
 obtain ⟨it, fp, tn, J, H2, e, I2, T, G9, f2, W, ⟨m0, w0⟩, turn⟩ := h2
 subst e
 have stat : ∀ {H' : Hp}, (∀ b ∈ fp, H' b = none) -> ∀ b ∈ fp, bC X pins H' b := fun hn b hb => ⟨hn b hb, (f2 b hb).2⟩
 refine codeAny_forLoop_any (fun n s' => ∃ i σ' H', Inv X pins σ' H' s' /\ tn i s'.heap /\ (∀ b ∈ fp, H' b = none) /\ W i n σ' H') ?_ m0 ⟨0, σ, H2, I2, G9, fun b hb => (f2 b hb).1, w0⟩
 rintro n s3 ⟨i, σ3, H3, I3, y0, yZ, w3⟩
 rcases turn i n σ3 H3 w3 with ⟨stop, qn⟩ | ⟨go, N, hN, step⟩
 . refine wpAny_passesOwn hp (bh (T.done X rfl rfl rfl hc i pins s3 σ3 H3 X.xe I3 (stat yZ) y0 stop) fun r s4 ⟨hr, I4⟩ => ?_)
   subst hr
   exact wpAny_execs_nil ⟨σ3, H3, I4, qn⟩
 . refine wpAny_passesOwn hp (bh (T.item X rfl rfl rfl hc i pins s3 σ3 H3 X.xe I3 (stat yZ) y0 go) fun r s4 ⟨u, hr, h4⟩ => ?_)
   subst hr
   refine wpAny_passesOwn hp (bh h4 fun _ s5 ⟨x, H5, I5, r5, y5, x3, Dd⟩ => ?_)
   have CQ := I5.pinned (stat Dd) (T.obj _ _ x3)
   refine wpAny_passesOwn hp (bh (hg _ s5 σ3 H5 x u _ CQ r5 (step x H5 y5)) fun _ s6 ⟨σ6, H6, I6, q6⟩ => ?_)
   refine wpAny_passesOwn hp (bh (hb _ s6 σ6 H6 _ I6 q6) fun f s7 q7 => ?_)
   have again : ∀ {σ7 : St} {H7 : Hp}, Inv X (pins ++ gQ fp s5.heap) σ7 H7 s7 -> N σ7 H7 -> ∃ m, m < n /\ ∃ i σ' H', Inv X pins σ' H' s7 /\ tn i s7.heap /\ (∀ b ∈ fp, H' b = none) /\ W i m σ' H' := fun {σ7 H7} I7 n7 => by
    obtain ⟨m', hm, w7⟩ := hN σ7 H7 n7
    refine ⟨m', hm, i + 1, σ7, H7, I7.di, T.keep _ _ _ x3 fun b hb o e => (I7.pin (b, o) (List.mem_append_right _ (List.mem_append_right _ (du hb e)))).1, fun b hb => ?_, w7⟩
    obtain ⟨o, e, d⟩ := T.obj _ _ x3 b hb
    exact (I7.pin (b, o) (List.mem_append_right _ (List.mem_append_right _ (du hb e)))).2.1
   cases f with
   | next => obtain ⟨σ7, H7, I7, n7⟩ := q7; exact again I7 n7
   | cont => obtain ⟨σ7, H7, I7, n7⟩ := q7; exact again I7 n7
   | brk => obtain ⟨σ7, H7, I7, q7⟩ := q7; exact ⟨σ7, H7, I7.di, q7⟩
   | ret v => obtain ⟨x7, σ7, H7, I7, r7, q7⟩ := q7; exact ⟨x7, σ7, H7, I7.di, r7, q7⟩
end
theorem p7 {K : PySem.W.Frag} {a : Addr} {xs : List V} {g : TG} {tb : TS} {D : Ends} {σ : St} {H : Hp} (Pv : Nat -> St -> Hp -> Prop) (h0 : Pv 0 σ H) (hl : ∀ i σ H, i <= xs.length -> Pv i σ H -> bF K H a xs)
 (hs : ∀ i x σ H, xs[i]? = some x -> Pv i σ H -> g x σ H fun σ2 H2 => tb { D with nx := Pv (i + 1), ct := Pv (i + 1), bk := D.nx } σ2 H2) (hd : ∀ σ H, Pv xs.length σ H -> D.nx σ H) :
 ∃ W : Nat -> Nat -> St -> Hp -> Prop, (∃ m, W 0 m σ H) /\ ∀ i m σ H, W i m σ H ->
   ((sd K a).stop i H /\ D.nx σ H) \/ ((sd K a).go i H /\ ∃ N : St -> Hp -> Prop, (∀ σ' H', N σ' H' -> ∃ m', m' < m /\ W (i + 1) m' σ' H') /\ ∀ x H', (sd K a).wx i H x H' -> g x σ H' fun σ2 H2 => tb { D with nx := N, ct := N, bk := D.nx } σ2 H2) := by
 refine ⟨fun i m σ H => m = xs.length - i /\ i <= xs.length /\ Pv i σ H, ⟨xs.length, by simp, Nat.zero_le _, h0⟩, ?_⟩
 rintro i m σ H ⟨rfl, hi, p⟩
 have q := hl i σ H hi p
 by_cases cz : i < xs.length
 . refine .inr ⟨⟨xs, xs[i], q, by simp [cz]⟩, Pv (i + 1), fun σ' H' p' => ⟨xs.length - (i + 1), by omega, rfl, cz, p'⟩, fun x H' y => ?_⟩
   obtain ⟨e, y⟩ := y
   subst e
   exact hs i x σ _ (y xs q) p
 . have e : i = xs.length := by omega
   subst e
   exact .inl ⟨⟨xs, q, Nat.le_refl _⟩, hd σ H p⟩
theorem og {lo : Int} {n : Nat} {g : TG} {tb : TS} {D : Ends} {σ : St} {H : Hp} (Pv : Nat -> St -> Hp -> Prop) (h0 : Pv 0 σ H)
 (hs : ∀ i σ H, i < n -> Pv i σ H -> g (.int (lo + i)) σ H fun σ2 H2 => tb { D with nx := Pv (i + 1), ct := Pv (i + 1), bk := D.nx } σ2 H2) (hd : ∀ σ H, Pv n σ H -> D.nx σ H) :
 ∃ W : Nat -> Nat -> St -> Hp -> Prop, (∃ m, W 0 m σ H) /\ ∀ i m σ H, W i m σ H ->
   ((sF lo n).stop i H /\ D.nx σ H) \/ ((sF lo n).go i H /\ ∃ N : St -> Hp -> Prop, (∀ σ' H', N σ' H' -> ∃ m', m' < m /\ W (i + 1) m' σ' H') /\ ∀ x H', (sF lo n).wx i H x H' -> g x σ H' fun σ2 H2 => tb { D with nx := N, ct := N, bk := D.nx } σ2 H2) := by
 refine ⟨fun i m σ H => m = n - i /\ i <= n /\ Pv i σ H, ⟨n, by simp, Nat.zero_le _, h0⟩, ?_⟩
 rintro i m σ H ⟨rfl, hi, p⟩
 by_cases cz : i < n
 . refine .inr ⟨cz, Pv (i + 1), fun σ' H' p' => ⟨n - (i + 1), by omega, rfl, cz, p'⟩, fun x H' y => ?_⟩
   obtain ⟨e, y⟩ := y
   subst e y
   exact hs i σ _ cz p
 . have e : i = n := by omega
   subst e
   exact .inl ⟨Nat.le_refl _, hd σ H p⟩
abbrev R2 := V -> V -> Hp -> VK -> Prop
def fD (X : Cx) (f : Value -> Value -> Sem Value) (r : R2) : Prop :=
 ∀ (pins : List (Addr × Obj)) (s : Shared) (σ : St) (H : Hp) (x y : V) (v u : Value) (Q : VK), Inv X pins σ H s -> RelV x v -> RelV y u -> r x y H Q ->
   wpAny (model X.prog X.w) X.A (f v u) (EP X pins σ Q) X.xe s
def bL (X : Cx) (f : Value) (r : List V -> Hp -> VK -> Prop) : Prop :=
 ∀ (pins : List (Addr × Obj)) (s : Shared) (σ : St) (H : Hp) (xs : List V) (us : List Value) (Q : VK), Inv X pins σ H s -> Vals xs us -> r xs H Q ->
   wpAny (model X.prog X.w) X.A (call f us) (EP X pins σ Q) X.xe s
def DC (X : Cx) (r : V -> Hp -> (Bool -> Hp -> Prop) -> Prop) : Prop :=
 ∀ (pins : List (Addr × Obj)) (s : Shared) (σ : St) (H : Hp) (x : V) (v : Value) (Q : Bool -> Hp -> Prop), Inv X pins σ H s -> RelV x v -> r x H Q ->
   wpAny (model X.prog X.w) X.A (truthy v) (TP X pins σ Q) X.xe s
def y9 (r : R2) (ta tb : TE) : TE := fun σ H Q => ta σ H fun x H1 => tb σ H1 fun y H2 => r x y H2 Q
def rI (C : Int -> Int -> Prop) (g : Int -> Int -> V) : R2 := fun x y H Q => ∃ i j, x = .int i /\ y = .int j /\ C i j /\ Q (g i j) H
def xU (g : Int -> Int -> V) : R2 := fun x y H Q => ∃ i j, x = .int i /\ y = .int j /\ Q (g i j) H
section
variable {X : Cx} {a b c : Expr} {ta tb tc : TE} {pos : Pos}
theorem xt (ha : PE X a ta) (hb : PE X b tb) {pins : List (Addr × Obj)} {s : Shared} {σ : St} {H : Hp} {R : V -> V -> Hp -> Prop} (I : Inv X pins σ H s)
 (h : ta σ H fun x H1 => tb σ H1 fun y H2 => R x y H2) {Q : Value -> Shared -> Prop} {f : Value -> Value -> Sem Value}
 (hf : ∀ v u s2 x y H2, Inv X pins σ H2 s2 -> RelV x v -> RelV y u -> R x y H2 -> wpAny (model X.prog X.w) X.A (f v u) Q X.xe s2) :
 wpAny (model X.prog X.w) X.A (eval a X.env) (fun v s₁ => wpAny (model X.prog X.w) X.A (eval b X.env) (fun u s₂ => wpAny (model X.prog X.w) X.A (f v u) Q X.xe s₂) X.xe s₁) X.xe s := by
 refine bh (ha pins s σ H _ I h) fun v s1 ⟨x, H1, I1, r1, q1⟩ => ?_
 refine bh (hb pins s1 σ H1 _ I1 q1) fun u s2 ⟨y, H2, I2, r2, q2⟩ => ?_
 exact hf v u s2 x y H2 I2 r1 r2 q2
theorem ag {op : Operator} {r : R2} (ho : fD X (binaryOp op) r) (ha : PE X a ta) (hb : PE X b tb) : PE X (.BinOp a op b pos) (y9 r ta tb) := by
 intro pins s σ H Q I h
 exact wpAny_BinOp (xt ha hb I h fun v u s2 x y H2 I2 rx ry q => ho pins s2 σ H2 x y v u Q I2 rx ry q)
theorem BI {f : Value -> Value -> Sem Value} {C : Int -> Int -> Prop} {g : Int -> Int -> Int}
 (rule : ∀ (i j : Int) (t u : Tok) (s : Shared) (Q : Value -> Shared -> Prop) (E : Value -> Shared -> Prop), C i j -> Q (.int (g i j) s.toks) { s with toks := s.toks + 1 } -> wpAny (model X.prog X.w) X.A (f (.int i t) (.int j u)) Q E s) :
 fD X f (rI C fun i j => .int (g i j)) := by
 intro pins s σ H x y v u Q I rx ry h
 obtain ⟨i, j, rfl, rfl, hc, q⟩ := h
 obtain ⟨t, rfl⟩ := rx
 obtain ⟨t', rfl⟩ := ry
 exact rule i j t t' s _ _ hc ⟨.int (g i j), H, I.tok _, ⟨_, rfl⟩, q⟩
theorem y1 {f : Value -> Value -> Sem Value} {g : Int -> Int -> Int}
 (rule : ∀ (i j : Int) (t u : Tok) (s : Shared) (Q : Value -> Shared -> Prop) (E : Value -> Shared -> Prop), Q (.int (g i j) s.toks) { s with toks := s.toks + 1 } -> wpAny (model X.prog X.w) X.A (f (.int i t) (.int j u)) Q E s) :
 fD X f (xU fun i j => .int (g i j)) := by
 intro pins s σ H x y v u Q I rx ry h
 obtain ⟨i, j, rfl, rfl, q⟩ := h
 obtain ⟨t, rfl⟩ := rx
 obtain ⟨t', rfl⟩ := ry
 exact rule i j t t' s _ _ ⟨.int (g i j), H, I.tok _, ⟨_, rfl⟩, q⟩
theorem AY {f : Value -> Value -> Sem Value} {g : Int -> Int -> Bool}
 (rule : ∀ (i j : Int) (t u : Tok) (s : Shared) (Q : Value -> Shared -> Prop) (E : Value -> Shared -> Prop), Q (.bool (g i j)) s -> wpAny (model X.prog X.w) X.A (f (.int i t) (.int j u)) Q E s) :
 fD X f (xU fun i j => .bl (g i j)) := by
 intro pins s σ H x y v u Q I rx ry h
 obtain ⟨i, j, rfl, rfl, q⟩ := h
 obtain ⟨t, rfl⟩ := rx
 obtain ⟨t', rfl⟩ := ry
 exact rule i j t t' s _ _ ⟨.bl (g i j), H, I, rfl, q⟩
def xR (i j : Int) : Prop := 0 <= j /\ j <= 1000000 /\ i.natAbs < 2 ^ 64
theorem bP : fD X (binaryOp .Add) (xU fun i j => .int (i + j)) := y1 fun _ _ _ _ _ _ _ q => add_int q
theorem ib : fD X (binaryOp .Sub) (xU fun i j => .int (i - j)) := y1 fun _ _ _ _ _ _ _ q => sub_int q
theorem xE : fD X (binaryOp .Mod) (rI (fun _ j => 0 < j) fun i j => .int (i % j)) := BI fun i j _ _ _ _ _ hc q => by
 have h1 : (0 : Int) < j := hc
 exact mod_int' (by omega) (by rw [Int.fmod_eq_emod_of_nonneg i (by omega)]; exact q)
theorem g4 : fD X (binaryOp .Pow) (rI xR fun i j => .int (i ^ j.toNat)) := BI fun _ _ _ _ _ _ _ hc q => pow_int_small hc.1 hc.2.1 hc.2.2 q
end
def tW : V -> V -> Bool
 | .a7, .a7 => true | .a7, .int _ => true | .int _, .a7 => true | .a7, .bl _ => true | .bl _, .a7 => true | .a7, .str _ => true | .str _, .a7 => true
 | .int _, .int _ => true | .bl _, .bl _ => true | .str _, .str _ => true | .n5 _, .n5 _ => true
 | .int _, .str _ => true | .str _, .int _ => true | .bl _, .str _ => true | .str _, .bl _ => true
 | _, _ => false
def Gy : R2 := fun x y H Q => tW x y = true /\ Q (.bl (decide (x = y))) H
def FQ : R2 := fun x y H Q => tW x y = true /\ Q (.bl (!decide (x = y))) H
theorem nF {i j : Int} : decide (V.int i = V.int j) = (i == j) := by
 rw [Bool.eq_iff_iff]
 simp
theorem rl {i j : Bool} : decide (V.bl i = V.bl j) = (i == j) := by
 rw [Bool.eq_iff_iff]
 simp
theorem mM {i j : Str} : decide (V.str i = V.str j) = (i == j) := by
 rw [Bool.eq_iff_iff]
 simp
theorem nT {i j : Array UInt8} : decide (V.n5 i = V.n5 j) = (i.toList == j.toList) := by
 rw [Bool.eq_iff_iff]
 cases i
 cases j
 simp
section
variable {X : Cx} {a b c : Expr} {ta tb tc : TE} {pos : Pos}
theorem aD {pins : List (Addr × Obj)} {σ : St} {H : Hp} {s : Shared} {Q : VK} {k k' : Bool} (I : Inv X pins σ H s) (q : Q (.bl k) H) (e : k = k') : EP X pins σ Q (.bool k') s := by
 subst e
 exact ⟨.bl k, H, I, rfl, q⟩
theorem A8 : fD X (compareOp .Eq) Gy := by
 intro pins s σ H x y v u Q I rx ry h
 obtain ⟨hs, q⟩ := h
 cases x with
 | a7 =>
   cases rx
   cases y with
   | a7 => cases ry; exact PySem.EqNone.eq_none_none (aD I q (by simp))
   | bl j => cases ry; exact PySem.EqNone.eq_none_bool (aD I q (by simp))
   | int j => obtain ⟨t', rfl⟩ := ry; exact PySem.EqNone.eq_none_int (aD I q (by simp))
   | str j => obtain ⟨t', rfl⟩ := ry; exact PySem.EqNone.eq_none_str (aD I q (by simp))
   | _ => exact absurd (show false = true from hs) Bool.false_ne_true
 | bl i =>
   cases rx
   cases y with
   | a7 => cases ry; exact PySem.EqNone.eq_bool_none (aD I q (by simp))
   | bl j => cases ry; exact eq_bool (aD I q rl)
   | str j => obtain ⟨t', rfl⟩ := ry; exact PySem.EqMixed.eq_bool_str (aD I q (by simp))
   | _ => exact absurd (show false = true from hs) Bool.false_ne_true
 | int i =>
   obtain ⟨t, rfl⟩ := rx
   cases y with
   | a7 => cases ry; exact PySem.EqNone.eq_int_none (aD I q (by simp))
   | int j => obtain ⟨t', rfl⟩ := ry; exact eq_int (aD I q nF)
   | str j => obtain ⟨t', rfl⟩ := ry; exact PySem.EqMixed.eq_int_str (aD I q (by simp))
   | _ => exact absurd (show false = true from hs) Bool.false_ne_true
 | str i =>
   obtain ⟨t, rfl⟩ := rx
   cases y with
   | a7 => cases ry; exact PySem.EqNone.eq_str_none (aD I q (by simp))
   | bl j => cases ry; exact PySem.EqMixed.eq_str_bool (aD I q (by simp))
   | int j => obtain ⟨t', rfl⟩ := ry; exact PySem.EqMixed.eq_str_int (aD I q (by simp))
   | str j => obtain ⟨t', rfl⟩ := ry; exact eq_str (aD I q mM)
   | _ => exact absurd (show false = true from hs) Bool.false_ne_true
 | n5 i =>
   obtain ⟨t, rfl⟩ := rx
   cases y with
   | n5 j => obtain ⟨t', rfl⟩ := ry; exact PySem.W.eq_bytes (aD I q nT)
   | _ => exact absurd (show false = true from hs) Bool.false_ne_true
 | _ => cases y <;> exact absurd (show false = true from hs) Bool.false_ne_true
theorem zL : fD X (compareOp .NotEq) FQ := by
 intro pins s σ H x y v u Q I rx ry h
 obtain ⟨hs, q⟩ := h
 cases x with
 | a7 =>
   cases rx
   cases y with
   | a7 => cases ry; exact PySem.EqNone.ne_none_none (aD I q (by simp))
   | bl j => cases ry; exact PySem.EqNone.ne_none_bool (aD I q (by simp))
   | int j => obtain ⟨t', rfl⟩ := ry; exact PySem.EqNone.ne_none_int (aD I q (by simp))
   | str j => obtain ⟨t', rfl⟩ := ry; exact PySem.EqNone.ne_none_str (aD I q (by simp))
   | _ => exact absurd (show false = true from hs) Bool.false_ne_true
 | bl i =>
   cases rx
   cases y with
   | a7 => cases ry; exact PySem.EqNone.ne_bool_none (aD I q (by simp))
   | bl j => cases ry; exact ne_bool (aD I q (congrArg not rl))
   | str j => obtain ⟨t', rfl⟩ := ry; exact PySem.EqMixed.ne_bool_str (aD I q (by simp))
   | _ => exact absurd (show false = true from hs) Bool.false_ne_true
 | int i =>
   obtain ⟨t, rfl⟩ := rx
   cases y with
   | a7 => cases ry; exact PySem.EqNone.ne_int_none (aD I q (by simp))
   | int j => obtain ⟨t', rfl⟩ := ry; exact ne_int (aD I q (congrArg not nF))
   | str j => obtain ⟨t', rfl⟩ := ry; exact PySem.EqMixed.ne_int_str (aD I q (by simp))
   | _ => exact absurd (show false = true from hs) Bool.false_ne_true
 | str i =>
   obtain ⟨t, rfl⟩ := rx
   cases y with
   | a7 => cases ry; exact PySem.EqNone.ne_str_none (aD I q (by simp))
   | bl j => cases ry; exact PySem.EqMixed.ne_str_bool (aD I q (by simp))
   | int j => obtain ⟨t', rfl⟩ := ry; exact PySem.EqMixed.ne_str_int (aD I q (by simp))
   | str j => obtain ⟨t', rfl⟩ := ry; exact ne_str (aD I q (congrArg not mM))
   | _ => exact absurd (show false = true from hs) Bool.false_ne_true
 | n5 i =>
   obtain ⟨t, rfl⟩ := rx
   cases y with
   | n5 j => obtain ⟨t', rfl⟩ := ry; exact PySem.W.ne_bytes (aD I q (congrArg not nT))
   | _ => exact absurd (show false = true from hs) Bool.false_ne_true
 | _ => cases y <;> exact absurd (show false = true from hs) Bool.false_ne_true
theorem vB : fD X (compareOp .Lt) (xU fun i j => .bl (decide (i < j))) := AY fun _ _ _ _ _ _ _ q => lt_int q
theorem iP : fD X (compareOp .LtE) (xU fun i j => .bl (decide (i <= j))) := AY fun _ _ _ _ _ _ _ q => le_int q
theorem cX (b : Expr) {op : CmpOp} (h : op ≠ .In := by decide) (h2 : op ≠ .NotIn := by decide) : behindInMarks op b = false := by
 have e1 : (op == CmpOp.In) = false := by cases op <;> first | rfl | exact absurd rfl h
 have e2 : (op == CmpOp.NotIn) = false := by cases op <;> first | rfl | exact absurd rfl h2
 cases b <;> simp [behindInMarks, e1, e2]
theorem nG {op : CmpOp} {r : R2} (ho : fD X (compareOp op) r) (ha : PE X a ta) (hb : PE X b tb) (hm : behindInMarks op b = false) : PE X (.Compare a [op] [b] pos) (y9 r ta tb) := by
 intro pins s σ H Q I h
 exact wpAny_Compare1 (xt ha hb I h fun v u s2 x y H2 I2 rx ry q => ho pins s2 σ H2 x y v u Q I2 rx ry q) hm
def qq (t : TE) : TT := fun σ H Q => t σ H fun x H' => ∃ k, x = .bl k /\ Q k H'
theorem cQ {op : CmpOp} {r : R2} (ho : fD X (compareOp op) r) (ha : PE X a ta) (hb : PE X b tb) (hm : behindInMarks op b = false) : PT X (.Compare a [op] [b] pos) (qq (y9 r ta tb)) := by
 intro pins s σ H Q I h
 refine wpAny_isTrue_Compare1 (bh (ha pins s σ H _ I h) fun v s1 ⟨x, H1, I1, r1, q1⟩ => bh (hb pins s1 σ H1 _ I1 q1) fun u s2 ⟨y, H2, I2, r2, q2⟩ =>
  bh (ho pins s2 σ H2 x y v u _ I2 r1 r2 q2) fun c s3 ⟨z, H3, I3, r3, k, e, q3⟩ => ?_) hm
 subst e
 cases r3
 exact wpAny_truthy_bool ⟨H3, I3, q3⟩
def q0 (r r' : R2) (ta tb tc : TE) : TE := fun σ H Q => ta σ H fun x H1 => tb σ H1 fun y H2 => r x y H2 fun z H3 => ∃ k, z = .bl k /\
 (if k = true then tc σ H3 fun w' H4 => r' y w' H4 Q else Q (.bl false) H3)
theorem gX {op CZ : CmpOp} {r r' : R2} (ho : fD X (compareOp op) r) (pO : fD X (compareOp CZ) r') (ha : PE X a ta) (hb : PE X b tb) (hc : PE X c tc)
 (hm : lastMarks [op, CZ] [b, c] = false := by with_unfolding_all rfl) : PT X (.Compare a [op, CZ] [b, c] pos) (qq (q0 r r' ta tb tc)) := by
 intro pins s σ H Q I h
 refine isTrue_chain (bh (ha pins s σ H _ I h) fun v s1 ⟨x, H1, I1, r1, q1⟩ => test_link (bh (hb pins s1 σ H1 _ I1 q1) fun u s2 ⟨y, H2, I2, r2, q2⟩ =>
  bh (ho pins s2 σ H2 x y v u _ I2 r1 r2 q2) fun d s3 ⟨z, H3, I3, r3, k, e, q3⟩ => ?_)) hm
 subst e
 cases r3
 refine wpAny_truthy_bool ?_
 cases k with
 | false =>
   obtain ⟨k', e', q'⟩ := q3
   cases e'
   exact ite_ff ⟨H3, I3, q'⟩
 | true =>
   refine ite_tt (test_last (bh (hc pins s3 σ H3 _ I3 q3) fun w' s4 ⟨z', H4, I4, r4, q4⟩ => bh (pO pins s4 σ H4 y z' u w' _ I4 r2 r4 q4) fun d' s5 ⟨z2, H5, I5, r5, k2, e2, q5⟩ => ?_))
   subst e2
   cases r5
   exact wpAny_truthy_bool ⟨H5, I5, q5⟩
def xA (K : PySem.W.Frag) (x : V) (H : Hp) (k : Bool) : Prop :=
 match x with
 | .a7 => k = false
 | .bl b => k = b
 | .int i => k = (i != 0)
 | .str y => y.length <= sizeLine /\ k = ((y.length : Int) != 0)
 | .n5 y => y.size <= sizeLine /\ k = ((y.size : Int) != 0)
 | .ref p => (∃ xs, bF K H p xs /\ k = !xs.isEmpty) \/ (∃ xs, lC K H p xs /\ k = !xs.isEmpty) \/ ∃ ao, H p = some (.dK ao) /\ k = !ao.isEmpty
 | _ => False
theorem lD {κ : Type} {ao : List (κ × V)} {vs : List (κ × Value)} (r : KV ao vs) : (!vs.isEmpty) = !ao.isEmpty := by
 cases r <;> rfl
theorem ig {xs : List V} {aq : List Value} (r : Vals xs aq) : (!aq.toArray.isEmpty) = !xs.isEmpty := by
 cases r <;> simp
theorem eV : (sizeLine : Nat) < 2 ^ 63 := by rw [sizeLine_eq]; decide
theorem wO : DC X (fun x H Q => ∃ k, xA X.K x H k /\ Q k H) := by
 intro pins s σ H x v Q I rx h
 obtain ⟨k, e, q⟩ := h
 have hl := eV
 have hs : sizeLine = 16777216 := sizeLine_eq
 cases x with
 | a7 =>
   cases rx
   have e' : k = false := e
   subst e'
   exact truthy_none ⟨H, I, q⟩
 | bl b =>
   cases rx
   have e' : k = b := e
   subst e'
   exact wpAny_truthy_bool ⟨H, I, q⟩
 | int i =>
   obtain ⟨t, rfl⟩ := rx
   have e' : k = (i != 0) := e
   subst e'
   exact PySem.P.truthy_int ⟨H, I, q⟩
 | str y =>
   obtain ⟨t, rfl⟩ := rx
   obtain ⟨hy, e'⟩ : y.length <= sizeLine /\ k = ((y.length : Int) != 0) := e
   subst e'
   exact PySem.P.truthy_str (by omega) ⟨H, I.tok _, q⟩
 | n5 y =>
   obtain ⟨t, rfl⟩ := rx
   obtain ⟨hy, e'⟩ : y.size <= sizeLine /\ k = ((y.size : Int) != 0) := e
   subst e'
   exact PySem.W.truthy_bytes (by omega) ⟨H, I.tok _, q⟩
 | ref p =>
   cases rx
   have e' : (∃ xs, bF X.K H p xs /\ k = !xs.isEmpty) \/ (∃ xs, lC X.K H p xs /\ k = !xs.isEmpty) \/ ∃ ao, H p = some (.dK ao) /\ k = !ao.isEmpty := e
   rcases e' with ⟨xs, hx, e'⟩ | ⟨xs, hx, e'⟩ | ⟨ao, hx, e'⟩
   . subst e'
     obtain ⟨aq, r, pl, hz⟩ := I.list hx
     have hlen := r.length
     exact wpAny_truthy_list pl.isList (by simp only [List.size_toArray]; omega) ⟨H, I.tok _, by rw [ig r]; exact q⟩
   . subst e'
     obtain ⟨aq, r, pl, hz⟩ := I.tuple hx
     have hlen := r.length
     exact truthy_tuple pl (by simp only [List.size_toArray]; omega) ⟨H, I.tok _, by rw [ig r]; exact q⟩
   . subst e'
     obtain ⟨hz, hS, vs, r, m⟩ : ao.length <= sizeLine /\ (p == sysModules) = false /\ ∃ vs, KV ao vs /\ s.heap.DictOf (bp X.prog X.w) p vs := I.aB p _ hx
     have hlen : ao.length = vs.length := Paired.length r
     exact wpAny_truthy_dict hS m (by omega) ⟨H, I.tok _, by rw [lD r]; exact q⟩
 | _ => exact (show False from e).elim
theorem ke (ha : PE X a ta) (he : ∀ whole, isTrue a X.env whole = (do let v <- whole; standAt a.pos; holding [v] (truthy v))) :
 PT X a (fun σ H Q => ta σ H fun x H' => ∃ k, xA X.K x H' k /\ Q k H') := by
 intro pins s σ H Q I h
 exact isTrue_plain (bh (ha pins s σ H _ I h) fun v s1 ⟨x, H1, I1, r1, q1⟩ => wO pins s1 σ H1 x v Q I1 r1 q1) (he _)
theorem kY : fD X (binaryOp .Add) (fun x y H Q => ∃ i j, x = .str i /\ y = .str j /\ i.length + j.length <= sizeLine /\ Q (.str (i ++ j)) H) := by
 intro pins s σ H x y v u Q I rx ry h
 obtain ⟨i, j, rfl, rfl, hz, q⟩ := h
 obtain ⟨t, rfl⟩ := rx
 obtain ⟨t', rfl⟩ := ry
 exact add_str (fun t' tk => ⟨.str (i ++ j), H, I.tok _, ⟨_, rfl⟩, q⟩) hz
theorem vals1 {x : V} {us : List Value} (r : Vals [x] us) : ∃ u, us = [u] /\ RelV x u := by
 cases r with
 | cons r1 r2 => cases r2; exact ⟨_, rfl, r1⟩
theorem vals2 {x y : V} {us : List Value} (r : Vals [x, y] us) : ∃ u w', us = [u, w'] /\ RelV x u /\ RelV y w' := by
 cases r with
 | cons r1 r2 =>
   cases r2 with
   | cons r3 r4 => cases r4; exact ⟨_, _, rfl, r1, r3⟩
theorem pk (hc : X.calm = true) : bL X (.builtin "max") (fun xs H Q => ∃ i j, xs = [.int i, .int j] /\ Q (.int (if j > i then j else i)) H) := by
 intro pins s σ H xs us Q I r h
 obtain ⟨i, j, rfl, q⟩ := h
 obtain ⟨u, w', rfl, ⟨t, rfl⟩, ⟨t', rfl⟩⟩ := vals2 r
 refine max_two_ints (I.ok.hd hc) fun h' tk k => ⟨_, H, I.kept k, ?_, q⟩
 by_cases hj : j > i
 . rw [if_pos hj, if_pos hj]; exact ⟨_, rfl⟩
 . rw [if_neg hj, if_neg hj]; exact ⟨_, rfl⟩
theorem pB (hc : X.calm = true) : bL X (.builtin "min") (fun xs H Q => ∃ i j, xs = [.int i, .int j] /\ Q (.int (if j < i then j else i)) H) := by
 intro pins s σ H xs us Q I r h
 obtain ⟨i, j, rfl, q⟩ := h
 obtain ⟨u, w', rfl, ⟨t, rfl⟩, ⟨t', rfl⟩⟩ := vals2 r
 refine min_two_ints (I.ok.hd hc) fun h' tk k => ⟨_, H, I.kept k, ?_, q⟩
 by_cases hj : j < i
 . rw [if_pos hj, if_pos hj]; exact ⟨_, rfl⟩
 . rw [if_neg hj, if_neg hj]; exact ⟨_, rfl⟩
end
structure wu (h : Heap) (x dx C : Addr) (mA : Str -> Option Value) : Prop where
 obj : h.get? x = some (PySem.W.instObj C dx)
 ns : h.Ns1 dx mA
 ne : dx ≠ x
theorem ow {h : Heap} {dx : Addr} {mA : Str -> Option Value} (n : h.Ns1 dx mA) : ∃ od, h.get? dx = some od /\ ∀ name, PySem.W.lookIn name od = some (mA name) := by
 obtain ⟨o, es, ep, ho, hd, hk, _, hm⟩ := n
 refine ⟨o, ho, fun name => ?_⟩
 have e := hm name
 unfold nsFind findBy at e
 rw [<- Array.find?_toList] at e
 unfold PySem.W.lookIn
 rw [hd]
 dsimp only
 split
 . rename_i y q
   rw [q] at e
   exact congrArg some e
 . rename_i q
   rw [q] at e
   have a : es.toList.any (·.refKey) = false := by
    rw [List.any_eq_false]
    intro y hy
    obtain ⟨z, t, BP⟩ := hk y (Array.mem_toList_iff.mp hy)
    simp [DictEntry.refKey, BP]
   have a' : ¬ es.toList.any (·.refKey) = true := by rw [a]; exact Bool.false_ne_true
   rw [if_neg a']
   exact congrArg some e
theorem wu.look {h : Heap} {x dx C : Addr} {mA : Str -> Option Value} (I : wu h x dx C mA) : ∃ od, PySem.W.InstAt h x (PySem.W.instObj C dx) C (some od) /\ ∀ name, PySem.W.lookIn name od = some (mA name) :=
 let ⟨od, ho, hl⟩ := ow I.ns
 ⟨od, ⟨I.obj, rfl, rfl, ho⟩, hl⟩
section
variable {prog : Program} {w : World} {A : Around} {E : Value -> Shared -> Prop} {s : Shared} {K : PySem.W.Frag} {x dx C f : Addr} {mA : Str -> Option Value} {name : Str} {v : Value}
end
theorem gm.some_of {v : V} {o : Option Value} (r : gm (some v) o) : ∃ u, o = some u /\ RelV v u := by
 cases o with
 | none => exact (show False from r).elim
 | some u => exact ⟨u, rfl, r⟩
section
variable {P : Program} {w : World} {H H' : Hp} {h h' : Heap} {a C dx : Addr} {fs Gj : List (Str × V)}
theorem uD (aB : eO P w H h) (e : H a = some (.ins C dx fs)) : ∃ mA, wu h a dx C mA /\ (∀ f, gm (fs.lookup f) (mA f)) /\ PySem.Within mA (fs.map (·.1)) /\ fs.length <= 1000 /\ H dx = some (.own a) := by
 obtain ⟨d, z, ne, ob, mA, n, r, q⟩ := (show aP P w H h a (.ins C dx fs) from aB a _ e)
 exact ⟨mA, ⟨ob, n, ne⟩, r, q, z, d⟩
end
structure D2 (K : PySem.W.Frag) (C : Addr) : Prop where
 pg : PySem.W.plainGet K C Str.empty = true
 hd : PySem.W.hasDictIn K C = true
 po : PySem.W.plainOver K C = true
 sa : PySem.W.findIn K (.ref C) "__setattr__" = some (some (.builtin "object.__setattr__"))
theorem D2.get {K : PySem.W.Frag} {C : Addr} (c : D2 K C) (f : Str) : PySem.W.plainGet K C f = true := c.pg
structure IK (K : PySem.W.Frag) (C : Addr) (f : Str) (v : V) (u : Value) : Prop where
 at_ : PySem.W.findIn K (.ref C) f = some (some u)
 rel : RelV v u
 get : PySem.W.specialIn K u "__get__" = some none
 cp : PySem.W.copiedNames.contains f = false
structure Meth (K : PySem.W.Frag) (C : Addr) (m : Str) (f : Addr) : Prop where
 at_ : PySem.W.findIn K (.ref C) m = some (some (.ref f))
 fn : PySem.W.isFn K (.ref f) = true
 kp : PySem.W.keepIn K (.ref f) = true
section
variable {X : Cx} {pins : List (Addr × Obj)} {σ : St} {H : Hp} {s : Shared} {a C dx : Addr} {fs : List (Str × V)} {f : Str} {v : V} {A : Around} {E : Value -> Shared -> Prop}
end
section
variable {X : Cx} {o e value : Expr} {f : Str} {pos pos' x9 : Pos} {ta tv : TE}
end
section
variable {X : Cx} {pins : List (Addr × Obj)} {σ : St} {H : Hp} {s : Shared} {A : Around} {E : Value -> Shared -> Prop} {Q : Value -> Shared -> Prop} {c : Value} {b : Bool}
inductive fz (K : PySem.W.Frag) (H : Hp) : V -> Value -> Prop where
 | a7 : fz K H .a7 (.type "NoneType")
 | bl (x : Bool) : fz K H (.bl x) (.type "bool")
 | int (i : Int) : fz K H (.int i) (.type "int")
 | str (x : Str) : fz K H (.str x) (.type "str")
 | yE (x : UInt64) : fz K H (.yE x) (.type "float")
 | lst {a : Addr} {xs : List V} (e : H a = some (.lst xs)) : fz K H (.ref a) (.type "list")
 | km {a : Addr} {o : Obj} {xs : List V} (e : H a = some (.km o (.lst xs))) : fz K H (.ref a) (.type "list")
 | tup {a : Addr} {xs : List V} (e : H a = some (.tup xs)) : fz K H (.ref a) (.type "tuple")
 | dK {a : Addr} {ao : List (Key × V)} (e : H a = some (.dK ao)) : fz K H (.ref a) (.type "dict")
 | dT {a : Addr} {ao : List (List Key × V)} (e : H a = some (.dT ao)) : fz K H (.ref a) (.type "dict")
 | ins {a C dx : Addr} {fs : List (Str × V)} (e : H a = some (.ins C dx fs)) (cl : D2 K C) (ha : PySem.W.findIn K (.ref C) "__class__" = some (some (.builtin "object.__class__")))
  (hn : PySem.W.specialIn K (.builtin "object.__class__") "__get__" = some (some (.builtin "getset_descriptor.__get__"))) (nh : PySem.W.takesIn K (.builtin "object.__class__") = some true)
  (hm : PySem.W.mroIn K C (.type "object") = some true) : fz K H (.ref a) (.ref C)
theorem oV {x : V} {u t : Value} (I : Inv X pins σ H s) (rx : RelV x u) (ty : fz X.K H x t) (e : PySem.W.kitOne X.K t c = some b) (h : ∀ tk, Q (.bool b) { s with toks := tk }) :
 wpAny (model X.prog X.w) A (call (.builtin "isinstance") [u, c]) Q E s := by
 cases ty with
 | a7 => cases (show u = Value.none from rx); exact PySem.W.kia_one PySem.W.kitx_none I.jQ True.intro e (fun z => nomatch z) h
 | bl y => cases (show u = Value.bool y from rx); exact PySem.W.kia_one PySem.W.kitx_bool I.jQ True.intro e (fun z => nomatch z) h
 | int i => obtain ⟨t, q⟩ := (show ∃ t, u = Value.int i t from rx); cases q; exact PySem.W.kia_one PySem.W.kitx_int I.jQ True.intro e (fun z => nomatch z) h
 | str y => obtain ⟨t, q⟩ := (show ∃ t, u = Value.str y t from rx); cases q; exact PySem.W.kia_one PySem.W.kitx_str I.jQ True.intro e (fun z => nomatch z) h
 | yE y => obtain ⟨t, q⟩ := (show ∃ t, u = Value.float y t from rx); cases q; exact PySem.W.kia_one PySem.W.kitx_float I.jQ True.intro e (fun z => nomatch z) h
 | @lst a xs ea =>
   cases (show u = Value.ref a from rx)
   obtain ⟨_, _, n, _, h1⟩ := (show aP X.prog X.w H s.heap a (.lst xs) from I.aB a _ ea)
   exact PySem.W.kia_one PySem.W.kitx_list I.jQ ⟨_, h1, rfl⟩ e (fun z => nomatch z) h
 | @km a ob xs ea =>
   cases (show u = Value.ref a from rx)
   obtain ⟨_, _, _, n, _, h1⟩ := (show aP X.prog X.w H s.heap a (.km ob (.lst xs)) from I.aB a _ ea)
   exact PySem.W.kia_one PySem.W.kitx_list I.jQ ⟨_, h1, rfl⟩ e (fun z => nomatch z) h
 | @tup a xs ea =>
   cases (show u = Value.ref a from rx)
   obtain ⟨_, _, _, p⟩ := (show aP X.prog X.w H s.heap a (.tup xs) from I.aB a _ ea)
   obtain ⟨o, h1, h2, _⟩ := p
   exact PySem.W.kia_one PySem.W.kitx_tuple I.jQ ⟨o, h1, h2⟩ e (fun z => nomatch z) h
 | @dK a ao ea =>
   cases (show u = Value.ref a from rx)
   obtain ⟨_, _, vs, _, p⟩ := (show aP X.prog X.w H s.heap a (.dK ao) from I.aB a _ ea)
   obtain ⟨o, es, ep, h1, h2, _⟩ := p
   exact PySem.W.kia_one PySem.W.kitx_dict I.jQ ⟨o, h1, h2.1⟩ e (fun z => nomatch z) h
 | @dT a ao ea =>
   cases (show u = Value.ref a from rx)
   obtain ⟨_, _, xs, _, o, es, ep, h1, h2, _⟩ := (show aP X.prog X.w H s.heap a (.dT ao) from I.aB a _ ea)
   exact PySem.W.kia_one PySem.W.kitx_dict I.jQ ⟨o, h1, h2.1⟩ e (fun z => nomatch z) h
 | @ins a C dx fs ea cl ha hn nh hm =>
   cases (show u = Value.ref a from rx)
   obtain ⟨mA, O, _⟩ := uD I.aB ea
   obtain ⟨od, J, _⟩ := O.look
   exact PySem.W.kia_one (PySem.W.kitx_own (cl.get _) cl.hd ha hn nh hm) I.jQ J e (fun z => nomatch z) h
end
structure a9 (k : Nat) (A : Around) : Prop where
 hd : A.handled = none
 dp : A.depth + 3 * k + 5 < recursionLimit
 un : A.units + 16 * k + 200 < cLine
theorem a9.mono {j k : Nat} {A : Around} (r : a9 k A) (h : j <= k) : a9 j A := ⟨r.hd, by have := r.dp; omega, by have := r.un; omega⟩
theorem a9.deeper {k : Nat} {A : Around} (r : a9 (k + 1) A) (env : Env) : a9 k (A.deeper env) :=
 ⟨r.hd, by have := r.dp; show A.depth + 1 + 3 * k + 5 < _; omega, by have := r.un; show A.units + 3 + 16 * k + 200 < _; omega⟩
theorem a9.in1 {k : Nat} {A : Around} (r : a9 (k + 1) A) : a9 k A.in1 :=
 ⟨r.hd, by have := r.dp; show A.depth + 3 * k + 5 < _; omega, by have := r.un; show A.units + 1 + 16 * k + 200 < _; omega⟩
theorem a9.depth {k : Nat} {A : Around} (r : a9 k A) : A.depth < recursionLimit := by have := r.dp; omega
theorem a9.units {k : Nat} {A : Around} (r : a9 k A) : A.units + 64 < cLine := by have := r.un; omega
def yx : TA := fun _ H Q => Q [] H
def qg (ta : TE) (tr : TA) : TA := fun σ H Q => ta σ H fun x H1 => tr σ H1 fun xs H2 => Q (x :: xs) H2
section
variable {X : Cx} {e : Expr} {es : List Expr} {te : TE} {t : TA} {pos : Pos}
theorem ak : PA X [] yx := fun _ _ _ _ H Q I h => Calls.spliced_nil ⟨[], H, I, .nil, h⟩
theorem ae (ha : PE X e te) (hr : PA X es t) (hs : starEach (e :: es) X.env = (false, eval e X.env) :: starEach es X.env := by rfl) : PA X (e :: es) (qg te t) := by
 intro pos pins s σ H Q I h
 rw [hs]
 show wpAny _ _ (spliced ((false, eval e X.env) :: backTo pos (starEach es X.env))) _ _ s
 refine Calls.spliced_cons (bh (ha pins s σ H _ I h) fun u s1 ⟨x, H1, I1, r1, q1⟩ => ?_)
 exact bh (hr pos pins s1 σ H1 _ I1 q1) fun us s2 ⟨xs, H2, I2, r2, q2⟩ => ⟨x :: xs, H2, I2, .cons r1 r2, q2⟩
def C3 (t : TA) : TE := fun σ H Q => t σ H fun xs H1 => xs.length <= sizeLine /\ ∀ p, H1 p = none -> Q (.ref p) (upd H1 p (.tup xs))
def Ee (t : TA) : TE := fun σ H Q => t σ H fun xs H1 => xs.length <= sizeLine /\ ∀ p, H1 p = none -> Q (.ref p) (upd H1 p (.lst xs))
theorem x6 {x1} (h : PA X es t) : PE X (.Tuple es x1 pos) (C3 t) := by
 intro pins s σ H Q I hq
 refine wpAny_Tuple_spliced (bh (h pos pins s σ H _ I hq) fun us s1 ⟨xs, H1, I1, r, z, q⟩ => ⟨by rw [<- r.length]; exact z, ?_⟩)
 have hf : H1 s1.heap.objs.size = none := I1.aB.fresh (Nat.le_refl _)
 refine ⟨.ref s1.heap.objs.size, upd H1 s1.heap.objs.size (.tup xs), I1.laid (t' := s1.toks) (fun b u e => Heap.get?_push_of_some _ e) (Nat.le_refl _) ?_, rfl, q _ hf⟩
 exact ⟨z, us, r, ⟨_, Heap.get?_push_size _ rfl, rfl, _, rfl⟩⟩
theorem xG (h : PA X es t) : PE X (.List es pos) (Ee t) := by
 intro pins s σ H Q I hq
 refine wpAny_List_spliced (bh (h pos pins s σ H _ I hq) fun us s1 ⟨xs, H1, I1, r, z, q⟩ => ⟨by rw [<- r.length]; exact z, ?_⟩)
 have hf : H1 s1.heap.objs.size = none := I1.aB.fresh (Nat.le_refl _)
 refine ⟨.ref s1.heap.objs.size, upd H1 s1.heap.objs.size (.lst xs), I1.laid (t' := s1.toks) (fun b u e => Heap.get?_push_of_some _ e) (Nat.le_refl _) ?_, rfl, q _ hf⟩
 exact ⟨z, us, 0, r, Heap.get?_push_size _ rfl⟩
end
abbrev Sp := List V -> Hp -> VK -> XK -> Prop
abbrev kz := List Env -> Hp -> Shared -> XK -> Value -> Shared -> Prop
structure lI (P : Program) (w : World) (K : PySem.W.Frag) (mg : Str -> Option Value) (base : Heap) (A : Around) (outer : List Env) (s : Shared) (H : Hp) : Prop where
 frames : A.frames = some outer
 mod : Mod K mg base
 bs : ∀ b o, base.get? b = some o -> s.heap.get? b = some o /\ H b = none
 qF : base.objs.size <= s.heap.objs.size
 fg : s.heap.FunFrames base outer
 sO : ∀ b ∈ kr outer, H b = none
 aB : eO P w H s.heap
 bare : AllBare s.gens
def CE (outer : List Env) (P : Program) (w : World) (H : Hp) (s : Shared) (Q : VK) (u : Value) (s' : Shared) : Prop :=
 ∃ v H', s'.os = s.os /\ AllBare s'.gens /\ Un (kr outer) [] H H' s.heap s'.heap /\ eO P w H' s'.heap /\ RelV v u /\ Q v H'
def CR (CX : kz) (outer : List Env) (P : Program) (w : World) (H : Hp) (s : Shared) (Q : VK) (E : XK) (r : Result) (s' : Shared) : Prop :=
 match r with
 | .ok (.ret u) => CE outer P w H s Q u s'
 | .ok _ => False
 | .error e => CX outer H s E e s'
structure bK (P : Program) (w : World) (K : PySem.W.Frag) (mg : Str -> Option Value) (base : Heap) (CX : kz) (k : Nat) (f : Addr) (fd : FuncData) (ps : List Str) (sp : Sp) : Prop where
 len : ∀ vs H Q E, sp vs H Q E -> vs.length = ps.length
 run : ∀ (A : Around) (outer : List Env) (s : Shared) (H : Hp) (args : Args) (us : List Value) (vs : List V) (Q : VK) (E : XK), a9 k A -> lI P w K mg base A outer s H -> BindsTo s fd args (ps.zip us) -> Vals vs us -> sp vs H Q E ->
  codeAny (model P w) A (.call (.ref f) args) (CR CX outer P w H s Q E) s
theorem bK.mono {P : Program} {w : World} {K : PySem.W.Frag} {mg : Str -> Option Value} {base : Heap} {CX : kz} {j k : Nat} {f : Addr} {fd : FuncData} {ps : List Str} {sp : Sp} (F : bK P w K mg base CX j f fd ps sp) (h : j <= k) :
 bK P w K mg base CX k f fd ps sp := ⟨F.len, fun A outer s H args us vs Q E hr => F.run A outer s H args us vs Q E (hr.mono h)⟩
theorem lI.in1 {P : Program} {w : World} {K : PySem.W.Frag} {mg : Str -> Option Value} {base : Heap} {A : Around} {outer : List Env} {s : Shared} {H : Hp} (e : lI P w K mg base A outer s H) :
 lI P w K mg base A.in1 outer s H := ⟨e.frames, e.mod, e.bs, e.qF, e.fg, e.sO, e.aB, e.bare⟩
section
variable {X : Cx} {pins : List (Addr × Obj)} {σ : St} {H : Hp} {s s' : Shared}
theorem Inv.sZ (I : Inv X pins σ H s) : lI X.prog X.w X.K X.mg X.base X.A X.stack s H :=
 ⟨I.ok.frames, I.ok.mod, I.bs, Nat.le_trans I.ok.qF I.sz, I.stack, I.nB, I.aB, I.bare⟩
theorem Inv.after {Q : VK} {u : Value} (I : Inv X pins σ H s) (h : CE X.stack X.prog X.w H s Q u s') : EP X pins σ Q u s' := by
 obtain ⟨v, H', os, bare, un, aB, r, q⟩ := h
 obtain ⟨hh, g, d, t, Al⟩ := s'
 obtain rfl : Al = s.os := os
 exact ⟨v, H', I.call (h' := hh) (g' := g) (d' := d) (t' := t) (ch := []) un aB bare (fun b z => absurd z (by simp)), r, q⟩
end
def nC (sp : Sp) (eR : List V) (E : XK) (t : TA) : TE := fun σ H Q => t σ H fun vs H1 => sp (vs ++ eR) H1 Q E
def Binds (K : PySem.W.Frag) (fd : FuncData) (ps : List Str) (ds : List Value) : Prop :=
 ∀ (s : Shared) (us : List Value), K.In s.heap -> (us ++ ds).length = ps.length -> BindsTo s fd ⟨us, []⟩ (ps.zip (us ++ ds))
theorem Binds.all {K : PySem.W.Frag} {fd : FuncData} {ps : List Str} (h : ∀ us : List Value, us.length = ps.length -> bindArgs fd ⟨us, []⟩ = pure (ps.zip us)) : Binds K fd ps [] := fun s us _ hl => by
 rw [List.append_nil] at hl ⊢
 exact .of_eq (h us hl)
def Passes (CX : kz) (X : Cx) (E : XK) : Prop := ∀ (pins : List (Addr × Obj)) (σ : St) (H : Hp) (s : Shared) (e : Value) (s' : Shared), Inv X pins σ H s -> CX X.stack H s E e s' -> X.xe e s'
section
variable {X : Cx} {CX : kz} {k : Nat} {f C : Addr} {fd : FuncData} {ps : List Str} {sp : Sp} {eR : List V} {ds : List Value} {E : XK} {x m : Str} {p pos apos : Pos} {e o : Expr} {es : List Expr} {ta : TE} {t : TA}
theorem wY {pins : List (Addr × Obj)} {σ : St} {H : Hp} {s : Shared} {Q : VK} {us : List Value} {vs : List V} (F : bK X.prog X.w X.K X.mg X.base CX k f fd ps sp) (hr : a9 k X.A) (hb : Binds X.K fd ps ds) (hd : Vals eR ds) (hx : Passes CX X E)
 (I : Inv X pins σ H s) (r : Vals vs us) (h : sp (vs ++ eR) H Q E) : wpAny (model X.prog X.w) X.A (call (.ref f) us) (EP X pins σ Q) X.xe s := by
 have r2 : Vals (vs ++ eR) (us ++ ds) := r.append hd
 have hl : (us ++ ds).length = ps.length := by rw [<- r2.length]; exact F.len _ _ _ _ h
 refine wpAny_call (codeAny_mono (F.run X.A X.stack s H ⟨us, []⟩ (us ++ ds) (vs ++ eR) Q E hr I.sZ (hb s us I.jQ hl) r2 h) fun r s' hq => ?_)
 cases r with
 | error e => exact hx pins σ H s e s' I hq
 | ok fl =>
   cases fl with
   | ret u => exact I.after hq
   | next => exact False.elim hq
   | brk => exact False.elim hq
   | cont => exact False.elim hq
theorem tI (F : bK X.prog X.w X.K X.mg X.base CX k f fd ps sp) (hr : a9 k X.A) (hg : Gl X x) (hm : X.mg x = some (.ref f)) (hk : PySem.W.keepIn X.K (.ref f) = true) (hb : Binds X.K fd ps ds) (hd : Vals eR ds) (hx : Passes CX X E)
 (ha : PA X (e :: es) t) (rp : (x == ("__debug__" : Str)) = false := by decide) (he : starEach (e :: es) X.env = (false, eval e X.env) :: starEach es X.env := by rfl) (jT : (backTo pos (starEach es X.env)).any (·.1) = false := by rfl) :
 PE X (.Call (.Name x p) (e :: es) [] pos) (nC sp eR E t) := by
 intro pins s σ H Q I h
 refine wpAny_Call_Name_kw (nH I hg hm ?_ rp)
 refine PySem.W.callWith_K (h₀ := X.base) I.ok.mod.DP hk (bh (ha pos pins s σ H _ I h) fun us s1 ⟨vs, H1, I1, r, q⟩ => ⟨I1.jQ, ?_⟩) he jT
 exact wY F hr hb hd hx I1 r q
structure Mk (K : PySem.W.Frag) (C f : Addr) : Prop where
 makes : PySem.W.makesIn K C = true
 init : PySem.W.findIn K (.ref C) "__init__" = some (some (.ref f))
 fn : PySem.W.isFn K (.ref f) = true
 kp : PySem.W.keepIn K (.ref C) = true
end
def PK (X : Cx) (zR : List Keyword) (t : TA) : Prop :=
 ∀ (pos : Pos) (pins : List (Addr × Obj)) (s : Shared) (σ : St) (H : Hp) (Q : List V -> Hp -> Prop), Inv X pins σ H s -> t σ H Q -> wpAny (model X.prog X.w) X.A (evalAll ((backToKw pos (keywordEach zR X.env)).map (·.2))) (AP X pins σ Q) X.xe s
section
variable {X : Cx} {CX : kz} {k : Nat} {f C : Addr} {fd : FuncData} {ps ks : List Str} {sp : Sp} {E : XK} {x m : Str} {p pos apos rg : Pos} {e o : Expr} {es : List Expr} {zR : List Keyword} {te ta : TE} {t tk : TA} {nm : Option Str}
theorem xi : PK X [] yx := fun _ _ _ _ H Q I h => wpAny_evalAll_nil ⟨[], H, I, .nil, h⟩
theorem tH (ha : PE X e te) (hr : PK X zR t) : PK X (⟨nm, e, rg⟩ :: zR) (qg te t) := by
 intro pos pins s σ H Q I h
 show wpAny _ _ (evalAll ((do let v <- eval e X.env; standAt pos; pure v) :: (backToKw pos (keywordEach zR X.env)).map (·.2))) _ _ s
 refine wpAny_evalAll_cons (wpAny_bind (bh (ha pins s σ H _ I h) fun u s1 ⟨x, H1, I1, r1, q1⟩ => wpAny_bind (wpAny_standAt (wpAny_pure ?_))))
 exact bh (hr pos pins s1 σ H1 _ I1 q1) fun us s2 ⟨xs, H2, I2, r2, q2⟩ => ⟨x :: xs, H2, I2, .cons r1 r2, q2⟩
structure DS (K : PySem.W.Frag) (fd : FuncData) (ps ks : List Str) (g : List Value -> List Value -> List Value) (gV : List V -> List V -> List V) : Prop where
 to : ∀ (s : Shared) (us ws : List Value), K.In s.heap -> (g us ws).length = ps.length -> BindsTo s fd ⟨us, ks.zip ws⟩ (ps.zip (g us ws))
 rel : ∀ {vs : List V} {us : List Value} {zs : List V} {ws : List Value}, Vals vs us -> Vals zs ws -> Vals (gV vs zs) (g us ws)
variable {g : List Value -> List Value -> List Value} {gV : List V -> List V -> List V}
end
structure bj (N P : List Str) (sc : Scope) : Prop where
 kind : sc.kind = .function
 co : sc.isCoroutine = false
 gen : sc.isGenerator = false
 nd : N.Nodup
 pre : N.take P.length = P
 par : ∀ x ∈ P, sc.names.lookup x = some .local \/ sc.names.lookup x = some .cell
 xT : ∀ y ∈ sc.names, y.2 ≠ .free
theorem jb {kindOf : Str -> Option NameKind} {x : Str} : ∀ {binds : List (Str × Value)} {m : Str -> Option Value}, (∀ v, (x, v) ∉ binds) -> bindL kindOf binds m x = m x
 | [], _, _ => rfl
 | (n, v) :: r, m, h => by
   unfold bindL
   rw [jb fun w hw => h w (List.mem_cons_of_mem _ hw)]
   split
   . have : x ≠ n := by rintro rfl; exact h v List.mem_cons_self
     simp [this]
   . rfl
theorem i3 {kindOf : Str -> Option NameKind} {x : Str} : ∀ {binds : List (Str × Value)} {m : Str -> Option Value}, (∀ v, (x, v) ∉ binds) -> bindC kindOf binds m x = m x
 | [], _, _ => rfl
 | (n, v) :: r, m, h => by
   unfold bindC
   rw [i3 fun w hw => h w (List.mem_cons_of_mem _ hw)]
   split
   . rfl
   . have : x ≠ n := by rintro rfl; exact h v List.mem_cons_self
     simp [this]
theorem i5 {kindOf : Str -> Option NameKind} {x : Str} {v : Value} : ∀ {P : List Str} {vs : List Value} {i : Nat} {m : Str -> Option Value}, P.Nodup -> P[i]? = some x -> vs[i]? = some v -> kindOf x = some .local ->
 bindL kindOf (P.zip vs) m x = some v
 | [], _, _, _, _, h, _, _ => by simp at h
 | _ :: _, [], _, _, _, _, h, _ => by simp at h
 | p :: P, w :: vs, 0, m, nd, h1, h2, hk => by
   simp at h1 h2; subst h1; subst h2
   show bindL kindOf ((p, w) :: P.zip vs) m p = _
   unfold bindL
   rw [jb fun v hv => (List.nodup_cons.mp nd).1 (List.of_mem_zip hv).1, if_pos hk]
   simp
 | p :: P, w :: vs, i + 1, m, nd, h1, h2, hk => by
   show bindL kindOf ((p, w) :: P.zip vs) m x = _
   unfold bindL
   exact i5 (i := i) (List.nodup_cons.mp nd).2 (by simpa using h1) (by simpa using h2) hk
theorem iQ {kindOf : Str -> Option NameKind} {x : Str} {v : Value} : ∀ {P : List Str} {vs : List Value} {i : Nat} {m : Str -> Option Value}, P.Nodup -> P[i]? = some x -> vs[i]? = some v -> kindOf x ≠ some .local ->
 bindC kindOf (P.zip vs) m x = some v
 | [], _, _, _, _, h, _, _ => by simp at h
 | _ :: _, [], _, _, _, _, h, _ => by simp at h
 | p :: P, w :: vs, 0, m, nd, h1, h2, hk => by
   simp at h1 h2; subst h1; subst h2
   show bindC kindOf ((p, w) :: P.zip vs) m p = _
   unfold bindC
   rw [i3 fun v hv => (List.nodup_cons.mp nd).1 (List.of_mem_zip hv).1, if_neg hk]
   simp
 | p :: P, w :: vs, i + 1, m, nd, h1, h2, hk => by
   show bindC kindOf ((p, w) :: P.zip vs) m x = _
   unfold bindC
   exact iQ (i := i) (List.nodup_cons.mp nd).2 (by simpa using h1) (by simpa using h2) hk
def start (N : List Str) (vs : List V) : St := vs.map some ++ List.replicate (N.length - vs.length) none
def k6 (CX : kz) (P : Program) (w : World) (K : PySem.W.Frag) (mg : Str -> Option Value) (base : Heap) (N : List Str) (qual : Str) (scope : Scope) (f : Addr) (cd : Value) (A : Around) (outer : List Env) (s : Shared) (H : Hp) (E : XK) : Cx where
 prog := P
 w := w
 K := K
 mg := mg
 base := base
 A := A.deeper (envOfC qual scope s.heap.objs.size f cd)
 N := N
 bE := s
 oZ := H
 env := envOfC qual scope s.heap.objs.size f cd
 outer := outer
 stack := envOfC qual scope s.heap.objs.size f cd :: outer
 ex := []
 calm := true
 fn := fun _ => true
 pn := []
 xe := fun e s' => wpAny (model P w) (A.deeper (envOfC qual scope s.heap.objs.size f cd)) (leaving (envOfC qual scope s.heap.objs.size f cd) e) (fun _ DE => CX outer H s E e DE) (fun e' DE => CX outer H s E e' DE) s'
theorem kJ {sc : Scope} {n : Nat} {x : Str} (h : sc.names.lookup x = some .cell) : ∃ c, (cellsFrom n sc.names []).lookup x = some c := by
 have q := PySem.W.cellsFrom_some sc.names n [] (.inl h)
 exact Option.isSome_iff_exists.mp q
theorem oW {CX : kz} {P : Program} {w : World} {K : PySem.W.Frag} {mg : Str -> Option Value} {base : Heap} {N ps : List Str} {qual : Str} {scope : Scope} {f : Addr} {cd : Value} {A : Around} {outer : List Env} {s s1 : Shared} {H : Hp} {E : XK} {us : List Value} {vs : List V}
 (S : bj N ps scope) (hd : A.handled = none) (e0 : lI P w K mg base A outer s H) (hl : vs.length = ps.length) (r : Vals vs us)
 (x : InCallC s s.heap.objs.size (bindL (envOfC qual scope s.heap.objs.size f cd).kindOf (ps.zip us) fun _ => none) (cellsFrom (s.heap.objs.size + 1) scope.names []) (bindC (envOfC qual scope s.heap.objs.size f cd).kindOf (ps.zip us) fun _ => none) s1) :
 Inv (k6 CX P w K mg base N qual scope f cd A outer s H E) [] (start N vs) H s1 := by
 have jT : ps.length <= N.length := by have := congrArg List.length S.pre; rw [List.length_take] at this; omega
 obtain ⟨h1, tk, rfl, hk⟩ := x.done
 have sX : ∀ b : Addr, b ∉ (k6 CX P w K mg base N qual scope f cd A outer s H E).ex := fun b z => absurd (show b ∈ ([] : List Addr) from z) (by simp)
 refine ⟨⟨e0.mod, S.kind, rfl, rfl, Nat.le_refl _, fun y z c h1 h2 => ?_, fun y hy => ?_, fun y c _ h => ?_, fun _ => hd, Around.frames_deeper e0.frames, .inr ⟨rfl, rfl⟩, fun b z => absurd z (sX b), e0.bs, e0.qF, fun b _ _ => sX b, fun b z => absurd z (sX b), e0.fg, e0.sO⟩,
  rfl, e0.bare, Un.kept hk, ⟨_, x.toInCall.ns, fun i y v h1 h2 h3 => ?_⟩, fun y c h => ⟨_, x.cell y c h⟩, e0.aB.fresh (Nat.le_refl _), fun y c h => ?_, fun p hp => absurd (show p ∈ ([] : List (Addr × Obj)) from hp) (by simp), e0.aB.kept hk, ?_⟩
 . exact name_of_addr x.apart (PySem.mem_of_lookup h1) (PySem.mem_of_lookup h2)
 . have hy : scope.names.lookup y = some .cell \/ scope.names.lookup y = some .free := hy
   rcases hy with hy | hy
   . exact kJ hy
   . exact absurd rfl (S.xT _ (PySem.mem_of_lookup hy))
 . exact Nat.le_of_lt (x.above y c (PySem.mem_of_lookup h))
 . have hi : i < vs.length := by
    unfold start at h2
    by_cases hi : i < vs.length
    . exact hi
    . rw [List.getElem?_append_right (by simpa using hi)] at h2
      rw [List.getElem?_replicate] at h2
      split at h2 <;> cases h2
   have ha : vs[i]? = some v := by
    unfold start at h2
    rw [List.getElem?_append_left (by simpa using hi), List.getElem?_map] at h2
    cases e : vs[i]? with
    | none => rw [e] at h2; cases h2
    | some a => rw [e] at h2; cases h2; rfl
   obtain ⟨u, hu, rv⟩ := r.get ha
   have hp : ps[i]? = some y := by
    rw [<- S.pre, List.getElem?_take_of_lt (by omega)]; exact h1
   have E9 : ps.Nodup := by rw [<- S.pre]; exact S.nd.sublist (List.take_sublist _ _)
   refine ⟨u, rv, ?_⟩
   rcases S.par y (List.mem_of_getElem? hp) with k | k
   . exact .inl ⟨k, i5 E9 hp hu k⟩
   . obtain ⟨c, e⟩ := kJ (n := s.heap.objs.size + 1) k
     refine .inr ⟨.inl k, c, e, ?_⟩
     have q := x.cell y c e
     rw [iQ E9 hp hu (by show scope.names.lookup y ≠ _; rw [k]; decide)] at q
     exact q
 . exact e0.aB.fresh (Nat.le_of_lt (x.above y c (PySem.mem_of_lookup h)))
 . unfold start
   show _ = N.length
   rw [List.length_append, List.length_map, List.length_replicate]
   omega
theorem vI {CX : kz} {P : Program} {w : World} {K : PySem.W.Frag} {mg : Str -> Option Value} {base : Heap} {k : Nat} {f : Addr} {name qual : Str} {params : Arguments} {body : List Stmt} {scope : Scope} {dV kV doc pm dj ct oc : Value} {an od : Option Addr}
 {pA : Array (Option Value)} {N ps : List Str} {sp : Sp} (lk : K.lookup f = some ⟨oc, od, .func (PySem.W.fnOf name qual params body scope dV kV doc pm an dj ct), pA⟩) (iE : PySem.W.codeIn K dj qual = true) (S : bj N ps scope)
 (len : ∀ vs H Q E, sp vs H Q E -> vs.length = ps.length)
 (er : ∀ (A : Around) (outer : List Env) (s : Shared) (H : Hp) (vs : List V) (Q : VK) (E : XK), a9 k (A.deeper (envOfC qual scope s.heap.objs.size f dj)) -> sp vs H Q E ->
  ∃ t, j9 (k6 CX P w K mg base N qual scope f dj A outer s H E) body t /\ t { nx := fun _ H' => Q .a7 H', rt := Q } (start N vs) H) :
 bK P w K mg base CX (k + 1) f (PySem.W.fnOf name qual params body scope dV kV doc pm an dj ct) ps sp := by
 refine ⟨len, fun A outer s H args us vs Q E hr e0 hb r r9 => ?_⟩
 have hl := len _ _ _ _ r9
 have KX : K.In s.heap := e0.mod.DP.keeps fun b o e => (e0.bs b o e).1
 have lim : s.heap.NoLimit := e0.mod.nolimit.keeps fun b o e => (e0.bs b o e).1
 have A1 : ∀ y ∈ ps.zip us, scope.names.lookup y.1 = some .local \/ (scope.names.lookup y.1 = some .cell /\ ((cellsFrom (s.heap.objs.size + 1) scope.names []).lookup y.1).isSome = true) := fun ⟨n, v⟩ hy => by
  rcases S.par n (List.of_mem_zip hy).1 with q | q
  . exact .inl q
  . exact .inr ⟨q, PySem.W.cellsFrom_some _ _ _ (.inl q)⟩
 refine codeAny_call_function hr.depth (KX _ _ lk) rfl S.co S.gen rfl (PySem.W.codeRec_of KX iE) (hb _ _ _ _ ?_)
 refine wpAny_newFunctionEnv_cells S.kind A1 fun env he s1 x => ?_
 subst he
 refine ⟨lim.keeps x.toInCall.keep, codeAny_func ?_⟩
 obtain ⟨t, ht, hq⟩ := er A outer s H vs Q E (hr.deeper _) r9
 have I : Inv (k6 CX P w K mg base N qual scope f dj A outer s H E) [] (start N vs) H s1 := oW S hr.hd e0 hl r x
 refine wpAny_mono (ht [] s1 (start N vs) H _ I hq) (fun fl s' hs => ?_) fun e s' hs => hs
 have fin : ∀ {σ' : St} {H' : Hp} {v : V} {u : Value}, Inv (k6 CX P w K mg base N qual scope f dj A outer s H E) [] σ' H' s' -> RelV v u -> Q v H' -> CE outer P w H s Q u s' :=
  fun {σ' H' v u} J rv q => ⟨v, H', J.os, J.bare, J.base, J.aB, rv, q⟩
 cases fl with
 | ret u =>
   obtain ⟨v, σ', H', J, rv, q⟩ := hs
   exact fin J rv q
 | next =>
   obtain ⟨σ', H', J, q⟩ := hs
   exact fin (v := V.a7) (u := Value.none) J rfl q
 | brk =>
   obtain ⟨_, _, _, q⟩ := hs
   exact False.elim q
 | cont =>
   obtain ⟨_, _, _, q⟩ := hs
   exact False.elim q
section
variable {X : Cx} {x : Str} {p pos : Pos} {e : Expr} {es : List Expr} {t : TA} {id T : String} {r : List V -> Hp -> VK -> Prop}
def DK (r : List V -> Hp -> VK -> Prop) (t : TA) : TE := fun σ H Q => t σ H fun vs H1 => r vs H1 Q
theorem aO (hc : bL X (.builtin id) r) (hg : Gl X x) (hm : X.mg x = none) (hv : bootBuiltins x = some (.builtin id)) (ha : PA X (e :: es) t) (hn : x ≠ "__name__" := by decide) (rp : (x == ("__debug__" : Str)) = false := by decide)
 (he : starEach (e :: es) X.env = (false, eval e X.env) :: starEach es X.env := by rfl) (jT : (backTo pos (starEach es X.env)).any (·.1) = false := by rfl) : PE X (.Call (.Name x p) (e :: es) [] pos) (DK r t) := by
 intro pins s σ H Q I h
 refine wpAny_Call_Name_kw (cA I hg hm hv ?_ hn rp)
 exact PyProof.Rows.callWith_builtin1 (bh (ha pos pins s σ H _ I h) fun us s1 ⟨vs, H1, I1, r1, q1⟩ => hc pins s1 σ H1 vs us Q I1 r1 q1) he jT
theorem ja (hc : bL X (.type T) r) (hg : Gl X x) (hm : X.mg x = none) (hv : bootBuiltins x = some (.type T)) (ha : PA X (e :: es) t) (hn : x ≠ "__name__" := by decide) (rp : (x == ("__debug__" : Str)) = false := by decide)
 (he : starEach (e :: es) X.env = (false, eval e X.env) :: starEach es X.env := by rfl) (jT : (backTo pos (starEach es X.env)).any (·.1) = false := by rfl) : PE X (.Call (.Name x p) (e :: es) [] pos) (DK r t) := by
 intro pins s σ H Q I h
 refine wpAny_Call_Name_kw (cA I hg hm hv ?_ hn rp)
 exact PyProof.Rows.callWith_type1 (bh (ha pos pins s σ H _ I h) fun us s1 ⟨vs, H1, I1, r1, q1⟩ => hc pins s1 σ H1 vs us Q I1 r1 q1) he jT
end
end L2
namespace HT
open PySem PyProof.Rows
section
open PySem.SeqAt
open PySem.AutoSeq1 (wpAny_loadPart')
open PySem.MeetsSeq PySem.MeetsSeq2 PySem.MeetsSeq3
end
section
variable {prog : Program} {w : World} {A : Around} {E : Value -> Shared -> Prop} {s : Shared}
def kM (n d : Nat) : Option Int -> Nat
 | none => d
 | some v => if v < 0 then (v + (n : Int)).toNat else min v.toNat n
theorem nO (n d k : Nat) : kM n d (some (k : Int)) = min k n := by
 show (if (k : Int) < 0 then ((k : Int) + (n : Int)).toNat else min (k : Int).toNat n) = min k n
 rw [if_neg (by omega), Int.toNat_natCast]
end
end HT
namespace L2
open PySem PySem.Spec PyProof.Rows
abbrev TO := St -> Hp -> (Option Int -> Hp -> Prop) -> Prop
def PO (X : Cx) (e : Option Expr) (t : TO) : Prop :=
 ∀ (pins : List (Addr × Obj)) (s : Shared) (σ : St) (H : Hp) (Q : Option Int -> Hp -> Prop), Inv X pins σ H s -> t σ H Q ->
   wpAny (model X.prog X.w) X.A (evalPart e X.env) (fun u s' => ∃ o H', Inv X pins σ H' s' /\ IsPart u o /\ Q o H') X.xe s
def mD : TO := fun _ H Q => Q none H
def vn (t : TE) : TO := fun σ H Q => t σ H fun x H1 => ∃ i, x = .int i /\ Q (some i) H1
section
variable {X : Cx} {e : Expr} {te : TE} {lo hi : Option Expr} {tl th : TO} {pos p2 : Pos}
theorem eA : PO X none mD := by
 intro pins s σ H Q I h
 rw [evalPart_none]
 exact wpAny_pure ⟨none, H, I, .none, h⟩
theorem cL (h : PE X e te) : PO X (some e) (vn te) := by
 intro pins s σ H Q I hw
 rw [evalPart_some]
 refine bh (h pins s σ H _ I hw) fun u s1 ⟨x, H1, I1, r1, q1⟩ => ?_
 obtain ⟨i, rfl, q⟩ := q1
 obtain ⟨t, rfl⟩ := r1
 exact ⟨some i, H1, I1, .int i t, q⟩
def B6 (X : Cx) (r : V -> Option Int -> Option Int -> Hp -> VK -> Prop) : Prop :=
 ∀ (pins : List (Addr × Obj)) (s : Shared) (σ : St) (H : Hp) (x : V) (v vl vu : Value) (lo hi : Option Int) (sl : Addr) (Q : VK), Inv X pins σ H s -> RelV x v -> s.heap.IsSliceOf sl vl vu .none -> IsPart vl lo -> IsPart vu hi -> r x lo hi H Q ->
   ∃ T id, typeLookup (.type T) "__getitem__" = pure (some (.builtin id)) /\ s.TypeIs v T /\ wpAny (model X.prog X.w) X.A (getItem v (.ref sl)) (EP X pins σ Q) X.xe s
def EX (r : V -> Option Int -> Option Int -> Hp -> VK -> Prop) (te : TE) (tl th : TO) : TE := fun σ H Q => te σ H fun x H1 => tl σ H1 fun l H2 => th σ H2 fun u H3 => r x l u H3 Q
theorem cD {r : V -> Option Int -> Option Int -> Hp -> VK -> Prop} (hr : B6 X r) (he : PE X e te) (hl : PO X lo tl) (hu : PO X hi th) : PE X (.Subscript e (.Slice lo hi none p2) pos) (EX r te tl th) := by
 intro pins s σ H Q I h
 refine Subscript_ (bh (he pins s σ H _ I h) fun v s1 ⟨x, H1, I1, r1, q1⟩ => ?_)
 refine wpAny_Slice (bh (hl pins s1 σ H1 _ I1 q1) fun vl s2 ⟨l, H2, I2, pl, q2⟩ => bh (hu pins s2 σ H2 _ I2 q2) fun vu s3 ⟨u, H3, I3, pu, q3⟩ => ?_)
 rw [evalPart_none]
 refine wpAny_pure ?_
 have I4 : Inv X pins σ H3 { s3 with heap := s3.heap.push { cls := .type "slice", data := .fields #[vl, vu, .none] } } := I3.kept (t' := s3.toks) fun b ob q => Heap.get?_push_of_some _ q
 obtain ⟨T, id, hT, ht, hg⟩ := hr pins { s3 with heap := s3.heap.push { cls := .type "slice", data := .fields #[vl, vu, .none] } } σ H3 x v vl vu l u s3.heap.objs.size Q I4 r1 (Heap.IsSliceOf.new ..) pl pu q3
 show wpAny (model X.prog X.w) X.A (subscriptTail e (.Slice lo hi none p2) v (.ref s3.heap.objs.size)) (EP X pins σ Q) X.xe { s3 with heap := s3.heap.push { cls := .type "slice", data := .fields #[vl, vu, .none] } }
 exact tail_any (ops := [.ref s3.heap.objs.size, v]) ht hT hg (by with_unfolding_all rfl)
def oX (xs : List V) (lo hi : Option Int) : List V := (xs.drop (HT.kM xs.length 0 lo)).take (HT.kM xs.length xs.length hi - HT.kM xs.length 0 lo)
theorem kL (xs : List V) (lo hi : Option Int) : (oX xs lo hi).length <= xs.length := by
 unfold oX
 rw [List.length_take, List.length_drop]
 omega
end
def pN (n : Nat) (i : Int) : Option Nat := if 0 <= i then (if i < n then some i.toNat else none) else if -(n : Int) <= i then some (i + n).toNat else none
def jR {α : Type} (xs : List α) (i : Int) : Option α := (pN xs.length i).bind fun j => xs[j]?
theorem nS {n : Nat} {i : Int} {j : Nat} (h : pN n i = some j) : seqIndex? i n = some j /\ j < n /\ -(n : Int) <= i /\ i < n := by
 unfold pN at h
 by_cases h0 : 0 <= i
 . rw [if_pos h0] at h
   by_cases h1 : i < n
   . rw [if_pos h1] at h
     have e : i.toNat = j := Option.some.inj h
     exact ⟨by rw [seqIndex_of h0 h1, e], by omega, by omega, h1⟩
   . rw [if_neg h1] at h; cases h
 . rw [if_neg h0] at h
   by_cases h1 : -(n : Int) <= i
   . rw [if_pos h1] at h
     have e : (i + n).toNat = j := Option.some.inj h
     exact ⟨by rw [seqIndex_neg (by omega) h1, e], by omega, h1, by omega⟩
   . rw [if_neg h1] at h; cases h
theorem jl {α : Type} {xs : List α} {i : Int} {v : α} (h : jR xs i = some v) : ∃ j, seqIndex? i xs.length = some j /\ xs[j]? = some v /\ j < xs.length /\ -(xs.length : Int) <= i /\ i < xs.length := by
 unfold jR at h
 cases e : pN xs.length i with
 | none => rw [e] at h; cases h
 | some j =>
   rw [e] at h
   obtain ⟨h1, h2, h3, h4⟩ := nS e
   exact ⟨j, h1, h, h2, h3, h4⟩
theorem fc {α : Type} {xs : List α} {j : Nat} {v : α} (h : xs[j]? = some v) : jR xs (j : Int) = some v := by
 have hj : j < xs.length := (List.getElem?_eq_some_iff.mp h).1
 have e : pN xs.length (j : Int) = some j := by
  unfold pN
  rw [if_pos (by omega), if_pos (by omega)]; simp
 unfold jR; rw [e]; exact h
def sW (b : Expr) : Prop := ∀ o i, subscripted b false o i = operate [o, i] (getItem o i)
def pF (X : Cx) (r : R2) : Prop :=
 ∀ (value slice : Expr) (pins : List (Addr × Obj)) (s : Shared) (σ : St) (H : Hp) (x y : V) (v u : Value) (Q : VK), Inv X pins σ H s -> RelV x v -> RelV y u -> r x y H Q ->
   subscripted slice false v u = operate [v, u] (getItem v u) -> wpAny (model X.prog X.w) X.A (subscriptTail value slice v u) (EP X pins σ Q) X.xe s
def G8 (X : Cx) (id : String) (r : V -> List V -> Hp -> VK -> Prop) : Prop :=
 ∀ (pins : List (Addr × Obj)) (s : Shared) (σ : St) (H : Hp) (x : V) (xs : List V) (v : Value) (us : List Value) (Q : VK), Inv X pins σ H s -> RelV x v -> Vals xs us -> r x xs H Q ->
   wpAny (model X.prog X.w) X.A (call (.builtin id) (v :: us)) (EP X pins σ Q) X.xe s
section
variable {X : Cx} {a b : Expr} {ta tb : TE} {pos : Pos}
theorem pF.or {r r' : R2} (h : pF X r) (h' : pF X r') : pF X (fun x y H Q => r x y H Q \/ r' x y H Q) := by
 intro value slice pins s σ H x y v u Q I rx ry q hs
 rcases q with q | q
 . exact h value slice pins s σ H x y v u Q I rx ry q hs
 . exact h' value slice pins s σ H x y v u Q I rx ry q hs
theorem a8 {r : R2} (hr : pF X r) (ha : PE X a ta) (hb : PE X b tb) (hs : sW b) : PE X (.Subscript a b pos) (y9 r ta tb) := by
 intro pins s σ H Q I h
 exact Subscript_ (xt ha hb I h fun v u s2 x y H2 I2 rx ry q => hr a b pins s2 σ H2 x y v u Q I2 rx ry q (hs _ _))
def yd (K : PySem.W.Frag) : R2 := fun x y H Q => ∃ p xs i v, x = .ref p /\ y = .int i /\ bF K H p xs /\ jR xs i = some v /\ Q v H
def yY (K : PySem.W.Frag) : R2 := fun x y H Q => ∃ p xs i v, x = .ref p /\ y = .int i /\ lC K H p xs /\ jR xs i = some v /\ Q v H
def wZ : R2 := fun x y H Q => ∃ z i c, x = .str z /\ y = .int i /\ z.length <= sizeLine /\ jR z.cps.toList i = some c /\ Q (.str ⟨#[c]⟩) H
theorem mG : pF X (yd X.K) := by
 intro value slice pins s σ H x y v u Q I rx ry h hs
 obtain ⟨p, xs, i, z, rfl, rfl, hq, he, q⟩ := h
 cases rx
 obtain ⟨t, rfl⟩ := ry
 obtain ⟨aq, r, pl, hz⟩ := I.list hq
 obtain ⟨j, h1, h2, h3, h4, h5⟩ := jl he
 obtain ⟨w, ew, pL⟩ := r.get h2
 have hl := r.length
 have hn := eV
 have fin : EP X pins σ Q w s := ⟨z, H, I, pL, q⟩
 by_cases h0 : 0 <= i
 . have hj : i.toNat = j := by
    rw [seqIndex_of h0 h5] at h1
    exact Option.some.inj h1
   exact item_listR pl.isList h0 (by omega) (by rw [hj]; simpa using ew) fin hs
 . have hj : (i + (aq.toArray.size : Int)).toNat = j := by
    rw [seqIndex_neg (by omega) h4] at h1
    rw [List.size_toArray, <- hl]
    exact Option.some.inj h1
   exact subscriptTail_builtinR (x := w) pl.isList.typeIs slot_list_getitem.lookup
    (wpAny_getItem_list_neg (Q := fun r s' => r = w /\ EP X pins σ Q r s') pl.isList (by omega) (by rw [List.size_toArray] <;> omega) (by omega) (by rw [hj]; simpa using ew) ⟨rfl, fin⟩) hs
theorem wX : pF X (yY X.K) := by
 intro value slice pins s σ H x y v u Q I rx ry h hs
 obtain ⟨p, xs, i, z, rfl, rfl, hq, he, q⟩ := h
 cases rx
 obtain ⟨t, rfl⟩ := ry
 obtain ⟨aq, r, pl, hz⟩ := I.tuple hq
 obtain ⟨j, h1, h2, h3, h4, h5⟩ := jl he
 obtain ⟨w, ew, pL⟩ := r.get h2
 have hl := r.length
 have hn := eV
 have fin : EP X pins σ Q w s := ⟨z, H, I, pL, q⟩
 exact subscriptTail_builtinR (x := w) pl.typeIs slot_tuple_getitem.lookup
  (getItem_tuple (j := j) (Q := fun r s' => r = w /\ EP X pins σ Q r s') pl (by omega) (by omega) (by rw [List.size_toArray, <- hl]; exact h1) (by simpa using ew) ⟨rfl, fin⟩) hs
theorem wg : pF X wZ := by
 intro value slice pins s σ H x y v u Q I rx ry h hs
 obtain ⟨z, i, c, rfl, rfl, hz, he, q⟩ := h
 obtain ⟨t, rfl⟩ := rx
 obtain ⟨t', rfl⟩ := ry
 obtain ⟨j, h1, h2, h3, h4, h5⟩ := jl he
 have hl : z.cps.toList.length = z.length := by simp [Str.length]
 rw [hl] at h1 h4 h5
 have hn := eV
 exact tail_any (typeIs_str s z t) slot_str_getitem.lookup (getItem_str (c := c) (by
  have e1 : decide (i < -(2 ^ 63 : Int)) = false := decide_eq_false (by omega)
  have e2 : decide (i ≥ 2 ^ 63) = false := decide_eq_false (by omega)
  rw [e1, e2, Bool.or_false]) (by rw [h1]; simpa using h2) ⟨.str ⟨#[c]⟩, H, I.tok _, ⟨_, rfl⟩, q⟩) hs
def Eu (K : PySem.W.Frag) : R2 := fun x y H Q => yd K x y H Q \/ yY K x y H Q \/ wZ x y H Q
theorem wU : pF X (Eu X.K) := mG.or (wX.or wg)
theorem lE (aq : List Value) (n j : Nat) (u : Value) : Obj.mapSeq (·.setIfInBounds j u) { cls := .type "list", data := .seq aq.toArray n } = { cls := .type "list", data := .seq (aq.set j u).toArray n } := by
 simp [Obj.mapSeq]
theorem Inv.lst {pins : List (Addr × Obj)} {σ : St} {H : Hp} {s : Shared} {p : Addr} {xs : List V} (I : Inv X pins σ H s) (h : H p = some (.lst xs)) :
 ∃ (aq : List Value) (n : Nat), Vals xs aq /\ s.heap.get? p = some { cls := .type "list", data := .seq aq.toArray n } /\ xs.length <= sizeLine := by
 obtain ⟨z, aq, n, r, e⟩ := I.aB p _ h
 exact ⟨aq, n, r, e, z⟩
theorem Inv.wR {pins : List (Addr × Obj)} {σ : St} {H : Hp} {s : Shared} {p : Addr} {xs ys : List V} {aq its' : List Value} {n n' : Nat} {f : Obj -> Obj} (I : Inv X pins σ H s) (h : H p = some (.lst xs))
 (ho : s.heap.get? p = some { cls := .type "list", data := .seq aq.toArray n }) (hf : f { cls := .type "list", data := .seq aq.toArray n } = { cls := .type "list", data := .seq its'.toArray n' }) (r : Vals ys its') (hz : ys.length <= sizeLine) (t : Nat) :
 Inv X pins σ (upd H p (.lst ys)) { s with heap := s.heap.update p f, toks := t } := by
 have e : (s.heap.update p f).get? p = some { cls := .type "list", data := .seq its'.toArray n' } := by
  rw [Heap.get?_update_self f ho (by rw [hf] <;> rfl), hf]
 refine I.write (x := p) (e := p) (by rw [h]; trivial) (.inl rfl) (fun b u hb q => (Heap.get?_update_other _ _ (Ne.symm hb)).trans q) ⟨_, e⟩ ?_
 exact ⟨hz, its', n', r, e⟩
def u0 : V -> V -> V -> Hp -> (Hp -> Prop) -> Prop := fun o i v H Q => ∃ p xs k j, o = .ref p /\ i = .int k /\ H p = some (.lst xs) /\ pN xs.length k = some j /\ Q (upd H p (.lst (xs.set j v)))
theorem set_list : zz X u0 := by
 intro pins s σ H o i v ov iv u Q I ro ri rv h
 obtain ⟨p, xs, k, j, rfl, rfl, hp, hj, q⟩ := h
 cases ro
 obtain ⟨t, rfl⟩ := ri
 obtain ⟨aq, n, r, ho, hz⟩ := I.lst hp
 obtain ⟨h1, h2, h3, h4⟩ := nS hj
 have hl := r.length
 have hn := eV
 have I' : Inv X pins σ (upd H p (.lst (xs.set j v))) { s with heap := s.heap.update p (Obj.mapSeq (·.setIfInBounds j u)) } :=
  I.wR hp ho (lE aq n j u) (r.set rv j) (by rw [List.length_set]; exact hz) s.toks
 by_cases h0 : 0 <= k
 . have hk : k.toNat = j := by
    rw [seqIndex_of h0 h4] at h1
    exact Option.some.inj h1
   exact PySem.W.ki_setAt ho h0 (by omega) (by rw [List.size_toArray, <- hl]; exact h4) (by rw [hk]; exact ⟨_, I', q⟩)
 . have hk : (k + (aq.toArray.size : Int)).toNat = j := by
    rw [seqIndex_neg (by omega) h3] at h1
    rw [List.size_toArray, <- hl]
    exact Option.some.inj h1
   exact PySem.W.ki_setBack ho (by omega) (by rw [List.size_toArray, <- hl]; exact h3) (by omega) (by rw [hk]; exact ⟨_, I', q⟩)
theorem ju (lo hi : Option Int) (n : Nat) : (sliceBounds lo hi none n).1 = ((HT.kM n 0 lo : Nat) : Int) /\ (sliceBounds lo hi none n).2.1 = ((HT.kM n n hi : Nat) : Int) /\ (sliceBounds lo hi none n).2.2 = 1 := by
 refine ⟨?_, ?_, rfl⟩
 . cases lo with
   | none => simp [sliceBounds, HT.kM]
   | some i =>
     simp only [sliceBounds, HT.kM, Option.getD_none, show (1 : Int) > 0 by decide, if_true]
     by_cases h : i < 0
     . simp only [h, if_true] <;> omega
     . simp only [h, if_false] <;> omega
 . cases hi with
   | none => simp [sliceBounds, HT.kM]
   | some i =>
     simp only [sliceBounds, HT.kM, Option.getD_none, show (1 : Int) > 0 by decide, if_true]
     by_cases h : i < 0
     . simp only [h, if_true] <;> omega
     . simp only [h, if_false] <;> omega
theorem iF (aq : List Value) (lo hi : Option Int) : slicePick aq.toArray lo hi none = ((aq.drop (HT.kM aq.length 0 lo)).take (HT.kM aq.length aq.length hi - HT.kM aq.length 0 lo)).toArray := by
 obtain ⟨h1, h2, h3⟩ := ju lo hi aq.toArray.size
 unfold slicePick
 rw [h1, h2, h3]
 simp only [sliceRange_one, pick_run, List.size_toArray] <;> rfl
def zM (K : PySem.W.Frag) : V -> Option Int -> Option Int -> Hp -> VK -> Prop := fun x lo hi H Q => ∃ a xs, x = .ref a /\ bF K H a xs /\ ∀ p, H p = none -> Q (.ref p) (upd H p (.lst (oX xs lo hi)))
theorem sG : B6 X (zM X.K) := by
 intro pins s σ H x v vl vu lo hi sl Q I rx hs pl pu h
 obtain ⟨a, xs, rfl, hx, q⟩ := h
 cases rx
 obtain ⟨aq, r, ht, hz⟩ := I.list hx
 have hlen := r.length
 refine ⟨"list", _, slot_list_getitem.lookup, ht.isList.typeIs, ?_⟩
 refine wpAny_getItem_list_slice ht.isList hs pl pu .none (by simp) ?_ (by rw [List.size_toArray] <;> omega)
 rw [iF, <- hlen]
 refine ⟨.ref s.heap.objs.size, _, I.laid (t' := s.toks) (o := .lst (oX xs lo hi)) (fun b ob q => Heap.get?_push_of_some _ q) (Nat.le_refl _) ?_, rfl, q _ (I.aB.fresh (Nat.le_refl _))⟩
 exact ⟨Nat.le_trans (kL xs lo hi) hz, _, 0, (r.drop (HT.kM xs.length 0 lo)).take (HT.kM xs.length xs.length hi - HT.kM xs.length 0 lo), Heap.get?_push_size _ rfl⟩
def vj : V -> Bool
 | .a7 => true
 | .bl _ => true
 | .int _ => true
 | .str _ => true
 | _ => false
def Ea : V -> V -> Bool
 | .a7, .a7 => true
 | .bl a, .bl b => a == b
 | .bl a, .int b => (if a then 1 else 0) == b
 | .int a, .bl b => a == (if b then 1 else 0)
 | .int a, .int b => a == b
 | .str a, .str b => a == b
 | _, _ => false
theorem x4 {A : Around} {s : Shared} {y x : V} {u v : Value} (ry : RelV y u) (rx : RelV x v) (fy : vj y = true) (fx : vj x = true) : SeqAt.EqAt A s u v (Ea y x) := by
 cases y with
 | a7 =>
   cases ry
   cases x with
   | a7 => cases rx; exact SeqAt.EqAt.same _
   | bl b => cases rx; exact SeqAt.EqAt.none_bool b
   | int b => obtain ⟨t, rfl⟩ := rx; exact SeqAt.EqAt.none_int b t
   | str b => obtain ⟨t, rfl⟩ := rx; exact SeqAt.EqAt.none_str b t
   | _ => exact absurd (show false = true from fx) Bool.false_ne_true
 | bl a =>
   cases ry
   cases x with
   | a7 => cases rx; exact SeqAt.EqAt.bool_none a
   | bl b => cases rx; exact SeqAt.EqAt.bool_bool a b
   | int b => obtain ⟨t, rfl⟩ := rx; exact SeqAt.EqAt.bool_int a b t
   | str b => obtain ⟨t, rfl⟩ := rx; exact SeqAt.EqAt.bool_str a b t
   | _ => exact absurd (show false = true from fx) Bool.false_ne_true
 | int a =>
   obtain ⟨t', rfl⟩ := ry
   cases x with
   | a7 => cases rx; exact SeqAt.EqAt.int_none a t'
   | bl b => cases rx; exact SeqAt.EqAt.int_bool a t' b
   | int b => obtain ⟨t, rfl⟩ := rx; exact SeqAt.EqAt.int_int a t' b t
   | str b => obtain ⟨t, rfl⟩ := rx; exact SeqAt.EqAt.int_str a t' b t
   | _ => exact absurd (show false = true from fx) Bool.false_ne_true
 | str a =>
   obtain ⟨t', rfl⟩ := ry
   cases x with
   | a7 => cases rx; exact SeqAt.EqAt.str_none a t'
   | bl b => cases rx; exact SeqAt.EqAt.str_bool a t' b
   | int b => obtain ⟨t, rfl⟩ := rx; exact SeqAt.EqAt.str_int a t' b t
   | str b => obtain ⟨t, rfl⟩ := rx; exact SeqAt.EqAt.str_str a t' b t
   | _ => exact absurd (show false = true from fx) Bool.false_ne_true
 | _ => exact absurd (show false = true from fy) Bool.false_ne_true
theorem dA : bL X (.builtin "len") (fun xs H Q => ∃ p ys, xs = [.ref p] /\ (bF X.K H p ys \/ lC X.K H p ys) /\ Q (.int ys.length) H) := by
 intro pins s σ H xs us Q I r h
 obtain ⟨p, ys, rfl, hq, q⟩ := h
 obtain ⟨u, rfl, rx⟩ := vals1 r
 cases rx
 have hn := eV
 rcases hq with hq | hq
 . obtain ⟨aq, r', pl, hz⟩ := I.list hq
   have hlen := r'.length
   exact Calls.call_len_list pl.isList (by simp only [List.size_toArray] <;> omega) ⟨.int ys.length, H, I.tok _, ⟨s.toks + 1, by rw [List.size_toArray, hlen]⟩, q⟩
 . obtain ⟨aq, r', pl, hz⟩ := I.tuple hq
   have hlen := r'.length
   exact len_tuple pl (by simp only [List.size_toArray] <;> omega) ⟨.int ys.length, H, I.tok _, ⟨s.toks + 1, by rw [List.size_toArray, hlen]⟩, q⟩
theorem jB : bL X (.builtin "len") (fun xs H Q => ∃ z, xs = [.str z] /\ z.length <= sizeLine /\ Q (.int z.length) H) := by
 intro pins s σ H xs us Q I r h
 obtain ⟨z, rfl, hz, q⟩ := h
 obtain ⟨u, rfl, t, rfl⟩ := vals1 r
 have hn := eV
 exact len_str (by omega) ⟨.int z.length, H, I.tok _, ⟨_, rfl⟩, q⟩
theorem jn : bL X (.type "list") (fun xs H Q => ∃ p ys, xs = [.ref p] /\ (bF X.K H p ys \/ lC X.K H p ys) /\ ∀ l, H l = none -> Q (.ref l) (upd H l (.lst ys))) := by
 intro pins s σ H xs us Q I r h
 obtain ⟨p, ys, rfl, hq, q⟩ := h
 obtain ⟨u, rfl, rx⟩ := vals1 r
 cases rx
 have fin : ∀ (aq : List Value), Vals ys aq -> ys.length <= sizeLine -> ∀ (h' : Heap) (c' : Nat), (∀ b o', s.heap.get? b = some o' -> h'.get? b = some o') ->
  h'.get? s.heap.objs.size = some { cls := .type "list", dict := none, data := .seq aq.toArray c', slots := #[] } -> EP X pins σ Q (.ref s.heap.objs.size) { s with heap := h' } := fun aq r' hz h' c' kp e =>
  ⟨.ref s.heap.objs.size, _, I.laid (t' := s.toks) kp (Nat.le_refl _) (show aP X.prog X.w _ h' _ (.lst ys) from ⟨hz, aq, c', r', e⟩), rfl, q _ (I.aB.fresh (Nat.le_refl _))⟩
 rcases hq with hq | hq
 . obtain ⟨aq, r', pl, hz⟩ := I.list hq
   have hlen := r'.length
   obtain ⟨o, ho, hc, n, hd⟩ := pl.isList
   exact call_list_seq p (.inl rfl) ho hc hd (fun h' c' kp e => fin aq r' hz h' c' kp e) (by simp only [List.size_toArray] <;> omega)
 . obtain ⟨aq, r', pl, hz⟩ := I.tuple hq
   have hlen := r'.length
   obtain ⟨o, ho, hc, n, hd⟩ := pl
   exact call_list_seq p (.inr rfl) ho hc hd (fun h' c' kp e => fin aq r' hz h' c' kp e) (by simp only [List.size_toArray] <;> omega)
def Be (K : PySem.W.Frag) (T : String) (x : V) (H : Hp) : Prop := match x with
 | .str _ => T = "str"
 | .int _ => T = "int"
 | .ref p => (T = "list" /\ ∃ xs, bF K H p xs) \/ (T = "tuple" /\ ∃ o, K.lookup p = some o /\ o.cls = .type "tuple" /\ o.dict = none) \/
  (T = "dict" /\ ((∃ ao, H p = some (.dK ao)) \/ ∃ ao, H p = some (.dT ao))) \/ (T = "set" /\ ∃ S n, H p = some (.set S n))
 | _ => False
theorem xH {pins : List (Addr × Obj)} {σ : St} {H : Hp} {s : Shared} {T : String} {x : V} {v : Value} (I : Inv X pins σ H s) (r : RelV x v) (ty : Be X.K T x H) :
 s.TypeIs v T /\ ∀ a, v = .ref a -> ∃ ob, s.heap.get? a = some ob /\ ob.dict = none := by
 cases x with
 | str z =>
   obtain ⟨t, rfl⟩ := r
   cases (show T = "str" from ty)
   exact ⟨typeIs_str s z t, fun _ e => nomatch e⟩
 | int i =>
   obtain ⟨t, rfl⟩ := r
   cases (show T = "int" from ty)
   exact ⟨typeIs_int s i t, fun _ e => nomatch e⟩
 | ref p =>
   cases r
   rcases ty with ⟨rfl, xs, hq⟩ | ⟨rfl, o, hk, hc, hd⟩ | ⟨rfl, hk⟩ | ⟨rfl, S, n, hk⟩
   . obtain ⟨aq, _, pl, _⟩ := I.list hq
     refine ⟨pl.isList.typeIs, fun a e => ?_⟩
     cases e
     obtain ⟨o, n, e, c, hd, _⟩ := pl
     exact ⟨o, e, hd⟩
   . refine ⟨⟨o, I.jQ p o hk, hc⟩, fun a e => ?_⟩
     cases e
     exact ⟨o, I.jQ _ o hk, hd⟩
   . have z : ∃ o, s.heap.get? p = some o /\ o.ExactDict := by
      rcases hk with ⟨ao, hk⟩ | ⟨ao, hk⟩
      . obtain ⟨_, _, _, _, o, _, _, e, ex, _⟩ := I.aB p _ hk
        exact ⟨o, e, ex⟩
      . obtain ⟨_, _, _, _, o, _, _, e, ex, _⟩ := I.aB p _ hk
        exact ⟨o, e, ex⟩
     obtain ⟨o, e, ex⟩ := z
     refine ⟨⟨o, e, ex.1⟩, fun a e2 => ?_⟩
     cases e2
     exact ⟨o, e, ex.2.1⟩
   . obtain ⟨o, _, _, _, e, ex, _⟩ := I.aB p _ hk
     refine ⟨⟨o, e, ex.1⟩, fun a e2 => ?_⟩
     cases e2
     exact ⟨o, e, ex.2.1⟩
 | _ => exact False.elim ty
def E8 (K : PySem.W.Frag) (T : String) (r : V -> List V -> Hp -> VK -> Prop) (to : TE) (t : TA) : TE := fun σ H Q => to σ H fun x H1 => Be K T x H1 /\ t σ H1 fun xs H2 => r x xs H2 Q
variable {o e : Expr} {es : List Expr} {to : TE} {t : TA} {name : Str} {apos cq : Pos} {T id : String} {r : V -> List V -> Hp -> VK -> Prop}
theorem pZ (pa : PlainAttrs T) (slot : Slot T name id) (Hs : typeOf (.builtin id) = pure (.type "method_descriptor")) (hm : G8 X id r) (ho : PE X o to) (ha : PA X (e :: es) t)
 (zH : attributeBase o name X.env (eval o X.env) = eval o X.env := by rfl)
 (Cq : ((backTo cq (starEach (e :: es) X.env)).all (fun x => !x.1) && (backToKw cq (keywordEach [] X.env)).all (fun x => x.1.isSome)
  && decide ((e :: es).length + ([] : List Keyword).length + (if ([] : List Keyword).isEmpty then 0 else 1) < 30)) = true := by rfl)
 (hline : (apos.endLine == cq.line) = true := by rfl) (hs : starEach (e :: es) X.env = (false, eval e X.env) :: starEach es X.env := by rfl) (wB : (backTo cq (starEach es X.env)).any (·.1) = false := by rfl) :
 PE X (.Call (.Attribute o name apos) (e :: es) [] cq) (E8 X.K T r to t) := by
 intro pins s σ H Q I h
 refine wpAny_Call_method_late zH Cq hline rfl (bh (ho pins s σ H _ I h) fun v s1 ⟨x, H1, I1, r1, ty, q1⟩ => ?_)
 obtain ⟨h1, h2⟩ := xH I1 r1 ty
 refine ⟨T, id, pa, slot, Hs, h1, h2, ?_⟩
 have hA := ha cq pins s1 σ H1 _ I1 q1
 rw [hs] at hA ⊢
 refine Calls.callWith_builtin (by show (false || (backTo cq (starEach es X.env)).any (·.1)) = false; rw [wB] <;> rfl) (Calls.evalArgs_plain ?_)
 exact bh hA fun us s2 ⟨vs, H2, I2, r2, q2⟩ => hm pins s2 σ H2 x vs v us Q I2 r1 r2 q2
end
def Hc (X : Cx) (id : String) (r : V -> List V -> Hp -> VK -> Prop) : Prop :=
 ∀ (pins : List (Addr × Obj)) (s : Shared) (σ : St) (H : Hp) (x : V) (xs : List V) (v : Value) (us : List Value) (Q : VK), Inv X pins σ H s -> RelV x v -> Vals xs us -> r x xs H Q ->
   wpAny (model X.prog X.w) X.A (call (.builtin id) (v :: us)) (EP X pins σ Q) X.xe s
theorem Vals.one : ∀ {x : V} {us : List Value}, Vals [x] us -> ∃ u, us = [u] /\ RelV x u
 | _, _, .cons r .nil => ⟨_, rfl, r⟩
theorem Vals.reverse {xs : List V} {us : List Value} (h : Vals xs us) : Vals xs.reverse us.reverse := by
 induction h with
 | nil => exact .nil
 | cons r t ih => rw [List.reverse_cons, List.reverse_cons]; exact Vals.append ih (.cons r .nil)
section
variable {X : Cx} {pins : List (Addr × Obj)} {σ : St} {H : Hp} {s : Shared} {l b : Addr} {xs ys zs : List V}
theorem Inv.DV {aq its' : List Value} {n : Nat} {f : Array Value -> Array Value} {t' : Nat} (I : Inv X pins σ H s) (hH : H l = some (.lst xs))
 (e : s.heap.get? l = some { cls := .type "list", data := .seq aq.toArray n }) (hf : f aq.toArray = its'.toArray) (hv : Vals ys its') (hz : ys.length <= sizeLine) :
 Inv X pins σ (upd H l (.lst ys)) { s with heap := s.heap.update l (Obj.mapSeq f), toks := t' } := by
 have q := PySem.IsL.update e f
 rw [hf] at q
 refine I.write (x := l) (e := l) (by rw [hH]; exact trivial) (.inl rfl) (fun b' u hb hu => (Heap.get?_update_other s.heap (Obj.mapSeq f) (Ne.symm hb)).trans hu) ⟨_, q⟩ ?_
 exact ⟨hz, its', _, hv, q⟩
theorem Inv.Dz {aq : List Value} {t' : Nat} (I : Inv X pins σ H s) (hv : Vals ys aq) (hz : ys.length <= sizeLine) :
 Inv X pins σ (upd H s.heap.objs.size (.lst ys)) { s with heap := s.heap.push { cls := .type "list", data := .seq aq.toArray }, toks := t' } :=
 I.laid (fun _ _ q => Heap.get?_push_of_some _ q) (Nat.le_refl _) ⟨hz, aq, 0, hv, Heap.get?_push_size _ rfl⟩
theorem Inv.fresh (I : Inv X pins σ H s) : H s.heap.objs.size = none := I.aB.fresh (Nat.le_refl _)
theorem Inv.yk (I : Inv X pins σ H s) (hH : H l = some (.lst xs)) : xs.length <= sizeLine /\ ∃ (aq : List Value) (n : Nat), Vals xs aq /\ xs.length = aq.length /\ s.heap.get? l = some { cls := .type "list", data := .seq aq.toArray n } := by
 obtain ⟨z, aq, n, r, e⟩ := I.aB l _ hH
 exact ⟨z, aq, n, r, r.length, e⟩
end
section
variable {X : Cx}
def mP : V -> List V -> Hp -> VK -> Prop := fun x vs H Q => ∃ l xs y, x = .ref l /\ vs = [y] /\ H l = some (.lst xs) /\ xs.length < sizeLine /\ Q .a7 (upd H l (.lst (xs ++ [y])))
theorem fH : Hc X "list.append" mP := by
 intro pins s σ H x vs v us Q I rx rv h
 obtain ⟨l, xs, y, rfl, rfl, hH, hz, q⟩ := h
 cases rx
 obtain ⟨u, rfl, ru⟩ := rv.one
 obtain ⟨z, aq, n, r, hl, e⟩ := I.yk hH
 refine call_meets F.slot_list_append ⟨_, e, rfl⟩ F.entry_list_append (F.args_list_append_2 _ _) (PySem.list_append l aq.toArray n u (by rw [List.size_toArray]; omega)) ⟨e, ?_⟩
 refine ⟨.a7, _, I.DV (its' := aq ++ [u]) hH e (by simp) (r.append (.cons ru .nil)) ?_, rfl, q⟩
 rw [List.length_append, List.length_singleton]
 omega
def AJ : R2 := fun x y H Q => ∃ l b xs zs, x = .ref l /\ y = .ref b /\ H l = some (.lst xs) /\ H b = some (.lst zs) /\ xs.length + zs.length <= sizeLine /\ ∀ p, H p = none -> Q (.ref p) (upd H p (.lst (xs ++ zs)))
theorem vU : fD X (binaryOp .Add) AJ := by
 intro pins s σ H x y v u Q I rx ry h
 obtain ⟨l, b, xs, zs, rfl, rfl, hH, hB, hz, q⟩ := h
 cases rx
 cases ry
 obtain ⟨z, aq, n, r, hl, e⟩ := I.yk hH
 obtain ⟨z2, As, n2, r2, Fe, e2⟩ := I.yk hB
 refine PySem.P.add_list e e2 ?_ (by rw [List.size_toArray, List.size_toArray]; omega)
 have ea : aq.toArray ++ As.toArray = (aq ++ As).toArray := by simp
 rw [ea]
 exact ⟨.ref _, _, I.Dz (t' := s.toks) (r.append r2) (by rw [List.length_append]; omega), rfl, q _ I.fresh⟩
end
section
variable {prog : Program} {w : World} {A : Around} {E : Value -> Shared -> Prop} {s : Shared}
set_option maxRecDepth 100000 in
end
section
variable {X : Cx}
end
section
variable {κ : Type} [DecidableEq κ]
def fh (ao : List (κ × V)) (k : κ) : Option V := (ao.find? fun kv => decide (kv.1 = k)).map (·.2)
def putK (ao : List (κ × V)) (k : κ) (v : V) : List (κ × V) :=
 if (ao.any fun kv => decide (kv.1 = k)) = true then ao.map (fun kv => if kv.1 = k then (kv.1, v) else kv) else ao ++ [(k, v)]
theorem fB {p : κ × V} {r : List (κ × V)} {k : κ} (e : p.1 = k) : fh (p :: r) k = some p.2 := by simp [fh, List.find?_cons, e]
theorem eu {p : κ × V} {r : List (κ × V)} {k : κ} (e : ¬ p.1 = k) : fh (p :: r) k = fh r k := by simp [fh, List.find?_cons, e]
theorem kx (k : κ) : ∀ ao : List (κ × V), (ao.any fun kv => decide (kv.1 = k)) = (fh ao k).isSome
 | [] => rfl
 | p :: r => by
   rw [List.any_cons]
   by_cases e : p.1 = k
   . simp only [fB e, decide_eq_true e, Bool.true_or, Option.isSome_some]
   . rw [eu e, decide_eq_false e, Bool.false_or]; exact kx k r
theorem fX (ao : List (κ × V)) (k : κ) (v : V) : (putK ao k v).length <= ao.length + 1 := by
 unfold putK
 split
 . rw [List.length_map]; omega
 . rw [List.length_append, List.length_cons, List.length_nil]; omega
theorem gm.fF {o : Option V} {u : Option Value} (r : gm o u) : o.isSome = u.isSome := by
 cases o with
 | none => cases u with
   | none => rfl
   | some _ => exact (show False from r).elim
 | some _ => cases u with
   | none => exact (show False from r).elim
   | some _ => rfl
theorem KV.val {ao : List (κ × V)} {vs : List (κ × Value)} (r : KV ao vs) (k : κ) : gm (fh ao k) (valueAt vs k) := by
 unfold KV at r
 induction r with
 | nil => exact True.intro
 | @cons p q ps qs h t ih =>
   obtain ⟨h1, h2⟩ := h
   by_cases e : p.1 = k
   . have e' : q.1 = k := h1.symm.trans e
     have b : valueAt (q :: qs) k = some q.2 := by simp [valueAt, List.find?_cons, e']
     rw [fB e, b]; exact h2
   . have e' : ¬ q.1 = k := fun z => e (h1.trans z)
     have b : valueAt (q :: qs) k = valueAt qs k := by simp [valueAt, List.find?_cons, e']
     rw [eu e, b]; exact ih
theorem KV.any {ao : List (κ × V)} {vs : List (κ × Value)} (r : KV ao vs) (k : κ) : (ao.any fun kv => decide (kv.1 = k)) = vs.any fun kv => decide (kv.1 = k) := by
 unfold KV at r
 induction r with
 | nil => rfl
 | cons h t ih => rw [List.any_cons, List.any_cons, ih, h.1]
theorem KV.repl {ao : List (κ × V)} {vs : List (κ × Value)} (r : KV ao vs) (k : κ) {y : V} {u : Value} (ry : RelV y u) :
 KV (ao.map fun kv => if kv.1 = k then (kv.1, y) else kv) (vs.map fun kv => if kv.1 = k then (kv.1, u) else kv) := by
 unfold KV at r ⊢
 induction r with
 | nil => exact .nil
 | @cons p q ps qs h t ih =>
   rw [List.map_cons, List.map_cons]
   refine .cons ?_ ih
   obtain ⟨h1, h2⟩ := h
   by_cases e : p.1 = k
   . rw [if_pos e, if_pos (h1.symm.trans e)]; exact ⟨h1, ry⟩
   . rw [if_neg e, if_neg (fun z => e (h1.trans z))]; exact ⟨h1, h2⟩
theorem KV.put {ao : List (κ × V)} {vs : List (κ × Value)} (r : KV ao vs) (k : κ) {y : V} {u : Value} (ry : RelV y u) : KV (putK ao k y) (stored vs k u) := by
 unfold putK stored
 rw [r.any k]
 by_cases e : (vs.any fun kv => decide (kv.1 = k)) = true
 . rw [if_pos e, if_pos e]; exact r.repl k ry
 . rw [if_neg e, if_neg e]; exact Paired.snoc r ⟨rfl, ry⟩
theorem KV.length {ao : List (κ × V)} {vs : List (κ × Value)} (r : KV ao vs) : ao.length = vs.length := Paired.length r
end
theorem nM {P : Program} {w : World} {k : Key} {u : Value} (r : RelV (kV k) u) : (bp P w).is k u = true := by
 cases k with
 | inl i => obtain ⟨t, e⟩ := (show ∃ t, u = Value.int i t from r); subst e; exact j3 P w i t
 | inr x => obtain ⟨t, e⟩ := (show ∃ t, u = Value.str x t from r); subst e; exact kh P w x t
theorem iR {P : Program} {w : World} : ∀ {ks : List Key} {us : List Value}, Vals (ks.map kV) us -> ItemsAre (bp P w) ks us
 | [], _, r => by rw [List.map_nil] at r; cases r; exact .nil
 | k :: ks, _, r => by
   rw [List.map_cons] at r
   cases r with
   | cons h t => exact .cons (nM h) (iR t)
abbrev KT (H : Hp) : List (List Key × V) -> List (List Key × Addr × Value) -> Prop := Paired fun p q => p.1 = q.1 /\ H q.2.1 = some (.tup (p.1.map kV)) /\ RelV p.2 q.2.2
theorem KT.val {H : Hp} {ao : List (List Key × V)} {xs : List (List Key × Addr × Value)} (r : KT H ao xs) (k : List Key) : gm (fh ao k) ((atKey xs k).map (·.2)) := by
 induction r with
 | nil => exact True.intro
 | @cons p q ps qs h t ih =>
   obtain ⟨h1, _, h2⟩ := h
   by_cases e : p.1 = k
   . have e' : q.1 = k := h1.symm.trans e
     have b : atKey (q :: qs) k = some q.2 := by simp [atKey, List.find?_cons, e']
     rw [fB e, b]; exact h2
   . have e' : ¬ q.1 = k := fun z => e (h1.trans z)
     have b : atKey (q :: qs) k = atKey qs k := by simp [atKey, List.find?_cons, e']
     rw [eu e, b]; exact ih
theorem KT.repl {H : Hp} {ao : List (List Key × V)} {xs : List (List Key × Addr × Value)} (r : KT H ao xs) (k : List Key) {y : V} {u : Value} (ry : RelV y u) :
 KT H (ao.map fun kv => if kv.1 = k then (kv.1, y) else kv) (xs.map (putAt k u)) := by
 induction r with
 | nil => exact .nil
 | @cons p q ps qs h t ih =>
   rw [List.map_cons, List.map_cons]
   refine .cons ?_ ih
   obtain ⟨h1, h2, h3⟩ := h
   unfold putAt
   by_cases e : p.1 = k
   . rw [if_pos e, if_pos (h1.symm.trans e)]; exact ⟨h1, h2, ry⟩
   . rw [if_neg e, if_neg (fun z => e (h1.trans z))]; exact ⟨h1, h2, h3⟩
theorem KT.put {H : Hp} {ao : List (List Key × V)} {xs : List (List Key × Addr × Value)} (r : KT H ao xs) (k : List Key) {b : Addr} {y : V} {u : Value} (hb : H b = some (.tup (k.map kV))) (ry : RelV y u) :
 KT H (putK ao k y) (storedH xs k b u) := by
 have e : (ao.any fun kv => decide (kv.1 = k)) = (atKey xs k).isSome := by
  rw [kx, (r.val k).fF, Option.isSome_map]
 unfold putK storedH
 rw [e]
 by_cases q : (atKey xs k).isSome = true
 . rw [if_pos q, if_pos q]; exact r.repl k ry
 . rw [if_neg q, if_neg q]; exact Paired.snoc r ⟨rfl, hb, ry⟩
theorem KT.keeps {H H' : Hp} {ao : List (List Key × V)} {xs : List (List Key × Addr × Value)} (r : KT H ao xs) (ht : ∀ b ys, H b = some (.tup ys) -> H' b = some (.tup ys)) : KT H' ao xs :=
 Paired.wM r fun _ _ z => ⟨z.1, ht _ _ z.2.1, z.2.2⟩
section
variable {P : Program} {w : World} {H : Hp} {h : Heap} {a : Addr}
theorem uM {u : HO} (ok : eO P w H h) (e : Rd H a u) : aP P w H h a u := e.ok ok
theorem iJ {ao : List (Key × V)} (ok : eO P w H h) (e : Rd H a (.dK ao)) : ao.length <= sizeLine /\ (a == sysModules) = false /\ ∃ vs, KV ao vs /\ h.DictOf (bp P w) a vs :=
 show aP P w H h a (.dK ao) from uM ok e
theorem zl {ao : List (Key × V)} (ok : eO P w H h) (e : H a = some (.dK ao)) : ao.length <= sizeLine /\ (a == sysModules) = false /\ ∃ vs, KV ao vs /\ h.DictOf (bp P w) a vs := iJ ok (.inl e)
theorem jE {ks : List Key} (ok : eO P w H h) (e : H a = some (.tup (ks.map kV))) : (tupleKind (bp P w)).is h ks a := by
 obtain ⟨_, aq, r, o, h1, h2, n, h3⟩ := (show aP P w H h a (.tup (ks.map kV)) from ok a _ e)
 exact ⟨o, aq.toArray, n, h1, h2, h3, by simpa using iR r⟩
theorem m5 {ao : List (List Key × V)} (ok : eO P w H h) (e : Rd H a (.dT ao)) : ao.length <= sizeLine /\ (a == sysModules) = false /\
 ∃ xs, KT H ao xs /\ h.DictOfH (tupleKind (bp P w)) a xs := by
 obtain ⟨z, y, xs, r, o, es, ep, h1, h2, h3, h4, h5⟩ := (show aP P w H h a (.dT ao) from uM ok e)
 refine ⟨z, y, xs, r, o, es, ep, h1, h2, h3, h4, fun x hx => ?_, h5⟩
 have all : ∀ {l : List (List Key × V)} {m : List (List Key × Addr × Value)}, KT H l m -> ∀ x ∈ m, (tupleKind (bp P w)).is h x.1 x.2.1 := by
  intro l m q
  induction q with
  | nil => intro x hx; exact nomatch hx
  | @cons p q ps qs hq t ih =>
    intro x hx
    rcases List.mem_cons.mp hx with e | hx
    . subst e
      exact jE ok (by rw [<- hq.1]; exact hq.2.1)
    . exact ih x hx
 exact all r x hx
theorem zW {ao : List (List Key × V)} (ok : eO P w H h) (e : H a = some (.dT ao)) : ao.length <= sizeLine /\ (a == sysModules) = false /\
 ∃ xs, KT H ao xs /\ h.DictOfH (tupleKind (bp P w)) a xs := m5 ok (.inl e)
end
def eX (H : Hp) (a : Addr) (y : V) (r : Option V) : Prop :=
 (∃ ao k, Rd H a (.dK ao) /\ y = kV k /\ r = fh ao k) \/ ∃ ao k b, Rd H a (.dT ao) /\ y = .ref b /\ H b = some (.tup (k.map kV)) /\ r = fh ao k
def md (H : Hp) (a : Addr) (y v : V) (H' : Hp) : Prop :=
 (∃ ao k, H a = some (.dK ao) /\ y = kV k /\ ao.length < sizeLine /\ H' = upd H a (.dK (putK ao k v))) \/
 ∃ ao k b, H a = some (.dT ao) /\ y = .ref b /\ H b = some (.tup (k.map kV)) /\ ao.length < sizeLine /\ H' = upd H a (.dT (putK ao k v))
theorem eX.k {H : Hp} {a : Addr} {ao : List (Key × V)} {k : Key} (e : H a = some (.dK ao)) : eX H a (kV k) (fh ao k) := .inl ⟨ao, k, .inl e, rfl, rfl⟩
theorem md.k {H : Hp} {a : Addr} {ao : List (Key × V)} {k : Key} {v : V} (e : H a = some (.dK ao)) (hl : ao.length < sizeLine) : md H a (kV k) v (upd H a (.dK (putK ao k v))) := .inl ⟨ao, k, e, rfl, hl, rfl⟩
section
variable {X : Cx} {pins : List (Addr × Obj)} {σ : St} {H : Hp} {s : Shared} {a : Addr} {y v : V} {u r : Value} {o : Option V} {A : Around} {E : Value -> Shared -> Prop}
theorem Inv.big (I : Inv X pins σ H s) : sysModules < s.heap.objs.size := by
 have h : mainGlobals < s.heap.objs.size := (I.mod.glob.keeps I.bk).lt
 exact Nat.lt_trans (by decide) h
theorem oi {Q : Value -> Shared -> Prop} (hu : A.units + 1 < cLine) (I : Inv X pins σ H s) (g : eX H a y (some v)) (ry : RelV y u) (h : ∀ w' s', Inv X pins σ H s' -> RelV v w' -> Q w' s') :
 wpAny (model X.prog X.w) A (getItem (.ref a) u) Q E s := by
 rcases g with ⟨ao, k, e, ey, l⟩ | ⟨ao, k, b, e, ey, eb, l⟩
 . subst ey
   obtain ⟨z, hd, vs, rel, dd⟩ := iJ I.aB e
   obtain ⟨w', hw, pL⟩ := gm.some_of (v := v) (o := valueAt vs k) (by rw [l]; exact rel.val k)
   exact wpAny_getItem_of (nM ry) dd.mapOf hw (h w' _ (I.tok _) pL)
 . subst ey
   cases (show u = Value.ref b from ry)
   obtain ⟨z, hd, xs, rel, dd⟩ := m5 I.aB e
   obtain ⟨w', hw, pL⟩ := gm.some_of (v := v) (o := (atKey xs k).map (·.2)) (by rw [l]; exact rel.val k)
   obtain ⟨p, hp, Hr⟩ := Option.map_eq_some_iff.mp hw
   refine wpAny_getItem_heap (tupleKind_room_in1 hu) (jE I.aB eb) dd hp ?_
   rw [Hr]
   exact h w' _ (I.tok _) pL
theorem sx {Q : Value -> Shared -> Prop} (hu : A.units + 1 < cLine) (I : Inv X pins σ H s) (g : eX H a y o) (ry : RelV y u) (h : ∀ s', Inv X pins σ H s' -> Q (.bool (!o.isSome)) s') :
 wpAny (model X.prog X.w) A (compareOp .NotIn u (.ref a)) Q E s := by
 rcases g with ⟨ao, k, e, ey, l⟩ | ⟨ao, k, b, e, ey, eb, l⟩
 . subst ey
   obtain ⟨z, hd, vs, rel, dd⟩ := iJ I.aB e
   refine wpAny_notIn_of (nM ry) hd dd.mapOf ?_
   rw [<- (rel.val k).fF, <- l]
   exact h _ (I.tok _)
 . subst ey
   cases (show u = Value.ref b from ry)
   obtain ⟨z, hd, xs, rel, dd⟩ := m5 I.aB e
   refine wpAny_notIn_heap (tupleKind_room_in1 hu) (jE I.aB eb) hd dd ?_
   have q := (rel.val k).fF
   rw [Option.isSome_map] at q
   rw [<- q, <- l]
   exact h _ (I.tok _)
theorem mU {h' : Heap} {t' : Nat} {ob : HO} (I : Inv X pins σ H s) (mu : AQ (H a)) (hs : Heap.SameBut a s.heap h') (he : ∃ q, h'.get? a = some q) (new : aP X.prog X.w (upd H a ob) h' a ob) :
 Inv X pins σ (upd H a ob) { s with heap := h', toks := t' } :=
 I.write (x := a) (e := a) mu (.inl rfl) (fun b q hb z => (hs.2 b hb).trans z) he new
theorem rS {P : Program} {w : World} {H' : Hp} {h' : Heap} {ao : List (Key × V)} {vs : List (Key × Value)} (z : ao.length <= sizeLine) (hd : (a == sysModules) = false) (rel : KV ao vs) (dd : h'.DictOf (bp P w) a vs) :
 aP P w H' h' a (.dK ao) := ⟨z, hd, vs, rel, dd⟩
theorem n8 {H' : Hp} {Q : Unit -> Shared -> Prop} (hu : A.units + 1 < cLine) (I : Inv X pins σ H s) (g : md H a y v H') (ry : RelV y u) (rv : RelV v r) (h : ∀ s', Inv X pins σ H' s' -> Q () s') :
 wpAny (model X.prog X.w) A (setItem (.ref a) u r) Q E s := by
 rcases g with ⟨ao, k, e, ey, l, eH⟩ | ⟨ao, k, b, e, ey, eb, l, eH⟩
 . subst ey eH
   obtain ⟨z, hd, vs, rel, dd⟩ := zl I.aB e
   have hz : vs.length <= sizeLine := by rw [<- rel.length]; exact z
   have hl : (putK ao k v).length <= sizeLine := by have := fX ao k v; omega
   refine wpAny_setItem_pairs (hsz := hz) (nM ry) dd fun h' yF hs => h _ ?_
   have he : ∃ q, h'.get? a = some q := let ⟨q, _, _, hq, _⟩ := yF; ⟨q, hq⟩
   exact mU I (by rw [e]; exact True.intro) hs he (rS hl hd (rel.put k rv) yF)
 . subst ey eH
   cases (show u = Value.ref b from ry)
   obtain ⟨z, hd, xs, rel, dd⟩ := zW I.aB e
   have hz : xs.length <= sizeLine := by rw [<- Paired.length rel]; exact z
   have hl : (putK ao k v).length <= sizeLine := by have := fX ao k v; omega
   refine wpAny_setItem_heap (hsz := hz) (tupleKind_room_in1 hu) (jE I.aB eb) dd fun h' yF hs => h _ ?_
   obtain ⟨q, es, ep, hq, h2, h3, h4, _, h5⟩ := yF
   refine mU I (by rw [e]; exact True.intro) hs ⟨q, hq⟩ ⟨hl, hd, _, (rel.put k eb rv).keeps fun c ys ec => ?_, q, es, ep, hq, h2, h3, h4, h5⟩
   rw [ai (Aw ec e (fun z => nomatch z))]
   exact ec
end
section
variable {X : Cx} {pins : List (Addr × Obj)} {σ : St} {H : Hp} {s : Shared} {a : Addr} {ao : List (Key × V)} {k : Key} {u : Value} {A : Around} {E : Value -> Shared -> Prop}
theorem Ay {Q : Value -> Shared -> Prop} (I : Inv X pins σ H s) (e : Rd H a (.dK ao)) (h : ∀ t s', Inv X pins σ H s' -> Q (.int ao.length t) s') : wpAny (model X.prog X.w) A (call (.builtin "len") [.ref a]) Q E s := by
 obtain ⟨z, hd, vs, rel, dd⟩ := iJ I.aB e
 refine call_len_dict hd dd (by rw [<- rel.length]; rw [sizeLine_eq] at z; omega) ?_
 rw [<- rel.length]
 exact h _ _ (I.tok _)
end
def zD (i : Expr) : Prop := ∀ ov iv, subscripted i false ov iv = operate [ov, iv] (getItem ov iv)
theorem uw {prog : Program} {w : World} {A : Around} {E : Value -> Shared -> Prop} {s : Shared} {env : Env} {value slice : Expr} {pos : Pos} {T id : String} {Q : Value -> Shared -> Prop}
 (hl : typeLookup (.type T) "__getitem__" = pure (some (.builtin id))) (hs : zD slice)
 (h : wpAny (model prog w) A (eval value env) (fun o s₁ => wpAny (model prog w) A (eval slice env) (fun i s₂ => s₂.TypeIs o T /\ wpAny (model prog w) A (getItem o i) Q E s₂) E s₁) E s) :
 wpAny (model prog w) A (eval (.Subscript value slice pos) env) Q E s := by
 refine Subscript_ (wpAny_mono h (fun o s₁ h₁ => wpAny_mono h₁ (fun i s₂ h₂ => ?_) fun _ _ x => x) fun _ _ x => x)
 obtain ⟨hT, h₂⟩ := h₂
 unfold subscriptTail
 refine wpAny_bind ?_
 rw [getitemInPython_of_ne hT.not_modules]
 refine wpAny_bind (wpAny_specialOf hT hl ?_)
 have fin : wpAny (model prog w) A (subscripted slice false o i) (fun r s₃ => wpAny (model prog w) A (letTemporaryGo value o r >>= fun _ => pure r) Q E s₃) E s₂ := by
  rw [hs o i]
  exact wpAny_operating (wpAny_mono h₂ (fun r s₃ h₃ => wpAny_bind (wpAny_letTemporaryGo (wpAny_pure h₃))) fun _ _ x => x)
 first
  | exact wpAny_pure (wpAny_bind fin)
  | exact wpAny_bind (wpAny_pure (wpAny_bind fin))
  | exact wpAny_bind fin
theorem kc {X : Cx} {pins : List (Addr × Obj)} {σ : St} {H : Hp} {s : Shared} {a : Addr} {y : V} {o : Option V} (I : Inv X pins σ H s) (g : eX H a y o) : s.TypeIs (.ref a) "dict" := by
 rcases g with ⟨ao, k, e, _, _⟩ | ⟨ao, k, b, e, _, _, _⟩
 . obtain ⟨_, _, vs, _, dd⟩ := iJ I.aB e
   exact dd.typeIs
 . obtain ⟨_, _, xs, _, dd⟩ := m5 I.aB e
   exact dd.typeIs
def uU (td ty : TE) : TE := fun σ H Q => td σ H fun x H1 => ty σ H1 fun y H2 => ∃ a v, x = .ref a /\ eX H2 a y (some v) /\ Q v H2
def nU (ty td : TE) : TE := fun σ H Q => ty σ H fun y H1 => td σ H1 fun x H2 => ∃ a o, x = .ref a /\ eX H2 a y o /\ Q (.bl (!o.isSome)) H2
def uS (td ty tv : TE) : TS := fun D σ H => tv σ H fun v H1 => td σ H1 fun x H2 => ty σ H2 fun y H3 => ∃ a H4, x = .ref a /\ md H3 a y v H4 /\ D.nx σ H4
section
variable {X : Cx} {o i e value : Expr} {pos pos' x9 : Pos} {td ty tv : TE}
theorem gu (hu : X.A.units + 1 < cLine) (ho : PE X o td) (hi : PE X i ty) (hs : zD i) : PE X (.Subscript o i pos) (uU td ty) := by
 intro pins s σ H Q I h
 refine uw PySem.F.slot_dict_getitem.lookup hs (bh (ho pins s σ H _ I h) fun u s1 ⟨x, H1, I1, rx, q1⟩ => bh (hi pins s1 σ H1 _ I1 q1) fun iv s2 ⟨y, H2, I2, ry, a, v, ex, g, q2⟩ => ?_)
 subst ex
 obtain rfl : u = Value.ref a := rx
 exact ⟨kc I2 g, oi hu I2 g ry fun w' s3 I3 pL => ⟨v, H2, I3, pL, q2⟩⟩
theorem om (hu : X.A.units + 1 < cLine) (hi : PE X i ty) (ho : PE X o td) : PC X .NotIn i o (nU ty td) := by
 intro pins s σ H Q I h
 refine bh (hi pins s σ H _ I h) fun iv s1 ⟨y, H1, I1, ry, q1⟩ => bh (ho pins s1 σ H1 _ I1 q1) fun u s2 ⟨x, H2, I2, rx, a, ov, ex, g, q2⟩ => ?_
 subst ex
 obtain rfl : u = Value.ref a := rx
 exact sx hu I2 g ry fun s3 I3 => ⟨.bl (!ov.isSome), H2, I3, rfl, q2⟩
theorem jD (hu : X.A.units + 1 < cLine) (ho : PE X o td) (hi : PE X i ty) (hv : PE X value tv) (hs : swapsWith value (some (.Subscript o i pos')) pos.line X.env = pure false) :
 PS X (.Assign [.Subscript o i pos'] value pos) (uS td ty tv) := by
 intro pins s σ H D I h
 refine wpAny_Assign_Subscript (bh (hv pins s σ H _ I h) fun r s1 ⟨v, H1, I1, rv, q1⟩ => bh (ho pins s1 σ H1 _ I1 q1) fun u s2 ⟨x, H2, I2, rx, q2⟩ => bh (hi pins s2 σ H2 _ I2 q2) fun iv s3 ⟨y, H3, I3, ry, a, H4, ex, g, q3⟩ => ?_) hs
 subst ex
 obtain rfl : u = Value.ref a := rx
 exact n8 hu I3 g ry rv fun s4 I4 => ⟨σ, H4, I4, q3⟩
end
theorem pY {P : Program} {w : World} {H : Hp} (h : Heap) (hb : sysModules < h.objs.size) : aP P w H (h.push { cls := .type "dict", data := .dict #[] }) h.objs.size (.dK []) :=
 ⟨Nat.zero_le _, beq_eq_false_iff_ne.mpr (Ne.symm (Nat.ne_of_lt hb)), [], .nil, Heap.DictOf.new h⟩
def qm : TE := fun _ H Q => ∀ p, H p = none -> Q (.ref p) (upd H p (.dK []))
section
variable {X : Cx} {pos : Pos}
theorem pM : PE X (.Dict [] [] pos) qm := fun pins s σ H Q I h =>
 wpAny_Dict_empty ⟨.ref s.heap.objs.size, _, I.laid (a := s.heap.objs.size) (o := .dK []) (t' := s.toks) (fun _ _ q => Heap.get?_push_of_some _ q) (Nat.le_refl _) (pY s.heap I.big), rfl, h _ (I.aB.fresh (Nat.le_refl _))⟩
end
structure M1 (X : Cx) (o : Expr) (m : Str) (apos : Pos) (e : Expr) (cq : Pos) : Prop where
 base : attributeBase o m X.env (eval o X.env) = eval o X.env
 few : ((backTo cq (starEach [e] X.env)).all (fun x => !x.1) && (backToKw cq (keywordEach [] X.env)).all (fun x => x.1.isSome)
  && decide (([e] : List Expr).length + ([] : List Keyword).length + (if ([] : List Keyword).isEmpty then 0 else 1) < 30)) = true
 line : (apos.endLine == cq.line) = true
 trees : backTo cq (starEach [e] X.env) = [(false, eval e X.env)]
structure M2 (X : Cx) (o : Expr) (m : Str) (apos : Pos) (e f : Expr) (cq : Pos) : Prop where
 base : attributeBase o m X.env (eval o X.env) = eval o X.env
 few : ((backTo cq (starEach [e, f] X.env)).all (fun x => !x.1) && (backToKw cq (keywordEach [] X.env)).all (fun x => x.1.isSome)
  && decide (([e, f] : List Expr).length + ([] : List Keyword).length + (if ([] : List Keyword).isEmpty then 0 else 1) < 30)) = true
 line : (apos.endLine == cq.line) = true
 trees : backTo cq (starEach [e, f] X.env) = [(false, eval e X.env), (false, eval f X.env)]
section
variable {X : Cx} {pins : List (Addr × Obj)} {σ : St} {H : Hp} {s : Shared} {a : Addr} {y d : V} {u r : Value} {o : Option V} {A : Around} {E : Value -> Shared -> Prop}
end
section
variable {X : Cx} {o e f : Expr} {apos cq : Pos} {td ty tx : TE}
end
section
variable {X : Cx} {pins : List (Addr × Obj)} {σ : St} {H : Hp} {s : Shared} {a : Addr} {ao : List (Key × V)} {A : Around} {E : Value -> Shared -> Prop}
theorem rB {Q : Value -> Shared -> Prop} (I : Inv X pins σ H s) (e : Rd H a (.dK ao)) (h : ∀ p s', H p = none -> Inv X pins σ (upd H p (.dK ao)) s' -> Q (.ref p) s') : wpAny (model X.prog X.w) A (call (.type "dict") [.ref a]) Q E s := by
 obtain ⟨z, hd, vs, rel, dd⟩ := iJ I.aB e
 refine kt_call_dict hd dd (by rw [<- rel.length]; exact z) fun h' yF hs => ?_
 refine h _ _ (I.aB.fresh (Nat.le_refl _)) (I.laid (a := s.heap.objs.size) (o := .dK ao) (t' := s.toks) (fun b q hq => ?_) (Nat.le_refl _) (rS z (beq_eq_false_iff_ne.mpr (Ne.symm (Nat.ne_of_lt I.big))) rel yF))
 exact (hs.2 b (Nat.ne_of_lt (Heap.lt_size hq))).trans (Heap.get?_push_of_some _ hq)
end
section
variable {X : Cx} {pins : List (Addr × Obj)} {σ : St} {H : Hp} {s : Shared} {a : Addr} {y : V} {u : Value} {A : Around} {E : Value -> Shared -> Prop}
end
end L2
namespace Eo
open PySem PySem.W PySem.Calls PyProof.Rows
theorem gf {P : Params} {h : Heap} : ∀ (ns : List Int) (vs : List Value), WellAll P h vs (ns.map WData.int) -> IntsAre vs ns := by
 intro ns
 induction ns with
 | nil =>
   intro vs w
   rw [List.map_nil] at w
   cases w
   exact .nil
 | cons n ns ih =>
   intro vs w
   rw [List.map_cons] at w
   cases w with
   | cons a b =>
     cases a
     exact .cons _ _ (ih _ b)
theorem px {l : OpenLaw} {n : Nat} (hn : l.most = some n) {P : Params} {h : Heap} {args : List WData} {vals : List Value}
 (uK : l.row.toRowW.claim.pre args = true) (DZ : WellAll P h vals args) :
 ∃ a vs ns, vals = [Value.ref a] /\ args = [WData.list (ns.map WData.int)] /\ h.get? a = some { cls := .type "list", data := .seq vs.toArray } /\ IntsAre vs ns /\ ns.length <= n := by
 have Hh : WShape.hasAll [] args [.list .int] = true := (pre_splitW uK).1
 have hc : l.pre.holds [] { args := args } = true := (pre_splitW uK).2
 obtain ⟨d, r, rfl, h1, h2⟩ := hasAllW_cons Hh
 obtain rfl := hasAllW_nil h2
 obtain ⟨xs, rfl, h3⟩ := hasW_list h1
 obtain ⟨ns, rfl⟩ := items_int h3
 have hlen : ns.length <= n := by
  unfold OpenLaw.pre at hc
  have h4 : (WTm.not (.lt (.lit (.int (n : Int))) (.len (.arg 0)))).holds [] { args := [.list (ns.map .int)] } = true := by
   have h4 := (holds_andW hc).1
   rw [hn] at h4
   exact h4
  have h5 := condW_of h4 (w_not (w_lt w_lit (w_len_list (w_arg rfl))))
  rw [List.length_map] at h5
  refine Nat.le_of_not_lt fun q => ?_
  have q' : (n : Int) < ((ns.length : Nat) : Int) := by omega
  first
   | (rw [decide_eq_true q'] at h5; exact absurd h5 (by decide))
   | (simp at h5; omega)
 cases DZ with
 | cons w1 w2 =>
   cases w2
   cases w1 with
   | list ho xq => exact ⟨_, _, ns, rfl, rfl, ho, gf ns _ xq, hlen⟩
theorem oz (l : OpenLaw) (args : List WData) : l.row.toRowW.claim.post args (.bool true) args = true :=
 postW_of (r := l.row.toRowW) (X := (true == true))
  (show WShape.has [] (.bool true) .bool = true by first | rfl | decide | simp [WShape.has, WShape.arms, WShape.armsAll])
  (show (WTm.eq .res (.lit (.bool true))).value [] { args := args, res := some (.bool true), after := args } = some (.bool (true == true)) from w_eq_bool (w_res rfl) w_lit) rfl
theorem ky {l : OpenLaw} {n : Nat} {q : Program} {loose : List Str} {XP : (Str -> Option Value) -> Heap -> Prop} {YP : World -> Heap -> Prop} {d : DefRec}
 (hn : l.most = some n) (BU : d.params.defaults = [])
 (call : ∀ (w : World) (bE s₁ : Shared) (mg mb : Str -> Option Value) (fa : Addr) (o : Obj) (pm cd doc : Value) (a : Addr) (vs : List Value) (ns : List Int),
  Ground q loose [] XP w bE mg mb s₁.heap -> YP w s₁.heap ->
  s₁.heap.get? fa = some o -> o.data = .func (docDef d.name d.params d.body d.scope pm cd doc) -> s₁.heap.CodeRec cd d.name -> mg d.name = some (.ref fa) ->
  s₁.heap.get? a = some { cls := .type "list", data := .seq vs.toArray } -> IntsAre vs ns -> ns.length <= n -> s₁.gens = #[] ->
  codeAny (model l.prog w) callerA (.call (.ref fa) ⟨[.ref a], []⟩) (fun r s' => r = .ok (.ret (.bool true)) /\ OldK s₁.heap s'.heap /\ s'.os = s₁.os /\ AllBare s'.gens) s₁) :
 WalkO q loose XP YP l.row.toRowW d [] (fun f vs => PySem.call f vs) := by
 intro w bE s₁ mg mb G Y fa o pm cd doc dV kV ho hd iE hD x5 hg args vals as uK Gk II DZ yq
 obtain rfl : dV = .none := Dflts.none hD BU
 obtain rfl : kV = .none := Dflts.noKw hD
 obtain ⟨a, vs, ns, rfl, rfl, yf, hints, hlen⟩ := px hn uK DZ
 refine enter_call (codeAny_mono (call w bE s₁ mg mb fa o pm cd doc a vs ns G Y ho (fd_plain hd) iE x5 yf hints hlen hg) fun r s' hq => ?_)
 obtain ⟨rfl, h2, h3, h4⟩ := hq
 exact ⟨.inl ⟨.bool true, .bool true, [], rfl, fun _ => rfl, .bool true, oz l _, fun _ => ⟨List.Pairwise.nil, fun _ hm => (nomatch hm)⟩⟩, h2, h3, h4⟩
section
variable {prog : Program} {w : World} {A : Around} {E : Value -> Shared -> Prop} {s : Shared} {K : Frag}
end
end Eo
namespace L2
open PySem PySem.Spec PyProof.Rows
theorem fM : ∀ {vs : List Value} {ns : List Int}, IntsAre vs ns -> Vals (ns.map V.int) vs
 | _, _, .nil => .nil
 | _, _, .cons n t h => .cons ⟨t, rfl⟩ (fM h)
def fv (s : Stmt) : Arguments := match s with
 | .FunctionDef _ a _ _ _ _ _ _ _ _ => a
 | _ => { posonlyargs := [], args := [], vararg := none, kwonlyargs := [], kw_defaults := [], kwarg := none, defaults := [] }
def dz (s : Stmt) : List Stmt := match s with
 | .FunctionDef _ _ b _ _ _ _ _ _ _ => b
 | _ => []
def au (s : Stmt) : Scope := match s with
 | .FunctionDef _ _ _ _ _ _ sc _ _ _ => sc
 | _ => { kind := .function, names := [], isGenerator := false, isCoroutine := false }
abbrev gY : kz := fun _ _ _ _ _ _ => False
abbrev E0 : XK := fun _ _ _ => False
theorem zi {X : Cx} : Passes gY X E0 := fun _ _ _ _ _ _ _ h => h.elim
structure IV (K : PySem.W.Frag) (x qual : Str) (st : Stmt) (f : Addr) (fd : FuncData) : Prop where
 ex : ∃ (oc : Value) (od : Option Addr) (kV doc pm : Value) (an : Option Addr) (dj ct : Value) (pA : Array (Option Value)),
  fd = PySem.W.fnOf x qual (fv st) (dz st) (au st) .none kV doc pm an dj ct /\ K.lookup f = some ⟨oc, od, .func fd, pA⟩ /\ PySem.W.codeIn K dj qual = true
 kp : PySem.W.keepIn K (.ref f) = true
section
variable {P : Program} {w : World} {K : PySem.W.Frag} {mg : Str -> Option Value} {base : Heap}
end
theorem eN {A : Around} {k : Nat} (hr : a9 k A) : A.units + 1 < cLine := Nat.lt_of_le_of_lt (Nat.add_le_add_left (by decide : 1 <= 64) _) hr.units
section
variable {X : Cx}
theorem pv (i : Nat) {x : Str} {pos : Pos} (hN : X.N[i]? = some x := by rfl) (hv : yV X.env.scope x := by first | exact Or.inl rfl | exact Or.inr (Or.inl rfl) | exact Or.inr (Or.inr rfl)) (hd : (x == ("__debug__" : Str)) = false := by decide)
 (iE : (x == ("__classdict__" : Str)) = false := by decide) : PE X (.Name x pos) (xm i) := vT hN hv hd iE
theorem oN : bL X (.builtin "len") (fun xs H Q => ∃ a ao, xs = [V.ref a] /\ H a = some (.dK ao) /\ Q (.int ao.length) H) := by
 intro pins s σ H xs us Q I r h
 obtain ⟨a, ao, rfl, ha, q⟩ := h
 obtain ⟨u, rfl, ru⟩ := vals1 r
 cases ru
 exact Ay I (.inl ha) fun t s' I' => ⟨.int ao.length, H, I', ⟨t, rfl⟩, q⟩
end
theorem Eb {A B : Prop} (h : B) : if false = true then A else B := by
 rw [if_neg Bool.false_ne_true]
 exact h
theorem CG {A B : Prop} (h : A) : if true = true then A else B := by
 rw [if_pos rfl]
 exact h
def ah (H H' : Hp) : Prop := ∀ b o, H b = some o -> H' b = some o
theorem ah.refl (H : Hp) : ah H H := fun _ _ h => h
theorem ah.trans {H H1 H2 : Hp} (a : ah H H1) (b : ah H1 H2) : ah H H2 := fun c o h => b c o (a c o h)
theorem ah.seq {K : PySem.W.Frag} {H H' : Hp} {a : Addr} {xs : List V} (e : ah H H') (h : bF K H a xs) : bF K H' a xs := by
 rcases h with (h | ⟨o, h⟩) | h
 . exact .inl (.inl (e _ _ h))
 . exact .inl (.inr ⟨o, e _ _ h⟩)
 . exact .inr h
section
variable {κ : Type} [DecidableEq κ]
end
section
variable {X : Cx}
def nN (i j : Int) : Prop := i.natAbs < 2 ^ 2000 /\ j.natAbs < 2 ^ 2000
theorem nN.ok {i j : Int} (h : nN i j) : IntMulOk i j := by
 have h1 : Builtin.Int.intBits i <= 2000 := PyProof.Rows.intBits_le h.1
 have h2 : Builtin.Int.intBits j <= 2000 := PyProof.Rows.intBits_le h.2
 have h3 : Builtin.Int.intTooBig ((Builtin.Int.intBits i + Builtin.Int.intBits j : Nat) : Int) = false := by
  unfold Builtin.Int.intTooBig
  have : (bitsLine : Nat) = 134217728 := rfl
  refine decide_eq_false ?_
  omega
 unfold IntMulOk
 have h4 : Builtin.Int.intTooBig (Builtin.Int.intBits i + Builtin.Int.intBits j) = false := by
  have e : ((Builtin.Int.intBits i : Int) + (Builtin.Int.intBits j : Int)) = ((Builtin.Int.intBits i + Builtin.Int.intBits j : Nat) : Int) := by omega
  rw [e]; exact h3
 rw [h4]
 simp
theorem cg : fD X (binaryOp .Mult) (rI nN fun i j => .int (i * j)) := BI fun _ _ _ _ _ _ _ hc q => mul_int q hc.ok
def uQ (_ j : Int) : Prop := 0 < j /\ j.natAbs < 2 ^ 2000
theorem aG : fD X (binaryOp .FloorDiv) (rI uQ fun i j => .int (i / j)) := BI fun i j _ _ _ _ _ hc q => by
 have e : i.fdiv j = i / j := Int.fdiv_eq_ediv_of_nonneg _ (Int.le_of_lt hc.1)
 have hl : j.natAbs.log2 < 9000 := by
  have h0 : j.natAbs ≠ 0 := by have := hc.1; omega
  have h2 : j.natAbs.log2 < 2000 := (Nat.log2_lt h0).mpr hc.2
  omega
 refine floordiv_int (by have := hc.1; omega) ?_ (.inl (PyProof.noPylong_of_log2 hl))
 rw [e]; exact q
inductive xZ : V -> Value -> Prop where
 | ty (n : String) : xZ (.ty n) (.type n)
 | ref (C : Addr) : xZ (.ref C) (.ref C)
def qT (K : PySem.W.Frag) : List V -> Hp -> VK -> Prop := fun xs H Q => ∃ x c cv t b, xs = [x, c] /\ xZ c cv /\ fz K H x t /\ PySem.W.kitOne K t cv = some b /\ Q (.bl b) H
theorem gE : bL X (.builtin "isinstance") (qT X.K) := by
 intro pins s σ H xs us Q I r h
 obtain ⟨x, c, cv, t, b, rfl, hc, ty, e, q⟩ := h
 obtain ⟨u, w', rfl, r1, r2⟩ := vals2 r
 have ew : w' = cv := by cases hc <;> exact r2
 subst ew
 exact oV I r1 ty e fun tk => ⟨.bl b, H, I.tok tk, rfl, q⟩
structure Ez (K : PySem.W.Frag) (C : Addr) (m : Str) (f : Addr) : Prop where
 ga : PySem.W.specialIn K (.ref C) "__getattribute__" = some (some (.builtin "type.__getattribute__"))
 rd : PySem.W.readsIn K C (.type "type") = true
 fd : PySem.W.findCls K (.ref C) (.type "type") m = some (.val (.ref f))
 kp : PySem.W.keepIn K (.ref f) = true
end
mutual
inductive dZ (K : PySem.W.Frag) (H : Hp) : V -> PyData -> Prop where
 | a7 : dZ K H .a7 .none
 | bl (b : Bool) : dZ K H (.bl b) (.bool b)
 | int (i : Int) : dZ K H (.int i) (.int i)
 | str (x : Str) : dZ K H (.str x) (.str x)
 | tup {a : Addr} {xs : List V} {ds : List PyData} (h : lC K H a xs) (r : bW K H xs ds) : dZ K H (.ref a) (.tuple ds)
 | lst {a : Addr} {xs : List V} {ds : List PyData} (h : bF K H a xs) (r : bW K H xs ds) : dZ K H (.ref a) (.list ds)
inductive bW (K : PySem.W.Frag) (H : Hp) : List V -> List PyData -> Prop where
 | nil : bW K H [] []
 | cons {x : V} {d : PyData} {xs : List V} {ds : List PyData} (h : dZ K H x d) (r : bW K H xs ds) : bW K H (x :: xs) (d :: ds)
end
theorem lC.keeps {K : PySem.W.Frag} {H H' : Hp} {a : Addr} {xs : List V} (e : ah H H') (h : lC K H a xs) : lC K H' a xs := by
 rcases h with (h | ⟨o, h⟩) | h
 . exact .inl (.inl (e _ _ h))
 . exact .inl (.inr ⟨o, e _ _ h⟩)
 . exact .inr h
mutual
theorem dZ.keeps {K : PySem.W.Frag} {H H' : Hp} (e : ah H H') : ∀ {v : V} {d : PyData}, dZ K H v d -> dZ K H' v d
 | _, _, .a7 => .a7
 | _, _, .bl b => .bl b
 | _, _, .int i => .int i
 | _, _, .str x => .str x
 | _, _, .tup h r => .tup (lC.keeps e h) (bW.keeps e r)
 | _, _, .lst h r => .lst (ah.seq e h) (bW.keeps e r)
theorem bW.keeps {K : PySem.W.Frag} {H H' : Hp} (e : ah H H') : ∀ {vs : List V} {ds : List PyData}, bW K H vs ds -> bW K H' vs ds
 | _, _, .nil => .nil
 | _, _, .cons h r => .cons (dZ.keeps e h) (bW.keeps e r)
end
section
variable {X : Cx} {pins : List (Addr × Obj)} {σ : St} {H : Hp} {s : Shared}
mutual
theorem dZ.reads (I : Inv X pins σ H s) : ∀ {v : V} {d : PyData} {u : Value}, dZ X.K H v d -> RelV v u -> ∃ as, Reads s.heap u d as
 | _, _, _, .a7, r => by cases r; exact ⟨_, .none⟩
 | _, _, _, .bl b, r => by cases r; exact ⟨_, .bool b⟩
 | _, _, _, .int i, r => by obtain ⟨t, rfl⟩ := r; exact ⟨_, .int i t⟩
 | _, _, _, .str x, r => by obtain ⟨t, rfl⟩ := r; exact ⟨_, .str x t⟩
 | _, _, _, .tup h q, r => by
   cases r
   obtain ⟨aq, rv, ⟨o, h1, h2, n, h3⟩, _⟩ := I.tuple h
   obtain ⟨as, ra⟩ := bW.reads I q rv
   exact ⟨_, .tuple h1 h2 h3 (by simpa using ra)⟩
 | _, _, _, .lst h q, r => by
   cases r
   obtain ⟨aq, rv, ⟨o, n, h1, h2, _, h3⟩, _⟩ := I.list h
   obtain ⟨as, ra⟩ := bW.reads I q rv
   exact ⟨_, .list h1 h2 h3 (by simpa using ra)⟩
theorem bW.reads (I : Inv X pins σ H s) : ∀ {vs : List V} {ds : List PyData} {us : List Value}, bW X.K H vs ds -> Vals vs us -> ∃ as, ReadsAll s.heap us ds as
 | _, _, _, .nil, r => by cases r; exact ⟨_, .nil⟩
 | _, _, _, .cons h q, r => by
   cases r with
   | cons r1 r2 =>
     obtain ⟨as, ra⟩ := dZ.reads I h r1
     obtain ⟨bs, rb⟩ := bW.reads I q r2
     exact ⟨_, .cons ra rb⟩
end
end
section
variable {X : Cx}
def zr (K : PySem.W.Frag) (f : Bool -> Bool) : R2 := fun x y H Q => ∃ d e, dZ K H x d /\ dZ K H y e /\ d.canLay0 = true /\ e.canLay0 = true /\ d.depth <= 8 /\ Q (.bl (f (PyData.eqv d e))) H
theorem yr (hu : X.A.units + 8 < cLine) : fD X (compareOp .Eq) (zr X.K id) := by
 intro pins s σ H x y v u Q I rx ry h
 obtain ⟨d, e, hd, he, c1, c2, hn, q⟩ := h
 obtain ⟨as, ra⟩ := hd.reads I rx
 obtain ⟨bs, rb⟩ := he.reads I ry
 exact SeqAt.compareEq_reads ra rb c1 c2 (by have := Nat.min_le_left d.depth e.depth; omega) ⟨.bl _, H, I, rfl, q⟩
theorem vM (hu : X.A.units + 8 < cLine) : fD X (compareOp .NotEq) (zr X.K not) := by
 intro pins s σ H x y v u Q I rx ry h
 obtain ⟨d, e, hd, he, c1, c2, hn, q⟩ := h
 obtain ⟨as, ra⟩ := hd.reads I rx
 obtain ⟨bs, rb⟩ := he.reads I ry
 exact SeqAt.compareNe_reads ra rb c1 c2 (by have := Nat.min_le_left d.depth e.depth; omega) ⟨.bl _, H, I, rfl, q⟩
end
structure oC (P : Program) (w : World) (K : PySem.W.Frag) (mg : Str -> Option Value) (base : Heap) (k : Nat) (f : Addr) (ps : List Str) (eR : List V) (sp : Sp) : Prop where
 ex : ∃ (fd : FuncData) (ds : List Value), bK P w K mg base gY k f fd ps sp /\ Binds K fd ps ds /\ Vals eR ds
section
variable {X : Cx} {k : Nat} {f C : Addr} {ps : List Str} {sp : Sp} {eR : List V} {x m : Str} {p pos apos : Pos} {e o : Expr} {es : List Expr} {ta : TE} {t : TA}
theorem sv (c : oC X.prog X.w X.K X.mg X.base k f ps eR sp) (hr : a9 k X.A) (hg : Gl X x) (hm : X.mg x = some (.ref f)) (hk : PySem.W.keepIn X.K (.ref f) = true)
 (ha : PA X (e :: es) t) (rp : (x == ("__debug__" : Str)) = false := by decide) (he : starEach (e :: es) X.env = (false, eval e X.env) :: starEach es X.env := by rfl) (jT : (backTo pos (starEach es X.env)).any (·.1) = false := by rfl) :
 PE X (.Call (.Name x p) (e :: es) [] pos) (nC sp eR E0 t) := by
 obtain ⟨fd, ds, F, hb, hd⟩ := c.ex
 exact tI F hr hg hm hk hb hd zi ha rp he jT
end
structure cZ (K : PySem.W.Frag) (x qual : Str) (st : Stmt) (f : Addr) (dV : Value) (fd : FuncData) : Prop where
 ex : ∃ (oc : Value) (od : Option Addr) (kV doc pm : Value) (an : Option Addr) (dj ct : Value) (pA : Array (Option Value)),
  fd = PySem.W.fnOf x qual (fv st) (dz st) (au st) dV kV doc pm an dj ct /\ K.lookup f = some ⟨oc, od, .func fd, pA⟩ /\ PySem.W.codeIn K dj qual = true
theorem uA {K : PySem.W.Frag} {x qual : Str} {st : Stmt} {f : Addr} {oc : Value} {od an : Option Addr} {pA : Array (Option Value)} {dV kV doc pm dj ct : Value} (l : K.lookup f = some ⟨oc, od, .func (PySem.W.fnOf x qual (fv st) (dz st) (au st) dV kV doc pm an dj ct), pA⟩)
 (c : PySem.W.codeIn K dj qual = true) : cZ K x qual st f dV (PySem.W.fnOf x qual (fv st) (dz st) (au st) dV kV doc pm an dj ct) := ⟨⟨oc, od, kV, doc, pm, an, dj, ct, pA, rfl, l, c⟩⟩
section
variable {P : Program} {w : World} {K : PySem.W.Frag} {mg : Str -> Option Value} {base : Heap}
theorem cZ.ok {x qual : Str} {st : Stmt} {f : Addr} {dV : Value} {fd : FuncData} {N ps : List Str} {k : Nat} {sp : Sp} (F : cZ K x qual st f dV fd) (S : bj N ps (au st)) (len : ∀ vs H Q E, sp vs H Q E -> vs.length = ps.length)
 (er : ∀ (dj : Value) (A : Around) (outer : List Env) (s : Shared) (H : Hp) (vs : List V) (Q : VK) (E : XK), a9 k (A.deeper (envOfC qual (au st) s.heap.objs.size f dj)) -> sp vs H Q E ->
  ∃ t, j9 (k6 gY P w K mg base N qual (au st) f dj A outer s H E).yX (dz st) t /\ t { nx := fun _ H' => Q .a7 H', rt := Q } (start N vs) H) : bK P w K mg base gY (k + 1) f fd ps sp := by
 obtain ⟨oc, od, kV, doc, pm, an, dj, ct, pA, rfl, lk, iE⟩ := F.ex
 refine vI lk iE S len fun A outer s H vs Q E hr r9 => ?_
 obtain ⟨t, h, q⟩ := er dj A outer s H vs Q E hr r9
 exact ⟨t, h.yX, q⟩
theorem cZ.binds {x qual : Str} {st : Stmt} {f : Addr} {dV : Value} {fd : FuncData} {ps : List Str} {ds : List Value} (F : cZ K x qual st f dV fd)
 (h : ∀ (kV doc pm : Value) (an : Option Addr) (dj ct : Value), Binds K (PySem.W.fnOf x qual (fv st) (dz st) (au st) dV kV doc pm an dj ct) ps ds) : Binds K fd ps ds := by
 obtain ⟨oc, od, kV, doc, pm, an, dj, ct, pA, rfl, lk, iE⟩ := F.ex
 exact h kV doc pm an dj ct
end
structure GW (K : PySem.W.Frag) (T : Addr) (items : Array Value) : Prop where
 ex : ∃ (o : Obj) (n : Nat), K.lookup T = some o /\ o.data = .seq items n
structure z4 (K : PySem.W.Frag) (C : Addr) : Prop where
 ha : PySem.W.findIn K (.ref C) "__class__" = some (some (.builtin "object.__class__"))
 hn : PySem.W.specialIn K (.builtin "object.__class__") "__get__" = some (some (.builtin "getset_descriptor.__get__"))
 ht : PySem.W.takesIn K (.builtin "object.__class__") = some true
 hm : PySem.W.mroIn K C (.type "object") = some true
section
variable {σ : St} {H : Hp} {Q : VK} {D : Ends} {K : PySem.W.Frag}
theorem vQ (h : D.nx σ H) : vE D σ H := h
theorem zN {te : TE} (h : te σ H D.rt) : zX te D σ H := h
theorem vO {te : TE} (h : te σ H fun _ H1 => D.nx σ H1) : u5 te D σ H := h
theorem Aj {c : TT} {t u : TS} (h : c σ H fun b H1 => if b = true then t D σ H1 else u D σ H1) : AK c t u D σ H := h
theorem A0 {te : TE} {i : Nat} (h : te σ H fun x H1 => D.nx (σ.set i (some x)) H1) : qD te (dc i) D σ H := h
theorem Am {i : Nat} {v : V} (e : σ[i]? = some (some v)) (h : Q v H) : xm i σ H Q := ⟨v, e, h⟩
theorem FT {v : V} (h : Q v H) : tC v σ H Q := h
theorem Cu {r : R2} {ta tb : TE} (h : ta σ H fun x H1 => tb σ H1 fun y H2 => r x y H2 Q) : y9 r ta tb σ H Q := h
theorem BJ {g : Int -> Int -> V} {i j : Int} (h : Q (g i j) H) : xU g (.int i) (.int j) H Q := ⟨i, j, rfl, rfl, h⟩
theorem HH {C : Int -> Int -> Prop} {g : Int -> Int -> V} {i j : Int} (c : C i j) (h : Q (g i j) H) : rI C g (.int i) (.int j) H Q := ⟨i, j, rfl, rfl, c, h⟩
theorem ym {t : TE} {Q : Bool -> Hp -> Prop} (h : t σ H fun x H' => ∃ k, x = .bl k /\ Q k H') : qq t σ H Q := h
theorem C2 {t u : TT} {Q : Bool -> Hp -> Prop} (h : t σ H fun c H1 => if c = true then Q true H1 else u σ H1 Q) : E1 t u σ H Q := h
theorem AA {t : TT} {Q : Bool -> Hp -> Prop} (h : t σ H fun c H1 => Q (!c) H1) : zb t σ H Q := h
theorem xI {ta tb : TE} (h : ta σ H fun x H1 => ∃ c, x = .bl c /\ if c = true then tb σ H1 Q else Q (.bl false) H1) : uT ta tb σ H Q := h
theorem v5 {ta : TE} (h : ta σ H fun x H1 => ∃ c, x = .bl c /\ Q (.bl (!c)) H1) : ve ta σ H Q := h
theorem CB {b : Bool} {R : Bool -> Prop} (h : R b) : ∃ k, V.bl b = .bl k /\ R k := ⟨b, rfl, h⟩
theorem Ap {Q : List V -> Hp -> Prop} (h : Q [] H) : yx σ H Q := h
theorem wI {ta : TE} {tr : TA} {Q : List V -> Hp -> Prop} (h : ta σ H fun x H1 => tr σ H1 fun xs H2 => Q (x :: xs) H2) : qg ta tr σ H Q := h
theorem B9 {r : List V -> Hp -> VK -> Prop} {t : TA} (h : t σ H fun vs H1 => r vs H1 Q) : DK r t σ H Q := h
theorem qU {A B : Prop} (h : A) : if true = true then A else B := by rw [if_pos rfl]; exact h
theorem oj {A B : Prop} (h : B) : if false = true then A else B := by rw [if_neg Bool.false_ne_true]; exact h
end
section
variable {X : Cx} {e : Expr} {es : List Expr}
theorem PE.weak {t u : TE} (h1 : PE X e t) (h : ∀ σ H Q, u σ H Q -> t σ H Q) : PE X e u := fun pins s σ H Q I q => h1 pins s σ H Q I (h σ H Q q)
def mA (t : TA) : TA := fun σ H Q => ∃ Q' : List V -> Hp -> Prop, t σ H Q' /\ ∀ v H', Q' v H' -> Q v H'
theorem PA.m {t : TA} (h : PA X es t) : PA X es (mA t) := fun pos pins s σ H Q I ⟨Q', q, m⟩ => bh (h pos pins s σ H Q' I q) fun _ _ ⟨v, H', I', r, z⟩ => ⟨v, H', I', r, m v H' z⟩
end
def DQ : Key -> PyData
 | .inl i => .int i
 | .inr x => .str x
mutual
inductive Dv (H : Hp) : V -> PyData -> Prop where
 | a7 : Dv H .a7 .none
 | bl (b : Bool) : Dv H (.bl b) (.bool b)
 | int (i : Int) : Dv H (.int i) (.int i)
 | str (x : Str) : Dv H (.str x) (.str x)
 | tup {a : Addr} {xs : List V} {ds : List PyData} (h : H a = some (.tup xs)) (r : aZ H xs ds) : Dv H (.ref a) (.tuple ds)
 | lst {a : Addr} {xs : List V} {ds : List PyData} (h : Rd H a (.lst xs)) (r : aZ H xs ds) : Dv H (.ref a) (.list ds)
 | dct {a : Addr} {ao : List (Key × V)} {ds : List (PyData × PyData)} (h : H a = some (.dK ao)) (r : sk H ao ds) : Dv H (.ref a) (.dict ds)
inductive sk (H : Hp) : List (Key × V) -> List (PyData × PyData) -> Prop where
 | nil : sk H [] []
 | cons {k : Key} {x : V} {d : PyData} {xs : List (Key × V)} {ds : List (PyData × PyData)} (h : Dv H x d) (r : sk H xs ds) : sk H ((k, x) :: xs) ((DQ k, d) :: ds)
inductive aZ (H : Hp) : List V -> List PyData -> Prop where
 | nil : aZ H [] []
 | cons {x : V} {d : PyData} {xs : List V} {ds : List PyData} (h : Dv H x d) (r : aZ H xs ds) : aZ H (x :: xs) (d :: ds)
end
mutual
theorem Dv.has {K : PySem.W.Frag} {H : Hp} : ∀ {v : V} {d : PyData}, Dv H v d -> d.canLay0 = true -> dZ K H v d
 | _, _, .a7, _ => .a7
 | _, _, .bl b, _ => .bl b
 | _, _, .int i, _ => .int i
 | _, _, .str x, _ => .str x
 | _, _, .tup h r, c => .tup (.of h) (aZ.has r (by simpa [PyData.canLay0] using c))
 | _, _, .lst h r, c => .lst (.inl h) (aZ.has r (by simpa [PyData.canLay0] using c))
 | _, _, .dct h r, c => by simp [PyData.canLay0] at c
theorem aZ.has {K : PySem.W.Frag} {H : Hp} : ∀ {v : List V} {d : List PyData}, aZ H v d -> PyData.canLayAll0 d = true -> bW K H v d
 | _, _, .nil, _ => .nil
 | _, _, .cons h r, c => by
   have c' := c
   simp only [PyData.canLayAll0, Bool.and_eq_true] at c'
   exact .cons (Dv.has h c'.1) (aZ.has r c'.2)
end
theorem ah.rd {H H' : Hp} {a : Addr} {u : HO} (e : ah H H') (h : Rd H a u) : Rd H' a u := by
 rcases h with h | ⟨o, h⟩
 . exact .inl (e _ _ h)
 . exact .inr ⟨o, e _ _ h⟩
mutual
theorem Dv.keeps {H H' : Hp} (e : ah H H') : ∀ {v : V} {d : PyData}, Dv H v d -> Dv H' v d
 | _, _, .a7 => .a7
 | _, _, .bl b => .bl b
 | _, _, .int i => .int i
 | _, _, .str x => .str x
 | _, _, .tup h r => .tup (e _ _ h) (aZ.keeps e r)
 | _, _, .lst h r => .lst (e.rd h) (aZ.keeps e r)
 | _, _, .dct h r => .dct (e _ _ h) (sk.keeps e r)
theorem sk.keeps {H H' : Hp} (e : ah H H') : ∀ {v : List (Key × V)} {d : List (PyData × PyData)}, sk H v d -> sk H' v d
 | _, _, .nil => .nil
 | _, _, .cons h r => .cons (Dv.keeps e h) (sk.keeps e r)
theorem aZ.keeps {H H' : Hp} (e : ah H H') : ∀ {v : List V} {d : List PyData}, aZ H v d -> aZ H' v d
 | _, _, .nil => .nil
 | _, _, .cons h r => .cons (Dv.keeps e h) (aZ.keeps e r)
end
theorem aZ.length {H : Hp} : ∀ {xs : List V} {ds : List PyData}, aZ H xs ds -> xs.length = ds.length
 | _, _, .nil => rfl
 | _, _, .cons _ r => by simp [aZ.length r]
theorem aZ.get {H : Hp} : ∀ {xs : List V} {ds : List PyData} {i : Nat} {d : PyData}, aZ H xs ds -> ds[i]? = some d -> ∃ x, xs[i]? = some x /\ Dv H x d
 | _, _, _, _, .nil, e => by simp at e
 | _, _, 0, _, .cons h _, e => by simp at e; subst e; exact ⟨_, rfl, h⟩
 | _, _, i + 1, x, .cons _ r, e => by
   obtain ⟨d, h1, h2⟩ := aZ.get (i := i) (d := x) r (by simpa using e)
   exact ⟨d, by simpa using h1, h2⟩
theorem aZ.append {H : Hp} : ∀ {xs ys : List V} {ds es : List PyData}, aZ H xs ds -> aZ H ys es -> aZ H (xs ++ ys) (ds ++ es)
 | _, _, _, _, .nil, s => s
 | _, _, _, _, .cons r t, s => .cons r (aZ.append t s)
theorem aZ.ints {H : Hp} : ∀ (ns : List Int), aZ H (ns.map V.int) (ns.map PyData.int)
 | [] => .nil
 | n :: ns => .cons (.int n) (aZ.ints ns)
theorem Dv.int_inv {H : Hp} {v : V} {i : Int} (h : Dv H v (.int i)) : v = .int i := by cases h; rfl
theorem Dv.str_inv {H : Hp} {v : V} {i : Str} (h : Dv H v (.str i)) : v = .str i := by cases h; rfl
def ki (H : Hp) (d : PyData) (Q : VK) : Prop := match d with
 | .none => Q .a7 H
 | .bool b => Q (.bl b) H
 | .int i => Q (.int i) H
 | .str x => Q (.str x) H
 | d => ∀ v, Dv H v d -> Q v H
theorem ki.use {H : Hp} {d : PyData} {Q : VK} (g : ki H d Q) {v : V} (h : Dv H v d) : Q v H := by
 cases h with
 | a7 => exact g
 | bl b => exact g
 | int i => exact g
 | str x => exact g
 | tup h r => exact g _ (.tup h r)
 | lst h r => exact g _ (.lst h r)
 | dct h r => exact g _ (.dct h r)
theorem nE {H : Hp} {xs : List V} {ds : List PyData} {i : Int} {d : PyData} (r : aZ H xs ds) (h : jR ds i = some d) : ∃ x, jR xs i = some x /\ Dv H x d := by
 unfold jR at h ⊢
 rw [r.length]
 cases e : pN ds.length i with
 | none => rw [e] at h; simp at h
 | some j =>
   rw [e] at h
   have h' : ds[j]? = some d := by simpa using h
   obtain ⟨x, h1, h2⟩ := r.get h'
   exact ⟨x, by simpa using h1, h2⟩
def i7 (H : Hp) (v : V) (ds : List PyData) : Prop := Dv H v (.tuple ds) \/ Dv H v (.list ds)
def A3 : R2 := fun x y H Q => ∃ ds i d, y = .int i /\ i7 H x ds /\ jR ds i = some d /\ ki H d Q
theorem um {K : PySem.W.Frag} {x y : V} {H : Hp} {Q : VK} (h : A3 x y H Q) : Eu K x y H Q := by
 obtain ⟨ds, i, d, rfl, hs, hi, g⟩ := h
 rcases hs with hs | hs
 . cases hs with
   | tup h r =>
     obtain ⟨v, h1, h2⟩ := nE r hi
     exact .inr (.inl ⟨_, _, i, v, rfl, rfl, .of h, h1, g.use h2⟩)
 . cases hs with
   | lst h r =>
     obtain ⟨v, h1, h2⟩ := nE r hi
     exact .inl ⟨_, _, i, v, rfl, rfl, .inl h, h1, g.use h2⟩
section
variable {X : Cx}
def xF : R2 := fun x y H Q => A3 x y H Q \/ wZ x y H Q
theorem D7 : pF X xF := fun value slice pins s σ H x y v u Q I r1 r2 h => wU value slice pins s σ H x y v u Q I r1 r2 (h.elim um fun z => .inr (.inr z))
def qc : List V -> Hp -> VK -> Prop := fun xs H Q => (∃ v ds, xs = [v] /\ i7 H v ds /\ Q (.int (ds.length : Nat)) H) \/ ∃ z, xs = [.str z] /\ z.length <= sizeLine /\ Q (.int (z.length : Nat)) H
theorem ou : bL X (.builtin "len") qc := fun pins s σ H xs us Q I r h => by
 rcases h with ⟨v, ds, rfl, hs, q⟩ | h
 . rcases hs with hs | hs
   . cases hs with
     | tup h t => exact dA pins s σ H _ us Q I r ⟨_, _, rfl, .inr (.of h), by rw [t.length]; exact q⟩
   . cases hs with
     | lst h t => exact dA pins s σ H _ us Q I r ⟨_, _, rfl, .inl (.inl h), by rw [t.length]; exact q⟩
 . exact jB pins s σ H _ us Q I r h
def BH : PyData -> String
 | .none => "NoneType" | .bool _ => "bool" | .int _ => "int" | .str _ => "str" | .list _ => "list" | .tuple _ => "tuple" | .dict _ => "dict"
def pJ (t n : String) : Option Bool := if ((Value.type t) == (Value.type n)) = true then some true else if PySem.W.kitMeta n = true then (PySem.fastBuiltinMro t).map (·.contains (.type n)) else none
theorem rK {K : PySem.W.Frag} {t n : String} {b : Bool} (h : pJ t n = some b) : PySem.W.kitOne K (.type t) (.type n) = some b := h
def yt (t n : String) : Bool := t == n || (t == "bool" && n == "int")
theorem o8 : (["NoneType", "bool", "int", "str", "list", "tuple", "dict"].all fun t => ["int", "bool", "str", "list", "tuple", "dict"].all fun n => pJ t n == some (yt t n)) = true := by decide +kernel
theorem pP {t n : String} (ht : t ∈ ["NoneType", "bool", "int", "str", "list", "tuple", "dict"]) (hn : n ∈ ["int", "bool", "str", "list", "tuple", "dict"]) : pJ t n = some (yt t n) := by
 have h := List.all_eq_true.mp (List.all_eq_true.mp o8 t ht) n hn
 exact beq_iff_eq.mp h
theorem sU (d : PyData) : BH d ∈ ["NoneType", "bool", "int", "str", "list", "tuple", "dict"] := by
 cases d <;> simp [BH]
theorem Dv.ty {K : PySem.W.Frag} {H : Hp} {v : V} {d : PyData} (h : Dv H v d) : fz K H v (.type (BH d)) := by
 cases h with
 | a7 => exact .a7
 | bl b => exact .bl b
 | int i => exact .int i
 | str x => exact .str x
 | tup h r => exact .tup h
 | lst h r =>
   rcases h with h | ⟨o, h⟩
   . exact .lst h
   . exact .km h
 | dct h r => exact .dK h
theorem lY {K : PySem.W.Frag} {H : Hp} {v : V} {d : PyData} {n : String} {Q : VK} (h : Dv H v d) (hn : n ∈ ["int", "bool", "str", "list", "tuple", "dict"]) (q : Q (.bl (yt (BH d) n)) H) : qT K [v, .ty n] H Q :=
 ⟨v, .ty n, .type n, _, _, rfl, .ty n, h.ty, rK (pP (sU d) hn), q⟩
def rk (K : PySem.W.Frag) (f : Bool -> Bool) : R2 := fun x y H Q => (tW x y = true /\ Q (.bl (f (decide (x = y)))) H) \/ ∃ d e, Dv H x d /\ Dv H y e /\ d.canLay0 = true /\ e.canLay0 = true /\ d.depth <= 8 /\ Q (.bl (f (PyData.eqv d e))) H
theorem mz (hu : X.A.units + 8 < cLine) : fD X (compareOp .Eq) (rk X.K id) := fun pins s σ H x y v u Q I rx ry h => by
 rcases h with h | ⟨d, e, h1, h2, h3, h4, h5, h6⟩
 . exact A8 pins s σ H x y v u Q I rx ry h
 . exact yr hu pins s σ H x y v u Q I rx ry ⟨d, e, h1.has h3, h2.has h4, h3, h4, h5, h6⟩
theorem lj (hu : X.A.units + 8 < cLine) : fD X (compareOp .NotEq) (rk X.K not) := fun pins s σ H x y v u Q I rx ry h => by
 rcases h with h | ⟨d, e, h1, h2, h3, h4, h5, h6⟩
 . exact zL pins s σ H x y v u Q I rx ry h
 . exact vM hu pins s σ H x y v u Q I rx ry ⟨d, e, h1.has h3, h2.has h4, h3, h4, h5, h6⟩
variable {es : List Expr} {t : TA} {pos : Pos}
def w9 (xs : List V) (H1 : Hp) (Q : VK) : Prop := xs.length <= sizeLine /\ ∃ ds, aZ H1 xs ds /\ ∀ p H2, ah H1 H2 -> H1 p = none -> H2 p = some (.tup xs) -> Dv H2 (.ref p) (.tuple ds) -> Q (.ref p) H2
def xO (xs : List V) (H1 : Hp) (Q : VK) : Prop := xs.length <= sizeLine /\ ∃ ds, aZ H1 xs ds /\ ∀ p H2, ah H1 H2 -> H1 p = none -> H2 p = some (.lst xs) -> aZ H2 xs ds -> Dv H2 (.ref p) (.list ds) -> Q (.ref p) H2
def uN (t : TA) : TE := fun σ H Q => t σ H fun xs H1 => w9 xs H1 Q
theorem jL {x1} (h : PA X es t) : PE X (.Tuple es x1 pos) (uN t) := PE.weak (x6 h.m) fun σ H Q q => ⟨_, q, fun xs H1 ⟨hl, ds, hd, k⟩ => ⟨hl, fun p hp => by
 have sm : ah H1 (upd H1 p (.tup xs)) := fun b u e => by rw [ai (aw e hp)]; exact e
 exact k p _ sm hp av (.tup av (hd.keeps sm))⟩⟩
def u3 (t : TA) : TE := fun σ H Q => t σ H fun xs H1 => xO xs H1 Q
theorem cO (h : PA X es t) : PE X (.List es pos) (u3 t) := PE.weak (xG h.m) fun σ H Q q => ⟨_, q, fun xs H1 ⟨hl, ds, hd, k⟩ => ⟨hl, fun p hp => by
 have sm : ah H1 (upd H1 p (.lst xs)) := fun b u e => by rw [ai (aw e hp)]; exact e
 exact k p _ sm hp av (hd.keeps sm) (.lst (.of av) (hd.keeps sm))⟩⟩
variable {st : Stmt} {rest : List Stmt}
def vR (t u : TS) : TS := fun D σ H => ∃ R : St -> Hp -> Prop, t { D with nx := R } σ H /\ ∀ σ' H', R σ' H' -> u D σ' H'
theorem aj {t u : TS} (h1 : PS X st t) (h2 : j9 X rest u) : j9 X (st :: rest) (vR t u) := by
 intro pins s σ H D I ⟨R, h, k⟩
 refine wpAny_execs_cons (bh (h1 pins s σ H { D with nx := R } I h) fun f s1 q => ?_)
 cases f with
 | next =>
   obtain ⟨σ', H', I', q⟩ := q
   exact h2 pins s1 σ' H' D I' (k _ _ q)
 | ret v => exact q
 | brk => exact q
 | cont => exact q
end
section
variable {σ : St} {H : Hp} {Q : VK} {D : Ends} {K : PySem.W.Frag}
theorem vX {t u : TS} (h : t { D with nx := u D } σ H) : vR t u D σ H := ⟨u D, h, fun _ _ z => z⟩
theorem xP {t : TA} (h : t σ H fun xs H1 => w9 xs H1 Q) : uN t σ H Q := h
theorem ya {xs : List V} {ds : List PyData} (hl : xs.length <= sizeLine) (hd : aZ H xs ds) (k : ∀ v H2, ah H H2 -> Dv H2 v (.tuple ds) -> Q v H2) : w9 xs H Q := ⟨hl, ds, hd, fun p H2 s _ _ d => k (.ref p) H2 s d⟩
theorem yh {t : TA} (h : t σ H fun xs H1 => xO xs H1 Q) : u3 t σ H Q := h
theorem y3 {f : Bool -> Bool} {x y : V} (e : tW x y = true) (h : Q (.bl (f (decide (x = y)))) H) : rk K f x y H Q := .inl ⟨e, h⟩
theorem u6 {f : Bool -> Bool} {x y : V} {d e : PyData} (h1 : Dv H x d) (h2 : Dv H y e) (h3 : d.canLay0 = true) (h4 : e.canLay0 = true) (h5 : d.depth <= 8) (h : Q (.bl (f (PyData.eqv d e))) H) : rk K f x y H Q := .inr ⟨d, e, h1, h2, h3, h4, h5, h⟩
theorem y8 {x : V} {ds : List PyData} {i : Int} {d : PyData} (hs : i7 H x ds) (hi : jR ds i = some d) (g : ki H d Q) : xF x (.int i) H Q := .inl ⟨ds, i, d, rfl, hs, hi, g⟩
theorem xc {v : V} {ds : List PyData} (hs : i7 H v ds) (h : Q (.int (ds.length : Nat)) H) : qc [v] H Q := .inl ⟨v, ds, rfl, hs, h⟩
theorem jG {i : Int} (h : Q (.int i) H) : ki H (.int i) Q := h
theorem ur {i : Str} (h : Q (.str i) H) : ki H (.str i) Q := h
theorem zm {b : Bool} {A B : Prop} (h1 : b = true -> A) (h2 : b = false -> B) : if b = true then A else B := by
 cases b
 . exact Eb (h2 rfl)
 . exact CG (h1 rfl)
end
theorem a9.yK {k : Nat} {A : Around} (r : a9 k A) : A.units + 8 < cLine := Nat.lt_of_le_of_lt (by omega) r.units
theorem aY {H : Hp} {t : Addr} {o : HO} (h : H t = none) : ah H (upd H t o) := fun b u e => by rw [ai (aw e h)]; exact e
section
variable {σ : St} {H : Hp} {Q : VK} {D : Ends} {K : PySem.W.Frag}
end
def isInt : PyData -> Bool | .int _ => true | .bool _ => true | _ => false
def isBool : PyData -> Bool | .bool _ => true | _ => false
def isStr : PyData -> Bool | .str _ => true | _ => false
def Ar : PyData -> Bool | .list _ => true | _ => false
def isTup : PyData -> Bool | .tuple _ => true | _ => false
def uZ : PyData -> Bool | .dict _ => true | _ => false
section
variable {K : PySem.W.Frag} {H : Hp} {v : V} {d : PyData} {Q : VK}
theorem oO (h : Dv H v d) (q : Q (.bl (isInt d)) H) : qT K [v, .ty "int"] H Q := lY h (by decide) (by cases d <;> exact q)
theorem lq (h : Dv H v d) (q : Q (.bl (isBool d)) H) : qT K [v, .ty "bool"] H Q := lY h (by decide) (by cases d <;> exact q)
theorem iV (h : Dv H v d) (q : Q (.bl (uZ d)) H) : qT K [v, .ty "dict"] H Q := lY h (by decide) (by cases d <;> exact q)
def GN (H : Hp) (v : V) (C : Addr) (fs : List (Str × V)) : Prop := ∃ p dx, v = .ref p /\ H p = some (.ins C dx fs)
end
def look (f : Str) : List (Str × V) -> Option V
 | [] => none
 | (g, v) :: r => if f = g then some v else look f r
section
variable {X : Cx}
def jx (K : PySem.W.Frag) : R2 := fun x y H Q => xF x y H Q \/ yd K x y H Q
theorem dg : pF X (jx X.K) := fun value slice pins s σ H x y v u Q I r1 r2 h => h.elim (D7 value slice pins s σ H x y v u Q I r1 r2) (mG value slice pins s σ H x y v u Q I r1 r2)
def j1 (K : PySem.W.Frag) : List V -> Hp -> VK -> Prop := fun xs H Q => qc xs H Q \/ ∃ p ys, xs = [.ref p] /\ bF K H p ys /\ Q (.int ys.length) H
theorem c9 : bL X (.builtin "len") (j1 X.K) := fun pins s σ H xs us Q I r h => by
 rcases h with h | ⟨p, ys, e, hl, q⟩
 . exact ou pins s σ H xs us Q I r h
 . exact dA pins s σ H xs us Q I r ⟨p, ys, e, .inl hl, q⟩
end
section
variable {σ : St} {H : Hp} {Q : VK} {D : Ends} {K : PySem.W.Frag}
theorem nz {x : V} {ds : List PyData} {i : Int} {d : PyData} (hs : i7 H x ds) (hi : jR ds i = some d) (g : ki H d Q) : jx K x (.int i) H Q := .inl (y8 hs hi g)
theorem zS {p : Addr} {xs : List V} {i : Int} {v : V} (hs : bF K H p xs) (hi : jR xs i = some v) (g : Q v H) : jx K (.ref p) (.int i) H Q := .inr ⟨p, xs, i, v, rfl, rfl, hs, hi, g⟩
theorem rL {v : V} {ds : List PyData} (hs : i7 H v ds) (h : Q (.int (ds.length : Nat)) H) : j1 K [v] H Q := .inl (xc hs h)
theorem yD {p : Addr} {xs : List V} (hs : bF K H p xs) (h : Q (.int xs.length) H) : j1 K [.ref p] H Q := .inr ⟨p, xs, rfl, hs, h⟩
end
theorem bg {i : Int} (h1 : -(10 ^ 200) < i) (h2 : i < 10 ^ 200) : i.natAbs < 2 ^ 2000 := by
 have : (10 : Nat) ^ 200 < 2 ^ 2000 := by decide +kernel
 have h3 : i.natAbs < 10 ^ 200 := by
  have e : ((10 : Nat) ^ 200 : Nat) = ((10 : Int) ^ 200).toNat := by decide +kernel
  rw [e]
  generalize (10 : Int) ^ 200 = m at h1 h2 ⊢
  omega
 exact Nat.lt_trans h3 this
theorem Ae {i j : Int} (h1 : -(10 ^ 200) < i /\ i < 10 ^ 200) (h2 : -(10 ^ 200) < j /\ j < 10 ^ 200) : nN i j := ⟨bg h1.1 h1.2, bg h2.1 h2.2⟩
theorem AX {i j : Int} (h1 : 0 < j) (h2 : j < 10 ^ 200) : uQ i j := ⟨h1, bg (Int.lt_trans (by decide) h1) h2⟩
def cell (ns : List Int) (k : Nat) : Int := ns.getD k 0
def lz (K : PySem.W.Frag) : Sp := fun vs H Q _ => ∃ l ns k, vs = [.ref l, .int k] /\ bF K H l (ns.map V.int) /\ 0 <= k /\ Q (.int (cell ns k.toNat)) H
theorem wL {K : PySem.W.Frag} {H : Hp} {Q : VK} {E : XK} {l : Addr} {ns : List Int} {k : Int} (h : bF K H l (ns.map V.int)) (hk : 0 <= k) (q : Q (.int (cell ns k.toNat)) H) : lz K [.ref l, .int k] H Q E := ⟨l, ns, k, rfl, h, hk, q⟩
theorem tP {ns : List Int} {k : Int} (h0 : 0 <= k) (h : k < (ns.map V.int).length) : jR (ns.map V.int) k = some (.int (cell ns k.toNat)) := by
 obtain ⟨n, rfl⟩ := Int.eq_ofNat_of_zero_le h0
 refine fc ?_
 have hn : n < ns.length := by simpa using h
 simp [cell, hn, List.getD_eq_getElem?_getD]
theorem ub {ns : List Int} {k : Int} (h0 : 0 <= k) (h : ¬ k < (ns.map V.int).length) : cell ns k.toNat = 0 := by
 have : ns.length <= k.toNat := by simp at h; omega
 simp [cell, List.getD_eq_getElem?_getD, this]
def nj (sp : Sp) (vs : List V) (H : Hp) (Q : VK) (E : XK) : Prop := ∃ ws, vs = ws /\ sp ws H Q E
theorem qi (sp : Sp) (vs : List V) (H : Hp) (Q : VK) (E : XK) : nj sp vs H Q E = sp vs H Q E := propext ⟨fun ⟨_, e, h⟩ => e ▸ h, fun h => ⟨vs, rfl, h⟩⟩
def jA (sp : Sp) (eR : List V) (E : XK) (t : TA) : TE := fun σ H Q => t σ H fun vs H1 => nj sp (vs ++ eR) H1 Q E
theorem oH (sp : Sp) (eR : List V) (E : XK) (t : TA) : jA sp eR E t = nC sp eR E t := by
 funext σ H Q; unfold jA nC; congr 1; funext vs H1; exact qi _ _ _ _ _
section
variable {X : Cx} {k : Nat} {f C : Addr} {ps : List Str} {sp : Sp} {eR : List V} {x m : Str} {p pos apos : Pos} {e o : Expr} {es : List Expr} {ta : TE} {t : TA}
theorem aS (c : oC X.prog X.w X.K X.mg X.base k f ps eR sp) (hr : a9 k X.A) (hg : Gl X x) (hm : X.mg x = some (.ref f)) (hk : PySem.W.keepIn X.K (.ref f) = true)
 (ha : PA X (e :: es) t) (rp : (x == ("__debug__" : Str)) = false := by decide) (he : starEach (e :: es) X.env = (false, eval e X.env) :: starEach es X.env := by rfl) (jT : (backTo pos (starEach es X.env)).any (·.1) = false := by rfl) :
 PE X (.Call (.Name x p) (e :: es) [] pos) (jA sp eR E0 t) := by rw [oH]; exact sv c hr hg hm hk ha rp he jT
end
section
variable {σ : St} {H : Hp} {Q : VK} {D : Ends} {K : PySem.W.Frag}
theorem sQ {sp : Sp} {eR : List V} {E : XK} {t : TA} (h : t σ H fun vs H1 => nj sp (vs ++ eR) H1 Q E) : jA sp eR E t σ H Q := h
theorem kU {sp : Sp} {vs ws : List V} {E : XK} (e : vs = ws) (h : sp ws H Q E) : nj sp vs H Q E := ⟨ws, e, h⟩
theorem xh {b : Bool} {R : Bool -> Prop} (h : R b) : ∃ k, xA K (.bl b) H k /\ R k := ⟨b, rfl, h⟩
end
theorem vA {n : Nat} (h : Nat.ble n 64 = true) : n <= sizeLine := Nat.le_trans (Nat.le_of_ble_eq_true h) (by decide)
section
variable {X : Cx} {st : Stmt} {rest : List Stmt}
def vF (t u : TS) : TS := vR t u
theorem qR {t u : TS} (h1 : PS X st t) (h2 : j9 X rest u) : j9 X (st :: rest) (vF t u) := aj h1 h2
end
section
variable {σ : St} {H : Hp} {Q : VK} {D : Ends} {K : PySem.W.Frag}
theorem xW {t u : TS} (R : St -> Hp -> Prop) (h : t { D with nx := R } σ H) (k : ∀ σ' H', R σ' H' -> u D σ' H') : vF t u D σ H := ⟨R, h, k⟩
def yw (K : PySem.W.Frag) (x : V) (g : TG) (tb : TS) (D : Ends) (σ : St) (H1 : Hp) : Prop := ∃ a, x = .ref a /\ (∃ xs, bF K H1 a xs) /\ ∃ W : Nat -> Nat -> St -> Hp -> Prop, (∃ m, W 0 m σ H1) /\ ∀ i m σ H, W i m σ H ->
 ((sd K a).stop i H /\ D.nx σ H) \/ ((sd K a).go i H /\ ∃ N : St -> Hp -> Prop, (∀ σ' H', N σ' H' -> ∃ m', m' < m /\ W (i + 1) m' σ' H') /\ ∀ x H', (sd K a).wx i H x H' -> g x σ H' fun σ2 H2 => tb { D with nx := N, ct := N, bk := D.nx } σ2 H2)
theorem Av {tl : TE} {g : TG} {tb : TS} (h : tl σ H fun x H1 => yw K x g tb D σ H1) : yn (pK K tl) g tb D σ H := h
theorem forL {a : Addr} {xs : List V} {g : TG} {tb : TS} (hl : bF K H a xs) (Pv : Nat -> St -> Hp -> Prop) (h0 : Pv 0 σ H) (hk : ∀ i σ H, i <= xs.length -> Pv i σ H -> bF K H a xs)
 (hs : ∀ i x σ H, xs[i]? = some x -> Pv i σ H -> g x σ H fun σ2 H2 => tb { D with nx := Pv (i + 1), ct := Pv (i + 1), bk := D.nx } σ2 H2) (hd : ∀ σ H, Pv xs.length σ H -> D.nx σ H) : yw K (.ref a) g tb D σ H :=
 ⟨a, rfl, ⟨xs, hl⟩, p7 Pv h0 hk hs hd⟩
def D3 (lo : Int) (n : Nat) (g : TG) (tb : TS) (D : Ends) (σ : St) (H1 : Hp) : Prop := ∃ W : Nat -> Nat -> St -> Hp -> Prop, (∃ m, W 0 m σ H1) /\ ∀ i m σ H, W i m σ H ->
 ((sF lo n).stop i H /\ D.nx σ H) \/ ((sF lo n).go i H /\ ∃ N : St -> Hp -> Prop, (∀ σ' H', N σ' H' -> ∃ m', m' < m /\ W (i + 1) m' σ' H') /\ ∀ x H', (sF lo n).wx i H x H' -> g x σ H' fun σ2 H2 => tb { D with nx := N, ct := N, bk := D.nx } σ2 H2)
theorem tO {ta : TA} {g : TG} {tb : TS} (h : ta σ H fun vs H1 => ∃ j : Int, vs = [.int j] /\ -(2 ^ 62) <= j /\ j < 2 ^ 62 /\ D3 0 j.toNat g tb D σ H1) : yn (vw ta) g tb D σ H := h
theorem vV {j : Int} {R : Int -> Prop} (h1 : -(2 ^ 62) <= j) (h2 : j < 2 ^ 62) (h : R j) : ∃ i : Int, [V.int j] = [.int i] /\ -(2 ^ 62) <= i /\ i < 2 ^ 62 /\ R i := ⟨j, rfl, h1, h2, h⟩
end
section
variable {X : Cx}
def vt : List V -> Hp -> VK -> Prop := fun xs H Q => ∃ i j, xs = [.int i, .int j] /\ ∀ k, (k = i \/ k = j) -> k <= i -> k <= j -> Q (.int k) H
theorem iW (hc : X.calm = true) : bL X (.builtin "min") vt := fun pins s σ H xs us Q I r ⟨i, j, e, h⟩ => pB hc pins s σ H xs us Q I r ⟨i, j, e, by
 split
 . exact h _ (.inr rfl) (by omega) (by omega)
 . exact h _ (.inl rfl) (by omega) (by omega)⟩
def vx : List V -> Hp -> VK -> Prop := fun xs H Q => ∃ i j, xs = [.int i, .int j] /\ ∀ k, (k = i \/ k = j) -> i <= k -> j <= k -> Q (.int k) H
theorem o9 (hc : X.calm = true) : bL X (.builtin "max") vx := fun pins s σ H xs us Q I r ⟨i, j, e, h⟩ => pk hc pins s σ H xs us Q I r ⟨i, j, e, by
 split
 . exact h _ (.inr rfl) (by omega) (by omega)
 . exact h _ (.inl rfl) (by omega) (by omega)⟩
def vG : R2 := fun x y H Q => ∃ i j, x = .int i /\ y = .int j /\ 0 < j /\ (0 <= i % j -> i % j < j -> Q (.int (i % j)) H)
theorem ay : fD X (binaryOp .Mod) vG := fun pins s σ H x y v u Q I rx ry ⟨i, j, e1, e2, hj, h⟩ => xE pins s σ H x y v u Q I rx ry ⟨i, j, e1, e2, hj, h (Int.emod_nonneg _ (by omega)) (Int.emod_lt_of_pos _ hj)⟩
end
section
variable {σ : St} {H : Hp} {Q : VK} {D : Ends} {K : PySem.W.Frag}
theorem wJ {i j : Int} (h : ∀ k, (k = i \/ k = j) -> k <= i -> k <= j -> Q (.int k) H) : vt [.int i, .int j] H Q := ⟨i, j, rfl, h⟩
theorem yy {i j : Int} (h : ∀ k, (k = i \/ k = j) -> i <= k -> j <= k -> Q (.int k) H) : vx [.int i, .int j] H Q := ⟨i, j, rfl, h⟩
theorem yi {i j : Int} (hj : 0 < j) (h : 0 <= i % j -> i % j < j -> Q (.int (i % j)) H) : vG (.int i) (.int j) H Q := ⟨i, j, rfl, rfl, hj, h⟩
end
section
variable {σ : St} {H : Hp} {Q : VK} {D : Ends} {K : PySem.W.Frag}
def vd (Pv : Nat -> St -> Hp -> Prop) (m : Nat) (tb : TS) (D : Ends) (σ : St) (H1 : Hp) : Prop := ∃ N : St -> Hp -> Prop, (∀ σ' H', N σ' H' -> ∃ m', m' < m /\ Pv m' σ' H') /\ tb { D with nx := N, ct := N, bk := D.nx } σ H1
theorem x8 {Pv : Nat -> St -> Hp -> Prop} {m : Nat} {tb : TS} (h : tb { D with nx := fun σ' H' => ∃ m', m' < m /\ Pv m' σ' H', ct := fun σ' H' => ∃ m', m' < m /\ Pv m' σ' H', bk := D.nx } σ H) : vd Pv m tb D σ H := ⟨_, fun _ _ h => h, h⟩
theorem tq {c : TT} {tb : TS} (Pv : Nat -> St -> Hp -> Prop) (h0 : ∃ m, Pv m σ H) (hs : ∀ m σ H, Pv m σ H -> c σ H fun b H1 => if b = true then vd Pv m tb D σ H1 else D.nx σ H1) : qC c tb D σ H := ⟨Pv, h0, hs⟩
end
end L2
namespace L2
end L2
namespace L2
open PySem PySem.Spec PyProof.Rows
section
variable {X : Cx}
end
section
variable {σ : St} {H : Hp} {Q : VK} {D : Ends} {K : PySem.W.Frag}
end
theorem xC {H : Hp} {Q : VK} {i j p : Int} (c : xR i j) (e : i ^ j.toNat = p) (h : Q (.int p) H) : rI xR (fun i j => .int (i ^ j.toNat)) (.int i) (.int j) H Q := ⟨i, j, rfl, rfl, c, by show Q (.int (i ^ j.toNat)) H; rw [e]; exact h⟩
section
variable {X : Cx} {e : Expr}
end
section
variable {σ : St} {H : Hp} {Q : VK} {D : Ends} {K : PySem.W.Frag}
end
end L2
namespace L2
end L2
namespace L2
open PySem PySem.Spec PyProof.Rows PySem.W
structure Hz (lt : Nat -> Nat -> Bool) : Prop where
 A4 : ∀ a, lt a a = false
 AZ : ∀ a b, lt a b = true -> lt b a = false
 sj : ∀ a b c, lt a b = false -> lt b c = false -> lt a c = false
section
variable {lt : Nat -> Nat -> Bool} {n : Nat} {S : Shared -> Prop} {cmp : Nat -> Nat -> (Bool -> Shared -> Prop) -> Shared -> Prop}
def Up (lt : Nat -> Nat -> Bool) (p : Array Nat) (k : Nat) : Prop := ∀ i j, i < j -> j < k -> lt (p.getD j 0) (p.getD i 0) = false
def Down (lt : Nat -> Nat -> Bool) (p : Array Nat) (k : Nat) : Prop := ∀ i j, i < j -> j < k -> lt (p.getD i 0) (p.getD j 0) = false
def Alike (lt : Nat -> Nat -> Bool) (p : Array Nat) (a b : Nat) : Prop := ∀ i j, a <= i -> i < b -> a <= j -> j < b -> lt (p.getD i 0) (p.getD j 0) = false
structure Ix (n : Nat) (p : Array Nat) : Prop where
 sz : p.size = n
 pm : p.toList.Perm (List.range n)
theorem Ix.low {p : Array Nat} (h : Ix n p) {i : Nat} (hi : i < n) : p.getD i 0 < n := by
 have vq : i < p.size := by rw [h.sz]; exact hi
 have e : p.getD i 0 = p[i] := by simp [Array.getD, vq]
 rw [e]
 have : p[i] ∈ p.toList := by simp
 exact List.mem_range.mp (h.pm.mem_iff.mp this)
theorem Ix.perm {p q : Array Nat} (h : Ix n p) (hq : q.Perm p) : Ix n q := ⟨hq.size_eq.trans h.sz, (Array.perm_iff_toList_perm.mp hq).trans h.pm⟩
theorem bU {p : Array Nat} {i j : Nat} (hj : j <= p.size) (k : Nat) : (kas_rev p i j).getD k 0 = if i <= k /\ k < j then p.getD (i + j - 1 - k) 0 else p.getD k 0 := by
 unfold kas_rev
 rw [Array.getD_eq_getD_getElem?, getElem?_mirror_all hj k]
 by_cases h : i <= k /\ k < j
 . rw [if_pos h, if_pos h, Array.getD_eq_getD_getElem?]
 . rw [if_neg h, if_neg h, Array.getD_eq_getD_getElem?]
theorem g6 {p : Array Nat} (h : Ix n p) (i j : Nat) : Ix n (kas_rev p i j) := h.perm (mirror_perm _ _ _ _)
theorem jW {p : Array Nat} {k d : Nat} (hk : k < p.size) (hd : d <= k) (i : Nat) : (bubble p k d).getD i 0 = if i = k - d then p.getD k 0 else if k - d < i /\ i <= k then p.getD (i - 1) 0 else p.getD i 0 := by
 rw [Array.getD_eq_getD_getElem?, getElem?_bubble hk d hd i]
 by_cases h : i = k - d
 . rw [if_pos h, if_pos h, Array.getD_eq_getD_getElem?]
 . rw [if_neg h, if_neg h]
   by_cases h2 : k - d < i /\ i <= k
   . rw [if_pos h2, if_pos h2, Array.getD_eq_getD_getElem?]
   . rw [if_neg h2, if_neg h2, Array.getD_eq_getD_getElem?]
def Af (n : Nat) (lt : Nat -> Nat -> Bool) (S : Shared -> Prop) (cmp : Nat -> Nat -> (Bool -> Shared -> Prop) -> Shared -> Prop) : Prop :=
 ∀ i j C s, i < n -> j < n -> S s -> (∀ s', S s' -> C (lt i j) s') -> cmp i j C s
variable (w : Hz lt) (ha : Af n lt S cmp)
include w ha
theorem lO {p : Array Nat} (hp : Ix n p) {Q : Nat -> Shared -> Prop} : ∀ (f k : Nat), 1 <= k -> k + f <= n -> Up lt p k -> (∀ m s, S s -> k <= m -> m <= k + f -> Up lt p m -> (m = k + f \/ (m < k + f /\ lt (p.getD m 0) (p.getD (m - 1) 0) = true)) -> Q m s) -> ∀ s, S s -> (kas_asc p f k).kasWp cmp Q s
 | 0, k, _, _, hu, hq, s, hs => hq k s hs (Nat.le_refl _) (Nat.le_refl _) hu (.inl rfl)
 | f + 1, k, h1, hf, hu, hq, s, hs => by
   refine ha _ _ _ _ (hp.low (by omega)) (hp.low (by omega)) hs fun s' o3 => ?_
   cases e : lt (p.getD k 0) (p.getD (k - 1) 0) with
   | true => exact hq k s' o3 (Nat.le_refl _) (by omega) hu (.inr ⟨by omega, e⟩)
   | false =>
     refine lO hp f (k + 1) (by omega) (by omega) (fun i j fU hj => ?_) (fun m s hs a b c d => hq m s hs (by omega) (by omega) c (by rcases d with d | d; exact .inl (by omega); exact .inr ⟨by omega, d.2⟩)) s' o3
     by_cases xo : j < k
     . exact hu i j fU xo
     . have : j = k := by omega
       subst this
       by_cases hi : i = j - 1
       . rw [hi]; exact e
       . exact w.sj _ _ _ e (hu i (j - 1) (by omega) (by omega))
theorem gx {Q : Array Nat × Nat × Nat -> Shared -> Prop} : ∀ (f : Nat) (p : Array Nat) (k q : Nat), Ix n p -> k + f <= n -> q + 1 <= k -> Down lt p k -> Alike lt p (k - (q + 1)) k ->
 (∀ p' k' q' s, S s -> Ix n p' -> k <= k' -> k' <= k + f -> q' + 1 <= k' -> Down lt p' k' -> Alike lt p' (k' - (q' + 1)) k' -> Q (p', k', q') s) -> ∀ s, S s -> (kas_desc f p k q).kasWp cmp Q s
 | 0, p, k, q, hp, _, h1, hd, hl, hq, s, hs => hq p k q s hs hp (Nat.le_refl _) (Nat.le_refl _) h1 hd hl
 | f + 1, p, k, q, hp, hf, h1, hd, hl, hq, s, hs => by
   refine ha _ _ _ _ (hp.low (by omega)) (hp.low (by omega)) hs fun s' o3 => ?_
   cases e : lt (p.getD k 0) (p.getD (k - 1) 0) with
   | true =>
     have l0 : ∀ i, i < k -> lt (p.getD i 0) (p.getD k 0) = false := fun i hi => by
      by_cases h : i = k - 1
      . rw [h]; exact w.AZ _ _ e
      . exact w.sj _ _ _ (hd i (k - 1) (by omega) (by omega)) (w.AZ _ _ e)
     by_cases h0 : q > 0
     . simp only [if_true, if_pos h0]
       have hk : k <= p.size := by rw [hp.sz]; omega
       refine gx f _ (k + 1) 0 (g6 hp _ _) (by omega) (by omega) (fun i j fU hj => ?_) (fun i j a b c d => ?_) (fun p' k' q' s hs a b c d e f => hq p' k' q' s hs a (by omega) (by omega) d e f) s' o3
       . rw [bU hk, bU hk]
         by_cases xo : j = k
         . subst xo
           rw [if_neg (show ¬ (j - (q + 1) <= j /\ j < j) by omega)]
           by_cases hi : j - (q + 1) <= i /\ i < j
           . rw [if_pos hi]; exact l0 _ (by omega)
           . rw [if_neg hi]; exact l0 _ fU
         . by_cases hi : k - (q + 1) <= i /\ i < k
           . rw [if_pos hi, if_pos (show k - (q + 1) <= j /\ j < k by omega)]
             exact hl _ _ (by omega) (by omega) (by omega) (by omega)
           . rw [if_neg hi]
             by_cases vi : k - (q + 1) <= j /\ j < k
             . rw [if_pos vi]; exact hd _ _ (by omega) (by omega)
             . rw [if_neg vi]; exact hd _ _ fU (by omega)
       . have : i = k := by omega
         have : j = k := by omega
         subst_vars
         exact w.A4 _
     . simp only [if_true, if_neg h0]
       refine gx f _ (k + 1) 0 hp (by omega) (by omega) (fun i j fU hj => ?_) (fun i j a b c d => ?_) (fun p' k' q' s hs a b c d e f => hq p' k' q' s hs a (by omega) (by omega) d e f) s' o3
       . by_cases xo : j = k
         . subst xo; exact l0 _ fU
         . exact hd _ _ fU (by omega)
       . have : i = k := by omega
         have : j = k := by omega
         subst_vars
         exact w.A4 _
   | false =>
     simp only [Bool.false_eq_true, if_false]
     refine ha _ _ _ _ (hp.low (by omega)) (hp.low (by omega)) o3 fun s2 y6 => ?_
     cases e2 : lt (p.getD (k - 1) 0) (p.getD k 0) with
     | true => simp only [if_true]; exact hq p k q s2 y6 hp (Nat.le_refl _) (by omega) h1 hd hl
     | false =>
       simp only [Bool.false_eq_true, if_false]
       refine gx f _ (k + 1) (q + 1) hp (by omega) (by omega) (fun i j fU hj => ?_) (fun i j a b c d => ?_) (fun p' k' q' s hs a b c d e f => hq p' k' q' s hs a (by omega) (by omega) d e f) s2 y6
       . by_cases xo : j = k
         . subst xo
           by_cases h : i = j - 1
           . rw [h]; exact e2
           . exact w.sj _ _ _ (hd i (j - 1) (by omega) (by omega)) e2
         . exact hd _ _ fU (by omega)
       . by_cases hi : i = k
         . by_cases hj : j = k
           . rw [hi, hj]; exact w.A4 _
           . rw [hi]; exact w.sj _ _ _ e (hl _ _ (by omega) (by omega) (by omega) (by omega))
         . by_cases hj : j = k
           . rw [hj]; exact w.sj _ _ _ (hl _ _ (by omega) (by omega) (by omega) (by omega)) e2
           . exact hl _ _ (by omega) (by omega) (by omega) (by omega)
theorem jX {Q : Nat × Array Nat -> Shared -> Prop} {p : Array Nat} {k : Nat} (hp : Ix n p) (h1 : 1 <= k) (hk : k <= n) (hd : Down lt p k) (hq : ∀ m p' s, S s -> Ix n p' -> 1 <= m -> m <= n -> Up lt p' m -> Q (m, p') s) (s : Shared) (hs : S s) : (kas_tail3 k n p).kasWp cmp Q s := by
 unfold kas_tail3
 rw [KasT.kasWp_bind]
 have uJ : k <= p.size := by rw [hp.sz]; exact hk
 refine lO w ha (g6 hp 0 k) (n - k) k h1 (by omega) (fun i j fU hj => ?_) (fun m s hs a b c _ => hq m _ s hs (g6 hp _ _) (by omega) (by omega) c) s hs
 rw [bU uJ, bU uJ, if_pos (by omega), if_pos (by omega)]
 exact hd _ _ (by omega) (by omega)
theorem fW {Q : Nat × Array Nat -> Shared -> Prop} {p : Array Nat} {k : Nat} (hp : Ix n p) (h1 : 1 <= k) (hk : k + 1 <= n) (hd : Down lt p (k + 1)) (hq : ∀ m p' s, S s -> Ix n p' -> 1 <= m -> m <= n -> Up lt p' m -> Q (m, p') s) (s : Shared) (hs : S s) : (kas_descPart k n p).kasWp cmp Q s := by
 unfold kas_descPart
 rw [KasT.kasWp_bind]
 refine gx w ha _ p (k + 1) 0 hp (by omega) (by omega) hd (fun i j a b c d => ?_) (fun p' k' q' s hs si a b c jf hl => ?_) s hs
 . have : i = k := by omega
   have : j = k := by omega
   subst_vars
   exact w.A4 _
 . by_cases h0 : q' > 0
   . simp only [if_pos h0]
     have uJ : k' <= p'.size := by rw [si.sz]; omega
     refine jX w ha (g6 si _ _) (by omega) (by omega) (fun i j fU hj => ?_) hq s hs
     rw [bU uJ, bU uJ]
     by_cases hi : k' - (q' + 1) <= i /\ i < k'
     . rw [if_pos hi, if_pos (by omega)]; exact hl _ _ (by omega) (by omega) (by omega) (by omega)
     . rw [if_neg hi]
       by_cases vi : k' - (q' + 1) <= j /\ j < k'
       . rw [if_pos vi]; exact jf _ _ (by omega) (by omega)
       . rw [if_neg vi]; exact jf _ _ fU (by omega)
   . simp only [if_neg h0]
     exact jX w ha si (by omega) (by omega) jf hq s hs
theorem qV {Q : Nat × Array Nat -> Shared -> Prop} {p : Array Nat} (hn : 1 <= n) (hp : Ix n p) (hq : ∀ m p' s, S s -> Ix n p' -> 1 <= m -> m <= n -> Up lt p' m -> Q (m, p') s) (s : Shared) (hs : S s) : (kas_count n p).kasWp cmp Q s := by
 unfold kas_count
 rw [KasT.kasWp_bind]
 refine lO w ha hp (n - 1) 1 (Nat.le_refl _) (by omega) (fun i j _ _ => by omega) (fun m s hs a b hu hc => ?_) s hs
 by_cases hm : (m == n) = true
 . simp only [if_pos hm]; exact hq m p s hs hp a (by have := beq_iff_eq.mp hm; omega) hu
 . simp only [if_neg hm]
   have Fo : m ≠ n := fun z => hm (beq_iff_eq.mpr z)
   have cz : m < n := by omega
   have kN : lt (p.getD m 0) (p.getD (m - 1) 0) = true := by
    rcases hc with hc | hc
    . omega
    . exact hc.2
   by_cases h1 : m > 1
   . simp only [if_pos h1]
     refine ha _ _ _ _ (hp.low (by omega)) (hp.low (by omega)) hs fun s2 y6 => ?_
     cases e : lt (p.getD 0 0) (p.getD (m - 1) 0) with
     | true => simp only [if_true]; exact hq m p s2 y6 hp a (by omega) hu
     | false =>
       simp only [Bool.false_eq_true, if_false]
       have hk : m <= p.size := by rw [hp.sz]; omega
       have al : ∀ i j, i < m -> j < m -> lt (p.getD i 0) (p.getD j 0) = false := fun i j hi hj => by
        have h1 : lt (p.getD i 0) (p.getD 0 0) = false := by
         by_cases h : i = 0
         . rw [h]; exact w.A4 _
         . exact hu 0 i (by omega) hi
        have h2 : lt (p.getD i 0) (p.getD (m - 1) 0) = false := w.sj _ _ _ h1 e
        by_cases h : j = m - 1
        . rw [h]; exact h2
        . exact w.sj _ _ _ h2 (hu j (m - 1) (by omega) (by omega))
       refine fW w ha (g6 hp _ _) a (by omega) (fun i j fU hj => ?_) hq s2 y6
       rw [bU hk, bU hk, if_pos (by omega)]
       by_cases IH : j < m
       . rw [if_pos (by omega)]; exact al _ _ (by omega) (by omega)
       . rw [if_neg (by omega)]
         have : j = m := by omega
         subst this
         exact w.sj _ _ _ (al _ (j - 1) (by omega) (by omega)) (w.AZ _ _ kN)
   . simp only [if_neg h1]
     refine fW w ha hp a (by omega) (fun i j fU hj => ?_) hq s hs
     have h1 : m = 1 := by omega
     have hi : i = m - 1 := by omega
     have hj : j = m := by omega
     rw [hi, hj]
     exact w.AZ _ _ kN
theorem gT {p : Array Nat} {k : Nat} (hp : Ix n p) (hk : k < n) (hu : Up lt p k) {Q : Nat -> Shared -> Prop} : ∀ (f l r : Nat), l <= r -> r <= k -> r - l <= f -> (∀ i, i < l -> lt (p.getD k 0) (p.getD i 0) = false) -> (∀ i, r <= i -> i < k -> lt (p.getD k 0) (p.getD i 0) = true) ->
 (∀ l s, S s -> l <= k -> (∀ i, i < l -> lt (p.getD k 0) (p.getD i 0) = false) -> (∀ i, l <= i -> i < k -> lt (p.getD k 0) (p.getD i 0) = true) -> Q l s) -> ∀ s, S s -> (kas_place p k f l r).kasWp cmp Q s
 | 0, l, r, FJ, hr, hf, h1, h2, hq, s, hs => hq l s hs (by omega) h1 (fun i a b => h2 i (by omega) b)
 | f + 1, l, r, FJ, hr, hf, h1, h2, hq, s, hs => by
   unfold kas_place
   by_cases h : l ≥ r
   . rw [if_pos h]; exact hq l s hs (by omega) h1 (fun i a b => h2 i (by omega) b)
   . rw [if_neg h]
     refine ha _ _ _ _ (hp.low hk) (hp.low (by omega)) hs fun s' o3 => ?_
     cases e : lt (p.getD k 0) (p.getD ((l + r) / 2) 0) with
     | true =>
       simp only [if_true]
       refine gT hp hk hu f l ((l + r) / 2) (by omega) (by omega) (by omega) h1 (fun i a b => ?_) hq s' o3
       by_cases hi : i = (l + r) / 2
       . rw [hi]; exact e
       . cases e3 : lt (p.getD k 0) (p.getD i 0) with
         | true => rfl
         | false => rw [w.sj _ _ _ e3 (hu ((l + r) / 2) i (by omega) b)] at e; exact e
     | false =>
       simp only [Bool.false_eq_true, if_false]
       refine gT hp hk hu f ((l + r) / 2 + 1) r (by omega) (by omega) (by omega) (fun i a => ?_) h2 hq s' o3
       by_cases hi : i = (l + r) / 2
       . rw [hi]; exact e
       . exact w.sj _ _ _ e (hu i ((l + r) / 2) (by omega) (by omega))
theorem rO {Q : Array Nat -> Shared -> Prop} : ∀ (f : Nat) (p : Array Nat) (k : Nat), Ix n p -> k + f = n -> Up lt p k -> (∀ p' s, S s -> Ix n p' -> Up lt p' n -> Q p' s) -> ∀ s, S s -> (kas_bin f p k).kasWp cmp Q s
 | 0, p, k, hp, hf, hu, hq, s, hs => by
   have : k = n := by omega
   subst this
   exact hq p s hs hp hu
 | f + 1, p, k, hp, hf, hu, hq, s, hs => by
   unfold kas_bin
   rw [KasT.kasWp_bind]
   refine gT w ha hp (by omega) hu k 0 k (by omega) (Nat.le_refl _) (by omega) (fun i h => by omega) (fun i a b => by omega) (fun l s hs hl h1 h2 => ?_) s hs
   have hk : k < p.size := by rw [hp.sz]; omega
   refine rO f _ (k + 1) (hp.perm (bubble_perm _ _ _)) (by omega) (fun i j fU hj => ?_) hq s hs
   rw [jW hk (by omega), jW hk (by omega)]
   have el : k - (k - l) = l := by omega
   rw [el]
   by_cases vz : j = l
   . rw [if_pos vz, if_neg (by omega), if_neg (by omega)]; exact h1 i (by omega)
   . rw [if_neg vz]
     by_cases Bp : i = l
     . rw [if_pos Bp, if_pos (by omega)]; exact w.AZ _ _ (h2 _ (by omega) (by omega))
     . rw [if_neg Bp]
       by_cases tT : l < i /\ i <= k
       . rw [if_pos tT, if_pos (by omega)]; exact hu _ _ (by omega) (by omega)
       . rw [if_neg tT]
         by_cases vi : l < j /\ j <= k
         . rw [if_pos vi]; exact hu _ _ (by omega) (by omega)
         . rw [if_neg vi]; exact hu _ _ fU (by omega)
theorem sV {Q : Array Nat -> Shared -> Prop} (hn : 1 <= n) (hq : ∀ p' s, S s -> Ix n p' -> Up lt p' n -> Q p' s) (s : Shared) (hs : S s) : (kas_sort n).kasWp cmp Q s := by
 unfold kas_sort
 rw [KasT.kasWp_bind]
 refine qV w ha hn ⟨by simp, by simp⟩ (fun m p' s hs hp h1 hm hu => ?_) s hs
 by_cases h : m < n
 . simp only [if_pos h]
   have : max m 1 = m := by omega
   rw [this]
   exact rO w ha _ p' m hp (by omega) hu hq s hs
 . simp only [if_neg h]
   have : m = n := by omega
   subst this
   exact hq p' s hs hp hu
end
section
variable {X : Cx} {pins : List (Addr × Obj)} {σ : St} {H H' : Hp} {s : Shared} {a : Addr}
theorem Inv.kE {f : Obj -> Obj} (I : Inv X pins σ H s) (fa : bC X pins H a) : Inv X pins σ H { s with heap := s.heap.update a f } :=
 I.turned (t' := s.toks) (fun b o hb e => by rw [Heap.get?_update_ne _ _ _ _ hb]; exact e) fa.1 fa.2.1 fa.2.2.2.1 fa.2.2.2.2.1 fa.2.2.2.2.2
theorem Inv.fb {o : Obj} (I : Inv X pins σ H s) : Inv X pins σ H { s with heap := s.heap.push o } := I.kept (t' := s.toks) fun b u e => Heap.get?_push_of_some _ e
theorem bC.keep (fa : bC X pins H a) (h : H' a = none) : bC X pins H' a := ⟨h, fa.2⟩
theorem Inv.Ac {acc : List V} {aq : List Value} {n : Nat} (I : Inv X pins σ H s) (fa : bC X pins H a) (qY : X.bE.heap.objs.size <= a) (hl : acc.length <= sizeLine) (r : Vals acc aq) (hd : s.heap.get? a = some { cls := .type "list", data := .seq aq.toArray n }) :
 Inv X pins σ (upd H a (.lst acc)) s := by
 have ne : ∀ b u, H b = some u -> b ≠ a := fun b u e => aw e fa.1
 have old : ∀ b o, X.bE.heap.get? b = some o -> b ≠ a := fun b o e => Nat.ne_of_lt (Nat.lt_of_lt_of_le (Heap.lt_size e) qY)
 have U := I.base
 refine ⟨I.ok, I.os, I.bare, ⟨U.keep, U.slot, fun b o e n hx => ?_, U.there, fun b xs e => ?_, fun b o u e => ?_, fun b ps e => ?_⟩, I.loc, I.cell, ?_, fun x c e => ?_, fun p hp => ?_, fun b u e => ?_, I.len⟩
 . rw [ai (old b o e)]; exact U.free b o e n hx
 . rw [ai (ne b _ (U.f7 b xs e))]; exact U.f7 b xs e
 . rw [ai (ne b _ (U.fN b o u e))]; exact U.fN b o u e
 . obtain ⟨more, q⟩ := U.gD b ps e
   exact ⟨more, by rw [ai (ne b _ q)]; exact q⟩
 . rw [ai (Ne.symm fa.2.1)]; exact I.free
 . rw [ai (fa.2.2.2.2.1 x c e)]; exact I.cN x c e
 . obtain ⟨e1, e2, e3⟩ := I.pin p hp
   exact ⟨e1, by rw [ai (fa.2.2.2.2.2 p hp)]; exact e2, e3⟩
 . by_cases hb : b = a
   . subst hb
     rw [av] at e
     cases e
     exact ⟨hl, aq, n, r, hd⟩
   . rw [ai hb] at e
     exact (I.aB b u e).jh (fun c v _ q => q) (fun c q => by rw [ai (ne c _ q)]; exact q) fun c xs q => by rw [ai (ne c _ q)]; exact q
end
def nu (a b : Str) : Bool := decide (a.cps.toList < b.cps.toList)
def bA (a b : Int × Str) : Bool := decide (a.1 < b.1) || (decide (a.1 = b.1) && nu a.2 b.2)
theorem tJ (a : Str) : nu a a = false := decide_eq_false (List.lt_irrefl _)
theorem sI {a b : Str} (h : nu a b = true) : nu b a = false := decide_eq_false (List.lt_asymm (of_decide_eq_true h))
theorem tU {a b c : Str} (h : nu a b = false) (h2 : nu b c = false) : nu a c = false := by
 unfold nu at *
 have nA : b.cps.toList <= a.cps.toList := List.not_lt.mp (of_decide_eq_false h)
 have vY : c.cps.toList <= b.cps.toList := List.not_lt.mp (of_decide_eq_false h2)
 exact decide_eq_false (List.not_lt.mpr (List.le_trans vY nA))
theorem sy {a b : Str} (h : a.cps.toList = b.cps.toList) : a = b := by
 cases a; cases b
 simp only at h
 rw [Array.toList_inj.mp h]
theorem sY {a b : Str} (h : nu a b = false) (h2 : nu b a = false) : a = b := by
 unfold nu at *
 have nA : b.cps.toList <= a.cps.toList := List.not_lt.mp (of_decide_eq_false h)
 have vY : a.cps.toList <= b.cps.toList := List.not_lt.mp (of_decide_eq_false h2)
 exact sy (List.le_antisymm vY nA)
theorem qP {a b : Int × Str} : bA a b = true ↔ a.1 < b.1 \/ (a.1 = b.1 /\ nu a.2 b.2 = true) := by
 unfold bA; simp
theorem bD {a b : Int × Str} : bA a b = false ↔ ¬ a.1 < b.1 /\ (a.1 = b.1 -> nu a.2 b.2 = false) := by
 unfold bA; simp
theorem j2 (a : Int × Str) : bA a a = false := bD.mpr ⟨by omega, fun _ => tJ _⟩
theorem rh {a b : Int × Str} (h : bA a b = true) : bA b a = false := by
 rcases qP.mp h with h | ⟨h, h2⟩
 . exact bD.mpr ⟨by omega, fun _ => by omega⟩
 . exact bD.mpr ⟨by omega, fun _ => sI h2⟩
theorem qG {a b c : Int × Str} (h : bA a b = false) (h2 : bA b c = false) : bA a c = false := by
 obtain ⟨h1, h3⟩ := bD.mp h
 obtain ⟨h4, h5⟩ := bD.mp h2
 refine bD.mpr ⟨by omega, fun e => ?_⟩
 exact tU (h3 (by omega)) (h5 (by omega))
theorem qE {a b : Int × Str} (h : bA a b = false) (h2 : bA b a = false) : a = b := by
 obtain ⟨h1, h3⟩ := bD.mp h
 obtain ⟨h4, h5⟩ := bD.mp h2
 have e : a.1 = b.1 := by omega
 exact Prod.ext e (sY (h3 e) (h5 e.symm))
section
variable {prog : Program} {w : World} {A : Around} {E : Value -> Shared -> Prop} {s : Shared}
theorem sA {x y : Addr} {i j : Int} {t u t2 u2 : Tok} {c d : Str} {Q : Bool -> Shared -> Prop} (hx : IsTup s.heap x #[.int i t, .str c t2]) (hy : IsTup s.heap y #[.int j u, .str d u2]) (h : Q (bA (i, c) (j, d)) s) :
 wpAny (model prog w) A (keyLt' (tuples' true) (.ref x) (.ref y)) Q E s := by
 obtain ⟨ox, Gw, cx, nx, dx⟩ := hx
 obtain ⟨oy, GV, cy, ny, dy⟩ := hy
 refine kat_lt Gw dx GV dy ?_
 refine kat_cons (wpAny_eqBool_int ?_)
 by_cases e : i = j
 . rw [show (i == j) = true from beq_iff_eq.mpr e]
   refine kat_yes (kat_cons (wpAny_eqBool_str ?_))
   by_cases e2 : c = d
   . rw [decide_eq_true e2]
     refine kat_yes (kat_nil ?_)
     have : bA (i, c) (j, d) = false := by rw [e, e2]; exact j2 _
     rw [this] at h
     exact h
   . rw [decide_eq_false e2]
     refine kat_no (kat_one _ _ (lt_str ?_))
     have : bA (i, c) (j, d) = nu c d := by unfold bA; simp [e]
     rw [this] at h
     exact h
 . rw [show (i == j) = false from beq_eq_false_iff_ne.mpr e]
   refine kat_no (oneLt_int ?_)
   have : bA (i, c) (j, d) = decide (i < j) := by unfold bA; simp [e]
   rw [this] at h
   exact h
end
def hU (sp : Sp) (kf : V -> Int × Str) (H : Hp) (xs : List V) : Prop := ∀ v ∈ xs, ∀ H', ah H H' -> sp [v] H' (fun y H2 => ah H' H2 /\ Dv H2 y (.tuple [.int (kf v).1, .str (kf v).2])) E0
def jC {α : Type} (lt : α -> α -> Bool) (kf : V -> α) (ys xs : List V) : Prop := ys.Perm xs /\ ys.Pairwise fun x y => lt (kf y) (kf x) = false
section
variable {X : Cx} {pins : List (Addr × Obj)} {σ : St} {H : Hp} {s : Shared} {k : Nat} {f : Addr} {fd : FuncData} {ps : List Str} {sp : Sp} {kf : V -> Int × Str} {A : Around}
theorem sR {H' : Hp} {s' : Shared} {v : V} {u : Value} {pl : List (Addr × Obj)} (F : bK X.prog X.w X.K X.mg X.base gY k f fd ps sp) (hb : Binds X.K fd ps []) (hr : a9 (k + 2) X.A) (I : Inv X pl σ H' s') (r : RelV v u)
 (hs : sp [v] H' (fun y H2 => ah H' H2 /\ Dv H2 y (.tuple [.int (kf v).1, .str (kf v).2])) E0) :
 wpAny (model X.prog X.w) X.A.in1.in1 (call (.ref f) [u]) (EP X pl σ fun y H2 => ah H' H2 /\ Dv H2 y (.tuple [.int (kf v).1, .str (kf v).2])) (fun _ _ => False) s' := by
 have r2 : Vals [v] [u] := .cons r .nil
 have hl : ([u] ++ []).length = ps.length := by have := F.len _ _ _ _ hs; simpa using this
 have B2 := hb s' [u] I.jQ hl
 refine wpAny_call (codeAny_mono (F.run X.A.in1.in1 X.stack s' H' ⟨[u], []⟩ [u] [v] _ E0 (a9.in1 (a9.in1 hr)) (I.sZ.in1.in1) (by simpa using B2) r2 hs) fun r s2 hq => ?_)
 cases r with
 | error e => exact hq.elim
 | ok fl =>
   cases fl with
   | ret u => exact I.after hq
   | next => exact False.elim hq
   | brk => exact False.elim hq
   | cont => exact False.elim hq
structure pC (X : Cx) (pins : List (Addr × Obj)) (σ : St) (H : Hp) (kf : V -> Int × Str) (a kS : Addr) (oa : Obj) (xs : List V) (s' : Shared) : Prop where
 mk ::
 ex : ∃ H' us e ys, Inv X pins σ H' s' /\ ah H H' /\ H' a = none /\ H' kS = none /\ s'.heap.get? a = some oa /\ s'.heap.get? kS = some (seqObj "list" (List.toArray us) e) /\ Vals ys us /\ aZ H' ys (xs.map fun v => .tuple [.int (kf v).1, .str (kf v).2])
theorem iY {kS : Addr} {oa : Obj} {body : Value -> PUnit -> Sem (ForInStep PUnit)} {E : Value -> Shared -> Prop} (F : bK X.prog X.w X.K X.mg X.base gY k f fd ps sp) (hb : Binds X.K fd ps []) (hr : a9 (k + 2) X.A) (Ak : ∀ v, oa.data ≠ .cell v)
 (er : ∀ x (s' : Shared) (R : Shared -> Prop), wpAny (model X.prog X.w) X.A.in1.in1 (call (.ref f) [x]) (fun k s2 => ∃ us e, s2.heap.get? kS = some (seqObj "list" (List.toArray us) e) /\ us.length < 64 /\ R { s2 with heap := s2.heap.update kS (Obj.mapSeq (·.push k)) }) (fun _ _ => False) s' ->
  wpAny (model X.prog X.w) X.A.in1.in1 (body x ⟨⟩) (fun r s2 => r = .yield ⟨⟩ /\ R s2) E s')
 (fa : bC X pins H a) (fk : bC X pins H kS) (kO : a ≠ kS) : ∀ (rx : List V) (r : List Value) (xs : List V) (s' : Shared), Vals rx r -> hU sp kf H rx -> xs.length + rx.length < 64 -> pC X pins σ H kf a kS oa xs s' ->
  wpAny (model X.prog X.w) X.A.in1.in1 (forIn r PUnit.unit body) (fun _ s2 => pC X pins σ H kf a kS oa (xs ++ rx) s2) E s'
 | [], _, xs, s', hv, _, _, hK => by
   cases hv
   rw [List.forIn_nil, List.append_nil]
   exact wpAny_pure hK
 | v :: rx, _, xs, s', .cons (b := u) (l₂ := r) hu hv, Ai, hlen, ⟨H', us, e, ys, I, sm, ha, hk, BR, DI, rv, dv⟩ => by
   rw [List.forIn_cons]
   have F7 := fa.keep (H' := H') ha
   have Hi := fk.keep (H' := H') hk
   have I' : Inv X (pins ++ [(a, oa), (kS, seqObj "list" (List.toArray us) e)]) σ H' s' := by
    refine I.cJ fun p hp => ?_
    rcases List.mem_append.mp hp with hp | hp
    . exact I.pin p (List.mem_append_right _ hp)
    . rcases List.mem_cons.mp hp with rfl | hp
      . exact ⟨BR, ha, fa.2.1, fa.2.2.1, Ak⟩
      . have : p = (kS, seqObj "list" (List.toArray us) e) := by simpa using hp
        subst this
        exact ⟨DI, hk, fk.2.1, fk.2.2.1, fun v z => by cases z⟩
   have GB : us.length = xs.length := by rw [<- rv.length, dv.length, List.length_map]
   refine wpAny_bind (wpAny_mono (er u s' (fun s2 => pC X pins σ H kf a kS oa (xs ++ [v]) s2) (wpAny_mono (sR F hb hr I' hu (Ai v List.mem_cons_self H' sm)) (fun kv s2 hq => ?_) fun _ _ z => z)) (fun q s2 hq => ?_) fun _ _ z => z)
   . obtain ⟨y, H2, I2, ry, e8, dy⟩ := hq
     have p1 := I2.pin (a, oa) (List.mem_append_right _ (List.mem_append_right _ List.mem_cons_self))
     have p2 := I2.pin (kS, seqObj "list" (List.toArray us) e) (List.mem_append_right _ (List.mem_append_right _ (List.mem_cons_of_mem _ List.mem_cons_self)))
     have I3 : Inv X pins σ H2 s2 := I2.di
     refine ⟨us, e, p2.1, by simp at hlen; omega, ?_⟩
     obtain ⟨c, hc⟩ : ∃ c, (s2.heap.update kS (Obj.mapSeq (·.push kv))).get? kS = some (seqObj "list" (List.toArray (us ++ [kv])) c) := by
      have ea : (List.toArray us).push kv = List.toArray (us ++ [kv]) := by simp
      rw [<- ea]
      exact ⟨_, get?_update_seq p2.1 (·.push kv)⟩
     refine ⟨H2, us ++ [kv], c, ys ++ [y], I3.kE (fk.keep p2.2.1), sm.trans e8, p1.2.1, p2.2.1, ?_, hc, rv.append (.cons ry .nil), ?_⟩
     . show (s2.heap.update kS _).get? a = some oa
       rw [Heap.get?_update_ne _ _ _ _ kO]; exact p1.1
     . rw [List.map_append]
       exact (dv.keeps e8).append (.cons dy .nil)
   . obtain ⟨rfl, hq⟩ := hq
     have := iY F hb hr Ak er fa fk kO rx r (xs ++ [v]) s2 hv (fun z hz => Ai z (List.mem_cons_of_mem _ hz)) (by simp at hlen ⊢; omega) hq
     rw [List.append_assoc] at this
     exact this
theorem qk {xs : List V} {p : Array Nat} {α : Type} {lt : α -> α -> Bool} {kf : V -> α} (hp : Ix xs.length p) (hu : Up (fun i j => lt (kf (xs.getD i .a7)) (kf (xs.getD j .a7))) p xs.length) : jC lt kf (p.toList.map fun i => xs.getD i .a7) xs := by
 refine ⟨?_, ?_⟩
 . have h := hp.pm.map fun i => xs.getD i .a7
   have e : (List.range xs.length).map (fun i => xs.getD i .a7) = xs := by
    refine List.ext_getElem? fun i => ?_
    rw [List.getElem?_map]
    by_cases hi : i < xs.length
    . rw [List.getElem?_range hi]; simp [hi]
    . rw [List.getElem?_eq_none (by simpa using hi), List.getElem?_eq_none (by simpa using hi)]; rfl
   rw [e] at h
   exact h
 . rw [List.pairwise_map, List.pairwise_iff_getElem]
   intro i j hi hj fU
   have hsz : p.toList.length = xs.length := by simp [hp.sz]
   have := hu i j fU (by omega)
   have gi : p.getD i 0 = p.toList[i] := by simp [Array.getD, show i < p.size by rw [hp.sz]; omega]
   have gj : p.getD j 0 = p.toList[j] := by simp [Array.getD, show j < p.size by rw [hp.sz]; omega]
   rw [gi, gj] at this
   exact this
theorem fQ : ∀ {xs : List V} {us : List Value} (i : Nat), Vals xs us -> RelV (xs.getD i .a7) (us.getD i Value.none)
 | _, _, _, .nil => rfl
 | _, _, 0, .cons r _ => r
 | _, _, i + 1, .cons _ t => by simpa using fQ i t
theorem iO {xs : List V} {us : List Value} (r : Vals xs us) : ∀ l : List Nat, Vals (l.map fun i => xs.getD i .a7) (l.map fun i => us.getD i Value.none)
 | [] => .nil
 | i :: l => .cons (fQ i r) (iO r l)
theorem kF {H : Hp} {g : V -> PyData} : ∀ {ys : List V} {xs : List V} {i : Nat}, aZ H ys (xs.map g) -> i < xs.length -> Dv H (ys.getD i .a7) (g (xs.getD i .a7))
 | _, [], _, _, h => by simp at h
 | _, _ :: _, 0, .cons h _, _ => h
 | _, _ :: _, i + 1, .cons _ t, hi => by simpa using kF (i := i) t (by simpa using hi)
def jy (X : Cx) (pins : List (Addr × Obj)) (σ : St) (H : Hp) {α : Type} (lt : α -> α -> Bool) (kf : V -> α) (xs : List V) (Q : VK) : Prop :=
 ∀ a ys H', ah H H' -> H a = none -> H' a = none -> jC lt kf ys xs -> Q (.ref a) (upd H' a (.lst ys))
theorem oB {H' : Hp} {s' : Shared} {xs ys : List V} {us : List Value} {A : Around} (I : Inv X pins σ H' s') (rv : Vals ys us) (dv : aZ H' ys (xs.map fun v => .tuple [.int (kf v).1, .str (kf v).2])) :
 Af xs.length (fun i j => bA (kf (xs.getD i .a7)) (kf (xs.getD j .a7))) (fun z => z = s') (kas_ask X.prog X.w A (tuples' true) us) := by
 intro i j C z hi hj hz hC
 subst hz
 have one : ∀ i, i < xs.length -> ∃ x t t2, us.getD i Value.none = .ref x /\ IsTup z.heap x #[.int (kf (xs.getD i .a7)).1 t, .str (kf (xs.getD i .a7)).2 t2] := fun i hi => by
  have d := kF dv hi
  have r := fQ i rv
  generalize ys.getD i .a7 = y at d r
  generalize us.getD i Value.none = u at r
  cases d with
  | tup h q =>
    have r' : u = .ref _ := r
    obtain ⟨aq, rr, tt, _⟩ := I.tuple (.of h)
    cases q with
    | cons h1 q =>
      cases q with
      | cons h2 q =>
        cases q
        cases h1; cases h2
        cases rr with
        | cons r1 rr =>
          cases rr with
          | cons r2 rr =>
            cases rr
            obtain ⟨t1, rfl⟩ := r1
            obtain ⟨t2, rfl⟩ := r2
            exact ⟨_, t1, t2, r', tt⟩
 obtain ⟨x, t, t2, e1, hx⟩ := one i hi
 obtain ⟨y, u, u2, e2, hy⟩ := one j hj
 show wpAny (model X.prog X.w) A (keyLt' (tuples' true) (us.getD i Value.none) (us.getD j Value.none)) C (fun _ _ => False) z
 rw [e1, e2]
 exact sA hx hy (hC _ rfl)
theorem hO {H' : Hp} {s' : Shared} : ∀ {xs ys : List V} {us : List Value}, Inv X pins σ H' s' -> Vals ys us -> aZ H' ys (xs.map fun v => .tuple [.int (kf v).1, .str (kf v).2]) ->
 ∃ fs, KatTups s'.heap us fs /\ fs.length = us.length /\ ∀ v ∈ fs, Looks (model X.prog X.w) s'.heap (typeOf v) (.type "int")
 | [], _, _, I, rv, dv => by
   cases dv
   cases rv
   exact ⟨[], trivial, rfl, fun _ z => nomatch z⟩
 | x :: xs, _, _, I, rv, dv => by
   cases dv with
   | cons d dv =>
     cases rv with
     | cons r rv =>
       obtain ⟨fs, h1, h2, h3⟩ := hO I rv dv
       cases d with
       | tup h q =>
         obtain ⟨aq, rr, tt, _⟩ := I.tuple (.of h)
         cases q with
         | cons q1 q =>
           cases q with
           | cons q2 q =>
             cases q
             cases q1; cases q2
             cases rr with
             | cons r1 rr =>
               cases rr with
               | cons r2 rr =>
                 cases rr
                 obtain ⟨t1, rfl⟩ := r1
                 obtain ⟨t2, rfl⟩ := r2
                 cases r
                 obtain ⟨o, ho, hc, n, hd⟩ := tt
                 refine ⟨_ :: fs, KatTups.cons ho hc hd rfl h1, by simp [h2], fun v hv => ?_⟩
                 rcases List.mem_cons.mp hv with rfl | hv
                 . exact .now
                 . exact h3 v hv
end
section
variable {X : Cx} {pins : List (Addr × Obj)} {σ : St} {H : Hp} {s : Shared} {k : Nat} {f : Addr} {fd : FuncData} {ps : List Str} {sp : Sp} {kf : V -> Int × Str} {A : Around}
theorem iN {H' : Hp} {s' : Shared} {a kS : Addr} {e e1 : Nat} {us out : List Value} {ys : List V} {st : SortSt} {E : Value -> Shared -> Prop} {P : PySem.Fin -> Shared -> Prop} (I : Inv X pins σ H' s') (fa : bC X pins H' a) (fk : bC X pins H' kS) (kO : a ≠ kS) (qY : X.bE.heap.objs.size <= a)
 (oa : s'.heap.get? a = some (seqObj "list" #[] e1)) (ok : s'.heap.get? kS = some (seqObj "list" (List.toArray us) e)) (hz : us.length < 64) (Ds : (arrOf st).map (·.2) = List.toArray out) (ho : out.length < 64) (hf : failedOf st = none) (rv : Vals ys out)
 (h : ∀ s2, Inv X pins σ (upd H' a (.lst ys)) s2 -> P (.done (.ret .none)) s2) : wpAny (model X.prog X.w) A (ksk_tail a false e1 (.ref kS) st) P E s' := by
 have EI : (64 : Nat) <= sizeLine := by decide
 unfold ksk_tail
 dsimp only
 rw [Ds]
 refine wpAny_bind (listUpdate_at ok rfl ?_ (by rw [List.size_toArray]; omega) (Nat.zero_le _))
 refine wpAny_bind (wpAny_letGo ?_)
 have De : (s'.heap.update kS (Obj.mapSeq fun _ => (#[] : Array Value))).get? a = some (seqObj "list" #[] e1) := by rw [Heap.get?_update_ne _ _ _ _ kO]; exact oa
 have I1 : Inv X pins σ H' { s' with heap := s'.heap.update kS (Obj.mapSeq fun _ => (#[] : Array Value)) } := I.kE fk
 refine wpAny_bind (seqEpoch_at De rfl ?_)
 refine wpAny_bind (listUpdate_at De rfl ?_ (Nat.zero_le _) (by show (List.toArray out).size <= _; rw [List.size_toArray]; omega))
 rw [hf]
 simp only [bne_self_eq_false, Bool.false_eq_true, if_false]
 refine wpAny_pure (h _ ?_)
 have I2 := I1.kE (f := Obj.mapSeq fun _ => List.toArray out) fa
 exact I2.Ac fa qY (by rw [rv.length]; omega) rv (get?_update_seq De fun _ => List.toArray out)
theorem kH {H' : Hp} {s' : Shared} {a kS : Addr} {e e1 : Nat} {us vs : List Value} {xs ys : List V} {Q : VK} {E : Value -> Shared -> Prop} {P : PySem.Fin -> Shared -> Prop} (sm : ah H H') (Fq : H a = none) (I : Inv X pins σ H' s') (fa : bC X pins H' a) (fk : bC X pins H' kS) (kO : a ≠ kS) (qY : X.bE.heap.objs.size <= a)
 (oa : s'.heap.get? a = some (seqObj "list" #[] e1)) (ok : s'.heap.get? kS = some (seqObj "list" (List.toArray us) e)) (nV : xs.length < 64) (rx : Vals xs vs) (ry : Vals ys us) (dv : aZ H' ys (xs.map fun v => .tuple [.int (kf v).1, .str (kf v).2]))
 (fin : jy X pins σ H bA kf xs Q) (h : ∀ s2, EP X pins σ Q (.ref a) s2 -> P (.done (.ret .none)) s2) : wpAny (model X.prog X.w) A (ksk_end a false vs.toArray e1 (.ref kS) (List.toArray us)) P E s' := by
 have lx := rx.length
 have ly := ry.length
 have ld := dv.length
 rw [List.length_map] at ld
 unfold ksk_end
 simp only [Bool.false_eq_true, if_false]
 by_cases h2 : vs.toArray.size < 2
 . rw [if_pos h2, if_pos h2]
   refine wpAny_bind (wpAny_pure ?_)
   rw [StateT.run_pure]
   refine wpAny_bind (wpAny_pure ?_)
   refine iN (out := vs) (ys := xs) I fa fk kO qY oa ok (by omega) ?_ (by omega) rfl rx (fun s2 I2 => h s2 ⟨.ref a, _, I2, rfl, fin a xs H' sm Fq fa.1 ⟨List.Perm.refl _, ?_⟩⟩)
   . show ((List.toArray us).zip vs.toArray).map (·.2) = List.toArray vs
     apply Array.toList_inj.mp
     have : us.length = vs.length := by omega
     simp [List.map_snd_zip, this]
   . rw [List.size_toArray] at h2
     match xs, lx with
     | [], _ => exact .nil
     | [_], _ => exact List.pairwise_singleton _ _
     | _ :: _ :: _, lx => simp at lx; omega
 . rw [if_neg h2, if_neg h2]
   rw [List.size_toArray] at h2
   obtain ⟨fs, k1, k2, k3⟩ := hO I ry dv
   refine wpAny_bind (kat_kind k1 (by omega) k3 (by decide) ?_)
   have BE : us.length = vs.length := by omega
   refine wpAny_bind (wpAny_mono (kat_run (Q := fun sg s2 => s2 = s' /\ ∃ p : Array Nat, Ix xs.length p /\ arrOf sg = p.map (kas_item ((List.toArray us).zip (List.toArray vs))) /\ failedOf sg = none /\ Up (fun i j => bA (kf (xs.getD i .a7)) (kf (xs.getD j .a7))) p xs.length)
    (G := fun p s2 => s2 = s' /\ Ix xs.length p /\ Up (fun i j => bA (kf (xs.getD i .a7)) (kf (xs.getD j .a7))) p xs.length) BE (by omega) (by omega) (fun p sg s2 a1 a2 a3 ⟨a4, a5, a6⟩ => ⟨a4, p, a5, a2, a3, a6⟩) ?_) ?_ fun _ _ z => z)
   . rw [show vs.length = xs.length by omega]
     refine sV (lt := fun i j => bA (kf (xs.getD i .a7)) (kf (xs.getD j .a7))) (S := fun z => z = s') ⟨fun _ => j2 _, fun _ _ => rh, fun _ _ _ => qG⟩ (oB I ry dv) (by omega) (fun p s2 hs hp hu => ⟨hs, hp, hu⟩) s' rfl
   . rintro ⟨⟨⟩, sg⟩ s2 ⟨rfl, p, hp, Ho, hf, hu⟩
     dsimp only
     refine iN (out := p.toList.map fun i => vs.getD i Value.none) (ys := p.toList.map fun i => xs.getD i .a7) I fa fk kO qY oa ok (by omega) (kat_snds BE Ho) (by simp [hp.sz]; omega) hf (iO rx _) (fun s3 I3 => h s3 ⟨.ref a, _, I3, rfl, fin a _ H' sm Fq fa.1 (qk hp hu)⟩)
theorem lS {l : Addr} {xs : List V} {Q : VK} {E : Value -> Shared -> Prop} (I : Inv X pins σ H s) (hl : bF X.K H l xs) (nV : xs.length < 64) (F : bK X.prog X.w X.K X.mg X.base gY k f fd ps sp) (hb : Binds X.K fd ps []) (hr : a9 (k + 2) X.A)
 (hk : hU sp kf H xs) (fin : jy X pins σ H bA kf xs Q) : wpAny (model X.prog X.w) X.A (call (.builtin "sorted") [.ref l] [(Str.ofString "key", .ref f)]) (EP X pins σ Q) E s := by
 have EI : (64 : Nat) <= sizeLine := by decide
 obtain ⟨vs, rv, p, hz⟩ := I.list hl
 have lx := rv.length
 refine call_function_entry_kw kind_sorted plain_sorted entry_sorted (ksk_s1 _ _) ?_
 unfold Builtin.«sorted»
 refine wpAny_bind (m := checkCount "sorted" 1 1 _) (wpAny_pure ?_)
 refine wpAny_bind (collect_list p.isList ?_ (by omega))
 refine wpAny_bind (wpAny_newList ?_ (by omega))
 have HE : bC X pins H s.heap.objs.size := I.gg (Nat.le_refl _) (I.aB.fresh (Nat.le_refl _))
 have I2 : Inv X pins σ H { s with heap := (s.heap.push (seqObj "list" #[] 0)).update s.heap.objs.size (Obj.mapSeq (· ++ vs.toArray)) } := (I.fb (o := seqObj "list" #[] 0)).kE HE
 have hsz : ((s.heap.push (seqObj "list" #[] 0)).update s.heap.objs.size (Obj.mapSeq (· ++ vs.toArray))).objs.size = s.heap.objs.size + 1 := by rw [Heap.size_update, size_push']
 generalize hG : (s.heap.push (seqObj "list" #[] 0)).update s.heap.objs.size (Obj.mapSeq (· ++ vs.toArray)) = h2 at I2 hsz ⊢
 have k7 : (h2.push (seqObj "list" vs.toArray 0)).get? h2.objs.size = some (seqObj "list" vs.toArray 0) := Heap.get?_push_size _ rfl
 have I3 : Inv X pins σ H { s with heap := h2.push (seqObj "list" vs.toArray 0) } := I2.fb
 have fa : bC X pins H h2.objs.size := I2.gg (Nat.le_refl _) (I2.aB.fresh (Nat.le_refl _))
 have qY : X.bE.heap.objs.size <= h2.objs.size := I2.sz
 show wpAny _ _ _ _ _ { s with heap := h2.push (seqObj "list" vs.toArray 0) }
 generalize h2.objs.size = a at *
 refine wpAny_bind (wpAny_holding (wpAny_call_entry_kw slot_list_sort ⟨_, k7, rfl⟩ entry_list_sort ?body (ksk_l1 _ _)))
 case body =>
  show wpAny (model X.prog X.w) X.A.in1.in1 (Builtin.«list.sort» ⟨[.ref a], [(Str.ofString "key", .ref f)]⟩) _ _ _
  rw [ksk_t1]
  generalize h2.push (seqObj "list" vs.toArray 0) = h3 at *
  unfold ksk_tree
  refine wpAny_bind (listItems_at k7 rfl ?_)
  refine wpAny_bind (listUpdate_at k7 rfl ?_ (by rw [List.size_toArray]; omega) (Nat.zero_le _))
  have I4 : Inv X pins σ H { s with heap := h3.update a (Obj.mapSeq fun _ => (#[] : Array Value)) } := I3.kE fa
  obtain ⟨e1, oa⟩ : ∃ e1, (h3.update a (Obj.mapSeq fun _ => (#[] : Array Value))).get? a = some (seqObj "list" #[] e1) := ⟨_, get?_update_seq k7 fun _ => #[]⟩
  generalize h3.update a (Obj.mapSeq fun _ => (#[] : Array Value)) = h4 at *
  refine wpAny_bind (seqEpoch_at oa rfl ?_)
  refine wpAny_bind (wpAny_newTuple ?_ (by show vs.length <= _; omega))
  have I5 : Inv X pins σ H { s with heap := h4.push (seqObj "tuple" vs.toArray 0) } := I4.fb
  have zA : (h4.push (seqObj "tuple" vs.toArray 0)).get? a = some (seqObj "list" #[] e1) := Heap.get?_push_of_some _ oa
  show wpAny _ _ _ _ _ { s with heap := h4.push (seqObj "tuple" vs.toArray 0) }
  generalize h4.push (seqObj "tuple" vs.toArray 0) = h5 at *
  refine wpAny_bind (wpAny_newList ?_ (Nat.zero_le _))
  have I6 : Inv X pins σ H { s with heap := h5.push (seqObj "list" #[] 0) } := I5.fb
  have fk : bC X pins H h5.objs.size := I5.gg (Nat.le_refl _) (I5.aB.fresh (Nat.le_refl _))
  have BX : (h5.push (seqObj "list" #[] 0)).get? a = some (seqObj "list" #[] e1) := Heap.get?_push_of_some _ zA
  have C8 : (h5.push (seqObj "list" #[] 0)).get? h5.objs.size = some (seqObj "list" #[] 0) := Heap.get?_push_size _ rfl
  have kO : a ≠ h5.objs.size := Nat.ne_of_lt (Heap.lt_size zA)
  show wpAny _ _ _ _ _ { s with heap := h5.push (seqObj "list" #[] 0) }
  show wpAny _ _ (holding [_, .ref h5.objs.size] (ksk_rest a (.ref f) false vs.toArray e1 (.ref h5.objs.size))) _ _ _
  generalize h5.objs.size = kS at *
  generalize h5.push (seqObj "list" #[] 0) = h6 at *
  refine wpAny_holding ?_
  unfold ksk_rest
  refine wpAny_bind (wpAny_rule ?_)
  first
   | rw [List.forIn_toArray]
   | (rw [<- Array.forIn_toList]; simp only [List.toList_toArray])
  refine wpAny_bind (wpAny_mono (iY (kf := kf) F hb hr (oa := seqObj "list" #[] e1) (fun v z => by cases z) (fun x s' R hx => ?_) fa fk kO xs vs [] { s with heap := h6 } rv hk (by simpa using nV) ⟨H, [], 0, [], I6, ah.refl _, fa.1, fk.1, BX, C8, .nil, .nil⟩) (fun _ s7 hK => ?_) fun _ _ z => z)
  . refine wpAny_bind (wpAny_attempt (wpAny_mono hx (fun kv s2 hq => ?_) fun _ _ z => z.elim))
    obtain ⟨us, e, ok, cz, hR⟩ := hq
    dsimp only
    refine wpAny_bind (listUpdate_at ok rfl ?_ (by rw [List.size_toArray]; omega) (by rw [Array.size_push, List.size_toArray]; omega))
    exact wpAny_pure ⟨rfl, hR⟩
  . obtain ⟨H', us, e, ys, I7, sm, DM, DY, D9, z0, ry, dv⟩ := hK
    try dsimp only
    refine wpAny_bind (listItems_at z0 rfl ?_)
    refine kH sm fa.1 I7 (fa.keep DM) (fk.keep DY) kO qY D9 z0 nV rv ry (by simpa using dv) fin (fun s8 h8 => ⟨_, rfl, wpAny_pure ⟨_, rfl, h8⟩⟩)
end
def g0 (sp : Sp) (K : PySem.W.Frag) (vs : List V) (H : Hp) (Q : VK) : Prop := ∃ a xs kf, vs = [.ref a] /\ bF K H a xs /\ xs.length < 64 /\ hU sp kf H xs /\ ∀ l ys H', ah H H' -> H l = none -> H' l = none -> jC bA kf ys xs -> Q (.ref l) (upd H' l (.lst ys))
def rN (K : PySem.W.Frag) (sp : Sp) (t : TA) : TE := fun σ H Q => t σ H fun vs H1 => g0 sp K vs H1 Q
section
variable {X : Cx} {k : Nat} {f : Addr} {ps : List Str} {sp : Sp} {e : Expr} {t : TA} {x : Str} {p p2 pos rg : Pos}
theorem pR (c : oC X.prog X.w X.K X.mg X.base k f ps [] sp) (hr : a9 (k + 2) X.A) (hg : Gl X "sorted") (hm : X.mg "sorted" = none) (hf : PE X (.Name x p2) (tC (.ref f))) (ha : PA X [e] t)
 (pX : backTo pos (starEach [e] X.env) = (false, eval e X.env) :: backTo pos (starEach [] X.env) := by rfl) (jT : (backTo pos (starEach [e] X.env)).any (·.1) = false := by rfl) : PE X (.Call (.Name "sorted" p) [e] [⟨some "key", .Name x p2, rg⟩] pos) (rN X.K sp t) := by
 intro pins s σ H Q I h
 obtain ⟨fd, ds, F, hb, hd⟩ := c.ex
 cases hd
 refine wpAny_Call_Name_kw (cA I hg hm boot_sorted ?_)
 refine callWith_kw (bh (ha pos pins s σ H _ I h) fun us s1 ⟨vs, H1, I1, r1, q1⟩ => ?_) pX jT
 refine bh (tH hf xi pos pins s1 σ H1 (fun zs H2 => zs = [.ref f] /\ H2 = H1) I1 ⟨rfl, rfl⟩) fun ws s2 ⟨zs, H2, I2, rz, q2, q3⟩ => ?_
 subst q2; subst q3
 obtain ⟨a, xs, kf, e1, hl, nV, hk, fin⟩ := q1
 subst e1
 obtain ⟨u, rfl, ru⟩ := vals1 r1
 obtain ⟨w', rfl, pL⟩ := vals1 rz
 have e1 : u = .ref a := ru
 have e2 : w' = .ref f := pL
 subst e1; subst e2
 exact lS I2 hl nV F hb hr hk (fun a ys H' => fin a ys H')
end
end L2
namespace L2
open PySem PySem.Spec PyProof.Rows
theorem gK {scope : Scope} {env : Env} (h : ∀ x ∈ scope.names, x.2 = .free -> ∃ c, env.cells.lookup x.1 = some c) :
 ∃ cl, closureFor scope env = pure cl /\ (∀ x c, cl.lookup x = some c -> env.cells.lookup x = some c) /\ ∀ x ∈ scope.names, x.2 = .free -> ∃ c, cl.lookup x.1 = some c := by
 have key : ∀ (l : List (Str × NameKind)) (acc : List (Str × Addr)), (∀ x ∈ l, x.2 = .free -> ∃ c, env.cells.lookup x.1 = some c) -> (∀ x c, acc.lookup x = some c -> env.cells.lookup x = some c) ->
  ∃ cl, (forIn l acc (fun (x : Str × NameKind) (r : List (Str × Addr)) => (match x with
    | (name, kind) => if (kind == NameKind.free) = true then (do let c <- cellOf env name; pure (ForInStep.yield ((name, c) :: r))) else pure (ForInStep.yield r) : Sem (ForInStep (List (Str × Addr))))) : Sem _) = pure cl /\
    (∀ x c, cl.lookup x = some c -> env.cells.lookup x = some c) /\ (∀ x ∈ l, x.2 = .free -> ∃ c, cl.lookup x.1 = some c) /\ ∀ x, (∃ c, acc.lookup x = some c) -> ∃ c, cl.lookup x = some c := by
  intro l
  induction l with
  | nil => intro acc _ ha; exact ⟨acc, rfl, ha, fun _ z => (nomatch z), fun _ z => z⟩
  | cons p r ih =>
    intro acc hl ha
    obtain ⟨n, k⟩ := p
    rw [List.forIn_cons]
    by_cases hk : k = .free
    . subst hk
      obtain ⟨c, hc⟩ := hl (n, .free) List.mem_cons_self rfl
      have iU : cellOf env n = pure c := by unfold cellOf; rw [hc]
      obtain ⟨cl, e, h1, h2, h3⟩ := ih ((n, c) :: acc) (fun x hx => hl x (List.mem_cons_of_mem _ hx)) (fun x d hd => by
       rw [List.lookup_cons] at hd
       by_cases hx : x = n
       . subst hx; rw [beq_self_eq_true] at hd; cases hd; exact hc
       . rw [beq_eq_false_iff_ne.mpr hx] at hd; exact ha x d hd)
      refine ⟨cl, ?_, h1, fun x hx hf => ?_, fun x ⟨d, hd⟩ => h3 x ?_⟩
      . simp only [beq_self_eq_true, if_true, iU]
        exact e
      . rcases List.mem_cons.mp hx with rfl | hx
        . exact h3 n ⟨c, by rw [List.lookup_cons, beq_self_eq_true]⟩
        . exact h2 x hx hf
      . rw [List.lookup_cons]
        by_cases hx : x = n
        . subst hx; rw [beq_self_eq_true]; exact ⟨c, rfl⟩
        . rw [beq_eq_false_iff_ne.mpr hx]; exact ⟨d, hd⟩
    . obtain ⟨cl, e, h1, h2, h3⟩ := ih acc (fun x hx => hl x (List.mem_cons_of_mem _ hx)) ha
      refine ⟨cl, ?_, h1, fun x hx hf => ?_, h3⟩
      . have : (k == NameKind.free) = false := by simpa using hk
        simp only [this, Bool.false_eq_true, if_false]
        exact e
      . rcases List.mem_cons.mp hx with rfl | hx
        . exact absurd hf hk
        . exact h2 x hx hf
 obtain ⟨cl, e, h1, h2, _⟩ := key scope.names [] h (fun _ _ z => by simp at z)
 refine ⟨cl, ?_, h1, h2⟩
 unfold closureFor
 show (forIn scope.names [] _ >>= fun cs => pure cs) = _
 refine Eq.trans (congrArg (· >>= _) e) rfl
theorem dw {env : Env} {scope : Scope} {x : Str} : (relabel scope env).names.lookup x = (scope.names.lookup x).map fun k => if (k == NameKind.free && env.scope.kind == .function && env.kindOf x == some .cell) = true then .cell else k := by
 unfold relabel
 show List.lookup x (List.map _ scope.names) = _
 generalize scope.names = l
 induction l with
 | nil => rfl
 | cons p r ih =>
   obtain ⟨n, k⟩ := p
   rw [List.map_cons]
   dsimp only
   by_cases hx : x = n
   . subst hx
     by_cases hc : (k == NameKind.free && env.scope.kind == .function && env.kindOf x == some .cell) = true
     . rw [if_pos hc, List.lookup_cons, List.lookup_cons, beq_self_eq_true]; simp only [Option.map_some, if_pos hc]
     . rw [if_neg hc, List.lookup_cons, List.lookup_cons, beq_self_eq_true]; simp only [Option.map_some, if_neg hc]
   . have hb : (x == n) = false := beq_eq_false_iff_ne.mpr hx
     by_cases hc : (k == NameKind.free && env.scope.kind == .function && env.kindOf n == some .cell) = true
     . rw [if_pos hc, List.lookup_cons, List.lookup_cons, hb]; exact ih
     . rw [if_neg hc, List.lookup_cons, List.lookup_cons, hb]; exact ih
theorem mem_lookup {α : Type} {x : Str} {k : α} : ∀ {l : List (Str × α)}, l.lookup x = some k -> (x, k) ∈ l
 | [], h => by simp at h
 | (n, j) :: r, h => by
   rw [List.lookup_cons] at h
   by_cases hx : x = n
   . subst hx; rw [beq_self_eq_true] at h; cases h; exact List.mem_cons_self
   . rw [beq_eq_false_iff_ne.mpr hx] at h; exact List.mem_cons_of_mem _ (mem_lookup h)
def cI (X : Cx) (N : List Str) (scope : Scope) (cl : List (Str × Addr)) (C : Addr) (s : Shared) (H : Hp) (fp : List Addr) : Cx :=
 { X with N := N, bE := s, oZ := H, env := compEnvC scope cl C X.env, outer := X.stack, stack := X.stack, ex := fp, fn := fun _ => false, pn := [], xe := fun _ _ => False }
structure eC (X : Cx) (T M : List Str) (scope : Scope) : Prop where
 kind : scope.kind = .function
 cell : ∀ y ∈ scope.names, y.2 ≠ .cell
 names : ∀ y ∈ scope.names, y.2 = .local -> scope.names.lookup y.1 = some .local
 free : ∀ y ∈ scope.names, y.2 = .free -> X.env.scope.names.lookup y.1 = some .cell \/ X.env.scope.names.lookup y.1 = some .free
 len : M.length = X.N.length
 old : ∀ (i : Nat) x, M[i]? = some x -> X.N[i]? = some x /\ scope.names.lookup x = some .free \/ scope.names.lookup x = none
section
variable {X : Cx} {pins : List (Addr × Obj)} {σ : St} {H : Hp} {s : Shared} {T M : List Str} {scope : Scope} {cl : List (Str × Addr)} {fp : List Addr}
theorem zZ {C : Addr} (I : Inv X pins σ H s) (hN : eC X T M scope) (h1 : ∀ x c, cl.lookup x = some c -> X.env.cells.lookup x = some c) (h2 : ∀ x ∈ scope.names, x.2 = .free -> ∃ c, cl.lookup x.1 = some c)
 (hC : s.heap.objs.size <= C) (hf : ∀ b ∈ fp, bC X pins H b) (yI : ∀ b ∈ fp, b < s.heap.objs.size) : (cI X (T ++ M) scope cl C s H fp).Ok where
 mod := I.ok.mod
 kind := hN.kind
 glob := I.ok.glob
 blt := I.ok.blt
 above := hC
 inj := fun x y c e1 e2 => I.ok.inj x y c (h1 x c e1) (h1 y c e2)
 has := fun x hx => by
  have iy : (relabel scope X.env).names.lookup x = some .cell \/ (relabel scope X.env).names.lookup x = some .free := hx
  rw [dw] at iy
  cases e : scope.names.lookup x with
  | none => rw [e] at iy; simp at iy
  | some k =>
    have hm := mem_lookup e
    have hk : k = .free := by
     rw [e] at iy
     simp only [Option.map_some, Option.some.injEq] at iy
     by_cases hf : k = .free
     . exact hf
     . have : (k == NameKind.free) = false := by simpa using hf
       simp only [this, Bool.false_and, Bool.false_eq_true, if_false] at iy
       rcases iy with iy | iy
       . exact absurd iy (hN.cell _ hm)
       . exact iy
    exact h2 (x, k) hm hk
 yN := fun _ _ z => by cases z
 hd := I.ok.hd
 frames := I.ok.frames
 zT := .inl rfl
 A7 := fun b hb => ⟨Nat.ne_of_lt (Nat.lt_of_lt_of_le (yI b hb) hC), fun x c e => (hf b hb).2.2.2.2.1 x c (h1 x c e)⟩
 bs := I.bs
 qF := Nat.le_trans I.ok.qF I.sz
 oP := fun b o e hb => by
  rcases (hf b hb).2.2.2.1 with z | z
  . exact I.ok.oP b o e z
  . exact absurd (Nat.lt_of_lt_of_le (Heap.lt_size e) (Nat.le_trans I.ok.qF z)) (Nat.lt_irrefl _)
 nY := fun b hb z => by
  rcases List.mem_cons.mp (I.lF b z) with e | e
  . exact (hf b hb).2.1 e
  . exact (hf b hb).2.2.1 e
 fg := I.stack
 sO := I.nB
theorem pI {C : Addr} {h₁ : Heap} {tk : Nat} (I : Inv X pins σ H s) (hN : eC X T M scope) (h1 : ∀ x c, cl.lookup x = some c -> X.env.cells.lookup x = some c) (h2 : ∀ x ∈ scope.names, x.2 = .free -> ∃ c, cl.lookup x.1 = some c)
 (hC : s.heap.objs.size <= C) (hf : ∀ b ∈ fp, bC X pins H b) (yI : ∀ b ∈ fp, b < s.heap.objs.size)
 {m : Str -> Option Value} (hn : h₁.Ns C m) (old : ∀ b o, s.heap.get? b = some o -> h₁.get? b = some o) :
 Inv (cI X (T ++ M) scope cl C s H fp) [] (List.replicate T.length none ++ σ) H { s with heap := h₁, toks := tk } where
 ok := zZ I hN h1 h2 hC hf yI
 os := rfl
 bare := I.bare
 base := Un.kept old
 loc := by
  refine ⟨m, hn, fun i x v e1 e2 e3 => ?_⟩
  have Dg : (T ++ M)[i]? = some x := e1
  by_cases hi : i < T.length
  . rw [List.getElem?_append_left (by simpa using hi), List.getElem?_replicate, if_pos hi] at e2
    cases e2
  . have vq : T.length <= i := Nat.le_of_not_lt hi
    rw [List.getElem?_append_right vq] at Dg
    rw [List.getElem?_append_right (by simpa using vq), List.length_replicate] at e2
    have D4 : yV (relabel scope X.env) x := e3
    rcases hN.old _ x Dg with ⟨hx, mL⟩ | FE
    . obtain ⟨m0, qY, vW⟩ := I.loc
      have hk := hN.free _ (mem_lookup mL) rfl
      have uJ : X.env.scope.names.lookup x = some .cell \/ X.env.scope.names.lookup x = some .free := hk
      obtain ⟨u, r, l⟩ := vW _ x v hx e2 (.inr uJ)
      refine ⟨u, r, .inr ?_⟩
      rcases l with ⟨z, _⟩ | ⟨_, c, hc, iU⟩
      . have z' : X.env.scope.names.lookup x = some .local := z
        rw [z'] at uJ; rcases uJ with q | q <;> cases q
      . obtain ⟨c', kN⟩ := h2 _ (mem_lookup mL) rfl
        have : c' = c := by have := h1 _ _ kN; rw [hc] at this; exact (Option.some.inj this).symm
        subst this
        refine ⟨?_, c', kN, ?_⟩
        . show (relabel scope X.env).names.lookup x = some .cell \/ (relabel scope X.env).names.lookup x = some .free
          rw [dw, mL]
          simp only [Option.map_some, Option.some.injEq]
          by_cases hc : (NameKind.free == NameKind.free && X.env.scope.kind == .function && X.env.kindOf x == some .cell) = true
          . left; rw [if_pos hc]
          . right; rw [if_neg hc]
        . obtain ⟨o, ho, hd⟩ := iU
          exact ⟨o, old _ _ ho, hd⟩
    . unfold yV at D4
      rw [dw, FE] at D4
      simp at D4
 cell := fun x c e => by
  obtain ⟨v, o, ho, hd⟩ := I.cell x c (h1 x c e)
  exact ⟨v, o, old _ _ ho, hd⟩
 free := I.aB.fresh hC
 cN := fun x c e => I.cN x c (h1 x c e)
 pin := fun p hp => nomatch hp
 aB := I.aB.kept old
 len := by
  show (List.replicate T.length none ++ σ).length = (T ++ M).length
  rw [List.length_append, List.length_append, List.length_replicate, hN.len, I.len]
theorem sP {C D : Addr} {s' : Shared} {σ' : St} {H' : Hp} {acc : List V} {aq : List Value} {n : Nat} (I : Inv X pins σ H s) (I' : Inv (cI X (T ++ M) scope cl C s H fp) [] σ' H' s')
 (hf : ∀ b ∈ fp, bC X pins H b) (hD : s.heap.objs.size <= D) (hn : H' D = none) (hl : acc.length <= sizeLine) (r : Vals acc aq) (hd : s'.heap.get? D = some { cls := .type "list", data := .seq aq.toArray n }) :
 Inv X pins σ (upd H' D (.lst acc)) s' := by
 have U : Un (kr X.stack) fp H H' s.heap s'.heap := I'.base
 have CM : ∀ b o, s.heap.get? b = some o -> b ≠ D := fun b o e => Nat.ne_of_lt (Nat.lt_of_lt_of_le (Heap.lt_size e) hD)
 have neT : ∀ b u, H' b = some u -> b ≠ D := fun b u e => aw e hn
 refine I.Ab (ch := fp) I'.os ⟨U.keep, U.slot, fun b o e1 e2 e3 => ?_, U.there, fun b xs e => ?_, fun b o u e => ?_, fun b ps e => ?_⟩ (fun b u e => ?_) I'.bare (fun b hb => ⟨(hf b hb).2.2.2.1, (hf b hb).2.1, (hf b hb).2.2.2.2.1, (hf b hb).2.2.2.2.2⟩)
 . rw [ai (CM b o e1)]; exact U.free b o e1 e2 e3
 . rw [ai (neT b _ (U.f7 b xs e))]; exact U.f7 b xs e
 . rw [ai (neT b _ (U.fN b o u e))]; exact U.fN b o u e
 . obtain ⟨more, q⟩ := U.gD b ps e
   exact ⟨more, by rw [ai (neT b _ q)]; exact q⟩
 . by_cases hb : b = D
   . subst hb
     rw [av] at e
     cases e
     exact ⟨hl, aq, n, r, hd⟩
   . rw [ai hb] at e
     exact (I'.aB b u e).jh (fun c v _ q => q) (fun c q => by rw [ai (neT c _ q)]; exact q) fun c xs q => by rw [ai (neT c _ q)]; exact q
end
theorem mj {prog : Program} {w : World} {A : Around} {R : Result -> Shared -> Prop} {s : Shared} {elt target iter : Expr} {ifs : List Expr} {scope : Scope} {pos : Pos} {it acc : Value} {env : Env} (I : Nat -> Shared -> Prop)
 (turn : ∀ n s, I n s -> wpAny (model prog w) A (pyNext it) (fun r s₁ => match r with
  | none => R (.ok .next) s₁
  | some v => wpAny (model prog w) A (letOwnedTupleGo target it v) (fun _ u9 => wpAny (model prog w) A (assign target env v) (fun _ s₂ =>
   wpAny (model prog w) A (forIn ifs true fun c r => if r = true then do let ok <- isTrue c env (eval c env); pure (ForInStep.yield ok) else pure (ForInStep.yield r)) (fun ok s₃ =>
    if ok = true then wpAny (model prog w) A (eval elt env) (fun x s₄ =>
     wpAny (model prog w) A (call (.builtin "list.append") [acc, x]) (fun _ s₅ => ∃ m, m < n /\ I m s₅) (fun _ _ => False) s₄) (fun _ _ => False) s₃
    else ∃ m, m < n /\ I m s₃) (fun _ _ => False) s₂) (fun _ _ => False) u9) (fun _ _ => False) s₁) (fun _ _ => False) s)
 (n : Nat) (h : I n s) :
 codeAny (model prog w) A (.compLoop (.ListComp elt [⟨target, iter, ifs, 0⟩] scope pos) 0 it acc env) R s := by
 refine codeAny_loop rfl I (fun n s hI => ?_) n h
 show wpAny _ A ((compTurn (.ListComp elt [⟨target, iter, ifs, 0⟩] scope pos) 0 it acc env).onRaise (fun x => do noteFrame x env; theTreesLotGoes x)) _ _ s
 refine wpAny_noted ?_
 rw [compTurn_list]
 refine wpAny_bind (wpAny_standAt (wpAny_bind (wpAny_mono (turn n s hI) (fun r s₁ h₁ => ?_) fun _ _ h' => h'.elim)))
 cases r with
 | none => exact wpAny_pure h₁
 | some v =>
   refine wpAny_bind (wpAny_mono h₁ (fun _ u9 zp => ?_) fun _ _ h' => h'.elim)
   refine wpAny_bind (wpAny_mono zp (fun _ s₂ h₂ => wpAny_bind (wpAny_mono h₂ (fun ok s₃ h₃ => ?_) fun _ _ h' => h'.elim)) fun _ _ h' => h'.elim)
   cases ok with
   | false => exact wpAny_pure ⟨rfl, h₃⟩
   | true =>
     exact wpAny_bind (wpAny_bind (wpAny_mono h₃ (fun x s₄ h₄ => wpAny_bind (wpAny_mono h₄ (fun _ s₅ h₅ => wpAny_pure (wpAny_pure ⟨rfl, h₅⟩)) fun _ _ h' => h'.elim)) fun _ _ h' => h'.elim))
def zt (X : Cx) (ifs : List Expr) (t : TT) : Prop :=
 ∀ (pins : List (Addr × Obj)) (s : Shared) (σ : St) (H : Hp) (Q : Bool -> Hp -> Prop), Inv X pins σ H s -> t σ H Q ->
   wpAny (model X.prog X.w) X.A (forIn ifs true fun c r => if r = true then do let ok <- isTrue c X.env (eval c X.env); pure (ForInStep.yield ok) else pure (ForInStep.yield r)) (TP X pins σ Q) X.xe s
def Cm : TT := fun _ H Q => Q true H
theorem fu {X : Cx} : zt X [] Cm := fun _ _ _ H _ I h => wpAny_tests_nil ⟨H, I, h⟩
theorem mS {X : Cx} {c : Expr} {t : TT} (h : PT X c t) : zt X [c] t := fun pins s σ H Q I q => wpAny_tests_one (h pins s σ H Q I q)
def yQ (k : Nat) (g : TG) (tc : TT) (te : TE) (Fin : List V -> Hp -> Prop) (σ : St) (J : It) (H1 : Hp) : Prop :=
 ∃ W : Nat -> Nat -> List V -> Hp -> Prop, (∃ m, W 0 m [] H1) /\ ∀ i m acc H, W i m acc H ->
   (J.stop i H /\ Fin acc H) \/ (J.go i H /\ acc.length < sizeLine /\ ∀ x H', J.wx i H x H' -> g x (List.replicate k none ++ σ) H' fun σ2 H2 => tc σ2 H2 fun b H3 =>
    if b = true then te σ2 H3 fun y H4 => ∃ m', m' < m /\ W (i + 1) m' (acc ++ [y]) H4 else ∃ m', m' < m /\ W (i + 1) m' acc H3)
section
variable {X : Cx} {pins : List (Addr × Obj)} {σ : St} {H : Hp} {s : Shared} {T M : List Str} {scope : Scope} {cl : List (Str × Addr)} {fp : List Addr} {g : TG} {tc : TT} {te : TE} {tg elt iter : Expr} {ifs : List Expr} {pos : Pos}
theorem Inv.forget {X : Cx} {pins : List (Addr × Obj)} {σ σ' : St} {H : Hp} {s : Shared} (I : Inv X pins σ' H s) (k : Nat) (hk : k + σ.length = σ'.length) (h : σ'.drop k = σ) : Inv X pins (List.replicate k none ++ σ) H s := by
 refine I.weak (by simp [hk]) (fun i v e => ?_)
 by_cases hi : i < k
 . rw [List.getElem?_append_left (by simpa using hi), List.getElem?_replicate, if_pos hi] at e; cases e
 . rw [List.getElem?_append_right (by simpa using hi), List.length_replicate, <- h, List.getElem?_drop] at e
   have : k + (i - k) = i := by omega
   rw [this] at e; exact e
theorem p5 {it : Addr} {tn : Nat -> Heap -> Prop} {J : It} {RR : Value -> Addr -> Result -> Shared -> Prop} {Fin : List V -> Hp -> Prop} {E : Value -> Shared -> Prop}
 (hN : eC X T M scope) (iL : X.calm = true) (h1 : ∀ x c, cl.lookup x = some c -> X.env.cells.lookup x = some c) (h2 : ∀ x ∈ scope.names, x.2 = .free -> ∃ c, cl.lookup x.1 = some c)
 (hg : ∀ cl C s H fp, PG (cI X (T ++ M) scope cl C s H fp) tg g) (HW : ∀ v H Q, g v (List.replicate T.length none ++ σ) H Q -> g v (List.replicate T.length none ++ σ) H fun σ2 H2 => Q σ2 H2 /\ T.length + σ.length = σ2.length /\ σ2.drop T.length = σ)
 (hc : ∀ cl C s H fp, zt (cI X (T ++ M) scope cl C s H fp) ifs tc) (he : ∀ cl C s H fp, PE (cI X (T ++ M) scope cl C s H fp) elt te)
 (I : Inv X pins σ H s) (Tn : Turn X.prog X.w X.K tg J fp it tn) (st : tn 0 s.heap) (hf : ∀ b ∈ fp, bC X pins H b) (hW : yQ T.length g tc te Fin σ J H)
 (hR : ∀ D C s' H' acc m, s.heap.objs.size <= D -> s.heap.objs.size <= C -> C ≠ D -> s'.heap.Ns C m -> H' C = none -> H' D = none -> Inv X pins σ (upd H' D (.lst acc)) s' -> Fin acc H' -> RR (.ref D) C (.ok .next) s') :
 wpAny (model X.prog X.w) X.A (newList []) (fun acc s₃ => wpAny (model X.prog X.w) X.A (newFunctionEnv scope X.env.globals cl [] X.env.qual none .none (some X.env)) (fun zf s₄ =>
  codeAny (model X.prog X.w) X.A (.compStart (.ListComp elt [⟨tg, iter, ifs, 0⟩] scope pos) 0 (.ref it) acc { zf with scope := relabel scope X.env }) (RR acc zf.locals) s₄) E s₃) E s := by
 refine wpAny_newObj_type (wpAny_newFunctionEnv hN.cell (by intro y hy; simp at hy) (fun h₁ lA jH => ?_) hN.kind)
 dsimp only at lA jH ⊢
 generalize Df : s.heap.push { cls := .type "list", dict := none, data := .seq ([] : List Value).toArray } = H2 at lA jH ⊢
 have hC : H2.objs.size = s.heap.objs.size + 1 := by rw [<- Df, Heap.size_push]
 have Bg : s.heap.objs.size ≠ H2.objs.size := by rw [hC]; exact Nat.ne_of_lt (Nat.lt_succ_self _)
 have v8 : s.heap.objs.size <= H2.objs.size := by rw [hC]; exact Nat.le_succ _
 have yI : ∀ b ∈ fp, b < s.heap.objs.size := fun b hb => by obtain ⟨o, ho, _⟩ := Tn.obj _ _ st b hb; exact Heap.lt_size ho
 have old : ∀ b o, s.heap.get? b = some o -> h₁.get? b = some o := fun b o e => jH.extBut b o (Nat.ne_of_lt (Nat.lt_of_lt_of_le (Heap.lt_size e) v8)) (Heap.get?_push_of_some _ (Df ▸ Heap.get?_push_of_some _ e))
 have cU : h₁.PlainList s.heap.objs.size #[] := ⟨_, jH.extBut _ _ Bg (Heap.get?_push_of_some _ (Df ▸ Heap.get?_push_size _ rfl))⟩
 generalize wV : s.heap.objs.size = D at *
 generalize Iu : H2.objs.size = C at *
 have I0 : Inv (cI X (T ++ M) scope cl C s H fp) [] (List.replicate T.length none ++ σ) H { s with heap := h₁, toks := s.toks + ([] : List (Str × Value)).length } :=
  pI I hN h1 h2 (by rw [wV]; exact v8) hf (by rw [wV]; exact yI) lA old
 have Bh : tn 0 h₁ := Tn.keep _ _ _ st fun b _ o e => old b o e
 obtain ⟨W, ⟨m0, w0⟩, turn⟩ := hW
 have Em : ∀ b ∈ fp, b ≠ D := fun b hb => Nat.ne_of_lt (yI b hb)
 have stat : ∀ {H' : Hp} {pl : List (Addr × Obj)}, (∀ b ∈ fp, H' b = none) -> (∀ p ∈ pl, p.1 = D) -> ∀ b ∈ fp, bC (cI X (T ++ M) scope cl C s H fp) pl H' b := fun {H' pl} hn hp b hb => by
  have ok := I0.ok
  refine ⟨hn b hb, (ok.A7 b hb).1, ok.nY b hb, .inl hb, (ok.A7 b hb).2, fun p hq => ?_⟩
  have zY : p ∈ pl := hq
  rw [hp p zY]; exact Ne.symm (Em b hb)
 have loop : codeAny (model X.prog X.w) X.A (.compLoop (.ListComp elt [⟨tg, iter, ifs, 0⟩] scope pos) 0 (.ref it) (.ref D) (compEnvC scope cl C X.env)) (RR (.ref D) C) { s with heap := h₁, toks := s.toks + ([] : List (Str × Value)).length } := by
  refine mj (fun n s' => ∃ i acc H' aq, Inv (cI X (T ++ M) scope cl C s H fp) [] (List.replicate T.length none ++ σ) H' s' /\ tn i s'.heap /\ (∀ b ∈ fp, H' b = none) /\ s'.heap.PlainList D aq /\ H' D = none /\ Vals acc aq.toList /\ acc.length <= sizeLine /\ W i n acc H') ?_ m0
   ⟨0, [], H, #[], I0, Bh, fun b hb => (hf b hb).1, cU, I.aB.fresh (by rw [wV]; exact Nat.le_refl _), .nil, Nat.zero_le _, w0⟩
  rintro n s3 ⟨i, acc, H3, aq, I3, y0, yZ, ⟨nn, ho⟩, CD, hv, hlen, w3⟩
  have DU : ∀ {H'} {s'} {σ'} {o : Obj}, Inv (cI X (T ++ M) scope cl C s H fp) [] σ' H' s' -> s'.heap.get? D = some o -> (∀ v, o.data ≠ .cell v) -> H' D = none -> Inv (cI X (T ++ M) scope cl C s H fp) [(D, o)] σ' H' s' := fun {H' s' σ' o} I' e d hn => by
   refine I'.cJ fun p hp => ?_
   have e' : p = (D, o) := by simpa using hp
   subst e'
   refine ⟨e, hn, Bg, fun z => ?_, d⟩
   have z' : D ∈ kr X.stack := z
   obtain ⟨_, o', pO, _⟩ := I.stack.mem z'
   exact absurd (Heap.lt_size pO) (by rw [wV]; exact Nat.lt_irrefl _)
  have E7 := DU I3 ho (fun v z => by cases z) CD
  rcases turn i n acc H3 w3 with ⟨stop, fin⟩ | ⟨go, hl, step⟩
  . refine bh (Tn.done (cI X (T ++ M) scope cl C s H fp) rfl rfl rfl iL i _ s3 _ H3 _ E7 (stat yZ (by simp)) y0 stop) fun r s4 ⟨hr, I4⟩ => ?_
    subst hr
    have e4 := (I4.pin (D, _) (List.mem_append_right _ List.mem_cons_self)).1
    have CY : Inv (cI X (T ++ M) scope cl C s H fp) [] (List.replicate T.length none ++ σ) H3 s4 := I4.cJ fun p hp => nomatch hp
    obtain ⟨m4, n4, _⟩ := CY.loc
    exact hR D C s4 H3 acc m4 (Nat.le_refl _) v8 (Ne.symm Bg) n4 CY.free CD (sP I CY hf (by rw [wV]; exact Nat.le_refl _) CD hlen hv (by simpa using e4)) fin
  . refine bh (Tn.item (cI X (T ++ M) scope cl C s H fp) rfl rfl rfl iL i _ s3 _ H3 _ E7 (stat yZ (by simp)) y0 go) fun r s4 ⟨u, hr, h4⟩ => ?_
    subst hr
    refine bh h4 fun _ s5 ⟨x, H5, I5, r5, y5, x3, Dd⟩ => ?_
    have CQ := I5.pinned (stat Dd (by simp)) (Tn.obj _ _ x3)
    refine bh (hg _ _ _ _ _ _ s5 _ H5 x u _ CQ r5 (HW _ _ _ (step x H5 y5))) fun _ s6 ⟨σ6, H6, I6, q6, Gu, Hq⟩ => ?_
    refine bh (hc _ _ _ _ _ _ s6 σ6 H6 _ I6 q6) fun b s7 ⟨H7, I7, q7⟩ => ?_
    have rest : ∀ {s8 : Shared} {H8 : Hp}, Inv (cI X (T ++ M) scope cl C s H fp) ([(D, _)] ++ gQ fp s5.heap) σ6 H8 s8 -> tn (i + 1) s8.heap /\ (∀ b ∈ fp, H8 b = none) /\ s8.heap.PlainList D aq /\ H8 D = none /\ Inv (cI X (T ++ M) scope cl C s H fp) [] (List.replicate T.length none ++ σ) H8 s8 := fun {s8 H8} I8 => by
     refine ⟨Tn.keep _ _ _ x3 fun b hb o e => (I8.pin (b, o) (List.mem_append_right _ (List.mem_append_right _ (du hb e)))).1, fun b hb => ?_, ⟨nn, (I8.pin (D, _) (List.mem_append_right _ (List.mem_append_left _ List.mem_cons_self))).1⟩, (I8.pin (D, _) (List.mem_append_right _ (List.mem_append_left _ List.mem_cons_self))).2.1, (I8.forget T.length Gu Hq).cJ fun p hp => nomatch hp⟩
     obtain ⟨o, e, d⟩ := Tn.obj _ _ x3 b hb
     exact (I8.pin (b, o) (List.mem_append_right _ (List.mem_append_right _ (du hb e)))).2.1
    cases b with
    | false =>
      obtain ⟨m', hm, w7⟩ := q7
      obtain ⟨a1, a2, a3, a4, a5⟩ := rest I7
      exact ⟨m', hm, i + 1, acc, H7, aq, a5, a1, a2, a3, a4, hv, hlen, w7⟩
    | true =>
      refine bh (he _ _ _ _ _ _ s7 σ6 H7 _ I7 q7) fun y s8 ⟨yv, H8, I8, r8, m', hm, w8⟩ => ?_
      obtain ⟨a1, a2, a3, a4, a5⟩ := rest I8
      have hsz : aq.size <= sizeLine := by have := hv.length; simp at this; omega
      refine wpAny_list_append_plain (hsz := hsz) a3 fun h9 G6 E2 => ?_
      refine ⟨m', hm, i + 1, acc ++ [yv], H8, aq.push y, ?_, ?_, a2, G6, a4, ?_, by simp; omega, w8⟩
      . exact a5.turned (t' := s8.toks) (it := D) (fun b o hb e => (E2.2 b hb).trans e) a4 Bg (.inr (by show s.heap.objs.size <= D; rw [wV]; exact Nat.le_refl _)) (fun x c e z => by
         obtain ⟨v, o, ho, _⟩ := I.cell x c (h1 x c e)
         exact absurd (Heap.lt_size ho) (by rw [wV, z]; exact Nat.lt_irrefl _)) (fun p hp => nomatch hp)
      . exact Tn.keep _ _ _ a1 fun b hb o e => (E2.2 b (Em b hb)).trans e
      . simpa using Vals.append hv (.cons r8 .nil)
 exact codeAny_compStart_list loop (Tn.self _ _ _ _ _ Bh loop)
end
def ux (k : Nat) (g : TG) : Prop := ∀ v (τ σ : St) H Q, τ.length = k -> g v (τ ++ σ) H Q -> g v (τ ++ σ) H fun σ2 H2 => Q σ2 H2 /\ ∃ τ', τ'.length = k /\ σ2 = τ' ++ σ
def m8 (k : Nat) (g : qz) : Prop := ∀ vs (τ σ : St) H Q, τ.length = k -> g vs (τ ++ σ) H Q -> g vs (τ ++ σ) H fun σ2 H2 => Q σ2 H2 /\ ∃ τ', τ'.length = k /\ σ2 = τ' ++ σ
theorem c7 {k i : Nat} (h : i < k) : ux k (dc i) := fun v τ σ H Q hl q => by
 have e : (τ ++ σ).set i (some v) = τ.set i (some v) ++ σ := List.set_append_left _ _ (by omega)
 exact ⟨q, τ.set i (some v), by simp [hl], e⟩
theorem iX {k : Nat} : m8 k sN := fun vs τ σ H Q hl ⟨e, q⟩ => ⟨e, q, τ, hl, rfl⟩
theorem bO {k i : Nat} {u : qz} (h : i < k) (h2 : m8 k u) : m8 k (fY (dc i) u) := fun vs τ σ H Q hl ⟨v, r, e, q⟩ => by
 have e1 : (τ ++ σ).set i (some v) = τ.set i (some v) ++ σ := List.set_append_left _ _ (by omega)
 refine ⟨v, r, e, ?_⟩
 show u r ((τ ++ σ).set i (some v)) H _
 rw [e1]
 have q' : u r ((τ ++ σ).set i (some v)) H Q := q
 rw [e1] at q'
 exact h2 r _ σ H Q (by simp [hl]) q'
theorem j6 {K : PySem.W.Frag} {k n : Nat} {u : qz} (h : m8 k u) : ux k (rR K n u) := fun v τ σ H Q hl ⟨a, xs, e, hq, hn, q⟩ => ⟨a, xs, e, hq, hn, h xs τ σ H Q hl q⟩
def jU (Q : VK) (acc : List V) (H : Hp) : Prop := ∀ p, H p = none -> Q (.ref p) (upd H p (.lst acc))
def za (k : Nat) (wi : TI) (g : TG) (tc : TT) (te : TE) : TE := fun σ H Q => wi σ H fun J H1 => yQ k g tc te (jU Q) σ J H1
section
variable {X : Cx} {T M : List Str} {scope : Scope} {g : TG} {tc : TT} {te : TE} {wi : TI} {tg elt iter : Expr} {ifs : List Expr} {pos : Pos}
theorem iT (hN : eC X T M scope) (iL : X.calm = true) (hi : PI X tg iter wi) (hg : ∀ cl C s H fp, PG (cI X (T ++ M) scope cl C s H fp) tg g) (DR : ux T.length g)
 (hc : ∀ cl C s H fp, zt (cI X (T ++ M) scope cl C s H fp) ifs tc) (he : ∀ cl C s H fp, PE (cI X (T ++ M) scope cl C s H fp) elt te)
 (hs : ∀ x, foldedSetIterable iter X.env x = pure x := by intro _; rfl) : PE X (.ListComp elt [⟨tg, iter, ifs, 0⟩] scope pos) (za T.length wi g tc te) := by
 intro pins s σ H Q I h
 obtain ⟨cl, gb, h1, h2⟩ := gK (scope := scope) (env := X.env) fun x hx hf => I.ok.has x.1 (hN.free x hx hf)
 rw [eval_ListComp]
 refine wpAny_comprehension_free (use := none) rfl hs gb hN.kind hN.names (bh (hi pins s σ H _ I h) fun xv s1 nA => bh nA fun Bn s2 vY => ?_)
 obtain ⟨it, fp, tn, J, H2, e, I2, Tn, st, hf, hW⟩ := vY
 subst e
 refine p5 (RR := fun acc C => compPost (model X.prog X.w) X.A X.xe none (EP X pins σ Q) acc C) hN iL h1 h2 hg (fun v H Q q => ?_) hc he I2 Tn st hf hW ?_
 . have := DR v (List.replicate T.length none) σ H Q (by simp) q
   refine (by
    have e : (fun (σ2 : St) (H2 : Hp) => Q σ2 H2 /\ T.length + σ.length = σ2.length /\ σ2.drop T.length = σ) = fun σ2 H2 => Q σ2 H2 /\ ∃ τ' : St, τ'.length = T.length /\ σ2 = τ' ++ σ := by
     funext σ2 H2
     refine propext ⟨fun ⟨a, b, c⟩ => ⟨a, σ2.take T.length, by rw [List.length_take]; omega, by rw [<- c, List.take_append_drop]⟩, fun ⟨a, τ', b, c⟩ => ⟨a, by rw [c, List.length_append, b], by rw [c, <- b, List.drop_left]⟩⟩
    rw [e]; exact this)
 . intro D C s' H' acc m hD hC jP hn DW CV Ib fin
   refine ⟨m, hn, fun h' o3 => ⟨.ref D, _, ?_, rfl, fin D CV⟩⟩
   exact Ib.turned (t' := s'.toks) (it := C) (fun b o hb e => (o3.2 b hb).trans e) (by rw [ai jP]; exact DW) (Nat.ne_of_gt (Nat.lt_of_lt_of_le I2.lt hC)) (.inr (Nat.le_trans I2.sz hC)) (fun x c e z => by
    obtain ⟨v, q⟩ := I2.cell x c e
    exact absurd (Nat.lt_of_lt_of_le q.lt (by rw [z]; exact hC)) (Nat.lt_irrefl _)) (fun p hp z => absurd (Nat.lt_of_lt_of_le (Heap.lt_size (I2.pin p hp).1) (by rw [z]; exact hC)) (Nat.lt_irrefl _))
theorem AU {i : Nat} {y : Str} {py z1 : Pos} (AI : X.N.Nodup) (vq : X.N[i]? = some y) (hy : Loc X.env.scope y) (hN : eC X T M scope) (iL : X.calm = true) (hi : PI X tg iter wi) (hg : ∀ cl C s H fp, PG (cI X (T ++ M) scope cl C s H fp) tg g) (DR : ux T.length g)
 (hc : ∀ cl C s H fp, zt (cI X (T ++ M) scope cl C s H fp) ifs tc) (he : ∀ cl C s H fp, PE (cI X (T ++ M) scope cl C s H fp) elt te)
 (HY : swapsWith (.ListComp elt [⟨tg, iter, ifs, 0⟩] scope pos) (some (.Name y py)) z1.line X.env = pure true)
 (hs : ∀ x, foldedSetIterable iter X.env x = pure x := by intro _; rfl) (G2 : X.fn y = true \/ X.env.scope.names.lookup y = some .local := by first | exact .inl rfl | exact .inr rfl | assumption) :
 PS X (.Assign [.Name y py] (.ListComp elt [⟨tg, iter, ifs, 0⟩] scope pos) z1) (qD (za T.length wi g tc te) (dc i)) := by
 intro pins s σ H D' I h
 have h : za T.length wi g tc te σ H fun x H1 => D'.nx (σ.set i (some x)) H1 := h
 obtain ⟨cl, gb, h1, h2⟩ := gK (scope := scope) (env := X.env) fun x hx hf => I.ok.has x.1 (hN.free x hx hf)
 rw [exec_Assign_Name_used _ _ _ _ HY]
 refine wpAny_bind (wpAny_standAt (wpAny_bind ?_))
 show wpAny _ X.A (do let _ <- comprehension (.ListComp elt [⟨tg, iter, ifs, 0⟩] scope pos) scope X.env _ (newList []) false (eval iter X.env) (some (assign (.Name y py) X.env))) _ _ s
 refine wpAny_bind (wpAny_mono (wpAny_comprehension_free (use := some (assign (.Name y py) X.env)) (Q := fun _ s' => SP X pins D' .next s') rfl hs gb hN.kind hN.names
  (bh (hi pins s σ H _ I h) fun xv s1 nA => bh nA fun Bn s2 vY => ?_)) (fun _ s' hq => wpAny_pure (wpAny_pure hq)) fun _ _ e => e)
 obtain ⟨it, fp, tn, J, H2, e, I2, Tn, st, hf, hW⟩ := vY
 subst e
 refine p5 (RR := fun acc C => compPost (model X.prog X.w) X.A X.xe (some (assign (.Name y py) X.env)) (fun _ s' => SP X pins D' .next s') acc C) hN iL h1 h2 hg (fun v H Q q => ?_) hc he I2 Tn st hf hW ?_
 . have := DR v (List.replicate T.length none) σ H Q (by simp) q
   refine (by
    have e : (fun (σ2 : St) (H2 : Hp) => Q σ2 H2 /\ T.length + σ.length = σ2.length /\ σ2.drop T.length = σ) = fun σ2 H2 => Q σ2 H2 /\ ∃ τ' : St, τ'.length = T.length /\ σ2 = τ' ++ σ := by
     funext σ2 H2
     refine propext ⟨fun ⟨a, b, c⟩ => ⟨a, σ2.take T.length, by rw [List.length_take]; omega, by rw [<- c, List.take_append_drop]⟩, fun ⟨a, τ', b, c⟩ => ⟨a, by rw [c, List.length_append, b], by rw [c, <- b, List.drop_left]⟩⟩
    rw [e]; exact this)
 . intro D C s' H' acc m hD hC jP hn DW CV Ib fin
   show wpAny _ X.A (assign (.Name y py) X.env (.ref D)) _ _ _
   refine wpAny_assign_Name (iS Ib AI vq hy (v := .ref D) rfl (fun s3 I3 ⟨a, sb, ha⟩ => ?_) G2)
   have E4 : C ≠ X.env.locals := Nat.ne_of_gt (Nat.lt_of_lt_of_le I2.lt hC)
   have Fd : ∀ x c, X.env.cells.lookup x = some c -> c ≠ C := fun x c e z => by
    obtain ⟨v, q⟩ := I2.cell x c e
    exact absurd (Nat.lt_of_lt_of_le q.lt (by rw [z]; exact hC)) (Nat.lt_irrefl _)
   have GU : C ≠ a := by
    rcases ha with rfl | ha
    . exact E4
    . exact Ne.symm (Fd _ _ ha)
   refine ⟨m, hn.sameBut sb GU, fun h' o3 => ⟨_, _, ?_, fin D CV⟩⟩
   exact I3.turned (t' := s3.toks) (it := C) (fun b o hb e => (o3.2 b hb).trans e) (by rw [ai jP]; exact DW) E4 (.inr (Nat.le_trans I2.sz hC)) Fd (fun p hp z => absurd (Nat.lt_of_lt_of_le (Heap.lt_size (I2.pin p hp).1) (by rw [z]; exact hC)) (Nat.lt_irrefl _))
end
end L2
namespace L2
open PySem PySem.Spec PyProof.Rows PySem.W
mutual
def gZ : PyData -> Bool
 | .none => true
 | .bool _ => true
 | .int _ => true
 | .str _ => true
 | .tuple ds => aJ ds
 | .list _ => false
 | .dict _ => false
def aJ : List PyData -> Bool
 | [] => true
 | d :: ds => gZ d && aJ ds
end
theorem cF : ∀ {ds : List PyData}, aJ ds = true ↔ ∀ d ∈ ds, gZ d = true
 | [] => by simp [aJ]
 | d :: ds => by simp [aJ, cF (ds := ds)]
theorem cT {ds es : List PyData} (h1 : aJ ds = true) (h2 : aJ es = true) : aJ (ds ++ es) = true := by
 rw [cF] at *
 intro d hd
 rcases List.mem_append.mp hd with h | h
 . exact h1 d h
 . exact h2 d h
theorem bM {α : Type} {f : α -> PyData} (h : ∀ x, gZ (f x) = true) (xs : List α) : aJ (xs.map f) = true := by
 rw [cF]
 intro d hd
 obtain ⟨x, _, rfl⟩ := List.mem_map.mp hd
 exact h x
structure Mv (S : List Addr) (H H' : Hp) : Prop where
 kp : ∀ a o, a ∉ S -> H a = some o -> H' a = some o
 tp : ∀ a xs, H a = some (.tup xs) -> H' a = some (.tup xs)
 dm : ∀ a, H' a = none -> H a = none
theorem Mv.refl {S : List Addr} {H : Hp} : Mv S H H := ⟨fun _ _ _ h => h, fun _ _ h => h, fun _ h => h⟩
theorem ah.mv {S : List Addr} {H H' : Hp} (s : ah H H') : Mv S H H' := ⟨fun a o _ h => s a o h, fun a xs h => s a _ h, fun a h => by
 cases e : H a with
 | none => rfl
 | some o => rw [s a o e] at h; cases h⟩
theorem Mv.trans {S : List Addr} {H H1 H2 : Hp} (m : Mv S H H1) (m2 : Mv S H1 H2) : Mv S H H2 := ⟨fun a o n h => m2.kp a o n (m.kp a o n h), fun a xs h => m2.tp a xs (m.tp a xs h), fun a h => m.dm a (m2.dm a h)⟩
theorem Mv.step {S S1 : List Addr} {H H1 H2 : Hp} (m : Mv S H H1) (m2 : Mv S1 H1 H2) (hs : ∀ a ∈ S1, a ∈ S \/ H a = none) : Mv S H H2 := by
 refine ⟨fun a o n h => ?_, fun a xs h => m2.tp a xs (m.tp a xs h), fun a h => m.dm a (m2.dm a h)⟩
 refine m2.kp a o (fun z => ?_) (m.kp a o n h)
 rcases hs a z with q | q
 . exact n q
 . rw [q] at h; cases h
theorem Mv.nQ {S : List Addr} {H H1 H2 : Hp} (m : Mv S H H1) (s : ah H1 H2) : Mv S H H2 := m.trans s.mv
theorem Mv.at {S : List Addr} {H H' : Hp} {a : Addr} {o : HO} (m : Mv S H H') (n : a ∉ S) (h : H a = some o) : H' a = some o := m.kp a o n h
theorem ah.none {H H' : Hp} {a : Addr} (m : ah H H') (h : H' a = none) : H a = none := (m.mv (S := [])).dm a h
theorem Mv.lX {H : Hp} {p : Addr} {o u : HO} (h : H p = some u) (nt : ∀ xs, u ≠ .tup xs) : Mv [p] H (upd H p o) := ⟨fun a v n e => by
 rw [ai (fun z => n (by simp [z]))]; exact e, fun a xs e => by
 rw [ai (fun z => by subst z; rw [h] at e; exact nt xs (Option.some.inj e))]; exact e, fun a e => by
 by_cases z : a = p
 . subst z; rw [av] at e; cases e
 . rw [ai z] at e; exact e⟩
mutual
theorem Dv.mK {H H' : Hp} (t : ∀ a xs, H a = some (.tup xs) -> H' a = some (.tup xs)) : ∀ {v : V} {d : PyData}, Dv H v d -> gZ d = true -> Dv H' v d
 | _, _, .a7, _ => .a7
 | _, _, .bl b, _ => .bl b
 | _, _, .int i, _ => .int i
 | _, _, .str x, _ => .str x
 | _, _, .tup h r, c => .tup (t _ _ h) (aZ.mK t r (by simpa [gZ] using c))
 | _, _, .lst h r, c => by simp [gZ] at c
 | _, _, .dct h r, c => by simp [gZ] at c
theorem aZ.mK {H H' : Hp} (t : ∀ a xs, H a = some (.tup xs) -> H' a = some (.tup xs)) : ∀ {v : List V} {d : List PyData}, aZ H v d -> aJ d = true -> aZ H' v d
 | _, _, .nil, _ => .nil
 | _, _, .cons h r, c => by
   have c' := c
   simp only [aJ, Bool.and_eq_true] at c'
   exact .cons (Dv.mK t h c'.1) (aZ.mK t r c'.2)
end
theorem Mv.tS {S : List Addr} {H H' : Hp} {v : List V} {d : List PyData} (m : Mv S H H') (i : aJ d = true) (h : aZ H v d) : aZ H' v d := h.mK m.tp i
def bJ (H : Hp) (p : Addr) (ds : List PyData) : Prop := ∃ xs, H p = some (.lst xs) /\ aZ H xs ds /\ aJ ds = true
theorem bJ.dv {H : Hp} {p : Addr} {ds : List PyData} (h : bJ H p ds) : Dv H (.ref p) (.list ds) := let ⟨_, e, d, _⟩ := h; .lst (.of e) d
theorem bJ.keeps {H H' : Hp} {p : Addr} {ds : List PyData} (s : ah H H') (h : bJ H p ds) : bJ H' p ds := let ⟨xs, e, d, i⟩ := h; ⟨xs, s _ _ e, d.keeps s, i⟩
theorem bJ.mv {S : List Addr} {H H' : Hp} {p : Addr} {ds : List PyData} (m : Mv S H H') (n : p ∉ S) (h : bJ H p ds) : bJ H' p ds := let ⟨xs, e, d, i⟩ := h; ⟨xs, m.at n e, m.tS i d, i⟩
theorem bJ.ne {H : Hp} {p q : Addr} {ds : List PyData} (h : bJ H p ds) (hn : H q = none) : p ≠ q := let ⟨_, e, _, _⟩ := h; aw e hn
theorem gs {H : Hp} {p : Addr} {xs : List V} {ds : List PyData} (hn : H p = none) (d : aZ H xs ds) (i : aJ ds = true) : bJ (upd H p (.lst xs)) p ds := ⟨xs, av, d.keeps (aY hn), i⟩
theorem rT {p q : Addr} (h : p ≠ q) : p ∉ [q] := by simpa using h
theorem small {n m : Nat} (h : n <= m) (hm : m <= 4000 := by decide) : n <= sizeLine := Nat.le_trans h (Nat.le_trans hm (by decide))
theorem eB {n : Nat} (h : n <= 4000) : n < sizeLine := Nat.lt_of_le_of_lt h (by decide)
section
variable {σ : St} {H : Hp} {Q : VK} {D : Ends} {K : PySem.W.Frag} {p : Addr} {ds : List PyData}
theorem Dt {T : String} {r : V -> List V -> Hp -> VK -> Prop} {to : TE} {t : TA} (h : to σ H fun x H1 => Be K T x H1 /\ t σ H1 fun xs H2 => r x xs H2 Q) : E8 K T r to t σ H Q := h
theorem zj {R : Prop} (hp : bJ H p ds) (h : R) : Be K "list" (.ref p) H /\ R := let ⟨xs, e, _, _⟩ := hp; ⟨.inl ⟨rfl, xs, bF.of e⟩, h⟩
theorem Ah {y : V} {d : PyData} (hp : bJ H p ds) (hl : ds.length <= 4000) (hy : Dv H y d) (hi : gZ d = true) (h : ∀ H2, Mv [p] H H2 -> bJ H2 p (ds ++ [d]) -> Q .a7 H2) : mP (.ref p) [y] H Q := by
 obtain ⟨xs, e, dv, i⟩ := hp
 have m : Mv [p] H (upd H p (.lst (xs ++ [y]))) := .lX e (by intro _ z; cases z)
 refine ⟨p, xs, y, rfl, rfl, e, by rw [dv.length]; exact eB hl, h _ m ⟨_, av, m.tS (cT i (by simp [aJ, hi])) (dv.append (.cons hy .nil)), cT i (by simp [aJ, hi])⟩⟩
theorem xJ {xs : List V} (hl : xs.length <= sizeLine) (hd : aZ H xs ds) (hi : aJ ds = true) (k : ∀ p H2, ah H H2 -> H p = none -> bJ H2 p ds -> Q (.ref p) H2) : xO xs H Q :=
 ⟨hl, ds, hd, fun p H2 s n e d _ => k p H2 s n ⟨xs, e, d, hi⟩⟩
end
mutual
theorem Dv.fn {H : Hp} : ∀ {v : V} {d e : PyData}, Dv H v d -> Dv H v e -> gZ d = true -> d = e
 | _, _, _, .a7, h, _ => by cases h; rfl
 | _, _, _, .bl b, h, _ => by cases h; rfl
 | _, _, _, .int i, h, _ => by cases h; rfl
 | _, _, _, .str x, h, _ => by cases h; rfl
 | _, _, _, .tup h r, h2, c => by
   cases h2 with
   | tup h' r' =>
     have c' := (by simpa [gZ] using c : aJ _ = true)
     rw [h] at h'
     cases h'
     rw [aZ.fn r r' c']
   | lst h' r' =>
     rcases h' with h' | ⟨o, h'⟩ <;> rw [h] at h' <;> cases h'
   | dct h' r' => rw [h] at h'; cases h'
 | _, _, _, .lst h r, _, c => by simp [gZ] at c
 | _, _, _, .dct h r, _, c => by simp [gZ] at c
theorem aZ.fn {H : Hp} : ∀ {v : List V} {d e : List PyData}, aZ H v d -> aZ H v e -> aJ d = true -> d = e
 | _, _, _, .nil, h, _ => by cases h; rfl
 | _, _, _, .cons h r, h2, c => by
   have c' := c
   simp only [aJ, Bool.and_eq_true] at c'
   cases h2 with
   | cons h' r' => rw [Dv.fn h h' c'.1, aZ.fn r r' c'.2]
end
theorem aZ.perm {α : Type} {H : Hp} {g : α -> PyData} {xs ys : List V} (p0 : ys.Perm xs) : ∀ {cs : List α}, aZ H xs (cs.map g) -> ∃ rZ : List α, rZ.Perm cs /\ aZ H ys (rZ.map g) := by
 have p := p0.symm
 clear p0
 induction p with
 | nil => intro cs h; exact ⟨cs, .refl _, h⟩
 | cons x _ ih =>
   intro cs h
   cases cs with
   | nil => cases h
   | cons c cs =>
     cases h with
     | cons h r =>
       obtain ⟨rZ, p', h'⟩ := ih r
       exact ⟨c :: rZ, p'.cons c, .cons h h'⟩
 | swap x y l =>
   intro cs h
   cases cs with
   | nil => cases h
   | cons c cs =>
     cases h with
     | cons h r =>
       cases cs with
       | nil => cases r
       | cons c2 cs =>
         cases r with
         | cons h2 r => exact ⟨c2 :: c :: cs, .swap c c2 cs, .cons h2 (.cons h r)⟩
 | trans _ _ FY HK =>
   intro cs h
   obtain ⟨c1, p1, h1⟩ := FY h
   obtain ⟨c2, p2, h2⟩ := HK h1
   exact ⟨c2, p2.trans p1, h2⟩
theorem aZ.mem {α : Type} {H : Hp} {g : α -> PyData} : ∀ {xs : List V} {cs : List α}, aZ H xs (cs.map g) -> ∀ v ∈ xs, ∃ c ∈ cs, Dv H v (g c)
 | _, [], .nil, _, h => nomatch h
 | _, c :: cs, .cons h r, v, hv => by
   rcases List.mem_cons.mp hv with rfl | hv
   . exact ⟨c, List.mem_cons_self, h⟩
   . obtain ⟨c', hc, hd⟩ := aZ.mem r v hv
     exact ⟨c', List.mem_cons_of_mem _ hc, hd⟩
theorem aZ.pairwise {α β : Type} {H : Hp} {g : α -> PyData} {key : α -> β} {kf : V -> β} {R : β -> β -> Prop} (hk : ∀ v c, Dv H v (g c) -> kf v = key c) : ∀ {xs : List V} {cs : List α}, aZ H xs (cs.map g) -> xs.Pairwise (fun x y => R (kf x) (kf y)) -> cs.Pairwise (fun c d => R (key c) (key d))
 | _, [], .nil, _ => .nil
 | _, c :: cs, .cons h r, p => by
   rw [List.pairwise_cons] at p ⊢
   refine ⟨fun d hd => ?_, aZ.pairwise hk r p.2⟩
   obtain ⟨i, hi⟩ := List.getElem?_of_mem hd
   obtain ⟨x, hx, hv⟩ := r.get (i := i) (d := g d) (by rw [List.getElem?_map, hi]; rfl)
   have := p.1 x (List.mem_of_getElem? hx)
   rw [hk _ _ h, hk _ _ hv] at this
   exact this
theorem Dv.lst_inv {H : Hp} {v : V} {ds : List PyData} (h : Dv H v (.list ds)) : ∃ a xs, v = .ref a /\ (∀ K : PySem.W.Frag, bF K H a xs) /\ aZ H xs ds := by
 cases h with
 | lst h r => exact ⟨_, _, rfl, fun _ => .inl h, r⟩
section
variable {σ : St} {H : Hp} {Q : VK} {D : Ends} {K : PySem.W.Frag} {p : Addr} {v : V} {ds : List PyData}
theorem p9 {sp : Sp} {t : TA} (h : t σ H fun vs H1 => g0 sp K vs H1 Q) : rN K sp t σ H Q := h
theorem mJ {α : Type} {sp : Sp} {cs : List α} (g : α -> PyData) (key : α -> Int × Str) (hg : ∀ c, gZ (g c) = true) (hinj : ∀ c c', g c = g c' -> key c = key c') (hl : Dv H v (.list (cs.map g))) (nV : cs.length < 64)
 (hk : ∀ c v H', c ∈ cs -> ah H H' -> Dv H' v (g c) -> sp [v] H' (fun y H2 => ah H' H2 /\ Dv H2 y (.tuple [.int (key c).1, .str (key c).2])) E0)
 (k : ∀ q H' (rZ : List α), ah H H' -> H q = none -> rZ.Perm cs -> rZ.Pairwise (fun c d => bA (key d) (key c) = false) -> bJ H' q (rZ.map g) -> Q (.ref q) H') : g0 sp K [v] H Q := by
 obtain ⟨p, xs, rfl, e, dv⟩ := hl.lst_inv
 classical
 have Bx : ∃ kf : V -> Int × Str, ∀ v c, Dv H v (g c) -> kf v = key c := by
  refine ⟨fun v => if h : ∃ c, Dv H v (g c) then key h.choose else (0, ⟨#[]⟩), fun v c hv => ?_⟩
  have h : ∃ c, Dv H v (g c) := ⟨c, hv⟩
  show (if h : ∃ c, Dv H v (g c) then key h.choose else (0, ⟨#[]⟩)) = key c
  rw [dif_pos h]
  exact hinj _ _ (Dv.fn h.choose_spec hv (hg _))
 obtain ⟨kf, Bx⟩ := Bx
 refine ⟨p, xs, kf, rfl, e K, by rw [dv.length, List.length_map]; exact nV, fun v hv H' sm => ?_, fun l ys H' sm hn yP ord => ?_⟩
 . obtain ⟨c, hc, hd⟩ := dv.mem v hv
   rw [Bx v c hd]
   exact hk c v H' hc sm (hd.keeps sm)
 . obtain ⟨pm, pw⟩ := ord
   obtain ⟨rZ, pc, Fv⟩ := dv.perm pm
   have e8 : ah H (upd H' l (.lst ys)) := sm.trans (aY yP)
   exact k l _ rZ e8 hn pc (aZ.pairwise (R := fun a b => bA b a = false) Bx Fv pw) ⟨ys, av, Fv.keeps e8, bM hg _⟩
def Bt (te : TE) (N : Option V -> Hp -> Prop) (σ2 : St) (b : Bool) (H3 : Hp) : Prop := if b = true then te σ2 H3 (fun y H4 => N (some y) H4) else N none H3
theorem Au {k : Nat} {tl : TE} {g : TG} {tc : TT} {te : TE} (h : tl σ H fun x H1 => ∃ a, x = .ref a /\ (∃ xs, bF K H1 a xs) /\ yQ k g tc te (jU Q) σ (sd K a) H1) : za k (pK K tl) g tc te σ H Q := h
theorem oE {k : Nat} {g : TG} {tc : TT} {te : TE} {α : Type} {cs : List α} {gd : α -> PyData} (pf : α -> Bool) (fd : α -> PyData) (hl : Dv H v (.list (cs.map gd))) (hlen : cs.length <= 4000) (hi : ∀ c, gZ (fd c) = true)
 (turn : ∀ x c H' (N : Option V -> Hp -> Prop), c ∈ cs -> ah H H' -> Dv H' x (gd c) -> (pf c = true -> ∀ y H4, ah H' H4 -> Dv H4 y (fd c) -> N (some y) H4) -> (pf c = false -> ∀ H3, ah H' H3 -> N none H3) ->
  g x (List.replicate k none ++ σ) H' fun σ2 H2 => tc σ2 H2 fun b H3 => Bt te N σ2 b H3)
 (kk : ∀ q H', ah H H' -> H q = none -> bJ H' q ((cs.filter pf).map fd) -> Q (.ref q) H') : ∃ a, v = .ref a /\ (∃ xs, bF K H a xs) /\ yQ k g tc te (jU Q) σ (sd K a) H := by
 obtain ⟨p, xs, rfl, e, dv⟩ := hl.lst_inv
 have vW : bF K H p xs := e K
 have Dw : xs.length = cs.length := by rw [dv.length, List.length_map]
 refine ⟨p, rfl, ⟨xs, vW⟩, fun i m acc H' => i <= cs.length /\ m = cs.length - i /\ ah H H' /\ aZ H' acc (((cs.take i).filter pf).map fd), ⟨cs.length, Nat.zero_le _, rfl, ah.refl _, by simpa using aZ.nil⟩, ?_⟩
 rintro i m acc H' ⟨Ga, hm, sm, cU⟩
 have uB : bF K H' p xs := ah.seq sm vW
 have pG : acc.length <= cs.length := by
  rw [cU.length, List.length_map]
  exact Nat.le_trans (List.length_filter_le _ _) (by rw [List.length_take]; omega)
 by_cases hc : i = cs.length
 . left
   refine ⟨⟨xs, uB, by omega⟩, fun q hq => ?_⟩
   rw [hc, List.take_length] at cU
   have e8 : ah H (upd H' q (.lst acc)) := sm.trans (aY hq)
   exact kk q _ e8 (sm.none hq) ⟨acc, av, cU.keeps (aY hq), bM hi _⟩
 . right
   have cz : i < cs.length := by omega
   have DJ : i < xs.length := by omega
   refine ⟨⟨xs, xs[i], uB, List.getElem?_eq_getElem DJ⟩, eB (by omega), fun x H2 hy => ?_⟩
   obtain ⟨rfl, hy⟩ := hy
   have hx := hy xs uB
   have Ag : cs[i]? = some cs[i] := List.getElem?_eq_getElem cz
   obtain ⟨x', iy, hd⟩ := dv.get (i := i) (d := gd cs[i]) (by rw [List.getElem?_map, Ag]; rfl)
   rw [hx] at iy
   cases iy
   have nh : cs.take (i + 1) = cs.take i ++ [cs[i]] := by rw [List.take_add_one, Ag]; rfl
   exact turn x cs[i] H2 (fun o H4 => match o with | some y => ∃ m', m' < m /\ i + 1 <= cs.length /\ m' = cs.length - (i + 1) /\ ah H H4 /\ aZ H4 (acc ++ [y]) (((cs.take (i + 1)).filter pf).map fd) | none => ∃ m', m' < m /\ i + 1 <= cs.length /\ m' = cs.length - (i + 1) /\ ah H H4 /\ aZ H4 acc (((cs.take (i + 1)).filter pf).map fd))
    (List.getElem_mem cz) sm (hd.keeps sm)
    (fun hp y H4 s4 d4 => ⟨cs.length - (i + 1), by omega, cz, rfl, sm.trans s4, by
     rw [nh, List.filter_append, List.map_append]
     simp only [List.filter_cons, hp, if_true, List.filter_nil, List.map_cons, List.map_nil]
     exact aZ.append (cU.keeps s4) (.cons d4 .nil)⟩)
    (fun hp H3 s3 => ⟨cs.length - (i + 1), by omega, cz, rfl, sm.trans s3, by
     rw [nh, List.filter_append, List.map_append]
     simp only [List.filter_cons, hp, Bool.false_eq_true, if_false, List.filter_nil, List.map_nil, List.append_nil]
     exact cU.keeps s3⟩)
end
def mW (scope sc : Scope) (N M : List Str) : Bool :=
 (scope.kind == .function) && scope.names.all (fun y => y.2 != .cell) && scope.names.all (fun y => y.2 != .local || scope.names.lookup y.1 == some .local) &&
  scope.names.all (fun y => y.2 != .free || (sc.names.lookup y.1 == some .cell || sc.names.lookup y.1 == some .free)) && (M.length == N.length) &&
  (M.zip N).all fun p => (p.1 == p.2 && scope.names.lookup p.1 == some .free) || scope.names.lookup p.1 == none
theorem xN {X : Cx} {T M : List Str} {scope : Scope} (sc : Scope) (N : List Str) (hs : X.env.scope = sc) (hN : X.N = N) (h : mW scope sc N M = true) : eC X T M scope := by
 unfold mW at h
 simp only [Bool.and_eq_true, List.all_eq_true, Bool.or_eq_true, bne_iff_ne, beq_iff_eq, ne_eq] at h
 obtain ⟨⟨⟨⟨⟨h1, h2⟩, h3⟩, h4⟩, h5⟩, h6⟩ := h
 refine ⟨h1, h2, fun y hy e => ?_, fun y hy e => ?_, by rw [hN]; exact h5, fun i x hx => ?_⟩
 . rcases h3 y hy with z | z
   . exact absurd e z
   . exact z
 . rw [hs]
   rcases h4 y hy with z | z
   . exact absurd e z
   . exact z
 . have hi : i < M.length := (List.getElem?_eq_some_iff.mp hx).1
   have EB : i < N.length := by omega
   have hz : (M.zip N)[i]? = some (x, N[i]) := by
    rw [List.getElem?_zip_eq_some]
    exact ⟨hx, List.getElem?_eq_getElem EB⟩
   rcases h6 _ (List.mem_of_getElem? hz) with ⟨a, b⟩ | a
   . left
     refine ⟨?_, b⟩
     rw [hN, List.getElem?_eq_getElem EB]
     have a' : x = N[i] := a
     rw [a']
   . exact .inr a
section
variable {σ : St} {H : Hp} {Q : VK} {D : Ends} {K : PySem.W.Frag} {p : Addr} {v : V} {ds : List PyData}
theorem yj {z : Str} {i : Int} {c : Nat} (hl : z.length <= sizeLine) (hi : jR z.cps.toList i = some c) (h : Q (.str ⟨#[c]⟩) H) : jx K (.str z) (.int i) H Q := .inl (.inr ⟨z, i, c, rfl, rfl, hl, hi, h⟩)
def uV : R2 := fun x y H Q => ∃ i j, x = .str i /\ y = .str j /\ i.length + j.length <= sizeLine /\ Q (.str (i ++ j)) H
theorem jF {X : Cx} : fD X (binaryOp .Add) uV := kY
theorem v7 {i j : Str} (hl : i.length + j.length <= 4000) (h : Q (.str (i ++ j)) H) : uV (.str i) (.str j) H Q := ⟨i, j, rfl, rfl, small hl, h⟩
def nL (K : PySem.W.Frag) : List V -> Hp -> VK -> Prop := fun xs H Q => ∃ p ys, xs = [.ref p] /\ (bF K H p ys \/ lC K H p ys) /\ ∀ l, H l = none -> Q (.ref l) (upd H l (.lst ys))
theorem jS {X : Cx} : bL X (.type "list") (nL X.K) := jn
theorem qX (hp : Dv H v (.list ds)) (i : aJ ds = true) (k : ∀ q H', ah H H' -> H q = none -> bJ H' q ds -> Q (.ref q) H') : nL K [v] H Q := by
 obtain ⟨p, xs, rfl, e, dv⟩ := hp.lst_inv
 exact ⟨p, xs, rfl, .inl (e K), fun l hl => k l _ (aY hl) hl (gs hl dv i)⟩
theorem tu (xs : List V) (i j : Nat) : oX xs (some (i : Int)) (some (j : Int)) = (xs.drop i).take (j - i) := by
 unfold oX
 rw [HT.nO, HT.nO]
 by_cases h : i <= xs.length
 . rw [Nat.min_eq_left h]
   by_cases h2 : j <= xs.length
   . rw [Nat.min_eq_left h2]
   . rw [Nat.min_eq_right (by omega)]
     rw [List.take_of_length_le (by rw [List.length_drop]; omega), List.take_of_length_le (by rw [List.length_drop]; omega)]
 . rw [List.drop_of_length_le (show xs.length <= min i xs.length by omega), List.drop_of_length_le (show xs.length <= i by omega), List.take_nil, List.take_nil]
theorem CF {te : TE} {tl th : TO} {r : V -> Option Int -> Option Int -> Hp -> VK -> Prop} (h : te σ H fun x H1 => tl σ H1 fun l H2 => th σ H2 fun u H3 => r x l u H3 Q) : EX r te tl th σ H Q := h
theorem wq {t : TE} {R : Option Int -> Hp -> Prop} (h : t σ H fun x H1 => ∃ i, x = .int i /\ R (some i) H1) : vn t σ H R := h
theorem qN {R : Option Int -> Hp -> Prop} (h : R none H) : mD σ H R := h
theorem sS {i : Int} {R : Int -> Prop} (h : R i) : ∃ j, V.int i = .int j /\ R j := ⟨i, rfl, h⟩
theorem yc {ns : List Int} (i j : Nat) (hp : bF K H p (ns.map V.int)) (k : ∀ q H', ah H H' -> H q = none -> bJ H' q (((ns.drop i).take (j - i)).map PyData.int) -> Q (.ref q) H') : zM K (.ref p) (some (i : Int)) (some (j : Int)) H Q := by
 refine ⟨p, _, rfl, hp, fun q hq => ?_⟩
 rw [tu, <- List.map_drop, <- List.map_take]
 exact k q _ (aY hq) hq ⟨_, av, aZ.ints _, bM (fun _ => rfl) _⟩
end
end L2
namespace L2
theorem pH {H H1 H2 : Hp} (a : ∀ x, H1 x = none -> H x = none) (b : ∀ x, H2 x = none -> H1 x = none) : ∀ x, H2 x = none -> H x = none := fun x h => a x (b x h)
theorem xf {H H' : Hp} {p : PySem.Addr} (s : ∀ x, H' x = none -> H x = none) (h : H' p = none) : H p = none := s p h
theorem ah.FC {H H' : Hp} (s : ah H H') : ∀ x, H' x = Option.none -> H x = Option.none := (s.mv (S := [])).dm
theorem vJ {S : List PySem.Addr} {H : Hp} {p : PySem.Addr} (h : p ∈ S \/ H p = none) : ∀ a ∈ [p], a ∈ S \/ H a = none := fun a ha => by
 have : a = p := by simpa using ha
 subst this; exact h
end L2
namespace L2
open PySem
theorem qH {α β : Type} [Inhabited α] {f : α -> β} {xs : List α} {i : Int} (h0 : 0 <= i) (h1 : i < xs.length) : jR (xs.map f) i = some (f (xs.getD i.toNat default)) := by
 obtain ⟨m, rfl⟩ := Int.eq_ofNat_of_zero_le h0
 have hm : m < xs.length := by omega
 refine fc ?_
 rw [List.getElem?_map, List.getElem?_eq_getElem hm]
 simp [hm]
theorem yo {α : Type} {g : α -> PyData} {xs : List α} {K : PySem.W.Frag} {H : Hp} {Q : VK} {v : V} (hs : Dv H v (.list (xs.map g))) (h : Q (.int (xs.length : Nat)) H) : j1 K [v] H Q := rL (.inr hs) (by rw [List.length_map]; exact h)
theorem sJ {i : Nat} {v : V} {σ : St} {H : Hp} {R : St -> Hp -> Prop} (h : R (σ.set i (some v)) H) : dc i v σ H R := h
theorem Mv.Bd {p : Addr} {H H1 H2 : Hp} (s : ah H H1) (m : Mv [p] H1 H2) (n : H p = Option.none) : ah H H2 := fun a o e => m.kp a o (rT (aw e n)) (s a o e)
theorem Mv.sq {K : PySem.W.Frag} {S : List Addr} {H H' : Hp} {a : Addr} {xs : List V} (m : Mv S H H') (n : a ∉ S) (h : bF K H a xs) : bF K H' a xs := by
 rcases h with (h | ⟨o, h⟩) | h
 . exact .inl (.inl (m.at n h))
 . exact .inl (.inr ⟨o, m.at n h⟩)
 . exact .inr h
theorem fj {te : TE} {N : Option V -> Hp -> Prop} {σ2 : St} {b : Bool} {H3 : Hp} (h1 : b = true -> te σ2 H3 (fun y H4 => N (some y) H4)) (h2 : b = false -> N none H3) : Bt te N σ2 b H3 := by
 unfold Bt
 cases b with
 | true => rw [if_pos rfl]; exact h1 rfl
 | false => rw [if_neg (by simp)]; exact h2 rfl
end L2
namespace L2
open PySem PySem.Spec PyProof.Rows
section
variable {X : Cx} {K : PySem.W.Frag} {a b e : Expr} {es : List Expr} {ta : TE} {pos : Pos}
theorem fZ (h : X.K = K) : pF X (jx K) := by rw [<- h]; exact dg
theorem mE {k : Nat} {t : qz} {n : Nat} (h : X.K = K) (hc : X.calm = true) (hs : zF X es t) (hn : (assignEach es X.env).length = n := by rfl) (pX : (assignEach es X.env).findIdx? (·.1) = none := by rfl) : PG X (.Tuple es k pos) (rR K n t) := by rw [<- h]; exact kW hc hs hn pX
end
end L2
namespace L2
open PySem PySem.Spec PyProof.Rows PySem.W
inductive dS (H : Hp) : List (Key × V) -> List (Str × PyData) -> Prop where
 | nil : dS H [] []
 | cons {k : Str} {v : V} {d : PyData} {ao : List (Key × V)} {m : List (Str × PyData)} (h : Dv H v d) (i : gZ d = true) (r : dS H ao m) : dS H ((.inr k, v) :: ao) ((k, d) :: m)
theorem dS.mK {H H' : Hp} (t : ∀ a xs, H a = some (.tup xs) -> H' a = some (.tup xs)) : ∀ {ao : List (Key × V)} {m : List (Str × PyData)}, dS H ao m -> dS H' ao m
 | _, _, .nil => .nil
 | _, _, .cons h i r => .cons (h.mK t i) i (dS.mK t r)
theorem dS.length {H : Hp} : ∀ {ao : List (Key × V)} {m : List (Str × PyData)}, dS H ao m -> ao.length = m.length
 | _, _, .nil => rfl
 | _, _, .cons _ _ r => by simp [dS.length r]
def iK (m : List (Str × PyData)) (k : Str) : Option PyData := (m.find? fun kv => decide (kv.1 = k)).map (·.2)
def putD (m : List (Str × PyData)) (k : Str) (d : PyData) : List (Str × PyData) := if (m.any fun kv => decide (kv.1 = k)) = true then m.map (fun kv => if kv.1 = k then (kv.1, d) else kv) else m ++ [(k, d)]
theorem uk {a b : Str} : ((Sum.inr a : Key) = Sum.inr b) = (a = b) := propext ⟨fun h => Sum.inr.inj h, fun h => by rw [h]⟩
theorem dS.val {H : Hp} {k : Str} : ∀ {ao : List (Key × V)} {m : List (Str × PyData)}, dS H ao m -> (∀ d, iK m k = some d -> ∃ v, fh ao (.inr k) = some v /\ Dv H v d) /\ (iK m k = none -> fh ao (.inr k) = none)
 | _, _, .nil => ⟨fun d h => by simp [iK] at h, fun _ => rfl⟩
 | _, _, .cons (k := j) h i r => by
   obtain ⟨h1, h2⟩ := dS.val (k := k) r
   by_cases e : j = k
   . subst e
     refine ⟨fun d hd => ⟨_, fB rfl, ?_⟩, fun hd => by simp [iK] at hd⟩
     simp [iK] at hd
     subst hd; exact h
   . have e' : (Sum.inr j : Key) ≠ .inr k := fun z => e (Sum.inr.inj z)
     have el : ∀ (d : PyData) (m : List (Str × PyData)), iK ((j, d) :: m) k = iK m k := fun d m => by simp [iK, List.find?_cons, e]
     refine ⟨fun d hd => ?_, fun hd => ?_⟩
     . rw [el] at hd
       obtain ⟨v, hv, jf⟩ := h1 d hd
       exact ⟨v, by rw [eu e']; exact hv, jf⟩
     . rw [el] at hd
       rw [eu e']; exact h2 hd
theorem dS.any {H : Hp} {k : Str} : ∀ {ao : List (Key × V)} {m : List (Str × PyData)}, dS H ao m -> (ao.any fun kv => decide (kv.1 = .inr k)) = m.any fun kv => decide (kv.1 = k)
 | _, _, .nil => rfl
 | _, _, .cons h i r => by
   simp only [List.any_cons, dS.any r, uk]
theorem dS.append {H : Hp} : ∀ {ao Bc : List (Key × V)} {m m' : List (Str × PyData)}, dS H ao m -> dS H Bc m' -> dS H (ao ++ Bc) (m ++ m')
 | _, _, _, _, .nil, s => s
 | _, _, _, _, .cons h i r, s => .cons h i (dS.append r s)
theorem dS.repl {H : Hp} {k : Str} {v : V} {d : PyData} (hv : Dv H v d) (hi : gZ d = true) : ∀ {ao : List (Key × V)} {m : List (Str × PyData)}, dS H ao m -> dS H (ao.map fun kv => if kv.1 = .inr k then (kv.1, v) else kv) (m.map fun kv => if kv.1 = k then (kv.1, d) else kv)
 | _, _, .nil => .nil
 | _, _, .cons (k := j) h i r => by
   rw [List.map_cons, List.map_cons]
   by_cases e : j = k
   . subst e
     rw [if_pos rfl, if_pos rfl]
     exact .cons hv hi (dS.repl hv hi r)
   . rw [if_neg (fun z => e (Sum.inr.inj z)), if_neg e]
     exact .cons h i (dS.repl hv hi r)
theorem dS.put {H : Hp} {k : Str} {v : V} {d : PyData} {ao : List (Key × V)} {m : List (Str × PyData)} (r : dS H ao m) (hv : Dv H v d) (hi : gZ d = true) : dS H (putK ao (.inr k) v) (putD m k d) := by
 unfold putK putD
 rw [r.any]
 by_cases h : (m.any fun kv => decide (kv.1 = k)) = true
 . rw [if_pos h, if_pos h]; exact r.repl hv hi
 . rw [if_neg h, if_neg h]; exact r.append (.cons hv hi .nil)
def c6 (H : Hp) (p : Addr) (m : List (Str × PyData)) : Prop := ∃ ao, H p = some (.dK ao) /\ dS H ao m
theorem c6.keeps {H H' : Hp} {p : Addr} {m : List (Str × PyData)} (s : ah H H') (h : c6 H p m) : c6 H' p m := let ⟨ao, e, d⟩ := h; ⟨ao, s _ _ e, d.mK fun a xs e => s _ _ e⟩
theorem c6.mv {S : List Addr} {H H' : Hp} {p : Addr} {m : List (Str × PyData)} (v : Mv S H H') (n : p ∉ S) (h : c6 H p m) : c6 H' p m := let ⟨ao, e, d⟩ := h; ⟨ao, v.at n e, d.mK v.tp⟩
theorem c6.ne {H : Hp} {p q : Addr} {m : List (Str × PyData)} (h : c6 H p m) (hn : H q = none) : p ≠ q := let ⟨_, e, _⟩ := h; aw e hn
section
variable {σ : St} {H : Hp} {Q : VK} {D : Ends} {K : PySem.W.Frag} {p : Addr} {m : List (Str × PyData)} {k : Str}
theorem w5 (h : ∀ p H2, ah H H2 -> H p = none -> c6 H2 p [] -> Q (.ref p) H2) : qm σ H Q := fun p hp => h p _ (aY hp) hp ⟨[], av, .nil⟩
theorem tV {td ty tv : TE} (h : tv σ H fun v H1 => td σ H1 fun x H2 => ty σ H2 fun y H3 => ∃ a H4, x = .ref a /\ md H3 a y v H4 /\ D.nx σ H4) : uS td ty tv D σ H := h
theorem xM {v : V} {d : PyData} {R : Hp -> Prop} (hp : c6 H p m) (hl : m.length <= 4000) (hv : Dv H v d) (hi : gZ d = true) (h : ∀ H2, Mv [p] H H2 -> c6 H2 p (putD m k d) -> R H2) : ∃ a H4, V.ref p = .ref a /\ md H a (.str k) v H4 /\ R H4 := by
 obtain ⟨ao, e, dk⟩ := hp
 have mv : Mv [p] H (upd H p (.dK (putK ao (.inr k) v))) := .lX e (by intro _ z; cases z)
 exact ⟨p, _, rfl, md.k (k := .inr k) e (by rw [dk.length]; exact eB hl), h _ mv ⟨_, av, (dk.put hv hi).mK mv.tp⟩⟩
theorem uC {td ty : TE} (h : td σ H fun x H1 => ty σ H1 fun y H2 => ∃ a v, x = .ref a /\ eX H2 a y (some v) /\ Q v H2) : uU td ty σ H Q := h
theorem wC {d : PyData} {R : V -> Prop} (hp : c6 H p m) (hk : iK m k = some d) (h : ki H d fun v _ => R v) : ∃ a v, V.ref p = .ref a /\ eX H a (.str k) (some v) /\ R v := by
 obtain ⟨ao, e, dk⟩ := hp
 obtain ⟨v, hv, hd⟩ := (dk.val (k := k)).1 d hk
 exact ⟨p, v, rfl, by rw [<- hv]; exact eX.k (k := .inr k) e, h.use hd⟩
theorem uH {td ty : TE} (h : ty σ H fun y H1 => td σ H1 fun x H2 => ∃ a o, x = .ref a /\ eX H2 a y o /\ Q (.bl (!o.isSome)) H2) : nU ty td σ H Q := h
theorem A5 (hp : c6 H p m) (k : Str) : ∃ o, eX H p (.str k) o /\ o.isSome = (iK m k).isSome := by
 obtain ⟨ao, e, dk⟩ := hp
 refine ⟨fh ao (.inr k), eX.k (k := .inr k) e, ?_⟩
 obtain ⟨h1, h2⟩ := dk.val (k := k)
 cases hl : iK m k with
 | none => rw [h2 hl]; rfl
 | some d => obtain ⟨v, hv, _⟩ := h1 d hl; rw [hv]; rfl
theorem Aq {R : Option V -> Prop} (hp : c6 H p m) (h : ∀ o : Option V, o.isSome = (iK m k).isSome -> R o) : ∃ a o, V.ref p = .ref a /\ eX H a (.str k) o /\ R o := by
 obtain ⟨o, g, e⟩ := A5 hp k
 exact ⟨p, o, rfl, g, h o e⟩
def vg : List V -> Hp -> VK -> Prop := fun xs H Q => ∃ a ao, xs = [V.ref a] /\ H a = some (.dK ao) /\ Q (.int ao.length) H
theorem kZ {X : Cx} : bL X (.builtin "len") vg := oN
theorem tQ (hp : c6 H p m) (h : Q (.int (m.length : Nat)) H) : vg [.ref p] H Q := by
 obtain ⟨ao, e, dk⟩ := hp
 exact ⟨p, ao, rfl, e, by rw [dk.length]; exact h⟩
theorem t9 {r r' : R2} {ta tb tc : TE} (h : ta σ H fun x H1 => tb σ H1 fun y H2 => r x y H2 fun z H3 => ∃ k, z = .bl k /\ if k = true then tc σ H3 fun u H4 => r' y u H4 Q else Q (.bl false) H3) : q0 r r' ta tb tc σ H Q := h
end
end L2
namespace L2
theorem DL {t : TE} {σ : St} {H : Hp} {Q : Bool -> Hp -> Prop} (h : t σ H fun x H' => ∃ k, x = .bl k /\ Q k H') : tB t σ H Q := h
end L2
namespace L2
open PySem
theorem kG {Hb : Hp} {σ : St} {H : Hp} {D : Ends} {K : PySem.W.Frag} {v : V} {α : Type} {cs : List α} {gd : α -> PyData} {g : TG} {tb : TS} (hl : Dv Hb v (.list (cs.map gd))) (Pv : Nat -> St -> Hp -> Prop) (h0 : Pv 0 σ H) (hk : ∀ i σ H', i <= cs.length -> Pv i σ H' -> ∀ a xs, v = .ref a -> bF K Hb a xs -> bF K H' a xs)
 (hs : ∀ i c x σ H', cs[i]? = some c -> Pv i σ H' -> (gZ (gd c) = true -> (∀ a xs, Hb a = some (.tup xs) -> H' a = some (.tup xs)) -> Dv H' x (gd c)) -> (ah Hb H' -> Dv H' x (gd c)) -> g x σ H' fun σ2 H2 => tb { D with nx := Pv (i + 1), ct := Pv (i + 1), bk := D.nx } σ2 H2) (hd : ∀ σ H', Pv cs.length σ H' -> D.nx σ H') : yw K v g tb D σ H := by
 obtain ⟨p, xs, rfl, e, dv⟩ := hl.lst_inv
 have Dw : xs.length = cs.length := by rw [dv.length, List.length_map]
 refine forL (hk 0 σ H (Nat.zero_le _) h0 p xs rfl (e K)) Pv h0 (fun i σ H' hi hp => hk i σ H' (by omega) hp p xs rfl (e K)) (fun i x σ H' hx hp => ?_) (fun σ H' hp => hd σ H' (by rw [<- Dw]; exact hp))
 have hi : i < cs.length := by have := (List.getElem?_eq_some_iff.mp hx).1; omega
 obtain ⟨x', iy, jf⟩ := dv.get (i := i) (d := gd cs[i]) (by rw [List.getElem?_map, List.getElem?_eq_getElem hi]; rfl)
 rw [hx] at iy
 cases iy
 exact hs i cs[i] x σ H' (List.getElem?_eq_getElem hi) hp (fun im t => jf.mK t im) (fun s => jf.keeps s)
end L2
namespace L2
open PySem PySem.Spec PyProof.Rows PySem.W
section
variable {X : Cx} {tg : Expr}
section
variable {σ : St} {H : Hp} {Q : VK} {D : Ends} {K : PySem.W.Frag}
end
end
end L2
namespace L2
open PySem
section
variable {H : Hp} {Q : VK} {K : PySem.W.Frag}
theorem uh {z : Str} (hl : z.length <= 4000) (h : Q (.int (z.length : Nat)) H) : j1 K [.str z] H Q := .inl (.inr ⟨z, rfl, small hl, h⟩)
end
end L2
namespace L2
open PySem PySem.Spec PyProof.Rows PySem.W
section
variable {X : Cx}
end
section
variable {σ : St} {H : Hp} {Q : VK} {D : Ends} {K : PySem.W.Frag} {p : Addr} {ds : List PyData}
theorem aZ.rev {H : Hp} {xs : List V} {ds : List PyData} (h : aZ H xs ds) : aZ H xs.reverse ds.reverse := by
 induction xs generalizing ds with
 | nil => cases h; exact .nil
 | cons x xs ih =>
   cases h with
   | cons h r => rw [List.reverse_cons, List.reverse_cons]; exact (ih r).append (.cons h .nil)
theorem lh {ds : List PyData} (h : aJ ds = true) : aJ ds.reverse = true := by
 rw [cF] at *
 intro d hd
 exact h d (List.mem_reverse.mp hd)
theorem yC {q : Addr} {es : List PyData} (hp : bJ H p ds) (hq : bJ H q es) (hl : ds.length + es.length <= 4000) (k : ∀ r H', ah H H' -> H r = none -> bJ H' r (ds ++ es) -> Q (.ref r) H') : AJ (.ref p) (.ref q) H Q := by
 obtain ⟨xs, e, dv, im⟩ := hp
 obtain ⟨zs, e2, EG, FG⟩ := hq
 refine ⟨p, q, xs, zs, rfl, rfl, e, e2, by rw [dv.length, EG.length]; exact small hl, fun r hr => ?_⟩
 exact k r _ (aY hr) hr (gs hr (dv.append EG) (cT im FG))
end
end L2
namespace L2
open PySem PySem.Calls PyProof.Rows
section
variable {X : Cx} {e k : Expr} {te tk : TE} {pos p2 : Pos}
end
section
variable {X : Cx}
end
section
variable {K : PySem.W.Frag} {σ : St} {H : Hp} {Q : VK} {p : Addr} {ds : List PyData}
end
end L2
namespace L2
open PySem PySem.Spec PyProof.Rows PySem.W
theorem mZ (lo hi : Option Int) (n : Nat) : (Builtin.Str.strSliceIndices lo hi 1 n).length <= n := by
 unfold Builtin.Str.strSliceIndices sliceRange
 simp only [List.length_map, List.length_range, Int.ediv_one, show (1 : Int) > 0 by decide, if_true]
 cases lo <;> cases hi <;> simp only [] <;> (repeat' split) <;> omega
section
variable {X : Cx}
def vy : List V -> Hp -> VK -> Prop := fun xs H Q => ∃ (v : V) (ns : List Int), xs = [v] /\ Dv H v (.list (ns.map PyData.int)) /\ Q (.int ns.sum) H
theorem gA {H : Hp} : ∀ {xs : List V} {ns : List Int} {us : List Value}, aZ H xs (ns.map PyData.int) -> Vals xs us -> IntsAre us ns
 | _, [], _, .nil, .nil => .nil
 | _, _ :: _, _, .cons h r, .cons q t => by
   cases h
   obtain ⟨tk, rfl⟩ := q
   exact .cons _ _ (gA r t)
theorem fT (x : Int) (ns : List Int) : ∀ k, preSum (fun i => (x :: ns).getD i 0) (k + 1) = x + preSum (fun i => ns.getD i 0) k
 | 0 => by simp [preSum]
 | k + 1 => by
   rw [preSum, fT x ns k, preSum, List.getD_cons_succ]
   omega
theorem f6 : ∀ ns : List Int, preSum (fun i => ns.getD i 0) ns.length = ns.sum
 | [] => rfl
 | x :: r => by rw [List.length_cons, fT, f6 r, List.sum_cons]
theorem jd (hc : X.calm = true) : bL X (.builtin "sum") vy := by
 intro pins s σ H xs us Q I r h
 obtain ⟨v, ns, rfl, hd, q⟩ := h
 obtain ⟨u, rfl, ru⟩ := vals1 r
 obtain ⟨p, ys, rfl, e, dv⟩ := hd.lst_inv
 obtain ⟨aq, yR, pl, _⟩ := I.list (e X.K)
 cases ru
 have hI := gA dv yR
 have cz : p < s.heap.objs.size := by obtain ⟨o, n, e1, _⟩ := pl; exact Heap.lt_size e1
 have hA : X.A.in1.handled = none := I.ok.hd hc
 refine call_sum_walkAnyB (wpAny_pyIter_list pl.isList ?_)
 refine ⟨s.heap.objs.size, _, _, _, _, _, _, fun i => ns.getD i 0, rfl, (Walks.list hA _ p (Nat.ne_of_lt cz) aq.toArray).toS, ⟨⟨_, Heap.get?_push_size _ rfl, rfl, rfl⟩, pl.isList.at fun o e => Heap.get?_push_of_some _ e⟩, ?_, ?_, ?_⟩
 . intro b hb
   rw [Heap.size_push]
   have : b = s.heap.objs.size \/ b = p := by simpa using hb
   rcases this with rfl | rfl
   . exact Nat.lt_succ_self _
   . exact Nat.lt_succ_of_lt cz
 . intro i v hv
   obtain ⟨t, ht⟩ := hI.int_at i v (by simpa using hv)
   exact .inl ⟨t, ht⟩
 . intro s' t' hm
   have hn : aq.toArray.size = ns.length := by rw [List.size_toArray, hI.length]
   rw [hn, f6]
   obtain ⟨h', g', d', Cd, Al⟩ := s'
   have eg : g' = s.gens := hm.gens
   have ed : d' = s.drawn := hm.drawn
   have eo : Al = s.os := hm.os
   subst eg; subst ed; subst eo
   have I1 := I.kept (t' := s.toks) (h' := s.heap.push { cls := Value.type "list_iterator", data := Data.fields #[Value.ref p, Value.int 0 0] }) fun b o e => Heap.get?_push_of_some _ e
   have fp := I.gg (H' := H) (Nat.le_refl _) (I.aB.fresh (Nat.le_refl _))
   have I2 := I1.turned (t' := Cd) (h' := h') (it := s.heap.objs.size) (fun b o hb e => hm.heap b o (by simpa using hb) e) fp.1 fp.2.1 fp.2.2.2.1 fp.2.2.2.2.1 fp.2.2.2.2.2
   exact ⟨.int ns.sum, H, I2, ⟨t', rfl⟩, q⟩
end
theorem tX : typeLookup (.type "list_reverseiterator") "__len__" = pure none := by rw [typeLookup_type, builtinLookup_eq_fast]; kernel_rfl
theorem qo : typeLookup (.type "list_reverseiterator") "__length_hint__" = pure (some (.builtin "list_reverseiterator.__length_hint__")) := by rw [typeLookup_type, builtinLookup_eq_fast]; kernel_rfl
theorem oh : splitId "list_reverseiterator.__length_hint__" = some ("list_reverseiterator", "__length_hint__") := by decide +kernel
section
variable {prog : Program} {w : World} {A : Around} {E : Value -> Shared -> Prop} {s : Shared} {it l : Addr} {aq : Array Value}
theorem uG {R : Result -> Shared -> Prop} (hh : A.handled = none) (jP : l ≠ it) (y : Addr) (c0 : Nat) (hz : aq.size <= sizeLine) (hi : s.heap.IsRevIter it l ((aq.size : Int) - 1)) (hl : s.heap.IsList l aq)
 (hy : s.heap.get? y = some { cls := .type "list", data := .seq #[] c0 }) (BO : y ≠ it) (GX : y ≠ l)
 (hR : ∀ s' acc c, Moved [y, it] (fun a b => b = a) s s' -> s'.heap.get? y = some { cls := .type "list", data := .seq acc c } -> ItemsOf (fun i v => aq[aq.size - 1 - i]? = some v) acc aq.size -> R (.ok (.ret .none)) s') :
 wpAny (model prog w) A.in1 (Builtin.List.listExtendWith (.ref y) (.ref it) .none)
  (fun f s' => match f with | .done g => R (.ok g) s' | .again c => c.quiet = true /\ codeAny (model prog w) A c R s') (fun e s' => R (.error e) s') s := by
 have W := (Walks.listRev (prog := prog) (w := w) (A := A.in1) hh it l jP aq).toS
 have Bh : (0 : Nat) <= aq.size /\ s.heap.IsRevIter it l ((aq.size : Int) - 1 - ((0 : Nat) : Int)) /\ s.heap.IsList l aq := ⟨Nat.zero_le _, by simpa using hi, hl⟩
 have nf : y ∉ [it, l] := by simp [BO, GX]
 unfold Builtin.List.listExtendWith
 refine wpAny_bind (wpAny_typeOf hi.typeIs ?_)
 have a1 : Builtin.List.listSameRef (.ref y) (.ref it) = false := by simp [Builtin.List.listSameRef, BO]
 have a2 : (Value.type "list_reverseiterator" == Value.type "list") = false := by decide
 have a3 : (Value.type "list_reverseiterator" == Value.type "tuple") = false := by decide
 simp only [a1, a2, a3, Bool.or_self, Bool.false_eq_true, if_false]
 refine wpAny_bind (wpAny_pyIter_revIter hi (wpAny_bind (wpAny_holding ?_)))
 unfold Builtin.List.listLengthHint
 refine wpAny_bind (wpAny_specialOf hi.typeIs tX ?_)
 wp_delta
 refine wpAny_bind (wpAny_specialOf hi.typeIs qo ?_)
 dsimp only
 rw [oh]
 dsimp only
 refine wpAny_bind (wpAny_isInstance (b := true) hi.typeIs (by rw [isSubtype_type]; kernel_rfl) ?_)
 rw [if_neg (by decide), if_pos (by decide +kernel), if_neg (by decide)]
 refine wpAny_pure ?_
 rw [if_neg (by decide +kernel)]
 refine wpAny_pure ⟨plainId_quiet F.plain_extend_loop _, codeAny_extend_loopS W hz _ nf _ aq.size 0 _ _ _ rfl (Nat.zero_le _) Bh hy (ItemsOf.nil _) fun s' acc c hm hs cU => ?_⟩
 exact hR s' acc c (hm.mono (by simp)) hs cU
theorem iB {Q : Value -> Shared -> Prop} (hh : A.handled = none) (jP : l ≠ it) (hz : aq.size <= sizeLine) (hi : s.heap.IsRevIter it l ((aq.size : Int) - 1)) (hl : s.heap.IsList l aq)
 (hQ : ∀ s' acc c, s'.gens = s.gens -> s'.drawn = s.drawn -> s'.os = s.os -> (∀ b o, b ≠ it -> s.heap.get? b = some o -> s'.heap.get? b = some o) -> s'.heap.get? s.heap.objs.size = some { cls := .type "list", data := .seq acc c } -> ItemsOf (fun i v => aq[aq.size - 1 - i]? = some v) acc aq.size -> Q (.ref s.heap.objs.size) s') :
 wpAny (model prog w) A (call (.type "list") [.ref it]) Q E s := by
 have li : it < s.heap.objs.size := by obtain ⟨o, e, _⟩ := hi; exact Heap.lt_size e
 have ll : l < s.heap.objs.size := by obtain ⟨o, e, _⟩ := hl; exact Heap.lt_size e
 refine callType_codes (Q₁ := fun u s1 => u = .ref s.heap.objs.size /\ s1 = { s with heap := s.heap.push { cls := .type "list", data := .seq #[] } }) F.called_list (F.typeCall_list_1 _) F.entry_list_init (code_list_new _ ⟨rfl, rfl⟩) fun u s1 hu => ?_
 obtain ⟨rfl, rfl⟩ := hu
 have h0 : (s.heap.push { cls := .type "list", data := .seq #[] }).get? s.heap.objs.size = some { cls := .type "list", data := .seq #[] } := Heap.get?_push_size _ rfl
 refine ⟨⟨_, h0, rfl⟩, F.args_list_init_2 _ _, ?_⟩
 show wpAny _ _ (Builtin.List.listItems (.ref s.heap.objs.size) >>= fun old => Builtin.List.listUpdate (.ref s.heap.objs.size) (fun _ => #[]) >>= fun _ => letGo old.toList.reverse >>= fun _ => Builtin.List.listExtendWith (.ref s.heap.objs.size) (.ref it) .none) _ _ _
 refine wpAny_bind ?_
 unfold Builtin.List.listItems
 refine wpAny_bind (wpAny_seqItems h0 rfl (wpAny_pure (wpAny_bind ?_)))
 refine wpAny_updateSeq h0 rfl (wpAny_bind (wpAny_letGo ?_))
 have h2 := Heap.get?_update_self (Obj.mapSeq (fun _ => (#[] : Array Value))) h0 rfl
 have ot : ∀ b o, b ≠ s.heap.objs.size -> s.heap.get? b = some o -> ((s.heap.push { cls := .type "list", data := .seq #[] }).update s.heap.objs.size (Obj.mapSeq (fun _ => (#[] : Array Value)))).get? b = some o := fun b o hb e => by
  rw [Heap.get?_update_other _ _ (Ne.symm hb)]
  exact Heap.get?_push_of_some _ e
 refine uG (A := A.in1) hh jP _ _ hz (hi.at fun o e => ot it o (Nat.ne_of_lt li) e) (hl.at fun o e => ot l o (Nat.ne_of_lt ll) e) h2 (Ne.symm (Nat.ne_of_lt li)) (Ne.symm (Nat.ne_of_lt ll)) fun s' acc c hm hs cU => ?_
 exact ⟨rfl, hQ s' acc c hm.gens hm.drawn hm.os (fun b o hb e => hm.heap b o (by simp [hb, Nat.ne_of_lt (Heap.lt_size e)]) (ot b o (Nat.ne_of_lt (Heap.lt_size e)) e)) hs cU⟩
end
section
variable {X : Cx} {e : Expr} {te : TE} {p p2 pos gO : Pos}
def lu (K : PySem.W.Frag) : V -> Hp -> VK -> Prop := fun x H Q => ∃ a xs, x = .ref a /\ bF K H a xs /\ ∀ q, H q = none -> Q (.ref q) (upd H q (.lst xs.reverse))
def qB (K : PySem.W.Frag) (te : TE) : TE := fun σ H Q => te σ H fun x H1 => lu K x H1 Q
theorem oq {aq : List Value} {acc : Array Value} (h : ItemsOf (fun i v => aq.toArray[aq.toArray.size - 1 - i]? = some v) acc aq.toArray.size) : acc.toList = aq.reverse := by
 obtain ⟨h0, h1⟩ := h
 rw [List.size_toArray] at h0
 refine List.ext_getElem (by simp [h0]) fun i hi hj => ?_
 have ha : i < acc.size := by simpa using hi
 have cz : i < aq.length := by simpa using hj
 have := h1 i acc[i] (Array.getElem?_eq_getElem ha)
 rw [List.size_toArray] at this
 rw [List.getElem_reverse]
 have hk : aq.length - 1 - i < aq.length := by omega
 have e : aq.toArray[aq.length - 1 - i]? = some aq[aq.length - 1 - i] := by simp [hk]
 rw [e] at this
 simpa using (Option.some.inj this).symm
theorem me (he : PE X e te) (hc : X.calm = true) (hg : Gl X "list") (hm : X.mg "list" = none) (B1 : Gl X "reversed") (By : X.mg "reversed" = none)
 (h1 : starEach [e] X.env = (false, eval e X.env) :: starEach [] X.env := by rfl)
 (h2 : starEach [.Call (.Name "reversed" p2) [e] [] gO] X.env = (false, eval (.Call (.Name "reversed" p2) [e] [] gO) X.env) :: starEach [] X.env := by rfl) :
 PE X (.Call (.Name "list" p) [.Call (.Name "reversed" p2) [e] [] gO] [] pos) (qB X.K te) := by
 intro pins s σ H Q I h
 refine wpAny_Call_Name_kw (cA I hg hm (by rfl) ?_ (by decide) (by decide))
 refine PyProof.Rows.callWith_type1 ?_ h2 rfl
 rw [h2]
 show wpAny _ _ (spliced ((false, eval (.Call (.Name "reversed" p2) [e] [] gO) X.env) :: backTo pos (starEach [] X.env))) _ _ s
 refine Calls.spliced_cons (wpAny_Call_Name_kw (cA I B1 By (by rfl) ?_ (by decide) (by decide)))
 refine PyProof.Rows.callWith_type1 ?_ h1 rfl
 rw [h1]
 show wpAny _ _ (spliced ((false, eval e X.env) :: backTo gO (starEach [] X.env))) _ _ s
 refine Calls.spliced_cons (bh (he pins s σ H _ I h) fun u s1 ⟨x, H1, I1, r1, q1⟩ => ?_)
 refine Calls.spliced_nil ?_
 obtain ⟨a, xs, rfl, hx, q⟩ := q1
 cases r1
 obtain ⟨aq, r, ht, hz⟩ := I1.list hx
 have hlen := r.length
 have la : a < s1.heap.objs.size := by obtain ⟨o, n, e1, _⟩ := ht; exact Heap.lt_size e1
 refine call_reversed_list ht.isList ?_
 refine Calls.spliced_nil ?_
 have hit : (s1.heap.push (revObj a ((aq.toArray.size : Int) - 1))).IsRevIter s1.heap.objs.size a ((aq.toArray.size : Int) - 1) := ⟨_, Heap.get?_push_size _ rfl, rfl, rfl⟩
 refine iB (I1.ok.hd hc) (Nat.ne_of_lt la) (by rw [List.size_toArray]; omega) hit (ht.isList.at fun o e => Heap.get?_push_of_some _ e) fun s' acc c eg ed eo hk hs cU => ?_
 obtain ⟨h', g', d', Cd, Al⟩ := s'
 have eg : g' = s1.gens := eg
 have ed : d' = s1.drawn := ed
 have eo : Al = s1.os := eo
 subst eg; subst ed; subst eo
 have sz : (s1.heap.push (revObj a ((aq.toArray.size : Int) - 1))).objs.size = s1.heap.objs.size + 1 := Heap.size_push ..
 rw [sz] at hs
 have hq : H1 (s1.heap.objs.size + 1) = none := I1.aB.fresh (Nat.le_succ _)
 rw [sz]
 refine ⟨.ref (s1.heap.objs.size + 1), upd H1 (s1.heap.objs.size + 1) (.lst xs.reverse), I1.laid (t' := Cd) (fun b ob e => hk b ob (Nat.ne_of_lt (Heap.lt_size e)) (Heap.get?_push_of_some _ e)) (Nat.le_succ _) ?_, rfl, q _ hq⟩
 refine ⟨by rw [List.length_reverse]; exact hz, aq.reverse, c, r.reverse, ?_⟩
 rw [<- oq cU]
 simpa using hs
end
section
variable {K : PySem.W.Frag} {σ : St} {H : Hp} {Q : VK} {p : Addr} {ds : List PyData} {v : V}
theorem rF {te : TE} (h : te σ H fun x H1 => lu K x H1 Q) : qB K te σ H Q := h
theorem t5 (hp : Dv H v (.list ds)) (i : aJ ds = true) (k : ∀ q H', ah H H' -> H q = none -> bJ H' q ds.reverse -> Q (.ref q) H') : lu K v H Q := by
 obtain ⟨p, xs, rfl, e, dv⟩ := hp.lst_inv
 refine ⟨p, xs, rfl, e K, fun q hq => ?_⟩
 exact k q _ (aY hq) hq (gs hq dv.rev (lh i))
theorem xl {ns : List Int} (hp : Dv H v (.list (ns.map PyData.int))) (h : Q (.int ns.sum) H) : vy [v] H Q := ⟨v, ns, rfl, hp, h⟩
theorem lW {x : V} {i j l m : Nat} {d1 d2 d3 d4 : PyData} {R : St -> Hp -> Prop} (hd : Dv H x (.tuple [d1, d2, d3, d4])) (h : ∀ v1 v2 v3 v4, Dv H v1 d1 -> Dv H v2 d2 -> Dv H v3 d3 -> Dv H v4 d4 -> R ((((σ.set i (some v1)).set j (some v2)).set l (some v3)).set m (some v4)) H) :
 rR K 4 (fY (dc i) (fY (dc j) (fY (dc l) (fY (dc m) sN)))) x σ H R := by
 cases hd with
 | tup ha r =>
   cases r with
   | cons h1 r =>
     cases r with
     | cons h2 r =>
       cases r with
       | cons h3 r =>
         cases r with
         | cons h4 r =>
           cases r
           exact ⟨_, _, rfl, .of ha, rfl, _, _, rfl, _, _, rfl, _, _, rfl, _, _, rfl, rfl, h _ _ _ _ h1 h2 h3 h4⟩
end
section
variable {P : Program} {w : World} {H : Hp} {h : Heap} {d : Addr} {o : Obj} {ao : List (Key × V)}
end
section
variable {X : Cx} {pins : List (Addr × Obj)} {σ : St} {H : Hp} {s : Shared} {d : Addr} {o : Obj} {ao : List (Key × V)}
end
def HV (H : Hp) (p : Addr) (m : List (Str × PyData)) : Prop := ∃ ao, Rd H p (.dK ao) /\ dS H ao m
theorem c6.rd {H : Hp} {p : Addr} {m : List (Str × PyData)} (h : c6 H p m) : HV H p m := let ⟨ao, e, d⟩ := h; ⟨ao, .inl e, d⟩
section
variable {σ : St} {H : Hp} {Q : VK} {K : PySem.W.Frag} {p : Addr} {m : List (Str × PyData)} {k : Str}
end
section
variable {X : Cx}
end
section
variable {σ : St} {H : Hp} {Q : VK} {K : PySem.W.Frag} {p : Addr} {m : List (Str × PyData)} {k : Str}
end
section
variable {σ : St} {H : Hp} {Q : VK} {K : PySem.W.Frag} {p : Addr}
end
section
variable {X : Cx}
end
theorem lU {h : Heap} {o u : Obj} {b : Addr} (e : (h.push o).get? b = some u) (n : b ≠ h.objs.size) : h.get? b = some u := by
 obtain ⟨e1, e2⟩ := Heap.get?_some_iff.mp e
 refine Heap.get?_some_iff.mpr ⟨?_, e2⟩
 cases h
 simpa [Heap.push, Array.getElem?_push, n] using e1
section
variable {prog : Program} {w : World} {K : Type} [DecidableEq K] {knd : KeyKind prog w K} {A : Around} {E : Value -> Shared -> Prop} {s : Shared} {d : Addr} {ao : List (K × Value)} {ep : Nat}
end
section
variable {X : Cx}
end
section
variable {σ : St} {H : Hp} {Q : VK} {p : Addr} {m : List (Str × PyData)}
end
section
variable {σ : St} {H : Hp} {D : Ends} {p : Addr} {m : List (Str × PyData)} {g : TG} {tb : TS}
end
section
variable {σ : St} {H : Hp} {K : PySem.W.Frag}
theorem w6 {x : V} {i j : Nat} {d1 d2 : PyData} {R : St -> Hp -> Prop} (hd : Dv H x (.tuple [d1, d2])) (h : ∀ v1 v2, Dv H v1 d1 -> Dv H v2 d2 -> R ((σ.set i (some v1)).set j (some v2)) H) :
 rR K 2 (fY (dc i) (fY (dc j) sN)) x σ H R := by
 cases hd with
 | tup ha r =>
   cases r with
   | cons h1 r =>
     cases r with
     | cons h2 r =>
       cases r
       exact ⟨_, _, rfl, .of ha, rfl, _, _, rfl, _, _, rfl, rfl, h _ _ h1 h2⟩
end
end L2
namespace L2
open PySem
def vN (xs : Array Nat) : Prop := ∀ i j, (hi : i < xs.size) -> (hj : j < xs.size) -> i < j -> xs[i] < xs[j]
theorem rm {xs : Array Nat} {j : Nat} (up : vN xs) : ∀ (f lo hi : Nat), hi - lo <= f -> lo <= hi -> hi <= xs.size -> (∀ i, (h : i < xs.size) -> i < lo -> xs[i] < j) -> (∀ i, (h : i < xs.size) -> hi <= i -> j <= xs[i]) ->
 SetTable.below.go xs j f lo hi <= xs.size /\ (∀ i, (h : i < xs.size) -> i < SetTable.below.go xs j f lo hi -> xs[i] < j) /\ ∀ i, (h : i < xs.size) -> SetTable.below.go xs j f lo hi <= i -> j <= xs[i] := by
 intro f
 induction f with
 | zero =>
   intro lo hi hf h1 h2 a b
   have e : hi = lo := by omega
   subst e
   exact ⟨h2, a, b⟩
 | succ f ih =>
   intro lo hi hf h1 h2 a b
   unfold SetTable.below.go
   by_cases cz : lo < hi
   . rw [if_pos cz]
     have hm : (lo + hi) / 2 < xs.size := by omega
     have hg : xs.getD ((lo + hi) / 2) j = xs[(lo + hi) / 2] := by simp [Array.getD, hm]
     dsimp only
     rw [hg]
     by_cases hx : xs[(lo + hi) / 2] < j
     . rw [if_pos hx]
       refine ih _ _ (by omega) (by omega) h2 (fun i h vq => ?_) b
       by_cases e : i = (lo + hi) / 2
       . subst e; exact hx
       . exact Nat.lt_trans (up i _ h hm (by omega)) hx
     . rw [if_neg hx]
       refine ih _ _ (by omega) (by omega) (by omega) a (fun i h vq => ?_)
       by_cases e : i = (lo + hi) / 2
       . subst e; omega
       . have := up _ i hm h (by omega); omega
   . rw [if_neg cz]
     have e : hi = lo := by omega
     subst e
     exact ⟨h2, a, b⟩
theorem below_at {xs : Array Nat} {j : Nat} (up : vN xs) : SetTable.below xs j <= xs.size /\ (∀ i, (h : i < xs.size) -> i < SetTable.below xs j -> xs[i] < j) /\ ∀ i, (h : i < xs.size) -> SetTable.below xs j <= i -> j <= xs[i] :=
 rm up _ _ _ (by omega) (Nat.zero_le _) (Nat.le_refl _) (fun i _ h => absurd h (Nat.not_lt_zero _)) (fun i h h' => absurd h (by omega))
theorem lT {xs : Array Nat} : vN xs ↔ xs.toList.Pairwise (· < ·) := by
 rw [List.pairwise_iff_getElem]
 constructor
 . intro h i j hi hj fU
   simpa using h i j (by simpa using hi) (by simpa using hj) fU
 . intro h i j hi hj fU
   have := h i j (by simpa using hi) (by simpa using hj) fU
   rw [Array.getElem_toList, Array.getElem_toList] at this
   exact this
theorem lQ {xs : Array Nat} {j : Nat} (up : vN xs) (hn : xs[SetTable.below xs j]? ≠ some j) : vN (SetTable.insertAt xs (SetTable.below xs j) j) := by
 obtain ⟨h0, h1, h2⟩ := below_at (j := j) up
 rw [lT, SetTable.toList_insertAt]
 have pw := lT.mp up
 have hd : ∀ x ∈ xs.toList.drop (SetTable.below xs j), j < x := by
  intro x hx
  obtain ⟨k, hk, e⟩ := List.getElem_of_mem hx
  rw [List.getElem_drop] at e
  have BG : SetTable.below xs j + k < xs.size := by rw [List.length_drop] at hk; simp at hk; omega
  have e2 : xs[SetTable.below xs j + k] = x := by rw [<- e]; simp
  have := h2 _ BG (by omega)
  rcases Nat.lt_or_ge j x with q | q
  . exact q
  . have hj : xs[SetTable.below xs j + k] = j := by omega
    rcases Nat.eq_zero_or_pos k with k0 | k0
    . subst k0
      exact absurd (by rw [Array.getElem?_eq_getElem (by omega)]; simpa using hj) hn
    . have a := up (SetTable.below xs j) _ (by omega) BG (by omega)
      have b := h2 (SetTable.below xs j) (by omega) (Nat.le_refl _)
      omega
 rw [List.pairwise_append, List.pairwise_cons]
 refine ⟨pw.sublist (List.take_sublist _ _), ⟨hd, pw.sublist (List.drop_sublist _ _)⟩, fun x hx y hy => ?_⟩
 have EE : x < j := by
  obtain ⟨k, hk, e⟩ := List.getElem_of_mem hx
  rw [List.getElem_take] at e
  rw [List.length_take] at hk
  have BG : k < xs.size := by simp at hk; omega
  have := h1 k BG (by omega)
  rw [<- e]; simpa using this
 rcases List.mem_cons.mp hy with rfl | hy
 . exact EE
 . exact Nat.lt_trans EE (hd y hy)
structure Good (t : SetTable) : Prop where
 up : vN t.place
 nd : t.dummies = #[]
theorem oJ (n : Nat) : vN (Array.range n) := fun i j hi hj h => by simpa using h
theorem cj {t : SetTable} {n : Nat} : Good (t.standIn n) := ⟨oJ n, rfl⟩
theorem lB {t : SetTable} {b : Bool} (g : Good t) : Good { t with plain := b } := ⟨g.up, g.nd⟩
theorem mI {j : Nat} : SetTable.has #[] j = false := by simp [SetTable.has]
theorem mB {t : SetTable} {j : Nat} (g : Good t) (h : t.slot j = .empty) : t.place[SetTable.below t.place j]? ≠ some j := by
 intro e
 unfold SetTable.slot at h
 simp [e] at h
theorem rA {t : SetTable} {f : Nat -> Int} {h : Int} (g : Good t) : ∀ (k : Nat) (p : SetTable.Probe) (j : Nat) (d : Option Nat), p.dummy = none -> SetTable.probe.go t f h k p = some (.empty j d) -> t.slot j = .empty /\ d = none := by
 intro k
 induction k with
 | zero => intro p j d _ e; simp [SetTable.probe.go] at e
 | succ k ih =>
   intro p j d hp e
   unfold SetTable.probe.go at e
   have HN : ∀ q : SetTable.Probe, q.dummy = none -> (t.advance q).dummy = none := by
    intro q hq
    unfold SetTable.advance
    split <;> exact hq
   split at e
   . rename_i hs
     cases e
     exact ⟨hs, hp⟩
   . rename_i hs
     unfold SetTable.slot at hs
     dsimp only at hs
     split at hs
     . cases hs
     . rw [g.nd, mI] at hs
       cases hs
   . split at e
     . cases e
     . exact ih _ j d (HN p hp) e
theorem j8 {t : SetTable} {es : Array (Int × Value)} {h : Int} {x : Value} (g : Good t) : Good (layNew t es h x).2.1 /\ (layNew t es h x).2.1.led = t.led := by
 unfold layNew
 split
 . rename_i slot Hj e
   have hs : t.slot slot = .empty := by
    unfold SetTable.freeSlot at e
    split at e
    . rename_i j d hp
      obtain ⟨h1, rfl⟩ := rA g _ _ _ _ rfl hp
      cases e
      exact h1
    . cases e
   have hn := mB g hs
   have gp : Good (t.put slot).1 := ⟨lQ g.up hn, by unfold SetTable.put; dsimp only; rw [g.nd, mI]; rfl⟩
   dsimp only
   unfold SetTable.orStandIn
   split
   . exact ⟨gp, rfl⟩
   . exact ⟨cj, rfl⟩
 . exact ⟨cj, rfl⟩
theorem gL {α : Type} (g : Nat -> Option α) : ∀ l : List Nat, ((l.filterMap fun j => (g j).map (j, ·)).map (·.1)) = l.filter fun j => (g j).isSome
 | [] => rfl
 | j :: r => by
   rw [List.filterMap_cons, List.filter_cons]
   cases hg : g j with
   | none => simpa using gL g r
   | some a => simpa using gL g r
theorem pq {mask finger moves : Nat} {led plain : Bool} {hs : Array Int} {t : SetTable} {o : Array Nat} (e : SetTable.laid mask finger moves led plain hs = some (t, o)) : Good t /\ t.led = led := by
 unfold SetTable.laid at e
 cases hl : SetTable.layClean mask hs with
 | none => rw [hl] at e; cases e
 | some owner =>
   rw [hl] at e
   have e' := Option.some.inj e
   cases e'
   refine ⟨⟨?_, rfl⟩, rfl⟩
   rw [lT]
   show List.Pairwise _ (List.map _ _)
   rw [gL]
   exact List.pairwise_lt_range.filter _
theorem lP {t : SetTable} {es : Array (Int × Value)} {n : Nat} : Good (relayAll t es n).2.1 /\ (relayAll t es n).2.1.led = t.led := by
 unfold relayAll
 split
 . rename_i t' order e
   have := pq e
   dsimp only
   split
   . exact this
   . exact ⟨cj, rfl⟩
 . exact ⟨cj, rfl⟩
section
variable {prog : Program} {w : World} {A : Around} {E : Value -> Shared -> Prop} {s : Shared}
def dh (prog : Program) (w : World) (h : Heap) (a : Addr) (S : Int -> Bool) (n : Nat) : Prop :=
 ∃ o es ep t, h.get? a = some o /\ o.ExactSet /\ o.data = .set es ep t /\ ElemsOf (intKind prog w) es.toList /\ (∀ k, S k = true ↔ ∃ e ∈ es.toList, (intKind prog w).is k e.2 = true) /\ es.size < scanBound /\ t.fits es.size = true /\ es.size = n /\ Good t /\ t.led = !w.params.followText "set-order"
theorem dh.at {h h' : Heap} {a : Addr} {S : Int -> Bool} {n : Nat} (x : dh prog w h a S n) (k : ∀ o, h.get? a = some o -> h'.get? a = some o) : dh prog w h' a S n := by
 obtain ⟨o, es, ep, t, ho, r⟩ := x
 exact ⟨o, es, ep, t, k o ho, r⟩
theorem mQ {h : Heap} {a : Addr} {o : Obj} {es de : Array (Int × Value)} {ep : Nat} {t t1 : SetTable} {S : Int -> Bool} (ho : h.get? a = some o) (hx : o.ExactSet) (hd : o.data = .set es ep t)
 (h1 : ElemsOf (intKind prog w) de.toList) (h2 : ∀ k, S k = true ↔ ∃ e ∈ de.toList, (intKind prog w).is k e.2 = true) (h3 : de.size < scanBound) (h4 : t1.fits de.size = true) (h5 : Good t1) (h6 : t1.led = !w.params.followText "set-order") :
 (h.update a (Obj.putSet de t1)).get? a = some { o with data := .set de (ep + 1) t1 } /\ dh prog w (h.update a (Obj.putSet de t1)) a S de.size := by
 obtain ⟨e, _⟩ := SetOf_store (knd := intKind prog w) ho hx hd h1 h2 h3 h4
 exact ⟨e, _, de, ep + 1, t1, e, hx, rfl, h1, h2, h3, h4, rfl, h5, h6⟩
theorem rE {g : Bool -> Sem Unit} (hg : ∀ (b : Bool) (s1 : Shared) (R : Unit -> Shared -> Prop), R () s1 -> wpAny (model prog w) A (g b) R E s1) {a : Addr} {o : Obj} {es de : Array (Int × Value)} {ep : Nat} {t t1 : SetTable} {S : Int -> Bool} {wd : Bool} {R : Option Bool -> Shared -> Prop}
 (ho : s.heap.get? a = some o) (hx : o.ExactSet) (hd : o.data = .set es ep t) (h1 : ElemsOf (intKind prog w) de.toList) (h2 : ∀ k, S k = true ↔ ∃ e ∈ de.toList, (intKind prog w).is k e.2 = true) (h3 : de.size < scanBound) (h4 : t1.fits de.size = true) (h5 : Good t1) (h6 : t1.led = !w.params.followText "set-order")
 (k : ∀ h', Heap.SameBut a s.heap h' -> dh prog w h' a S de.size -> R (some true) { s with heap := h' }) :
 wpAny (model prog w) A (do
  storeSet a de t1
  if (!wd && t1.tooFull) = true then do
      g (relayAll t1 de (SetTable.grown de.size)).2.2
      storeSet a (relayAll t1 de (SetTable.grown de.size)).1 (relayAll t1 de (SetTable.grown de.size)).2.1
      pure (some true)
   else pure (some true)) R E s := by
 obtain ⟨e1, g1⟩ := mQ (prog := prog) (w := w) ho hx hd h1 h2 h3 h4 h5 h6
 refine wpAny_bind (wpAny_storeSet_of ho hd ?_ (fits_of_scanBound h3))
 have sb := Heap.SameBut.update s.heap a (Obj.putSet de t1)
 by_cases c : (!wd && t1.tooFull) = true
 . rw [if_pos c]
   have p1 := relayAll_perm t1 de (SetTable.grown de.size)
   have p2 := relayAll_fits t1 de (SetTable.grown de.size)
   obtain ⟨p3, p4⟩ := lP (t := t1) (es := de) (n := SetTable.grown de.size)
   have sz : (relayAll t1 de (SetTable.grown de.size)).1.size = de.size := by rw [<- Array.length_toList, p1.length_eq, Array.length_toList]
   have q2 : ∀ k, S k = true ↔ ∃ e ∈ (relayAll t1 de (SetTable.grown de.size)).1.toList, (intKind prog w).is k e.2 = true := fun k => by
    rw [h2 k]
    exact ⟨fun ⟨e, m, i⟩ => ⟨e, p1.mem_iff.mpr m, i⟩, fun ⟨e, m, i⟩ => ⟨e, p1.mem_iff.mp m, i⟩⟩
   have EW : (relayAll t1 de (SetTable.grown de.size)).1.size < scanBound := by rw [sz]; exact h3
   obtain ⟨_, g2⟩ := mQ (prog := prog) (w := w) e1 hx rfl (h1.perm p1) q2 EW p2 p3 (p4.trans h6)
   refine wpAny_bind (hg _ _ _ (wpAny_bind (wpAny_storeSet_of e1 rfl ?_ (fits_of_scanBound EW))))
   rw [sz] at g2
   exact wpAny_pure (k _ (sb.trans (Heap.SameBut.update _ a _)) g2)
 . rw [if_neg c]
   exact wpAny_pure (k _ sb g1)
theorem Ax {a : Addr} {S : Int -> Bool} {n : Nat} {k : Int} {x : Value} {Q : Bool -> Shared -> Prop} (hk : (intKind prog w).is k x = true) (hc : x.scannable = true) (hS : dh prog w s.heap a S n) (hr : n + 1 < scanBound)
 (h : ∀ h', Heap.SameBut a s.heap h' -> dh prog w h' a (fun i => S i || decide (i = k)) (if S k then n else n + 1) -> Q (!S k) { s with heap := h' }) : wpAny (model prog w) A (setAddHashed a x ((intKind prog w).hash k)) Q E s := by
 obtain ⟨o, es, ep, t, ho, hx, hd, h1, h2, h3, h4, h5, h6, h7⟩ := hS
 unfold setAddHashed setAddHashedIn
 refine wpAny_holding (wpAny_bind (wpAny_setState_of ho hd h4 ?_))
 dsimp only
 rw [byScan_of hc h3 h1]
 simp only [if_true]
 unfold setAddByScan
 refine wpAny_bind (wpAny_bind (wpAny_rule (wpAny_bind (wpAny_setScan_of hk ho hd h4 h1 ?_))))
 cases hf : List.findIdx? (fun e => (intKind prog w).is k e.2) es.toList with
 | some j =>
   obtain ⟨hj, hp, _⟩ := List.findIdx?_eq_some_iff_getElem.mp hf
   have e : S k = true := (h2 k).mpr ⟨_, List.getElem_mem hj, hp⟩
   rw [e] at h
   dsimp only
   refine wpAny_pure (wpAny_pure ?_)
   have z := h s.heap (Heap.SameBut.refl a s.heap) ⟨o, es, ep, t, ho, hx, hd, h1, fun i => by
    rw [Bool.or_eq_true, decide_eq_true_eq, <- h2 i]
    exact ⟨fun q => q.elim id fun z => z ▸ e, .inl⟩, h3, h4, by simpa using h5, h6, h7⟩
   cases s
   exact z
 | none =>
   have e : S k = false := by
    cases hb : S k with
    | false => rfl
    | true =>
      obtain ⟨y, m, i⟩ := (h2 k).mp hb
      rw [List.findIdx?_eq_none_iff.mp hf y m] at i
      cases i
   rw [e] at h
   dsimp only
   have p1 := layNew_perm t es ((intKind prog w).hash k) x
   have p2 := layNew_fits t es ((intKind prog w).hash k) x
   obtain ⟨p3, p4⟩ := j8 (es := es) (h := (intKind prog w).hash k) (x := x) h6
   generalize layNew t es ((intKind prog w).hash k) x = L at p1 p2 p3 p4 ⊢
   obtain ⟨de, t1, wd, gv⟩ := L
   dsimp only at p1 p2 p3 p4 ⊢
   rw [Array.toList_push] at p1
   have sz : de.size = n + 1 := by rw [<- Array.length_toList, p1.length_eq, List.length_append, Array.length_toList, h5]; rfl
   have q1 : ElemsOf (intKind prog w) de.toList := (h1.push hk hc).perm p1
   have q2 := mem_push_iff hk h2 p1
   have q3 : de.size < scanBound := by rw [sz]; exact hr
   have fin : ∀ h', Heap.SameBut a s.heap h' -> dh prog w h' a (fun i => S i || decide (i = k)) de.size -> Q true { s with heap := h' } := fun h' sb g => by
    rw [sz] at g
    exact h h' sb g
   refine wpAny_bind (m := match gv with | true => rule "set.scan.the-table-gave-way" | false => pure ()) ?_
   have gw : ∀ (b : Bool) (s1 : Shared) (R : Unit -> Shared -> Prop), R () s1 -> wpAny (model prog w) A (match b with | true => rule "set.scan.the-table-gave-way" | false => pure ()) R E s1 := fun b s1 R hq => by
    cases b
    . exact wpAny_pure hq
    . exact wpAny_rule hq
   refine gw gv _ _ ?_
   by_cases c : t1.plain = true
   . rw [if_pos c, hashByValue_scannable 8 hc]
     refine wpAny_bind (wpAny_pure ?_)
     refine rE gw ho hx hd q1 q2 q3 ?_ ?_ ?_ fun h' sb g => wpAny_pure (fin h' sb g)
     . split
       . exact p2
       . exact SetTable.fits_plain_off p2
     . split
       . exact p3
       . exact lB p3
     . split
       . exact p4.trans h7
       . exact p4.trans h7
   . rw [if_neg c]
     refine wpAny_bind (wpAny_pure ?_)
     simp only [if_true]
     exact rE gw ho hx hd q1 q2 q3 p2 p3 (p4.trans h7) fun h' sb g => wpAny_pure (fin h' sb g)
end
theorem eT {α : Type} : ∀ {xs : List α} {i : Nat} (h : i < xs.length), (xs[i] :: xs.eraseIdx i).Perm xs
 | a :: r, 0, _ => .refl _
 | a :: r, i + 1, h => by
   have h2 : i < r.length := by simpa using h
   show (r[i] :: a :: r.eraseIdx i).Perm (a :: r)
   exact (List.Perm.swap a _ _).trans (List.Perm.cons a (eT h2))
theorem sH {α : Type} (f : Nat -> Nat) : ∀ (n k : Nat) (left : List α) (out : Array α), left.length <= n -> (pickOrder.go f n k left out).toList.Perm (out.toList ++ left) := by
 intro n
 induction n with
 | zero =>
   intro k left out h
   have : left = [] := List.length_eq_zero_iff.mp (by omega)
   subst this
   simp [pickOrder.go]
 | succ n ih =>
   intro k left out h
   unfold pickOrder.go
   cases left with
   | nil => simp
   | cons a r =>
     have cz : f k % (a :: r).length < (a :: r).length := Nat.mod_lt _ (by simp)
     rw [List.getElem?_eq_getElem cz]
     dsimp only
     refine (ih _ _ _ ?_).trans ?_
     . rw [List.length_eraseIdx, if_pos cz]; simp at h ⊢; omega
     . rw [Array.toList_push, List.append_assoc]
       exact List.Perm.append_left _ (eT cz)
theorem fK {α : Type} (f : Nat -> Nat) (xs : Array α) : (pickOrder f xs).toList.Perm xs.toList := by
 unfold pickOrder
 simpa using sH f xs.size 0 xs.toList #[] (by simp)
section
variable {prog : Program} {w : World} {A : Around} {E : Value -> Shared -> Prop} {s : Shared}
theorem tL {src : Source} {n : Nat} {Q : Nat -> Shared -> Prop} (hn : n ≠ 0) (h : ∀ i d, i < n -> Q i { s with drawn := d }) : wpAny (model prog w) A (choose src n) Q E s := fun Γ p _ => by
 show Sem.wp _ _ (.choose src n .pure) _ _ _ _
 rw [Sem.wp_choose]
 exact ⟨hn, h _ _ (Nat.mod_lt _ (Nat.pos_of_ne_zero hn))⟩
theorem rQ {α : Type} : ∀ (n : Nat) (xs : List α) {s : Shared} {Q : List α -> Shared -> Prop}, xs.length <= n -> (∀ ys d, ys.Perm xs -> Q ys { s with drawn := d }) -> wpAny (model prog w) A (drawOrder n xs) Q E s := by
 intro n
 induction n with
 | zero =>
   intro xs s Q h k
   have : xs = [] := List.length_eq_zero_iff.mp (by omega)
   subst this
   exact wpAny_pure (k [] s.drawn .nil)
 | succ n ih =>
   intro xs s Q h k
   cases xs with
   | nil => exact wpAny_pure (k [] s.drawn .nil)
   | cons a r =>
     unfold drawOrder
     refine wpAny_bind (tL (by simp) fun i d hi => ?_)
     rw [List.getElem?_eq_getElem hi]
     dsimp only
     refine wpAny_bind (ih _ ?_ fun ys d2 hp => wpAny_pure (k _ _ ?_))
     . rw [List.length_eraseIdx, if_pos hi]; simp at h ⊢; omega
     . exact (List.Perm.cons _ hp).trans (eT hi)
end
set_option maxRecDepth 100000
theorem jV : Manifest.owners.lookup (String.ofList ['r', 'o', 't', 'a', 'r', 'e', 't', 'i', '_', 't', 'e', 's'].reverse) = some Manifest.sig_set_iterator := by kernel_rfl
theorem aF : Slot "set_iterator" "__next__" "set_iterator.__next__" :=
 .of (owner := "set_iterator") (n := "__next__") (by rw [typeLookup_type, builtinLookup_eq_fast]; kernel_rfl) (by decide +kernel) (by decide +kernel) (by decide +kernel) (by first | exact .inl (by decide +kernel) | exact .inr (by decide +kernel)) (by rw [isSubtype_type]; kernel_rfl)
theorem eW : Slot "set_iterator" "__iter__" "set_iterator.__iter__" :=
 .of (owner := "set_iterator") (n := "__iter__") (by rw [typeLookup_type, builtinLookup_eq_fast]; kernel_rfl) (by decide +kernel) (by decide +kernel) (by decide +kernel) (by first | exact .inl (by decide +kernel) | exact .inr (by decide +kernel)) (by rw [isSubtype_type]; kernel_rfl)
theorem bS : entryFor table "set_iterator.__next__" = some Builtin.«set_iterator.__next__» := entryFor_of_tree (by kernel_rfl)
theorem iz : entryFor table "set_iterator.__iter__" = some Builtin.«dict_keyiterator.__iter__» :=
 entryFor_alias (id' := "dict_keyiterator.__iter__") (by kernel_rfl) rfl (by decide +kernel) (by kernel_rfl)
theorem cf (a : Value) : argsOk "set_iterator.__next__" ⟨[a], []⟩ := by
 unfold argsOk; rw [signature?_of (id := "set_iterator.__next__") (n := ['_', '_', 't', 'x', 'e', 'n', '_', '_']) (o := ['r', 'o', 't', 'a', 'r', 'e', 't', 'i', '_', 't', 'e', 's']) (by kernel_rfl) jV]; kernel_rfl
theorem jI (a : Value) : argsOk "set_iterator.__iter__" ⟨[a], []⟩ := by
 unfold argsOk; rw [signature?_of (id := "set_iterator.__iter__") (n := ['_', '_', 'r', 'e', 't', 'i', '_', '_']) (o := ['r', 'o', 't', 'a', 'r', 'e', 't', 'i', '_', 't', 'e', 's']) (by kernel_rfl) jV]; kernel_rfl
theorem gG : entryFor table "set.__iter__" = some Builtin.«frozenset.__iter__» :=
 entryFor_alias (id' := "frozenset.__iter__") (by kernel_rfl) rfl (by decide +kernel) (by kernel_rfl)
def dP (f : Value) (i : Nat) (a : Addr) (n ep : Nat) : Obj := { cls := .type "set_iterator", data := .fields #[f, rawInt i, .ref a, rawInt n, rawInt ep] }
section
variable {prog : Program} {w : World} {A : Around} {E : Value -> Shared -> Prop} {s : Shared} {it a : Addr} {o : Obj} {es : Array (Int × Value)} {ep : Nat} {t : SetTable}
theorem jj {f : Value} {i n : Nat} {Q : Value -> Shared -> Prop} (h : s.heap.get? it = some (dP f i a n ep)) (q : Q (.ref it) s) : wpAny (model prog w) A (pyIter (.ref it)) Q E s := by
 have hT : s.TypeIs (.ref it) "set_iterator" := ⟨_, h, rfl⟩
 refine wpAny_pyIter_slot hT eW (wpAny_call_entry eW hT iz ?_ (jI _))
 show wpAny _ _ (ret (.ref it)) _ _ s
 exact wpAny_pure ⟨_, rfl, "set_iterator", _, hT, aF.lookup, q⟩
end
section
variable {prog : Program} {w : World} {A : Around} {E : Value -> Shared -> Prop} {s : Shared} {it a : Addr} {o : Obj} {es : Array (Int × Value)} {ep : Nat} {t : SetTable}
theorem gW : isSubtype (.type "StopIteration") (.type "StopIteration") = pure true := by rw [isSubtype_type]; kernel_rfl
theorem mR {z z2 i : Nat} {x : Value} {Q : Option Value -> Shared -> Prop} (hit : s.heap.get? it = some (dP (rawInt z) i a es.size ep)) (ho : s.heap.get? a = some o) (hd : o.data = .set es ep t) (hf : t.fits es.size = true)
 (hn : ∀ (R : Option (Value × Nat) -> Shared -> Prop) (E : Value -> Shared -> Prop), R (some (x, z2)) s -> wpAny (model prog w) A.in1 (setNext a z i ep) R E s)
 (h : ∀ h', h'.get? it = some (dP (rawInt z2) (i + 1) a es.size ep) -> Heap.SameBut it s.heap h' -> Q (some x) { s with heap := h' }) : wpAny (model prog w) A (pyNext (.ref it)) Q E s := by
 have hT : s.TypeIs (.ref it) "set_iterator" := ⟨_, hit, rfl⟩
 unfold pyNext
 refine wpAny_bind (wpAny_attempt (wpAny_callSpecial?_slot (name := Str.ofString "__next__") hT aF (wpAny_call_entry aF hT bS ?_ (cf _))))
 unfold Builtin.«set_iterator.__next__»
 refine wpAny_bind (wpAny_pure ?_)
 refine wpAny_bind (wpAny_fieldsOf hit rfl ?_)
 refine wpAny_bind (wpAny_setEntries_of ho hd hf ?_)
 rw [if_neg (by simp)]
 refine wpAny_bind (hn _ _ ?_)
 dsimp only
 refine wpAny_bind (wpAny_setField_rec hit (by simp) fun h1 e1 b1 => ?_)
 refine wpAny_bind (wpAny_setField_rec (s := { s with heap := h1 }) e1 (by simp) fun h2 e2 b2 => ?_)
 refine wpAny_pure ⟨_, rfl, wpAny_pure (h h2 ?_ (b1.trans b2))⟩
 rw [e2]
 unfold dP
 have e : ((i + 1 : Nat) : Int) = (i : Int) + 1 := by omega
 rw [e]
 rfl
theorem g8 {z i : Nat} {Q : Option Value -> Shared -> Prop} (hh : A.handled = none) (hit : s.heap.get? it = some (dP (rawInt z) i a es.size ep)) (ho : s.heap.get? a = some o) (hd : o.data = .set es ep t) (hf : t.fits es.size = true)
 (hn : ∀ (R : Option (Value × Nat) -> Shared -> Prop) (E : Value -> Shared -> Prop), R none s -> wpAny (model prog w) A.in1 (setNext a z i ep) R E s)
 (h : ∀ h', Heap.ExtBut it s.heap h' -> Q none { s with heap := h' }) : wpAny (model prog w) A (pyNext (.ref it)) Q E s := by
 have hT : s.TypeIs (.ref it) "set_iterator" := ⟨_, hit, rfl⟩
 unfold pyNext
 refine wpAny_bind (wpAny_attempt (wpAny_callSpecial?_slot (name := Str.ofString "__next__") hT aF (wpAny_call_entry aF hT bS ?_ (cf _))))
 unfold Builtin.«set_iterator.__next__»
 refine wpAny_bind (wpAny_pure ?_)
 refine wpAny_bind (wpAny_fieldsOf hit rfl ?_)
 refine wpAny_bind (wpAny_setEntries_of ho hd hf ?_)
 rw [if_neg (by simp)]
 refine wpAny_bind (hn _ _ ?_)
 dsimp only
 refine wpAny_bind (wpAny_setField_rec hit (by simp) fun h1 e1 b1 => ?_)
 refine wpAny_bind ?_
 simp only [newExc, newTuple]
 refine wpAny_bind (wpAny_newObj_type ?_ (by size_fits))
 refine wpAny_bind (m := firstArgMember _ _) (wpAny_of_eq (a := Value.none) (by first | rfl | (simp only [firstArgMember]; rfl)) ?_)
 refine wpAny_newObj_type ?_ (by size_fits)
 simp only [raiseNew]
 refine wpAny_bind (wpAny_handled ?_)
 rw [show A.in1.handled = none from hh]
 refine wpAny_bind (wpAny_pure (wpAny_throw ?_))
 refine wpAny_bind (wpAny_isInstance (T := "StopIteration") (b := true) ⟨_, Heap.get?_push_size _ rfl, rfl⟩ gW ?_)
 exact wpAny_pure (h _ ((b1.extBut.push _).push _))
theorem qx {p i j : Nat} {ps : List Nat} {x : Int × Value} {Q : Option Value -> Shared -> Prop} (hit : s.heap.get? it = some (dP (.ref p) i a es.size ep)) (hp : s.heap.get? p = some { cls := .type "tuple", data := .seq (ps.map fun (i : Nat) => rawInt i).toArray }) (ho : s.heap.get? a = some o) (hd : o.data = .set es ep t) (hf : t.fits es.size = true)
 (hi : ps[i]? = some j) (hj : es[j]? = some x) (h : ∀ h', h'.get? it = some (dP (.ref p) (i + 1) a es.size ep) -> Heap.SameBut it s.heap h' -> Q (some x.2) { s with heap := h' }) : wpAny (model prog w) A (pyNext (.ref it)) Q E s := by
 have hT : s.TypeIs (.ref it) "set_iterator" := ⟨_, hit, rfl⟩
 unfold pyNext
 refine wpAny_bind (wpAny_attempt (wpAny_callSpecial?_slot (name := Str.ofString "__next__") hT aF (wpAny_call_entry aF hT bS ?_ (cf _))))
 unfold Builtin.«set_iterator.__next__»
 refine wpAny_bind (wpAny_pure ?_)
 refine wpAny_bind (wpAny_fieldsOf hit rfl ?_)
 refine wpAny_bind (wpAny_setEntries_of ho hd hf ?_)
 rw [if_neg (by simp)]
 refine wpAny_bind (wpAny_bind (wpAny_load hp (wpAny_pure ?_)))
 dsimp only
 have e0 : (ps.map fun (i : Nat) => rawInt i).toArray[(i : Int).toNat]? = some (rawInt j) := by
  rw [Int.toNat_natCast, List.getElem?_toArray, List.getElem?_map, hi]; rfl
 rw [e0]
 refine wpAny_bind ?_
 unfold setNextDrawn
 refine wpAny_bind (wpAny_setState_of ho hd hf ?_)
 dsimp only
 rw [if_neg (by simp), Int.toNat_natCast, hj]
 refine wpAny_pure (wpAny_bind (wpAny_setField_rec hit (by simp) fun h1 e1 b1 => wpAny_pure ⟨_, rfl, wpAny_pure (h h1 ?_ b1)⟩))
 rw [e1]
 unfold dP
 have e : ((i + 1 : Nat) : Int) = (i : Int) + 1 := by omega
 rw [e]
 rfl
theorem ko {p i : Nat} {ps : List Nat} {Q : Option Value -> Shared -> Prop} (hh : A.handled = none) (hit : s.heap.get? it = some (dP (.ref p) i a es.size ep)) (hp : s.heap.get? p = some { cls := .type "tuple", data := .seq (ps.map fun (i : Nat) => rawInt i).toArray }) (ho : s.heap.get? a = some o) (hd : o.data = .set es ep t) (hf : t.fits es.size = true)
 (hi : ps[i]? = none) (h : ∀ h', Heap.ExtBut it s.heap h' -> Q none { s with heap := h' }) : wpAny (model prog w) A (pyNext (.ref it)) Q E s := by
 have hT : s.TypeIs (.ref it) "set_iterator" := ⟨_, hit, rfl⟩
 unfold pyNext
 refine wpAny_bind (wpAny_attempt (wpAny_callSpecial?_slot (name := Str.ofString "__next__") hT aF (wpAny_call_entry aF hT bS ?_ (cf _))))
 unfold Builtin.«set_iterator.__next__»
 refine wpAny_bind (wpAny_pure ?_)
 refine wpAny_bind (wpAny_fieldsOf hit rfl ?_)
 refine wpAny_bind (wpAny_setEntries_of ho hd hf ?_)
 rw [if_neg (by simp)]
 refine wpAny_bind (wpAny_bind (wpAny_load hp (wpAny_pure ?_)))
 dsimp only
 have e0 : (ps.map fun (i : Nat) => rawInt i).toArray[(i : Int).toNat]? = none := by
  rw [Int.toNat_natCast, List.getElem?_toArray, List.getElem?_map, hi]; rfl
 rw [e0]
 refine wpAny_bind (wpAny_setField_rec hit (by simp) fun h1 e1 b1 => ?_)
 refine wpAny_bind (wpAny_setField_rec (s := { s with heap := h1 }) e1 (by simp) fun h2 e2 b2 => ?_)
 refine wpAny_bind ?_
 simp only [newExc, newTuple]
 refine wpAny_bind (wpAny_newObj_type ?_ (by size_fits))
 refine wpAny_bind (m := firstArgMember _ _) (wpAny_of_eq (a := Value.none) (by first | rfl | (simp only [firstArgMember]; rfl)) ?_)
 refine wpAny_newObj_type ?_ (by size_fits)
 simp only [raiseNew]
 refine wpAny_bind (wpAny_handled ?_)
 rw [show A.in1.handled = none from hh]
 refine wpAny_bind (wpAny_pure (wpAny_throw ?_))
 refine wpAny_bind (wpAny_isInstance (T := "StopIteration") (b := true) ⟨_, Heap.get?_push_size _ rfl, rfl⟩ gW ?_)
 exact wpAny_pure (h _ (((b1.trans b2).extBut.push _).push _))
theorem nR {A : Around} {z i : Nat} (hb : w.params.followText "set-order" = true) (ho : s.heap.get? a = some o) (hd : o.data = .set es ep t) (hf : t.fits es.size = true) (R : Option (Value × Nat) -> Shared -> Prop) (E : Value -> Shared -> Prop)
 (h : R ((((pickOrder (w.params.setOrder a ep) es).toList.map (·.2))[i]?).map fun x => (x, z)) s) : wpAny (model prog w) A (setNext a z i ep) R E s := by
 unfold setNext
 refine wpAny_bind (wpAny_setState_of ho hd hf ?_)
 unfold setsByText
 refine wpAny_bind (wpAny_bind (wpAny_askSetting (wpAny_pure ?_)))
 dsimp only
 rw [show (model prog w).w.params.followText "set-order" = true from hb, if_pos rfl, if_neg (by simp)]
 refine wpAny_bind ?_
 unfold setWalk setsByText
 refine wpAny_bind (wpAny_setState_of ho hd hf ?_)
 refine wpAny_bind (wpAny_bind (wpAny_askSetting (wpAny_pure ?_)))
 dsimp only
 rw [show (model prog w).w.params.followText "set-order" = true from hb, if_pos rfl]
 refine wpAny_bind (wpAny_askSetting (wpAny_pure (wpAny_pure ?_)))
 dsimp only
 rw [List.getElem?_map, Array.getElem?_toList, Option.map_map] at h
 exact h
theorem jc {A : Around} {z i k : Nat} (hb : w.params.followText "set-order" = false) (ho : s.heap.get? a = some o) (hd : o.data = .set es ep t) (hf : t.fits es.size = true) (yU : (!t.plain && decide (es.size > 1)) = false) (hl : t.led = true) (R : Option (Value × Nat) -> Shared -> Prop) (E : Value -> Shared -> Prop)
 (h : R (match es[SetTable.below t.place z]?, t.place[SetTable.below t.place z]? with | some (_, x), some j => some (x, j + 1) | _, _ => none) s) : wpAny (model prog w) A (setNext a z k ep) R E s := by
 unfold setNext
 refine wpAny_bind (wpAny_setState_of ho hd hf ?_)
 unfold setsByText
 refine wpAny_bind (wpAny_bind (wpAny_askSetting (wpAny_pure ?_)))
 dsimp only
 rw [show (model prog w).w.params.followText "set-order" = false from hb, if_neg (by simp)]
 split
 . rename_i c
   have c2 : (!t.plain && decide (es.size > 1)) = true := c
   rw [yU] at c2
   cases c2
 . refine wpAny_bind ?_
   show wpAny _ _ (if (!t.led && !es.isEmpty) = true then unsupported "set:maker-not-led" else pure ()) _ _ _
   rw [hl, if_neg (by simp)]
   exact wpAny_pure (wpAny_pure h)
theorem lN {t : SetTable} {i : Nat} (g : Good t) (hi : i < t.place.size) : SetTable.below t.place (t.place[i] + 1) = i + 1 := by
 obtain ⟨h0, h1, h2⟩ := below_at (j := t.place[i] + 1) g.up
 by_cases a : SetTable.below t.place (t.place[i] + 1) <= i
 . have := h2 i hi a; omega
 . by_cases b : i + 1 < SetTable.below t.place (t.place[i] + 1)
   . have c : i + 1 < t.place.size := by omega
     have := h1 (i + 1) c b
     have := g.up i (i + 1) hi c (by omega)
     omega
   . omega
theorem kT {t : SetTable} (g : Good t) : SetTable.below t.place 0 = 0 := by
 obtain ⟨h0, h1, h2⟩ := below_at (j := 0) g.up
 by_cases a : 0 < SetTable.below t.place 0
 . have := h1 0 (by omega) a; omega
 . omega
theorem oY (hh : A.handled = none) (hb : w.params.followText "set-order" = true) (hd : o.data = .set es ep t) (hf : t.fits es.size = true) (jP : a ≠ it) (z : Nat) :
 Walks prog w A it [it, a] [it] es.size (fun i v => ((pickOrder (w.params.setOrder a ep) es).toList.map (·.2))[i]? = some v) (fun i h => h.get? it = some (dP (rawInt z) i a es.size ep) /\ h.get? a = some o) where
 sub := fun b hb => by simp at hb; simp [hb]
 frame := fun i h h' st k => ⟨k it (by simp) _ st.1, k a (by simp) _ st.2⟩
 item := fun i s Q E hi st hQ => by
  have hl : ((pickOrder (w.params.setOrder a ep) es).toList.map (·.2)).length = es.size := by rw [List.length_map, (fK _ _).length_eq]; simp
  obtain ⟨x, hx⟩ : ∃ x, ((pickOrder (w.params.setOrder a ep) es).toList.map (·.2))[i]? = some x := ⟨_, List.getElem?_eq_getElem (by rw [hl]; exact hi)⟩
  refine mR (z2 := z) st.1 st.2 hd hf (fun R E h => nR hb st.2 hd hf R E (by rw [hx]; exact h)) fun h' e sb => ?_
  exact hQ x h' s.toks hx ⟨e, (sb.2 a jP).trans st.2⟩ fun b o hb e => sb.extBut b o (by simpa using hb) e
 done := fun s Q E st hQ => by
  have hl : ((pickOrder (w.params.setOrder a ep) es).toList.map (·.2)).length = es.size := by rw [List.length_map, (fK _ _).length_eq]; simp
  refine g8 hh st.1 st.2 hd hf (fun R E h => nR hb st.2 hd hf R E (by rw [List.getElem?_eq_none (by rw [hl]; exact Nat.le_refl _)]; exact h)) fun h' eb => hQ h' s.toks fun b o hb e => eb b o (by simpa using hb) e
 self := fun i s Q E st q => jj st.1 q
theorem kq (hh : A.handled = none) (hb : w.params.followText "set-order" = false) (hd : o.data = .set es ep t) (hf : t.fits es.size = true) (hg : Good t) (yU : (!t.plain && decide (es.size > 1)) = false) (hl : t.led = true) (jP : a ≠ it) :
 Walks prog w A it [it, a] [it] es.size (fun i v => (es.toList.map (·.2))[i]? = some v) (fun i h => (∃ z : Nat, SetTable.below t.place z = i /\ h.get? it = some (dP (rawInt z) i a es.size ep)) /\ h.get? a = some o) where
 sub := fun b hb => by simp at hb; simp [hb]
 frame := fun i h h' st k => let ⟨⟨z, e1, e2⟩, e3⟩ := st; ⟨⟨z, e1, k it (by simp) _ e2⟩, k a (by simp) _ e3⟩
 item := fun i s Q E hi st hQ => by
  obtain ⟨⟨z, e1, e2⟩, e3⟩ := st
  have hp : t.place.size = es.size := by unfold SetTable.fits at hf; simp at hf; exact hf.1
  have tT : i < t.place.size := by rw [hp]; exact hi
  have hx : (es.toList.map (·.2))[i]? = some es[i].2 := by rw [List.getElem?_map, Array.getElem?_toList, Array.getElem?_eq_getElem hi]; rfl
  refine mR (z2 := t.place[i] + 1) (x := es[i].2) e2 e3 hd hf (fun R E h => jc (i := i) hb e3 hd hf yU hl R E (by rw [e1, Array.getElem?_eq_getElem hi, Array.getElem?_eq_getElem tT]; exact h)) fun h' e sb => ?_
  exact hQ _ h' s.toks hx ⟨⟨_, lN hg tT, e⟩, (sb.2 a jP).trans e3⟩ fun b o hb e => sb.extBut b o (by simpa using hb) e
 done := fun s Q E st hQ => by
  obtain ⟨⟨z, e1, e2⟩, e3⟩ := st
  refine g8 hh e2 e3 hd hf (fun R E h => jc (i := 0) hb e3 hd hf yU hl R E (by rw [e1, Array.getElem?_eq_none (Nat.le_refl _)]; exact h)) fun h' eb => hQ h' s.toks fun b o hb e => eb b o (by simpa using hb) e
 self := fun i s Q E st q => by
  obtain ⟨⟨z, e1, e2⟩, e3⟩ := st
  exact jj e2 q
theorem k9 {p : Addr} {ps : List Nat} (hh : A.handled = none) (hd : o.data = .set es ep t) (hf : t.fits es.size = true) (jP : a ≠ it) (Hk : p ≠ it) (sL : ps.Perm (List.range es.size)) :
 Walks prog w A it [it, a, p] [it] es.size (fun i v => (ps.map fun j => (es.getD j default).2)[i]? = some v) (fun i h => h.get? it = some (dP (.ref p) i a es.size ep) /\ h.get? a = some o /\ h.get? p = some { cls := .type "tuple", data := .seq (ps.map fun (i : Nat) => rawInt i).toArray }) where
 sub := fun b hb => by simp at hb; simp [hb]
 frame := fun i h h' st k => ⟨k it (by simp) _ st.1, k a (by simp) _ st.2.1, k p (by simp) _ st.2.2⟩
 item := fun i s Q E hi st hQ => by
  have hl : ps.length = es.size := by rw [sL.length_eq, List.length_range]
  have tT : i < ps.length := by rw [hl]; exact hi
  have hj : ps[i] < es.size := List.mem_range.mp (sL.mem_iff.mp (List.getElem_mem tT))
  have hx : (ps.map fun j => (es.getD j default).2)[i]? = some es[ps[i]].2 := by
   rw [List.getElem?_map, List.getElem?_eq_getElem tT]
   simp [Array.getD, hj]
  refine qx st.1 st.2.2 st.2.1 hd hf (List.getElem?_eq_getElem tT) (Array.getElem?_eq_getElem hj) fun h' e sb => ?_
  exact hQ _ h' s.toks hx ⟨e, (sb.2 a jP).trans st.2.1, (sb.2 p Hk).trans st.2.2⟩ fun b o hb e => sb.extBut b o (by simpa using hb) e
 done := fun s Q E st hQ => by
  have hl : ps.length = es.size := by rw [sL.length_eq, List.length_range]
  exact ko hh st.1 st.2.2 st.2.1 hd hf (List.getElem?_eq_none (by rw [hl]; exact Nat.le_refl _)) fun h' eb => hQ h' s.toks fun b o hb e => eb b o (by simpa using hb) e
 self := fun i s Q E st q => jj st.1 q
end
section
variable {prog : Program} {w : World} {A : Around} {E : Value -> Shared -> Prop} {s : Shared} {it a : Addr} {o : Obj} {es : Array (Int × Value)} {ep : Nat} {t : SetTable}
theorem lr {α : Type} [Inhabited α] (es : Array α) : (List.range es.size).map (fun j => es.getD j default) = es.toList := by
 refine List.ext_getElem (by simp) fun i h1 h2 => ?_
 have : i < es.size := by simpa using h1
 simp [Array.getD, this]
theorem rC {Q : Value -> Shared -> Prop} (ho : s.heap.get? a = some o) (hx : o.ExactSet) (hd : o.data = .set es ep t) (hf : t.fits es.size = true) (hg : Good t) (hl : t.led = !w.params.followText "set-order") (hz : es.size < scanBound)
 (h : ∀ (it : Addr) (fp : List Addr) (St : Nat -> Heap -> Prop) (ord : List Value) (h' : Heap) (d : Drawn), (∀ b u, s.heap.get? b = some u -> h'.get? b = some u) -> s.heap.objs.size <= it -> St 0 h' -> (∀ b ∈ fp, b < h'.objs.size) -> (∀ b ∈ fp, b = a \/ s.heap.objs.size <= b) -> it ∈ fp -> ord.Perm (es.toList.map (·.2)) ->
  (∀ A : Around, A.handled = none -> Walks prog w A it fp [it] es.size (fun i v => ord[i]? = some v) St) -> Q (.ref it) { s with heap := h', drawn := d }) : wpAny (model prog w) A (pyIter (.ref a)) Q E s := by
 have hT : s.TypeIs (.ref a) "set" := ⟨o, ho, hx.1⟩
 have pG : a < s.heap.objs.size := Heap.lt_size ho
 refine wpAny_pyIter_slot hT F.slot_set_iter (wpAny_call_entry F.slot_set_iter hT gG ?_ (F.args_set_iter_1 _))
 unfold Builtin.«frozenset.__iter__»
 refine wpAny_bind (wpAny_pure ?_)
 refine wpAny_bind ?_
 unfold Builtin.Frozenset.sizeOf
 refine wpAny_bind (wpAny_setEntries_of ho hd hf (wpAny_pure ?_))
 refine wpAny_bind ?_
 unfold setDrawn setsByText
 refine wpAny_bind (wpAny_setState_of ho hd hf ?_)
 refine wpAny_bind (wpAny_bind (wpAny_askSetting (wpAny_pure (wpAny_pure ?_))))
 dsimp only
 split
 . rename_i c
   have c2 : (!w.params.followText "set-order" && (!t.plain && decide (es.size > 1))) = true := c
   refine wpAny_bind (rQ _ _ (by simp) fun ps d sL => ?_)
   have jT : ps.length = es.size := by rw [sL.length_eq, List.length_range]
   refine wpAny_bind (wpAny_newTuple (hsz := by rw [List.length_map, jT]; exact fits_of_scanBound hz) ?_)
   refine wpAny_bind (wpAny_setEpoch_of (o := o) (Heap.get?_push_of_some _ ho) hd hf ?_)
   refine wpAny_bind (wpAny_newObj_type (wpAny_pure ⟨_, rfl, "set_iterator", _, ⟨_, Heap.get?_push_size _ rfl, rfl⟩, aF.lookup, ?_⟩))
   have hsz : ∀ u : Obj, (s.heap.push u).objs.size = s.heap.objs.size + 1 := fun u => Heap.size_push ..
   refine h _ [_, a, s.heap.objs.size] _ (ps.map fun j => (es.getD j default).2) _ d (fun b u e => Heap.get?_push_of_some _ (Heap.get?_push_of_some _ e)) (by rw [hsz]; exact Nat.le_succ _) ⟨Heap.get?_push_size _ rfl, Heap.get?_push_of_some _ (Heap.get?_push_of_some _ ho), Heap.get?_push_of_some _ (Heap.get?_push_size _ rfl)⟩ ?_ ?_ (by simp) ?_ (fun A hh => k9 hh hd hf ?_ ?_ sL)
   . intro b hb
     rw [Heap.size_push, hsz]
     have : b = s.heap.objs.size + 1 \/ b = a \/ b = s.heap.objs.size := by simpa using hb
     rcases this with rfl | rfl | rfl
     . exact Nat.lt_succ_self _
     . exact Nat.lt_succ_of_lt (Nat.lt_succ_of_lt pG)
     . exact Nat.lt_succ_of_lt (Nat.lt_succ_self _)
   . intro b hb
     have : b = s.heap.objs.size + 1 \/ b = a \/ b = s.heap.objs.size := by simpa using hb
     rcases this with rfl | rfl | rfl
     . exact .inr (Nat.le_succ _)
     . exact .inl rfl
     . exact .inr (Nat.le_refl _)
   . rw [<- lr es, List.map_map]
     exact sL.map _
   . rw [hsz]; exact Nat.ne_of_lt (Nat.lt_succ_of_lt pG)
   . rw [hsz]; exact Nat.ne_of_lt (Nat.lt_succ_self _)
 . rename_i c
   have c2 : ¬ (!w.params.followText "set-order" && (!t.plain && decide (es.size > 1))) = true := c
   refine wpAny_bind (wpAny_pure ?_)
   refine wpAny_bind (wpAny_setEpoch_of ho hd hf ?_)
   refine wpAny_bind (wpAny_newObj_type (wpAny_pure ⟨_, rfl, "set_iterator", _, ⟨_, Heap.get?_push_size _ rfl, rfl⟩, aF.lookup, ?_⟩))
   have Er : ∀ u : Obj, ∀ b ∈ [s.heap.objs.size, a], b < (s.heap.push u).objs.size := by
    intro u b hb
    rw [Heap.size_push]
    have : b = s.heap.objs.size \/ b = a := by simpa using hb
    rcases this with rfl | rfl
    . exact Nat.lt_succ_self _
    . exact Nat.lt_succ_of_lt pG
   have Ew : ∀ b ∈ [s.heap.objs.size, a], b = a \/ s.heap.objs.size <= b := by
    intro b hb
    have : b = s.heap.objs.size \/ b = a := by simpa using hb
    rcases this with rfl | rfl
    . exact .inr (Nat.le_refl _)
    . exact .inl rfl
   cases hb : w.params.followText "set-order" with
   | true =>
     exact h _ [s.heap.objs.size, a] _ _ _ s.drawn (fun b u e => Heap.get?_push_of_some _ e) (Nat.le_refl _) ⟨Heap.get?_push_size _ rfl, Heap.get?_push_of_some _ ho⟩ (Er _) Ew (by simp) ((fK _ _).map _) (fun A hh => oY hh hb hd hf (Nat.ne_of_lt pG) 0)
   | false =>
     have yU : (!t.plain && decide (es.size > 1)) = false := by
      cases q : (!t.plain && decide (es.size > 1)) with
      | false => rfl
      | true => exact absurd (by rw [hb, q]; rfl) c2
     exact h _ [s.heap.objs.size, a] _ _ _ s.drawn (fun b u e => Heap.get?_push_of_some _ e) (Nat.le_refl _) ⟨⟨0, kT hg, Heap.get?_push_size _ rfl⟩, Heap.get?_push_of_some _ ho⟩ (Er _) Ew (by simp) (.refl _) (fun A hh => kq hh hb hd hf hg yU (by rw [hl, hb]; rfl) (Nat.ne_of_lt pG))
end
end L2
namespace L2
open PySem PySem.Spec PyProof.Rows
section
variable {prog : Program} {w : World} {A : Around} {R : Result -> Shared -> Prop} {it y : Addr} {fp wr : List Addr} {G : Array GenState -> Array GenState -> Prop} {n : Nat} {Pv : Nat -> Value -> Prop} {St : Nat -> Shared -> Prop}
theorem dh.congr {h : Heap} {a : Addr} {S S' : Int -> Bool} {n n' : Nat} (x : dh prog w h a S n) (e : ∀ k, S k = S' k) (en : n = n') : dh prog w h a S' n' := by
 have : S = S' := funext e
 subst this; subst en; exact x
theorem uE (W : WalksS prog w A.in1 it fp wr G n Pv St) (hy : y ∉ fp) (f : Nat -> Int) (hf : ∀ i v, Pv i v -> ∃ t, v = .int (f i) t) (hb : n + 1 < scanBound) :
 ∀ (k i : Nat) (s : Shared), n - i = k -> i <= n -> St i s -> dh prog w s.heap y (fun k' => (firstMet f i).any (· == k')) (firstMet f i).length ->
   (∀ s', Moved (y :: wr) G s s' -> dh prog w s'.heap y (fun k' => (firstMet f n).any (· == k')) (firstMet f n).length -> R (.ok (.ret .none)) s') ->
   codeAny (model prog w) A (.builtin "set.update.loop" ⟨[.ref y, .ref it], []⟩) R s := by
 have E5 : y ∉ wr := fun z => hy (W.sub _ z)
 intro k
 induction k with
 | zero =>
   intro i s ek li st hS fin
   obtain rfl : i = n := by omega
   refine codeAny_builtin PyProof.Rows.F.entry_set_update_loop ?_
   rw [Around.under_plainId PyProof.Rows.F.plain_set_update_loop _]
   show wpAny _ A.in1 (pyNext (.ref it) >>= _) _ _ s
   refine wpAny_bind (W.done s _ _ st fun s1 m1 => ?_)
   show wpAny _ A.in1 (ret Value.none) _ _ s1
   exact wpAny_pure (fin s1 (m1.mono fun b z => List.mem_cons_of_mem _ z) (hS.at fun o e => m1.heap y _ E5 e))
 | succ k ih =>
   intro i s ek li st hS fin
   have yH : i < n := by omega
   refine codeAny_builtin PyProof.Rows.F.entry_set_update_loop ?_
   rw [Around.under_plainId PyProof.Rows.F.plain_set_update_loop _]
   show wpAny _ A.in1 (pyNext (.ref it) >>= _) _ _ s
   refine wpAny_bind (W.item i s _ _ yH st fun v s1 hv GL m1 => ?_)
   obtain ⟨t, rfl⟩ := hf i v hv
   have F8 := hS.at (h' := s1.heap) fun o e => m1.heap y _ E5 e
   show wpAny _ A.in1 (holding [Value.int (f i) t] (setAdd y (.int (f i) t)) >>= _) _ _ s1
   refine wpAny_bind (wpAny_holding ?_)
   unfold setAdd
   refine wpAny_holding (wpAny_bind ((intKind prog w).pyHash (k := f i) (intKind_is _ _ _ _) ?_))
   have hle := firstMet_length_le f i
   refine Ax (s := { s1 with toks := s1.toks + 1 }) (intKind_is _ _ _ _) rfl F8 (by omega) fun h2 sb HR => ?_
   have Fz : dh prog w h2 y (fun k' => (firstMet f (i + 1)).any (· == k')) (firstMet f (i + 1)).length := HR.congr (fun k' => by rw [firstMet_succ, step_any]) (by rw [firstMet_succ, step_length])
   refine wpAny_pure ⟨plainId_quiet PyProof.Rows.F.plain_set_update_loop _, ih (i + 1) _ (by omega) yH (W.frame _ s1 _ _ GL (Nat.le_succ _) fun b z o e => ?_) Fz fun s3 m3 FH => ?_⟩
   . rw [sb.2 b (fun z' : b = y => hy (z' ▸ z))]; exact e
   . refine fin s3 (Moved.trans W.gtrans ((m1.mono fun b z => List.mem_cons_of_mem _ z).then_heap (Nat.le_succ _) fun b o z e => ?_) m3) FH
     rw [sb.2 b (fun z' : b = y => z (z' ▸ List.mem_cons_self))]; exact e
end
section
variable {prog : Program} {w : World} {A : Around} {E : Value -> Shared -> Prop} {s : Shared}
theorem jr (a : Value) {Q : Value -> Shared -> Prop} (h : Q (.ref s.heap.objs.size) { s with heap := s.heap.push { cls := .type "set", dict := none, data := .set #[] 0 (.fresh 0 0 (!w.params.followText "set-order")) } }) :
 codeAny (model prog w) A (.call (.builtin "set.__new__") ⟨[.type "set", a], []⟩) (wants Q E) s := by
 refine codeAny_of_tree ?_
 show wpAny _ A.in1 (do checkBuiltinCall "set.__new__" ⟨[.type "set", a], []⟩; again (.builtin "set.__new__" ⟨[.type "set", a], []⟩)) _ _ s
 refine wpAny_bind (wpAny_of_eq (PySem.F.newCall_set_1 a) (wpAny_pure ⟨plainId_quiet PySem.F.plain_set_new _, codeAny_builtin PySem.F.entry_set_new ?_⟩))
 rw [Around.under_plainId PySem.F.plain_set_new _]
 unfold Builtin.«set.__new__» Builtin.Frozenset.newClass
 have CJ := sub_set_self
 obtain ⟨hp, g, d, tk, os⟩ := s
 dsimp only
 wp_walk
 refine wpAny_askSetting (wpAny_pure ?_)
 dsimp only
 simp only [newObj]
 exact wpAny_bind (wpAny_alloc (wpAny_pure (wpAny_pure h)))
theorem sM {h : Heap} {a : Addr} (e : h.get? a = some { cls := .type "set", dict := none, data := .set #[] 0 (.fresh 0 0 (!w.params.followText "set-order")) }) : dh prog w h a (fun _ => false) 0 :=
 ⟨_, #[], 0, _, e, ⟨rfl, rfl, rfl⟩, rfl, fun e he => by simp at he, fun k => by simp, by decide, by rfl, rfl, ⟨fun i j hi => by simp [SetTable.fresh] at hi, rfl⟩, rfl⟩
set_option maxRecDepth 100000 in
set_option maxHeartbeats 3200000 in
theorem iI {l : Addr} {aq : Array Value} {ns : List Int} {Q : Value -> Shared -> Prop} (hh : A.handled = none) (hl : s.heap.IsList l aq) (hi : IntsAre aq.toList ns) (hb : aq.size + 1 < scanBound)
 (fin : ∀ (h1 : Heap) (tk : Nat), dh prog w h1 s.heap.objs.size (fun k' => (firstMet (fun i => ns.getD i 0) aq.size).any (· == k')) (firstMet (fun i => ns.getD i 0) aq.size).length -> (∀ b o, b < s.heap.objs.size -> s.heap.get? b = some o -> h1.get? b = some o) -> Q (.ref s.heap.objs.size) { s with heap := h1, toks := tk }) :
 wpAny (model prog w) A (call (.type "set") [.ref l]) Q E s := by
 obtain ⟨c, tl, FX⟩ := PySem.F.called_set.mro
 have Fp := PySem.F.called_set.made
 have CJ := PySem.F.called_set.sub
 refine wpAny_call (codeAny_of_tree ?_)
 show wpAny _ _ (callAny (.type "set") _) _ _ _
 refine wpAny_pure ⟨Code.quiet_builtin _ (by decide +kernel), codeAny_builtin PySem.F.entry_type_call ?_⟩
 rw [Around.under_plain (weight_type_call_type "set" [.ref l] []) rfl]
 have n1 := PySem.F.called_set.notType
 have n2 := PySem.F.called_set.canCreate
 have n3 := PySem.F.typeCall_set_1 (.ref l)
 repeat (any_goals (first | assumption | wp_step))
 let ob : Obj := { cls := .type "set", dict := none, data := .set #[] 0 (.fresh 0 0 (!w.params.followText "set-order")) }
 refine codeAny_mono (jr (.ref l) (E := E) (Q := fun u s1 => u = .ref s.heap.objs.size /\ s1 = { s with heap := s.heap.push ob }) ⟨rfl, rfl⟩) fun r s1 hr => ?_
 cases r with
 | error e => exact hr
 | ok fl =>
   cases fl with
   | ret u =>
     obtain ⟨rfl, rfl⟩ := hr
     have h0 : (s.heap.push ob).get? s.heap.objs.size = some ob := Heap.get?_push_size _ rfl
     have hT : Shared.TypeIs { s with heap := s.heap.push ob } (.ref s.heap.objs.size) "set" := ⟨_, h0, rfl⟩
     have g1 := PySem.F.called_set.init.lookup
     have g2 := PySem.F.called_set.init.bind (.ref s.heap.objs.size)
     repeat (any_goals (first | assumption | wp_step))
     refine codeAny_mono (codeAny_call_builtin (R := wants (fun r s2 => r = .none /\ ∃ h1 tk, s2 = { s with heap := h1, toks := tk } /\ dh prog w h1 s.heap.objs.size (fun k' => (firstMet (fun i => ns.getD i 0) aq.size).any (· == k')) (firstMet (fun i => ns.getD i 0) aq.size).length /\
      (∀ b o, b < s.heap.objs.size -> s.heap.get? b = some o -> h1.get? b = some o)) E) PySem.F.called_set.init.plain PySem.F.entry_set_init (check_set_init_1 hT ?_)) fun r2 s2 BW => ?_
     . obtain ⟨ol, EF, gb, nl, E6⟩ := hl
       obtain ⟨Hu, A6, Ft, wG⟩ := ol
       simp only at gb E6
       subst gb; subst E6
       have k1 : (s.heap.push ob).get? l = some { cls := .type "list", dict := A6, data := .seq aq nl, slots := wG } := Heap.get?_push_of_some _ EF
       have k2 := PySem.F.sub_list_set
       have k3 := PySem.F.sub_list_frozenset
       have k4 : (Value.type "list" == Value.type "dict") = false := by decide
       have Bz : (s.heap.push ob).IsList l aq := ⟨_, k1, rfl, nl, rfl⟩
       unfold Builtin.«set.__init__» noKeywords Builtin.Frozenset.updateFrom
       generalize Ig : pyIter = PI
       wp_walk
       subst Ig
       refine wpAny_pyIter_list Bz (wpAny_bind (wpAny_runValue ?_))
       have ll : l < s.heap.objs.size := Heap.lt_size EF
       have sz : (s.heap.push ob).objs.size = s.heap.objs.size + 1 := Heap.size_push ..
       have G4 : A.in1.in1.in1.handled = none := by simp [hh]
       have c1 : l ≠ (s.heap.push ob).objs.size := by rw [sz]; exact Nat.ne_of_lt (Nat.lt_succ_of_lt ll)
       have c2 : s.heap.objs.size ∉ [(s.heap.push ob).objs.size, l] := by
        rw [sz]
        intro z
        simp only [List.mem_cons, List.not_mem_nil, or_false] at z
        rcases z with z | z
        . exact absurd z (Nat.ne_of_lt (Nat.lt_succ_self _))
        . exact absurd z.symm (Nat.ne_of_lt ll)
       have c3 : ∀ (i : Nat) (v : Value), aq[i]? = some v -> ∃ t, v = .int ((fun i => ns.getD i 0) i) t := fun i v hv => IntsAre.int_at hi i v (by simpa using hv)
       refine uE ((Walks.list G4 _ l c1 aq).toS) c2 (fun i => ns.getD i 0) c3 hb (aq.size - 0) 0 _ (by omega) (Nat.zero_le _) ⟨⟨_, Heap.get?_push_size _ rfl, rfl, rfl⟩, (Bz.push _)⟩ ?_ ?_
       . have kg : ((s.heap.push ob).push { cls := .type "list_iterator", data := .fields #[.ref l, .int 0 0] }).get? s.heap.objs.size = some ob := Heap.get?_push_of_some _ h0
         exact (sM kg).congr (fun _ => rfl) rfl
       . intro s3 hm hS
         obtain ⟨h3, g3, d3, GC, HP⟩ := s3
         have eg : g3 = s.gens := hm.gens
         have ed : d3 = s.drawn := hm.drawn
         have eo : HP = s.os := hm.os
         subst eg; subst ed; subst eo
         show wpAny _ _ _ _ _ _
         refine wpAny_pure ?_
         show wpAny _ _ (ret Value.none) _ _ _
         refine wpAny_pure ⟨rfl, h3, GC, rfl, hS, fun b o lb e => ?_⟩
         refine hm.heap b o ?_ (Heap.get?_push_of_some _ (Heap.get?_push_of_some _ e))
         intro z
         simp only [List.mem_cons, List.not_mem_nil, or_false] at z
         rw [sz] at z
         rcases z with z | z
         . exact absurd z (Nat.ne_of_lt lb)
         . exact absurd z (Nat.ne_of_lt (Nat.lt_succ_of_lt lb))
     . cases r2 with
       | error e => exact BW
       | ok f2 =>
         cases f2 with
         | ret r =>
           obtain ⟨rfl, h1, tk, rfl, hS, hk⟩ := BW
           repeat (any_goals (first | assumption | wp_step))
           exact fin _ _ hS hk
         | _ => exact BW.elim
   | _ => exact hr.elim
end
section
variable {prog : Program} {w : World} {A : Around} {E : Value -> Shared -> Prop} {s : Shared} {a : Addr} {S : Int -> Bool} {n : Nat}
theorem pD {ord : List Value} {acc : Array Value} {n : Nat} (hl : ord.length = n) (h : ItemsOf (fun i v => ord[i]? = some v) acc n) : acc.toList = ord := by
 obtain ⟨h0, h1⟩ := h
 refine List.ext_getElem? fun i => ?_
 rw [Array.getElem?_toList]
 by_cases hi : i < acc.size
 . rw [Array.getElem?_eq_getElem hi]
   exact (h1 i _ (Array.getElem?_eq_getElem hi)).symm
 . rw [Array.getElem?_eq_none (by omega), List.getElem?_eq_none (by omega)]
theorem kD {Q : List Value -> Shared -> Prop} (hh : A.handled = none) (hS : dh prog w s.heap a S n)
 (h : ∀ (h' : Heap) (d : Drawn) (tk : Nat) (vs : List Value), (∀ b u, s.heap.get? b = some u -> h'.get? b = some u) -> (∃ es ep t o, s.heap.get? a = some o /\ o.data = .set es ep t /\ vs.Perm (es.toList.map (·.2))) -> vs.length = n -> s.heap.objs.size < h'.objs.size -> Q vs { s with heap := h', drawn := d, toks := tk }) : wpAny (model prog w) A (collect (.ref a)) Q E s := by
 obtain ⟨o, es, ep, t, ho, hx, hd, h1, h2, h3, h4, h5, h6, h7⟩ := hS
 have pG : a < s.heap.objs.size := Heap.lt_size ho
 unfold collect
 refine wpAny_bind (wpAny_runValue (codeAny_builtin entry_proto_collect' ?_))
 show wpAny _ _ (do again (.builtin "list.__iadd__" ⟨[<- newList [], .ref a], []⟩)) _ _ s
 refine wpAny_bind (wpAny_newList (wpAny_pure ⟨Code.quiet_builtin _ (by decide +kernel), codeAny_builtin entry_list_iadd' ?_⟩))
 show wpAny _ _ (Builtin.List.listExtendWith (.ref s.heap.objs.size) (.ref a) (.ref s.heap.objs.size)) _ _ { s with heap := s.heap.push (seqObj "list" #[] 0) }
 unfold Builtin.List.listExtendWith
 have Dp : (s.heap.push (seqObj "list" #[] 0)).get? a = some o := Heap.get?_push_of_some _ ho
 have GD : (s.heap.push (seqObj "list" #[] 0)).get? s.heap.objs.size = some (seqObj "list" #[] 0) := Heap.get?_push_size _ rfl
 refine wpAny_bind (wpAny_typeOf (T := "set") ⟨o, Dp, hx.1⟩ ?_)
 have a1 : Builtin.List.listSameRef (.ref s.heap.objs.size) (.ref a) = false := by simp [Builtin.List.listSameRef, Ne.symm (Nat.ne_of_lt pG)]
 have a2 : (Value.type "set" == Value.type "list") = false := by decide
 have a3 : (Value.type "set" == Value.type "tuple") = false := by decide
 simp only [a1, a2, a3, Bool.or_self, Bool.false_eq_true, if_false]
 refine wpAny_bind (rC (s := { s with heap := s.heap.push (seqObj "list" #[] 0) }) Dp hx hd h4 h6 h7 h3 fun it fp St ord nA d kp lit st fl fn Cr oU W => ?_)
 refine wpAny_bind (wpAny_holding ?_)
 have DG : Shared.TypeIs { s with heap := nA, drawn := d } (.ref a) "set" := ⟨o, kp a o Dp, hx.1⟩
 unfold Builtin.List.listLengthHint
 refine wpAny_bind (wpAny_specialOf DG F.slot_set_len.lookup ?_)
 generalize ER : ("set.__len__" : String) = Hl
 wp_delta
 rw [show splitId Hl = some ("set", "__len__") from by subst ER; decide +kernel]
 subst ER
 refine wpAny_bind (wpAny_isInstance (T := "set") (b := true) DG (by rw [isSubtype_type]; kernel_rfl) ?_)
 refine wpAny_ite_split (fun zO => absurd zO (by decide)) (fun _ => ?_)
 refine wpAny_ite_split (fun _ => ?_) (fun zO => absurd (by decide +kernel) zO)
 refine wpAny_bind (wpAny_typeOf DG (wpAny_pure ?_))
 show wpAny _ _ (rule "list.extend.makes-room" >>= fun _ => Builtin.List.listTouch (.ref s.heap.objs.size) >>= fun _ =>
  again (.builtin "list.extend.loop" ⟨[.ref s.heap.objs.size, .ref it, .ref s.heap.objs.size], []⟩)) _ _ _
 refine wpAny_bind (wpAny_rule (wpAny_bind ?_))
 have EC := kp _ _ GD
 show wpAny _ _ (updateSeq s.heap.objs.size (·.push .none) >>= fun _ => updateSeq s.heap.objs.size (·.pop)) _ _ _
 refine wpAny_bind (wpAny_updateSeq EC rfl ?_)
 have Fc := Heap.get?_update_self (Obj.mapSeq (·.push Value.none)) EC rfl
 refine wpAny_updateSeq (hz := by seq_fits) Fc rfl ?_
 have Hy := Heap.get?_update_self (Obj.mapSeq (·.pop)) Fc rfl
 have ot : ∀ b u, b ≠ s.heap.objs.size -> nA.get? b = some u -> ((nA.update s.heap.objs.size (Obj.mapSeq (·.push Value.none))).update s.heap.objs.size (Obj.mapSeq (·.pop))).get? b = some u :=
  fun b u hb e => (Heap.get?_update_other _ _ (Ne.symm hb)).trans ((Heap.get?_update_other _ _ (Ne.symm hb)).trans e)
 have yq : ord.length = es.size := by rw [oU.length_eq, List.length_map, Array.length_toList]
 have W1 := W A.in1 hh
 have Dr : s.heap.objs.size ∉ fp := fun z => by
  rcases fn _ z with e | e
  . exact absurd e.symm (Nat.ne_of_lt pG)
  . have : s.heap.objs.size + 1 <= s.heap.objs.size := by rw [<- size_push' s.heap (seqObj "list" #[] 0)]; exact e
    exact absurd this (Nat.not_succ_le_self _)
 have BO : s.heap.objs.size ≠ it := fun z => Dr (z ▸ Cr)
 refine wpAny_pure ⟨plainId_quiet F.plain_extend_loop _, codeAny_extend_loopS W1.toS (fits_of_scanBound h3) _ Dr _ es.size 0 _ _ _ rfl (Nat.zero_le _) (W1.frame 0 _ _ st fun b hb u e => ot b u (fun z => Dr (z ▸ hb)) e) Hy (ItemsOf.nil _) fun s' acc c hm hs cU => ?_⟩
 show wpAny _ _ (load s.heap.objs.size >>= _) _ _ s'
 refine wpAny_bind (wpAny_load hs (wpAny_pure ?_))
 have ea := pD yq cU
 obtain ⟨h9, g9, d9, Gn, FA⟩ := s'
 have eg : g9 = s.gens := hm.gens
 have ed : d9 = d := hm.drawn
 have eo : FA = s.os := hm.os
 subst eg; subst ed; subst eo
 rw [ea]
 refine h h9 d9 Gn ord (fun b u e => ?_) ⟨es, ep, t, o, ho, hd, oU⟩ (yq.trans h5) (Heap.lt_size hs)
 have hb : b ≠ s.heap.objs.size := Nat.ne_of_lt (Heap.lt_size e)
 have Dy : s.heap.objs.size + 1 <= it := by rw [<- size_push' s.heap (seqObj "list" #[] 0)]; exact lit
 have Gv : b ≠ it := Nat.ne_of_lt (Nat.lt_of_lt_of_le (Nat.lt_succ_of_lt (Heap.lt_size e)) Dy)
 exact hm.heap b u (by simp [hb, Gv]) (ot b u hb (kp b u (Heap.get?_push_of_some _ e)))
theorem q9 {h : Heap} (hS : dh prog w h a S n) {es : Array (Int × Value)} {ep : Nat} {t : SetTable} {o : Obj} {vs : List Value} (ho : h.get? a = some o) (hd : o.data = .set es ep t) (hp : vs.Perm (es.toList.map (·.2))) :
 ∃ ms, IntsAre vs ms /\ ∀ k, S k = true ↔ k ∈ ms := by
 obtain ⟨o2, Im, Jd, t2, EZ, hx, hd2, h1, h2, _⟩ := hS
 rw [ho] at EZ
 cases EZ
 rw [hd] at hd2
 cases hd2
 have key : ∀ l : List Value, (∀ v ∈ l, ∃ k t, v = Value.int k t) -> ∃ ms, IntsAre l ms /\ ∀ k, k ∈ ms ↔ ∃ v ∈ l, (intKind prog w).is k v = true := by
  intro l
  induction l with
  | nil => intro _; exact ⟨[], .nil, fun k => by simp⟩
  | cons v r ih =>
    intro hv
    obtain ⟨ms, hI, hm⟩ := ih fun u hu => hv u (List.mem_cons_of_mem _ hu)
    obtain ⟨k, tk, rfl⟩ := hv v List.mem_cons_self
    refine ⟨k :: ms, .cons k tk hI, fun j => ?_⟩
    rw [List.mem_cons, hm j]
    constructor
    . rintro (rfl | ⟨u, hu, e⟩)
      . exact ⟨_, List.mem_cons_self, intKind_is _ _ _ _⟩
      . exact ⟨u, List.mem_cons_of_mem _ hu, e⟩
    . rintro ⟨u, hu, e⟩
      rcases List.mem_cons.mp hu with rfl | hu
      . exact .inl ((intKind prog w).inj _ j k e (intKind_is _ _ _ _))
      . exact .inr ⟨u, hu, e⟩
 have hv : ∀ v ∈ vs, ∃ k t, v = Value.int k t := by
  intro v hv
  obtain ⟨e, he, rfl⟩ := List.mem_map.mp (hp.mem_iff.mp hv)
  obtain ⟨⟨k, hk, _⟩, _⟩ := h1 e he
  exact ⟨k, Value.isInt_shape hk⟩
 obtain ⟨ms, hI, hm⟩ := key vs hv
 refine ⟨ms, hI, fun k => ?_⟩
 rw [h2 k, hm k]
 constructor
 . rintro ⟨e, he, q⟩
   exact ⟨e.2, hp.mem_iff.mpr (List.mem_map.mpr ⟨e, he, rfl⟩), q⟩
 . rintro ⟨v, hv, q⟩
   obtain ⟨e, he, rfl⟩ := List.mem_map.mp (hp.mem_iff.mp hv)
   exact ⟨e, he, q⟩
theorem lM {Q : Value -> Shared -> Prop} (hh : A.handled = none) (hS : dh prog w s.heap a S n) (nV : n < 64)
 (h : ∀ (q : Addr) (h' : Heap) (d : Drawn) (tk e : Nat) (us : List Value) (ns : List Int), s.heap.objs.size <= q -> (∀ b u, s.heap.get? b = some u -> h'.get? b = some u) -> h'.get? q = some { cls := .type "list", data := .seq us.toArray e } -> IntsAre us ns -> ns.length = n -> ns.Pairwise (· <= ·) -> (∀ k, S k = true ↔ k ∈ ns) -> Q (.ref q) { s with heap := h', drawn := d, toks := tk }) :
 wpAny (model prog w) A (call (.builtin "sorted") [.ref a]) Q E s := by
 refine Calls.call_function_entry kind_sorted plain_sorted entry_sorted (args_sorted1 _) ?_
 unfold Builtin.«sorted»
 refine wpAny_bind (m := checkCount "sorted" 1 1 _) (wpAny_pure ?_)
 refine wpAny_bind (kD (A := A.in1) hh hS fun h1 d tk vs kp ⟨es, ep, t, o, ho, hd, hp⟩ hn cz => ?_)
 obtain ⟨ms, hI, hm⟩ := q9 hS ho hd hp
 refine wpAny_bind (wpAny_newList ?_ (hsz := by rw [hn, sizeLine_eq]; omega))
 have k7 : (h1.push (seqObj "list" vs.toArray 0)).get? h1.objs.size = some (seqObj "list" vs.toArray 0) := Heap.get?_push_size _ rfl
 refine wpAny_bind (wpAny_holding (wpAny_call_entry slot_list_sort ⟨_, k7, rfl⟩ entry_list_sort (list_sort_tree k7 hI (by rw [hn]; exact nV) fun out GR a1 a2 a3 => ⟨_, rfl, ?_⟩) (args_list_sort _)))
 obtain ⟨e, he⟩ := sortedHeap_at (out := out) k7
 have hle : ∀ b u, s.heap.get? b = some u -> b < h1.objs.size := fun b u q => Heap.lt_size (kp b u q)
 refine wpAny_pure ⟨_, rfl, h h1.objs.size _ d tk e out.toList GR ?_ (fun b u q => ?_) (by simpa [seqObj] using he) a1 ?_ a3 fun k => ?_⟩
 . exact Nat.le_of_lt cz
 . rw [sortedHeap_old (Nat.ne_of_lt (hle b u q)) (by rw [size_push']; exact Nat.lt_succ_of_lt (hle b u q))]
   exact Heap.get?_push_of_some _ (kp b u q)
 . rw [a2.length_eq, <- IntsAre.length hI, hn]
 . rw [hm k, a2.mem_iff]
end
end L2
namespace L2
open PySem PySem.Spec PyProof.Rows PySem.W
theorem ik {α : Type} [BEq α] [LawfulBEq α] : ∀ {xs ys : List α}, xs.Nodup -> (∀ x ∈ xs, x ∈ ys) -> xs.length = ys.length -> ys.Perm xs
 | [], ys, _, _, hl => by
   have : ys = [] := List.length_eq_zero_iff.mp hl.symm
   subst this; exact .nil
 | x :: xs, ys, hn, hs, hl => by
   have hx : x ∈ ys := hs x List.mem_cons_self
   have p1 : ys.Perm (x :: ys.erase x) := List.perm_cons_erase hx
   have yP := List.nodup_cons.mp hn
   have Fe : xs.length = (ys.erase x).length := by have := p1.length_eq; simp at hl this; omega
   refine p1.trans (List.Perm.cons x (ik yP.2 (fun y hy => ?_) Fe))
   have jP : y ≠ x := fun e => yP.1 (e ▸ hy)
   exact (List.mem_erase_of_ne jP).mpr (hs y (List.mem_cons_of_mem _ hy))
theorem ug {σ : List Int} {v : Int} (h : σ.Nodup) : (step_dedup σ v).Nodup := by
 unfold step_dedup
 split
 . exact h
 . rename_i c
   rw [List.nodup_append]
   refine ⟨h, by simp, fun a ha b hb => ?_⟩
   have : b = v := by simpa using hb
   subst this
   intro e
   subst e
   exact c (by rw [List.any_eq_true]; exact ⟨a, ha, by simp⟩)
theorem ef (f : Nat -> Int) : ∀ i, (firstMet f i).Nodup
 | 0 => by rw [firstMet_zero]; exact List.nodup_nil
 | i + 1 => by rw [firstMet_succ]; exact ug (ef f i)
theorem map_getD (ns : List Int) : (List.range ns.length).map (fun i => ns.getD i 0) = ns := by
 refine List.ext_getElem (by simp) fun i h1 h2 => ?_
 simp [h2]
theorem nW {ms : List Int} (h : ms.Pairwise (· <= ·)) (n : ms.Nodup) : ms.Pairwise (· < ·) := by
 rw [List.nodup_iff_pairwise_ne] at n
 exact (h.and n).imp fun ⟨a, b⟩ => by omega
theorem Inv.drew {X : Cx} {pins : List (Addr × Obj)} {σ : St} {H : Hp} {s : Shared} (I : Inv X pins σ H s) (d : Drawn) : Inv X pins σ H { s with drawn := d } :=
 I.call (g' := s.gens) (t' := s.toks) (d' := d) (ch := []) (h' := s.heap) Un.refl I.aB I.bare (fun _ z => nomatch z)
section
variable {X : Cx} {e : Expr} {te : TE} {p p2 pos gO : Pos}
def gI : V -> Hp -> VK -> Prop := fun x H Q => ∃ ns : List Int, Dv H x (.list (ns.map PyData.int)) /\ ns.length < 64 /\ ∀ (q : Addr) (H' : Hp) (ms : List Int), ah H H' -> H q = none -> ms.Pairwise (· < ·) -> (∀ k, k ∈ ms ↔ k ∈ ns) -> bJ H' q (ms.map PyData.int) -> Q (.ref q) H'
def kj (te : TE) : TE := fun σ H Q => te σ H fun x H1 => gI x H1 Q
theorem ku {H : Hp} : ∀ (ns : List Int), aZ H (ns.map V.int) (ns.map PyData.int)
 | [] => .nil
 | x :: r => .cons (.int x) (ku r)
theorem lg (he : PE X e te) (hc : X.calm = true) (hg : Gl X "sorted") (hm : X.mg "sorted" = none) (B1 : Gl X "set") (By : X.mg "set" = none)
 (h1 : starEach [e] X.env = (false, eval e X.env) :: starEach [] X.env := by rfl)
 (h2 : starEach [.Call (.Name "set" p2) [e] [] gO] X.env = (false, eval (.Call (.Name "set" p2) [e] [] gO) X.env) :: starEach [] X.env := by rfl) :
 PE X (.Call (.Name "sorted" p) [.Call (.Name "set" p2) [e] [] gO] [] pos) (kj te) := by
 intro pins s σ H Q I h
 refine wpAny_Call_Name_kw (cA I hg hm (by rfl) ?_ (by decide) (by decide))
 refine PyProof.Rows.callWith_builtin1 ?_ h2 rfl
 rw [h2]
 show wpAny _ _ (spliced ((false, eval (.Call (.Name "set" p2) [e] [] gO) X.env) :: backTo pos (starEach [] X.env))) _ _ s
 refine Calls.spliced_cons (wpAny_Call_Name_kw (cA I B1 By (by rfl) ?_ (by decide) (by decide)))
 refine PyProof.Rows.callWith_type1 ?_ h1 rfl
 rw [h1]
 show wpAny _ _ (spliced ((false, eval e X.env) :: backTo gO (starEach [] X.env))) _ _ s
 refine Calls.spliced_cons (bh (he pins s σ H _ I h) fun u s1 ⟨x, H1, I1, r1, q1⟩ => ?_)
 refine Calls.spliced_nil ?_
 obtain ⟨ns, hd, hl, q⟩ := q1
 obtain ⟨a, ys, rfl, e, dv⟩ := hd.lst_inv
 obtain ⟨aq, yR, pl, _⟩ := I1.list (e X.K)
 cases r1
 have hS := gA dv yR
 have hlen : aq.length = ns.length := by rw [<- yR.length, dv.length, List.length_map]
 refine iI (I1.ok.hd hc) pl.isList (by simpa using hS) (by rw [List.size_toArray, hlen]; unfold scanBound; omega) fun h3 tk AH hk => ?_
 refine Calls.spliced_nil ?_
 have G7 : ∀ b u, s1.heap.get? b = some u -> h3.get? b = some u := fun b ob q => hk b ob (Heap.lt_size q) q
 have hle := firstMet_length_le (fun i => ns.getD i 0) aq.toArray.size
 refine lM (I1.ok.hd hc) AH (by rw [List.size_toArray, hlen] at hle; rw [List.size_toArray, hlen]; omega) fun qa h4 d Ep ep us ms hq kp Ct hI yG FO lJ => ?_
 have rX : s1.heap.objs.size <= qa := by
  rcases Nat.lt_or_ge qa s1.heap.objs.size with z | z
  . have : s1.heap.objs.size < h3.objs.size := by
     obtain ⟨o, _, _, _, ho, _⟩ := AH
     exact Heap.lt_size ho
    exact absurd (Nat.lt_of_lt_of_le this hq) (Nat.not_lt.mpr (Nat.le_of_lt z))
  . exact z
 have CH : H1 qa = none := I1.aB.fresh rX
 have hm : ∀ k, k ∈ ms ↔ k ∈ ns := fun k => by
  have z := lJ k
  rw [firstMet_any, List.size_toArray, hlen, map_getD, List.any_eq_true] at z
  rw [<- z]
  exact ⟨fun ⟨y, hy, e⟩ => by rw [<- beq_iff_eq.mp e]; exact hy, fun hk => ⟨k, hk, by simp⟩⟩
 have AI : ms.Nodup := by
  refine (ik (ef _ _) (fun k hk => ?_) yG.symm).symm.nodup (ef _ _)
  exact (lJ k).mp (by rw [List.any_eq_true]; exact ⟨k, hk, by simp⟩)
 have I2 : Inv X pins σ (upd H1 qa (.lst (ms.map V.int))) { s1 with heap := h4, toks := Ep } := I1.laid (t' := Ep) (fun b u e => kp b u (G7 b u e)) rX ⟨by
  rw [List.length_map]
  have := firstMet_length_le (fun i => ns.getD i 0) aq.toArray.size
  rw [yG, sizeLine_eq]
  rw [List.size_toArray, hlen] at this
  rw [List.size_toArray, hlen]
  omega, us, ep, fM hI, Ct⟩
 exact ⟨.ref qa, _, I2.drew d, rfl, q qa _ ms (aY CH) CH (nW FO AI) hm (gs CH (ku ms) (bM (fun _ => rfl) _))⟩
end
section
variable {σ : St} {H : Hp} {Q : VK} {v : V}
theorem lK {te : TE} (h : te σ H fun x H1 => gI x H1 Q) : kj te σ H Q := h
theorem pe {ns : List Int} (hp : Dv H v (.list (ns.map PyData.int))) (hl : ns.length < 64) (h : ∀ (q : Addr) (H' : Hp) (ms : List Int), ah H H' -> H q = none -> ms.Pairwise (· < ·) -> (∀ k, k ∈ ms ↔ k ∈ ns) -> bJ H' q (ms.map PyData.int) -> Q (.ref q) H') : gI v H Q := ⟨ns, hp, hl, h⟩
end
section
variable {X : Cx}
end
section
variable {σ : St} {H : Hp} {Q : VK} {K : PySem.W.Frag} {p : Addr} {m : List (Str × PyData)}
theorem dS.Fi : ∀ {ao : List (Key × V)} {m : List (Str × PyData)}, dS H ao m -> sk H ao (m.map fun x => (.str x.1, x.2))
 | _, _, .nil => .nil
 | _, _, .cons h _ r => .cons h (dS.Fi r)
theorem c6.dv (h : c6 H p m) : Dv H (.ref p) (.dict (m.map fun x => (.str x.1, x.2))) := let ⟨_, e, d⟩ := h; .dct e d.Fi
end
def Tr (h : Heap) (a T : Addr) (c : Value) : Prop := ∃ oe vs oT ts, h.get? a = some oe /\ oe.cls = c /\ oe.dict = none /\ oe.data = .fields vs /\ vs[1]? = some (.ref T) /\ T ≠ a /\ h.get? T = some oT /\ oT.data = .fields ts /\ ts[3]? = some .none /\ vs[2]? = some .none
structure Lv (l : List Env) (S : List Addr) (h h' : Heap) : Prop where
 keep : ∀ b o, b ∉ kr l -> b ∉ S -> h.get? b = some o -> h'.get? b = some o
 slot : ∀ b o, b ∈ kr l -> h.get? b = some o -> ∃ sl, h'.get? b = some { o with slots := sl }
section
variable {M : Model} {A : Around} {E : Value -> Shared -> Prop} {s : Shared} {env : Env} {outer : List Env} {L a T : Addr} {c : Value} {base : Heap} {Q : Unit -> Shared -> Prop}
end
def F1 (P : Program) (w : World) : kz := fun outer H s E e s' => ∃ a T C H', e = .ref a /\ s'.os = s.os /\ AllBare s'.gens /\ Un (kr outer) [] H H' s.heap s'.heap /\ eO P w H' s'.heap /\ Tr s'.heap a T (.ref C) /\ s.heap.get? a = none /\ s.heap.get? T = none /\ H' a = none /\ H' T = none /\ E (.ref C) none H'
section
variable {P : Program} {w : World} {K : PySem.W.Frag} {mg : Str -> Option Value} {base : Heap} {N : List Str} {qual : Str} {scope : Scope} {f : Addr} {cd : Value} {A : Around} {outer : List Env} {s0 : Shared} {H0 : Hp} {E : XK} {CX : kz} {pins : List (Addr × Obj)} {σ : St} {H : Hp} {s : Shared}
end
section
variable {K : PySem.W.Frag} {h : Heap} {C : Addr} {yS : List Value} {newId : String}
def xa (h : Heap) (C : Addr) (yS : List Value) (newId : String) : Prop := ∃ (bm : List Value) (N : Addr) (nm q : Str) (bs : List Value) (hd : Bool) (sn : List Str) (sub : List Value) (ab : Bool) (col : Option Bool) (dd : Option Addr) (k0 k1 k2 k3 k5 : Option Value) (mN : Str -> Option Value),
 h.get? C = some (excClassObj nm q C N bs bm hd sn sub ab col dd k0 k1 k2 k3 k5 newId) /\ h.Ns N mN /\ mN "__init__" = none /\ OwnTail h yS bm
theorem wt (X : K.In h) (q : excIn K C yS newId = true) : xa h C yS newId := by
 unfold excIn at q
 split at q
 . rename_i dd cd sl ho
   split at q
   . rename_i C' bm k0 k1 k2 k3 n k5 hm hs
     simp only [Bool.and_eq_true, beq_iff_eq, Bool.not_eq_true'] at q
     obtain ⟨⟨⟨⟨⟨rfl, rfl⟩, AO⟩, ht⟩, aB⟩, EH⟩ := q
     obtain ⟨nm, bs, mro, ns, qn, hd, sn, sub, ab, col, del⟩ := cd
     dsimp only at hm AO aB EH
     subst hm AO
     obtain ⟨l⟩ := sl
     dsimp only at hs
     subst hs
     exact ⟨bm, ns, nm, qn, bs, hd, sn, sub, ab, col, dd, k0, k1, k2, k3, k5, _, X _ _ ho, .of_isNs (isNs_of_in X aB), nsMap_none_of_in X aB EH, tail_of_in X ht⟩
   . cases q
 . cases q
end
abbrev Ci : List Value := [.type "ValueError", .type "Exception", .type "BaseException", .type "object"]
def yA (K : PySem.W.Frag) (C : Addr) : Prop := excIn K C Ci "ValueError.__new__" = true
section
variable {X : Cx} {pins : List (Addr × Obj)} {σ : St} {H : Hp} {s : Shared}
abbrev Cx.hand (X : Cx) (a : Addr) : Cx := { X with A := X.A.mark (some (.ref a)), calm := false, xe := fun _ _ => False }
end
section
variable {M : Model} {A : Around} {E : Value -> Shared -> Prop}
end
structure GZ (K : PySem.W.Frag) (C : Addr) : Prop where
 ga : PySem.W.findIn K (.ref C) "__getattribute__" = some (some (.builtin "BaseException.__getattribute__"))
 gn : PySem.W.findIn K (.ref C) "__getattr__" = some none
 mb : PySem.W.mroIn K C (.type "BaseException") = some true
 hd : PySem.W.hasDictIn K C = true
 ty : z4 K C
section
variable {X : Cx}
end
section
variable {P : Program} {w : World} {K : PySem.W.Frag} {mg : Str -> Option Value} {base : Heap}
structure FL (P : Program) (w : World) (K : PySem.W.Frag) (mg : Str -> Option Value) (base : Heap) (k : Nat) (f : Addr) (ps : List Str) (eR : List V) (sp : Sp) : Prop where
 ex : ∃ (fd : FuncData) (ds : List Value), bK P w K mg base (F1 P w) k f fd ps sp /\ Binds K fd ps ds /\ Vals eR ds
end
section
variable {X : Cx} {k : Nat} {f : Addr} {ps : List Str} {sp : Sp} {eR : List V} {E : XK} {x : Str} {p pos : Pos} {e : Expr} {es : List Expr} {t : TA}
end
section
variable {σ : St} {H : Hp} {Q : VK} {D : Ends} {K : PySem.W.Frag} {E : XK} {C : Addr} {ta : TA}
end
def bz (z : Str) (lo hi : Option Int) : Str := ⟨((Builtin.Str.strSliceIndices lo hi 1 z.length).filterMap (z.cps[·]?)).toArray⟩
def zo : V -> Option Int -> Option Int -> Hp -> VK -> Prop := fun x lo hi H Q => ∃ z : Str, x = .str z /\ z.length <= 4000 /\ Q (.str (bz z lo hi)) H
theorem tM {lo hi : Option Int} {n : Nat} (h : (Builtin.Str.strSliceIndices lo hi 1 n).length = n) : Builtin.Str.strSliceIndices lo hi 1 n = List.range n := by
 have key : ∀ a b : Int, 0 <= a -> b <= n -> (sliceRange a b 1).length = n -> sliceRange a b 1 = List.range n := by
  intro a b ha hb hl
  unfold sliceRange at hl ⊢
  simp only [List.length_map, List.length_range, Int.ediv_one, show (1 : Int) > 0 by decide, if_true] at hl ⊢
  rw [hl]
  by_cases hn : n = 0
  . subst hn; rfl
  . have : a = 0 := by
     split at hl <;> omega
    subst this
    rw [show (fun k : Nat => ((0 : Int) + 1 * (k : Int)).toNat) = id from funext fun k => by simp, List.map_id]
 unfold Builtin.Str.strSliceIndices at h ⊢
 simp only [show (1 : Int) > 0 by decide, if_true] at h ⊢
 refine key _ _ ?_ ?_ h
 . cases lo <;> simp only [] <;> omega
 . cases hi <;> simp only [] <;> omega
theorem hX : ∀ (l : List Nat), (List.range l.length).filterMap (fun i => l[i]?) = l
 | [] => rfl
 | c :: r => by
   rw [List.length_cons, List.range_succ_eq_map, List.filterMap_cons]
   simp only [List.getElem?_cons_zero, List.filterMap_map]
   have : ((fun i => (c :: r)[i]?) ∘ Nat.succ) = fun i => r[i]? := funext fun i => by simp
   rw [this, hX r]
theorem oK {z : Str} {lo hi : Option Int} (h : (Builtin.Str.strSliceIndices lo hi 1 z.length).length = z.length) : bz z lo hi = z := by
 unfold bz
 rw [tM h]
 obtain ⟨⟨l⟩⟩ := z
 show (⟨((List.range l.length).filterMap fun i => (⟨l⟩ : Array Nat)[i]?).toArray⟩ : Str) = _
 have : (fun i => (⟨l⟩ : Array Nat)[i]?) = fun i => l[i]? := funext fun i => (Array.getElem?_toList (xs := ⟨l⟩)).symm
 rw [this, hX l]
section
variable {X : Cx}
theorem ez : B6 X zo := by
 intro pins s σ H x v vl vu lo hi sl Q I rx hs pl pu h
 obtain ⟨z, rfl, hz, q⟩ := h
 obtain ⟨t, rfl⟩ := rx
 obtain ⟨l, rfl, e1⟩ : ∃ l : Option (Int × Tok), vl = partValue l /\ l.map (·.1) = lo := by
  cases pl with
  | none => exact ⟨none, rfl, rfl⟩
  | int i t => exact ⟨some (i, t), rfl, rfl⟩
 obtain ⟨u, rfl, e2⟩ : ∃ u : Option (Int × Tok), vu = partValue u /\ u.map (·.1) = hi := by
  cases pu with
  | none => exact ⟨none, rfl, rfl⟩
  | int i t => exact ⟨some (i, t), rfl, rfl⟩
 refine ⟨"str", _, F.slot_str_getitem.lookup, typeIs_str _ _ _, ?_⟩
 refine wpAny_getItem_str_slice (l := l) (u := u) (st := none) hs rfl ?_
 have ep : slicePicked z l u none = Builtin.Str.strSliceIndices lo hi 1 z.length := by unfold slicePicked; rw [e1, e2]; rfl
 unfold sliceMade
 rw [ep]
 split
 . rename_i c
   rw [Bool.and_eq_true] at c
   have := oK (z := z) (lo := lo) (hi := hi) (by simpa using c.2)
   rw [this] at q
   exact ⟨.str z, H, I, ⟨t, rfl⟩, q⟩
 . have hn : (List.filterMap (fun i => z.cps[i]?) (Builtin.Str.strSliceIndices lo hi 1 z.length)).length <= z.length := by
    refine Nat.le_trans (List.length_filterMap_le _ _) ?_
    exact mZ _ _ _
   have hl : (Str.mk (List.filterMap (fun i => z.cps[i]?) (Builtin.Str.strSliceIndices lo hi 1 z.length)).toArray).length <= z.length := by
    show (List.filterMap (fun i => z.cps[i]?) (Builtin.Str.strSliceIndices lo hi 1 z.length)).toArray.size <= _
    rw [List.size_toArray]; exact hn
   exact ⟨Nat.le_trans hl (Nat.le_of_lt (eB hz)), .str _, H, I.tok _, ⟨_, rfl⟩, q⟩
end
section
variable {σ : St} {H : Hp} {Q : VK} {D : Ends} {K : PySem.W.Frag}
end
section
variable {X : Cx} {k : Nat} {f C : Addr} {ps : List Str} {sp : Sp} {eR : List V} {E : XK} {x m : Str} {p pos apos : Pos} {e : Expr} {es : List Expr} {t : TA}
end
section
variable {prog : Program} {w : World} {A : Around} {E : Value -> Shared -> Prop} {s : Shared}
end
section
variable {σ : St} {H : Hp} {Q : VK} {D : Ends}
end
section
variable {X : Cx} {pins : List (Addr × Obj)} {σ : St} {H : Hp} {s : Shared} {h' : Heap}
theorem Inv.tR {t' : Nat} {i1 i2 : Addr} (I : Inv X pins σ H s) (k : ∀ b o, b ≠ i1 -> b ≠ i2 -> s.heap.get? b = some o -> h'.get? b = some o) (f1 : bC X pins H i1) (f2 : bC X pins H i2) : Inv X pins σ H { s with heap := h', toks := t' } := by
 have yg : ∀ b u, H b = some u -> b ≠ i1 /\ b ≠ i2 := fun b u e => ⟨fun z => (by rw [z, f1.1] at e; cases e), fun z => (by rw [z, f2.1] at e; cases e)⟩
 have nc : ∀ {b : Addr}, b ∉ [i1, i2] -> b ≠ i1 /\ b ≠ i2 := fun {b} h => by simpa using h
 refine I.step (g' := s.gens) (d' := s.drawn) (ch := [i1, i2]) (fun b hb => ?_) (fun b o _ _ hc e _ => k b o (nc hc).1 (nc hc).2 e) (fun b o _ _ hc e _ => ⟨o.slots, k b o (nc hc).1 (nc hc).2 e⟩) (fun _ _ _ _ n => n)
  (fun b o hc e => ⟨o, k b o (nc hc).1 (nc hc).2 e⟩) (fun _ _ e => e) (fun _ _ _ e => e) (fun b ps e => ⟨#[], by rw [e]; simp⟩) (fun m hm => ?_) (fun b u e => ?_) I.bare
 . have e : b = i1 \/ b = i2 := by simpa using hb
   rcases e with rfl | rfl
   . exact ⟨f1.2.2.2.1, f1.2.1, f1.2.2.2.2.1, f1.2.2.2.2.2⟩
   . exact ⟨f2.2.2.2.1, f2.2.1, f2.2.2.2.2.1, f2.2.2.2.2.2⟩
 . obtain ⟨o, es, ep, ho, r⟩ := hm
   exact ⟨o, es, ep, k _ o (Ne.symm f1.2.1) (Ne.symm f2.2.1) ho, r⟩
 . refine (I.aB b u e).jh (fun c v hc q => k c v ?_ ?_ q) (fun _ q => q) fun _ _ q => q
   . rcases hc with z | z
     . rw [z]; exact (yg b u e).1
     . exact (yg c _ z).1
   . rcases hc with z | z
     . rw [z]; exact (yg b u e).2
     . exact (yg c _ z).2
end
theorem dQ : entryFor table "enumerate.__iter__" = some Builtin.«dict_keyiterator.__iter__» :=
 entryFor_alias (id' := "dict_keyiterator.__iter__") (by kernel_rfl) rfl (by decide +kernel) (by kernel_rfl)
def Br (K : PySem.W.Frag) (a : Addr) : It := ⟨fun i H => ∃ xs x, bF K H a xs /\ xs[i]? = some x, fun i H v H' => ∃ t x, (∀ xs, bF K H a xs -> xs[i]? = some x) /\ v = .ref t /\ H t = none /\ H' = upd H t (.tup [.int i, x]), fun i H => ∃ xs, bF K H a xs /\ xs.length <= i⟩
theorem nX {P : Program} {w : World} {K : PySem.W.Frag} {elts : List Expr} {x1} {pos : Pos} {e it a : Addr} (jP : e ≠ it) :
 Turn P w K (.Tuple elts x1 pos) (Br K a) [e, it] e (fun i h => (∃ old, IsEnum h e it (i : Nat) old) /\ h.IsListIter it a i) where
 mem := by simp
 obj := fun i h st b hb => by
  have e' : b = e \/ b = it := by simpa using hb
  obtain ⟨⟨old, q⟩, o, e1, c, d⟩ := st
  rcases e' with rfl | rfl
  . exact ⟨_, q, fun v z => by cases z⟩
  . exact ⟨o, e1, fun v z => by rw [d] at z; cases z⟩
 keep := fun i h h' st k => ⟨let ⟨old, q⟩ := st.1; ⟨old, k e (by simp) _ q⟩, st.2.at fun o q => k it (by simp) o q⟩
 item := by
  intro X hP hw hK hc i pins s σ H E I hf st hg
  subst hP hw hK
  have fe := hf e (by simp)
  have fi := hf it (by simp)
  obtain ⟨xs, x, hq, hx⟩ := hg
  obtain ⟨aq, rv, p, hz⟩ := I.list hq
  obtain ⟨u, hu, ru⟩ := rv.get hx
  obtain ⟨⟨old, he⟩, hit⟩ := st
  have Ih : e < s.heap.objs.size := Heap.lt_size he
  have Bp : it < s.heap.objs.size := by obtain ⟨o, ho, _⟩ := id hit; exact Heap.lt_size ho
  have hn : H s.heap.objs.size = none := I.aB.fresh (Nat.le_refl _)
  refine wpAny_pyNext_enum_item he hit p.isList (x := u) (by simpa using hu) jP fun h' vC C6 ht Jc kk => ?_
  refine ⟨_, rfl, wpAny_letOwnedTupleGo_enum (s := { s with heap := h', toks := s.toks + 1 }) vC fun h2 Ia sb => ?_⟩
  replace sb : Heap.SameBut e h' h2 := sb
  let tb : Obj := { cls := .type "tuple", data := .seq #[.int i s.toks, u] }
  have I1 : Inv X pins σ (upd H s.heap.objs.size (.tup [.int i, x])) { s with heap := s.heap.push tb } :=
   I.laid (t' := s.toks) (fun b u e => Heap.get?_push_of_some _ e) (Nat.le_refl _) (show aP X.prog X.w _ _ _ (.tup [.int i, x]) from ⟨by rw [sizeLine_eq]; simp, [.int i s.toks, u], .cons ⟨_, rfl⟩ (.cons ru .nil), IsTup.new _ _⟩)
  have zE : upd H s.heap.objs.size (.tup [.int i, x]) e = none := by rw [ai (Nat.ne_of_lt Ih)]; exact fe.1
  have zc : upd H s.heap.objs.size (.tup [.int i, x]) it = none := by rw [ai (Nat.ne_of_lt Bp)]; exact fi.1
  have I2 : Inv X pins σ (upd H s.heap.objs.size (.tup [.int i, x])) { s with heap := h2, toks := s.toks + 1 } := by
   refine Inv.tR (s := { s with heap := s.heap.push tb }) (h' := h2) (t' := s.toks + 1) (i1 := e) (i2 := it) I1 (fun b u' xn jk q => ?_) ⟨zE, fe.2⟩ ⟨zc, fi.2⟩
   by_cases EY : b = s.heap.objs.size
   . subst EY
     have e0 : (s.heap.push tb).get? s.heap.objs.size = some tb := Heap.get?_push_size _ rfl
     have e1 := e0.symm.trans q
     cases e1
     exact (sb.2 _ xn).trans ht
   . exact (sb.2 _ xn).trans (kk b u' xn jk (lU q EY))
  refine ⟨.ref s.heap.objs.size, _, I2, rfl, ⟨_, x, fun ys hy => by rw [I.kn hy hq]; exact hx, rfl, hn, rfl⟩, ⟨⟨_, Ia⟩, C6.at fun o q => (sb.2 it (Ne.symm jP)).trans q⟩, fun b hb => ?_⟩
  have e' : b = e \/ b = it := by simpa using hb
  rcases e' with rfl | rfl
  . exact zE
  . exact zc
 done := by
  intro X hP hw hK hc i pins s σ H E I hf st hg
  subst hP hw hK
  obtain ⟨f0, f1, f2, f3, f4, f5⟩ := hf it (by simp)
  obtain ⟨xs, hq, hx⟩ := hg
  obtain ⟨aq, rv, p, hz⟩ := I.list hq
  have hl := rv.length
  obtain ⟨⟨old, he⟩, hit⟩ := st
  exact wpAny_pyNext_enum_end (I.ok.hd hc) he hit p.isList (by simp; omega) fun h' eb => ⟨rfl, I.turned (t' := s.toks) (fun b o hb e => eb b o hb e) f0 f1 f3 f4 f5⟩
 self := fun A i s Q E st q => by
  obtain ⟨⟨old, he⟩, hit⟩ := st
  have hT : s.TypeIs (.ref e) "enumerate" := ⟨_, he, rfl⟩
  refine wpAny_pyIter_slot hT F.slot_enumerate_iter (wpAny_call_entry F.slot_enumerate_iter hT dQ ?_ (F.args_enumerate_iter_1 _))
  show wpAny _ _ (ret (.ref e)) _ _ s
  exact wpAny_pure ⟨_, rfl, "enumerate", _, hT, F.slot_enumerate_next.lookup, q⟩
def vD (K : PySem.W.Frag) (ta : TA) : TI := fun σ H R => ta σ H fun vs H1 => ∃ a, vs = [.ref a] /\ (∃ xs, bF K H1 a xs) /\ R (Br K a) H1
theorem ud {X : Cx} {elts : List Expr} {x1} {x9 : Pos} {a : Expr} {ta : TA} {p pos : Pos} (hg : Gl X "enumerate") (hm : X.mg "enumerate" = none) (ha : PA X [a] ta) (hs : starEach [a] X.env = [(false, eval a X.env)] := by rfl) :
 PI X (.Tuple elts x1 x9) (.Call (.Name "enumerate" p) [a] [] pos) (vD X.K ta) := by
 intro pins s σ H R I h
 refine Call_ (cA I hg hm boot_enumerate (PyProof.Rows.callWith_type1 (bh (ha pos pins s σ H _ I h) fun us s1 ⟨vs, H1, I1, r1, q1⟩ => ?_) hs rfl))
 obtain ⟨l, e, ⟨xs, hq⟩, q⟩ := q1
 subst e
 cases r1 with
 | cons r rr =>
   cases rr
   cases r
   obtain ⟨aq, rv, p, hz⟩ := I1.list hq
   refine call_enumerate_list p.isList fun h' he hit hsz hk => ?_
   have hT : (⟨h', s1.gens, s1.drawn, s1.toks, s1.os⟩ : Shared).TypeIs (.ref (s1.heap.objs.size + 1)) "enumerate" := ⟨_, he, rfl⟩
   refine wpAny_pyIter_slot hT F.slot_enumerate_iter (wpAny_call_entry F.slot_enumerate_iter hT dQ ?_ (F.args_enumerate_iter_1 _))
   show wpAny _ _ (ret (.ref (s1.heap.objs.size + 1))) _ _ _
   refine wpAny_pure ⟨_, rfl, "enumerate", _, hT, F.slot_enumerate_next.lookup, ?_⟩
   refine ⟨s1.heap.objs.size + 1, [s1.heap.objs.size + 1, s1.heap.objs.size], _, _, H1, rfl, I1.kept (t' := s1.toks) hk, nX (a := l) (Nat.succ_ne_self _), ⟨⟨_, he⟩, hit⟩, fun b hb => ?_, q⟩
   have e : b = s1.heap.objs.size + 1 \/ b = s1.heap.objs.size := by simpa using hb
   rcases e with rfl | rfl
   . exact I1.gg (Nat.le_succ _) (I1.aB.fresh (Nat.le_succ _))
   . exact I1.gg (Nat.le_refl _) (I1.aB.fresh (Nat.le_refl _))
theorem m7 (num : Nat -> Int) : ∀ k, argBest (fun i j => decide (num i > num j)) k <= k /\ ∀ j, j <= k -> num j <= num (argBest (fun i j => decide (num i > num j)) k)
 | 0 => ⟨Nat.le_refl _, fun j hj => by have : j = 0 := by omega
                                       subst this; exact Int.le_refl _⟩
 | k + 1 => by
   obtain ⟨h1, h2⟩ := m7 num k
   unfold argBest
   by_cases h : num (k + 1) > num (argBest (fun i j => decide (num i > num j)) k)
   . rw [if_pos (decide_eq_true h)]
     refine ⟨Nat.le_refl _, fun j hj => ?_⟩
     by_cases hk : j = k + 1
     . subst hk; exact Int.le_refl _
     . exact Int.le_trans (h2 j (by omega)) (Int.le_of_lt h)
   . rw [if_neg (by simpa using h)]
     refine ⟨by omega, fun j hj => ?_⟩
     by_cases hk : j = k + 1
     . subst hk; omega
     . exact h2 j (by omega)
section
variable {X : Cx}
def vo : List V -> Hp -> VK -> Prop := fun xs H Q => ∃ (v : V) (ns : List Int), xs = [v] /\ Dv H v (.list (ns.map PyData.int)) /\ 0 < ns.length /\ ∀ m ∈ ns, (∀ k ∈ ns, k <= m) -> Q (.int m) H
theorem oR (hc : X.calm = true) : bL X (.builtin "max") vo := by
 intro pins s σ H xs us Q I r h
 obtain ⟨v, ns, rfl, hd, Aa, q⟩ := h
 obtain ⟨u, rfl, ru⟩ := vals1 r
 obtain ⟨p, ys, rfl, e, dv⟩ := hd.lst_inv
 obtain ⟨aq, yR, pl, _⟩ := I.list (e X.K)
 cases ru
 have hI := gA dv yR
 have hn : aq.toArray.size = ns.length := by rw [List.size_toArray, hI.length]
 have cz : p < s.heap.objs.size := by obtain ⟨o, n, e1, _⟩ := pl; exact Heap.lt_size e1
 have hA : X.A.in1.handled = none := I.ok.hd hc
 refine call_max_walk (wpAny_pyIter_list pl.isList ?_)
 refine ⟨s.heap.objs.size, _, _, _, _, _, fun i j => decide (ns.getD i 0 > ns.getD j 0), rfl, Walks.list hA _ p (Nat.ne_of_lt cz) aq.toArray, ⟨⟨_, Heap.get?_push_size _ rfl, rfl, rfl⟩, pl.isList.at fun o e => Heap.get?_push_of_some _ e⟩, ?_, by omega, CmpOf.ints_gt (fun i => ns.getD i 0) ?_, ?_⟩
 . intro b hb
   rw [Heap.size_push]
   have : b = s.heap.objs.size \/ b = p := by simpa using hb
   rcases this with rfl | rfl
   . exact Nat.lt_succ_self _
   . exact Nat.lt_succ_of_lt cz
 . intro i v hv
   exact hI.int_at i v (by simpa using hv)
 . intro v h' tk hP hk
   have b := m7 (fun i => ns.getD i 0) (aq.toArray.size - 1)
   generalize argBest (fun i j => decide (ns.getD i 0 > ns.getD j 0)) (aq.toArray.size - 1) = ix at b hP
   obtain ⟨b1, b2⟩ := b
   obtain ⟨t, rfl⟩ := hI.int_at ix v (by simpa using hP)
   have I1 := I.kept (t' := s.toks) (h' := s.heap.push { cls := Value.type "list_iterator", data := Data.fields #[Value.ref p, Value.int 0 0] }) fun b o e => Heap.get?_push_of_some _ e
   have fp := I.gg (H' := H) (Nat.le_refl _) (I.aB.fresh (Nat.le_refl _))
   have I2 := I1.turned (t' := tk) (h' := h') (it := s.heap.objs.size) (fun b o hb e => hk b o (by simpa using hb) e) fp.1 fp.2.1 fp.2.2.2.1 fp.2.2.2.2.1 fp.2.2.2.2.2
   have hb : ix < ns.length := by omega
   refine ⟨.int _, H, I2, ⟨t, rfl⟩, q _ ?_ ?_⟩
   . rw [List.getD_eq_getElem?_getD, List.getElem?_eq_getElem hb]; exact List.getElem_mem hb
   . intro k hk
     obtain ⟨j, hj, rfl⟩ := List.getElem_of_mem hk
     have := b2 j (by omega)
     rwa [List.getD_eq_getElem?_getD (i := j), List.getElem?_eq_getElem hj] at this
end
section
variable {σ : St} {H : Hp} {Q : VK}
theorem wW {v : V} {ns : List Int} (hp : Dv H v (.list (ns.map PyData.int))) (hl : 0 < ns.length) (h : ∀ m ∈ ns, (∀ k ∈ ns, k <= m) -> Q (.int m) H) : vo [v] H Q := ⟨v, ns, rfl, hp, hl, h⟩
end
section
variable {σ : St} {H : Hp} {Q : VK} {K : PySem.W.Frag} {v : V}
theorem xD {k : Nat} {ta : TA} {g : TG} {tc : TT} {te : TE} (h : ta σ H fun vs H1 => ∃ a, vs = [.ref a] /\ (∃ xs, bF K H1 a xs) /\ yQ k g tc te (jU Q) σ (Br K a) H1) : za k (vD K ta) g tc te σ H Q := h
theorem AV {k : Nat} {g : TG} {tc : TT} {te : TE} {α : Type} {cs : List α} {gd : α -> PyData} (pf : α × Nat -> Bool) (fd : α × Nat -> PyData) (hl : Dv H v (.list (cs.map gd))) (hlen : cs.length <= 4000) (hi : ∀ c, gZ (fd c) = true)
 (turn : ∀ x c H' (N : Option V -> Hp -> Prop), c ∈ cs.zipIdx -> ah H H' -> Dv H' x (.tuple [.int c.2, gd c.1]) -> (pf c = true -> ∀ y H4, ah H' H4 -> Dv H4 y (fd c) -> N (some y) H4) -> (pf c = false -> ∀ H3, ah H' H3 -> N none H3) ->
  g x (List.replicate k none ++ σ) H' fun σ2 H2 => tc σ2 H2 fun b H3 => Bt te N σ2 b H3)
 (kk : ∀ q H', ah H H' -> H q = none -> bJ H' q ((cs.zipIdx.filter pf).map fd) -> Q (.ref q) H') : ∃ a, [v] = [.ref a] /\ (∃ xs, bF K H a xs) /\ yQ k g tc te (jU Q) σ (Br K a) H := by
 obtain ⟨p, xs, rfl, e, dv⟩ := hl.lst_inv
 have vW : bF K H p xs := e K
 have Dw : xs.length = cs.length := by rw [dv.length, List.length_map]
 have FU : cs.zipIdx.length = cs.length := List.length_zipIdx
 refine ⟨p, rfl, ⟨xs, vW⟩, fun i m acc H' => i <= cs.length /\ m = cs.length - i /\ ah H H' /\ aZ H' acc (((cs.zipIdx.take i).filter pf).map fd), ⟨cs.length, Nat.zero_le _, rfl, ah.refl _, by simpa using aZ.nil⟩, ?_⟩
 rintro i m acc H' ⟨Ga, hm, sm, cU⟩
 have uB : bF K H' p xs := ah.seq sm vW
 have pG : acc.length <= cs.length := by
  rw [cU.length, List.length_map]
  exact Nat.le_trans (List.length_filter_le _ _) (by rw [List.length_take]; omega)
 by_cases hc : i = cs.length
 . left
   refine ⟨⟨xs, uB, by omega⟩, fun q hq => ?_⟩
   rw [hc, <- FU, List.take_length] at cU
   have e8 : ah H (upd H' q (.lst acc)) := sm.trans (aY hq)
   exact kk q _ e8 (sm.none hq) ⟨acc, av, cU.keeps (aY hq), bM hi _⟩
 . right
   have cz : i < cs.length := by omega
   have DJ : i < xs.length := by omega
   refine ⟨⟨xs, xs[i], uB, List.getElem?_eq_getElem DJ⟩, eB (by omega), fun x H2 hy => ?_⟩
   obtain ⟨t, x', hy, rfl, ht, rfl⟩ := hy
   have hx := hy xs uB
   have Ag : cs[i]? = some cs[i] := List.getElem?_eq_getElem cz
   obtain ⟨x2, Fs, hd⟩ := dv.get (i := i) (d := gd cs[i]) (by rw [List.getElem?_map, Ag]; rfl)
   rw [hx] at Fs
   cases Fs
   have Es : cs.zipIdx[i]? = some (cs[i], i) := by rw [List.getElem?_zipIdx, Ag]; simp
   have nh : cs.zipIdx.take (i + 1) = cs.zipIdx.take i ++ [(cs[i], i)] := by rw [List.take_add_one, Es]; rfl
   have zG : ah H' (upd H' t (.tup [.int i, x'])) := aY ht
   have e8 := sm.trans zG
   exact turn (.ref t) (cs[i], i) _ (fun o H4 => match o with | some y => ∃ m', m' < m /\ i + 1 <= cs.length /\ m' = cs.length - (i + 1) /\ ah H H4 /\ aZ H4 (acc ++ [y]) (((cs.zipIdx.take (i + 1)).filter pf).map fd) | none => ∃ m', m' < m /\ i + 1 <= cs.length /\ m' = cs.length - (i + 1) /\ ah H H4 /\ aZ H4 acc (((cs.zipIdx.take (i + 1)).filter pf).map fd))
    (List.mem_of_getElem? Es) e8 (.tup av (.cons (.int _) (.cons (hd.keeps e8) .nil)))
    (fun hp y H4 s4 d4 => ⟨cs.length - (i + 1), by omega, cz, rfl, e8.trans s4, by
     rw [nh, List.filter_append, List.map_append]
     simp only [List.filter_cons, hp, if_true, List.filter_nil, List.map_cons, List.map_nil]
     exact aZ.append (cU.keeps (zG.trans s4)) (.cons d4 .nil)⟩)
    (fun hp H3 s3 => ⟨cs.length - (i + 1), by omega, cz, rfl, e8.trans s3, by
     rw [nh, List.filter_append, List.map_append]
     simp only [List.filter_cons, hp, Bool.false_eq_true, if_false, List.filter_nil, List.map_nil, List.append_nil]
     exact cU.keeps (zG.trans s3)⟩)
end
end L2
namespace L2
open PySem
theorem cw {z : Str} {lo hi : Option Int} : ∀ c ∈ (bz z lo hi).cps.toList, c ∈ z.cps.toList := by
 intro c hc
 unfold bz at hc
 have hc : c ∈ (Builtin.Str.strSliceIndices lo hi 1 z.length).filterMap (z.cps[·]?) := by simpa using hc
 obtain ⟨i, _, hi⟩ := List.mem_filterMap.mp hc
 have := Array.mem_of_getElem? hi
 simpa using this
theorem bQ (z : Str) (lo hi : Option Int) : (bz z lo hi).length <= z.length := by
 show ((Builtin.Str.strSliceIndices lo hi 1 z.length).filterMap (z.cps[·]?)).toArray.size <= _
 rw [List.size_toArray]
 exact Nat.le_trans (List.length_filterMap_le _ _) (mZ _ _ _)
section
variable {H : Hp} {Q : VK} {K : PySem.W.Frag}
theorem yp {z : Str} {lo hi : Option Int} (hl : z.length <= 4000) (h : (bz z lo hi).length <= z.length -> Q (.str (bz z lo hi)) H) : zo (.str z) lo hi H Q := ⟨z, rfl, hl, h (bQ z lo hi)⟩
theorem xK {z : Str} {i : Int} (hz : z.length <= 4000) (h0 : 0 <= i) (h1 : i < z.length) (h : ∀ c, z.cps.toList[i.toNat]? = some c -> Q (.str ⟨#[c]⟩) H) : jx K (.str z) (.int i) H Q := by
 obtain ⟨m, rfl⟩ := Int.eq_ofNat_of_zero_le h0
 have hi : m < z.cps.toList.length := by
  have : z.length = z.cps.toList.length := by show z.cps.size = _; simp
  omega
 exact yj (Nat.le_of_lt (eB hz)) (fc (List.getElem?_eq_getElem hi)) (h _ (List.getElem?_eq_getElem hi))
end
end L2
namespace L2
open PySem PySem.Spec PyProof.Rows PySem.W
section
variable {X : Cx}
end
section
variable {σ : St} {H : Hp} {Q : VK}
end
section
variable {X : Cx} {pins : List (Addr × Obj)} {σ : St} {H : Hp} {s : Shared}
end
section
variable {σ : St} {H : Hp} {Q : VK}
end
section
variable {σ : St} {H : Hp} {Q : VK} {K : PySem.W.Frag} {p : Addr} {m : List (Str × PyData)} {k : Str}
end
def Fg (h : Heap) (a T : Addr) (c : Value) (od : Option Addr) : Prop := ∃ oe vs oT ts, h.get? a = some oe /\ oe.cls = c /\ oe.dict = od /\ oe.data = .fields vs /\ vs[1]? = some (.ref T) /\ T ≠ a /\ h.get? T = some oT /\ oT.data = .fields ts /\ ts[3]? = some .none /\ vs[2]? = some .none
section
variable {M : Model} {A : Around} {E : Value -> Shared -> Prop} {s : Shared} {env : Env} {outer : List Env} {L a T : Addr} {c : Value} {od : Option Addr} {base : Heap} {Q : Unit -> Shared -> Prop}
end
def HD (P : Program) (w : World) : kz := fun outer H s E e s' => ∃ a T C od H', e = .ref a /\ s'.os = s.os /\ AllBare s'.gens /\ Un (kr outer) [] H H' s.heap s'.heap /\ eO P w H' s'.heap /\ Fg s'.heap a T (.ref C) od /\ s.heap.get? a = none /\ s.heap.get? T = none /\ H' a = none /\ H' T = none /\ E (.ref C) od H'
section
variable {P : Program} {w : World} {K : PySem.W.Frag} {mg : Str -> Option Value} {base : Heap} {N : List Str} {qual : Str} {scope : Scope} {f : Addr} {cd : Value} {A : Around} {outer : List Env} {s0 : Shared} {H0 : Hp} {E : XK} {CX : kz} {pins : List (Addr × Obj)} {σ : St} {H : Hp} {s : Shared}
end
structure HX (P : Program) (w : World) (K : PySem.W.Frag) (mg : Str -> Option Value) (base : Heap) (k : Nat) (f : Addr) (ps : List Str) (eR : List V) (sp : Sp) : Prop where
 ex : ∃ (fd : FuncData) (ds : List Value), bK P w K mg base (HD P w) k f fd ps sp /\ Binds K fd ps ds /\ Vals eR ds
section
variable {X : Cx} {CX : kz} {k : Nat} {f C : Addr} {fd : FuncData} {ps : List Str} {sp : Sp} {eR : List V} {ds : List Value} {E : St -> XK} {x m : Str} {p pos apos : Pos} {e o : Expr} {es : List Expr} {ta : TE} {t : TA}
end
section
variable {P : Program} {w : World} {K : PySem.W.Frag} {mg : Str -> Option Value} {base : Heap}
end
section
variable {prog : Program} {w : World} {A : Around} {E : Value -> Shared -> Prop} {s : Shared} {K : PySem.W.Frag} {x C : Addr} {ox : Obj} {name : Str} {v : Value} {cd : ClassData}
open Builtin.ObjectAttr in
open Builtin.ObjectAttr in
end
structure Ik (K : PySem.W.Frag) (C W fI : Addr) : Prop where
 cls : ∃ (nm q : Str) (N : Addr) (bs : List Value) (sn : List Str) (sub : List Value) (ab : Bool) (col : Option Bool) (dd : Option Addr) (k0 k1 k2 k3 k5 : Option Value), K.lookup C = some (excClassObj nm q C N bs (.ref W :: Ci) true sn sub ab col dd k0 k1 k2 k3 k5 "ValueError.__new__")
 up : yA K W
 init : PySem.W.findIn K (.ref C) "__init__" = some (some (.ref fI))
 fn : PySem.W.isFn K (.ref fI) = true
 te : GZ K C
 sa : PySem.W.findIn K (.ref C) "__setattr__" = some (some (.builtin "object.__setattr__"))
 tk : PySem.W.takerIn K C "name" = some none
 nm : PySem.W.findIn K (.ref C) "name" = some none
def CO (K : PySem.W.Frag) (C : Addr) : Prop := ∀ h : Heap, K.In h -> ∃ (bm : List Value) (N : Addr) (nm q : Str) (bs : List Value) (hd : Bool) (sn : List Str) (sub : List Value) (ab : Bool) (col : Option Bool) (dd : Option Addr) (k0 k1 k2 k3 k5 : Option Value),
 h.get? C = some (excClassObj nm q C N bs bm hd sn sub ab col dd k0 k1 k2 k3 k5 "ValueError.__new__") /\ OwnTail h Ci bm
theorem yA.o {K : PySem.W.Frag} {C : Addr} (h : yA K C) : CO K C := fun hp X => by
 obtain ⟨bm, N, nm, q, bs, hd, sn, sub, ab, col, dd, k0, k1, k2, k3, k5, mN, hC, _, _, T⟩ := wt X h
 exact ⟨bm, N, nm, q, bs, hd, sn, sub, ab, col, dd, k0, k1, k2, k3, k5, hC, T⟩
section
variable {prog : Program} {w : World} {A : Around} {E : Value -> Shared -> Prop} {h : Heap} {g : Array GenState} {d : Drawn} {t : Nat} {os : OsState}
variable {nm q : Str} {C N : Addr} {bs bm yS : List Value} {Eg : Bool} {sn : List Str} {sub : List Value} {ab : Bool} {col : Option Bool} {dd : Option Addr} {k0 k1 k2 k3 k5 : Option Value} {B newId BL : String}
end
structure Fw (K : PySem.W.Frag) (W : Addr) : Prop where
 ga : PySem.W.specialIn K (.ref W) "__getattribute__" = some (some (.builtin "type.__getattribute__"))
 rd : PySem.W.readsIn K W (.type "type") = true
 fd : PySem.W.findCls K (.ref W) (.type "type") "__init__" = some (.val (.builtin "ValueError.__init__"))
section
variable {X : Cx} {W : Addr} {x : Str} {p pos apos : Pos} {e : Expr} {es : List Expr} {t : TA} {pl : Sem Bool}
end
def del (H : Hp) (a : Addr) : Hp := fun b => if b = a then none else H b
section
variable {prog : Program} {w : World} {A : Around} {E : Value -> Shared -> Prop} {s : Shared} {env : Env}
variable {nm q : Str} {C N : Addr} {bs bm yS : List Value} {Eg : Bool} {sn : List Str} {sub : List Value} {ab : Bool} {col : Option Bool} {dd : Option Addr} {k0 k1 k2 k3 k5 : Option Value} {newId : String}
end
def GA (X : Cx) (cl : Expr) (hit : Addr -> Bool -> Prop) : Prop := ∀ (a C T : Addr) (od : Option Addr) (pins : List (Addr × Obj)) (σ : St) (H : Hp) (s : Shared) (Q : Bool -> Shared -> Prop) (E : Value -> Shared -> Prop) (b : Bool), Inv X pins σ H s -> Fg s.heap a T (.ref C) od -> hit C b ->
 (∀ h', (∀ b o, s.heap.get? b = some o -> h'.get? b = some o) -> Q b { s with heap := h' }) ->
 wpAny (model X.prog X.w) (X.hand a).A (eval cl X.env) (fun c s1 => wpAny (model X.prog X.w) (X.hand a).A (excMatches (.ref a) c) Q E s1) E s
structure Ex where
 hit : Addr -> Bool -> Prop
 i : Option Nat
 ts : Addr -> TS
def xY (X : Cx) : Option Str -> Option Nat -> Prop
 | some n, some i => X.N[i]? = some n /\ X.env.scope.names.lookup n = some .local
 | none, none => True
 | _, _ => False
inductive pW (X : Cx) : List ExceptHandler -> List Ex -> Prop
 | nil : pW X [] []
 | cons {cl : Expr} {n : Option Str} {b0 : Stmt} {uX : List Stmt} {pos : Pos} {hs : List ExceptHandler} {hit : Addr -> Bool -> Prop} {i : Option Nat} {ts : Addr -> TS} {rs : List Ex} (hc : GA X cl hit) (hb : ∀ a, j9 (X.hand a) (b0 :: uX) (ts a)) (hn : xY X n i) (r : pW X hs rs) :
  pW X (.ExceptHandler (some cl) n (b0 :: uX) pos :: hs) (⟨hit, i, ts⟩ :: rs)
section
variable {X : Cx} {pins : List (Addr × Obj)} {σ : St} {H : Hp} {a C : Addr} {od : Option Addr} {Dn : Ends}
end
section
variable {X : Cx} {e : Expr} {te : TE} {y y2 : Str} {k k2 : Nat} {p1 p2 p3 pos : Pos}
end
section
variable {σ : St} {H : Hp} {Q : VK} {D : Ends} {K : PySem.W.Frag} {C : Addr} {E : St -> XK}
end
section
variable {prog : Program} {w : World} {A : Around} {R : Result -> Shared -> Prop} {I S : Addr} {fp wr : List Addr} {n : Nat} {P : Nat -> Value -> Prop} {St : Nat -> Heap -> Prop} {bt : Nat -> Nat -> Bool}
end
section
variable {prog : Program} {w : World} {A : Around} {E : Value -> Shared -> Prop} {s : Shared}
end
section
variable {X : Cx}
end
section
variable {σ : St} {H : Hp} {Q : VK} {D : Ends} {K : PySem.W.Frag}
end
def xV : Expr -> Option V
 | .Constant (.int i) _ _ => some (.int i)
 | .Constant (.str x) _ _ => some (.str x)
 | .Constant (.bool b) _ _ => some (.bl b)
 | .Constant .none _ _ => some .a7
 | _ => none
def pQ : List Expr -> Option (List V)
 | [] => some []
 | e :: es => match xV e, pQ es with
   | some v, some vs => some (v :: vs)
   | _, _ => none
def uO (vs : List V) : TA := fun _ H Q => Q vs H
theorem mH {X : Cx} {e : Expr} {v : V} (h : xV e = some v) : PE X e (tC v) /\ ∀ es : List Expr, starEach (e :: es) X.env = (false, eval e X.env) :: starEach es X.env := by
 unfold xV at h
 split at h <;> cases h <;> refine ⟨?_, fun _ => rfl⟩
 . exact af
 . exact my
 . exact nD
 . exact wA
theorem mY {X : Cx} : ∀ {es : List Expr} {vs : List V}, pQ es = some vs -> PA X es (uO vs)
 | [], vs, h => by cases h; exact ak
 | e :: es, vs, h => by
   unfold pQ at h
   split at h
   . rename_i v HQ h1 h2
     cases h
     exact ae (mH h1).1 (mY h2) ((mH h1).2 es)
   . cases h
theorem xX {σ : St} {H : Hp} {vs : List V} {Q : List V -> Hp -> Prop} (h : Q vs H) : uO vs σ H Q := h
section
variable {X : Cx}
end
section
open PySem.SeqAt
open PySem.AutoSeq1 (wpAny_loadPart')
open PySem.MeetsSeq PySem.MeetsSeq2 PySem.MeetsSeq3
end
section
variable {X : Cx}
end
section
variable {σ : St} {H : Hp} {Q : VK} {D : Ends} {K : PySem.W.Frag}
end
def BM (mg : Str -> Option Value) (h : Heap) : Prop := ∃ bm ob, mg "__builtins__" = some (.ref bm) /\ bm ≠ builtinsNs /\ h.get? bm = some ob /\ ob.cls = .type "module" /\ ob.dict = some builtinsNs /\ ob.data = .plain
def gM (c : Addr) (q : Str) : HO := .ext fun h => h.CodeRec (.ref c) q
def TabAt (H : Hp) (P : Addr) (pos : Pos) (q : Str) : Prop := H P = some (.eU #[]) \/ ∃ c, c ≠ P /\ H P = some (.eU #[rawInt pos.line, rawInt pos.col, .ref c]) /\ H c = some (gM c q)
theorem TabAt.keeps {H H' : Hp} {P : Addr} {pos : Pos} {q : Str} (sm : ah H H') (h : TabAt H P pos q) : TabAt H' P pos q := by
 rcases h with h | ⟨c, h0, h1, h2⟩
 . exact .inl (sm _ _ h)
 . exact .inr ⟨c, h0, sm _ _ h1, sm _ _ h2⟩
theorem rW {P : Program} {w : World} {H : Hp} {h : Heap} {c : Addr} {q : Str} (e : h.CodeRec (.ref c) q) : aP P w H h c (gM c q) := by
 refine ⟨e, ?_, fun h1 h2 x k => ?_⟩
 . obtain ⟨c', o, vs, t, e1, e2, _⟩ := e
   cases e1
   exact ⟨o, e2⟩
 . obtain ⟨c', o, vs, t, e1, e2, r⟩ := x
   cases e1
   exact ⟨c, o, vs, t, rfl, k _ e2, r⟩
section
variable {X : Cx} {pins : List (Addr × Obj)} {σ : St} {H : Hp} {s : Shared} {c P : Addr} {params : Arguments} {body : Expr} {scope : Scope} {pos : Pos} {a0 : List (Str × Addr)} {E : Value -> Shared -> Prop}
theorem Inv.grow {h' : Heap} {c' P : Addr} {ps more : Array Value} {q : Str} {tk : Nat} (I : Inv X pins σ H s) (hT : H P = some (.eU ps)) (hx : Heap.ExtBut P s.heap h') (yM : s.heap.objs.size <= c') (vZ : h'.CodeRec (.ref c') q) (hP : h'.get? P = some (tabObj (ps ++ more))) :
 Inv X pins σ (upd (upd H P (.eU (ps ++ more))) c' (gM c' q)) { s with heap := h', toks := tk } := by
 have lR : H c' = none := I.aB.fresh yM
 have BF : P ≠ c' := aw hT lR
 have nP : ∀ b, H b = none -> b ≠ P := fun b n z => by rw [z, hT] at n; cases n
 have kp : ∀ b u, b ≠ P -> H b = some u -> upd (upd H P (.eU (ps ++ more))) c' (gM c' q) b = some u := fun b u hb e => by rw [ai (aw e lR), ai hb]; exact e
 have Ge : upd (upd H P (.eU (ps ++ more))) c' (gM c' q) P = some (.eU (ps ++ more)) := by rw [ai BF, av]
 refine I.step (g' := s.gens) (d' := s.drawn) (ch := []) (fun _ z => nomatch z) (fun b o _ _ _ e n => hx b o (nP b n) e) (fun b o _ _ _ e n => ⟨o.slots, hx b o (nP b n) e⟩) (fun b o _ e n => ?_) (fun b o _ e => ?_) (fun b xs e => kp b _ (fun z => by rw [z, hT] at e; cases e) e)
  (fun b o u e => kp b _ (fun z => by rw [z, hT] at e; cases e) e) (fun b Ja e => ?_) (fun m hm => ?_) (fun b u e => ?_) I.bare
 . rw [ai (Nat.ne_of_lt (Nat.lt_of_lt_of_le (Heap.lt_size e) yM)), ai (nP b n)]; exact n
 . by_cases hb : b = P
   . exact ⟨_, hb ▸ hP⟩
   . exact ⟨o, hx b o hb e⟩
 . by_cases hb : b = P
   . subst hb
     rw [hT] at e; cases e
     exact ⟨more, Ge⟩
   . exact ⟨#[], by rw [kp b _ hb e]; simp⟩
 . obtain ⟨o, es, ep, ho, r⟩ := hm
   exact ⟨o, es, ep, hx _ o (nP _ I.free) ho, r⟩
 . by_cases hb : b = c'
   . subst hb
     rw [av] at e; cases e
     exact rW vZ
   . rw [ai hb] at e
     by_cases jk : b = P
     . subst jk
       rw [av] at e; cases e
       exact hP
     . rw [ai jk] at e
       refine (I.aB b u e).jh (fun d v hd z => hx d v (fun y => ?_) z) (fun d z => kp d _ (fun y => by rw [y, hT] at z; cases z) z) fun d xs z => kp d _ (fun y => by rw [y, hT] at z; cases z) z
       rcases hd with rfl | hd
       . exact jk y
       . rw [y, hT] at hd; cases hd
theorem qA {Q : Value -> Shared -> Prop} (I : Inv X pins σ H s) (iE : X.env.code = .ref c) (C : CodeHd X.base c P) (hB : BM X.mg X.base) (hT : TabAt H P pos (X.env.qual ++ "<lambda>")) (DB : defaultsOf params X.env = ([], [])) (gb : closureFor scope X.env = pure a0)
 (h : ∀ g c' pm kI H' s', Inv X (pins ++ [(g, kla_obj "<lambda>" (X.env.qual ++ "<lambda>") params body scope a0 pm c' kI)]) σ H' s' -> H' c' = some (gM c' (X.env.qual ++ "<lambda>")) -> Mv [P] H H' -> TabAt H' P pos (X.env.qual ++ "<lambda>") -> Q (.ref g) s') :
 wpAny (model X.prog X.w) X.A (eval (.Lambda params body scope pos) X.env) Q E s := by
 obtain ⟨bm, ob, b1, b2, b3, b4, b5, b6⟩ := hB
 have EK : s.heap.Ns mainGlobals X.mg := I.mod.glob.keeps I.bk
 have Cs := C.keeps I.bk
 have zv : ∀ {h' : Heap} {H' : Hp} {o : Obj} {tk : Nat}, Inv X pins σ H' { s with heap := h'.push o, toks := tk } -> s.heap.objs.size <= h'.objs.size -> H' h'.objs.size = none -> (∀ v, o.data ≠ .cell v) -> o.isFreed = false -> Inv X (pins ++ [(h'.objs.size, o)]) σ H' { s with heap := h'.push o, toks := tk } := fun {h' H' o tk} J hsz hn hv mL => J.cJ fun p hp => by
  rcases List.mem_append.mp hp with hp | hp
  . exact J.pin p (List.mem_append_right _ hp)
  . rw [List.mem_singleton.mp hp]
    exact ⟨Heap.get?_push_size _ mL, hn, Nat.ne_of_gt (Nat.lt_of_lt_of_le I.lt hsz), I.zJ hsz, hv⟩
 have Fx : ∀ ps, H P = some (.eU ps) -> bm ≠ P := fun ps e z => by
  have := (I.bs bm ob b3).2
  rw [z, e] at this; cases this
 have Fj : bm ≠ mainGlobals := fun z => by
  obtain ⟨o, es, ep, e, hd, _⟩ := I.mod.glob
  rw [z, e] at b3; cases b3; rw [hd] at b6; cases b6
 have F2 : ∀ ps, H P = some (.eU ps) -> mainGlobals ≠ P := fun ps e z => by
  obtain ⟨o, es, ep, e1, hd, _⟩ := I.mod.glob
  have := (I.bs _ o e1).2
  rw [z, e] at this; cases this
 refine kla_eval DB ?_
 rcases hT with hT | ⟨c', FD, hT, kN⟩
 . have BZ : s.heap.get? P = some (tabObj #[]) := I.aB P _ hT
   refine kla_makeFunction (mg := X.mg) gb I.ok.glob EK iE Cs BZ trivial rfl (F2 _ hT) ⟨bm, ob, b1, b2, Fj, Fx _ hT, (I.bs _ _ b3).1, b4, b5, b6⟩ fun c' kI h' tk hx yM cz vZ GF => ?_
   have J := I.grow (tk := tk) hT hx yM vZ GF
   have lR : H c' = none := I.aB.fresh yM
   have BF : P ≠ c' := aw hT lR
   have J2 := J.fb (o := kla_obj "<lambda>" (X.env.qual ++ "<lambda>") params body scope a0 ((X.mg "__name__").getD .none) c' kI)
   have hsz : s.heap.objs.size <= h'.objs.size := Nat.le_trans yM (Nat.le_of_lt cz)
   refine h h'.objs.size c' _ kI _ _ (zv J2 hsz (J.aB.fresh (Nat.le_refl _)) (fun v z => by cases z) rfl) av ⟨fun b o hb e => ?_, fun b xs e => ?_, fun b e => ?_⟩ (.inr ⟨c', Ne.symm BF, by rw [ai BF, av]; rfl, av⟩)
   . rw [ai (aw e lR), ai (by simpa using hb)]; exact e
   . rw [ai (aw e lR), ai (fun z => by rw [z, hT] at e; cases e)]; exact e
   . by_cases hb : b = c'
     . rw [hb]; exact lR
     . rw [ai hb] at e
       by_cases jk : b = P
       . rw [jk, av] at e; cases e
       . rw [ai jk] at e; exact e
 . have BZ : s.heap.get? P = some (tabObj #[rawInt pos.line, rawInt pos.col, .ref c']) := I.aB P _ hT
   refine kla_makeFunctionHit (mg := X.mg) gb I.ok.glob EK iE Cs BZ ?_ (cv := .ref c') ?_ ⟨bm, ob, b1, b2, Fj, Fx _ hT, (I.bs _ _ b3).1, b4, b5, b6⟩ fun kI h' tk hk hsz => ?_
   . simp [TriplesOk, rawInt]
   . exact codeAmong_snoc [] trivial rfl
   have J2 : Inv X pins σ H { s with heap := h'.push (kla_obj "<lambda>" (X.env.qual ++ "<lambda>") params body scope a0 ((X.mg "__name__").getD .none) c' kI), toks := tk } := I.kept fun b u e => Heap.get?_push_of_some _ (hk b u e)
   exact h h'.objs.size c' _ kI _ _ (zv J2 hsz (I.aB.fresh hsz) (fun v z => by cases z) rfl) kN Mv.refl (.inr ⟨c', FD, hT, kN⟩)
end
def gS (qual : Str) (scope : Scope) (L g : Addr) (cd : Value) (a0 : List (Str × Addr)) : Env := newEnv scope L mainGlobals a0 (qual ++ ".<locals>.") (some g) cd none builtinsNs
def kd (X : Cx) (A : Around) (N : List Str) (qual : Str) (scope : Scope) (g : Addr) (cd : Value) (a0 : List (Str × Addr)) (s : Shared) (H : Hp) : Cx where
 prog := X.prog
 w := X.w
 K := X.K
 mg := X.mg
 base := X.base
 A := A.deeper (gS qual scope s.heap.objs.size g cd a0)
 N := N
 bE := s
 oZ := H
 env := gS qual scope s.heap.objs.size g cd a0
 outer := X.stack
 stack := gS qual scope s.heap.objs.size g cd a0 :: X.stack
 ex := []
 fn := fun _ => false
 calm := true
 pn := []
 xe := fun _ _ => False
structure eZ (N : List Str) (p : Str) (scope : Scope) : Prop where
 kind : scope.kind = .function
 co : scope.isCoroutine = false
 gen : scope.isGenerator = false
 nd : N.Nodup
 pre : N[0]? = some p
 par : scope.names.lookup p = some .local
 rD : ∀ y ∈ scope.names, y.2 ≠ .cell
def rV (X : Cx) (σ : St) (N : List Str) (scope : Scope) (v : V) (σ' : St) : Prop := σ'.length = N.length /\ σ'[0]? = some (some v) /\ ∀ (i : Nat) (x : Str) (w : V), 0 < i -> N[i]? = some x -> σ'[i]? = some (some w) -> scope.names.lookup x = some .free /\ ∃ j : Nat, X.N[j]? = some x /\ σ[j]? = some (some w) /\ (X.env.kindOf x = some .cell \/ X.env.kindOf x = some .free)
section
variable {X : Cx} {pins : List (Addr × Obj)} {σ σ' : St} {H : Hp} {s : Shared} {A : Around} {N : List Str} {p name qual : Str} {params : Arguments} {body : Expr} {scope : Scope} {a0 : List (Str × Addr)} {g c' : Addr} {pm kI : Value} {v : V} {u : Value} {k : Nat} {Q : VK} {te : TE}
theorem o5 {h1 : Heap} {tk : Nat} {cd : Value} (I : Inv X pins σ H s) (hA : A.frames = some X.stack) (hh : A.handled = none) (S : eZ N p scope) (gb : ∀ x c, a0.lookup x = some c -> X.env.cells.lookup x = some c) (mL : ∀ x, scope.names.lookup x = some .free -> ∃ c, a0.lookup x = some c)
 (pX : rV X σ N scope v σ') (rv : RelV v u) (yT : h1.Ns s.heap.objs.size fun x => [(p, u)].reverse.lookup x) (hk : ∀ b o, s.heap.get? b = some o -> h1.get? b = some o) : Inv (kd X A N qual scope g cd a0 s H) [] σ' H { s with heap := h1, toks := tk } := by
 obtain ⟨hlen, h0, yH⟩ := pX
 have e0 := I.sZ
 have sX : ∀ b : Addr, b ∉ (kd X A N qual scope g cd a0 s H).ex := fun b z => absurd (show b ∈ ([] : List Addr) from z) (by simp)
 refine ⟨⟨e0.mod, S.kind, rfl, rfl, Nat.le_refl _, fun y z c h1 h2 => I.ok.inj y z c (gb _ _ h1) (gb _ _ h2), fun y hy => ?_, fun y c h => (nomatch (show false = true from h)), fun _ => hh, Around.frames_deeper hA, .inr ⟨rfl, rfl⟩, fun b z => absurd z (sX b), e0.bs, e0.qF, fun b _ _ => sX b, fun b z => absurd z (sX b), e0.fg, e0.sO⟩,
  rfl, I.bare, Un.kept hk, ⟨_, yT, fun i y w nA h2 h3 => ?_⟩, fun y c h => ?_, e0.aB.fresh (Nat.le_refl _), fun y c h => I.cN y c (gb y c h), fun p hp => absurd (show p ∈ ([] : List (Addr × Obj)) from hp) (by simp), e0.aB.kept hk, hlen⟩
 . have hy : scope.names.lookup y = some .cell \/ scope.names.lookup y = some .free := hy
   rcases hy with hy | hy
   . exact absurd rfl (S.rD _ (PySem.mem_of_lookup hy))
   . exact mL y hy
 . by_cases hi : i = 0
   . subst hi
     have e1 : N[0]? = some y := nA
     rw [S.pre] at e1; cases e1
     rw [h0] at h2; cases h2
     exact ⟨u, rv, .inl ⟨S.par, by simp⟩⟩
   . obtain ⟨hf, j, hj, F4, E3⟩ := yH i y w (by omega) nA h2
     obtain ⟨c, hc⟩ := mL y hf
     have C1 : yV X.env.scope y := by
      rcases E3 with z | z
      . exact .inr (.inl z)
      . exact .inr (.inr z)
     obtain ⟨m, _, hl⟩ := I.loc
     obtain ⟨u', ru, l⟩ := hl j y w hj F4 C1
     rcases l with ⟨z, _⟩ | ⟨_, c2, e2, e3⟩
     . rcases E3 with y' | y' <;> (rw [z] at y'; cases y')
     . have e4 := gb y c hc
       rw [e2] at e4; cases e4
       refine ⟨u', ru, .inr ⟨.inr hf, _, hc, ?_⟩⟩
       obtain ⟨o, ho, hd⟩ := e3
       exact ⟨o, hk _ _ ho, hd⟩
 . obtain ⟨w, o, ho, hd⟩ := I.cell y c (gb y c h)
   exact ⟨w, o, hk _ _ ho, hd⟩
theorem ua (I : Inv X pins σ H s) (hA : A.frames = some X.stack) (hr : a9 (k + 1) A) (S : eZ N p scope) (gb : ∀ x c, a0.lookup x = some c -> X.env.cells.lookup x = some c) (mL : ∀ x, scope.names.lookup x = some .free -> ∃ c, a0.lookup x = some c)
 (hp : (g, kla_obj name qual params body scope a0 pm c' kI) ∈ pins) (iE : s.heap.CodeRec (.ref c') qual) (qW : bindArgs (kla_fn name qual params body scope a0 pm (.ref c') kI) ⟨[u], []⟩ = pure [(p, u)]) (pX : rV X σ N scope v σ') (rv : RelV v u)
 (ht : PE (kd X A N qual scope g (.ref c') a0 s H) body te) (hq : te σ' H Q) : codeAny (model X.prog X.w) A (.call (.ref g) ⟨[u], []⟩) (CR gY X.stack X.prog X.w H s Q E0) s := by
 have hg := (I.pin _ (List.mem_append_right _ hp)).1
 refine kla_callFunE hr.depth hg rfl S.co S.gen rfl iE ?_
 rw [qW]
 refine wpAny_pure (wpAny_newFunctionEnv S.rD (fun y hy => ?_) (fun h1 yT Gd => ?_) S.kind)
 . rw [List.mem_singleton.mp hy]; exact S.par
 have hk : ∀ b o, s.heap.get? b = some o -> h1.get? b = some o := fun b o e => Gd.extBut b o (Nat.ne_of_lt (Heap.lt_size e)) (Heap.get?_push_of_some _ e)
 refine ⟨I.nolimit.keeps hk, kla_codeExpr ?_⟩
 have J := o5 (qual := qual) (g := g) (cd := .ref c') (tk := s.toks + 1) I hA hr.hd S gb mL pX rv yT hk
 refine wpAny_mono (ht [] _ σ' H Q J hq) (fun w s' h => ?_) fun _ _ h => h.elim
 obtain ⟨v', H', J', r', q'⟩ := h
 exact ⟨v', H', J'.os, J'.bare, J'.base, J'.aB, r', q'⟩
end
section
variable {X : Cx} {pins : List (Addr × Obj)} {σ : St} {H : Hp} {s : Shared} {f a : Addr} {sp : Sp} {kf : V -> Int × Str} {A : Around}
def jo (X : Cx) (pins : List (Addr × Obj)) (σ : St) (H : Hp) (f : Addr) (sp : Sp) : Prop := ∀ (pl : List (Addr × Obj)) (s' : Shared) (H' : Hp) (v : V) (u : Value) (Q : VK), Inv X pl σ H' s' -> (∀ p ∈ pins, p ∈ pl) -> ah H H' -> RelV v u -> sp [v] H' Q E0 ->
 wpAny (model X.prog X.w) X.A.in1.in1 (call (.ref f) [u]) (EP X pl σ Q) (fun _ _ => False) s'
theorem gJ {kS : Addr} {oa : Obj} {body : Value -> PUnit -> Sem (ForInStep PUnit)} {E : Value -> Shared -> Prop} (KC : jo X pins σ H f sp) (Ak : ∀ v, oa.data ≠ .cell v)
 (er : ∀ x (s' : Shared) (R : Shared -> Prop), wpAny (model X.prog X.w) X.A.in1.in1 (call (.ref f) [x]) (fun k s2 => ∃ us e, s2.heap.get? kS = some (seqObj "list" (List.toArray us) e) /\ us.length < 64 /\ R { s2 with heap := s2.heap.update kS (Obj.mapSeq (·.push k)) }) (fun _ _ => False) s' ->
  wpAny (model X.prog X.w) X.A.in1.in1 (body x ⟨⟩) (fun r s2 => r = .yield ⟨⟩ /\ R s2) E s')
 (fa : bC X pins H a) (fk : bC X pins H kS) (kO : a ≠ kS) : ∀ (rx : List V) (r : List Value) (xs : List V) (s' : Shared), Vals rx r -> hU sp kf H rx -> xs.length + rx.length < 64 -> pC X pins σ H kf a kS oa xs s' ->
  wpAny (model X.prog X.w) X.A.in1.in1 (forIn r PUnit.unit body) (fun _ s2 => pC X pins σ H kf a kS oa (xs ++ rx) s2) E s'
 | [], _, xs, s', hv, _, _, hK => by
   cases hv
   rw [List.forIn_nil, List.append_nil]
   exact wpAny_pure hK
 | v :: rx, _, xs, s', .cons (b := u) (l₂ := r) hu hv, Ai, hlen, ⟨H', us, e, ys, I, sm, ha, hk, BR, DI, rv, dv⟩ => by
   rw [List.forIn_cons]
   have F7 := fa.keep (H' := H') ha
   have Hi := fk.keep (H' := H') hk
   have I' : Inv X (pins ++ [(a, oa), (kS, seqObj "list" (List.toArray us) e)]) σ H' s' := by
    refine I.cJ fun p hp => ?_
    rcases List.mem_append.mp hp with hp | hp
    . exact I.pin p (List.mem_append_right _ hp)
    . rcases List.mem_cons.mp hp with rfl | hp
      . exact ⟨BR, ha, fa.2.1, fa.2.2.1, Ak⟩
      . have : p = (kS, seqObj "list" (List.toArray us) e) := by simpa using hp
        subst this
        exact ⟨DI, hk, fk.2.1, fk.2.2.1, fun v z => by cases z⟩
   have GB : us.length = xs.length := by rw [<- rv.length, dv.length, List.length_map]
   refine wpAny_bind (wpAny_mono (er u s' (fun s2 => pC X pins σ H kf a kS oa (xs ++ [v]) s2) (wpAny_mono (KC _ s' H' v u _ I' (fun p hp => List.mem_append_left _ hp) sm hu (Ai v List.mem_cons_self H' sm)) (fun kv s2 hq => ?_) fun _ _ z => z)) (fun q s2 hq => ?_) fun _ _ z => z)
   . obtain ⟨y, H2, I2, ry, e8, dy⟩ := hq
     have p1 := I2.pin (a, oa) (List.mem_append_right _ (List.mem_append_right _ List.mem_cons_self))
     have p2 := I2.pin (kS, seqObj "list" (List.toArray us) e) (List.mem_append_right _ (List.mem_append_right _ (List.mem_cons_of_mem _ List.mem_cons_self)))
     have I3 : Inv X pins σ H2 s2 := I2.di
     refine ⟨us, e, p2.1, by simp at hlen; omega, ?_⟩
     obtain ⟨c, hc⟩ : ∃ c, (s2.heap.update kS (Obj.mapSeq (·.push kv))).get? kS = some (seqObj "list" (List.toArray (us ++ [kv])) c) := by
      have ea : (List.toArray us).push kv = List.toArray (us ++ [kv]) := by simp
      rw [<- ea]
      exact ⟨_, get?_update_seq p2.1 (·.push kv)⟩
     refine ⟨H2, us ++ [kv], c, ys ++ [y], I3.kE (fk.keep p2.2.1), sm.trans e8, p1.2.1, p2.2.1, ?_, hc, rv.append (.cons ry .nil), ?_⟩
     . show (s2.heap.update kS _).get? a = some oa
       rw [Heap.get?_update_ne _ _ _ _ kO]; exact p1.1
     . rw [List.map_append]
       exact (dv.keeps e8).append (.cons dy .nil)
   . obtain ⟨rfl, hq⟩ := hq
     have := gJ KC Ak er fa fk kO rx r (xs ++ [v]) s2 hv (fun z hz => Ai z (List.mem_cons_of_mem _ hz)) (by simp at hlen ⊢; omega) hq
     rw [List.append_assoc] at this
     exact this
theorem kK {l : Addr} {xs : List V} {Q : VK} {E : Value -> Shared -> Prop} (I : Inv X pins σ H s) (nV : xs.length < 64) (CK : ∀ (R : List Value -> Shared -> Prop) (E' : Value -> Shared -> Prop), (∀ vs s2, Vals xs vs -> Inv X pins σ H s2 -> R vs s2) -> wpAny (model X.prog X.w) X.A.in1 (collect (.ref l)) R E' s) (KC : jo X pins σ H f sp)
 (hk : hU sp kf H xs) (fin : jy X pins σ H bA kf xs Q) : wpAny (model X.prog X.w) X.A (call (.builtin "sorted") [.ref l] [(Str.ofString "key", .ref f)]) (EP X pins σ Q) E s := by
 have EI : (64 : Nat) <= sizeLine := by decide
 refine call_function_entry_kw kind_sorted plain_sorted entry_sorted (ksk_s1 _ _) ?_
 unfold Builtin.«sorted»
 refine wpAny_bind (m := checkCount "sorted" 1 1 _) (wpAny_pure ?_)
 refine wpAny_bind (CK _ _ fun vs s2 rv I2 => ?_)
 have lx := rv.length
 refine wpAny_bind (wpAny_newList ?_ (by omega))
 obtain ⟨h2, g2, d2, t2, o2⟩ := s2
 have k7 : (h2.push (seqObj "list" vs.toArray 0)).get? h2.objs.size = some (seqObj "list" vs.toArray 0) := Heap.get?_push_size _ rfl
 have I3 : Inv X pins σ H (⟨h2.push (seqObj "list" vs.toArray 0), g2, d2, t2, o2⟩ : Shared) := I2.fb
 have fa : bC X pins H h2.objs.size := I2.gg (Nat.le_refl _) (I2.aB.fresh (Nat.le_refl _))
 have qY : X.bE.heap.objs.size <= h2.objs.size := I2.sz
 show wpAny _ _ _ _ _ (⟨h2.push (seqObj "list" vs.toArray 0), g2, d2, t2, o2⟩ : Shared)
 generalize h2.objs.size = a at *
 refine wpAny_bind (wpAny_holding (wpAny_call_entry_kw slot_list_sort ⟨_, k7, rfl⟩ entry_list_sort ?body (ksk_l1 _ _)))
 case body =>
  show wpAny (model X.prog X.w) X.A.in1.in1 (Builtin.«list.sort» ⟨[.ref a], [(Str.ofString "key", .ref f)]⟩) _ _ _
  rw [ksk_t1]
  generalize h2.push (seqObj "list" vs.toArray 0) = h3 at *
  unfold ksk_tree
  refine wpAny_bind (listItems_at k7 rfl ?_)
  refine wpAny_bind (listUpdate_at k7 rfl ?_ (by rw [List.size_toArray]; omega) (Nat.zero_le _))
  have I4 : Inv X pins σ H (⟨h3.update a (Obj.mapSeq fun _ => (#[] : Array Value)), g2, d2, t2, o2⟩ : Shared) := I3.kE fa
  obtain ⟨e1, oa⟩ : ∃ e1, (h3.update a (Obj.mapSeq fun _ => (#[] : Array Value))).get? a = some (seqObj "list" #[] e1) := ⟨_, get?_update_seq k7 fun _ => #[]⟩
  generalize h3.update a (Obj.mapSeq fun _ => (#[] : Array Value)) = h4 at *
  refine wpAny_bind (seqEpoch_at oa rfl ?_)
  refine wpAny_bind (wpAny_newTuple ?_ (by show vs.length <= _; omega))
  have I5 : Inv X pins σ H (⟨h4.push (seqObj "tuple" vs.toArray 0), g2, d2, t2, o2⟩ : Shared) := I4.fb
  have zA : (h4.push (seqObj "tuple" vs.toArray 0)).get? a = some (seqObj "list" #[] e1) := Heap.get?_push_of_some _ oa
  show wpAny _ _ _ _ _ (⟨h4.push (seqObj "tuple" vs.toArray 0), g2, d2, t2, o2⟩ : Shared)
  generalize h4.push (seqObj "tuple" vs.toArray 0) = h5 at *
  refine wpAny_bind (wpAny_newList ?_ (Nat.zero_le _))
  have I6 : Inv X pins σ H (⟨h5.push (seqObj "list" #[] 0), g2, d2, t2, o2⟩ : Shared) := I5.fb
  have fk : bC X pins H h5.objs.size := I5.gg (Nat.le_refl _) (I5.aB.fresh (Nat.le_refl _))
  have BX : (h5.push (seqObj "list" #[] 0)).get? a = some (seqObj "list" #[] e1) := Heap.get?_push_of_some _ zA
  have C8 : (h5.push (seqObj "list" #[] 0)).get? h5.objs.size = some (seqObj "list" #[] 0) := Heap.get?_push_size _ rfl
  have kO : a ≠ h5.objs.size := Nat.ne_of_lt (Heap.lt_size zA)
  show wpAny _ _ _ _ _ (⟨h5.push (seqObj "list" #[] 0), g2, d2, t2, o2⟩ : Shared)
  show wpAny _ _ (holding [_, .ref h5.objs.size] (ksk_rest a (.ref f) false vs.toArray e1 (.ref h5.objs.size))) _ _ _
  generalize h5.objs.size = kS at *
  generalize h5.push (seqObj "list" #[] 0) = h6 at *
  refine wpAny_holding ?_
  unfold ksk_rest
  refine wpAny_bind (wpAny_rule ?_)
  first
   | rw [List.forIn_toArray]
   | (rw [<- Array.forIn_toList]; simp only [List.toList_toArray])
  refine wpAny_bind (wpAny_mono (gJ (kf := kf) KC (oa := seqObj "list" #[] e1) (fun v z => by cases z) (fun x s' R hx => ?_) fa fk kO xs vs [] (⟨h6, g2, d2, t2, o2⟩ : Shared) rv hk (by simpa using nV) ⟨H, [], 0, [], I6, ah.refl _, fa.1, fk.1, BX, C8, .nil, .nil⟩) (fun _ s7 hK => ?_) fun _ _ z => z)
  . refine wpAny_bind (wpAny_attempt (wpAny_mono hx (fun kv s2 hq => ?_) fun _ _ z => z.elim))
    obtain ⟨us, e, ok, cz, hR⟩ := hq
    dsimp only
    refine wpAny_bind (listUpdate_at ok rfl ?_ (by rw [List.size_toArray]; omega) (by rw [Array.size_push, List.size_toArray]; omega))
    exact wpAny_pure ⟨rfl, hR⟩
  . obtain ⟨H', us, e, ys, I7, sm, DM, DY, D9, z0, ry, dv⟩ := hK
    try dsimp only
    refine wpAny_bind (listItems_at z0 rfl ?_)
    refine kH sm fa.1 I7 (fa.keep DM) (fk.keep DY) kO qY D9 z0 nV rv ry (by simpa using dv) fin (fun s8 h8 => ⟨_, rfl, wpAny_pure ⟨_, rfl, h8⟩⟩)
end
def mF (te : TE) (js : List Nat) (σ : St) : Sp := fun vs H Q _ => ∃ v, vs = [v] /\ te (some v :: js.map fun j => σ.getD j none) H Q
structure j5 (X : Cx) (P : Addr) (params : Arguments) (scope : Scope) (p : Str) (xs : List Str) (js : List Nat) : Prop where
 sc : eZ (p :: xs) p scope
 cd : ∃ c, X.env.code = .ref c /\ CodeHd X.base c P
 bm : BM X.mg X.base
 df : defaultsOf params X.env = ([], [])
 bd : ∀ (name qual : Str) (body : Expr) (a0 : List (Str × Addr)) (pm cv kI u : Value), bindArgs (kla_fn name qual params body scope a0 pm cv kI) ⟨[u], []⟩ = pure [(p, u)]
 cl : X.Ok -> ∃ a0, closureFor scope X.env = pure a0 /\ (∀ x c, a0.lookup x = some c -> X.env.cells.lookup x = some c) /\ ∀ x, scope.names.lookup x = some .free -> ∃ c, a0.lookup x = some c
 st : ∀ (i : Nat) (x : Str), xs[i]? = some x -> scope.names.lookup x = some .free /\ ∃ j : Nat, js[i]? = some j /\ X.N[j]? = some x /\ (X.env.kindOf x = some .cell \/ X.env.kindOf x = some .free)
 ln : js.length = xs.length
section
variable {X : Cx} {pins : List (Addr × Obj)} {σ : St} {H : Hp} {s : Shared} {P : Addr} {params : Arguments} {body : Expr} {scope : Scope} {p : Str} {xs : List Str} {js : List Nat} {te : TE} {k : Nat} {pos : Pos}
theorem j5.zK (L : j5 X P params scope p xs js) (v : V) : rV X σ (p :: xs) scope v (some v :: js.map fun j => σ.getD j none) := by
 refine ⟨by simp [L.ln], rfl, fun i x w hi hx hw => ?_⟩
 obtain ⟨i, rfl⟩ : ∃ i', i = i' + 1 := ⟨i - 1, by omega⟩
 obtain ⟨h1, j, h2, h3, h4⟩ := L.st i x (by simpa using hx)
 refine ⟨h1, j, h3, ?_, h4⟩
 have hw : (js.map fun j => σ.getD j none)[i]? = some (some w) := by simpa using hw
 rw [List.getElem?_map, h2] at hw
 have hw : σ.getD j none = some w := by simpa using hw
 rw [List.getD_eq_getElem?_getD] at hw
 cases e : σ[j]? with
 | none => rw [e] at hw; cases hw
 | some o => rw [e] at hw; rw [show o = some w from hw]
theorem uf {pl : List (Addr × Obj)} {H1 : Hp} {g c' : Addr} {pm kI : Value} {a0 : List (Str × Addr)} (L : j5 X P params scope p xs js) (hr : a9 (k + 3) X.A) (gb : ∀ x c, a0.lookup x = some c -> X.env.cells.lookup x = some c) (mL : ∀ x, scope.names.lookup x = some .free -> ∃ c, a0.lookup x = some c)
 (hp : (g, kla_obj "<lambda>" (X.env.qual ++ "<lambda>") params body scope a0 pm c' kI) ∈ pl) (hc : H1 c' = some (gM c' (X.env.qual ++ "<lambda>")))
 (hb : ∀ (A : Around) (g : Addr) (cd : Value) (a0 : List (Str × Addr)) (s : Shared) (H : Hp), a9 k (A.deeper (gS (X.env.qual ++ "<lambda>") scope s.heap.objs.size g cd a0)) -> PE (kd X A (p :: xs) (X.env.qual ++ "<lambda>") scope g cd a0 s H) body te) : jo X pl σ H1 g (mF te js σ) := by
 intro IY s' H' v u Q I' yH sm rv hs
 obtain ⟨_, e, hq⟩ := hs
 obtain rfl := (List.cons.inj e).1
 have En : a9 (k + 1) X.A.in1.in1 := a9.in1 (a9.in1 hr)
 have FN : s'.heap.CodeRec (.ref c') (X.env.qual ++ "<lambda>") := (I'.aB c' _ (sm _ _ hc)).1
 have DA : X.A.in1.in1.frames = some X.stack := I'.sZ.in1.in1.frames
 refine wpAny_call (codeAny_mono (ua (k := k) I' DA En L.sc gb mL (yH _ hp) FN (L.bd _ _ _ _ _ _ _ u) (L.zK v) rv (hb _ _ _ _ _ _ (En.deeper _)) hq) fun r s2 hq => ?_)
 cases r with
 | error e => exact hq.elim
 | ok fl =>
   cases fl with
   | ret u => exact I'.after hq
   | next => exact False.elim hq
   | brk => exact False.elim hq
   | cont => exact False.elim hq
def qj (K : PySem.W.Frag) (P : Addr) (pos : Pos) (q : Str) (te : TE) (js : List Nat) (t : TA) : TE := fun σ H Q => t σ H fun vs H1 => TabAt H1 P pos q /\ ∀ H2, Mv [P] H1 H2 -> TabAt H2 P pos q -> g0 (mF te js σ) K vs H2 Q
variable {e : Expr} {t : TA} {pn p2 cq rg : Pos}
theorem qI (L : j5 X P params scope p xs js) (hr : a9 (k + 3) X.A) (hg : Gl X "sorted") (hm : X.mg "sorted" = none) (ha : PA X [e] t)
 (hb : ∀ (A : Around) (g : Addr) (cd : Value) (a0 : List (Str × Addr)) (s : Shared) (H : Hp), a9 k (A.deeper (gS (X.env.qual ++ "<lambda>") scope s.heap.objs.size g cd a0)) -> PE (kd X A (p :: xs) (X.env.qual ++ "<lambda>") scope g cd a0 s H) body te)
 (pX : backTo cq (starEach [e] X.env) = (false, eval e X.env) :: backTo cq (starEach [] X.env) := by rfl) (jT : (backTo cq (starEach [e] X.env)).any (·.1) = false := by rfl) :
 PE X (.Call (.Name "sorted" pn) [e] [⟨some "key", .Lambda params body scope pos, rg⟩] cq) (qj X.K P pos (X.env.qual ++ "<lambda>") te js t) := by
 intro pins s σ H Q I h
 obtain ⟨c, iE, hC⟩ := L.cd
 obtain ⟨a0, Dq, gb, mL⟩ := L.cl I.ok
 refine wpAny_Call_Name_kw (cA I hg hm boot_sorted ?_)
 refine callWith_kw (bh (ha cq pins s σ H _ I h) fun us s1 ⟨vs, H1, I1, r1, hT, q1⟩ => ?_) pX jT
 refine wpAny_evalAll_cons (wpAny_bind (qA I1 iE hC L.bm hT L.df Dq fun g c' pm kI H2 s2 I2 hc mv HI => wpAny_bind (wpAny_standAt (wpAny_pure (wpAny_evalAll_nil ?_)))))
 obtain ⟨a, ys, kf, e1, hl, nV, hk, fin⟩ := q1 H2 mv HI
 subst e1
 obtain ⟨u, rfl, ru⟩ := vals1 r1
 have e1 : u = .ref a := ru
 subst e1
 obtain ⟨HQ, rv, pl, hz⟩ := I2.list hl
 have hlen := rv.length
 refine wpAny_mono (kK (E := X.xe) I2 nV (fun R E' hR => collect_list pl.isList (hR _ _ rv ((I2.fb (o := seqObj "list" #[] 0)).kE (I2.gg (Nat.le_refl _) (I2.aB.fresh (Nat.le_refl _))))) (by omega)) (uf (P := P) (k := k) L hr gb mL (List.mem_append_right _ (List.mem_singleton.mpr rfl)) hc hb) hk (fun a ys H' => fin a ys H')) (fun w s3 hq => ?_) fun _ _ z => z
 obtain ⟨v, H3, I3, r3, q3⟩ := hq
 exact ⟨v, H3, I3.di, r3, q3⟩
end
theorem pj {P : Program} {w : World} {K : PySem.W.Frag} {mg mb : Str -> Option Value} {CX : kz} {k : Nat} {fa a : Addr} {fd : FuncData} {x : Str} {sp : Sp} {s₁ : Shared} {vs : List Value} {ns : List Int} {ts : List Addr}
 (KX : K.In s₁.heap) (yT : s₁.heap.Ns mainGlobals mg) (hb : s₁.heap.Ns builtinsNs mb) (Gg : ∀ x : Str, x ≠ "__name__" -> mb x = bootBuiltins x) (D5 : s₁.heap.NoLimit) (Hm : BM mg s₁.heap) (mr : ∀ b ∈ ts, s₁.heap.get? b = some (tabObj #[]) /\ K.lookup b = none /\ ∃ c, CodeHd s₁.heap c b) (hg : s₁.gens = #[])
 (ha : s₁.heap.get? a = some { cls := .type "list", data := .seq vs.toArray }) (hi : IntsAre vs ns) (hl : ns.length <= sizeLine) (hr : a9 k callerA)
 (F : ∀ base : Heap, K.In base -> base.Ns mainGlobals mg -> BM mg base -> bK P w K mg base CX k fa fd [x] sp) (qW : ∀ (s : Shared) (u : Value), BindsTo s fd ⟨[u], []⟩ [(x, u)])
 (r9 : ∀ H : Hp, bF K H a (ns.map V.int) -> (∀ b ∈ ts, H b = some (.eU #[])) -> sp [.ref a] H (fun v _ => v = .bl true) fun _ _ _ => False)
 (Ca : ∀ H e s', CX [] H s₁ (fun _ _ _ => False) e s' -> False) :
 codeAny (model P w) callerA (.call (.ref fa) ⟨[.ref a], []⟩) (fun r s' => r = .ok (.ret (.bool true)) /\ OldK s₁.heap s'.heap /\ s'.os = s₁.os /\ AllBare s'.gens) s₁ := by
 have rv := fM hi
 have Cv := hi.length
 have core : ∀ H : Hp, bF K H a (ns.map V.int) -> eO P w H s₁.heap -> (∀ b, H b = none \/ (b = a /\ ∃ o xs, H b = some (.km o (.lst xs))) \/ (b ∈ ts /\ H b = some (.eU #[]))) -> (∀ b ∈ ts, H b = some (.eU #[])) -> (H a ≠ none -> K.lookup a = none) ->
  codeAny (model P w) callerA (.call (.ref fa) ⟨[.ref a], []⟩) (fun r s' => r = .ok (.ret (.bool true)) /\ OldK s₁.heap s'.heap /\ s'.os = s₁.os /\ AllBare s'.gens) s₁ := by
  intro H hS aB hA FR hK
  have ji : ∀ {b : Addr} {o : Obj}, s₁.heap.get? b = some o -> H b = none -> (iA s₁.heap H).get? b = some o := fun e n => rG e n
  have sX : ∀ {b : Addr} {o : Obj} {es : Array DictEntry} {ep : Nat}, s₁.heap.get? b = some o -> o.data = .dict es ep -> H b = none := fun {b o es ep} e d => by
   cases q : H b with
   | none => rfl
   | some u =>
     rcases hA b with z | ⟨e', _⟩ | ⟨hb, _⟩
     . rw [q] at z; cases z
     . subst e'
       rw [ha] at e; cases e
       have d' : Data.seq vs.toArray _ = Data.dict es ep := d
       cases d'
     . rw [(mr b hb).1] at e; cases e
       have d' : Data.fields #[] = Data.dict es ep := d
       cases d'
  have Bw : ∀ {b : Addr} {m : Str -> Option Value}, s₁.heap.Ns b m -> (iA s₁.heap H).Ns b m := fun {b m} ⟨o, es, ep, e, d, r⟩ => ⟨o, es, ep, ji e (sX e d), d, r⟩
  have Fb : K.In (iA s₁.heap H) := fun b o e => ji (KX b o e) (by
   cases q : H b with
   | none => rfl
   | some u =>
     rcases hA b with z | ⟨e', _⟩ | ⟨hb, _⟩
     . rw [q] at z; cases z
     . subst e'
       rw [hK (by rw [q]; simp)] at e; cases e
     . rw [(mr b hb).2.1] at e; cases e)
  have Hw : BM mg (iA s₁.heap H) := by
   obtain ⟨bm, ob, b1, b2, b3, b4, b5, b6⟩ := Hm
   refine ⟨bm, ob, b1, b2, ji b3 ?_, b4, b5, b6⟩
   rcases hA bm with z | ⟨e', _⟩ | ⟨hb, _⟩
   . exact z
   . rw [e', ha] at b3; cases b3; exact absurd (Value.type.inj b4) (by decide)
   . rw [(mr bm hb).1] at b3; cases b3; cases b4
  have hM : Mod K mg (iA s₁.heap H) := ⟨Fb, Bw yT, ⟨mb, Bw hb, Gg⟩, let ⟨mc, h1, h2⟩ := D5; ⟨mc, Bw h1, h2⟩⟩
  have e0 : lI P w K mg (iA s₁.heap H) callerA [] s₁ H := ⟨rfl, hM, fun b o e => ui e, Nat.le_of_eq (n0 _ _), trivial, fun b hb => absurd (show b ∈ ([] : List Addr) from hb) (by simp), aB, .of_eq hg⟩
  refine codeAny_mono ((F _ Fb (Bw yT) Hw).run callerA [] s₁ H ⟨[.ref a], []⟩ [.ref a] [.ref a] _ _ hr e0 (qW s₁ (.ref a)) (.cons rfl .nil) (r9 H hS FR)) fun r s' h => ?_
  cases r with
  | error e => exact (Ca H e s' h).elim
  | ok fl =>
    cases fl with
    | next => exact False.elim h
    | brk => exact False.elim h
    | cont => exact False.elim h
    | ret u =>
      obtain ⟨v, H', os, bare, un, A2, r', q⟩ := h
      have q' : v = .bl true := q
      subst q'
      obtain rfl : u = Value.bool true := r'
      have key : ∀ b o, s₁.heap.get? b = some o -> s'.heap.get? b = some o \/ (b ∈ ts /\ o = tabObj #[] /\ ∃ more, s'.heap.get? b = some (tabObj (#[] ++ more))) := fun b o e => by
       rcases hA b with q | ⟨_, ob, xs, z⟩ | ⟨hb, z⟩
       . exact .inl (un.keep b o e q (by intro z; exact absurd (show b ∈ ([] : List Addr) from z) (by simp)) (by simp))
       . have z2 := un.fN b ob _ z
         obtain ⟨e1, _⟩ := aB b _ z
         obtain ⟨e2, _⟩ := A2 b _ z2
         rw [e] at e1; cases e1
         exact .inl e2
       . obtain ⟨more, z2⟩ := un.gD b _ z
         have e1 := (mr b hb).1
         rw [e] at e1; cases e1
         exact .inr ⟨hb, rfl, more, A2 b _ z2⟩
      refine ⟨rfl, ⟨fun b o e => ?_, fun b o e => ?_⟩, os, bare⟩
      . rcases key b o e with z | ⟨hb, rfl, more, z⟩
        . exact .inl z
        . obtain ⟨h1, _, c, hC⟩ := mr b hb
          exact .inr (.inl ⟨(hC.tab h1).isCodeTable, rfl, #[], more, rfl, z⟩)
      . rcases key b o e with z | ⟨_, _, more, z⟩
        . exact ⟨_, z⟩
        . exact ⟨_, z⟩
 have nat : ∀ b ∈ ts, b ≠ a := fun b hb z => by
  have := (mr b hb).1
  rw [z, ha] at this; cases this
 have Ff : ∀ (H : Hp) (b : Addr), b ∈ ts -> aP P w H s₁.heap b (.eU #[]) := fun H b hb => (mr b hb).1
 cases hk : K.lookup a with
 | some o =>
   have e := KX a o hk
   rw [ha] at e
   cases e
   refine core (fun b => if b ∈ ts then some (.eU #[]) else none) (.inr ⟨_, vs.toArray, _, hk, rfl, rfl, rfl, by rw [List.size_toArray, Cv]; exact hl, by simpa using rv⟩) (fun b u z => ?_) (fun b => ?_) (fun b hb => if_pos hb) (fun z => absurd (if_neg fun y => nat a y rfl) z)
   . by_cases hb : b ∈ ts
     . have z' := (if_pos hb).symm.trans z
       cases z'
       exact Ff _ b hb
     . have z' := (if_neg hb).symm.trans z
       cases z'
   . by_cases hb : b ∈ ts
     . exact .inr (.inr ⟨hb, if_pos hb⟩)
     . exact .inl (if_neg hb)
 | none =>
   have e1 : ∀ b, b ≠ a -> b ∈ ts -> (fun b => if b = a then some (HO.km { cls := .type "list", data := .seq vs.toArray } (.lst (ns.map V.int))) else if b ∈ ts then some (.eU #[]) else none) b = some (.eU #[]) := fun b h1 h2 => by simp [h1, h2]
   have e2 : ∀ b, b ≠ a -> b ∉ ts -> (fun b => if b = a then some (HO.km { cls := .type "list", data := .seq vs.toArray } (.lst (ns.map V.int))) else if b ∈ ts then some (.eU #[]) else none) b = none := fun b h1 h2 => by simp [h1, h2]
   refine core (fun b => if b = a then some (.km { cls := .type "list", data := .seq vs.toArray } (.lst (ns.map V.int))) else if b ∈ ts then some (.eU #[]) else none) (.inl (.inr ⟨{ cls := .type "list", data := .seq vs.toArray }, if_pos rfl⟩)) (fun b u z => ?_) (fun b => ?_) (fun b hb => e1 b (nat b hb) hb) fun _ => hk
   . by_cases hb : b = a
     . have z' := (if_pos hb).symm.trans z
       cases z'
       subst hb
       exact ⟨ha, by rw [List.length_map]; exact hl, vs, _, rv, ha⟩
     . by_cases jk : b ∈ ts
       . have z' := (e1 b hb jk).symm.trans z
         cases z'
         exact Ff _ b jk
       . have z' := (e2 b hb jk).symm.trans z
         cases z'
   . by_cases hb : b = a
     . exact .inr (.inl ⟨hb, _, _, if_pos hb⟩)
     . by_cases jk : b ∈ ts
       . exact .inr (.inr ⟨jk, e1 b hb jk⟩)
       . exact .inl (e2 b hb jk)
theorem pU {l : PySem.W.OpenLaw} {n k : Nat} {q : Program} {loose : List Str} {XP : (Str -> Option Value) -> Heap -> Prop} {YP : World -> Heap -> Prop} {d : DefRec} {K : Params -> PySem.W.Frag} {CX : kz} {sp : List Addr -> PySem.W.Frag -> Sp} {x : Str} {ts : List Addr}
 (hn : l.most = some n) (vk : n <= sizeLine) (BU : d.params.defaults = []) (hr : a9 k callerA)
 (hY : ∀ (w : World) (h : Heap), YP w h -> (K w.params).In h /\ ∀ b ∈ ts, h.get? b = some (tabObj #[]))
 (F : ∀ (w : World) (mg : Str -> Option Value) (fa : Addr) (h : Heap), (K w.params).In h -> h.Ns mainGlobals mg -> mg d.name = some (.ref fa) ->
  ∃ fd : FuncData, (∀ (s : Shared) (u : Value), BindsTo s fd ⟨[u], []⟩ [(x, u)]) /\ (∀ b ∈ ts, (K w.params).lookup b = none /\ ∃ c, CodeHd h c b) /\
    ∀ base : Heap, (K w.params).In base -> base.Ns mainGlobals mg -> BM mg base -> bK l.prog w (K w.params) mg base CX k fa fd [x] (sp ts (K w.params)))
 (r9 : ∀ (K : PySem.W.Frag) (H : Hp) (a : Addr) (ns : List Int), ns.length <= n -> bF K H a (ns.map V.int) -> (∀ b ∈ ts, H b = some (.eU #[])) -> sp ts K [.ref a] H (fun v _ => v = .bl true) fun _ _ _ => False)
 (Ca : ∀ (H : Hp) (s : Shared) (e : Value) (s' : Shared), CX [] H s (fun _ _ _ => False) e s' -> False) :
 PySem.W.WalkO q loose XP YP l.row.toRowW d [] (fun f vs => PySem.call f vs) := by
 refine Eo.ky hn BU fun w bE s₁ mg mb fa o pm cd doc a vs ns G Y ho hd iE x5 yf hints hlen hg => ?_
 obtain ⟨KX, hT⟩ := hY w _ Y
 obtain ⟨fd, hb, hK, hF⟩ := F w mg fa _ KX G.T.g x5
 exact pj KX G.T.g G.T.b G.T.builtins G.T.nolimit G.T.bmain (fun b hb => ⟨hT b hb, hK b hb⟩) hg yf hints (Nat.le_trans hlen vk) hr hF hb (fun H hS hT => r9 (K w.params) H a ns hlen hS hT) fun H e s' => Ca H s₁ e s'
structure wy (K : PySem.W.Frag) (f c P : Addr) : Prop where
 fn : ∃ (oc : Value) (od : Option Addr) (fd : FuncData) (sl : Array (Option Value)), K.lookup f = some ⟨oc, od, .func fd, sl⟩ /\ fd.code = .ref c
 cd : codeHdIn K c P = true
 no : K.lookup P = none
theorem uo {K : PySem.W.Frag} {f c P : Addr} {oc : Value} {od ED : Option Addr} {fd : FuncData} {sl Bv : Array (Option Value)} {vs : Array Value} (l : K.lookup f = some ⟨oc, od, .func fd, sl⟩) (e : fd.code = .ref c) (lc : K.lookup c = some ⟨.type "code", ED, .fields vs, Bv⟩) (ev : vs.getD 11 .none = .ref P)
 (cd : codeHdIn K c P = true) (no : K.lookup P = none) : wy K f c P := ⟨⟨oc, od, fd, sl, l, e⟩, cd, no⟩
structure zu (K : PySem.W.Frag) (fd : FuncData) (c P : Addr) : Prop where
 e : fd.code = .ref c
 cd : codeHdIn K c P = true
 no : K.lookup P = none
theorem tY {K : PySem.W.Frag} {x qual : Str} {st : Stmt} {f c P : Addr} {dV : Value} {fd : FuncData} (F : cZ K x qual st f dV fd) (L : wy K f c P) : zu K fd c P := by
 obtain ⟨oc, od, kV, doc, pm, an, dj, ct, pA, rfl, lk, _⟩ := F.ex
 obtain ⟨Iv, ED, IJ, Bv, l, e⟩ := L.fn
 rw [lk] at l
 cases l
 exact ⟨e, L.cd, L.no⟩
structure Bs (K : PySem.W.Frag) (mg : Str -> Option Value) (base : Heap) : Prop where
 k : K.In base
 b : BM mg base
section
variable {P : Program} {w : World} {K : PySem.W.Frag} {mg : Str -> Option Value} {base : Heap}
theorem cZ.GI {x qual : Str} {st : Stmt} {f : Addr} {dV : Value} {fd : FuncData} {N ps : List Str} {k : Nat} {sp : Sp} (F : cZ K x qual st f dV fd) (S : bj N ps (au st)) (len : ∀ vs H Q E, sp vs H Q E -> vs.length = ps.length)
 (er : ∀ (A : Around) (outer : List Env) (s : Shared) (H : Hp) (vs : List V) (Q : VK) (E : XK), a9 k (A.deeper (envOfC qual (au st) s.heap.objs.size f fd.code)) -> sp vs H Q E ->
  ∃ t, j9 (k6 gY P w K mg base N qual (au st) f fd.code A outer s H E).yX (dz st) t /\ t { nx := fun _ H' => Q .a7 H', rt := Q } (start N vs) H) : bK P w K mg base gY (k + 1) f fd ps sp := by
 obtain ⟨oc, od, kV, doc, pm, an, dj, ct, pA, rfl, lk, iE⟩ := F.ex
 refine vI lk iE S len fun A outer s H vs Q E hr r9 => ?_
 obtain ⟨t, h, q⟩ := er A outer s H vs Q E hr r9
 exact ⟨t, h.yX, q⟩
end
section
variable {X : Cx} {P : Addr} {params : Arguments} {scope : Scope} {p x : Str} {j : Nat}
theorem tN (hf : (scope.names.filter fun y => y.2 == .free) = []) : X.Ok -> ∃ a0, closureFor scope X.env = pure a0 /\ (∀ x c, a0.lookup x = some c -> X.env.cells.lookup x = some c) /\ ∀ x, scope.names.lookup x = some .free -> ∃ c, a0.lookup x = some c := fun _ => by
 refine ⟨[], ?_, fun x c h => (nomatch h), fun x h => ?_⟩
 . unfold closureFor
   have : ∀ (names : List (Str × NameKind)) (acc : List (Str × Addr)), (names.filter fun y => y.2 == .free) = [] -> (forIn names acc fun (y : Str × NameKind) (cs : List (Str × Addr)) => (if (y.2 == NameKind.free) = true then (do let a <- cellOf X.env y.1; pure (ForInStep.yield ((y.1, a) :: cs))) else pure (ForInStep.yield cs) : Sem _)) = pure acc := by
    intro names
    induction names with
    | nil => intro acc _; rfl
    | cons y r ih =>
      intro acc h
      rw [List.forIn_cons]
      have hy : (y.2 == NameKind.free) = false := by
       cases z : (y.2 == NameKind.free) with
       | false => rfl
       | true => rw [List.filter_cons, if_pos z] at h; cases h
      rw [List.filter_cons, if_neg (by rw [hy]; decide)] at h
      simp only [hy, Bool.false_eq_true, if_false, pure_bind]
      exact ih acc h
   have := this scope.names [] hf
   simp only [bind_pure_comp] at this ⊢
   rw [this, pure_bind]
 . have := List.mem_filter (p := fun y : Str × NameKind => y.2 == .free) |>.mpr ⟨PySem.mem_of_lookup h, (rfl : (NameKind.free == NameKind.free) = true)⟩
   rw [hf] at this; cases this
theorem xr (sc : eZ [p] p scope) (cd : ∃ c, X.env.code = .ref c /\ CodeHd X.base c P) (bm : BM X.mg X.base) (df : defaultsOf params X.env = ([], [])) (bd : ∀ (name qual : Str) (body : Expr) (a0 : List (Str × Addr)) (pm cv kI u : Value), bindArgs (kla_fn name qual params body scope a0 pm cv kI) ⟨[u], []⟩ = pure [(p, u)])
 (hf : (scope.names.filter fun y => y.2 == .free) = []) : j5 X P params scope p [] [] := ⟨sc, cd, bm, df, bd, tN hf, fun i x h => by simp at h, rfl⟩
end
section
variable {σ : St} {H : Hp} {Q : VK} {K : PySem.W.Frag} {p : Addr} {m : List (Str × PyData)}
theorem qy {P : Addr} {pos : Pos} {q : Str} {te : TE} {js : List Nat} {t : TA} (h : t σ H fun vs H1 => TabAt H1 P pos q /\ ∀ H2, Mv [P] H1 H2 -> TabAt H2 P pos q -> g0 (mF te js σ) K vs H2 Q) : qj K P pos q te js t σ H Q := h
end
section
variable {σ : St} {H : Hp} {D : Ends} {p : Addr} {m : List (Str × PyData)} {g : TG} {tb : TS}
end
section
variable {σ : St} {H : Hp} {Q : VK} {K : PySem.W.Frag} {p : Addr} {m : List (Str × PyData)} {k : Str}
end
section
variable {σ : St} {H H' : Hp} {Q : VK} {K : PySem.W.Frag} {p l : Addr} {ns : List Str} {f : Str -> List PyData} {k : Str}
end
section
variable {H H' : Hp} {P : Addr} {pos : Pos} {q : Str}
theorem TabAt.eU (h : TabAt H P pos q) : ∃ ps, H P = some (.eU ps) := by
 rcases h with h | ⟨c, _, h, _⟩
 . exact ⟨_, h⟩
 . exact ⟨_, h⟩
theorem TabAt.ne {b : Addr} {u : HO} (h : TabAt H P pos q) (e : H b = some u) (nt : ∀ ps, u ≠ .eU ps) : b ≠ P := fun z => by
 obtain ⟨ps, hp⟩ := h.eU
 rw [z, hp] at e
 cases e
 exact nt _ rfl
theorem TabAt.CM {d : Addr} {m : List (Str × PyData)} (h : TabAt H P pos q) (hd : c6 H d m) : d ≠ P := let ⟨_, e, _⟩ := hd; h.ne e (by intro _ z; cases z)
theorem TabAt.Bi {d : Addr} {ds : List PyData} (h : TabAt H P pos q) (hd : bJ H d ds) : d ≠ P := let ⟨_, e, _⟩ := hd; h.ne e (by intro _ z; cases z)
theorem TabAt.HB {d : Addr} {m : List (Str × PyData)} (h : TabAt H P pos q) (hd : c6 H d m) (mv : Mv [P] H H') : c6 H' d m := hd.mv mv (by simpa using h.CM hd)
theorem TabAt.DH {d : Addr} {ds : List PyData} (h : TabAt H P pos q) (hd : bJ H d ds) (mv : Mv [P] H H') : bJ H' d ds := hd.mv mv (by simpa using h.Bi hd)
theorem sC {te : TE} {js : List Nat} {σ : St} {v : V} {Q : VK} {E : XK} (h : te (some v :: js.map fun j => σ.getD j none) H Q) : mF te js σ [v] H Q E := ⟨v, rfl, h⟩
end
section
variable {X : Cx}
def nI (m : List (Str × PyData)) : Prop := ∀ x ∈ m, ∃ n, x.2 = .int n
def uP : R2 := fun x y H Q => ∃ a b m m2, x = .ref a /\ y = .ref b /\ c6 H a m /\ c6 H b m2 /\ m.length = m2.length /\ nI m /\ (∀ z ∈ m, iK m2 z.1 = some z.2) /\ Q (.bl true) H
theorem nZ {A : Around} {s : Shared} {H : Hp} {ka kb : List (Key × V)} {m m2 : List (Str × PyData)} {vb : List (Key × Value)} (d2 : dS H kb m2) (p2 : KV kb vb) (d1 : dS H ka m) : ∀ {va : List (Key × Value)}, KV ka va -> nI m -> (∀ z ∈ m, iK m2 z.1 = some z.2) -> KeqHits A s vb va true := by
 induction d1 with
 | nil =>
   intro va p1 _ _
   cases p1
   exact .nil
 | @cons k v ao d m h1 i1 r1 ih =>
   intro va p1 hi hl
   cases p1 with
   | @cons _ x _ Il q1 t1 =>
     obtain ⟨n, hn⟩ := hi _ List.mem_cons_self
     dsimp only at hn
     subst hn
     obtain rfl := h1.int_inv
     obtain ⟨xk, xv⟩ := x
     obtain ⟨e1, g1⟩ := q1
     dsimp only at e1 g1
     subst e1
     obtain ⟨v2, Ao, hd2⟩ := (d2.val (k := k)).1 _ (hl _ List.mem_cons_self)
     obtain rfl := hd2.int_inv
     obtain ⟨y, hy, g2⟩ := gm.some_of (v := .int n) (o := valueAt vb (.inr k)) (by rw [<- Ao]; exact p2.val _)
     have eq := x4 (A := A) (s := s) g1 g2 rfl rfl
     rw [show Ea (.int n) (.int n) = true by simp [Ea]] at eq
     exact KeqHits.hit hy eq (ih t1 (fun z hz => hi z (List.mem_cons_of_mem _ hz)) (fun z hz => hl z (List.mem_cons_of_mem _ hz)))
theorem mO (hu : X.A.units < cLine) : fD X (compareOp .Eq) uP := by
 intro pins s σ H x y v u Q I rx ry h
 obtain ⟨a, b, m, m2, rfl, rfl, ⟨ka, ea, da⟩, ⟨kb, eb, db⟩, hl, hi, hk, q⟩ := h
 cases rx
 cases ry
 obtain ⟨_, ha, va, pa, oa⟩ := (show aP X.prog X.w H s.heap a (.dK ka) from I.aB a _ ea)
 obtain ⟨_, B2, vb, pb, ob⟩ := (show aP X.prog X.w H s.heap b (.dK kb) from I.aB b _ eb)
 have hl : va.length = vb.length := by rw [<- pa.length, <- pb.length, da.length, db.length, hl]
 refine keq_eq ha B2 oa ob hu (fun _ => nZ db pb da pa hi hk) ?_
 rw [hl]
 exact ⟨.bl true, H, I, by simp [RelV], q⟩
theorem ql {H : Hp} {Q : VK} {a b : Addr} {m m2 : List (Str × PyData)} (h1 : c6 H a m) (h2 : c6 H b m2) (hl : m.length = m2.length) (hi : nI m) (hk : ∀ z ∈ m, iK m2 z.1 = some z.2) (h : Q (.bl true) H) : uP (.ref a) (.ref b) H Q := ⟨a, b, m, m2, rfl, rfl, h1, h2, hl, hi, hk, h⟩
def rH : List V -> Hp -> VK -> Prop := fun xs H Q => ∃ p m, xs = [.ref p] /\ c6 H p m /\ ∀ q H', ah H H' -> H q = none -> c6 H' q m -> Q (.ref q) H'
theorem mC : bL X (.type "dict") rH := by
 intro pins s σ H xs us Q I rv h
 obtain ⟨p, m, rfl, ⟨ao, e, dk⟩, q⟩ := h
 obtain ⟨u, rfl, ru⟩ := rv.one
 cases ru
 refine rB I (.inl e) fun q' s' zY I' => ⟨.ref q', _, I', rfl, q q' _ (aY zY) zY ⟨ao, av, dk.mK fun a xs z => ?_⟩⟩
 rw [ai (aw z zY)]; exact z
theorem uy {H : Hp} {Q : VK} {p : Addr} {m : List (Str × PyData)} (hp : c6 H p m) (h : ∀ q H', ah H H' -> H q = none -> c6 H' q m -> Q (.ref q) H') : rH [.ref p] H Q := ⟨p, m, rfl, hp, h⟩
end
end L2
set_option maxHeartbeats 4000000
namespace My
open PySem L2
local macro_rules | `(tactic| walk_at "same") => `(tactic| first
 | exact ah.refl _
 | assumption
 | (refine' ah.trans ?m ?s; (case s => assumption); (case m => walk_at "same")))
local macro_rules | `(tactic| walk_at "at") => `(tactic| first
 | assumption
 | exact av
 | (refine' ah.at ?s ?m; (case s => assumption); (case m => walk_at "at")))
local macro_rules | `(tactic| walk_at "dat") => `(tactic| first
 | exact Dv.int _
 | exact Dv.a7
 | exact Dv.bl _
 | exact Dv.str _
 | assumption
 | (refine' Dv.keeps ?s ?m; (case s => assumption); (case m => walk_at "dat")))
local macro_rules | `(tactic| walk_at "ins") => `(tactic| first
 | assumption
 | (refine' GN.keeps ?s ?m; (case s => assumption); (case m => walk_at "ins")))
local macro_rules | `(tactic| walk_at "dats") => `(tactic| first
 | exact aZ.nil
 | (refine' aZ.cons ?m ?s; (case m => walk_at "dat"); (case s => walk_at "dats"))
 | assumption
 | (refine' aZ.keeps ?s ?m; (case s => assumption); (case m => walk_at "dats")))
local macro_rules | `(tactic| walk_at "sql") => `(tactic| first
 | assumption
 | (refine' ah.seq ?s ?m; (case s => assumption); (case m => walk_at "sql")))
local macro_rules | `(tactic| walk_at "isq") => `(tactic| first
 | (refine' Or.inl ?m; case m => walk_at "dat")
 | (refine' Or.inr ?m; case m => walk_at "dat"))
set_option hygiene false in
local macro_rules | `(tactic| walk_at "side") => `(tactic| first
 | omega
 | assumption
 | exact (by decide)
 | exact AX (by omega) (by omega)
 | exact Ae ⟨by omega, by omega⟩ ⟨by omega, by omega⟩
 | exact ⟨by decide, by decide, by decide⟩)
set_option hygiene false in
local macro_rules | `(tactic| walk_at "use") => `(tactic| fail)
set_option hygiene false in
local macro_rules | `(tactic| walk_at "lk") => `(tactic| fail)
set_option hygiene false in
local macro_rules | `(tactic| walk_at "put") => `(tactic| fail)
set_option hygiene false in
local macro_rules | `(tactic| walk_at "fin") => `(tactic| fail)
set_option hygiene false in
local macro_rules | `(tactic| walk_at "wds") => `(tactic| first
 | with_reducible refine kU (ws := [_]) rfl ?_
 | with_reducible refine kU (ws := [_, _]) rfl ?_
 | with_reducible refine kU (ws := [_, _, _]) rfl ?_
 | with_reducible refine kU (ws := [_, _, _, _]) rfl ?_
 | with_reducible refine kU (ws := [_, _, _, _, _]) rfl ?_
 | with_reducible refine kU (ws := [_, _, _, _, _, _]) rfl ?_
 | with_reducible refine kU (ws := []) rfl ?_)
set_option hygiene false in
local macro_rules | `(tactic| walk_at "mks") => `(tactic| first
 | fail)
local macro_rules | `(tactic| walk_at "br") => `(tactic| ((with_reducible refine zm (fun hb => ?_) (fun hb => ?_)) <;> (try simp only [id, decide_eq_true_eq, decide_eq_false_iff_not, Bool.not_eq_true', Bool.not_eq_false', Bool.not_true, Bool.not_false, V.int.injEq, Bool.true_eq_false, Bool.false_eq_true, reduceCtorEq, decide_true, decide_false, not_true, not_false_iff, PyData.eqv, PyData.eqvAll, Bool.and_eq_true, Bool.and_eq_false_iff, Bool.or_eq_true, Bool.or_eq_false_iff, beq_iff_eq, beq_eq_false_iff_ne, ne_eq, bne_iff_ne, Bool.and_true, Bool.and_false, Bool.and_self, beq_self_eq_true, isInt, isBool, isStr, Ar, isTup, uZ, List.length_cons, List.length_nil] at hb) <;> (try (exfalso; omega)) <;> (try (exfalso; (refine' Cg hb ?d); (case d => walk_at "dat")))))
local macro_rules | `(tactic| walk_at "rd1") => `(tactic| first
 | with_reducible refine vX ?_
 | with_reducible refine A0 ?_
 | with_reducible refine zN ?_
 | with_reducible refine vO ?_
 | with_reducible refine Aj ?_
 | ((with_reducible refine' Am ?e ?_); case e => exact rfl)
 | with_reducible refine FT ?_
 | with_reducible refine Cu ?_
 | with_reducible refine BJ ?_
 | ((with_reducible refine' xC ?e1 ?e2 ?_); (case e1 => exact ⟨by decide, by decide, by decide⟩); (case e2 => ((conv => lhs; simp only [Int.reduceToNat]) <;> exact rfl)))
 | ((with_reducible refine' HH ?e ?_); case e => walk_at "side")
 | with_reducible refine wI ?_
 | with_reducible refine Ap ?_
 | with_reducible refine sQ ?_
 | with_reducible refine B9 ?_
 | with_reducible refine ym ?_
 | with_reducible refine C2 ?_
 | with_reducible refine AA ?_
 | with_reducible refine xI ?_
 | with_reducible refine v5 ?_
 | with_reducible refine CB ?_
 | with_reducible refine xh ?_
 | with_reducible refine qU ?_
 | with_reducible refine oj ?_
 | walk_at "br"
 | with_reducible refine vQ ?_
 | ((with_reducible refine' y3 ?e ?_); case e => exact rfl)
 | ((with_reducible refine' u6 ?e1 ?e2 ?e3 ?e4 ?e5 ?_); (case e1 => walk_at "dat"); (case e2 => walk_at "dat"); (case e3 => first | rfl | assumption); (case e4 => first | rfl | assumption); (case e5 => first | exact Nat.le_of_ble_eq_true rfl | assumption))
 | ((with_reducible refine' nz ?e1 ?e2 ?_); (case e1 => walk_at "isq"); (case e2 => exact rfl))
 | ((with_reducible refine' rL ?e ?_); case e => walk_at "isq")
 | ((with_reducible refine' yD ?e ?_); case e => walk_at "sql")
 | with_reducible refine wJ (fun _ _ _ _ => ?_)
 | with_reducible refine yy (fun _ _ _ _ => ?_)
 | ((with_reducible refine' yi ?e (fun _ _ => ?_)); case e => walk_at "side")
 | ((with_reducible refine' oO ?e ?_); case e => walk_at "dat")
 | ((with_reducible refine' lq ?e ?_); case e => walk_at "dat")
 | ((with_reducible refine' iV ?e ?_); case e => walk_at "dat")
 | with_reducible refine jG ?_
 | with_reducible refine ur ?_
 | with_reducible refine xP ?_
 | ((with_reducible refine' ya ?e1 ?e2 (fun _ _ _ _ => ?_)); (case e1 => exact vA rfl); (case e2 => walk_at "dats"))
 | with_reducible refine yh ?_
 | with_reducible refine x8 ?_
 | with_reducible refine Av ?_
 | with_reducible refine tO ?_
 | ((with_reducible refine' vV ?e1 ?e2 ?_); (case e1 => omega); (case e2 => omega))
 | walk_at "wds"
 | walk_at "mks"
 | walk_at "use"
 | walk_at "fin")
local macro_rules | `(tactic| walk_at "lat") => `(tactic| first
 | assumption
 | (refine' bJ.keeps ?s ?m; (case s => assumption); (case m => walk_at "lat"))
 | (refine' bJ.mv ?s ?n ?m; (case s => assumption); (case n => walk_at "nin"); (case m => walk_at "lat"))
 | fail)
local macro_rules | `(tactic| walk_at "nin") => `(tactic| first
 | (refine' rT ?n1; (case n1 => walk_at "ne"))
 | fail)
local macro_rules | `(tactic| walk_at "ne") => `(tactic| first
 | assumption
 | (refine Ne.symm ?_; assumption)
 | (refine' bJ.ne ?h ?n; (case n => assumption); (case h => walk_at "lat"))
 | (refine' Ne.symm (bJ.ne ?h ?n); (case n => assumption); (case h => walk_at "lat"))
 | fail)
local macro_rules | `(tactic| walk_at "dla") => `(tactic| first
 | assumption
 | (refine' c6.keeps ?s ?m; (case s => assumption); (case m => walk_at "dla"))
 | (refine' c6.mv ?s ?n ?m; (case s => assumption); (case n => walk_at "nin"); (case m => walk_at "dla"))
 | fail)
local macro_rules | `(tactic| walk_at "ne") => `(tactic| first
 | (refine' c6.ne ?h ?n; (case n => assumption); (case h => walk_at "dla"))
 | (refine' Ne.symm (c6.ne ?h ?n); (case n => assumption); (case h => walk_at "dla"))
 | fail)
local macro_rules | `(tactic| walk_at "imm") => `(tactic| first
 | rfl
 | assumption
 | exact bM (fun _ => rfl) _
 | (refine' bJ.mK ?h; (case h => assumption))
 | fail)
local macro_rules | `(tactic| walk_at "dm") => `(tactic| first
 | exact fun _ h => h
 | (refine' pH ?a ?b; (case b => first | (refine' ah.FC ?c; (case c => assumption)) | (refine' Mv.dm ?c; (case c => assumption)) | fail); (case a => walk_at "dm"))
 | fail)
local macro_rules | `(tactic| walk_at "none") => `(tactic| first
 | assumption
 | (refine' xf ?s ?m; (case m => assumption); (case s => walk_at "dm"))
 | fail)
local macro_rules | `(tactic| walk_at "same") => `(tactic| first
 | (refine' Mv.Bd ?s ?m ?n; (case m => assumption); (case s => walk_at "same"); (case n => walk_at "none"))
 | fail)
local macro_rules | `(tactic| walk_at "mv") => `(tactic| first
 | exact Mv.refl
 | assumption
 | (refine' Mv.nQ ?m ?s; (case s => assumption); (case m => walk_at "mv"))
 | (refine' Mv.step ?m ?s ?h; (case s => assumption); (case m => walk_at "mv"); (case h => walk_at "ours"))
 | fail)
local macro_rules | `(tactic| walk_at "ours") => `(tactic| first
 | (refine' vJ (Or.inr ?h); (case h => walk_at "none"))
 | exact vJ (Or.inl (by simp))
 | fail)
local macro_rules | `(tactic| walk_at "dat") => `(tactic| first
 | (refine' bJ.dv ?m; (case m => walk_at "lat"))
 | fail)
local macro_rules | `(tactic| walk_at "dats") => `(tactic| first
 | (refine' Mv.tS ?s ?i ?m; (case s => assumption); (case i => walk_at "imm"); (case m => walk_at "dats"))
 | fail)
set_option hygiene false in
local macro_rules | `(tactic| walk_at "len") => `(tactic| first
 | (simp only [List.length_map, List.length_append, List.length_cons, List.length_nil]; omega)
 | omega
 | fail)
local macro_rules | `(tactic| walk_at "rd1") => `(tactic| first
 | ((with_reducible refine' uh ?e ?_); case e => walk_at "len")
 | with_reducible refine DL ?_
 | with_reducible refine t9 ?_
 | with_reducible refine w5 (fun _ _ _ _ _ => ?_)
 | with_reducible refine tV ?_
 | with_reducible refine uC ?_
 | with_reducible refine uH ?_
 | ((with_reducible refine' xM ?e1 ?e2 ?e3 ?e4 (fun _ _ _ => ?_)); (case e1 => walk_at "dla"); (case e3 => walk_at "dat"); (case e2 => walk_at "len"); (case e4 => walk_at "imm"))
 | ((with_reducible refine' Aq ?e1 (fun _ _ => ?_)); (case e1 => walk_at "dla"))
 | ((with_reducible refine' wC ?e1 ?e2 ?_); (case e1 => walk_at "dla"); (case e2 => assumption))
 | ((with_reducible refine' tQ ?e1 ?_); (case e1 => walk_at "dla"))
 | with_reducible refine sJ ?_
 | with_reducible refine Dt ?_
 | ((with_reducible refine' zj ?e ?_); case e => walk_at "lat")
 | ((with_reducible refine' Ah ?e1 ?e2 ?e3 ?e4 (fun _ _ _ => ?_)); (case e1 => walk_at "lat"); (case e3 => walk_at "dat"); (case e2 => walk_at "len"); (case e4 => walk_at "imm"))
 | ((with_reducible refine' xJ ?e1 ?e2 ?e3 (fun _ _ _ _ _ => ?_)); (case e1 => exact vA rfl); (case e2 => walk_at "dats"); (case e3 => exact rfl))
 | with_reducible refine p9 ?_
 | with_reducible refine CF ?_
 | with_reducible refine wq ?_
 | with_reducible refine qN ?_
 | with_reducible refine sS ?_
 | with_reducible refine Au ?_
 | ((with_reducible refine' qX ?e1 ?e2 (fun _ _ _ _ _ => ?_)); (case e1 => walk_at "dat"); (case e2 => walk_at "imm"))
 | ((with_reducible refine' v7 ?e ?_); case e => walk_at "len")
 | ((with_reducible refine' yo ?e ?_); case e => walk_at "dat")
 | ((with_reducible refine' nz ?e1 ?e2 ?_); (case e1 => walk_at "isq"); (case e2 => first | exact yJ | (refine' qH ?a ?b; (case a => omega); (case b => walk_at "len")) | fail))
 | fail)
local macro_rules | `(tactic| walk_at "rd1") => `(tactic| first
 | ((with_reducible refine' yC ?e1 ?e2 ?e3 (fun _ _ _ _ _ => ?_)); (case e1 => walk_at "lat"); (case e2 => walk_at "lat"); (case e3 => walk_at "len"))
 | fail)
local macro_rules | `(tactic| walk_at "rd1") => `(tactic| first
 | with_reducible refine rF ?_
 | ((with_reducible refine' t5 ?e1 ?e2 (fun _ _ _ _ _ => ?_)); (case e1 => walk_at "dat"); (case e2 => walk_at "imm"))
 | ((with_reducible refine' xl ?e1 ?_); (case e1 => walk_at "dat"))
 | fail)
set_option hygiene false in
local macro_rules | `(tactic| walk_at "rd1") => `(tactic| first
 | fail)
set_option hygiene false in
local macro_rules | `(tactic| walk_at "rd1") => `(tactic| first
 | fail)
set_option hygiene false in
local macro_rules | `(tactic| walk_at "rd1") => `(tactic| first
 | with_reducible refine xD ?_
 | fail)
set_option hygiene false in
local macro_rules | `(tactic| walk_at "rd1") => `(tactic| first
 | fail)
set_option hygiene false in
local macro_rules | `(tactic| walk_at "rd1") => `(tactic| first
 | fail)
set_option hygiene false in
local macro_rules | `(tactic| walk_at "rd1") => `(tactic| first
 | with_reducible refine xX ?_
 | fail)
def top (i : Nat) : Stmt := PySem.Challenge.pw_wakefew_k44_no_share_can_grow.main.body.getD i (.Pass ⟨0, 0, 0, 0⟩)
set_option hygiene false in
local macro_rules | `(tactic| walk_at "scp") => `(tactic| exact ⟨rfl, rfl, rfl, by decide +kernel, rfl, by decide +kernel, by decide +kernel⟩)
abbrev fL : Stmt := top 1
theorem lH : bj ["claim"] ["claim"] (au fL) := by walk_at "scp"
abbrev bq : Stmt := top 3
theorem ax : bj ["price", "claims", "points", "loads", "shares", "name", "first", "last", "weight", "held", "place"] ["price", "claims"] (au bq) := by walk_at "scp"
abbrev cE : Stmt := top 5
theorem f9 : bj ["_law_script", "_law_k"] ["_law_script", "_law_k"] (au cE) := by walk_at "scp"
abbrev dF : Stmt := top 6
theorem iG : bj ["_law_found"] ["_law_found"] (au dF) := by walk_at "scp"
abbrev dC : Stmt := top 7
theorem eL : bj ["_law_number"] ["_law_number"] (au dC) := by walk_at "scp"
abbrev d0 : Stmt := top 8
theorem bx : bj ["_law_cell", "_law_k", "_law_some", "_law_sign", "_law_rest", "_law_place", "_law_tail"] ["_law_cell", "_law_k"] (au d0) := by walk_at "scp"
abbrev dD : Stmt := top 9
theorem bT : bj ["_law_script", "_law_many", "_law_found", "_law_number"] ["_law_script", "_law_many"] (au dD) := by walk_at "scp"
abbrev cV : Stmt := top 10
theorem az : bj ["_law_script", "_law_many", "_law_shape", "_law_cells_here", "_law_way", "_law_found", "_law_k", "_law_cell", "_law_other", "_law_first", "_law_last", "_law_weight"] ["_law_script", "_law_many"] (au cV) := by walk_at "scp"
abbrev ck : Stmt := top 11
theorem iC : bj ["_law_claims_here", "_law_cell"] ["_law_claims_here", "_law_cell"] (au ck) := by walk_at "scp"
abbrev bu : Stmt := top 12
theorem bB : bj ["_law_claim", "_law_gone", "_law_shares", "_law_most", "_law_time"] ["_law_claim", "_law_gone", "_law_shares"] (au bu) := by walk_at "scp"
abbrev p8 : Stmt := top 13
theorem c5 : bj ["_law_script", "_law_many", "_law_claims_here", "_law_price_here", "_law_handed", "_law_shares", "_law_gone", "_law_claim", "_law_before"] ["_law_script"] (au p8) := by walk_at "scp"
abbrev yB : Pos := ⟨77, 51, 77, 94⟩
abbrev wN : Str := ("law" ++ ".<locals>.") ++ "<lambda>"
structure ia (K : PySem.W.Frag) (x q : Str) (s : Stmt) (d : Value) (f : Addr) : Prop where
 a : PySem.W.nsIn K mainGlobals x = some (some (.ref f))
 l : ∃ fd, cZ K x q s f d fd
 k : PySem.W.keepIn K (.ref f) = true
structure Gq (K : PySem.W.Frag) (C : Addr) (x q : Str) (s : Stmt) (d : Value) (f : Addr) : Prop where
 a : PySem.W.findIn K (.ref C) x = some (some (.ref f))
 l : ∃ fd, cZ K x q s f d fd
 k : PySem.W.keepIn K (.ref f) = true
 i : PySem.W.isFn K (.ref f) = true
structure F3 (K : PySem.W.Frag) (C : Addr) : Prop where
 pg : PySem.W.plainGet K C Str.empty = true
 hd : PySem.W.hasDictIn K C = true
 po : PySem.W.plainOver K C = true
 sa : PySem.W.findIn K (.ref C) "__setattr__" = some (some (.builtin "object.__setattr__"))
 t1 : PySem.W.findIn K (.ref C) "__class__" = some (some (.builtin "object.__class__"))
 t2 : PySem.W.mroIn K C (.type "object") = some true
 t3 : PySem.W.typeIn K (.ref C) = some (.type "type")
set_option genSizeOf false in
set_option genInjectivity false in
structure Ad where
 bN : Addr
 ic : FuncData
 bf : Addr
 fw : FuncData
 aI : Addr
 dN : FuncData
 aW : Addr
 eK : FuncData
 aX : Addr
 eG : FuncData
 bb : Addr
 fA : FuncData
 aR : Addr
 eJ : FuncData
 aN : Addr
 dX : FuncData
 aV : Addr
 eD : FuncData
 aH : Addr
 dO : FuncData
 ip : Addr
 g5 : FuncData
 hZ : Addr
 dB : Addr
 tabs : List Addr
structure Txt (K : PySem.W.Frag) (mg : Str -> Option Value) (a : Ad) : Prop where
 fO : cZ K "by_last" "by_last" fL a.bN (.none) a.ic
 hV : mg "by_last" = some (.ref a.bN)
 dW : cZ K "shares_at" "shares_at" bq a.bf (.none) a.fw
 b9 : PySem.W.keepIn K (.ref a.bf) = true
 cm : mg "shares_at" = some (.ref a.bf)
 cB : cZ K "_law_cell_at" "_law_cell_at" cE a.aI (.none) a.dN
 aL : PySem.W.keepIn K (.ref a.aI) = true
 aM : mg "_law_cell_at" = some (.ref a.aI)
 dn : cZ K "_law_whole" "_law_whole" dF a.aW (.none) a.eK
 eE : PySem.W.keepIn K (.ref a.aW) = true
 eM : mg "_law_whole" = some (.ref a.aW)
 dE : cZ K "_law_mixed" "_law_mixed" dC a.aX (.none) a.eG
 c4 : PySem.W.keepIn K (.ref a.aX) = true
 cW : mg "_law_mixed" = some (.ref a.aX)
 d7 : cZ K "_law_name" "_law_name" d0 a.bb (.none) a.fA
 eY : PySem.W.keepIn K (.ref a.bb) = true
 fm : mg "_law_name" = some (.ref a.bb)
 dr : cZ K "_law_cells" "_law_cells" dD a.aR (.none) a.eJ
 eF : PySem.W.keepIn K (.ref a.aR) = true
 eQ : mg "_law_cells" = some (.ref a.aR)
 cY : cZ K "_law_claims" "_law_claims" cV a.aN (.none) a.dX
 d6 : PySem.W.keepIn K (.ref a.aN) = true
 d5 : mg "_law_claims" = some (.ref a.aN)
 dq : cZ K "_law_price" "_law_price" ck a.aV (.none) a.eD
 eP : PySem.W.keepIn K (.ref a.aV) = true
 eI : mg "_law_price" = some (.ref a.aV)
 cG : cZ K "_law_fullest" "_law_fullest" bu a.aH (.none) a.dO
 dJ : PySem.W.keepIn K (.ref a.aH) = true
 dM : mg "_law_fullest" = some (.ref a.aH)
 qJ : cZ K "law" "law" p8 a.ip (.none) a.g5
 qK : mg "law" = some (.ref a.ip)
 gU : zu K a.g5 a.hZ a.dB
 jq : a.dB ∈ a.tabs
 tF : ∀ b ∈ a.tabs, b = a.dB
 gy : mg "bool" = none
 no_dict : mg "dict" = none
 bZ : mg "enumerate" = none
 jg : mg "int" = none
 bo : mg "isinstance" = none
 dG : mg "len" = none
 e7 : mg "list" = none
 hE : mg "max" = none
 gP : mg "min" = none
 fq : mg "range" = none
 cR : mg "reversed" = none
 jv : mg "set" = none
 cu : mg "sorted" = none
 ie : mg "sum" = none
theorem we {K : PySem.W.Frag} {h : Heap} {mg : Str -> Option Value} {bN bf aI aW aX bb aR aN aV aH ip hZ dB : Addr} {tabs : List Addr}  (X : K.In h) (G : h.Ns mainGlobals mg)
 (fR : ia K "by_last" "by_last" fL (.none) bN)
 (cM : ia K "shares_at" "shares_at" bq (.none) bf)
 (bG : ia K "_law_cell_at" "_law_cell_at" cE (.none) aI)
 (b8 : ia K "_law_whole" "_law_whole" dF (.none) aW)
 (cb : ia K "_law_mixed" "_law_mixed" dC (.none) aX)
 (cK : ia K "_law_name" "_law_name" d0 (.none) bb)
 (b7 : ia K "_law_cells" "_law_cells" dD (.none) aR)
 (bR : ia K "_law_claims" "_law_claims" cV (.none) aN)
 (cn : ia K "_law_price" "_law_price" ck (.none) aV)
 (bI : ia K "_law_fullest" "_law_fullest" bu (.none) aH)
 (nJ : ia K "law" "law" p8 (.none) ip)
 (vP : wy K ip hZ dB)
 (jq : dB ∈ tabs)
 (tF : ∀ b ∈ tabs, b = dB)
 (gy : PySem.W.nsIn K mainGlobals "bool" = some none)
 (no_dict : PySem.W.nsIn K mainGlobals "dict" = some none)
 (bZ : PySem.W.nsIn K mainGlobals "enumerate" = some none)
 (jg : PySem.W.nsIn K mainGlobals "int" = some none)
 (bo : PySem.W.nsIn K mainGlobals "isinstance" = some none)
 (dG : PySem.W.nsIn K mainGlobals "len" = some none)
 (e7 : PySem.W.nsIn K mainGlobals "list" = some none)
 (hE : PySem.W.nsIn K mainGlobals "max" = some none)
 (gP : PySem.W.nsIn K mainGlobals "min" = some none)
 (fq : PySem.W.nsIn K mainGlobals "range" = some none)
 (cR : PySem.W.nsIn K mainGlobals "reversed" = some none)
 (jv : PySem.W.nsIn K mainGlobals "set" = some none)
 (cu : PySem.W.nsIn K mainGlobals "sorted" = some none)
 (ie : PySem.W.nsIn K mainGlobals "sum" = some none)
 : ∃ a : Ad, a.tabs = tabs /\ Txt K mg a :=
 ⟨⟨bN, fR.l.choose, bf, cM.l.choose, aI, bG.l.choose, aW, b8.l.choose, aX, cb.l.choose, bb, cK.l.choose, aR, b7.l.choose, aN, bR.l.choose, aV, cn.l.choose, aH, bI.l.choose, ip, nJ.l.choose, hZ, dB, tabs⟩, rfl, {
   fO := fR.l.choose_spec,
   hV := PySem.W.mg_of X G fR.a,
   dW := cM.l.choose_spec,
   b9 := cM.k,
   cm := PySem.W.mg_of X G cM.a,
   cB := bG.l.choose_spec,
   aL := bG.k,
   aM := PySem.W.mg_of X G bG.a,
   dn := b8.l.choose_spec,
   eE := b8.k,
   eM := PySem.W.mg_of X G b8.a,
   dE := cb.l.choose_spec,
   c4 := cb.k,
   cW := PySem.W.mg_of X G cb.a,
   d7 := cK.l.choose_spec,
   eY := cK.k,
   fm := PySem.W.mg_of X G cK.a,
   dr := b7.l.choose_spec,
   eF := b7.k,
   eQ := PySem.W.mg_of X G b7.a,
   cY := bR.l.choose_spec,
   d6 := bR.k,
   d5 := PySem.W.mg_of X G bR.a,
   dq := cn.l.choose_spec,
   eP := cn.k,
   eI := PySem.W.mg_of X G cn.a,
   cG := bI.l.choose_spec,
   dJ := bI.k,
   dM := PySem.W.mg_of X G bI.a,
   qJ := nJ.l.choose_spec,
   qK := PySem.W.mg_of X G nJ.a,
   gU := tY nJ.l.choose_spec vP,
   jq := jq,
   tF := tF,
   gy := PySem.W.mg_none_of X G gy,
   no_dict := PySem.W.mg_none_of X G no_dict,
   bZ := PySem.W.mg_none_of X G bZ,
   jg := PySem.W.mg_none_of X G jg,
   bo := PySem.W.mg_none_of X G bo,
   dG := PySem.W.mg_none_of X G dG,
   e7 := PySem.W.mg_none_of X G e7,
   hE := PySem.W.mg_none_of X G hE,
   gP := PySem.W.mg_none_of X G gP,
   fq := PySem.W.mg_none_of X G fq,
   cR := PySem.W.mg_none_of X G cR,
   jv := PySem.W.mg_none_of X G jv,
   cu := PySem.W.mg_none_of X G cu,
   ie := PySem.W.mg_none_of X G ie
 }⟩
section
variable {P : Program} {w : World} {K : PySem.W.Frag} {mg : Str -> Option Value} {base : Heap} {a : Ad}
def zI : PyData -> Bool
 | .int _ => true
 | _ => false
theorem zx {H : Hp} {Q : VK} {v : V} {ds : List PyData} {i : Int} (hp : Dv H v (.list ds)) (xq : ds.all zI = true) (h0 : 0 <= i) (h1 : i < ds.length) (h : ∀ n, PyData.int n ∈ ds -> Q (.int n) H) : jx K v (.int i) H Q := by
 obtain ⟨m, rfl⟩ := Int.eq_ofNat_of_zero_le h0
 have hi : m < ds.length := by omega
 have hm : ds[m] ∈ ds := List.getElem_mem hi
 have hb : zI ds[m] = true := List.all_eq_true.mp xq _ hm
 obtain ⟨n, hn⟩ : ∃ n, ds[m] = .int n := by
  cases e : ds[m] with
  | int n => exact ⟨n, rfl⟩
  | _ => rw [e] at hb; cases hb
 have e : jR ds (m : Int) = some (.int n) := fc (by rw [List.getElem?_eq_getElem hi, hn])
 exact nz (.inr hp) e (jG (h n (hn ▸ hm)))
local macro_rules | `(tactic| walk_at "rd1") => `(tactic| first
 | ((with_reducible refine' zx ?e1 ?e2 ?e3 ?e4 (fun n hn => ?q)); (case e1 => walk_at "dat"); (case e2 => exact rfl); (case e3 => omega); (case e4 => (simp only [List.length_cons, List.length_nil]; omega)); (case' q => simp only [List.mem_cons, List.not_mem_nil, or_false, PyData.int.injEq] at hn))
 | fail)
def il : Sp := fun vs H Q _ => ∃ n, vs = [.int n] /\ ∀ r, 0 <= r -> r < 2147483647 -> Q (.int r) H
theorem uj {H : Hp} {Q : VK} {E : XK} {n : Int} (q : ∀ r, 0 <= r -> r < 2147483647 -> Q (.int r) H) : il [.int n] H Q E := ⟨n, rfl, q⟩
theorem qb (T : Txt K mg a) : bK P w K mg base gY 1 a.aX a.eG ["_law_number"] il := by
 refine T.dE.ok eL (fun vs H Q E h => ?_) (fun dj A outer s H vs Q E hr h => ?_)
 . obtain ⟨_, rfl, _⟩ := h; rfl
 . obtain ⟨n, rfl, q⟩ := h
   refine ⟨_, (aj (aC (i := 0) eL.nd rfl (Or.inl rfl) (ag ay (ag cg (ag bP (ag ay (pv 0) af) af) af) af))
    (aA (bw (ag ay (ag cg (pv 0) (ag bP (ag aG (pv 0) af) af)) af)))), ?_⟩
   repeat' (walk_at "rd1")
   exact q _ (by assumption) (by assumption)
theorem i9 (T : Txt K mg a) : oC P w K mg base 1 a.aX ["_law_number"] [] il :=
 ⟨⟨_, _, qb T, T.dE.binds fun _ _ _ _ _ _ => .all fun us hl => match us, hl with | [_], _ => rfl, .nil⟩⟩
def kQ (s : Str) : Prop := ∀ c ∈ s.cps.toList, c < 1114112
theorem kQ.sub {s t : Str} (h : kQ t) (k : ∀ c ∈ s.cps.toList, c ∈ t.cps.toList) : kQ s := fun c hc => h c (k c hc)
theorem kQ.app {s t : Str} (h : kQ s) (k : kQ t) : kQ (s ++ t) := by
 intro c hc
 have : c ∈ (s.cps ++ t.cps).toList := hc
 rw [Array.toList_append] at this
 rcases List.mem_append.mp this with z | z
 . exact h c z
 . exact k c z
theorem kQ.one {c : Nat} {t : Str} (h : kQ t) (k : c ∈ t.cps.toList) : kQ ⟨#[c]⟩ := by
 intro x hx
 have : x = c := by simpa using hx
 subst this; exact h x k
theorem kQ.abc : kQ "abcdefghijklmnopqrstuvwxyz" := by
 have h : ((Str.ofString "abcdefghijklmnopqrstuvwxyz").cps.toList.all fun c => decide (c < 1114112)) = true := by decide +kernel
 intro c hc
 exact of_decide_eq_true (List.all_eq_true.mp h c hc)
theorem ft : (Str.ofString "abcdefghijklmnopqrstuvwxyz").length = 26 := by decide +kernel
theorem m6 (c : Nat) : (Str.mk #[c]).length = 1 := rfl
def zQ (s : Str) : Prop := s.length <= 200 /\ kQ s
abbrev kl : Str := Str.ofString "abcdefghijklmnopqrstuvwxyz"
theorem yb : ∀ i : Fin 26, kl.cps.toList[i.val]? = some (97 + i.val) := by decide +kernel
def gC (c : Int) : Str := bz (bz kl (some (c / 156 % 20)) none) none (some (c / 3120 % 6))
def jJ (c : Int) : Int := c / 18720 % (((gC c).length : Nat) + 1)
def gk (c : Int) : Int := [1, 3, 5, 7, 9, 11].getD (c / 26 % 6).toNat 0
def lZ (c k : Int) : Nat := 97 + ((c + k * gk c) % 26).toNat
def vK (c k : Int) : Str := bz (bz kl (some (k * 7 % 26)) none) none (some (k % 3 * (c / 112320 % 2)))
def rJ (c k : Int) : Str := ((bz (gC c) none (some (jJ c)) ++ ⟨#[lZ c k]⟩) ++ bz (gC c) (some (jJ c)) none) ++ vK c k
theorem uI (x y : Str) : (x ++ y).cps.toList = x.cps.toList ++ y.cps.toList := by show (x.cps ++ y.cps).toList = _; simp
theorem rq (c : Int) : gk c = 1 \/ gk c = 3 \/ gk c = 5 \/ gk c = 7 \/ gk c = 9 \/ gk c = 11 := by
 unfold gk
 have h0 : 0 <= c / 26 % 6 := by omega
 have h1 : c / 26 % 6 < 6 := by omega
 generalize c / 26 % 6 = z at *
 have : z = 0 \/ z = 1 \/ z = 2 \/ z = 3 \/ z = 4 \/ z = 5 := by omega
 rcases this with rfl | rfl | rfl | rfl | rfl | rfl <;> simp
theorem t7 {c k k' : Int} (h0 : 0 <= k) (h1 : k < 26) (h2 : 0 <= k') (h3 : k' < 26) (h : rJ c k = rJ c k') : k = k' := by
 have e := congrArg (fun s : Str => s.cps.toList) h
 simp only [rJ, uI, List.append_assoc] at e
 have e2 := List.append_cancel_left e
 have e3 : lZ c k = lZ c k' := (List.cons.inj e2).1
 unfold lZ at e3
 have e4 : (c + k * gk c) % 26 = (c + k' * gk c) % 26 := by omega
 rcases rq c with m | m | m | m | m | m <;> rw [m] at e4 <;> omega
theorem xQ (c k : Int) : zQ (rJ c k) := by
 have al : kl.length = 26 := ft
 have l1 := bQ kl (some (c / 156 % 20)) none
 have l2 : (gC c).length <= _ := bQ (bz kl (some (c / 156 % 20)) none) none (some (c / 3120 % 6))
 have l3 := bQ (gC c) none (some (jJ c))
 have l4 := bQ (gC c) (some (jJ c)) none
 have l5 := bQ kl (some (k * 7 % 26)) none
 have l6 : (vK c k).length <= _ := bQ (bz kl (some (k * 7 % 26)) none) none (some (k % 3 * (c / 112320 % 2)))
 have r : kQ (gC c) := (kQ.abc.sub cw).sub cw
 have cz : lZ c k < 1114112 := by
  unfold lZ
  generalize c + k * gk c = z
  omega
 refine ⟨?_, (((r.sub cw).app ?_).app (r.sub cw)).app ((kQ.abc.sub cw).sub cw)⟩
 . simp only [rJ, Str.length_append, m6]; omega
 . intro d hd
   have : d = lZ c k := by simpa using hd
   omega
def iu : Sp := fun vs H Q _ => ∃ c k, vs = [.int c, .int k] /\ 0 <= c /\ c < 10 ^ 20 /\ 0 <= k /\ k < 100 /\ ∀ H', ah H H' -> Q (.str (rJ c k)) H'
theorem tE {H : Hp} {Q : VK} {E : XK} {c k : Int} (h : 0 <= c /\ c < 10 ^ 20 /\ 0 <= k /\ k < 100) (q : ∀ H', ah H H' -> Q (.str (rJ c k)) H') : iu [.int c, .int k] H Q E := ⟨c, k, rfl, h.1, h.2.1, h.2.2.1, h.2.2.2, q⟩
theorem wc {H : Hp} {Q : VK} {v : V} {ls : List Int} {i : Int} (hp : Dv H v (.list (ls.map PyData.int))) (h0 : 0 <= i) (h1 : i < ls.length) (h : Q (.int (ls.getD i.toNat 0)) H) : jx K v (.int i) H Q := by
 obtain ⟨m, rfl⟩ := Int.eq_ofNat_of_zero_le h0
 have hi : m < ls.length := by omega
 refine nz (d := .int (ls.getD m 0)) (.inr hp) (fc (by rw [List.getElem?_map, List.getElem?_eq_getElem hi]; simp [List.getD_eq_getElem?_getD, hi])) (jG h)
theorem sD {H : Hp} {Q : VK} {i : Int} (h0 : 0 <= i) (h1 : i < 26) (h : Q (.str ⟨#[97 + i.toNat]⟩) H) : jx K (.str (Str.ofString "abcdefghijklmnopqrstuvwxyz")) (.int i) H Q :=
 xK (by rw [ft]; decide) h0 (by rw [ft]; omega) fun c hc => by
  have e := yb ⟨i.toNat, by omega⟩
  have e2 : some c = some (97 + i.toNat) := hc.symm.trans e
  rw [Option.some.inj e2]; exact h
local macro_rules | `(tactic| walk_at "rd1") => `(tactic| first
 | ((with_reducible refine' wc (ls := [1, 3, 5, 7, 9, 11]) ?e1 ?e2 ?e3 ?_); (case e1 => walk_at "dat"); (case e2 => omega); (case e3 => (simp only [List.length_cons, List.length_nil]; omega)))
 | ((with_reducible refine' yp ?e1 (fun _ => ?_)); (case e1 => walk_at "len"))
 | ((with_reducible refine' sD ?e1 ?e2 ?_); (case e1 => omega); (case e2 => omega))
 | fail)
set_option hygiene false in
local macro_rules | `(tactic| walk_at "len") => `(tactic| first
 | (simp only [Str.length_append, m6, ft] at *; omega)
 | fail)
theorem rj (T : Txt K mg a) : bK P w K mg base gY 1 a.bb a.fA ["_law_cell", "_law_k"] iu := by
 refine T.d7.ok bx (fun vs H Q E h => ?_) (fun dj A outer s H vs Q E hr h => ?_)
 . obtain ⟨_, _, rfl, _⟩ := h; rfl
 . obtain ⟨c, k, rfl, c0, c1, k0, k1, q⟩ := h
   have al := ft
   refine ⟨_, (aj (aC (i := 2) bx.nd rfl (Or.inl rfl) my)
    (aj (aC (i := 3) bx.nd rfl (Or.inl rfl) (a8 dg (pv 2) (ag ay (ag bP (pv 0) (ag cg (pv 1) (a8 dg (cO (mY (vs := [.int 1, .int 3, .int 5, .int 7, .int 9, .int 11]) rfl)) (ag ay (ag aG (pv 0) af) af) (fun _ _ => rfl)))) af) (fun _ _ => rfl)))
    (aj (aC (i := 4) bx.nd rfl (Or.inl rfl) (cD ez (cD ez (pv 2) (cL (ag ay (ag aG (pv 0) af) af)) eA) eA (cL (ag ay (ag aG (pv 0) af) af))))
    (aj (aC (i := 5) bx.nd rfl (Or.inl rfl) (ag ay (ag aG (pv 0) af) (ag bP (aO c9 rfl T.dG PySem.boot_len (ae (pv 4) ak)) af)))
    (aj (aC (i := 6) bx.nd rfl (Or.inl rfl) (cD ez (cD ez (pv 2) (cL (ag ay (ag cg (pv 1) af) af)) eA) eA (cL (ag cg (ag ay (pv 1) af) (ag ay (ag aG (pv 0) af) af)))))
    (aA (bw (ag jF (ag jF (ag jF (cD ez (pv 4) eA (cL (pv 5))) (pv 3)) (cD ez (pv 4) (cL (pv 5)) eA)) (pv 6))))))))), ?_⟩
   have hm : 0 <= [1, 3, 5, 7, 9, 11].getD (c / 26 % 6).toNat (0 : Int) /\ [1, 3, 5, 7, 9, 11].getD (c / 26 % 6).toNat (0 : Int) <= 11 := by
    have := rq c
    unfold gk at this
    omega
   repeat' (walk_at "rd1")
   exact q _ (by walk_at "same")
theorem n6 (T : Txt K mg a) : oC P w K mg base 1 a.bb ["_law_cell", "_law_k"] [] iu :=
 ⟨⟨_, _, rj T, T.d7.binds fun _ _ _ _ _ _ => .all fun us hl => match us, hl with | [_, _], _ => rfl, .nil⟩⟩
theorem oG (T : Txt K mg a) (s : Shared) (u : Value) : BindsTo s a.g5 ⟨[u], []⟩ [("_law_script", u)] := by
 obtain ⟨oc, od, kV, doc, pm, an, dj, ct, pA, e, lk, iE⟩ := T.qJ.ex
 rw [e]
 exact .of_eq rfl
theorem gN (T : Txt K mg a) : bK P w K mg base gY 1 a.aI a.dN ["_law_script", "_law_k"] (lz K) := by
 refine T.cB.ok f9 (fun vs H Q E h => ?_) (fun dj A outer s H vs Q E hr h => ?_)
 . obtain ⟨_, _, _, rfl, _⟩ := h; rfl
 . obtain ⟨l, ns, i, rfl, hl, h0, k⟩ := h
   refine ⟨_, (aj (fV (cQ vB (pv 1) (aO c9 rfl T.dG PySem.boot_len (ae (pv 0) ak)) (cX _))
    (aA (bw (a8 dg (pv 0) (pv 1) (fun _ _ => rfl))))
    cS)
    (aA (bw af))), ?_⟩
   repeat' (walk_at "rd1")
   . exact zS hl (tP h0 (by assumption)) k
   . rw [ub h0 (by assumption)] at k; exact k
theorem bX (T : Txt K mg a) : oC P w K mg base 1 a.aI ["_law_script", "_law_k"] [] (lz K) :=
 ⟨⟨_, _, gN T, T.cB.binds fun _ _ _ _ _ _ => .all fun us hl => match us, hl with | [_, _], _ => rfl, .nil⟩⟩
def gR (K : PySem.W.Frag) : Sp := fun vs H Q _ => ∃ (l : Addr) (ns : List Int) (m : Int), vs = [.ref l, .int m] /\ bF K H l (ns.map V.int) /\ 0 <= m /\ m <= 200 /\ ∀ p H' (ms : List Int), ah H H' -> H p = none -> (ms.length : Int) = m -> bJ H' p (ms.map PyData.int) -> Q (.ref p) H'
theorem uL {H : Hp} {Q : VK} {E : XK} {l : Addr} {ns : List Int} {m : Int} (h : bF K H l (ns.map V.int)) (h0 : 0 <= m) (h1 : m <= 200) (q : ∀ p H' (ms : List Int), ah H H' -> H p = none -> (ms.length : Int) = m -> bJ H' p (ms.map PyData.int) -> Q (.ref p) H') : gR K [.ref l, .int m] H Q E := ⟨l, ns, m, rfl, h, h0, h1, q⟩
local macro_rules | `(tactic| walk_at "use") => `(tactic| first
 | with_reducible refine uj (fun _ _ _ => ?_)
 | ((with_reducible refine' wL ?e1 ?e2 ?_); (case e1 => walk_at "sql"); (case e2 => omega))
 | ((with_reducible refine' uL ?e1 ?e2 ?e3 (fun _ _ _ _ _ _ _ => ?_)); (case e1 => walk_at "sql"); (case e2 => omega); (case e3 => omega))
 | ((with_reducible refine' tE ?e1 (fun _ _ => ?_)); (case e1 => omega))
 | fail)
theorem qw (T : Txt K mg a) : bK P w K mg base gY 2 a.aR a.eJ ["_law_script", "_law_many"] (gR K) := by
 have aK := bX (P := P) (w := w) (base := base) T
 have dH := i9 (P := P) (w := w) (base := base) T
 refine T.dr.ok bT (fun vs H Q E h => ?_) (fun dj A outer s H vs Q E hr h => ?_)
 . obtain ⟨_, _, _, rfl, _⟩ := h; rfl
 . obtain ⟨l, ns, m, rfl, hl, m0, m1, q⟩ := h
   refine ⟨_, (aj (aC (i := 2) bT.nd rfl (Or.inl rfl) (cD sG (pv 0) (cL af) (cL (ag bP af (pv 1)))))
    (aj (aC (i := 3) bT.nd rfl (Or.inl rfl) (aS aK (hr.mono (by decide)) rfl T.aM T.aL (ae (pv 0) (ae af ak))))
    (aj (qO PassesOwn.never (cQ vB (aO c9 rfl T.dG PySem.boot_len (ae (pv 2) ak)) (pv 1) (cX _))
     (aj (aC (i := 3) bT.nd rfl (Or.inl rfl) (aS dH (hr.mono (by decide)) rfl T.cW T.c4 (ae (ag bP (pv 3) (aO c9 rfl T.dG PySem.boot_len (ae (pv 2) ak))) ak)))
     (aA (jz (pZ PySem.F.plainAttrs_list PySem.F.slot_list_append PySem.F.type_list_append fH (pv 2) (ae (pv 3) ak))))))
    (aA (bw (pv 2)))))), ?_⟩
   repeat' (walk_at "rd1")
   obtain ⟨M, rfl⟩ := Int.eq_ofNat_of_zero_le m0
   refine yc 4 (4 + M) hl (fun p H1 tD yO hp => ?_)
   have Ck : ((ns.drop 4).take (4 + M - 4)).length <= M := by rw [List.length_take]; omega
   generalize (ns.drop 4).take (4 + M - 4) = Gi at *
   repeat' (walk_at "rd1")
   refine tq (fun r σ' H' => ∃ (num : Int) (ms : List Int), σ' = [some (.ref l), some (.int M), some (.ref p), some (.int num)] /\ Mv [p] H1 H' /\ bJ H' p (ms.map PyData.int) /\ ms.length <= M /\ r = M - ms.length) ⟨_, _, Gi, rfl, Mv.refl, hp, Ck, rfl⟩ ?_
   rintro r σ' H' ⟨num, ms, rfl, mv, si, hle, rfl⟩
   repeat' (walk_at "rd1")
   . rename_i hb x x0 x1 H3 IZ GQ
     refine ⟨M - (ms.length + 1), by omega, x, ms ++ [x], rfl, by walk_at "mv", by rw [List.map_append]; exact GQ, by rw [List.length_append]; simp only [List.length_cons, List.length_nil]; omega, by rw [List.length_append]; rfl⟩
   . exact q p H' ms (by walk_at "same") yO (by omega) si
theorem oo (T : Txt K mg a) : oC P w K mg base 2 a.aR ["_law_script", "_law_many"] [] (gR K) :=
 ⟨⟨_, _, qw T, T.dr.binds fun _ _ _ _ _ _ => .all fun us hl => match us, hl with | [_, _], _ => rfl, .nil⟩⟩
abbrev C4 := Str × Int × Int × Int
def dR (c : C4) : PyData := .tuple [.str c.1, .int c.2.1, .int c.2.2.1, .int c.2.2.2]
structure wF (cs : List C4) : Prop where
 nm : ∀ c ∈ cs, zQ c.1
 wd : ∀ c ∈ cs, c.2.1 <= c.2.2.1
structure k8 (cs : List C4) : Prop where
 ok : wF cs
 w1 : ∀ c ∈ cs, 1 <= c.2.2.2 /\ c.2.2.2 <= 10 ^ 12
 nd : (cs.map (·.1)).Nodup
theorem qf (c : Int) : ∀ m : Nat, m <= 26 -> ((List.range m).map fun i => rJ c (i : Nat)).Nodup := fun m hm => by
 rw [List.Nodup, List.pairwise_map]
 refine List.Pairwise.imp_of_mem (fun ha hb zO e => zO ?_) List.nodup_range
 have h1 := List.mem_range.mp ha
 have h2 := List.mem_range.mp hb
 have := t7 (by omega) (by omega) (by omega) (by omega) e
 omega
def eS (K : PySem.W.Frag) : Sp := fun vs H Q _ => ∃ (l : Addr) (ns : List Int) (m : Int), vs = [.ref l, .int m] /\ bF K H l (ns.map V.int) /\ 0 <= m /\ m <= 26 /\ ∀ p H' (cs : List C4), ah H H' -> H p = none -> (cs.length : Int) = m -> k8 cs -> bJ H' p (cs.map dR) -> Q (.ref p) H'
theorem o4 {H : Hp} {Q : VK} {E : XK} {l : Addr} {ns : List Int} {m : Int} (h : bF K H l (ns.map V.int)) (h0 : 0 <= m) (h1 : m <= 26) (q : ∀ p H' (cs : List C4), ah H H' -> H p = none -> (cs.length : Int) = m -> k8 cs -> bJ H' p (cs.map dR) -> Q (.ref p) H') : eS K [.ref l, .int m] H Q E := ⟨l, ns, m, rfl, h, h0, h1, q⟩
set_option maxHeartbeats 0 in
theorem lV (T : Txt K mg a) : bK P w K mg base gY 3 a.aN a.dX ["_law_script", "_law_many"] (eS K) := by
 have aK := bX (P := P) (w := w) (base := base) T
 have dH := i9 (P := P) (w := w) (base := base) T
 have jM := oo (P := P) (w := w) (base := base) T
 have j7 := n6 (P := P) (w := w) (base := base) T
 refine T.cY.ok az (fun vs H Q E h => ?_) (fun dj A outer s H vs Q E hr h => ?_)
 . obtain ⟨_, _, _, rfl, _⟩ := h; rfl
 . obtain ⟨l, ns, m, rfl, hl, m0, m1, q⟩ := h
   refine ⟨_, (aj (aC (i := 2) az.nd rfl (Or.inl rfl) (aS dH (hr.mono (by decide)) rfl T.cW T.c4 (ae (aS aK (hr.mono (by decide)) rfl T.aM T.aL (ae (pv 0) (ae af ak))) ak)))
    (aj (aC (i := 3) az.nd rfl (Or.inl rfl) (aS jM (hr.mono (by decide)) rfl T.eQ T.eF (ae (pv 0) (ae (ag cg af (pv 1)) ak))))
    (aj (aC (i := 4) az.nd rfl (Or.inl rfl) (ag ay (pv 2) af))
    (aj (aC (i := 5) az.nd rfl (Or.inl rfl) (cO ak))
    (aj (fG PassesOwn.never rfl (o7 rfl T.fq (ae (pv 1) ak)) (aE (i := 6) az.nd rfl (Or.inl rfl))
     (aj (aC (i := 7) az.nd rfl (Or.inl rfl) (a8 dg (pv 3) (ag cg af (pv 6)) (fun _ _ => rfl)))
     (aj (aC (i := 8) az.nd rfl (Or.inl rfl) (a8 dg (pv 3) (ag bP (ag cg af (pv 6)) af) (fun _ _ => rfl)))
     (aj (aC (i := 9) az.nd rfl (Or.inl rfl) (ag bP (a8 dg (cO (ae af (ae af (ae (ag g4 af af) (ae (ag ib af af) ak))))) (ag ay (ag aG (pv 2) af) af) (fun _ _ => rfl)) (ag ay (pv 7) (a8 dg (cO (ae af (ae af (ae (ag g4 af af) (ae (ag cg af (pv 1)) ak))))) (pv 4) (fun _ _ => rfl)))))
     (aj (aC (i := 10) az.nd rfl (Or.inl rfl) (ag bP (pv 9) (a8 dg (cO (ae (ag ay (ag aG (pv 7) af) af) (ae (ag ay (ag aG (pv 7) af) af) (ae (ag ay (ag aG (pv 8) af) (ag g4 af af)) (ae (ag ay (ag aG (pv 7) af) af) ak))))) (pv 4) (fun _ _ => rfl))))
     (aj (aC (i := 11) az.nd rfl (Or.inl rfl) (ag bP af (ag ay (pv 8) (a8 dg (cO (ae af (ae af (ae (ag ib (ag g4 af af) af) ak)))) (ag ay (ag aG (pv 2) af) af) (fun _ _ => rfl)))))
     (aA (jz (pZ PySem.F.plainAttrs_list PySem.F.slot_list_append PySem.F.type_list_append fH (pv 5) (ae (jL (ae (aS j7 (hr.mono (by decide)) rfl T.fm T.eY (ae (ag aG (pv 2) af) (ae (pv 6) ak))) (ae (pv 9) (ae (pv 10) (ae (pv 11) ak))))) ak))))))))))
    (aA (bw (pv 5)))))))), ?_⟩
   obtain ⟨M, rfl⟩ := Int.eq_ofNat_of_zero_le m0
   repeat' (walk_at "rd1")
   rename_i sh Io IW pc H1 ms tD yO yG zV w0 w1 pf H2 e8 vk Ij
   refine og (fun j σ' H' => ∃ z6 z7 z8 z9 kP vf cs, σ' = [some (.ref l), some (.int M), some (.int sh), some (.ref pc), some (.int (sh % 4)), some (.ref pf), z6, z7, z8, z9, kP, vf] /\ Mv [pf] H2 H' /\ bJ H' pf (cs.map dR) /\ cs.length = j /\ wF cs /\ (∀ c ∈ cs, 1 <= c.2.2.2 /\ c.2.2.2 <= 10 ^ 12) /\ cs.map (·.1) = (List.range j).map fun i => rJ (sh / 48) (i : Nat)) ⟨_, _, _, _, _, _, [], rfl, Mv.refl, Ij, rfl, ⟨fun c h => by simp at h, fun c h => by simp at h⟩, fun c h => by simp at h, rfl⟩ ?_ ?_
   . rintro j σ' H' hj ⟨z6, z7, z8, z9, kP, vf, cs, rfl, mv, si, gb, aB, D1, Ed⟩
     have Iy : j < M := by simpa using hj
     have fin : ∀ (c : C4) H3 (σ2 : St) (z6 z7 z8 z9 kP vf : Option V), c.1 = rJ (sh / 48) (0 + (j : Nat)) -> c.2.1 <= c.2.2.1 -> (1 <= c.2.2.2 /\ c.2.2.2 <= 10 ^ 12) -> Mv [pf] H2 H3 -> bJ H3 pf (cs.map dR ++ [dR c]) -> σ2 = [some (.ref l), some (.int M), some (.int sh), some (.ref pc), some (.int (sh % 4)), some (.ref pf), z6, z7, z8, z9, kP, vf] -> ∃ z6 z7 z8 z9 kP vf cs, σ2 = [some (.ref l), some (.int M), some (.int sh), some (.ref pc), some (.int (sh % 4)), some (.ref pf), z6, z7, z8, z9, kP, vf] /\ Mv [pf] H2 H3 /\ bJ H3 pf (cs.map dR) /\ cs.length = j + 1 /\ wF cs /\ (∀ c ∈ cs, 1 <= c.2.2.2 /\ c.2.2.2 <= 10 ^ 12) /\ cs.map (·.1) = (List.range (j + 1)).map fun i => rJ (sh / 48) (i : Nat) := by
      intro c H3 σ2 z6 z7 z8 z9 kP vf hn hw HL m l2 e
      refine ⟨_, _, _, _, _, _, cs ++ [c], e, m, by rw [List.map_append]; exact l2, by simp [gb], ⟨fun d hd => ?_, fun d hd => ?_⟩, fun d hd => ?_, ?_⟩
      . rcases List.mem_append.mp hd with hd | hd
        . exact aB.nm d hd
        . have : d = c := by simpa using hd
          subst this; rw [hn]; exact xQ _ _
      . rcases List.mem_append.mp hd with hd | hd
        . exact aB.wd d hd
        . have : d = c := by simpa using hd
          subst this; exact hw
      . rcases List.mem_append.mp hd with hd | hd
        . exact D1 d hd
        . have : d = c := by simpa using hd
          subst this; exact HL
      . rw [List.map_append, Ed, List.range_succ, List.map_append, List.map_cons, List.map_nil, List.map_cons, List.map_nil, hn]
        rw [Int.zero_add]
     repeat' (walk_at "rd1")
     all_goals (refine' fin (_, _, _, _) _ _ _ _ _ _ _ _ ?e1 ?e2 ?e6 ?e3 ?e4 ?e5; (case e4 => assumption); (case e5 => exact rfl); (case e1 => exact rfl); (case e6 => (dsimp only; omega)); (case e3 => walk_at "mv"); (case e2 => (dsimp only; omega)))
   . rintro σ' H' ⟨z6, z7, z8, z9, kP, vf, cs, rfl, mv, si, gb, aB, D1, Ed⟩
     repeat' (walk_at "rd1")
     exact q pf H' cs (by walk_at "same") (by walk_at "none") (by omega) ⟨aB, D1, by rw [Ed]; exact qf _ _ (by omega)⟩ si
theorem jZ (T : Txt K mg a) : oC P w K mg base 3 a.aN ["_law_script", "_law_many"] [] (eS K) :=
 ⟨⟨_, _, lV T, T.cY.binds fun _ _ _ _ _ _ => .all fun us hl => match us, hl with | [_, _], _ => rfl, .nil⟩⟩
def ng (ts : List Int) (f l : Int) : Option Int := ts.find? fun t => decide (f <= t) && decide (t <= l)
def hit (ts : List Int) (c : C4) : Bool := (ng ts c.2.1 c.2.2.1).isSome
def B7 (ts : List Int) (cs : List C4) : Int := ((cs.filter (hit ts)).map (·.2.2.2)).sum
theorem jw (ts : List Int) (c : C4) : hit ts c = true ↔ ∃ t ∈ ts, c.2.1 <= t /\ t <= c.2.2.1 := by
 unfold hit ng
 rw [List.find?_isSome]
 simp
theorem qh {l₁ l₂ : List Int} (h : l₁.Perm l₂) : l₁.sum = l₂.sum := by
 induction h with
 | nil => rfl
 | cons x _ ih => rw [List.sum_cons, List.sum_cons, ih]
 | swap x y l => simp only [List.sum_cons]; omega
 | trans _ _ h1 h2 => exact h1.trans h2
theorem take_snoc {α : Type} {l : List α} {j : Nat} {c : α} (h : l[j]? = some c) : l.take (j + 1) = l.take j ++ [c] := by
 rw [List.take_add_one, h]; rfl
theorem tj (xs ys : List Int) : (xs ++ ys).sum = xs.sum + ys.sum := by
 induction xs with
 | nil => simp
 | cons x r ih => simp only [List.cons_append, List.sum_cons, ih]; omega
def sf (P : C4 -> Bool) (g : C4 -> Int) (cs : List C4) : Int := ((cs.filter P).map g).sum
theorem fP (P : C4 -> Bool) (g : C4 -> Int) : sf P g [] = 0 := rfl
theorem cP (P : C4 -> Bool) (g : C4 -> Int) (c : C4) (cs : List C4) : sf P g (c :: cs) = (if P c = true then g c else 0) + sf P g cs := by
 unfold sf
 rw [List.filter_cons]
 split
 . rw [List.map_cons, List.sum_cons]
 . omega
theorem xS (P : C4 -> Bool) (g : C4 -> Int) (cs ds : List C4) : sf P g (cs ++ ds) = sf P g cs + sf P g ds := by
 unfold sf; rw [List.filter_append, List.map_append, tj]
theorem je {P R : C4 -> Bool} {g h : C4 -> Int} : ∀ {cs : List C4}, (∀ c ∈ cs, P c = true -> R c = true /\ g c <= h c) -> (∀ c ∈ cs, R c = true -> 0 <= h c) -> sf P g cs <= sf R h cs
 | [], _, _ => by rw [fP, fP]; exact Int.le_refl _
 | c :: cs, h1, h2 => by
   have ih := je (fun d hd => h1 d (List.mem_cons_of_mem _ hd)) (fun d hd => h2 d (List.mem_cons_of_mem _ hd))
   rw [cP, cP]
   by_cases hp : P c = true
   . obtain ⟨hr, hg⟩ := h1 c List.mem_cons_self hp
     rw [if_pos hp, if_pos hr]; omega
   . rw [if_neg hp]
     by_cases hr : R c = true
     . rw [if_pos hr]; have := h2 c List.mem_cons_self hr; omega
     . rw [if_neg hr]; omega
theorem uY {P R : C4 -> Bool} {g : C4 -> Int} : ∀ {cs : List C4}, (∀ c ∈ cs, 0 <= g c) -> sf (fun c => P c || R c) g cs <= sf P g cs + sf R g cs
 | [], _ => by rw [fP, fP, fP]; decide
 | c :: cs, h => by
   have ih := uY (P := P) (R := R) (fun d hd => h d (List.mem_cons_of_mem _ hd))
   have hc := h c List.mem_cons_self
   rw [cP, cP, cP]
   by_cases hp : P c = true
   . by_cases hr : R c = true
     . simp only [hp, hr, Bool.or_self, if_true]; omega
     . simp only [hp, hr, Bool.true_or, if_true, if_false, Bool.false_eq_true]; omega
   . by_cases hr : R c = true
     . simp only [hp, hr, Bool.or_true, if_true, if_false, Bool.false_eq_true]; omega
     . simp only [hp, hr, Bool.or_self, if_false, Bool.false_eq_true]; omega
theorem t8 {P : C4 -> Bool} {g : C4 -> Int} {cs ds : List C4} (h : cs.Perm ds) : sf P g cs = sf P g ds := qh ((h.filter _).map _)
def con (p : Int) (c : C4) : Bool := decide (c.2.1 <= p) && decide (p <= c.2.2.1)
def load (f : Str -> Int) (cs : List C4) (p : Int) : Int := sf (con p) (fun c => f c.1) cs
theorem aQ {p : Int} {c : C4} : con p c = true ↔ c.2.1 <= p /\ p <= c.2.2.1 := by simp [con]
theorem fE : ∀ (ds : List C4), ds ≠ [] -> ∃ c ∈ ds, ∀ d ∈ ds, d.2.1 <= c.2.1
 | [], h => absurd rfl h
 | [c], _ => ⟨c, by simp, fun d hd => by have : d = c := by simpa using hd
                                         rw [this]; exact Int.le_refl _⟩
 | c :: d :: r, _ => by
   obtain ⟨e, he, hm⟩ := fE (d :: r) (by simp)
   by_cases h : c.2.1 <= e.2.1
   . exact ⟨e, List.mem_cons_of_mem _ he, fun x hx => (List.mem_cons.mp hx).elim (fun z => z ▸ h) (hm x)⟩
   . exact ⟨c, List.mem_cons_self, fun x hx => (List.mem_cons.mp hx).elim (fun z => z ▸ Int.le_refl _) (fun z => by have := hm x z; omega)⟩
theorem pS {f : Str -> Int} {cs : List C4} {pr : Int} (h0 : 0 <= pr) (hf : ∀ c ∈ cs, 0 <= f c.1) (hl : ∀ c ∈ cs, load f cs c.2.1 <= pr) (t : Int) : load f cs t <= pr := by
 by_cases h : cs.filter (con t) = []
 . unfold load sf; rw [h]; exact h0
 . obtain ⟨c, hc, hm⟩ := fE _ h
   obtain ⟨F9, FI⟩ := List.mem_filter.mp hc
   refine Int.le_trans (je (fun d hd hp => ⟨?_, Int.le_refl _⟩) (fun d hd _ => hf d hd)) (hl c F9)
   have h1 := hm d (List.mem_filter.mpr ⟨hd, hp⟩)
   have h2 := aQ.mp hp
   have h3 := aQ.mp FI
   exact aQ.mpr ⟨h1, by omega⟩
theorem qp (t : Int) (ts : List Int) (c : C4) : hit (t :: ts) c = (con t c || hit ts c) := by
 rw [Bool.eq_iff_iff, Bool.or_eq_true, jw, jw, aQ]
 simp
theorem nr {f : Str -> Int} {cs : List C4} {pr : Int} (h0 : 0 <= pr) (hf : ∀ c ∈ cs, 0 <= f c.1) (hl : ∀ c ∈ cs, load f cs c.2.1 <= pr) : ∀ ts : List Int, sf (hit ts) (fun c => f c.1) cs <= ts.length * pr
 | [] => by
   have : cs.filter (hit []) = [] := List.filter_eq_nil_iff.mpr fun c _ => by rw [jw]; simp
   unfold sf; rw [this]; simp
 | t :: ts => by
   have ih := nr h0 hf hl ts
   have e : hit (t :: ts) = fun c => con t c || hit ts c := funext (qp t ts)
   have h1 := uY (P := con t) (R := hit ts) (g := fun c => f c.1) (cs := cs) hf
   have h2 := pS h0 hf hl t
   unfold load at h2
   rw [e, List.length_cons]
   have : ((ts.length + 1 : Nat) : Int) * pr = ts.length * pr + pr := by rw [Int.natCast_add, Int.add_mul]; simp
   omega
theorem kB {P : C4 -> Bool} {g : C4 -> Int} : ∀ cs : List C4, sf P g cs + sf (fun c => !P c) g cs = (cs.map g).sum
 | [] => rfl
 | c :: cs => by
   have ih := kB (P := P) (g := g) cs
   rw [cP, cP, List.map_cons, List.sum_cons]
   by_cases hp : P c = true
   . simp only [hp, if_true, Bool.not_true, Bool.false_eq_true, if_false]; omega
   . simp only [hp, if_false, Bool.not_false, if_true, Bool.false_eq_true]; omega
structure zP (pr : Int) (cs : List C4) (f : Str -> Int) : Prop where
 nn : ∀ c ∈ cs, 0 <= f c.1
 le : ∀ c ∈ cs, f c.1 <= c.2.2.2
 ld : ∀ c ∈ cs, load f cs c.2.1 <= pr
theorem zP.first {pr : Int} {cs : List C4} {f : Str -> Int} (h0 : 0 <= pr) (h : zP pr cs f) (ts : List Int) : B7 ts cs <= ts.length * pr + (cs.map fun c => c.2.2.2 - f c.1).sum := by
 have h1 := nr h0 h.nn h.ld ts
 have h2 := kB (P := hit ts) (g := fun c => c.2.2.2 - f c.1) cs
 have h3 : 0 <= sf (fun c => !hit ts c) (fun c => c.2.2.2 - f c.1) cs := by
  have := je (P := fun _ => false) (R := fun c => !hit ts c) (g := fun _ => 0) (h := fun c => c.2.2.2 - f c.1) (cs := cs) (fun c _ z => by cases z) (fun c hc _ => by have := h.le c hc; omega)
  have e : sf (fun _ => false) (fun _ => 0) cs = 0 := by unfold sf; rw [List.filter_eq_nil_iff.mpr (fun _ _ z => by cases z)]; rfl
  omega
 have h4 : B7 ts cs = sf (hit ts) (fun c => f c.1) cs + sf (hit ts) (fun c => c.2.2.2 - f c.1) cs := by
  unfold B7 sf
  induction cs.filter (hit ts) with
  | nil => rfl
  | cons c r ih => simp only [List.map_cons, List.sum_cons] at ih ⊢; omega
 omega
def cH (f : Str -> Int) (n : Str) (v : Int) : Str -> Int := fun x => if x = n then v else f x
theorem jY {f : Str -> Int} {ds : List C4} {c : C4} {v p : Int} (hn : c.1 ∉ ds.map (·.1)) : load (cH f c.1 v) (ds ++ [c]) p = load f ds p + (if con p c = true then v else 0) := by
 unfold load
 rw [xS, cP, fP]
 have e1 : sf (con p) (fun d => cH f c.1 v d.1) ds = sf (con p) (fun d => f d.1) ds := by
  unfold sf
  congr 1
  refine List.map_congr_left fun d hd => ?_
  have : d.1 ≠ c.1 := fun z => hn (z ▸ List.mem_map_of_mem (List.mem_filter.mp hd).1)
  simp [cH, this]
 have e2 : cH f c.1 v c.1 = v := by simp [cH]
 rw [e1, e2]
 omega
def dI (v : Int) (l : List Int) (hs : List Nat) : List Int := hs.foldl (fun l i => l.set i (l.getD i 0 + v)) l
theorem mh (v : Int) (l : List Int) (hs : List Nat) (i : Nat) : dI v l (hs ++ [i]) = (dI v l hs).set i ((dI v l hs).getD i 0 + v) := by unfold dI; rw [List.foldl_append]; rfl
theorem fJ (v : Int) : ∀ (hs : List Nat) (l : List Int), (dI v l hs).length = l.length
 | [], _ => rfl
 | h :: hs, l => by show (dI v (l.set h (l.getD h 0 + v)) hs).length = _; rw [fJ v hs, List.length_set]
theorem i6 (v : Int) : ∀ (hs : List Nat) (l : List Int), hs.Nodup -> ∀ i, i < l.length -> (dI v l hs).getD i 0 = l.getD i 0 + (if i ∈ hs then v else 0)
 | [], l, _, i, _ => by show l.getD i 0 = _; simp
 | h :: hs, l, nd, i, hi => by
   obtain ⟨n1, n2⟩ := List.nodup_cons.mp nd
   show (dI v (l.set h (l.getD h 0 + v)) hs).getD i 0 = _
   rw [i6 v hs _ n2 i (by rw [List.length_set]; exact hi)]
   by_cases e : i = h
   . subst e
     have : (l.set i (l.getD i 0 + v)).getD i 0 = l.getD i 0 + v := by
      rw [List.getD_eq_getElem?_getD, List.getElem?_set_self hi]; rfl
     rw [this, if_neg n1, if_pos List.mem_cons_self]; omega
   . have : (l.set h (l.getD h 0 + v)).getD i 0 = l.getD i 0 := by
      rw [List.getD_eq_getElem?_getD, List.getElem?_set_ne (Ne.symm e), <- List.getD_eq_getElem?_getD]
     rw [this]
     by_cases m : i ∈ hs
     . rw [if_pos m, if_pos (List.mem_cons_of_mem _ m)]
     . rw [if_neg m, if_neg (by simp [e, m])]
def heldOf (ps : List Int) (c : C4) : List Nat := (ps.zipIdx.filter fun x => con x.1 c).map (·.2)
theorem cC {ps : List Int} {c : C4} {i : Nat} : i ∈ heldOf ps c ↔ ∃ p, ps[i]? = some p /\ con p c = true := by
 unfold heldOf
 rw [List.mem_map]
 constructor
 . rintro ⟨⟨p, j⟩, h, rfl⟩
   obtain ⟨h1, h2⟩ := List.mem_filter.mp h
   exact ⟨p, List.mk_mem_zipIdx_iff_getElem?.mp h1, h2⟩
 . rintro ⟨p, h1, h2⟩
   exact ⟨(p, i), List.mem_filter.mpr ⟨List.mk_mem_zipIdx_iff_getElem?.mpr h1, h2⟩, rfl⟩
theorem uz (ps : List Int) (c : C4) : (heldOf ps c).Nodup := by
 have h1 : (ps.zipIdx.map (·.2)).Nodup := by
  rw [List.zipIdx_map_snd]; exact List.nodup_range'
 exact h1.sublist (List.filter_sublist.map _)
theorem jm {ps : List Int} {c : C4} {i : Nat} (h : i ∈ heldOf ps c) : i < ps.length := by
 obtain ⟨p, h1, _⟩ := cC.mp h
 exact (List.getElem?_eq_some_iff.mp h1).1
theorem p6 (ps : List Int) (c : C4) : (heldOf ps c).length <= ps.length := by
 unfold heldOf
 rw [List.length_map]
 exact Nat.le_trans (List.length_filter_le _ _) (by rw [List.length_zipIdx]; exact Nat.le_refl _)
theorem pE {ps : List Int} {c : C4} {v : Int} {g : Int -> Int} : dI v (ps.map g) (heldOf ps c) = ps.map fun p => g p + (if con p c = true then v else 0) := by
 have hl : (dI v (ps.map g) (heldOf ps c)).length = ps.length := by rw [fJ, List.length_map]
 refine List.ext_getElem (by rw [hl, List.length_map]) fun i h1 h2 => ?_
 have hi : i < ps.length := by omega
 have h3 := i6 v (heldOf ps c) (ps.map g) (uz ps c) i (by rw [List.length_map]; exact hi)
 rw [List.getD_eq_getElem?_getD, List.getElem?_eq_getElem h1, Option.getD_some] at h3
 rw [h3, List.getElem_map, List.getD_eq_getElem?_getD, List.getElem?_map, List.getElem?_eq_getElem hi]
 by_cases hc : con ps[i] c = true
 . rw [if_pos hc, if_pos (cC.mpr ⟨_, List.getElem?_eq_getElem hi, hc⟩)]; rfl
 . rw [if_neg hc, if_neg (fun z => by
    obtain ⟨p, e1, e2⟩ := cC.mp z
    rw [List.getElem?_eq_getElem hi] at e1
    cases e1
    exact hc e2)]; rfl
structure Pr (pr : Int) (ps : List Int) (f : Str -> Int) (ds : List C4) : Prop where
 nn : ∀ c ∈ ds, 0 <= f c.1 /\ f c.1 <= c.2.2.2
 ld : ∀ p ∈ ps, load f ds p <= pr
theorem Pr.step {pr mx v : Int} {ps : List Int} {f : Str -> Int} {ds : List C4} {c : C4} (h : Pr pr ps f ds) (hn : c.1 ∉ ds.map (·.1)) (hm : ∀ i ∈ heldOf ps c, (ps.map (load f ds)).getD i 0 <= mx) (hx : ∃ i ∈ heldOf ps c, mx = (ps.map (load f ds)).getD i 0) (hv : v = c.2.2.2 \/ v = pr - mx) (Di : v <= c.2.2.2) (Ao : v <= pr - mx) (hw : 1 <= c.2.2.2) : Pr pr ps (cH f c.1 v) (ds ++ [c]) := by
 have xu : mx <= pr := by
  obtain ⟨i, hi, e⟩ := hx
  have hl := jm hi
  rw [List.getD_eq_getElem?_getD, List.getElem?_map, List.getElem?_eq_getElem hl] at e
  have : mx = load f ds ps[i] := e
  rw [this]; exact h.ld _ (List.getElem_mem hl)
 refine ⟨fun d hd => ?_, fun p hp => ?_⟩
 . rcases List.mem_append.mp hd with hd | hd
   . have : d.1 ≠ c.1 := fun z => hn (z ▸ List.mem_map_of_mem hd)
     simp only [cH, if_neg this]
     exact h.nn d hd
   . have : d = c := by simpa using hd
     subst this
     simp only [cH, if_true]
     omega
 . rw [jY hn]
   have := h.ld p hp
   by_cases hc : con p c = true
   . rw [if_pos hc]
     obtain ⟨i, hi, rfl⟩ := List.getElem_of_mem hp
     have := hm i (cC.mpr ⟨_, List.getElem?_eq_getElem hi, hc⟩)
     rw [List.getD_eq_getElem?_getD, List.getElem?_map, List.getElem?_eq_getElem hi] at this
     have : load f ds ps[i] <= mx := this
     omega
   . rw [if_neg hc]; omega
theorem Pr.shr {pr : Int} {ps : List Int} {f : Str -> Int} {ls cs : List C4} (h : Pr pr ps f ls) (hp : ls.Perm cs) (hm : ∀ c ∈ cs, c.2.1 ∈ ps) : zP pr cs f := by
 refine ⟨fun c hc => (h.nn c (hp.mem_iff.mpr hc)).1, fun c hc => (h.nn c (hp.mem_iff.mpr hc)).2, fun c hc => ?_⟩
 have := h.ld _ (hm c hc)
 unfold load at this ⊢
 rwa [t8 hp] at this
theorem nk {H : Hp} {y : V} {d : PyData} (hy : Dv H y d) : ∀ {xs : List V} {ds : List PyData} (j : Nat), aZ H xs ds -> aZ H (xs.set j y) (ds.set j d)
 | [], [], _, _ => .nil
 | _ :: _, _ :: _, 0, .cons _ t => .cons hy t
 | _ :: _, _ :: _, j + 1, .cons h t => .cons h (nk hy j t)
theorem iq {d : PyData} (hd : gZ d = true) {ds : List PyData} (j : Nat) (h : aJ ds = true) : aJ (ds.set j d) = true := by
 rw [cF] at h ⊢
 intro x hx
 rcases List.mem_or_eq_of_mem_set hx with h1 | rfl
 . exact h x h1
 . exact hd
theorem yl {D : Ends} {σ : St} {H : Hp} {to ti te : TE} {t : tZ} (h : te σ H fun v H1 => to σ H1 fun o H2 => ti σ H2 fun i H3 => t o i v H3 fun H4 => D.nx σ H4) : qD te (An to ti t) D σ H := h
theorem qv {H : Hp} {p : Addr} {ds : List PyData} {j : Nat} {k : Int} {y : V} {d : PyData} {R : Hp -> Prop} (hp : bJ H p ds) (hk : pN ds.length k = some j) (hy : Dv H y d) (hi : gZ d = true) (h : ∀ H2, Mv [p] H H2 -> bJ H2 p (ds.set j d) -> R H2) : u0 (.ref p) (.int k) y H R := by
 obtain ⟨xs, e, dv, im⟩ := hp
 have m : Mv [p] H (upd H p (.lst (xs.set j y))) := .lX e (by intro _ z; cases z)
 exact ⟨p, xs, k, j, rfl, rfl, e, by rw [dv.length]; exact hk, h _ m ⟨_, av, m.tS (iq hi j im) (nk hy j dv), iq hi j im⟩⟩
local macro_rules | `(tactic| walk_at "rd1") => `(tactic| first
 | with_reducible refine yl ?_
 | ((with_reducible refine' qv ?e1 ?e2 ?e3 ?e4 (fun _ _ _ => ?_)); (case e1 => walk_at "lat"); (case e2 => exact rfl); (case e3 => walk_at "dat"); (case e4 => exact rfl))
 | fail)
def bY (c : C4) : Int × Str := (c.2.2.1, c.1)
theorem mV (c : C4) : gZ (dR c) = true := rfl
theorem ni {c d : C4} (h : dR c = dR d) : c = d := by
 obtain ⟨a, b, c, e⟩ := c
 obtain ⟨a', b', c', e'⟩ := d
 simp only [dR, PyData.tuple.injEq, List.cons.injEq, PyData.str.injEq, PyData.int.injEq, and_true] at h
 obtain ⟨rfl, rfl, rfl, rfl⟩ := h
 rfl
def dU : Sp := fun vs H Q _ => ∃ (v : V) (c : C4), vs = [v] /\ Dv H v (dR c) /\ ∀ y H', ah H H' -> Dv H' y (.tuple [.int (bY c).1, .str (bY c).2]) -> Q y H'
theorem mw {H : Hp} {Q : VK} {E : XK} {v : V} {c : C4} (h : Dv H v (dR c)) (q : ∀ y H', ah H H' -> Dv H' y (.tuple [.int (bY c).1, .str (bY c).2]) -> Q y H') : dU [v] H Q E := ⟨v, c, rfl, h, q⟩
theorem kA (T : Txt K mg a) : bK P w K mg base gY 1 a.bN a.ic ["claim"] dU := by
 refine T.fO.ok lH (fun vs H Q E h => ?_) (fun dj A outer s H vs Q E hr h => ?_)
 . obtain ⟨_, _, rfl, _⟩ := h; rfl
 . obtain ⟨v, c, rfl, hv, q⟩ := h
   have Az : Dv H v (.tuple [.str c.1, .int c.2.1, .int c.2.2.1, .int c.2.2.2]) := hv
   refine ⟨_, (aA (bw (jL (ae (a8 dg (pv 0) af (fun _ _ => rfl)) (ae (a8 dg (pv 0) af (fun _ _ => rfl)) ak))))), ?_⟩
   repeat' (walk_at "rd1")
   exact q _ _ (by walk_at "same") (by walk_at "dat")
theorem jK (T : Txt K mg a) : oC P w K mg base 1 a.bN ["claim"] [] dU :=
 ⟨⟨_, _, kA T, T.fO.binds fun _ _ _ _ _ _ => .all fun us hl => match us, hl with | [_], _ => rfl, .nil⟩⟩
def zg (pr : Int) (ps : List Int) (f : Str -> Int) (L : List C4) : Prop := ∀ i c, L[i]? = some c -> ∃ p0 ∈ ps, con p0 c = true /\ (∀ p ∈ ps, con p c = true -> load f (L.take i) p <= load f (L.take i) p0) /\ f c.1 <= c.2.2.2 /\ f c.1 <= pr - load f (L.take i) p0 /\ (f c.1 = c.2.2.2 \/ f c.1 = pr - load f (L.take i) p0)
theorem bV {f : Str -> Int} {ds : List C4} {n : Str} {v p : Int} (hn : n ∉ ds.map (·.1)) : load (cH f n v) ds p = load f ds p := by
 unfold load sf
 congr 1
 refine List.map_congr_left fun d hd => ?_
 have : d.1 ≠ n := fun z => hn (z ▸ List.mem_map_of_mem (List.mem_filter.mp hd).1)
 simp only [cH, if_neg this]
theorem zg.step {pr mx v : Int} {ps : List Int} {f : Str -> Int} {ds : List C4} {c : C4} (h : zg pr ps f ds) (hn : c.1 ∉ ds.map (·.1)) (hm : ∀ i ∈ heldOf ps c, (ps.map (load f ds)).getD i 0 <= mx) (hx : ∃ i ∈ heldOf ps c, mx = (ps.map (load f ds)).getD i 0) (hv : v = c.2.2.2 \/ v = pr - mx) (h1 : v <= c.2.2.2) (h2 : v <= pr - mx) : zg pr ps (cH f c.1 v) (ds ++ [c]) := by
 intro i d hi
 by_cases cz : i < ds.length
 . rw [List.getElem?_append_left cz] at hi
   obtain ⟨p0, wQ, k1, k2, k3, k4, k5⟩ := h i d hi
   have hd : d.1 ≠ c.1 := fun z => hn (z ▸ List.mem_map_of_mem (List.mem_of_getElem? hi))
   have ht : (ds ++ [c]).take i = ds.take i := List.take_append_of_le_length (Nat.le_of_lt cz)
   have vk : c.1 ∉ (ds.take i).map (·.1) := fun z => hn (by rw [List.map_take] at z; exact List.mem_of_mem_take z)
   have e : cH f c.1 v d.1 = f d.1 := by simp only [cH, if_neg hd]
   refine ⟨p0, wQ, k1, fun p hp hc => ?_, ?_, ?_, ?_⟩
   . rw [ht, bV vk, bV vk]; exact k2 p hp hc
   . rw [e]; exact k3
   . rw [e, ht, bV vk]; exact k4
   . rw [e, ht, bV vk]; exact k5
 . have FW : i = ds.length := by
    have := (List.getElem?_eq_some_iff.mp hi).1
    rw [List.length_append, List.length_singleton] at this
    omega
   subst FW
   have hd : d = c := by simpa using hi.symm
   subst hd
   have ht : (ds ++ [d]).take ds.length = ds := by simp
   obtain ⟨j, hj, ej⟩ := hx
   obtain ⟨p0, wQ, D6⟩ := cC.mp hj
   have e0 : mx = load f ds p0 := by rw [ej, List.getD_eq_getElem?_getD, List.getElem?_map, wQ]; rfl
   have e : cH f d.1 v d.1 = v := by simp only [cH, if_true]
   refine ⟨p0, List.mem_of_getElem? wQ, D6, fun p hp hc => ?_, ?_, ?_, ?_⟩
   . rw [ht, bV hn, bV hn, <- e0]
     obtain ⟨k, hk, rfl⟩ := List.getElem_of_mem hp
     have := hm k (cC.mpr ⟨_, List.getElem?_eq_getElem hk, hc⟩)
     rwa [List.getD_eq_getElem?_getD, List.getElem?_map, List.getElem?_eq_getElem hk] at this
   . rw [e]; exact h1
   . rw [e, ht, bV hn, <- e0]; exact h2
   . rw [e, ht, bV hn, <- e0]; exact hv
def Exact (pr : Int) (cs : List C4) (f : Str -> Int) : Prop := ∃ (ls : List C4) (ps : List Int), ls.Perm cs /\ (ls.Pairwise fun c d => bA (bY d) (bY c) = false) /\ (∀ x, x ∈ ps ↔ x ∈ cs.map (·.2.1)) /\ zg pr ps f ls
def fC (f : Str -> Int) (cs : List C4) : List (Str × PyData) := cs.map fun c => (c.1, .int (f c.1))
theorem tf {f : Str -> Int} {n : Str} {v : Int} : ∀ {cs : List C4}, n ∈ cs.map (·.1) -> putD (fC f cs) n (.int v) = fC (cH f n v) cs := fun {cs} h => by
 have h1 : ((fC f cs).any fun kv => decide (kv.1 = n)) = true := by
  obtain ⟨c, hc, rfl⟩ := List.mem_map.mp h
  exact List.any_eq_true.mpr ⟨_, List.mem_map_of_mem hc, decide_eq_true rfl⟩
 unfold putD
 rw [if_pos h1]
 unfold fC
 rw [List.map_map]
 refine List.map_congr_left fun c _ => ?_
 simp only [Function.comp, cH]
 split <;> rfl
theorem uc {cs : List C4} {n : Str} (h : n ∉ cs.map (·.1)) : putD (fC (fun _ => 0) cs) n (.int 0) = fC (fun _ => 0) cs ++ [(n, .int 0)] := by
 have h1 : ¬ ((fC (fun _ => 0) cs).any fun kv => decide (kv.1 = n)) = true := by
  intro z
  obtain ⟨kv, HF, e⟩ := List.any_eq_true.mp z
  obtain ⟨c, hc, rfl⟩ := List.mem_map.mp HF
  exact h (List.mem_map.mpr ⟨c, hc, of_decide_eq_true e⟩)
 unfold putD
 rw [if_neg h1]
theorem gB {f : Str -> Int} {n : Str} {cs : List C4} (h : n ∈ cs.map (·.1)) : iK (fC f cs) n = some (.int (f n)) := by
 unfold iK
 cases e : (fC f cs).find? fun kv => decide (kv.1 = n) with
 | none =>
   obtain ⟨c, hc, rfl⟩ := List.mem_map.mp h
   have := List.find?_eq_none.mp e _ (List.mem_map_of_mem hc)
   simp at this
 | some kv =>
   have h1 := List.find?_some e
   obtain ⟨c, hc, rfl⟩ := List.mem_map.mp (List.mem_of_find?_eq_some e)
   have : c.1 = n := of_decide_eq_true h1
   subst this
   rfl
theorem e9 {α : Type} (l : List α) : l.filter (fun _ => true) = l := List.filter_eq_self.mpr fun _ _ => rfl
theorem qd : ∀ {xs ys : List Int}, xs.Nodup -> (∀ x ∈ xs, x ∈ ys) -> xs.length <= ys.length
 | [], _, _, _ => Nat.zero_le _
 | x :: xs, ys, h, hs => by
   obtain ⟨h1, h2⟩ := List.nodup_cons.mp h
   have hx := hs x List.mem_cons_self
   have ih := qd (xs := xs) (ys := ys.erase x) h2 fun y hy => (List.mem_erase_of_ne (fun z : y = x => h1 (by rw [<- z]; exact hy))).mpr (hs y (List.mem_cons_of_mem _ hy))
   rw [List.length_erase_of_mem hx] at ih
   have : 0 < ys.length := List.length_pos_of_mem hx
   rw [List.length_cons]
   omega
theorem nK {α β : Type} {f : α -> β} {l : List α} {j : Nat} {c : α} (h : (l.map f).Nodup) (hc : l[j]? = some c) : f c ∉ (l.take j).map f := by
 intro hm
 obtain ⟨d, hd, e⟩ := List.mem_map.mp hm
 obtain ⟨i, hi, rfl⟩ := List.getElem_of_mem hd
 have fU : i < j := by rw [List.length_take] at hi; omega
 have vz : j < l.length := (List.getElem?_eq_some_iff.mp hc).1
 rw [List.Nodup, List.pairwise_map] at h
 have := List.pairwise_iff_getElem.mp h i j (by omega) vz fU
 rw [List.getElem_take] at e
 have kN : l[j] = c := Option.some.inj ((List.getElem?_eq_getElem vz).symm.trans hc)
 rw [kN] at this
 exact this e
theorem dt (f : Str -> Int) (cs : List C4) : (fC f cs).length = cs.length := List.length_map ..
theorem rU (f : Str -> Int) (cs : List C4) (c : C4) : fC f (cs ++ [c]) = fC f cs ++ [(c.1, .int (f c.1))] := by unfold fC; rw [List.map_append]; rfl
theorem tK {n i : Nat} (h : i < n) : pN n (i : Int) = some i := by unfold pN; rw [if_pos (Int.natCast_nonneg _), if_pos (Int.ofNat_lt.mpr h)]; rfl
theorem qL {x y b : Addr} (h : b ∈ [x]) : b ∈ [x, y] := by
 have : b = x := by simpa using h
 rw [this]; exact List.mem_cons_self
def fS : Sp := fun vs H Q _ => ∃ (pr : Int) (v : V) (cs : List C4), vs = [.int pr, v] /\ Dv H v (.list (cs.map dR)) /\ k8 cs /\ cs.length <= 26 /\ 0 <= pr /\ ∀ p H' f, ah H H' -> H p = none -> c6 H' p (fC f cs) -> zP pr cs f -> Exact pr cs f -> Q (.ref p) H'
theorem iw {H : Hp} {Q : VK} {E : XK} {pr : Int} {v : V} {cs : List C4} (h : Dv H v (.list (cs.map dR))) (ho : k8 cs) (hl : cs.length <= 26) (h0 : 0 <= pr) (q : ∀ p H' f, ah H H' -> H p = none -> c6 H' p (fC f cs) -> zP pr cs f -> Exact pr cs f -> Q (.ref p) H') : fS [.int pr, v] H Q E := ⟨pr, v, cs, rfl, h, ho, hl, h0, q⟩
theorem oF (T : Txt K mg a) : bK P w K mg base gY 5 a.bf a.fw ["price", "claims"] fS := by
 have oQ := jK (P := P) (w := w) (base := base) T
 refine T.dW.ok ax (fun vs H Q E h => ?_) (fun dj A outer s H vs Q E hr h => ?_)
 . obtain ⟨_, _, _, rfl, _⟩ := h; rfl
 . obtain ⟨pr, v, cs, rfl, hv, aB, hl, h0, q⟩ := h
   refine ⟨_, (aj (aC (i := 2) ax.nd rfl (Or.inl rfl) (lg (iT (T := ["name", "first", "last", "weight"]) (M := ["price", "claims", "points", "loads", "shares", "05", "06", "07", "08", "held", "place"]) (xN (au bq) ["price", "claims", "points", "loads", "shares", "name", "first", "last", "weight", "held", "place"] rfl rfl (by decide +kernel)) rfl (bH (pv 1)) (fun _ _ _ _ _ => (mE (K := K) (n := 4) rfl rfl (aU (aE (i := 0) (show List.Nodup (["name", "first", "last", "weight", "price", "claims", "points", "loads", "shares", "05", "06", "07", "08", "held", "place"] : List Str) by decide +kernel) rfl (Or.inl rfl)) (aU (aE (i := 1) (show List.Nodup (["name", "first", "last", "weight", "price", "claims", "points", "loads", "shares", "05", "06", "07", "08", "held", "place"] : List Str) by decide +kernel) rfl (Or.inl rfl)) (aU (aE (i := 2) (show List.Nodup (["name", "first", "last", "weight", "price", "claims", "points", "loads", "shares", "05", "06", "07", "08", "held", "place"] : List Str) by decide +kernel) rfl (Or.inl rfl)) (aU (aE (i := 3) (show List.Nodup (["name", "first", "last", "weight", "price", "claims", "points", "loads", "shares", "05", "06", "07", "08", "held", "place"] : List Str) by decide +kernel) rfl (Or.inl rfl)) gq)))))) (j6 (bO (by decide) (bO (by decide) (bO (by decide) (bO (by decide) iX))))) (fun _ _ _ _ _ => fu) (fun _ _ _ _ _ => (pv 1))) rfl rfl T.cu rfl T.jv))
    (aj (aC (i := 3) ax.nd rfl (Or.inr rfl) (iT (T := ["point"]) (M := ["price", "claims", "points", "loads", "shares", "name", "first", "last", "weight", "held", "place"]) (xN (au bq) ["price", "claims", "points", "loads", "shares", "name", "first", "last", "weight", "held", "place"] rfl rfl (by decide +kernel)) rfl (bH (pv 2)) (fun _ _ _ _ _ => (aE (i := 0) (show List.Nodup (["point", "price", "claims", "points", "loads", "shares", "name", "first", "last", "weight", "held", "place"] : List Str) by decide +kernel) rfl (Or.inl rfl))) (c7 (by decide)) (fun _ _ _ _ _ => fu) (fun _ _ _ _ _ => af)))
    (aj (aC (i := 4) ax.nd rfl (Or.inl rfl) pM)
    (aj (fG PassesOwn.never rfl (bH (pv 1)) (kW (n := 4) rfl (aU (aE (i := 5) ax.nd rfl (Or.inl rfl)) (aU (aE (i := 6) ax.nd rfl (Or.inr rfl)) (aU (aE (i := 7) ax.nd rfl (Or.inr rfl)) (aU (aE (i := 8) ax.nd rfl (Or.inl rfl)) gq)))))
     (aA (jD (eN hr) (pv 4) (pv 5) af rfl)))
    (aj (fG PassesOwn.never rfl (bH (pR oQ (hr.mono (by decide)) rfl T.cu (uq rfl T.hV rfl) (ae (pv 1) ak))) (kW (n := 4) rfl (aU (aE (i := 5) ax.nd rfl (Or.inl rfl)) (aU (aE (i := 6) ax.nd rfl (Or.inr rfl)) (aU (aE (i := 7) ax.nd rfl (Or.inr rfl)) (aU (aE (i := 8) ax.nd rfl (Or.inl rfl)) gq)))))
     (aj (AU (i := 9) ax.nd rfl (Or.inl rfl) (T := ["place", "point"]) (M := ["price", "claims", "points", "loads", "shares", "name", "first", "last", "weight", "held", "010"]) (xN (au bq) ["price", "claims", "points", "loads", "shares", "name", "first", "last", "weight", "held", "place"] rfl rfl (by decide +kernel)) rfl (ud rfl T.bZ (ae (pv 2) ak)) (fun _ _ _ _ _ => (mE (K := K) (n := 2) rfl rfl (aU (aE (i := 0) (show List.Nodup (["place", "point", "price", "claims", "points", "loads", "shares", "name", "first", "last", "weight", "held", "010"] : List Str) by decide +kernel) rfl (Or.inl rfl)) (aU (aE (i := 1) (show List.Nodup (["place", "point", "price", "claims", "points", "loads", "shares", "name", "first", "last", "weight", "held", "010"] : List Str) by decide +kernel) rfl (Or.inl rfl)) gq)))) (j6 (bO (by decide) (bO (by decide) iX))) (fun _ _ _ _ _ => (mS (gX iP iP (pv 8) (pv 1) (pv 9)))) (fun _ _ _ _ _ => (pv 0)) rfl)
     (aj (jD (eN hr) (pv 4) (pv 5) (aO (iW rfl) rfl T.gP PyProof.Rows.boot_min (ae (pv 8) (ae (ag ib (pv 0) (aO (oR rfl) rfl T.hE PyProof.Rows.boot_max (ae (iT (T := ["place"]) (M := ["price", "claims", "points", "loads", "shares", "name", "first", "last", "weight", "held", "010"]) (xN (au bq) ["price", "claims", "points", "loads", "shares", "name", "first", "last", "weight", "held", "place"] rfl rfl (by decide +kernel)) rfl (bH (pv 9)) (fun _ _ _ _ _ => (aE (i := 0) (show List.Nodup (["place", "price", "claims", "points", "loads", "shares", "name", "first", "last", "weight", "held", "010"] : List Str) by decide +kernel) rfl (Or.inl rfl))) (c7 (by decide)) (fun _ _ _ _ _ => fu) (fun _ _ _ _ _ => (a8 (fZ (K := K) rfl) (pv 4) (pv 0) (fun _ _ => rfl)))) ak))) ak))) rfl)
     (aA (fG PassesOwn.never rfl (bH (pv 9)) (aE (i := 10) ax.nd rfl (Or.inl rfl))
      (aA (yu (ag bP (a8 dg (pv 3) (pv 10) (fun _ _ => rfl)) (gu (eN hr) (pv 4) (pv 5) (fun _ _ => rfl))) (wz (pv 3) (pv 10) set_list))))))))
    (aA (bw (pv 4)))))))), ?_⟩
   repeat' (walk_at "rd1")
   refine lK ?_
   repeat' (walk_at "rd1")
   refine oE (cs := cs) (gd := dR) (fun _ => true) (fun c => .int c.2.1) hv (by omega) (fun _ => rfl) (fun x c H2 N hc e8 hx yes no => ?_) (fun q1 H1 tD yO rX => ?_)
   . have iy : Dv H2 x (.tuple [.str c.1, .int c.2.1, .int c.2.2.1, .int c.2.2.2]) := hx
     refine lW iy (fun v1 v2 v3 v4 e1 e2 e3 e4 => ?_)
     obtain rfl := e1.str_inv
     obtain rfl := e2.int_inv
     obtain rfl := e3.int_inv
     obtain rfl := e4.int_inv
     refine fj (fun hb => ?_) (fun hb => by cases hb)
     repeat' (walk_at "rd1")
     exact yes rfl _ _ (ah.refl _) (.int _)
   have wj : Dv H1 (.ref q1) (.list ((cs.map (·.2.1)).map PyData.int)) := by
    have := rX.dv
    rw [e9] at this
    rw [List.map_map]; exact this
   refine pe wj (by rw [List.length_map]; omega) (fun q2 H2 ps e8 vk cz lJ Bk => ?_)
   have jT : ps.length <= 26 := by
    have := qd (cz.imp fun h => Int.ne_of_lt h) (fun x hx => (lJ x).mp hx)
    rw [List.length_map] at this
    omega
   repeat' (walk_at "rd1")
   refine oE (cs := ps) (gd := PyData.int) (fun _ => true) (fun _ => .int 0) Bk.dv (by omega) (fun _ => rfl) (fun x c H3 N hc sm3 hx yes no => ?_) (fun q3 H3 sm3 DN B8 => ?_)
   . obtain rfl := hx.int_inv
     repeat' (walk_at "rd1")
     refine fj (fun hb => ?_) (fun hb => by cases hb)
     repeat' (walk_at "rd1")
     exact yes rfl _ _ (ah.refl _) (.int _)
   rw [e9] at B8
   repeat' (walk_at "rd1")
   rename_i q4 H4 uR wD Gx
   have o6 : ah H H3 := (tD.trans e8).trans sm3
   refine kG (Hb := H) (cs := cs) (gd := dR) hv (fun j σ' H' => ∃ z5 z6 z7 z8, σ' = [some (.int pr), some v, some (.ref q2), some (.ref q3), some (.ref q4), z5, z6, z7, z8, none, none] /\ ah H3 H' /\ c6 H' q4 (fC (fun _ => 0) (cs.take j))) ⟨_, _, _, _, rfl, uR, Gx⟩ (fun i σ' H' _ ⟨_, _, _, _, _, r0, _⟩ a' xs _ hx => ah.seq (o6.trans r0) hx) ?_ ?_
   . rintro j c x σ' H' hc ⟨z5, z6, z7, z8, rfl, r0, jf⟩ _ hd
     have hx : Dv H' x (.tuple [.str c.1, .int c.2.1, .int c.2.2.1, .int c.2.2.2]) := hd (o6.trans r0)
     have yG : (fC (fun _ => 0) (cs.take j)).length <= 26 := by rw [dt, List.length_take]; omega
     refine lW hx (fun v1 v2 v3 v4 e1 e2 e3 e4 => ?_)
     obtain rfl := e1.str_inv
     obtain rfl := e2.int_inv
     obtain rfl := e3.int_inv
     obtain rfl := e4.int_inv
     repeat' (walk_at "rd1")
     rename_i H5 Je Bq
     rw [uc (nK aB.nd hc)] at Bq
     exact ⟨_, _, _, _, rfl, by walk_at "same", by rw [take_snoc hc, rU]; exact Bq⟩
   rintro σ' H' ⟨z5, z6, z7, z8, rfl, r0, jf⟩
   rw [List.take_length] at jf
   have Ce := r0
   have Az : Dv H' v (.list (cs.map dR)) := hv.keeps (o6.trans r0)
   repeat' (walk_at "rd1")
   refine mJ (cs := cs) dR bY mV (fun c c' h => by rw [ni h]) Az (by omega) (fun c v' H' hc r0 hd => mw hd (fun y IQ s d => ⟨s, d⟩)) (fun sq H5 ls kX uW d8 oU CI => ?_)
   repeat' (walk_at "rd1")
   have zh : bJ H' q2 (ps.map PyData.int) := (Bk.keeps sm3).keeps r0
   have AB : bJ H' q3 (ps.map fun _ => PyData.int 0) := B8.keeps r0
   have HG : q2 ≠ q3 := Bk.ne DN
   have Gb : q2 ≠ q4 := (Bk.keeps sm3).ne wD
   have Ef : q3 ≠ q4 := B8.ne wD
   have IM : q2 ≠ sq := zh.ne uW
   have GJ : q3 ≠ sq := AB.ne uW
   have Ii : q4 ≠ sq := jf.ne uW
   have CU := zh.keeps kX
   have C7 := AB.keeps kX
   have Bq := jf.keeps kX
   have Ck : ls.length = cs.length := d8.length_eq
   have AI : (ls.map (·.1)).Nodup := (d8.map _).nodup_iff.mpr aB.nd
   refine kG (Hb := H5) (cs := ls) (gd := dR) CI.dv (fun j σ' H' => ∃ z5 z6 z7 z8 z9 kP f, σ' = [some (.int pr), some v, some (.ref q2), some (.ref q3), some (.ref q4), z5, z6, z7, z8, z9, kP] /\ Mv [q3, q4] H5 H' /\ c6 H' q4 (fC f cs) /\ bJ H' q3 ((ps.map (load f (ls.take j))).map PyData.int) /\ Pr pr ps f (ls.take j) /\ zg pr ps f (ls.take j)) ⟨_, _, _, _, _, _, fun _ => 0, rfl, Mv.refl, Bq, by rw [List.map_map]; exact C7, ⟨fun c hc => by simp at hc, fun p _ => h0⟩, fun i c h => by simp at h⟩ (fun i σ' H' _ ⟨_, _, _, _, _, _, _, _, mv, _⟩ a' xs e hx => by cases e; exact mv.sq (by simp [Ne.symm GJ, Ne.symm Ii]) hx) ?_ ?_
   . rintro j c x σ' H' hc ⟨z5, z6, z7, z8, z9, kP, f, rfl, mv, jf, yq, Bo, BD⟩ hd _
     have hx : Dv H' x (.tuple [.str c.1, .int c.2.1, .int c.2.2.1, .int c.2.2.2]) := hd rfl mv.tp
     have vz : j < ls.length := (List.getElem?_eq_some_iff.mp hc).1
     have Cp : c ∈ ls := List.mem_of_getElem? hc
     have su : c ∈ cs := d8.mem_iff.mp Cp
     have lR : c.1 ∈ cs.map (·.1) := List.mem_map_of_mem su
     have wK := nK AI hc
     have nh := take_snoc hc
     have hw := aB.w1 c su
     have yG : (fC f cs).length <= 26 := by rw [dt]; exact hl
     have BQ : bJ H' q2 (ps.map PyData.int) := CU.mv mv (by simp [HG, Gb])
     refine lW hx (fun v1 v2 v3 v4 e1 e2 e3 e4 => ?_)
     obtain rfl := e1.str_inv
     obtain rfl := e2.int_inv
     obtain rfl := e3.int_inv
     obtain rfl := e4.int_inv
     repeat' (walk_at "rd1")
     refine AV (cs := ps) (gd := PyData.int) (fun x => con x.1 c) (fun x => .int (x.2 : Nat)) BQ.dv (by omega) (fun _ => rfl) (fun y t Hx N ht e8 hy yes no => ?_) (fun hq H6 Ek Et Hv => ?_)
     . refine w6 hy (fun w1 w2 f1 f2 => ?_)
       obtain rfl := f1.int_inv
       obtain rfl := f2.int_inv
       repeat' (walk_at "rd1")
       . rename_i h1
         refine fj (fun hb => ?_) (fun hb => no (by simp [con, h1, of_decide_eq_false hb]) _ (ah.refl _))
         repeat' (walk_at "rd1")
         exact yes (by simp [con, h1, of_decide_eq_true hb]) _ _ (ah.refl _) (.int _)
       . rename_i h1
         exact fj (fun hb => by cases hb) (fun _ => no (by simp [con, h1]) _ (ah.refl _))
     have zy : bJ H6 hq ((heldOf ps c).map fun i => PyData.int (i : Nat)) := by unfold heldOf; rw [List.map_map]; exact Hv
     have IL := p6 ps c
     have DF := jf.keeps Ek
     have CT := yq.keeps Ek
     have Hg : q3 ≠ hq := yq.ne Et
     have G3 : q4 ≠ hq := jf.ne Et
     have Aa : 0 < ((heldOf ps c).map fun i => (ps.map (load f (ls.take j))).getD i 0).length := by
      rw [List.length_map]
      have hf : c.2.1 ∈ ps := (lJ _).mpr (List.mem_map_of_mem su)
      obtain ⟨i, hi, e⟩ := List.getElem_of_mem hf
      exact List.length_pos_of_mem (cC.mpr ⟨c.2.1, by rw [List.getElem?_eq_getElem hi, e], aQ.mpr ⟨Int.le_refl _, aB.ok.wd c su⟩⟩)
     repeat' (walk_at "rd1")
     refine oE (cs := heldOf ps c) (gd := fun i => .int (i : Nat)) (fun _ => true) (fun i => .int ((ps.map (load f (ls.take j))).getD i 0)) zy.dv (by omega) (fun _ => rfl) (fun y i Hx N hi rY hy yes no => ?_) (fun mq H7 rY EL EA => ?_)
     . obtain rfl := hy.int_inv
       have cz := jm hi
       repeat' (walk_at "rd1")
       refine fj (fun hb => ?_) (fun hb => by cases hb)
       repeat' (walk_at "rd1")
       exact yes rfl _ _ (ah.refl _) (.int _)
     rw [e9] at EA
     have BV : Dv H7 (.ref mq) (.list (((heldOf ps c).map fun i => (ps.map (load f (ls.take j))).getD i 0).map PyData.int)) := by rw [List.map_map]; exact EA.dv
     have Cz := DF.keeps rY
     repeat' (walk_at "rd1")
     refine wW BV Aa (fun mx xu AF => ?_)
     repeat' (walk_at "rd1")
     rename_i vv hv Di Ao H8 pV r6
     rw [tf lR] at r6
     have Eh : iK (fC (cH f c.1 vv) cs) c.1 = some (.int vv) := by rw [gB lR]; simp [cH]
     have Cy : bJ H8 q3 ((ps.map (load f (ls.take j))).map PyData.int) := (CT.keeps rY).mv pV (by simp [Ef])
     have B4 : bJ H8 hq ((heldOf ps c).map fun i => PyData.int (i : Nat)) := (zy.keeps rY).mv pV (by simp [Ne.symm G3])
     have FZ : Mv [q3, q4] H5 H8 := by
      refine ((mv.nQ Ek).nQ rY).step pV ?_
      exact fun b hb => .inl (List.mem_cons_of_mem _ hb)
     refine kG (Hb := H8) (cs := heldOf ps c) (gd := fun i => PyData.int (i : Nat)) B4.dv (fun t σ' H' => ∃ kP, σ' = [some (.int pr), some v, some (.ref q2), some (.ref q3), some (.ref q4), some (.str c.1), some (.int c.2.1), some (.int c.2.2.1), some (.int c.2.2.2), some (.ref hq), kP] /\ Mv [q3] H8 H' /\ bJ H' q3 ((dI vv (ps.map (load f (ls.take j))) ((heldOf ps c).take t)).map PyData.int)) ⟨_, rfl, Mv.refl, Cy⟩ (fun i σ' H' _ ⟨_, _, mv, _⟩ a' xs e hx => by cases e; exact mv.sq (by simp [Ne.symm Hg]) hx) ?_ ?_
     . rintro t i x σ' H' hi ⟨kP, rfl, yW, sT⟩ Fu _
       obtain rfl := (Fu rfl yW.tp).int_inv
       have hit := jm (List.mem_of_getElem? hi)
       have He : c6 H' q4 (fC (cH f c.1 vv) cs) := r6.mv yW (by simp [Ne.symm Ef])
       have pG : (dI vv (ps.map (load f (ls.take j))) ((heldOf ps c).take t)).length = ps.length := by rw [fJ, List.length_map]
       repeat' (walk_at "rd1")
       refine qv (j := i) sT (tK (by rw [List.length_map, pG]; exact hit)) (Dv.int _) rfl (fun H9 lG z3 => ?_)
       refine ⟨_, rfl, yW.step lG fun b hb => .inl hb, ?_⟩
       rw [take_snoc hi, mh, List.map_set]
       exact z3
     . rintro σ' H' ⟨kP, rfl, yW, sT⟩
       rw [List.take_length, pE] at sT
       refine ⟨_, _, _, _, _, _, cH f c.1 vv, rfl, ?_, r6.mv yW (by simp [Ne.symm Ef]), ?_, ?_, ?_⟩
       . exact FZ.step yW fun b hb => .inl (qL hb)
       . rw [nh]
         have : ps.map (load (cH f c.1 vv) (ls.take j ++ [c])) = ps.map fun p => load f (ls.take j) p + (if con p c = true then vv else 0) := List.map_congr_left fun p _ => jY wK
         rw [this]; exact sT
       . rw [nh]
         obtain ⟨i, hi, e⟩ := List.mem_map.mp xu
         exact Bo.step wK (fun i hi => AF _ (List.mem_map.mpr ⟨i, hi, rfl⟩)) ⟨i, hi, e.symm⟩ hv Di Ao hw.1
       . rw [nh]
         obtain ⟨i, hi, e⟩ := List.mem_map.mp xu
         exact BD.step wK (fun i hi => AF _ (List.mem_map.mpr ⟨i, hi, rfl⟩)) ⟨i, hi, e.symm⟩ hv Di Ao
   . rintro σ' H' ⟨z5, z6, z7, z8, z9, kP, f, rfl, mv, jf, yq, Bo, BD⟩
     rw [List.take_length] at Bo BD
     repeat' (walk_at "rd1")
     refine q q4 H' f ?_ ?_ jf (Bo.shr d8 fun c hc => (lJ _).mpr (List.mem_map_of_mem hc)) ⟨ls, ps, d8, oU, lJ, BD⟩
     . have h3 : H q3 = none := (tD.trans e8).none DN
       have h4 : H q4 = none := o6.none wD
       intro b u e
       refine mv.kp b u (fun z => ?_) (kX b u (Ce b u (o6 b u e)))
       have : b = q3 \/ b = q4 := by simpa using z
       rcases this with rfl | rfl
       . rw [h3] at e; cases e
       . rw [h4] at e; cases e
     . exact o6.none wD
theorem ml (T : Txt K mg a) : oC P w K mg base 5 a.bf ["price", "claims"] [] fS :=
 ⟨⟨_, _, oF T, T.dW.binds fun _ _ _ _ _ _ => .all fun us hl => match us, hl with | [_, _], _ => rfl, .nil⟩⟩
theorem j0 : ∀ (ds : List C4), ds ≠ [] -> ∃ c ∈ ds, ∀ d ∈ ds, c.2.2.1 <= d.2.2.1
 | [], h => absurd rfl h
 | [c], _ => ⟨c, by simp, fun d hd => by have : d = c := by simpa using hd
                                         rw [this]; exact Int.le_refl _⟩
 | c :: d :: r, _ => by
   obtain ⟨e, he, hm⟩ := j0 (d :: r) (by simp)
   by_cases h : e.2.2.1 <= c.2.2.1
   . exact ⟨e, List.mem_cons_of_mem _ he, fun x hx => (List.mem_cons.mp hx).elim (fun z => z ▸ h) (hm x)⟩
   . exact ⟨c, List.mem_cons_self, fun x hx => (List.mem_cons.mp hx).elim (fun z => z ▸ Int.le_refl _) (fun z => by have := hm x z; omega)⟩
theorem mX {f : Str -> Int} {G : List C4} (hf : ∀ d ∈ G, 0 <= f d.1) (p : Int) : 0 <= load f G p := by
 have := je (P := fun _ => false) (R := con p) (g := fun _ => 0) (h := fun c => f c.1) (cs := G) (fun c _ z => by cases z) (fun c hc _ => hf c hc)
 have e : sf (fun _ => false) (fun _ => 0) G = 0 := by unfold sf; rw [List.filter_eq_nil_iff.mpr (fun _ _ z => by cases z)]; rfl
 unfold load
 omega
theorem iZ {f : Str -> Int} {G : List C4} {p : Int} (h : G.filter (con p) = []) : load f G p = 0 := by unfold load sf; rw [h]; rfl
theorem kR {f : Str -> Int} {G : List C4} {c : C4} {ps T : List Int} {most p0 : Int} (hf : ∀ d ∈ G, 0 <= f d.1) (hl : ∀ d ∈ G, d.2.2.1 <= c.2.2.1) (sL : ∀ d ∈ G, d.2.1 ∈ ps) (zV : c.2.1 ∈ ps) (hM : ∀ p ∈ ps, con p c = true -> load f G p <= load f G p0) (wQ : con p0 c = true)
 (h0 : 0 <= most) (hT : ∀ t ∈ T, con t c = true -> load f G t <= most) (G0 : ∀ d ∈ G, d.2.2.1 ∈ T) (hm : most = 0 \/ ∃ t ∈ T, con t c = true /\ most = load f G t) : most = load f G p0 := by
 refine Int.le_antisymm ?_ ?_
 . rcases hm with rfl | ⟨t, ht, Dx, rfl⟩
   . exact mX hf p0
   . by_cases h : G.filter (con t) = []
     . rw [iZ h]; exact mX hf p0
     . obtain ⟨d, hd, xu⟩ := fE _ h
       obtain ⟨Bu, hd2⟩ := List.mem_filter.mp hd
       have b1 := aQ.mp hd2
       have b2 := aQ.mp Dx
       have key : ∀ q, q ∈ ps -> c.2.1 <= q -> d.2.1 <= q -> q <= t -> load f G t <= load f G p0 := fun q hq g1 g2 g3 => by
        refine Int.le_trans (je (fun e he hp => ⟨?_, Int.le_refl _⟩) (fun e he _ => hf e he)) (hM q hq (aQ.mpr ⟨g1, by omega⟩))
        have := xu e (List.mem_filter.mpr ⟨he, hp⟩)
        have := aQ.mp hp
        exact aQ.mpr ⟨by omega, by omega⟩
       by_cases hle : d.2.1 <= c.2.1
       . exact key c.2.1 zV (Int.le_refl _) hle b2.1
       . exact key d.2.1 (sL d Bu) (by omega) (Int.le_refl _) b1.1
 . by_cases h : G.filter (con p0) = []
   . rw [iZ h]; exact h0
   . obtain ⟨d, hd, Fo⟩ := j0 _ h
     obtain ⟨Bu, hd2⟩ := List.mem_filter.mp hd
     have b1 := aQ.mp hd2
     have b2 := aQ.mp wQ
     have b3 := hl d Bu
     refine Int.le_trans (je (fun e he hp => ⟨?_, Int.le_refl _⟩) (fun e he _ => hf e he)) (hT d.2.2.1 (G0 d Bu) (aQ.mpr ⟨by omega, b3⟩))
     have := Fo e (List.mem_filter.mpr ⟨he, hp⟩)
     have := aQ.mp hp
     exact aQ.mpr ⟨by omega, by omega⟩
theorem dY {cs : List C4} (hn : (cs.map (·.1)).Nodup) : ∀ {xs ys : List C4}, xs.Perm ys -> (∀ x ∈ xs, x ∈ cs) -> xs.Pairwise (fun c d => bA (bY d) (bY c) = false) -> ys.Pairwise (fun c d => bA (bY d) (bY c) = false) -> xs = ys
 | [], _, hp, _, _, _ => List.Perm.nil_eq hp
 | x :: xs, [], hp, _, _, _ => by have := hp.length_eq; simp at this
 | x :: xs, y :: ys, hp, hm, h1, h2 => by
   have hx := List.pairwise_cons.mp h1
   have hy := List.pairwise_cons.mp h2
   have BE : x = y := by
    have m1 : y ∈ x :: xs := hp.mem_iff.mpr List.mem_cons_self
    have m2 : x ∈ y :: ys := hp.mem_iff.mp List.mem_cons_self
    rcases List.mem_cons.mp m1 with e | FV
    . exact e.symm
    rcases List.mem_cons.mp m2 with e | HC
    . exact e
    have e := qE (hy.1 x HC) (hx.1 y FV)
    have e1 : x.1 = y.1 := by unfold bY at e; exact (Prod.mk.inj e).2
    obtain ⟨i, hi, ei⟩ := List.getElem_of_mem (hm x List.mem_cons_self)
    obtain ⟨j, hj, ej⟩ := List.getElem_of_mem (hm y m1)
    rw [List.nodup_iff_pairwise_ne, List.pairwise_map] at hn
    rcases Nat.lt_trichotomy i j with h | h | h
    . exact absurd (by rw [ei, ej]; exact e1) ((List.pairwise_iff_getElem.mp hn) i j hi hj h)
    . subst h; rw [<- ei, <- ej]
    . exact absurd (by rw [ei, ej]; exact e1.symm) ((List.pairwise_iff_getElem.mp hn) j i hj hi h)
   subst BE
   rw [dY hn (List.Perm.cons_inv hp) (fun z hz => hm z (List.mem_cons_of_mem _ hz)) hx.2 hy.2]
theorem hJ {f g : Str -> Int} {G : List C4} {p : Int} (h : ∀ d ∈ G, f d.1 = g d.1) : load f G p = load g G p := by
 unfold load sf
 congr 1
 exact List.map_congr_left fun d hd => h d (List.mem_filter.mp hd).1
theorem oA {pr : Int} {cs se : List C4} {f g : Str -> Int} (hn : (cs.map (·.1)).Nodup) (hp : se.Perm cs) (h1 : Exact pr cs f) (h2 : Exact pr se g) : ∀ c ∈ cs, f c.1 = g c.1 := by
 obtain ⟨ls, ps, p1, o1, m1, g1⟩ := h1
 obtain ⟨FK, ps2, p2, o2, m2, g2⟩ := h2
 obtain rfl := dY hn (p1.trans (hp.symm.trans p2.symm)) (fun x hx => p1.mem_iff.mp hx) o1 o2
 have mm : ∀ x, x ∈ ps ↔ x ∈ ps2 := fun x => by rw [m1, m2]; exact (hp.map (·.2.1)).mem_iff.symm
 have key : ∀ i : Nat, ∀ d ∈ ls.take i, f d.1 = g d.1 := by
  intro i
  induction i with
  | zero => intro d hd; simp at hd
  | succ i ih =>
    intro d hd
    cases hc : ls[i]? with
    | none =>
      rw [List.take_add_one, hc] at hd
      exact ih d (by simpa using hd)
    | some c =>
      rw [take_snoc hc] at hd
      rcases List.mem_append.mp hd with hd | hd
      . exact ih d hd
      . have : d = c := by simpa using hd
        subst this
        obtain ⟨p, hp, c1, k1, a1, b1, e1⟩ := g1 i d hc
        obtain ⟨p', si, Hf, Gh, Iz, IA, Dg⟩ := g2 i d hc
        have l1 : load f (ls.take i) p = load g (ls.take i) p' := by
         refine Int.le_antisymm ?_ ?_
         . rw [hJ ih]; exact Gh p ((mm p).mp hp) c1
         . rw [<- hJ ih]; exact k1 p' ((mm p').mpr si) Hf
        rw [l1] at b1 e1
        omega
 intro c hc
 exact key ls.length c (by rw [List.take_length]; exact p1.mem_iff.mpr hc)
theorem nq : ∀ {cs : List C4}, (∀ c ∈ cs, 1 <= c.2.2.2 /\ c.2.2.2 <= 10 ^ 12) -> 0 <= (cs.map fun c => c.2.2.2).sum /\ (cs.map fun c => c.2.2.2).sum <= 10 ^ 12 * cs.length
 | [], _ => by simp
 | c :: cs, h => by
   have ih := nq (cs := cs) fun d hd => h d (List.mem_cons_of_mem _ hd)
   have hc := h c List.mem_cons_self
   rw [List.map_cons, List.sum_cons, List.length_cons]
   omega
def gH : Sp := fun vs H Q _ => ∃ (v : V) (c : Int) (cs : List C4), vs = [v, .int c] /\ Dv H v (.list (cs.map dR)) /\ k8 cs /\ cs.length <= 26 /\ ∀ H' pr, ah H H' -> 0 <= pr -> pr < 10 ^ 40 -> Q (.int pr) H'
theorem s9 {H : Hp} {Q : VK} {E : XK} {v : V} {c : Int} {cs : List C4} (h : Dv H v (.list (cs.map dR))) (ho : k8 cs) (hl : cs.length <= 26) (q : ∀ H' pr, ah H H' -> 0 <= pr -> pr < 10 ^ 40 -> Q (.int pr) H') : gH [v, .int c] H Q E := ⟨v, c, cs, rfl, h, ho, hl, q⟩
theorem q8 (T : Txt K mg a) : bK P w K mg base gY 1 a.aV a.eD ["_law_claims_here", "_law_cell"] gH := by
 refine T.dq.ok iC (fun vs H Q E h => ?_) (fun dj A outer s H vs Q E hr h => ?_)
 . obtain ⟨_, _, _, rfl, _⟩ := h; rfl
 . obtain ⟨v, c, cs, rfl, hv, aB, hl, q⟩ := h
   refine ⟨_, (aj (fV (cQ (mz hr.yK) (ag ay (pv 1) af) af (cX _))
    (aA (bw (ag ay (ag aG (pv 1) af) af)))
    cS)
    (aj (fV (cQ (mz hr.yK) (ag ay (pv 1) af) af (cX _))
     (aA (bw (ag ay (ag aG (pv 1) af) (ag bP af (aO (jd rfl) rfl T.ie PyProof.Rows.boot_sum (ae (iT (T := ["_law_one"]) (M := ["_law_claims_here", "_law_cell"]) (xN (au ck) ["_law_claims_here", "_law_cell"] rfl rfl (by decide +kernel)) rfl (bH (pv 0)) (fun _ _ _ _ _ => (aE (i := 0) (show List.Nodup (["_law_one", "_law_claims_here", "_law_cell"] : List Str) by decide +kernel) rfl (Or.inl rfl))) (c7 (by decide)) (fun _ _ _ _ _ => fu) (fun _ _ _ _ _ => (a8 (fZ (K := K) rfl) (pv 0) af (fun _ _ => rfl)))) ak))))))
     cS)
    (aA (bw (ag ay (ag aG (pv 1) af) (ag g4 af af)))))), ?_⟩
   repeat' (walk_at "rd1")
   . exact q _ _ (ah.refl _) (by omega) (by omega)
   . refine oE (cs := cs) (gd := dR) (fun _ => true) (fun c => .int c.2.2.2) hv (by omega) (fun _ => rfl) (fun x c H2 N hc e8 hx yes no => ?_) (fun q1 H1 tD yO rX => ?_)
     . have iy : Dv H2 x (.tuple [.str c.1, .int c.2.1, .int c.2.2.1, .int c.2.2.2]) := hx
       repeat' (walk_at "rd1")
       refine fj (fun hb => ?_) (fun hb => by cases hb)
       repeat' (walk_at "rd1")
       exact yes rfl _ _ (ah.refl _) (.int _)
     rw [e9] at rX
     have wj : Dv H1 (.ref q1) (.list ((cs.map fun c => c.2.2.2).map PyData.int)) := by rw [List.map_map]; exact rX.dv
     have hb := nq aB.w1
     repeat' (walk_at "rd1")
     exact q _ _ (by walk_at "same") (by omega) (by omega)
   . exact q _ _ (ah.refl _) (by omega) (by omega)
theorem oD (T : Txt K mg a) : oC P w K mg base 1 a.aV ["_law_claims_here", "_law_cell"] [] gH :=
 ⟨⟨_, _, q8 T, T.dq.binds fun _ _ _ _ _ _ => .all fun us hl => match us, hl with | [_, _], _ => rfl, .nil⟩⟩
def gF : Sp := fun vs H Q _ => ∃ n : Int, vs = [.int n] /\ Q (.bl true) H
theorem sE {H : Hp} {Q : VK} {E : XK} {n : Int} (q : Q (.bl true) H) : gF [.int n] H Q E := ⟨n, rfl, q⟩
theorem qQ (T : Txt K mg a) : bK P w K mg base gY 1 a.aW a.eK ["_law_found"] gF := by
 refine T.dn.ok iG (fun vs H Q E h => ?_) (fun dj A outer s H vs Q E hr h => ?_)
 . obtain ⟨_, rfl, _⟩ := h; rfl
 . obtain ⟨n, rfl, q⟩ := h
   refine ⟨_, (aA (bw (rn (aO gE rfl T.bo PyProof.Rows.boot_isinstance (ae (pv 0) (ae (jO (v := .ty "int") rfl T.jg PyProof.Rows.boot_int rfl) ak))) (rM (ye (aO gE rfl T.bo PyProof.Rows.boot_isinstance (ae (pv 0) (ae (jO (v := .ty "bool") rfl T.gy PyProof.Rows.boot_bool rfl) ak)))))))), ?_⟩
   repeat' (walk_at "rd1")
   exact q
theorem oM (T : Txt K mg a) : oC P w K mg base 1 a.aW ["_law_found"] [] gF :=
 ⟨⟨_, _, qQ T, T.dn.binds fun _ _ _ _ _ _ => .all fun us hl => match us, hl with | [_], _ => rfl, .nil⟩⟩
def m9 : Sp := fun vs H Q _ => ∃ v pg pd c f, ∃ G cs : List C4, vs = [v, .ref pg, .ref pd] /\ Dv H v (dR c) /\ bJ H pg (G.map dR) /\ G.length <= 26 /\ c6 H pd (fC f cs) /\ (∀ d ∈ G, d.1 ∈ cs.map (·.1)) /\
 ∀ most H', ah H H' -> 0 <= most -> (∀ t ∈ G.map (·.2.2.1) ++ [c.2.2.1], con t c = true -> load f G t <= most) -> (most = 0 \/ ∃ t ∈ G.map (·.2.2.1) ++ [c.2.2.1], con t c = true /\ most = load f G t) -> Q (.int most) H'
theorem tG (T : Txt K mg a) : bK P w K mg base gY 1 a.aH a.dO ["_law_claim", "_law_gone", "_law_shares"] m9 := by
 refine T.cG.ok bB (fun vs H Q E h => ?_) (fun dj A outer s H vs Q E hr h => ?_)
 . obtain ⟨_, _, _, _, _, _, _, rfl, _⟩ := h; rfl
 . obtain ⟨v, pg, pd, c, f, G, cs, rfl, hv, hg, IE, hd, hm, q⟩ := h
   have Az : Dv H v (.tuple [.str c.1, .int c.2.1, .int c.2.2.1, .int c.2.2.2]) := hv
   refine ⟨_, (aj (aC (i := 3) bB.nd rfl (Or.inl rfl) af)
    (aj (fG PassesOwn.never rfl (bH (ag vU (iT (T := ["_law_one"]) (M := ["_law_claim", "_law_gone", "_law_shares", "_law_most", "_law_time"]) (xN (au bu) ["_law_claim", "_law_gone", "_law_shares", "_law_most", "_law_time"] rfl rfl (by decide +kernel)) rfl (bH (pv 1)) (fun _ _ _ _ _ => (aE (i := 0) (show List.Nodup (["_law_one", "_law_claim", "_law_gone", "_law_shares", "_law_most", "_law_time"] : List Str) by decide +kernel) rfl (Or.inl rfl))) (c7 (by decide)) (fun _ _ _ _ _ => fu) (fun _ _ _ _ _ => (a8 (fZ (K := K) rfl) (pv 0) af (fun _ _ => rfl)))) (cO (ae (a8 dg (pv 0) af (fun _ _ => rfl)) ak)))) (aE (i := 4) bB.nd rfl (Or.inr rfl))
     (aA (fV (gX iP iP (a8 dg (pv 0) af (fun _ _ => rfl)) (pv 4) (a8 dg (pv 0) af (fun _ _ => rfl)))
      (aA (aC (i := 3) bB.nd rfl (Or.inl rfl) (aO (o9 rfl) rfl T.hE PyProof.Rows.boot_max (ae (pv 3) (ae (aO (jd rfl) rfl T.ie PyProof.Rows.boot_sum (ae (iT (T := ["_law_one"]) (M := ["_law_claim", "_law_gone", "_law_shares", "_law_most", "_law_time"]) (xN (au bu) ["_law_claim", "_law_gone", "_law_shares", "_law_most", "_law_time"] rfl rfl (by decide +kernel)) rfl (bH (pv 1)) (fun _ _ _ _ _ => (aE (i := 0) (show List.Nodup (["_law_one", "_law_claim", "_law_gone", "_law_shares", "_law_most", "_law_time"] : List Str) by decide +kernel) rfl (Or.inl rfl))) (c7 (by decide)) (fun _ _ _ _ _ => (mS (gX iP iP (a8 (fZ (K := K) rfl) (pv 0) af (fun _ _ => rfl)) (pv 5) (a8 (fZ (K := K) rfl) (pv 0) af (fun _ _ => rfl))))) (fun _ _ _ _ _ => (gu (eN hr) (pv 3) (a8 (fZ (K := K) rfl) (pv 0) af (fun _ _ => rfl)) (fun _ _ => rfl)))) ak)) ak)))))
      cS)))
    (aA (bw (pv 3))))), ?_⟩
   repeat' (walk_at "rd1")
   refine oE (cs := G) (gd := dR) (fun _ => true) (fun d => .int d.2.2.1) hg.dv (by omega) (fun _ => rfl) (fun x d H2 N hc e8 hx yes no => ?_) (fun q1 H1 tD yO rX => ?_)
   . have iy : Dv H2 x (.tuple [.str d.1, .int d.2.1, .int d.2.2.1, .int d.2.2.2]) := hx
     repeat' (walk_at "rd1")
     refine fj (fun hb => ?_) (fun hb => by cases hb)
     repeat' (walk_at "rd1")
     exact yes rfl _ _ (ah.refl _) (.int _)
   rw [e9] at rX
   have wj : bJ H1 q1 ((G.map (·.2.2.1)).map PyData.int) := by rw [List.map_map]; exact rX
   repeat' (walk_at "rd1")
   rename_i qa Ha HA I9 Ir qt Ht zG IU cz
   have Ei : bJ Ht qt ((G.map (·.2.2.1) ++ [c.2.2.1]).map PyData.int) := by rw [List.map_append]; exact cz
   have Bf : ah H Ht := (tD.trans HA).trans zG
   generalize IP : G.map (·.2.2.1) ++ [c.2.2.1] = T at *
   refine kG (Hb := Ht) (cs := T) (gd := PyData.int) Ei.dv (fun j σ' H' => ∃ z most, σ' = [some v, some (.ref pg), some (.ref pd), some (.int most), z] /\ ah Ht H' /\ 0 <= most /\ (∀ t ∈ T.take j, con t c = true -> load f G t <= most) /\ (most = 0 \/ ∃ t ∈ T, con t c = true /\ most = load f G t)) ⟨_, 0, rfl, ah.refl _, Int.le_refl _, fun t h => by simp at h, .inl rfl⟩ (fun i σ' H' _ ⟨_, _, _, sm, _⟩ a' xs e hx => ah.seq sm hx) ?_ ?_
   . rintro j t v' σ' H3 hj ⟨z, most, rfl, sm3, h0, hle, zq⟩ hI hS
     obtain rfl := (hS sm3).int_inv
     have Jb := Az.keeps (Bf.trans sm3)
     have G5 := hg.keeps (Bf.trans sm3)
     have Hn := hd.keeps (Bf.trans sm3)
     have nh := take_snoc hj
     have GY : t ∈ T := List.mem_of_getElem? hj
     have xB : ∀ {m : Int}, most <= m -> (con t c = true -> load f G t <= m) -> ∀ t' ∈ T.take (j + 1), con t' c = true -> load f G t' <= m := fun {m} g1 g2 t' yL kN => by
      rw [nh] at yL
      rcases List.mem_append.mp yL with yL | yL
      . exact Int.le_trans (hle t' yL kN) g1
      . have : t' = t := by simpa using yL
        subst this
        exact g2 kN
     repeat' (walk_at "rd1")
     . rename_i xn jk
       have Dx : con t c = true := aQ.mpr ⟨xn, jk⟩
       refine oE (cs := G) (gd := dR) (fun d => con t d) (fun d => .int (f d.1)) G5.dv (by omega) (fun _ => rfl) (fun x d H4 N hc uR hx yes no => ?_) (fun q5 H5 kX uW Gs => ?_)
       . have iy : Dv H4 x (.tuple [.str d.1, .int d.2.1, .int d.2.2.1, .int d.2.2.2]) := hx
         have Eh := gB (f := f) (hm d hc)
         have Bl := Hn.keeps uR
         repeat' (walk_at "rd1")
         . rename_i h1
           refine fj (fun hb => ?_) (fun hb => no (by simp [con, h1, of_decide_eq_false hb]) _ (ah.refl _))
           repeat' (walk_at "rd1")
           exact yes (by simp [con, h1, of_decide_eq_true hb]) _ _ (ah.refl _) (.int _)
         . rename_i h1
           exact fj (fun hb => by cases hb) (fun _ => no (by simp [con, h1]) _ (ah.refl _))
       have HZ : Dv H5 (.ref q5) (.list (((G.filter (con t)).map fun d => f d.1).map PyData.int)) := by rw [List.map_map]; exact Gs.dv
       repeat' (walk_at "rd1")
       rename_i mm Ic By Ie
       refine ⟨_, mm, rfl, sm3.trans kX, by omega, xB (by omega) (fun _ => ?_), ?_⟩
       . exact Ie
       . rcases Ic with rfl | rfl
         . exact zq
         . exact .inr ⟨t, GY, Dx, rfl⟩
     . rename_i xn jk
       exact ⟨_, most, rfl, sm3, h0, xB (Int.le_refl _) (fun hc => by have := aQ.mp hc; omega), zq⟩
     . rename_i xn
       exact ⟨_, most, rfl, sm3, h0, xB (Int.le_refl _) (fun hc => by have := aQ.mp hc; omega), zq⟩
   . rintro σ' H3 ⟨z, most, rfl, sm3, h0, hle, zq⟩
     rw [List.take_length] at hle
     repeat' (walk_at "rd1")
     exact q most H3 (Bf.trans sm3) h0 hle zq
theorem qe (T : Txt K mg a) : oC P w K mg base 1 a.aH ["_law_claim", "_law_gone", "_law_shares"] [] m9 :=
 ⟨⟨_, _, tG T, T.cG.binds fun _ _ _ _ _ _ => .all fun us hl => match us, hl with | [_, _, _], _ => rfl, .nil⟩⟩
abbrev CL (H : Hp) (P : Addr) : Prop := TabAt H P yB wN
theorem uF {x : Str} (h : zQ x) : PyData.canLay0 (.str x) = true := by
 show x.cps.all (· < 0x110000) = true
 rw [Array.all_eq_true']
 intro c hc
 exact decide_eq_true (h.2 c (by simpa using hc))
theorem qZ : ∀ {cs : List C4}, (∀ c ∈ cs, zQ c.1) -> PyData.canLayAll0 (cs.map dR) = true
 | [], _ => rfl
 | c :: r, h => by
   have h1 := uF (h c List.mem_cons_self)
   simp only [List.map_cons, PyData.canLayAll0, dR, PyData.canLay0, Bool.true_and, Bool.and_true] at h1 ⊢
   rw [h1, qZ fun y hy => h y (List.mem_cons_of_mem _ hy)]; rfl
theorem qM : ∀ cs : List C4, PyData.depthAll (cs.map dR) <= 2
 | [] => by simp [PyData.depthAll]
 | c :: r => by have := qM r; simp only [List.map_cons, PyData.depthAll, dR, PyData.depth] at this ⊢; omega
theorem vL {H : Hp} {Q : VK} {g : Bool -> Bool} {x y : V} {cs : List C4} (h1 : Dv H x (.list (cs.map dR))) (h2 : Dv H y (.list (cs.map dR))) (hs : ∀ c ∈ cs, zQ c.1) (h : Q (.bl (g true)) H) : rk K g x y H Q := by
 have hl : PyData.canLay0 (.list (cs.map dR)) = true := by rw [PyData.canLay0]; exact qZ hs
 refine u6 h1 h2 hl hl ?_ (by rw [PySem.SeqAt.eqv_refl _ hl]; exact h)
 have := qM cs
 rw [PyData.depth]; omega
def lL (ts : List Addr) (K : PySem.W.Frag) : Sp := fun vs H Q _ => ∃ (l : Addr) (ns : List Int), vs = [.ref l] /\ bF K H l (ns.map V.int) /\ ns.length <= 63 /\ (∀ b ∈ ts, H b = some (.eU #[])) /\ ∀ H', Q (.bl true) H'
theorem wm (T : Txt K mg a) (hB : Bs K mg base) : bK P w K mg base gY 9 a.ip a.g5 ["_law_script"] (lL a.tabs K) := by
 have aK := bX (P := P) (w := w) (base := base) T
 have iD := jZ (P := P) (w := w) (base := base) T
 have jN := oD (P := P) (w := w) (base := base) T
 have jt := oM (P := P) (w := w) (base := base) T
 have g7 := qe (P := P) (w := w) (base := base) T
 have et := ml (P := P) (w := w) (base := base) T
 refine T.qJ.GI c5 (fun vs H Q E h => ?_) (fun A outer s H vs Q E hr h => ?_)
 . obtain ⟨_, _, rfl, _⟩ := h; rfl
 . obtain ⟨l, ns, rfl, hl, hn, hT, q⟩ := h
   have t0 : CL H a.dB := .inl (hT _ T.jq)
   refine ⟨_, (aj (aC (i := 1) c5.nd rfl (Or.inl rfl) (ag ay (aS aK (hr.mono (by decide)) rfl T.aM T.aL (ae (pv 0) (ae af ak))) af))
    (qR (fV (cQ (mz hr.yK) (ag ay (ag aG (aS aK (hr.mono (by decide)) rfl T.aM T.aL (ae (pv 0) (ae af ak))) af) af) af (cX _))
     (aA (aC (i := 1) c5.nd rfl (Or.inl rfl) (ag bP af (ag ay (ag aG (aS aK (hr.mono (by decide)) rfl T.aM T.aL (ae (pv 0) (ae af ak))) af) af))))
     cS)
    (aj (aC (i := 2) c5.nd rfl (Or.inl rfl) (aS iD (hr.mono (by decide)) rfl T.d5 T.d6 (ae (pv 0) (ae (pv 1) ak))))
    (aj (aC (i := 3) c5.nd rfl (Or.inl rfl) (aS jN (hr.mono (by decide)) rfl T.eI T.eP (ae (pv 2) (ae (aS aK (hr.mono (by decide)) rfl T.aM T.aL (ae (pv 0) (ae af ak))) ak))))
    (aj (aC (i := 4) c5.nd rfl (Or.inl rfl) (ja jS rfl T.e7 PyProof.Rows.boot_list (ae (pv 2) ak)))
    (aj (aC (i := 5) c5.nd rfl (Or.inl rfl) (aS et (hr.mono (by decide)) rfl T.cm T.b9 (ae (pv 3) (ae (pv 4) ak))))
    (aj (fV (PW.pt (qS (qu (ke (aO gE rfl T.bo PyProof.Rows.boot_isinstance (ae (pv 5) (ae (jO (v := .ty "dict") rfl T.no_dict PyProof.Rows.boot_dict rfl) ak))) (fun _ => rfl))) (qS (cQ (lj hr.yK) (aO kZ rfl T.dG PySem.boot_len (ae (pv 5) ak)) (aO c9 rfl T.dG PySem.boot_len (ae (pv 2) ak)) (cX _)) (rP (cQ (lj hr.yK) (pv 4) (pv 2) (cX _))))))
     (aA (bw nD))
     cS)
    (aj (aC (i := 6) c5.nd rfl (Or.inl rfl) (cO ak))
    (aj (fG PassesOwn.never rfl (bH (qI (k := 4) (xr ⟨rfl, rfl, rfl, by decide +kernel, rfl, rfl, by decide +kernel⟩ ⟨a.hZ, T.gU.e, PySem.W.codeHd_of_K hB.k T.gU.cd⟩ hB.b rfl (fun _ _ _ _ _ _ _ _ => rfl) rfl) (hr.mono (by decide)) rfl T.cu (ae (pv 2) ak) (fun _ _ _ _ _ _ hr => (jL (ae (a8 (fZ (K := K) rfl) (pv 0) af (fun _ _ => rfl)) (ae (a8 (fZ (K := K) rfl) (pv 0) af (fun _ _ => rfl)) ak)))))) (aE (i := 7) c5.nd rfl (Or.inl rfl))
     (aj (fV (PW.pt (qS (w4 (om (eN hr) (a8 dg (pv 7) af (fun _ _ => rfl)) (pv 5)) rfl) (rP (qu (ke (aS jt (hr.mono (by decide)) rfl T.eM T.eE (ae (gu (eN hr) (pv 5) (a8 dg (pv 7) af (fun _ _ => rfl)) (fun _ _ => rfl)) ak)) (fun _ => rfl))))))
      (aA (bw nD))
      cS)
     (aj (fV (cQ (lj hr.yK) (gu (eN hr) (pv 5) (a8 dg (pv 7) af (fun _ _ => rfl)) (fun _ _ => rfl)) (aO (iW rfl) rfl T.gP PyProof.Rows.boot_min (ae (a8 dg (pv 7) af (fun _ _ => rfl)) (ae (ag ib (pv 3) (aS g7 (hr.mono (by decide)) rfl T.dM T.dJ (ae (pv 7) (ae (pv 6) (ae (pv 5) ak))))) ak))) (cX _))
      (aA (bw nD))
      cS)
     (aA (jz (pZ PySem.F.plainAttrs_list PySem.F.slot_list_append PySem.F.type_list_append fH (pv 6) (ae (pv 7) ak)))))))
    (aj (aC (i := 8) c5.nd rfl (Or.inl rfl) (ja mC rfl T.no_dict PyProof.Rows.boot_dict (ae (pv 5) ak)))
    (aj (jD (eN hr) (pv 5) my (ag ib af af) rfl)
    (aA (bw (rn (nG (mO (Nat.lt_of_succ_lt (eN hr))) (aS et (hr.mono (by decide)) rfl T.cm T.b9 (ae (pv 3) (ae (pv 4) ak))) (pv 8) (cX _)) (rM (nG (mO (Nat.lt_of_succ_lt (eN hr))) (aS et (hr.mono (by decide)) rfl T.cm T.b9 (ae (pv 3) (ae (me (pv 2) rfl rfl T.e7 rfl T.cR) ak))) (pv 8) (cX _))))))))))))))))), ?_⟩
   repeat' (walk_at "rd1")
   refine xW (fun σ' H' => H = H' /\ ∃ m, σ' = [some (.ref l), some (.int m), none, none, none, none, none, none, none] /\ 0 <= m /\ m <= 26) ?_ ?_
   . repeat' (walk_at "rd1")
     . exact ⟨rfl, _, rfl, by omega, by omega⟩
     . exact ⟨rfl, _, rfl, by omega, by omega⟩
   rintro σ' H' ⟨rfl, m, rfl, m0, m1⟩
   repeat' (walk_at "rd1")
   refine o4 hl m0 m1 (fun pc H1 cs tD yO gb aB zV => ?_)
   have lR : cs.length <= 26 := by omega
   have Bz : bF K H1 l (ns.map V.int) := by walk_at "sql"
   repeat' (walk_at "rd1")
   refine s9 zV.dv aB lR (fun H2 pr e8 p0 p1 => ?_)
   have Ba := zV.keeps e8
   repeat' (walk_at "rd1")
   rename_i ph H3 sm3 DN CN
   refine iw CN.dv aB lR p0 (fun pd H4 f uR wD Bl Cw hex => ?_)
   have xg := (Ba.keeps sm3).keeps uR
   have vS := CN.keeps uR
   have yG := dt f cs
   repeat' (walk_at "rd1")
   refine iV Bl.dv ?_
   repeat' (walk_at "rd1")
   refine vL vS.dv xg.dv aB.ok.nm ?_
   have IX := ah.seq (((e8.trans sm3).trans uR)) Bz
   have t4 := (((t0.keeps tD).keeps e8).keeps sm3).keeps uR
   repeat' (walk_at "rd1")
   rename_i pg H5 kX uW Hd
   refine qy ?_
   repeat' (walk_at "rd1")
   refine ⟨t4.keeps kX, fun H6 Bj t6 => ?_⟩
   have zU := (t4.keeps kX).DH (xg.keeps kX) Bj
   have DX := (t4.keeps kX).DH (vS.keeps kX) Bj
   have AG := (t4.keeps kX).DH Hd Bj
   have DF := (t4.keeps kX).HB (Bl.keeps kX) Bj
   refine mJ (cs := cs) dR bY mV (fun c c' h => by rw [ni h]) zU.dv (by omega) (fun c v' H' hc r0 hd => ?_) (fun sq H7 ls rY EL d8 oU CI => ?_)
   . have Az : Dv H' v' (.tuple [.str c.1, .int c.2.1, .int c.2.2.1, .int c.2.2.2]) := hd
     refine sC ?_
     repeat' (walk_at "rd1")
     exact ⟨by walk_at "same", by walk_at "dat"⟩
   obtain ⟨FK, ps, FP, Fl, Fh, Gp⟩ := id hex
   obtain rfl := dY aB.nd (d8.trans FP.symm) (fun x hx => d8.mem_iff.mp hx) oU Fl
   have Ec := zU.keeps rY
   have Ej := DX.keeps rY
   have B5 := AG.keeps rY
   have Cz := DF.keeps rY
   have HJ : sq ≠ pg := Ne.symm (AG.ne EL)
   have Fn : pd ≠ pg := Bl.ne uW
   have Ck : ls.length = cs.length := d8.length_eq
   repeat' (walk_at "rd1")
   refine kG (Hb := H7) (cs := ls) (gd := dR) CI.dv (fun j σ' H' => ∃ z, σ' = [some (.ref l), some (.int m), some (.ref pc), some (.int pr), some (.ref ph), some (.ref pd), some (.ref pg), z, none] /\ Mv [pg] H7 H' /\ bJ H' pg ((ls.take j).map dR)) ⟨_, rfl, Mv.refl, B5⟩ (fun i σ' H' _ ⟨_, _, mv, _⟩ a' xs e hx => by cases e; exact mv.sq (by simpa using HJ) hx) ?_ ?_
   . rintro j c v' σ' H8 hj ⟨z, rfl, pV, wk⟩ hI hS
     have El : Dv H8 v' (.tuple [.str c.1, .int c.2.1, .int c.2.2.1, .int c.2.2.2]) := hI rfl (fun b xs e => pV.tp b xs e)
     have Cp : c ∈ ls := List.mem_of_getElem? hj
     have su : c ∈ cs := d8.mem_iff.mp Cp
     have Eh := gB (f := f) (List.mem_map_of_mem (f := (·.1)) su)
     have r6 : c6 H8 pd (fC f cs) := Cz.mv pV (by simpa using Fn)
     have GP := r6.rd
     have vz : j < ls.length := (List.getElem?_eq_some_iff.mp hj).1
     have Gm : (ls.take j).length <= 26 := by rw [List.length_take]; omega
     have tm : ∀ d ∈ ls.take j, d ∈ cs := fun d hd => d8.mem_iff.mp (List.mem_of_mem_take hd)
     have tl : ∀ d ∈ ls.take j, d.2.2.1 <= c.2.2.1 := fun d hd => by
      obtain ⟨i, hi, rfl⟩ := List.getElem_of_mem hd
      have fU : i < j := by rw [List.length_take] at hi; omega
      have h1 := (List.pairwise_iff_getElem.mp Fl) i j (by omega) vz fU
      rw [(List.getElem?_eq_some_iff.mp hj).2] at h1
      rw [List.getElem_take]
      have h2 : ¬ c.2.2.1 < ls[i].2.2.1 := fun cz => by
       have h3 : bA (bY c) (bY ls[i]) = true := by
        unfold bA bY
        rw [decide_eq_true cz]; rfl
       rw [h3] at h1; cases h1
      omega
     repeat' (walk_at "rd1")
     . rename_i o e hb; rw [e, Eh] at hb; cases hb
     . refine sE ?_
       repeat' (walk_at "rd1")
       refine ⟨v', pg, pd, c, f, ls.take j, cs, rfl, El, wk, Gm, r6, fun d hd => List.mem_map_of_mem (tm d hd), fun most H9 wH h0 hT hm => ?_⟩
       obtain ⟨Ip, wQ, D6, xu, a1, b1, e1⟩ := Gp j c hj
       have em := kR (T := (ls.take j).map (·.2.2.1) ++ [c.2.2.1]) (fun d hd => Cw.nn d (tm d hd)) tl (fun d hd => (Fh _).mpr (List.mem_map_of_mem (f := (·.2.1)) (tm d hd))) ((Fh _).mpr (List.mem_map_of_mem (f := (·.2.1)) su)) xu D6 h0 hT (fun d hd => List.mem_append_left _ (List.mem_map_of_mem (f := (·.2.2.1)) hd)) hm
       have Iq := El.keeps wH
       have HS := wk.keeps wH
       repeat' (walk_at "rd1")
       rename_i mm _ _ _ hb HU lG zk
       exact ⟨_, rfl, (pV.nQ wH).trans lG, by rw [take_snoc hj, List.map_append]; exact zk⟩
   . rintro σ' H8 ⟨z, rfl, pV, wk⟩
     have r6 : c6 H8 pd (fC f cs) := Cz.mv pV (by simpa using Fn)
     have F0 : ph ≠ pg := (vS.ne uW)
     have F6 : pc ≠ pg := (xg.ne uW)
     have GH : ph ≠ pd := CN.ne wD
     have Gr : pc ≠ pd := (Ba.keeps sm3).ne wD
     have Dk := Ej.mv pV (by simpa using F0)
     have C0 := Ec.mv pV (by simpa using F6)
     repeat' (walk_at "rd1")
     refine uy r6 (fun pb H9 wH F5 rp => ?_)
     have Fu := r6.keeps wH
     have HM : pb ≠ pd := Ne.symm (r6.ne F5)
     repeat' (walk_at "rd1")
     rename_i HU lG Gz
     have zB := (Dk.keeps wH).mv lG (by simpa using GH)
     have EJ := (C0.keeps wH).mv lG (by simpa using Gr)
     have vh := rp.mv lG (by simpa using HM)
     have same : ∀ {se : List C4} {g : Str -> Int}, se.Perm cs -> Exact pr se g -> ∀ z ∈ fC g se, iK (fC f cs) z.1 = some z.2 := fun {se g} hp hx z hz => by
      obtain ⟨d, hd, rfl⟩ := List.mem_map.mp hz
      have Ey := hp.mem_iff.mp hd
      show iK (fC f cs) d.1 = some (.int (g d.1))
      rw [gB (List.mem_map_of_mem (f := (·.1)) Ey), oA aB.nd hp hex hx d Ey]
     have zI : ∀ {se : List C4} {g : Str -> Int}, nI (fC g se) := fun {se g} z hz => by
      obtain ⟨d, hd, rfl⟩ := List.mem_map.mp hz
      exact ⟨_, rfl⟩
     refine iw zB.dv aB lR p0 (fun IC IG f2 Bb Gf Dl _ hex2 => ?_)
     repeat' (walk_at "rd1")
     refine ql Dl (vh.keeps Bb) (by rw [dt, dt]) zI (same (List.Perm.refl _) hex2) ?_
     repeat' (walk_at "rd1")
     rename_i pv GK Du G1 D0
     have AW : bJ GK pv (cs.reverse.map dR) := by rw [List.map_reverse]; exact D0
     have Dc : k8 cs.reverse := ⟨⟨fun c hc => aB.ok.nm c (List.mem_reverse.mp hc), fun c hc => aB.ok.wd c (List.mem_reverse.mp hc)⟩, fun c hc => aB.w1 c (List.mem_reverse.mp hc), by rw [List.map_reverse]; exact (List.reverse_perm _).nodup_iff.mpr aB.nd⟩
     refine iw AW.dv Dc (by rw [List.length_reverse]; exact lR) p0 (fun Iw IB f3 C9 GO CP _ Dm => ?_)
     repeat' (walk_at "rd1")
     refine ql CP (((vh.keeps Bb).keeps Du).keeps C9) (by rw [dt, dt, List.length_reverse]) zI (same (List.reverse_perm _) Dm) ?_
     exact q _
end
end My
open PySem PySem.W PyProof.Rows
local macro_rules | `(tactic| walk_at "k_dg") => `(tactic| (refine' ⟨?a, ⟨_, L2.uA ?l ?c⟩, ?k⟩; (case a => k_is); (case l => k_is); (case c => k_is); (case k => k_is)))
local macro_rules | `(tactic| walk_at "k_lm") => `(tactic| (refine' L2.uo ?l ?e ?lc ?ev ?cd ?no; (case l => k_is); (case e => exact rfl); (case lc => k_is); (case ev => exact rfl); (case cd => kernel_rfl); (case no => kernel_rfl)))
theorem My.B3 {K : Frag} {mg : Str -> Option Value} {h : Heap} {fa : Addr} {ts : List Addr} {w : World} (X : K.In h) (x5 : mg "law" = some (.ref fa)) (T : ∃ a : My.Ad, a.tabs = ts /\ My.Txt K mg a) :
 ∃ fd : FuncData, (∀ (s : Shared) (u : Value), BindsTo s fd ⟨[u], []⟩ [("_law_script", u)]) /\ (∀ b ∈ ts, K.lookup b = none /\ ∃ c, CodeHd h c b) /\
   ∀ base : Heap, K.In base -> base.Ns mainGlobals mg -> L2.BM mg base -> L2.bK PySem.Challenge.rw_wakefew_k44_no_share_can_grow.prog w K mg base L2.gY 14 fa fd ["_law_script"] (My.lL ts K) := by
 obtain ⟨a, rfl, T⟩ := T
 have e0 := x5.symm.trans T.qK
 cases e0
 refine ⟨a.g5, fun s u => My.oG T s u, fun b hb => ?_, fun base kb nb bm => (My.wm T ⟨kb, bm⟩).mono (by decide)⟩
 rcases T.tF b hb with rfl
 exact ⟨T.gU.no, _, codeHd_of_K X T.gU.cd⟩
theorem PySem.W.Fast.tw9114252689752236229 : True := trivial
theorem PySem.W.Fast.tw15263814421131804815 : True := trivial
theorem PySem.W.Fast.tw12178382773614535232 : True := trivial
theorem PySem.W.Fast.tw8182015204137481860 : True := trivial
set_option maxRecDepth 100000 in
set_option maxHeartbeats 0 in
theorem PySem.Challenge.cw_wakefew_k44_no_share_can_grow_holds : PySem.Challenge.rw_wakefew_k44_no_share_can_grow.Holds := by
 w_on; o_law; k_head; (case hw => w_witness2)
 k_fill
 refine L2.pU (l := PySem.Challenge.rw_wakefew_k44_no_share_can_grow) (n := 63) (k := 14) (x := "_law_script") (CX := L2.gY) (sp := My.lL) rfl (by decide) rfl ⟨rfl, by decide, by decide⟩ (fun w h Y => ⟨PySem.W.km_in_of Y, PySem.W.km_tabs_of Y⟩) ?F ?S ?C
 case F =>
  intro w mg fa h KX G x5
  refine My.B3 KX x5 ?_
  try dsimp only
  refine' My.we KX G ?h2 ?h3 ?h4 ?h5 ?h6 ?h7 ?h8 ?h9 ?h10 ?h11 ?h12 ?h13 ?h14 ?h15 ?h16 ?h17 ?h18 ?h19 ?h20 ?h21 ?h22 ?h23 ?h24 ?h25 ?h26 ?h27 ?h28 ?h29
  (case h2 => walk_at "k_dg")
  (case h3 => walk_at "k_dg")
  (case h4 => walk_at "k_dg")
  (case h5 => walk_at "k_dg")
  (case h6 => walk_at "k_dg")
  (case h7 => walk_at "k_dg")
  (case h8 => walk_at "k_dg")
  (case h9 => walk_at "k_dg")
  (case h10 => walk_at "k_dg")
  (case h11 => walk_at "k_dg")
  (case h12 => walk_at "k_dg")
  (case h13 => walk_at "k_lm")
  (case h14 => decide)
  (case h15 => decide)
  (case h16 => k_is)
  (case h17 => k_is)
  (case h18 => k_is)
  (case h19 => k_is)
  (case h20 => k_is)
  (case h21 => k_is)
  (case h22 => k_is)
  (case h23 => k_is)
  (case h24 => k_is)
  (case h25 => k_is)
  (case h26 => k_is)
  (case h27 => k_is)
  (case h28 => k_is)
  (case h29 => k_is)
 case S => exact fun K H l ns hl hS hT => ⟨l, ns, rfl, hS, hl, hT, fun _ => rfl⟩
 case C => exact fun H s e s' h => h
