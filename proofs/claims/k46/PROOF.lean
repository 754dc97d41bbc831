import PyProof.Rows.All
import Wide.All
import OpenK.AllK
import Wide.FinOn
import Lean
import PyProof.EqAt
import PyProof.EqKinds
import PyProof.TupleCall
import PyProof.StrLawsRepr
import PySem.Challenge.RW_wakefew_k46_whole_no_shares_are_more
set_option compiler.extract_closed false
set_option Elab.async false
set_option linter.all false
set_option maxRecDepth 100000
namespace L2
open PySem PySem.Spec PyProof.Rows
abbrev Key := Sum Int Str
def iY : Key -> Value -> Bool
 | .inl k, v => Value.isInt k v
 | .inr x, v => Value.isStrOf x v
def Cr (w : World) : Key -> Int
 | .inl k => hashInt k
 | .inr x => hashStr w x
theorem a7 : ∀ {k : Key} {v : Value}, iY k v = true -> (∃ i t, k = Sum.inl i /\ v = Value.int i t) \/ (∃ x t, k = Sum.inr x /\ v = Value.str x t)
 | .inl i, v, h => by
   obtain ⟨t, e⟩ := Value.isInt_shape (k := i) (v := v) h
   exact .inl ⟨i, t, rfl, e⟩
 | .inr x, v, h => by
   obtain ⟨t, e⟩ := Value.isStrOf_shape (x := x) (v := v) h
   exact .inr ⟨x, t, rfl, e⟩
theorem oh (i : Int) (t : Tok) : iY (.inl i) (.int i t) = true := by simp [iY, Value.isInt]
theorem ou (x : Str) (t : Tok) : iY (.inr x) (.str x t) = true := by simp [iY, Value.isStrOf]
theorem ye (a b : Int) : decide ((Sum.inl a : Key) = Sum.inl b) = (a == b) := by
 by_cases e : a = b
 . subst e; simp
 . have h : ¬ (Sum.inl a : Key) = Sum.inl b := fun q => e (Sum.inl.inj q)
   rw [decide_eq_false h]
   exact (beq_eq_false_iff_ne.mpr e).symm
theorem xQ (a b : Str) : decide ((Sum.inr a : Key) = Sum.inr b) = decide (a = b) := by
 by_cases e : a = b
 . subst e; simp
 . have h : ¬ (Sum.inr a : Key) = Sum.inr b := fun q => e (Sum.inr.inj q)
   rw [decide_eq_false h, decide_eq_false e]
theorem wq (a : Int) (b : Str) : decide ((Sum.inl a : Key) = Sum.inr b) = false := decide_eq_false (fun q => nomatch q)
theorem vU (a : Str) (b : Int) : decide ((Sum.inr a : Key) = Sum.inl b) = false := decide_eq_false (fun q => nomatch q)
def bf (prog : Program) (w : World) : PySem.KeyKind prog w Key where
 is := iY
 hash := Cr w
 inj := fun v a b ha hb => by
  rcases a7 ha with ⟨i, t, rfl, rfl⟩ | ⟨x, t, rfl, rfl⟩
  . rcases a7 hb with ⟨j, u, rfl, e⟩ | ⟨y, u, rfl, e⟩
    . injection e with e1 _; rw [e1]
    . exact nomatch e
  . rcases a7 hb with ⟨j, u, rfl, e⟩ | ⟨y, u, rfl, e⟩
    . exact nomatch e
    . injection e with e1 _; rw [e1]
 byValue := fun k v h => by
  rcases a7 h with ⟨i, t, rfl, rfl⟩ | ⟨x, t, rfl, rfl⟩ <;> rfl
 pyHash := fun hv h => by
  rcases a7 hv with ⟨i, t, rfl, rfl⟩ | ⟨x, t, rfl, rfl⟩
  . exact wpAny_pyHash_int h
  . exact wpAny_pyHash_str h
 eqBool := fun hu hv h => by
  rcases a7 hu with ⟨i, t, rfl, rfl⟩ | ⟨x, t, rfl, rfl⟩
  . rcases a7 hv with ⟨j, u, rfl, rfl⟩ | ⟨y, u, rfl, rfl⟩
    . rw [ye] at h; exact wpAny_eqBool_int h
    . rw [wq] at h; exact SeqAt.EqAt.int_str i t y u _ _ _ _ h
  . rcases a7 hv with ⟨j, u, rfl, rfl⟩ | ⟨y, u, rfl, rfl⟩
    . rw [vU] at h; exact SeqAt.EqAt.str_int x t j u _ _ _ _ h
    . rw [xQ] at h; exact wpAny_eqBool_str h
 «strs» := fun k x t v h => by
  rcases a7 h with ⟨i, u, rfl, e⟩ | ⟨y, u, rfl, e⟩
  . exact nomatch e
  . injection e with e1 _
    subst e1
    cases v <;> rfl
theorem kC (prog : Program) (w : World) (i : Int) (t : Tok) : (bf prog w).is (.inl i) (.int i t) = true := oh i t
theorem kl (prog : Program) (w : World) (x : Str) (t : Tok) : (bf prog w).is (.inr x) (.str x t) = true := ou x t
inductive V where
 | bG | bl (b : Bool) | int (i : Int) | str (x : Str) | tJ (b : Array UInt8) | Ai (b : UInt64) | ref (a : Addr) | ty (n : String)
 deriving DecidableEq
def RelV : V -> Value -> Prop
 | .bG, u => u = Value.none
 | .bl b, u => u = Value.bool b
 | .int i, u => ∃ t, u = Value.int i t
 | .str x, u => ∃ t, u = Value.str x t
 | .tJ b, u => ∃ t, u = Value.bytes b t
 | .Ai b, u => ∃ t, u = Value.float b t
 | .ref a, u => u = Value.ref a
 | .ty n, u => u = Value.type n
abbrev Vals : List V -> List Value -> Prop := Paired RelV
theorem Vals.length {xs : List V} {us : List Value} (r : Vals xs us) : xs.length = us.length := Paired.length r
theorem Vals.get : ∀ {xs : List V} {us : List Value} {i : Nat} {x : V}, Vals xs us -> xs[i]? = some x -> ∃ u, us[i]? = some u /\ RelV x u
 | _, _, _, _, .nil, e => by simp at e
 | _, _, 0, _, .cons r _, e => by simp at e; subst e; exact ⟨_, rfl, r⟩
 | _, _, i + 1, x, .cons _ t, e => by
   obtain ⟨u, h1, h2⟩ := Vals.get (i := i) (x := x) t (by simpa using e)
   exact ⟨u, by simpa using h1, h2⟩
theorem Vals.set {x : V} {u : Value} (r : RelV x u) : ∀ {xs : List V} {us : List Value} (i : Nat), Vals xs us -> Vals (xs.set i x) (us.set i u)
 | _, _, _, .nil => .nil
 | _, _, 0, .cons _ t => .cons r t
 | _, _, i + 1, .cons q t => .cons q (Vals.set r i t)
theorem Vals.append : ∀ {xs ys : List V} {us ws : List Value}, Vals xs us -> Vals ys ws -> Vals (xs ++ ys) (us ++ ws)
 | _, _, _, _, .nil, s => s
 | _, _, _, _, .cons r t, s => .cons r (Vals.append t s)
theorem Vals.take : ∀ {xs : List V} {us : List Value} (n : Nat), Vals xs us -> Vals (xs.take n) (us.take n)
 | _, _, 0, _ => .nil
 | _, _, _ + 1, .nil => .nil
 | _, _, n + 1, .cons r t => .cons r (Vals.take n t)
theorem Vals.drop : ∀ {xs : List V} {us : List Value} (n : Nat), Vals xs us -> Vals (xs.drop n) (us.drop n)
 | _, _, 0, r => r
 | _, _, _ + 1, .nil => .nil
 | _, _, n + 1, .cons _ t => Vals.drop n t
def iR : Option V -> Option Value -> Prop
 | some v, some u => RelV v u
 | none, none => True
 | _, _ => False
def KV {κ : Type} : List (κ × V) -> List (κ × Value) -> Prop := Paired fun (p : κ × V) (q : κ × Value) => p.1 = q.1 /\ RelV p.2 q.2
def kV : Key -> V
 | .inl i => .int i
 | .inr x => .str x
inductive HO where
 | lst (xs : List V)
 | tup (xs : List V)
 | dK (ax : List (Key × V)) | dT (ax : List (List Key × V))
 | set (S : Int -> Bool) (n : Nat)
 | ins (C dx : Addr) (fs : List (Str × V))
 | own (x : Addr)
 | xd (fs : List (Str × V))
 | met (f x : Addr)
 | C2 (lo hi : Int)
 | nM (o : Obj) (u : HO)
 | eO (ps : Array Value)
 | ext (φ : Heap -> Prop)
abbrev Hp := Addr -> Option HO
def upd (H : Hp) (a : Addr) (o : HO) : Hp := fun b => if b = a then some o else H b
theorem aw {H : Hp} {a : Addr} {o : HO} : upd H a o a = some o := by unfold upd; rw [if_pos rfl]
theorem aj {H : Hp} {a b : Addr} {o : HO} (h : b ≠ a) : upd H a o b = H b := by unfold upd; rw [if_neg h]
theorem y7 {H : Hp} {a b : Addr} {o u : HO} (h : H a = some o) (h' : H b = some u) (d : o ≠ u) : a ≠ b := by
 intro e; subst e; rw [h] at h'; exact d (Option.some.inj h')
theorem az {H : Hp} {a b : Addr} {o : HO} (h : H a = some o) (h' : H b = none) : a ≠ b := by
 intro e; subst e; rw [h] at h'; cases h'
section
variable (P : Program) (w : World)
def bx (H : Hp) (h : Heap) (a : Addr) : HO -> Prop
 | .lst xs => xs.length <= sizeLine /\ ∃ (au : List Value) (n : Nat), Vals xs au /\ h.get? a = some { cls := .type "list", data := .seq au.toArray n }
 | .tup xs => xs.length <= sizeLine /\ ∃ au : List Value, Vals xs au /\ IsTup h a au.toArray
 | .dK ax => ax.length <= sizeLine /\ (a == sysModules) = false /\ ∃ vs, KV ax vs /\ h.DictOf (bf P w) a vs
 | .dT ax => ax.length <= sizeLine /\ (a == sysModules) = false /\ ∃ xs : List (List Key × Addr × Value),
  Paired (fun (p : List Key × V) (q : List Key × Addr × Value) => p.1 = q.1 /\ H q.2.1 = some (.tup (p.1.map kV)) /\ RelV p.2 q.2.2) ax xs /\
  ∃ o es ep, h.get? a = some o /\ o.ExactDict /\ o.data = .dict es ep /\ es.toList = xs.map (entryOfKey (tupleKind (bf P w))) /\ (xs.map (·.1)).Nodup
 | .set S n => h.SetOf (intKind P w) a S n
 | .ins C dx fs => H dx = some (.own a) /\ fs.length <= 1000 /\ dx ≠ a /\ h.get? a = some (PySem.W.instObj C dx) /\
  ∃ mA, h.Ns1 dx mA /\ (∀ f, iR (fs.lookup f) (mA f)) /\ PySem.Within mA (fs.map (·.1))
 | .own _ => ∃ o, h.get? a = some o
 | .xd fs => ∃ mA, h.Ns1 a mA /\ ∀ f, iR (fs.lookup f) (mA f)
 | .C2 lo hi => ∃ t u v, h.get? a = some { cls := .type "range", data := .fields #[.int lo t, .int hi u, .int 1 v] }
 | .nM o u => h.get? a = some o /\ bx H h a u
 | .eO ps => h.get? a = some { cls := .none, data := .fields ps }
 | .met f x => h.get? a = some (PySem.W.methodObj (.ref f) (.ref x))
 | .ext φ => φ h /\ (∃ o, h.get? a = some o) /\ ∀ h1 h2 : Heap, φ h1 -> (∀ o, h1.get? a = some o -> h2.get? a = some o) -> φ h2
def fc (H : Hp) (h : Heap) : Prop := ∀ a o, H a = some o -> bx P w H h a o
end
section
variable {P : Program} {w : World} {H H' : Hp} {h h' : Heap} {a : Addr} {o : HO}
theorem bx.lt (x : bx P w H h a o) : a < h.objs.size := by
 cases o with
 | lst xs => obtain ⟨_, _, _, _, e⟩ := x; exact Heap.lt_size e
 | tup xs => obtain ⟨_, _, _, p⟩ := x; exact p.lt
 | dK ax => obtain ⟨_, _, _, _, o, _, _, e, _⟩ := x; exact Heap.lt_size e
 | dT ax => obtain ⟨_, _, _, _, o, _, _, e, _⟩ := x; exact Heap.lt_size e
 | set S n => obtain ⟨o, _, _, _, e, _⟩ := x; exact Heap.lt_size e
 | ins C dx fs => obtain ⟨_, _, _, e, _⟩ := x; exact Heap.lt_size e
 | own y => obtain ⟨_, e⟩ := x; exact Heap.lt_size e
 | xd fs => obtain ⟨_, ⟨_, _, _, e, _⟩, _⟩ := x; exact Heap.lt_size e
 | C2 lo hi => obtain ⟨_, _, _, e⟩ := x; exact Heap.lt_size e
 | nM ob u => obtain ⟨e, _⟩ := x; exact Heap.lt_size e
 | eO ps => exact Heap.lt_size (show h.get? a = some _ from x)
 | met f y => exact Heap.lt_size (show h.get? a = some _ from x)
 | ext φ => obtain ⟨_, ⟨_, e⟩, _⟩ := x; exact Heap.lt_size e
theorem Paired.wL {α β : Type} {F G : α -> β -> Prop} : ∀ {l₁ : List α} {l₂ : List β}, Paired F l₁ l₂ -> (∀ a b, F a b -> G a b) -> Paired G l₁ l₂
 | _, _, .nil, _ => .nil
 | _, _, .cons r t, f => .cons (f _ _ r) (Paired.wL t f)
theorem bx.jP (x : bx P w H h a o) (k : ∀ b u, (b = a \/ H b = some (.own a)) -> h.get? b = some u -> h'.get? b = some u)
 (ho : ∀ b, H b = some (.own a) -> H' b = some (.own a)) (ht : ∀ b xs, H b = some (.tup xs) -> H' b = some (.tup xs)) : bx P w H' h' a o := by
 induction o with
 | lst xs => obtain ⟨z, au, n, r, e⟩ := x; exact ⟨z, au, n, r, k _ _ (.inl rfl) e⟩
 | tup xs => obtain ⟨z, au, r, ob, e, c⟩ := x; exact ⟨z, au, r, ob, k _ _ (.inl rfl) e, c⟩
 | dK ax => obtain ⟨z, y, vs, r, ob, es, ep, e, c⟩ := x; exact ⟨z, y, vs, r, ob, es, ep, k _ _ (.inl rfl) e, c⟩
 | dT ax =>
   obtain ⟨z, y, xs, r, ob, es, ep, e, c⟩ := x
   exact ⟨z, y, xs, Paired.wL r fun p q z => ⟨z.1, ht _ _ z.2.1, z.2.2⟩, ob, es, ep, k _ _ (.inl rfl) e, c⟩
 | set S n => obtain ⟨ob, es, ep, t, e, c⟩ := x; exact ⟨ob, es, ep, t, k _ _ (.inl rfl) e, c⟩
 | ins C dx fs =>
   obtain ⟨d, z, ne, e, mA, ⟨od, es, ep, e2, c⟩, r⟩ := x
   exact ⟨ho _ d, z, ne, k _ _ (.inl rfl) e, mA, ⟨od, es, ep, k _ _ (.inr d) e2, c⟩, r⟩
 | own y => obtain ⟨ob, e⟩ := x; exact ⟨ob, k _ _ (.inl rfl) e⟩
 | xd fs => obtain ⟨mA, ⟨od, es, ep, e, c⟩, r⟩ := x; exact ⟨mA, ⟨od, es, ep, k _ _ (.inl rfl) e, c⟩, r⟩
 | C2 lo hi => obtain ⟨t, u, v, e⟩ := x; exact ⟨t, u, v, k _ _ (.inl rfl) e⟩
 | nM ob u ih => obtain ⟨e, q⟩ := x; exact ⟨k _ _ (.inl rfl) e, ih q⟩
 | eO ps =>
   have e : h.get? a = some { cls := .none, data := .fields ps } := x
   show h'.get? a = some { cls := .none, data := .fields ps }
   exact k a _ (.inl rfl) e
 | met f y =>
   have e : h.get? a = some (PySem.W.methodObj (.ref f) (.ref y)) := x
   show h'.get? a = some (PySem.W.methodObj (.ref f) (.ref y))
   exact k a _ (.inl rfl) e
 | ext φ => obtain ⟨p, ⟨o, e⟩, st⟩ := x; exact ⟨st _ _ p fun o q => k _ _ (.inl rfl) q, ⟨o, k _ _ (.inl rfl) e⟩, st⟩
theorem fc.lt (x : fc P w H h) (e : H a = some o) : a < h.objs.size := (x a o e).lt
theorem fc.fresh (x : fc P w H h) (e : h.objs.size <= a) : H a = none := by
 cases q : H a with
 | none => rfl
 | some u => exact absurd (Nat.lt_of_lt_of_le (x.lt q) e) (Nat.lt_irrefl _)
theorem fc.kept (x : fc P w H h) (k : ∀ b u, h.get? b = some u -> h'.get? b = some u) : fc P w H h' := fun a o e =>
 (x a o e).jP (fun b u _ q => k b u q) (fun _ q => q) fun _ _ q => q
theorem fc.laid (x : fc P w H h) (k : ∀ b u, h.get? b = some u -> h'.get? b = some u) (hp : h.objs.size <= a) (new : bx P w (upd H a o) h' a o) : fc P w (upd H a o) h' := fun b u e => by
 have hn := x.fresh hp
 by_cases hb : b = a
 . subst hb; rw [aw] at e; cases e; exact new
 . rw [aj hb] at e
   exact (x b u e).jP (fun c v _ q => k c v q) (fun c q => by rw [aj (az q hn)]; exact q) fun c xs q => by rw [aj (az q hn)]; exact q
end
def Rd (H : Hp) (a : Addr) (u : HO) : Prop := H a = some u \/ ∃ o, H a = some (.nM o u)
theorem Rd.of {H : Hp} {a : Addr} {u : HO} (h : H a = some u) : Rd H a u := .inl h
theorem Rd.ok {P : Program} {w : World} {H : Hp} {h : Heap} {a : Addr} {u : HO} (r : Rd H a u) (x : fc P w H h) : bx P w H h a u := by
 rcases r with r | ⟨o, r⟩
 . exact x a u r
 . obtain ⟨_, q⟩ := x a _ r
   exact q
def zc : Option HO -> Prop
 | some (.lst _) => True
 | some (.dK _) => True
 | some (.dT _) => True
 | some (.set _ _) => True
 | some (.ins _ _ _) => True
 | some (.ext _) => True
 | _ => False
section
variable {P : Program} {w : World} {H : Hp} {h h' : Heap} {x e : Addr} {o' : HO}
theorem fc.write (ok : fc P w H h) (mu : zc (H x)) (he : e = x \/ H e = some (.own x)) (k : ∀ b u, b ≠ e -> h.get? b = some u -> h'.get? b = some u) (vC : ∃ u, h'.get? e = some u)
 (new : bx P w (upd H x o') h' x o') : fc P w (upd H x o') h' := fun b u q => by
 have zA : ∀ c y, H c = some (.own y) -> c ≠ x := fun c y r z => by subst z; rw [r] at mu; exact mu
 have Cw : ∀ c xs, H c = some (.tup xs) -> c ≠ x := fun c xs r z => by subst z; rw [r] at mu; exact mu
 by_cases hb : b = x
 . subst hb; rw [aw] at q; cases q; exact new
 . rw [aj hb] at q
   by_cases wo : b = e
   . have q' : H b = some (.own x) := by
      rcases he with z | z
      . exact absurd (wo.trans z) hb
      . rw [wo]; exact z
     rw [q] at q'; cases q'
     obtain ⟨v, hv⟩ := vC
     exact ⟨v, by rw [wo]; exact hv⟩
   . refine (ok b u q).jP (fun c v hc r => k c v ?_ r) (fun c r => by rw [aj (zA c b r)]; exact r) fun c xs r => by rw [aj (Cw c xs r)]; exact r
     rcases hc with rfl | hc
     . exact wo
     . rintro rfl
       rcases he with z | z
       . exact zA c b hc z
       . rw [hc] at z; cases z; exact hb rfl
end
structure Un (fs ex : List Addr) (H H' : Hp) (h h' : Heap) : Prop where
 keep : ∀ b o, h.get? b = some o -> H b = none -> b ∉ fs -> b ∉ ex -> h'.get? b = some o
 slot : ∀ b o, h.get? b = some o -> H b = none -> b ∈ fs -> b ∉ ex -> ∃ sl, h'.get? b = some { o with slots := sl }
 free : ∀ b o, h.get? b = some o -> H b = none -> b ∉ ex -> H' b = none
 there : ∀ b o, h.get? b = some o -> b ∉ ex -> ∃ o', h'.get? b = some o'
 gI : ∀ b xs, H b = some (.tup xs) -> H' b = some (.tup xs)
 fW : ∀ b o u, H b = some (.nM o u) -> H' b = some (.nM o u)
 gU : ∀ b ps, H b = some (.eO ps) -> ∃ more, H' b = some (.eO (ps ++ more))
section
variable {fs F3 ex Ip : List Addr} {H H1 H2 : Hp} {h h1 h2 h' : Heap} {a x e : Addr} {o : HO}
theorem Un.any (u : Un fs ex H H1 h h1) {b : Addr} {ob : Obj} (q : h.get? b = some ob) (n : H b = none) (hx : b ∉ ex) : ∃ sl, h1.get? b = some { ob with slots := sl } := by
 by_cases hb : b ∈ fs
 . exact u.slot b ob q n hb hx
 . exact ⟨ob.slots, u.keep b ob q n hb hx⟩
theorem Un.kept (k : ∀ b u, h.get? b = some u -> h'.get? b = some u) : Un fs ex H H h h' :=
 ⟨fun b ob q _ _ _ => k b ob q, fun b ob q _ _ _ => ⟨ob.slots, k b ob q⟩, fun _ _ _ n _ => n, fun b ob q _ => ⟨ob, k b ob q⟩, fun _ _ q => q, fun _ _ _ q => q, fun _ ps q => ⟨#[], by rw [q]; simp⟩⟩
theorem Un.refl : Un fs ex H H h h := Un.kept fun _ _ q => q
theorem Un.laid (k : ∀ b u, h.get? b = some u -> h'.get? b = some u) (hp : h.objs.size <= a) (hn : H a = none) : Un fs ex H (upd H a o) h h' where
 keep := fun b u q _ _ _ => k b u q
 slot := fun b u q _ _ _ => ⟨u.slots, k b u q⟩
 free := fun b u q n _ => by rw [aj (Nat.ne_of_lt (Nat.lt_of_lt_of_le (Heap.lt_size q) hp))]; exact n
 there := fun b u q _ => ⟨u, k b u q⟩
 gI := fun b xs q => by rw [aj (az q hn)]; exact q
 fW := fun b u xs q => by rw [aj (az q hn)]; exact q
 gU := fun b ps q => ⟨#[], by rw [aj (az q hn), q]; simp⟩
theorem Un.write (mu : zc (H x)) (he : e = x \/ H e = some (.own x)) (k : ∀ b u, b ≠ e -> h.get? b = some u -> h'.get? b = some u) (vC : ∃ u, h'.get? e = some u) : Un fs ex H (upd H x o) h h' := by
 have hx : ∀ b, H b = none -> b ≠ x := fun b n z => by subst z; rw [n] at mu; exact mu
 have hb : ∀ b, H b = none -> b ≠ e := fun b n z => by
  subst z
  rcases he with r | r
  . exact hx b n r
  . rw [n] at r; cases r
 have hm : ∀ b u, H b = some u -> ¬ zc (some u) -> b ≠ x := fun b u q nm z => by subst z; rw [q] at mu; exact nm mu
 refine ⟨fun b u q n _ _ => k b u (hb b n) q, fun b u q n _ _ => ⟨u.slots, k b u (hb b n) q⟩, fun b u q n _ => by rw [aj (hx b n)]; exact n, fun b u q _ => ?_,
  fun b xs q => by rw [aj (hm b _ q fun z => z)]; exact q, fun b u xs q => by rw [aj (hm b _ q fun z => z)]; exact q, fun b ps q => ⟨#[], by rw [aj (hm b _ q fun z => z), q]; simp⟩⟩
 by_cases wo : b = e
 . subst wo; exact vC
 . exact ⟨u, k b u wo q⟩
end
def Bw (h : Heap) (H : Hp) : List Addr := (List.range h.objs.size).filter fun a => (H a).isSome
def iU (h : Heap) (H : Hp) : Heap := PySem.W.hideAll h (Bw h H)
theorem px (h : Heap) (H : Hp) : (iU h H).objs.size = h.objs.size := PySem.W.hideAll_size _ _
theorem rS {h : Heap} {H : Hp} {b : Addr} {o : Obj} (e : h.get? b = some o) (n : H b = none) : (iU h H).get? b = some o :=
 PySem.W.hideAll_get _ e fun hm => by
  have q : (H b).isSome = true := (List.mem_filter.mp hm).2
  rw [n] at q; simp at q
theorem ux {h : Heap} {H : Hp} {b : Addr} {o : Obj} (e : (iU h H).get? b = some o) : h.get? b = some o /\ H b = none := by
 have e' : h.get? b = some o := PySem.W.of_hideAll (Bw h H) e
 refine ⟨e', ?_⟩
 cases q : H b with
 | none => rfl
 | some x =>
   have hm : b ∈ Bw h H := List.mem_filter.mpr ⟨List.mem_range.mpr (Heap.lt_size e'), by simp [q]⟩
   have z : (iU h H).get? b = none := PySem.W.hideAll_none (Bw h H) hm
   rw [z] at e; cases e
def sG (g h : Heap) (L : Addr) : List (Addr × Obj) := (List.range h.objs.size).filterMap fun a => if a = L \/ (g.get? a).isSome = true then none else (h.get? a).map fun o => (a, o)
def rest (g h : Heap) (L d : Addr) : List (Addr × Obj) := (sG g h L).filter fun p => decide (p.1 ≠ d)
structure Mod (K : PySem.W.Frag) (mg : Str -> Option Value) (base : Heap) : Prop where
 Dr : K.In base
 glob : base.Ns mainGlobals mg
 blt : ∃ mb, base.Ns builtinsNs mb /\ ∀ x : Str, x ≠ "__name__" -> mb x = bootBuiltins x
 nolimit : base.NoLimit
structure Cx where
 prog : Program
 w : World
 K : PySem.W.Frag
 mg : Str -> Option Value
 base : Heap
 A : Around
 N : List Str
 bN : Shared
 ow : Hp
 env : Env
 outer : List Env
 stack : List Env
 ex : List Addr
 fn : Str -> Bool
 calm : Bool
 pn : List (Addr × Obj)
 xe : Value -> Shared -> Prop
def k6 (l : List Env) : List Addr := l.filterMap (·.frame)
abbrev Cx.fs (X : Cx) : List Addr := k6 X.outer
def yQ (sc : Scope) (x : Str) : Prop := sc.names.lookup x = some .local \/ sc.names.lookup x = some .cell \/ sc.names.lookup x = some .free
def Loc (sc : Scope) (x : Str) : Prop := sc.names.lookup x = some .local \/ sc.names.lookup x = some .cell
def Look (env : Env) (h : Heap) (m : Str -> Option Value) (x : Str) (u : Value) : Prop :=
 (env.kindOf x = some .local /\ m x = some u) \/ ((env.kindOf x = some .cell \/ env.kindOf x = some .free) /\ ∃ c, env.cells.lookup x = some c /\ h.IsCell c (some u))
structure Cx.Ok (X : Cx) : Prop where
 mod : Mod X.K X.mg X.base
 kind : X.env.scope.kind = .function
 glob : X.env.globals = mainGlobals
 blt : X.env.builtins = builtinsNs
 above : X.bN.heap.objs.size <= X.env.locals
 inj : ∀ x y c, X.env.cells.lookup x = some c -> X.env.cells.lookup y = some c -> x = y
 has : ∀ x, (X.env.kindOf x = some .cell \/ X.env.kindOf x = some .free) -> ∃ c, X.env.cells.lookup x = some c
 yO : ∀ x c, X.fn x = true -> X.env.cells.lookup x = some c -> X.bN.heap.objs.size <= c
 hd : X.calm = true -> X.A.handled = none
 frames : X.A.frames = some X.stack
 zE : X.stack = X.outer \/ (X.stack = X.env :: X.outer /\ X.env.frame = some X.env.locals)
 Ao : ∀ b ∈ X.ex, b ≠ X.env.locals /\ ∀ x c, X.env.cells.lookup x = some c -> c ≠ b
 bs : ∀ b o, X.base.get? b = some o -> X.bN.heap.get? b = some o /\ X.ow b = none
 qg : X.base.objs.size <= X.bN.heap.objs.size
 o1 : ∀ b o, X.base.get? b = some o -> b ∉ X.ex
 nZ : ∀ b ∈ X.ex, b ∉ X.fs
 fJ : X.bN.heap.FunFrames X.base X.outer
 uw : ∀ b ∈ X.fs, X.ow b = none
structure Inv (X : Cx) (pins : List (Addr × Obj)) (σ : List (Option V)) (H : Hp) (s : Shared) : Prop where
 ok : X.Ok
 os : s.os = X.bN.os
 bare : AllBare s.gens
 base : Un X.fs X.ex X.ow H X.bN.heap s.heap
 loc : ∃ m, s.heap.Ns X.env.locals m /\ ∀ (i : Nat) (x : Str) (v : V), X.N[i]? = some x -> σ[i]? = some (some v) -> yQ X.env.scope x -> ∃ u, RelV v u /\ Look X.env s.heap m x u
 cell : ∀ x c, X.env.cells.lookup x = some c -> ∃ v, s.heap.IsCell c v
 free : H X.env.locals = none
 c9 : ∀ x c, X.env.cells.lookup x = some c -> H c = none
 pin : ∀ p ∈ X.pn ++ pins, s.heap.get? p.1 = some p.2 /\ H p.1 = none /\ p.1 ≠ X.env.locals /\ p.1 ∉ X.fs /\ ∀ v, p.2.data ≠ .cell v
 aL : fc X.prog X.w H s.heap
 len : σ.length = X.N.length
section
variable {X : Cx} {pins : List (Addr × Obj)} {σ : List (Option V)} {H H' : Hp} {s : Shared} {h' : Heap}
theorem Cx.Ok.Cv (ok : X.Ok) {b : Addr} {o : Obj} (e : X.base.get? b = some o) : b ∉ X.fs := fun hb => by
 have := (ok.fJ.mem hb).1
 rw [e] at this; cases this
theorem Inv.bs (I : Inv X pins σ H s) : ∀ b o, X.base.get? b = some o -> s.heap.get? b = some o /\ H b = none := fun b o e =>
 ⟨I.base.keep b o (I.ok.bs b o e).1 (I.ok.bs b o e).2 (I.ok.Cv e) (I.ok.o1 b o e), I.base.free b o (I.ok.bs b o e).1 (I.ok.bs b o e).2 (I.ok.o1 b o e)⟩
theorem Inv.bk (I : Inv X pins σ H s) : ∀ b o, X.base.get? b = some o -> s.heap.get? b = some o := fun b o e => (I.bs b o e).1
theorem Inv.mod (I : Inv X pins σ H s) : Mod X.K X.mg X.base := I.ok.mod
theorem Inv.vS (I : Inv X pins σ H s) : X.K.In s.heap := I.ok.mod.Dr.keeps I.bk
theorem Inv.nolimit (I : Inv X pins σ H s) : s.heap.NoLimit := I.ok.mod.nolimit.keeps I.bk
theorem Inv.lt (I : Inv X pins σ H s) : X.env.locals < s.heap.objs.size := let ⟨_, hn, _⟩ := I.loc; hn.lt
theorem Inv.sz (I : Inv X pins σ H s) : X.bN.heap.objs.size <= s.heap.objs.size := Nat.le_trans I.ok.above (Nat.le_of_lt I.lt)
theorem Inv.AI (I : Inv X pins σ H s) {a : Addr} (h : s.heap.objs.size <= a) : a ∉ X.fs := fun hb => by
 obtain ⟨_, o, ho, _⟩ := I.ok.fJ.mem hb
 exact absurd (Nat.lt_of_lt_of_le (Heap.lt_size ho) (Nat.le_trans I.sz h)) (Nat.lt_irrefl _)
theorem Inv.xY (I : Inv X pins σ H s) : ∀ x c, X.env.cells.lookup x = some c -> c ≠ X.env.locals := fun x c e z => by
 obtain ⟨v, o, ho, hd⟩ := I.cell x c e
 obtain ⟨m, ⟨o', es, ep, oV, iI, _⟩, _⟩ := I.loc
 rw [z, oV] at ho; cases ho; rw [iI] at hd; cases hd
theorem Inv.fJ (I : Inv X pins σ H s) : s.heap.FunFrames X.base X.outer := by
 have all : ∀ (l : List Env), (∀ b ∈ k6 l, b ∈ X.fs) -> X.bN.heap.FunFrames X.base l -> s.heap.FunFrames X.base l := by
  intro l
  induction l with
  | nil => intro _ _; trivial
  | cons env r ih =>
    intro hs hl
    obtain ⟨hk, ⟨L, o, hf, hn, ho, hd⟩, hr⟩ := hl
    have hL : L ∈ X.fs := hs L (by unfold k6; rw [List.filterMap_cons, hf]; exact List.mem_cons_self)
    obtain ⟨sl, e⟩ := I.base.slot L o ho (I.ok.uw L hL) hL fun z => I.ok.nZ L z hL
    exact ⟨hk, ⟨L, _, hf, hn, e, hd⟩, ih (fun b hb => hs b (by unfold k6; rw [List.filterMap_cons, hf]; exact List.mem_cons_of_mem _ hb)) hr⟩
 exact all X.outer (fun _ hb => hb) I.ok.fJ
theorem Inv.stack (I : Inv X pins σ H s) : s.heap.FunFrames X.base X.stack := by
 rcases I.ok.zE with e | ⟨e, hf⟩
 . rw [e]; exact I.fJ
 . rw [e]
   obtain ⟨m, hn, _⟩ := I.loc
   refine .cons (by rw [I.ok.kind]; decide) hf hn ?_ I.fJ
   exact Heap.get?_none_of_le (Nat.le_trans I.ok.qg I.ok.above)
theorem Inv.mJ (I : Inv X pins σ H s) : ∀ b ∈ k6 X.stack, b ∈ X.env.locals :: X.fs := fun b hb => by
 rcases I.ok.zE with e | ⟨e, hf⟩
 . rw [e] at hb; exact List.mem_cons_of_mem _ hb
 . rw [e] at hb
   unfold k6 at hb
   rw [List.filterMap_cons, hf] at hb
   exact hb
theorem Inv.nD (I : Inv X pins σ H s) : ∀ b ∈ k6 X.stack, H b = none := fun b hb => by
 rcases List.mem_cons.mp (I.mJ b hb) with e | hb
 . rw [e]; exact I.free
 . obtain ⟨_, o, ho, _⟩ := I.ok.fJ.mem hb
   exact I.base.free b o ho (I.ok.uw b hb) fun z => I.ok.nZ b z hb
theorem Inv.step {g' : Array GenState} {t' : Nat} {d' : Drawn} {ch : List Addr} (I : Inv X pins σ H s)
 (o6 : ∀ b ∈ ch, (b ∈ X.ex \/ X.bN.heap.objs.size <= b) /\ b ≠ X.env.locals /\ (∀ x c, X.env.cells.lookup x = some c -> c ≠ b) /\ ∀ p ∈ X.pn ++ pins, p.1 ≠ b)
 (keep : ∀ b o, b ≠ X.env.locals -> b ∉ X.fs -> b ∉ ch -> s.heap.get? b = some o -> H b = none -> h'.get? b = some o)
 (slot : ∀ b o, b ≠ X.env.locals -> b ∈ X.fs -> b ∉ ch -> s.heap.get? b = some o -> H b = none -> ∃ sl, h'.get? b = some { o with slots := sl }) (free : ∀ b o, b ∉ ch -> s.heap.get? b = some o -> H b = none -> H' b = none)
 (there : ∀ b o, b ∉ ch -> s.heap.get? b = some o -> ∃ o', h'.get? b = some o')
 (gI : ∀ b xs, H b = some (.tup xs) -> H' b = some (.tup xs)) (fW : ∀ b o u, H b = some (.nM o u) -> H' b = some (.nM o u)) (gU : ∀ b ps, H b = some (.eO ps) -> ∃ more, H' b = some (.eO (ps ++ more)))
 (ns : ∀ m, s.heap.Ns X.env.locals m -> h'.Ns X.env.locals m) (aL : fc X.prog X.w H' h') (hg : AllBare g') :
 Inv X pins σ H' { s with heap := h', gens := g', drawn := d', toks := t' } := by
 have yK : ∀ b o, X.bN.heap.get? b = some o -> b ≠ X.env.locals := fun b o e => Nat.ne_of_lt (Nat.lt_of_lt_of_le (Heap.lt_size e) I.ok.above)
 have Bm : ∀ b o, X.bN.heap.get? b = some o -> b ∉ X.ex -> b ∉ ch := fun b o e hx hb => by
  rcases (o6 b hb).1 with z | z
  . exact hx z
  . exact absurd (Nat.lt_of_lt_of_le (Heap.lt_size e) z) (Nat.lt_irrefl _)
 have cellK : ∀ x c, X.env.cells.lookup x = some c -> ∀ v, s.heap.IsCell c v -> h'.IsCell c v := fun x c e v ⟨o, ho, hd⟩ => by
  have zL : c ∉ ch := fun z => (o6 c z).2.2.1 x c e rfl
  by_cases hc : c ∈ X.fs
  . obtain ⟨sl, q⟩ := slot c o (I.xY x c e) hc zL ho (I.c9 x c e)
    exact ⟨_, q, hd⟩
  . exact ⟨o, keep c o (I.xY x c e) hc zL ho (I.c9 x c e), hd⟩
 refine ⟨I.ok, I.os, hg, ⟨fun b o e n hb hx => ?_, fun b o e n hb hx => ?_, fun b o e n hx => ?_, fun b o e hx => ?_, fun b xs e => gI b xs (I.base.gI b xs e), fun b o xs e => fW b o xs (I.base.fW b o xs e), fun b ps e => ?_⟩, ?_, fun x c e => ?_, ?_, fun x c e => ?_, fun p hp => ?_, aL, I.len⟩
 . exact keep b o (yK b o e) hb (Bm b o e hx) (I.base.keep b o e n hb hx) (I.base.free b o e n hx)
 . obtain ⟨sl, e1⟩ := I.base.slot b o e n hb hx
   obtain ⟨Bk, e2⟩ := slot b _ (yK b o e) hb (Bm b o e hx) e1 (I.base.free b o e n hx)
   exact ⟨Bk, e2⟩
 . obtain ⟨o', e1⟩ := I.base.there b o e hx
   exact free b o' (Bm b o e hx) e1 (I.base.free b o e n hx)
 . obtain ⟨o', e1⟩ := I.base.there b o e hx
   exact there b o' (Bm b o e hx) e1
 . obtain ⟨m1, e1⟩ := I.base.gU b ps e
   obtain ⟨m2, e2⟩ := gU b _ e1
   exact ⟨m1 ++ m2, by rw [e2, Array.append_assoc]⟩
 . obtain ⟨m, hn, hl⟩ := I.loc
   refine ⟨m, ns m hn, fun i x v e1 e2 e3 => ?_⟩
   obtain ⟨u, r, l⟩ := hl i x v e1 e2 e3
   refine ⟨u, r, ?_⟩
   rcases l with l | ⟨k, c, e, z⟩
   . exact .inl l
   . exact .inr ⟨k, c, e, cellK x c e _ z⟩
 . obtain ⟨v, z⟩ := I.cell x c e
   exact ⟨v, cellK x c e v z⟩
 . obtain ⟨m, ⟨o, _, _, ho, _⟩, _⟩ := I.loc
   exact free _ o (fun z => (o6 _ z).2.1 rfl) ho I.free
 . obtain ⟨v, o, ho, hd⟩ := I.cell x c e
   exact free c o (fun z => (o6 c z).2.2.1 x c e rfl) ho (I.c9 x c e)
 . obtain ⟨e, n, ne, nf, d⟩ := I.pin p hp
   have zL : p.1 ∉ ch := fun z => (o6 p.1 z).2.2.2 p hp rfl
   exact ⟨keep p.1 p.2 ne nf zL e n, free p.1 p.2 zL e n, ne, nf, d⟩
theorem Inv.un {t' : Nat} (I : Inv X pins σ H s) (u : Un X.fs [] H H' s.heap h') (aL : fc X.prog X.w H' h') : Inv X pins σ H' { s with heap := h', toks := t' } := by
 obtain ⟨m, ⟨o, es, ep, ho, r⟩, _⟩ := id I.loc
 obtain ⟨sl, hL⟩ := u.any ho I.free (by simp)
 exact I.step (g' := s.gens) (d' := s.drawn) (ch := []) (fun _ z => nomatch z) (fun b o _ hb _ e n => u.keep b o e n hb (by simp)) (fun b o _ hb _ e n => u.slot b o e n hb (by simp)) (fun b o _ e n => u.free b o e n (by simp)) (fun b o _ e => u.there b o e (by simp)) u.gI u.fW u.gU (fun m' hm => by
  obtain ⟨o', DZ, DV, oV, r'⟩ := hm
  rw [ho] at oV; cases oV
  exact ⟨_, DZ, DV, hL, r'⟩) aL I.bare
theorem Inv.call {g' : Array GenState} {t' : Nat} {d' : Drawn} {ch : List Addr} (I : Inv X pins σ H s) (u : Un (k6 X.stack) ch H H' s.heap h') (aL : fc X.prog X.w H' h') (hg : AllBare g')
 (o6 : ∀ b ∈ ch, (b ∈ X.ex \/ X.bN.heap.objs.size <= b) /\ b ≠ X.env.locals /\ (∀ x c, X.env.cells.lookup x = some c -> c ≠ b) /\ ∀ p ∈ X.pn ++ pins, p.1 ≠ b) :
 Inv X pins σ H' { s with heap := h', gens := g', drawn := d', toks := t' } := by
 obtain ⟨m, ⟨o, es, ep, ho, r⟩, _⟩ := id I.loc
 obtain ⟨sl, hL⟩ := u.any ho I.free fun z => (o6 _ z).2.1 rfl
 exact I.step (ch := ch) o6 (fun b o hL hb hc e n => u.keep b o e n (fun z => (List.mem_cons.mp (I.mJ b z)).elim hL hb) hc) (fun b o _ _ hc e n => u.any e n hc) (fun b o hc e n => u.free b o e n hc) (fun b o hc e => u.there b o e hc) u.gI u.fW u.gU (fun m' hm => by
  obtain ⟨o', DZ, DV, oV, r'⟩ := hm
  rw [ho] at oV; cases oV
  exact ⟨_, DZ, DV, hL, r'⟩) aL hg
theorem Inv.turned {t' : Nat} {it : Addr} (I : Inv X pins σ H s) (k : ∀ b o, b ≠ it -> s.heap.get? b = some o -> h'.get? b = some o) (hn : H it = none) (hL : it ≠ X.env.locals)
 (h1 : it ∈ X.ex \/ X.bN.heap.objs.size <= it) (h2 : ∀ x c, X.env.cells.lookup x = some c -> c ≠ it) (h3 : ∀ p ∈ X.pn ++ pins, p.1 ≠ it) : Inv X pins σ H { s with heap := h', toks := t' } := by
 have xB : ∀ b u, H b = some u -> b ≠ it := fun b u e z => by rw [z, hn] at e; cases e
 refine I.step (g' := s.gens) (d' := s.drawn) (ch := [it]) (fun b hb => ?_) (fun b o _ _ hc e _ => k b o (fun z => hc (by simp [z])) e) (fun b o _ _ hc e _ => ⟨o.slots, k b o (fun z => hc (by simp [z])) e⟩) (fun _ _ _ _ n => n)
  (fun b o hc e => ⟨o, k b o (fun z => hc (by simp [z])) e⟩) (fun _ _ e => e) (fun _ _ _ e => e) (fun b ps e => ⟨#[], by rw [e]; simp⟩) (fun m hm => ?_) (fun b u e => ?_) I.bare
 . have e : b = it := by simpa using hb
   subst e
   exact ⟨h1, hL, h2, h3⟩
 . obtain ⟨o, es, ep, ho, r⟩ := hm
   exact ⟨o, es, ep, k _ o (Ne.symm hL) ho, r⟩
 . refine (I.aL b u e).jP (fun c v hc q => k c v ?_ q) (fun _ q => q) fun _ _ q => q
   rcases hc with z | z
   . rw [z]; exact xB b u e
   . exact xB c _ z
theorem Inv.tok (I : Inv X pins σ H s) (t : Nat) : Inv X pins σ H { s with toks := t } := I.un (h' := s.heap) (t' := t) Un.refl I.aL
theorem Inv.kept {t' : Nat} (I : Inv X pins σ H s) (k : ∀ b u, s.heap.get? b = some u -> h'.get? b = some u) : Inv X pins σ H { s with heap := h', toks := t' } := I.un (Un.kept k) (I.aL.kept k)
theorem Inv.laid {a : Addr} {o : HO} {t' : Nat} (I : Inv X pins σ H s) (k : ∀ b u, s.heap.get? b = some u -> h'.get? b = some u) (hp : s.heap.objs.size <= a) (new : bx X.prog X.w (upd H a o) h' a o) :
 Inv X pins σ (upd H a o) { s with heap := h', toks := t' } := I.un (Un.laid k hp (I.aL.fresh hp)) (I.aL.laid k hp new)
theorem Inv.write {x e : Addr} {o : HO} {t' : Nat} (I : Inv X pins σ H s) (mu : zc (H x)) (he : e = x \/ H e = some (.own x)) (k : ∀ b u, b ≠ e -> s.heap.get? b = some u -> h'.get? b = some u) (vC : ∃ u, h'.get? e = some u)
 (new : bx X.prog X.w (upd H x o) h' x o) : Inv X pins σ (upd H x o) { s with heap := h', toks := t' } := I.un (Un.write mu he k vC) (I.aL.write mu he k vC new)
theorem Inv.weak {σ' : List (Option V)} (I : Inv X pins σ H s) (hl : σ'.length = σ.length) (w : ∀ (i : Nat) v, σ'[i]? = some (some v) -> σ[i]? = some (some v)) : Inv X pins σ' H s :=
 ⟨I.ok, I.os, I.bare, I.base, let ⟨m, hn, oW⟩ := I.loc; ⟨m, hn, fun i x v e1 e2 e3 => oW i x v e1 (w i v e2) e3⟩, I.cell, I.free, I.c9, I.pin, I.aL, hl.trans I.len⟩
theorem Inv.cX {u0 : List (Addr × Obj)} (I : Inv X pins σ H s) (h : ∀ p ∈ u0, s.heap.get? p.1 = some p.2 /\ H p.1 = none /\ p.1 ≠ X.env.locals /\ p.1 ∉ X.fs /\ ∀ v, p.2.data ≠ .cell v) : Inv X u0 σ H s :=
 ⟨I.ok, I.os, I.bare, I.base, I.loc, I.cell, I.free, I.c9, fun p hp => (List.mem_append.mp hp).elim (fun z => I.pin p (List.mem_append_left _ z)) (h p), I.aL, I.len⟩
theorem ku {N : List Str} (hN : N.Nodup) {i j : Nat} {x : Str} (a : N[i]? = some x) (b : N[j]? = some x) : i = j := by
 obtain ⟨h1, e1⟩ := List.getElem?_eq_some_iff.mp a
 obtain ⟨h2, e2⟩ := List.getElem?_eq_some_iff.mp b
 exact (List.getElem_inj hN).mp (e1.trans e2.symm)
theorem jl {M : Model} {A : Around} {E : Value -> Shared -> Prop} {i : Nat} {x : Str} {v : V} {u : Value} {Q : Unit -> Shared -> Prop} (I : Inv X pins σ H s) (hN : X.N.Nodup) (hi : X.N[i]? = some x) (hx : Loc X.env.scope x) (r : RelV v u)
 (h : ∀ s', Inv X pins (σ.set i (some v)) H s' -> (∃ a, Heap.SameBut a s.heap s'.heap /\ (a = X.env.locals \/ X.env.cells.lookup x = some a)) -> Q () s') (hf : X.fn x = true \/ X.env.scope.names.lookup x = some .local := by first | exact .inl rfl | exact .inr rfl | assumption) : wpAny M A (storeName X.env x u) Q E s := by
 obtain ⟨m, hn, hl⟩ := id I.loc
 have DB : (X.env.scope.kind == .class || (X.env.scope.kind == .module && X.env.locals != X.env.globals)) = false := by rw [I.ok.kind]; rfl
 have zI : i < σ.length := by rw [I.len]; exact (List.getElem?_eq_some_iff.mp hi).1
 have xY := I.xY
 have tracked : ∀ {a : Addr} {h' : Heap}, (∃ o, s.heap.get? a = some o /\ H a = none) -> Heap.SameBut a s.heap h' -> fc X.prog X.w H h' := fun {a h'} ha hs b ob e => by
  obtain ⟨_, _, vf⟩ := ha
  refine (I.aL b ob e).jP (fun c w' hc q => (hs.2 c ?_).trans q) (fun _ q => q) fun _ _ q => q
  rintro rfl
  rcases hc with rfl | hc
  . rw [vf] at e; cases e
  . rw [vf] at hc; cases hc
 rcases hx with hk | hk
 . refine wpAny_storeName_local hk hn (fun h' yN hs => ?_) DB
   obtain ⟨oL, _, _, mK, _⟩ := id hn
   refine h _ ⟨I.ok, I.os, I.bare, ⟨fun b o e n hb hx => ?_, fun b o e n hb hx => ?_, I.base.free, fun b o e hx => ?_, I.base.gI, I.base.fW, I.base.gU⟩, ⟨_, yN, fun j y v' e1 e2 e3 => ?_⟩, fun y c e => ?_, I.free, I.c9, fun p hp => ?_, tracked ⟨oL, mK, I.free⟩ hs, by simpa using I.len⟩ ⟨_, hs, .inl rfl⟩
   . exact (hs.2 b (Nat.ne_of_lt (Nat.lt_of_lt_of_le (Heap.lt_size e) I.ok.above))).trans (I.base.keep b o e n hb hx)
   . obtain ⟨sl, e1⟩ := I.base.slot b o e n hb hx
     exact ⟨sl, (hs.2 b (Nat.ne_of_lt (Nat.lt_of_lt_of_le (Heap.lt_size e) I.ok.above))).trans e1⟩
   . obtain ⟨o', e1⟩ := I.base.there b o e hx
     exact ⟨o', (hs.2 b (Nat.ne_of_lt (Nat.lt_of_lt_of_le (Heap.lt_size e) I.ok.above))).trans e1⟩
   . by_cases hj : j = i
     . subst hj
       rw [hi] at e1; cases e1
       rw [List.getElem?_set_self zI] at e2
       cases e2
       exact ⟨u, r, .inl ⟨hk, by simp⟩⟩
     . rw [List.getElem?_set_ne (Ne.symm hj)] at e2
       obtain ⟨u', r', q⟩ := hl j y v' e1 e2 e3
       refine ⟨u', r', ?_⟩
       rcases q with ⟨k, e⟩ | ⟨k, c, e, z⟩
       . refine .inl ⟨k, ?_⟩
         have : y ≠ x := fun e => hj (ku hN e1 (e ▸ hi))
         simp [this, e]
       . exact .inr ⟨k, c, e, z.sameBut hs (xY y c e)⟩
   . obtain ⟨w', z⟩ := I.cell y c e
     exact ⟨w', z.sameBut hs (xY y c e)⟩
   . obtain ⟨e, n, ne, nf, d⟩ := I.pin p hp
     exact ⟨(hs.2 p.1 ne).trans e, n, ne, nf, d⟩
 . have Ca : X.fn x = true := by
    rcases hf with z | z
    . exact z
    . rw [z] at hk; cases hk
   obtain ⟨c, hc⟩ := I.ok.has x (.inl hk)
   obtain ⟨w', z⟩ := I.cell x c hc
   refine wpAny_storeName_cell I.ok.kind hk hc z (fun h' pJ hs => ?_)
   obtain ⟨oc, Fg, DN⟩ := id z
   refine h { s with heap := h' } ⟨I.ok, I.os, I.bare, ⟨fun b o e n hb hx => ?_, fun b o e n hb hx => ?_, I.base.free, fun b o e hx => ?_, I.base.gI, I.base.fW, I.base.gU⟩, ⟨m, hn.sameBut hs (Ne.symm (xY x c hc)), fun j y v' e1 e2 e3 => ?_⟩, fun y c' e => ?_, I.free, I.c9, fun p hp => ?_, tracked ⟨oc, Fg, I.c9 x c hc⟩ hs, by simpa using I.len⟩ ⟨c, hs, .inr hc⟩
   . exact (hs.2 b (Nat.ne_of_lt (Nat.lt_of_lt_of_le (Heap.lt_size e) (I.ok.yO x c Ca hc)))).trans (I.base.keep b o e n hb hx)
   . obtain ⟨sl, e1⟩ := I.base.slot b o e n hb hx
     exact ⟨sl, (hs.2 b (Nat.ne_of_lt (Nat.lt_of_lt_of_le (Heap.lt_size e) (I.ok.yO x c Ca hc)))).trans e1⟩
   . obtain ⟨o', e1⟩ := I.base.there b o e hx
     exact ⟨o', (hs.2 b (Nat.ne_of_lt (Nat.lt_of_lt_of_le (Heap.lt_size e) (I.ok.yO x c Ca hc)))).trans e1⟩
   . by_cases hj : j = i
     . subst hj
       rw [hi] at e1; cases e1
       rw [List.getElem?_set_self zI] at e2
       cases e2
       exact ⟨u, r, .inr ⟨.inl hk, c, hc, pJ⟩⟩
     . rw [List.getElem?_set_ne (Ne.symm hj)] at e2
       obtain ⟨u', r', q⟩ := hl j y v' e1 e2 e3
       refine ⟨u', r', ?_⟩
       rcases q with q | ⟨k, c', e, z'⟩
       . exact .inl q
       . refine .inr ⟨k, c', e, z'.sameBut hs ?_⟩
         rintro rfl
         exact hj (ku hN e1 (I.ok.inj _ _ _ e hc ▸ hi))
   . by_cases nY : c' = c
     . subst nY; exact ⟨_, pJ⟩
     . obtain ⟨w2, z2⟩ := I.cell y c' e
       exact ⟨w2, z2.sameBut hs nY⟩
   . obtain ⟨e, n, ne, nf, d⟩ := I.pin p hp
     refine ⟨(hs.2 p.1 ?_).trans e, n, ne, nf, d⟩
     intro q
     rw [q, Fg] at e
     have q' : oc = p.2 := Option.some.inj e
     exact d w' (by rw [<- q']; exact DN)
theorem kq {M : Model} {A : Around} {E : Value -> Shared -> Prop} {i : Nat} {x : Str} {v : V} {u : Value} {Q : Unit -> Shared -> Prop} (I : Inv X pins σ H s) (hN : X.N.Nodup) (hi : X.N[i]? = some x) (hx : Loc X.env.scope x) (r : RelV v u)
 (h : ∀ s', Inv X pins (σ.set i (some v)) H s' -> Q () s') (hf : X.fn x = true \/ X.env.scope.names.lookup x = some .local := by first | exact .inl rfl | exact .inr rfl | assumption) : wpAny M A (storeName X.env x u) Q E s :=
 jl I hN hi hx r (fun s' I' _ => h s' I') hf
theorem Inv.y8 {s' : Shared} {ch : List Addr} (I : Inv X pins σ H s) (ho : s'.os = s.os) (u : Un (k6 X.stack) ch H H' s.heap s'.heap) (aL : fc X.prog X.w H' s'.heap) (hg : AllBare s'.gens)
 (o6 : ∀ b ∈ ch, (b ∈ X.ex \/ X.bN.heap.objs.size <= b) /\ b ≠ X.env.locals /\ (∀ x c, X.env.cells.lookup x = some c -> c ≠ b) /\ ∀ p ∈ X.pn ++ pins, p.1 ≠ b) : Inv X pins σ H' s' := by
 obtain ⟨h', g', d', t', o'⟩ := s'
 have e : o' = s.os := ho
 subst e
 exact I.call (g' := g') (t' := t') (d' := d') u aL hg o6
end
abbrev XK := Value -> Option Addr -> Hp -> Prop
abbrev St := List (Option V)
abbrev VK := V -> Hp -> Prop
abbrev TE := St -> Hp -> VK -> Prop
abbrev TT := St -> Hp -> (Bool -> Hp -> Prop) -> Prop
abbrev TA := St -> Hp -> (List V -> Hp -> Prop) -> Prop
structure Ends where
 nx : St -> Hp -> Prop
 rt : VK
 bk : St -> Hp -> Prop := fun _ _ => False
 ct : St -> Hp -> Prop := fun _ _ => False
abbrev TS := Ends -> St -> Hp -> Prop
def EP (X : Cx) (pins : List (Addr × Obj)) (σ : St) (Q : VK) (u : Value) (s' : Shared) : Prop := ∃ v H', Inv X pins σ H' s' /\ RelV v u /\ Q v H'
def TP (X : Cx) (pins : List (Addr × Obj)) (σ : St) (Q : Bool -> Hp -> Prop) (b : Bool) (s' : Shared) : Prop := ∃ H', Inv X pins σ H' s' /\ Q b H'
def AP (X : Cx) (pins : List (Addr × Obj)) (σ : St) (Q : List V -> Hp -> Prop) (us : List Value) (s' : Shared) : Prop := ∃ vs H', Inv X pins σ H' s' /\ Vals vs us /\ Q vs H'
def SP (X : Cx) (pins : List (Addr × Obj)) (D : Ends) (f : Flow) (s' : Shared) : Prop :=
 match f with
 | .next => ∃ σ' H', Inv X pins σ' H' s' /\ D.nx σ' H'
 | .brk => ∃ σ' H', Inv X pins σ' H' s' /\ D.bk σ' H'
 | .cont => ∃ σ' H', Inv X pins σ' H' s' /\ D.ct σ' H'
 | .ret u => ∃ v σ' H', Inv X pins σ' H' s' /\ RelV v u /\ D.rt v H'
def PE (X : Cx) (e : Expr) (t : TE) : Prop :=
 ∀ (pins : List (Addr × Obj)) (s : Shared) (σ : St) (H : Hp) (Q : VK), Inv X pins σ H s -> t σ H Q -> wpAny (model X.prog X.w) X.A (eval e X.env) (EP X pins σ Q) X.xe s
def PT (X : Cx) (e : Expr) (t : TT) : Prop :=
 ∀ (pins : List (Addr × Obj)) (s : Shared) (σ : St) (H : Hp) (Q : Bool -> Hp -> Prop), Inv X pins σ H s -> t σ H Q -> wpAny (model X.prog X.w) X.A (isTrue e X.env (eval e X.env)) (TP X pins σ Q) X.xe s
def PA (X : Cx) (es : List Expr) (t : TA) : Prop :=
 ∀ (pos : Pos) (pins : List (Addr × Obj)) (s : Shared) (σ : St) (H : Hp) (Q : List V -> Hp -> Prop), Inv X pins σ H s -> t σ H Q -> wpAny (model X.prog X.w) X.A (spliced (backTo pos (starEach es X.env))) (AP X pins σ Q) X.xe s
def PS (X : Cx) (st : Stmt) (t : TS) : Prop :=
 ∀ (pins : List (Addr × Obj)) (s : Shared) (σ : St) (H : Hp) (D : Ends), Inv X pins σ H s -> t D σ H -> wpAny (model X.prog X.w) X.A (exec st X.env) (SP X pins D) X.xe s
def k7 (X : Cx) (st : List Stmt) (t : TS) : Prop :=
 ∀ (pins : List (Addr × Obj)) (s : Shared) (σ : St) (H : Hp) (D : Ends), Inv X pins σ H s -> t D σ H -> wpAny (model X.prog X.w) X.A (execs st X.env) (SP X pins D) X.xe s
theorem bu {α : Type} {t : Sem α} {Q Q' : α -> Shared -> Prop} {M : Model} {A : Around} {E : Value -> Shared -> Prop} {s : Shared} (h : wpAny M A t Q E s) (hQ : ∀ a s, Q a s -> Q' a s) : wpAny M A t Q' E s := wpAny_mono h hQ fun _ _ x => x
section
variable {X : Cx}
def vX (i : Nat) : TE := fun σ H Q => ∃ v, σ[i]? = some (some v) /\ Q v H
def tC (v : V) : TE := fun _ H Q => Q v H
theorem vR {i : Nat} {x : Str} {pos : Pos} (hN : X.N[i]? = some x) (hv : yQ X.env.scope x) (hd : (x == ("__debug__" : Str)) = false := by decide) (iP : (x == ("__classdict__" : Str)) = false := by decide) : PE X (.Name x pos) (vX i) := by
 intro pins s σ H Q I h
 obtain ⟨v, e, h⟩ := h
 obtain ⟨m, hn, hl⟩ := I.loc
 obtain ⟨u, r, l⟩ := hl i x v hN e hv
 have fin : EP X pins σ Q u s := ⟨v, H, I, r, h⟩
 rcases l with ⟨hk, hm⟩ | ⟨hk, c, hc, ju⟩
 . exact wpAny_Name (wpAny_loadName_local I.ok.kind hk hn hm fin) hd
 . rcases hk with hk | hk
   . exact wpAny_Name (wpAny_loadName_cell I.ok.kind hk hc ju fin) hd
   . exact wpAny_Name (wpAny_loadName_free I.ok.kind hk hc ju fin iP) hd
theorem ae {i j pos} : PE X (.Constant (.int i) j pos) (tC (.int i)) := fun _ _ _ H _ I h => wpAny_Constant_int ⟨.int i, H, I.tok _, ⟨_, rfl⟩, h⟩
theorem vJ {b j pos} : PE X (.Constant (.bool b) j pos) (tC (.bl b)) := fun _ _ _ H _ I h => Constant_bool ⟨.bl b, H, I, rfl, h⟩
theorem yf {j pos} : PE X (.Constant .none j pos) (tC .bG) := fun _ _ _ H _ I h => Constant_none ⟨.bG, H, I, rfl, h⟩
theorem rk {x j pos} : PE X (.Constant (.str x) j pos) (tC (.str x)) := fun _ _ _ H _ I h => Calls.Constant_str ⟨.str x, H, I.tok _, ⟨_, rfl⟩, h⟩
def Gl (X : Cx) (x : Str) : Prop := X.env.kindOf x = some .globalImplicit
theorem mX {E : Value -> Shared -> Prop} {pins : List (Addr × Obj)} {s : Shared} {σ : St} {H : Hp} {x : Str} {u : Value} {pos : Pos} {Q : Value -> Shared -> Prop} (I : Inv X pins σ H s) (hg : Gl X x) (hm : X.mg x = some u) (h : Q u s)
 (hd : (x == ("__debug__" : Str)) = false := by decide) : wpAny (model X.prog X.w) X.A (eval (.Name x pos) X.env) Q E s :=
 Calls.Name_function_global I.ok.kind hg (Calls.loadGlobal_global (by rw [I.ok.glob]; exact I.mod.glob.keeps I.bk) hm h) hd
theorem cN {E : Value -> Shared -> Prop} {pins : List (Addr × Obj)} {s : Shared} {σ : St} {H : Hp} {x : Str} {u : Value} {pos : Pos} {Q : Value -> Shared -> Prop} (I : Inv X pins σ H s) (hg : Gl X x) (hm : X.mg x = none) (hv : bootBuiltins x = some u) (h : Q u s)
 (hn : x ≠ "__name__" := by decide) (hd : (x == ("__debug__" : Str)) = false := by decide) : wpAny (model X.prog X.w) X.A (eval (.Name x pos) X.env) Q E s := by
 obtain ⟨mb, h1, h2⟩ := I.mod.blt
 exact Calls.Name_function_global I.ok.kind hg (Calls.loadGlobal_builtin (by rw [I.ok.glob]; exact I.mod.glob.keeps I.bk) hm (by rw [I.ok.blt]; exact h1.keeps I.bk) ((h2 x hn).trans hv) h) hd
theorem sS {x : Str} {v : V} {u : Value} {pos : Pos} (hg : Gl X x) (hm : X.mg x = some u) (r : RelV v u) (hd : (x == ("__debug__" : Str)) = false := by decide) : PE X (.Name x pos) (tC v) :=
 fun _ _ _ H _ I h => mX I hg hm ⟨v, H, I, r, h⟩ hd
variable {a b : Expr} {ta tb : TE} {pos : Pos}
variable {tA Ii : TT} {rest : List Expr}
end
def bF (K : PySem.W.Frag) (H : Hp) (a : Addr) (xs : List V) : Prop :=
 Rd H a (.lst xs) \/
  ∃ (o : Obj) (au : Array Value) (n : Nat), K.lookup a = some o /\ o.cls = .type "list" /\ o.dict = none /\ o.data = .seq au n /\ au.size <= sizeLine /\ Vals xs au.toList
def n5 (K : PySem.W.Frag) (H : Hp) (a : Addr) (xs : List V) : Prop :=
 Rd H a (.tup xs) \/
  ∃ (o : Obj) (au : Array Value) (n : Nat), K.lookup a = some o /\ o.cls = .type "tuple" /\ o.data = .seq au n /\ au.size <= sizeLine /\ Vals xs au.toList
def CK : Value -> Option V
 | .none => some .bG
 | .bool b => some (.bl b)
 | .int i _ => some (.int i)
 | .str x _ => some (.str x)
 | .bytes b _ => some (.tJ b)
 | .float b _ => some (.Ai b)
 | .ref a => some (.ref a)
 | .type n => some (.ty n)
 | _ => none
theorem RelV.abs {x : V} {u : Value} (r : RelV x u) : CK u = some x := by
 cases x with
 | bG => cases r; rfl
 | bl _ => cases r; rfl
 | int _ => obtain ⟨t, rfl⟩ := r; rfl
 | str _ => obtain ⟨t, rfl⟩ := r; rfl
 | tJ _ => obtain ⟨t, rfl⟩ := r; rfl
 | Ai _ => obtain ⟨t, rfl⟩ := r; rfl
 | ref _ => cases r; rfl
 | ty _ => cases r; rfl
theorem RelV.inj {x y : V} {u : Value} (r : RelV x u) (q : RelV y u) : x = y := Option.some.inj (r.abs.symm.trans q.abs)
theorem Vals.inj : ∀ {xs ys : List V} {us : List Value}, Vals xs us -> Vals ys us -> xs = ys
 | _, _, _, .nil, .nil => rfl
 | _, _, _, .cons r t, .cons r' t' => by rw [r.inj r', Vals.inj t t']
section
variable {X : Cx} {pins : List (Addr × Obj)} {σ : St} {H : Hp} {s : Shared} {a : Addr} {xs ys : List V}
theorem bF.of {K : PySem.W.Frag} (h : H a = some (.lst xs)) : bF K H a xs := .inl (.inl h)
theorem n5.of {K : PySem.W.Frag} (h : H a = some (.tup xs)) : n5 K H a xs := .inl (.inl h)
theorem Inv.list (I : Inv X pins σ H s) (h : bF X.K H a xs) : ∃ au : List Value, Vals xs au /\ PlainL s.heap a au.toArray /\ xs.length <= sizeLine := by
 rcases h with h | ⟨o, au, n, hk, hc, hd, hs, hz, r⟩
 . obtain ⟨z, au, n, r, e⟩ := h.ok I.aL
   exact ⟨au, r, ⟨_, n, e, rfl, rfl, rfl⟩, z⟩
 . refine ⟨au.toList, r, ⟨o, n, I.vS a o hk, hc, hd, by simpa using hs⟩, ?_⟩
   have e := r.length
   simp only [Array.length_toList] at e
   omega
theorem Inv.tuple (I : Inv X pins σ H s) (h : n5 X.K H a xs) : ∃ au : List Value, Vals xs au /\ IsTup s.heap a au.toArray /\ xs.length <= sizeLine := by
 rcases h with h | ⟨o, au, n, hk, hc, hs, hz, r⟩
 . obtain ⟨z, au, r, p⟩ := h.ok I.aL
   exact ⟨au, r, p, z⟩
 . refine ⟨au.toList, r, ⟨o, I.vS a o hk, hc, n, by simpa using hs⟩, ?_⟩
   have e := r.length
   simp only [Array.length_toList] at e
   omega
theorem Inv.kZ (I : Inv X pins σ H s) (h : bF X.K H a xs) (h' : bF X.K H a ys) : xs = ys := by
 obtain ⟨au, r, ⟨o, n, e, _, _, d⟩, _⟩ := I.list h
 obtain ⟨its', r', ⟨o', n', e', _, _, d'⟩, _⟩ := I.list h'
 rw [e] at e'; cases e'
 rw [d] at d'
 injection d' with d1 _
 have : au = its' := by simpa using congrArg Array.toList d1
 subst this
 exact r.inj r'
end
abbrev Cx.iQ (X : Cx) (E : Value -> Shared -> Prop) : Cx := { X with xe := E }
abbrev Cx.yP (X : Cx) : Cx := X.iQ fun _ _ => False
theorem Cx.Ok.iQ {X : Cx} (ok : X.Ok) (E : Value -> Shared -> Prop) : (X.iQ E).Ok :=
 ⟨ok.mod, ok.kind, ok.glob, ok.blt, ok.above, ok.inj, ok.has, ok.yO, ok.hd, ok.frames, ok.zE, ok.Ao, ok.bs, ok.qg, ok.o1, ok.nZ, ok.fJ, ok.uw⟩
theorem Cx.Ok.d7 {X : Cx} {E : Value -> Shared -> Prop} (ok : (X.iQ E).Ok) : X.Ok :=
 ⟨ok.mod, ok.kind, ok.glob, ok.blt, ok.above, ok.inj, ok.has, ok.yO, ok.hd, ok.frames, ok.zE, ok.Ao, ok.bs, ok.qg, ok.o1, ok.nZ, ok.fJ, ok.uw⟩
section
variable {X : Cx} {pins : List (Addr × Obj)} {σ : St} {H : Hp} {s : Shared} {E : Value -> Shared -> Prop}
theorem Inv.iQ (I : Inv X pins σ H s) (E : Value -> Shared -> Prop) : Inv (X.iQ E) pins σ H s := ⟨I.ok.iQ E, I.os, I.bare, I.base, I.loc, I.cell, I.free, I.c9, I.pin, I.aL, I.len⟩
theorem Inv.d7 (I : Inv (X.iQ E) pins σ H s) : Inv X pins σ H s := ⟨I.ok.d7, I.os, I.bare, I.base, I.loc, I.cell, I.free, I.c9, I.pin, I.aL, I.len⟩
theorem SP.d7 {D : Ends} {f : Flow} {s' : Shared} (h : SP (X.iQ E) pins D f s') : SP X pins D f s' := by
 cases f with
 | next => obtain ⟨σ', H', I, q⟩ := h; exact ⟨σ', H', I.d7, q⟩
 | brk => obtain ⟨σ', H', I, q⟩ := h; exact ⟨σ', H', I.d7, q⟩
 | cont => obtain ⟨σ', H', I, q⟩ := h; exact ⟨σ', H', I.d7, q⟩
 | ret u => obtain ⟨v, σ', H', I, r, q⟩ := h; exact ⟨v, σ', H', I.d7, r, q⟩
theorem k7.yP {st : List Stmt} {t : TS} (h : k7 X.yP st t) : k7 X st t := fun pins s σ H D I hw =>
 wpAny_mono (h pins s σ H D (I.iQ _) hw) (fun _ _ q => q.d7) fun _ _ z => False.elim z
end
section
variable {X : Cx} {st : Stmt} {rest : List Stmt} {t u : TS} {e : Expr} {te : TE} {pos : Pos}
def va : TS := fun D σ H => D.nx σ H
theorem bP : k7 X [] va := fun _ _ σ H _ I h => wpAny_execs_nil ⟨σ, H, I, h⟩
theorem ay (h1 : PS X st t) : k7 X [st] t := by
 intro pins s σ H D I h
 refine wpAny_execs_cons (bu (h1 pins s σ H D I h) fun f s1 q => ?_)
 cases f with
 | next => exact wpAny_execs_nil q
 | ret v => exact q
 | brk => exact q
 | cont => exact q
theorem Inv.quiet {pins : List (Addr × Obj)} {σ : St} {H : Hp} {s : Shared} (I : Inv X pins σ H s) : interactive X.env = false := by simp [interactive, I.ok.kind]
def uU (te : TE) : TS := fun D σ H => te σ H fun _ H1 => D.nx σ H1
theorem jW (he : PE X e te) (hs : swapsWith e none pos.line X.env = pure false := by rfl) : PS X (.Expr e pos) (uU te) := by
 intro pins s σ H D I h
 exact wpAny_Expr_any (bu (he pins s σ H _ I h) fun v s1 ⟨x, H1, I1, r1, q1⟩ => ⟨σ, H1, I1, q1⟩) I.quiet hs
def Al (te : TE) : TS := fun D σ H => te σ H D.rt
theorem bh (he : PE X e te) : PS X (.Return (some e) pos) (Al te) := by
 intro pins s σ H D I h
 exact wpAny_Return_some (bu (he pins s σ H _ I h) fun v s1 ⟨x, H1, I1, r1, q1⟩ => ⟨x, σ, H1, I1, r1, q1⟩)
def Ax (c : TT) (t u : TS) : TS := fun D σ H => c σ H fun b H1 => if b = true then t D σ H1 else u D σ H1
theorem d0 {c : Expr} {a b : List Stmt} {tc : TT} (hc : PT X c tc) (ha : k7 X a t) (hb : k7 X b u) : PS X (.If c a b pos) (Ax tc t u) := by
 intro pins s σ H D I h
 refine wpAny_If (bu (hc pins s σ H _ I h) fun d s1 ⟨H1, I1, q1⟩ => ?_)
 cases d with
 | true => exact ha pins s1 σ H1 D I1 q1
 | false => exact hb pins s1 σ H1 D I1 q1
end
abbrev TG := V -> St -> Hp -> (St -> Hp -> Prop) -> Prop
abbrev pQ := List V -> St -> Hp -> (St -> Hp -> Prop) -> Prop
def PG (X : Cx) (target : Expr) (t : TG) : Prop :=
 ∀ (pins : List (Addr × Obj)) (s : Shared) (σ : St) (H : Hp) (v : V) (u : Value) (Q : St -> Hp -> Prop), Inv X pins σ H s -> RelV v u -> t v σ H Q ->
   wpAny (model X.prog X.w) X.A (assign target X.env u) (fun _ s' => ∃ σ' H', Inv X pins σ' H' s' /\ Q σ' H') X.xe s
def yW (X : Cx) (ts : List Expr) (t : pQ) : Prop :=
 ∀ (pins : List (Addr × Obj)) (s : Shared) (σ : St) (H : Hp) (vs : List V) (us : List Value) (Q : St -> Hp -> Prop), Inv X pins σ H s -> Vals vs us -> t vs σ H Q ->
   wpAny (model X.prog X.w) X.A (assignInOrder ((assignEach ts X.env).map (·.2)) us) (fun _ s' => ∃ σ' H', Inv X pins σ' H' s' /\ Q σ' H') X.xe s
abbrev sI := V -> V -> V -> Hp -> (Hp -> Prop) -> Prop
def zJ (X : Cx) (t : sI) : Prop :=
 ∀ (pins : List (Addr × Obj)) (s : Shared) (σ : St) (H : Hp) (o i v : V) (ov iv u : Value) (Q : Hp -> Prop), Inv X pins σ H s -> RelV o ov -> RelV i iv -> RelV v u -> t o i v H Q ->
   wpAny (model X.prog X.w) X.A (setItem ov iv u) (fun _ s' => ∃ H', Inv X pins σ H' s' /\ Q H') X.xe s
section
variable {X : Cx} {pos : Pos}
def dA (i : Nat) : TG := fun v σ H Q => Q (σ.set i (some v)) H
theorem aF {i : Nat} {x : Str} (hN : X.N.Nodup) (hi : X.N[i]? = some x) (hx : Loc X.env.scope x) (hf : X.fn x = true \/ X.env.scope.names.lookup x = some .local := by first | exact .inl rfl | exact .inr rfl | assumption) : PG X (.Name x pos) (dA i) := by
 intro pins s σ H v u Q I r h
 exact wpAny_assign_Name (kq I hN hi hx r (fun s' I' => ⟨_, H, I', h⟩) hf)
def tT : pQ := fun vs σ H Q => vs = [] /\ Q σ H
def gs (t : TG) (u : pQ) : pQ := fun vs σ H Q => ∃ v r, vs = v :: r /\ t v σ H fun σ' H' => u r σ' H' Q
theorem gP : yW X [] tT := by
 intro pins s σ H vs us Q I r h
 obtain ⟨e, h⟩ := h
 subst e
 cases r
 exact assignInOrder_nil ⟨σ, H, I, h⟩
theorem a8 {e : Expr} {es : List Expr} {t : TG} {u : pQ} (h1 : PG X e t) (h2 : yW X es u)
 (hs : (assignEach (e :: es) X.env).map (·.2) = assign e X.env :: (assignEach es X.env).map (·.2) := by rfl) : yW X (e :: es) (gs t u) := by
 intro pins s σ H vs us Q I r h
 obtain ⟨v, vr, e1, h⟩ := h
 subst e1
 cases r with
 | cons r rr =>
   rw [hs]
   refine assignInOrder_cons (bu (h1 pins s σ H _ _ _ I r h) fun _ s1 ⟨σ1, H1, I1, q1⟩ => ?_)
   exact h2 pins s1 σ1 H1 _ _ Q I1 rr q1
def qN (K : PySem.W.Frag) (n : Nat) (t : pQ) : TG := fun v σ H Q => ∃ a xs, v = .ref a /\ n5 K H a xs /\ xs.length = n /\ t xs σ H Q
theorem mH {es : List Expr} {k : Nat} {t : pQ} {n : Nat} (hc : X.calm = true) (h : yW X es t)
 (hn : (assignEach es X.env).length = n := by rfl) (pX : (assignEach es X.env).findIdx? (·.1) = none := by rfl) : PG X (.Tuple es k pos) (qN X.K n t) := by
 intro pins s σ H v u Q I r hw
 obtain ⟨a, xs, e1, hq, hl, hw⟩ := hw
 subst e1
 cases r
 obtain ⟨au, rv, ht, hz⟩ := I.tuple hq
 refine assign_Tuple_tuple (I.ok.hd hc) ht (by simp [hn, <- hl, rv.length]) pX fun h' hx => ?_
 have I1 : Inv X pins σ H { s with heap := h' } := I.kept (t' := s.toks) fun b o e => hx b o (Nat.ne_of_lt (Heap.lt_size e)) e
 exact h pins _ σ H xs _ Q I1 (by simpa using rv) hw
def zh (to ti : TE) (t : sI) : TG := fun v σ H Q => to σ H fun o H1 => ti σ H1 fun i H2 => t o i v H2 fun H3 => Q σ H3
theorem qj {o i : Expr} {to ti : TE} {t : sI} (ho : PE X o to) (hi : PE X i ti) (hs : zJ X t)
 (ha : ∀ v, assign (.Subscript o i pos) X.env v = (do
  let ov <- holding [v] (eval o X.env)
  let iv <- holding [v, ov] (eval i X.env)
  standAt pos
  holding [v, ov, iv] (setItem ov iv v)
  release [v, ov, iv] []) := by intro _; rfl) : PG X (.Subscript o i pos) (zh to ti t) := by
 intro pins s σ H v u Q I r h
 rw [ha]
 refine wpAny_bind (wpAny_holding (bu (ho pins s σ H _ I h) fun ov s1 ⟨x, H1, I1, r1, q1⟩ => ?_))
 refine wpAny_bind (wpAny_holding (bu (hi pins s1 σ H1 _ I1 q1) fun iv s2 ⟨y, H2, I2, r2, q2⟩ => ?_))
 refine wpAny_bind (wpAny_standAt (wpAny_bind (wpAny_holding (bu (hs pins s2 σ H2 x y v ov iv u _ I2 r1 r2 r q2) fun _ s3 ⟨H3, I3, q3⟩ => ?_))))
 exact wpAny_release ⟨σ, H3, I3, q3⟩
def pW (te : TE) (g : TG) : TS := fun D σ H => te σ H fun x H1 => g x σ H1 D.nx
theorem qq {tg e : Expr} {te : TE} {g : TG} (he : PE X e te) (hg : PG X tg g) (hs : swapsWithSole [tg] e pos.line X.env = pure false := by rfl) (hw : swappedStores [tg] e X.env = pure none := by rfl)
 (h1 : (assignEach [tg] X.env).map (·.2) = [assign tg X.env] := by rfl) : PS X (.Assign [tg] e pos) (pW te g) := by
 intro pins s σ H D I h
 refine wpAny_Assign_stores (bu (he pins s σ H _ I h) fun v s1 ⟨x, H1, I1, r1, q1⟩ => ?_) hs hw
 rw [h1]
 exact bu (hg pins s1 σ H1 x v _ I1 r1 q1) fun _ s2 q => q
theorem aE {i : Nat} {x : Str} {e : Expr} {te : TE} {pos' : Pos} (hN : X.N.Nodup) (hi : X.N[i]? = some x) (hx : Loc X.env.scope x) (he : PE X e te) (hs : swapsWith e (some (.Name x pos')) pos.line X.env = pure false := by rfl) (hf : X.fn x = true \/ X.env.scope.names.lookup x = some .local := by first | exact .inl rfl | exact .inr rfl | assumption) :
 PS X (.Assign [.Name x pos'] e pos) (pW te (dA i)) := by
 intro pins s σ H D I h
 refine wpAny_Assign_Name (bu (he pins s σ H _ I h) fun v s1 ⟨y, H1, I1, r1, q1⟩ => ?_) hs
 exact kq I1 hN hi hx r1 (fun s2 I2 => ⟨_, H1, I2, q1⟩) hf
end
section
variable {X : Cx} {pos : Pos}
def rR (c : TT) (tb : TS) : TS := fun D σ H => ∃ W : Nat -> St -> Hp -> Prop, (∃ m, W m σ H) /\ ∀ m σ H, W m σ H ->
 c σ H fun b H1 => if b = true then ∃ N : St -> Hp -> Prop, (∀ σ' H', N σ' H' -> ∃ m', m' < m /\ W m' σ' H') /\ tb { D with nx := N, ct := N, bk := D.nx } σ H1 else D.nx σ H1
theorem rU {c : Expr} {body : List Stmt} {tc : TT} {tb : TS} (hp : PassesOwn (model X.prog X.w) X.A X.env X.xe) (hc : PT X c tc) (hb : k7 X body tb) : PS X (.While c body [] pos) (rR tc tb) := by
 intro pins s σ H D I h
 obtain ⟨W, ⟨m0, w0⟩, turn⟩ := h
 refine wpAny_While (codeAny_whileLoop (fun n s' => ∃ σ' H', Inv X pins σ' H' s' /\ W n σ' H') ?_ m0 ⟨σ, H, I, w0⟩)
 rintro n s1 ⟨σ1, H1, I1, w1⟩
 refine wpAny_passesOwn hp (bu (hc pins s1 σ1 H1 _ I1 (turn n σ1 H1 w1)) fun b s2 ⟨H2, I2, q2⟩ => ?_)
 cases b with
 | true =>
   obtain ⟨N, hN, q2⟩ := q2
   rw [if_pos rfl]
   refine wpAny_passesOwn hp (bu (hb pins s2 σ1 H2 _ I2 q2) fun f s3 q3 => ?_)
   cases f with
   | next =>
     obtain ⟨σ3, H3, I3, n3⟩ := q3
     obtain ⟨m', hm, w3⟩ := hN σ3 H3 n3
     exact ⟨m', hm, σ3, H3, I3, w3⟩
   | cont =>
     obtain ⟨σ3, H3, I3, n3⟩ := q3
     obtain ⟨m', hm, w3⟩ := hN σ3 H3 n3
     exact ⟨m', hm, σ3, H3, I3, w3⟩
   | brk => exact q3
   | ret v => exact q3
 | false =>
   rw [if_neg Bool.false_ne_true]
   exact wpAny_execs_nil ⟨σ1, H2, I2, q2⟩
end
structure It where
 go : Nat -> Hp -> Prop
 xO : Nat -> Hp -> V -> Hp -> Prop
 stop : Nat -> Hp -> Prop
def bL (X : Cx) (pins : List (Addr × Obj)) (H : Hp) (b : Addr) : Prop :=
 H b = none /\ b ≠ X.env.locals /\ b ∉ X.fs /\ (b ∈ X.ex \/ X.bN.heap.objs.size <= b) /\ (∀ x c, X.env.cells.lookup x = some c -> c ≠ b) /\ ∀ p ∈ X.pn ++ pins, p.1 ≠ b
theorem Inv.fH {X : Cx} {pins : List (Addr × Obj)} {σ : St} {H H' : Hp} {s : Shared} {b : Addr} (I : Inv X pins σ H s) (hb : s.heap.objs.size <= b) (hn : H' b = none) : bL X pins H' b := by
 refine ⟨hn, Nat.ne_of_gt (Nat.lt_of_lt_of_le I.lt hb), I.AI hb, .inr (Nat.le_trans I.sz hb), fun x c e z => ?_, fun p hp z => ?_⟩
 . obtain ⟨v, q⟩ := I.cell x c e
   exact absurd (Nat.lt_of_lt_of_le q.lt (by rw [z]; exact hb)) (Nat.lt_irrefl _)
 . exact absurd (Nat.lt_of_lt_of_le (Heap.lt_size (I.pin p hp).1) (by rw [z]; exact hb)) (Nat.lt_irrefl _)
structure Turn (P : Program) (w : World) (K : PySem.W.Frag) (tg : Expr) (J : It) (fp : List Addr) (it : Addr) (tn : Nat -> Heap -> Prop) : Prop where
 mem : it ∈ fp
 obj : ∀ i h, tn i h -> ∀ b ∈ fp, ∃ o, h.get? b = some o /\ ∀ v, o.data ≠ .cell v
 keep : ∀ i h h', tn i h -> (∀ b ∈ fp, ∀ o, h.get? b = some o -> h'.get? b = some o) -> tn i h'
 item : ∀ (X : Cx), X.prog = P -> X.w = w -> X.K = K -> X.calm = true -> ∀ (i : Nat) (pins : List (Addr × Obj)) (s : Shared) (σ : St) (H : Hp) (E : Value -> Shared -> Prop), Inv X pins σ H s -> (∀ b ∈ fp, bL X pins H b) -> tn i s.heap -> J.go i H ->
  wpAny (model P w) X.A (pyNext (.ref it)) (fun r s1 => ∃ u, r = some u /\
   wpAny (model P w) X.A (letOwnedTupleGo tg (.ref it) u) (fun _ s2 => ∃ x H', Inv X pins σ H' s2 /\ RelV x u /\ J.xO i H x H' /\ tn (i + 1) s2.heap /\ ∀ b ∈ fp, H' b = none) E s1) E s
 done : ∀ (X : Cx), X.prog = P -> X.w = w -> X.K = K -> X.calm = true -> ∀ (i : Nat) (pins : List (Addr × Obj)) (s : Shared) (σ : St) (H : Hp) (E : Value -> Shared -> Prop), Inv X pins σ H s -> (∀ b ∈ fp, bL X pins H b) -> tn i s.heap -> J.stop i H ->
  wpAny (model P w) X.A (pyNext (.ref it)) (fun r s1 => r = none /\ Inv X pins σ H s1) E s
 self : ∀ (A : Around) (i : Nat) (s : Shared) (Q : Value -> Shared -> Prop) (E : Value -> Shared -> Prop), tn i s.heap -> Q (.ref it) s -> wpAny (model P w) A (pyIter (.ref it)) Q E s
abbrev TI := St -> Hp -> (It -> Hp -> Prop) -> Prop
def Ey (X : Cx) (pins : List (Addr × Obj)) (σ : St) (tg : Expr) (R : It -> Hp -> Prop) (Bl : Value) (s2 : Shared) : Prop :=
 ∃ (it : Addr) (fp : List Addr) (tn : Nat -> Heap -> Prop) (J : It) (H' : Hp), Bl = .ref it /\ Inv X pins σ H' s2 /\ Turn X.prog X.w X.K tg J fp it tn /\ tn 0 s2.heap /\ (∀ b ∈ fp, bL X pins H' b) /\ R J H'
def PI (X : Cx) (tg iter : Expr) (wi : TI) : Prop :=
 ∀ (pins : List (Addr × Obj)) (s : Shared) (σ : St) (H : Hp) (R : It -> Hp -> Prop), Inv X pins σ H s -> wi σ H R ->
   wpAny (model X.prog X.w) X.A (eval iter X.env) (fun v s1 => wpAny (model X.prog X.w) X.A (pyIter v) (Ey X pins σ tg R) X.xe s1) X.xe s
theorem u9 {M : Model} {A : Around} {E : Value -> Shared -> Prop} {s : Shared} {tg : Expr} {it : Addr} {u : Value} {o : Obj} {n : String} {vs : Array Value} {Q : Unit -> Shared -> Prop} (ho : s.heap.get? it = some o) (hc : o.cls = .type n) (hd : o.data = .fields vs)
 (hn : ["enumerate", "zip", "dict_itemiterator", "dict_reverseitemiterator", "odict_iterator", "itertools.zip_longest", "itertools.pairwise"].contains n = false) (hQ : Q () s) : wpAny M A (letOwnedTupleGo tg (.ref it) u) Q E s := by
 unfold letOwnedTupleGo
 cases tg <;> first
  | exact wpAny_pure hQ
  | (cases u <;> first
   | exact wpAny_pure hQ
   | (refine wpAny_bind (wpAny_load ho ?_)
      rw [hc, hd]
      show wpAny M A (if (["enumerate", "zip", "dict_itemiterator", "dict_reverseitemiterator", "odict_iterator", "itertools.zip_longest", "itertools.pairwise"].contains n && vs[0]? == some (rawInt _)) = true then _ else _) Q E s
      rw [if_neg (by intro h; rw [hn, Bool.false_and] at h; cases h)]
      exact wpAny_pure hQ))
def qo (K : PySem.W.Frag) (a : Addr) : It :=
 ⟨fun i H => ∃ xs x, bF K H a xs /\ xs[i]? = some x, fun i H x H' => H' = H /\ ∀ xs, bF K H a xs -> xs[i]? = some x, fun i H => ∃ xs, bF K H a xs /\ xs.length <= i⟩
def uK (lo : Int) (n : Nat) : It := ⟨fun i _ => i < n, fun i H x H' => H' = H /\ x = .int (lo + i), fun i _ => n <= i⟩
theorem oE {P : Program} {w : World} {K : PySem.W.Frag} {tg : Expr} (a it : Addr) : Turn P w K tg (qo K a) [it] it (fun i h => h.IsListIter it a i) where
 mem := by simp
 obj := fun i h st b hb => by
  have e : b = it := by simpa using hb
  subst e
  obtain ⟨o, e, c, d⟩ := st
  exact ⟨o, e, fun v z => by rw [d] at z; cases z⟩
 keep := fun i h h' st k => st.at fun o e => k it (by simp) o e
 item := by
  intro X hP hw hK hc i pins s σ H E I hf st hg
  subst hP hw hK
  obtain ⟨xs, x, hq, hx⟩ := hg
  obtain ⟨au, rv, p, hz⟩ := I.list hq
  obtain ⟨u, hu, ru⟩ := rv.get hx
  obtain ⟨f0, f1, f2, f3, f4, f5⟩ := hf it (by simp)
  refine wpAny_pyNext_list_item st p.isList (x := u) (by simpa using hu) fun h' sg sb => ?_
  have I1 : Inv X pins σ H { s with heap := h' } := I.turned (t' := s.toks) (fun b o hb e => (sb.2 b hb).trans e) f0 f1 f3 f4 f5
  obtain ⟨o, e, c, d⟩ := id sg
  exact ⟨u, rfl, u9 (s := { s with heap := h' }) e c d (by decide) ⟨x, H, I1, ru, ⟨rfl, fun ys hy => by rw [I.kZ hy hq]; exact hx⟩, sg, fun b hb => (hf b hb).1⟩⟩
 done := by
  intro X hP hw hK hc i pins s σ H E I hf st hg
  subst hP hw hK
  obtain ⟨xs, hq, hx⟩ := hg
  obtain ⟨au, rv, p, hz⟩ := I.list hq
  obtain ⟨f0, f1, f2, f3, f4, f5⟩ := hf it (by simp)
  have hl := rv.length
  exact wpAny_pyNext_list_end (I.ok.hd hc) st p.isList (by simp; omega) fun h' eb => ⟨rfl, I.turned (t' := s.toks) (fun b o hb e => eb b o hb e) f0 f1 f3 f4 f5⟩
 self := fun _ _ _ _ _ st h => wpAny_pyIter_listiter st h
theorem mz {P : Program} {w : World} {K : PySem.W.Frag} {tg : Expr} (it : Addr) (lo : Int) (n : Nat) : Turn P w K tg (uK lo n) [it] it (fun i h => IsRangeIter h it (lo + (i : Nat) * 1) ((n : Int) - (i : Nat)) 1) where
 mem := by simp
 obj := fun i h st b hb => by
  have e : b = it := by simpa using hb
  subst e
  exact ⟨_, st, fun v z => by
   have z' : Data.fields _ = Data.cell v := z
   cases z'⟩
 keep := fun i h h' st k => k it (by simp) _ st
 item := by
  intro X hP hw hK hc i pins s σ H E I hf st hg
  subst hP hw hK
  obtain ⟨f0, f1, f2, f3, f4, f5⟩ := hf it (by simp)
  have W := Walks.range (prog := X.prog) (w := X.w) (I.ok.hd hc) it lo 1 n
  refine W.item i s _ _ hg st fun v h' tk hv sg kk => ?_
  obtain ⟨t, rfl⟩ := hv
  have I1 : Inv X pins σ H { s with heap := h', toks := tk } := I.turned (fun b o hb e => kk b o (by simpa using hb) e) f0 f1 f3 f4 f5
  refine ⟨_, rfl, u9 (s := { s with heap := h', toks := tk }) (n := "range_iterator") sg rfl rfl (by decide) ⟨.int (lo + i), H, I1, ⟨t, ?_⟩, ⟨rfl, rfl⟩, sg, fun b hb => (hf b hb).1⟩⟩
  rw [Int.mul_one]
 done := by
  intro X hP hw hK hc i pins s σ H E I hf st hg
  subst hP hw hK
  obtain ⟨f0, f1, f2, f3, f4, f5⟩ := hf it (by simp)
  exact wpAny_pyNext_range_end (I.ok.hd hc) st (by have : n <= i := hg; omega) fun h' eb => ⟨rfl, I.turned (t' := s.toks) (fun b o hb e => eb b o hb e) f0 f1 f3 f4 f5⟩
 self := fun _ _ _ _ _ st h => wpAny_pyIter_rangeiter st h
section
variable {X : Cx} {tg : Expr}
def qe (K : PySem.W.Frag) (tl : TE) : TI := fun σ H R => tl σ H fun x H1 => ∃ a, x = .ref a /\ (∃ xs, bF K H1 a xs) /\ R (qo K a) H1
theorem bT {l : Expr} {tl : TE} (hl : PE X l tl) : PI X tg l (qe X.K tl) := by
 intro pins s σ H R I h
 refine bu (hl pins s σ H _ I h) fun v s1 ⟨x, H1, I1, r1, q1⟩ => ?_
 obtain ⟨a, e, ⟨xs, hq⟩, q⟩ := q1
 subst e
 cases r1
 obtain ⟨au, rv, p, hz⟩ := I1.list hq
 refine wpAny_pyIter_list p.isList ?_
 refine ⟨s1.heap.objs.size, [s1.heap.objs.size], _, _, H1, rfl, I1.kept (t' := s1.toks) fun b o e => Heap.get?_push_of_some _ e, oE a _, ⟨_, Heap.get?_push_size _ rfl, rfl, rfl⟩, fun b hb => ?_, q⟩
 have e : b = s1.heap.objs.size := by simpa using hb
 subst e
 exact I1.fH (Nat.le_refl _) (I1.aL.fresh (Nat.le_refl _))
theorem rN {pins : List (Addr × Obj)} {σ : St} {H : Hp} {s : Shared} {R : It -> Hp -> Prop} {E : Value -> Shared -> Prop} {lo hi : Int} {t u v : Tok} {tk : Nat} (I : Inv X pins σ H s) (h1 : -(2 ^ 62) <= lo) (h2 : lo < 2 ^ 62) (h3 : -(2 ^ 62) <= hi) (h4 : hi < 2 ^ 62)
 (q : R (uK lo (hi - lo).toNat) H) : wpAny (model X.prog X.w) X.A (pyIter (.ref s.heap.objs.size)) (Ey X pins σ tg R) E { s with heap := s.heap.push { cls := .type "range", data := .fields #[.int lo t, .int hi u, .int 1 v] }, toks := tk } := by
 refine wpAny_pyIter_range (IsRange.new ..) (small_one h1 h2 h3 h4) ?_
 have I1 : Inv X pins σ H { s with heap := s.heap.push { cls := .type "range", data := .fields #[.int lo t, .int hi u, .int 1 v] }, toks := tk } := I.kept fun b o e => Heap.get?_push_of_some _ e
 refine ⟨(s.heap.push { cls := .type "range", data := .fields #[.int lo t, .int hi u, .int 1 v] }).objs.size, [(s.heap.push { cls := .type "range", data := .fields #[.int lo t, .int hi u, .int 1 v] }).objs.size], _, _, H, rfl,
  I1.kept (t' := tk) fun b o e => Heap.get?_push_of_some _ e, mz _ lo (hi - lo).toNat, ?_, fun b hb => ?_, q⟩
 . have e1 : lo + ((0 : Nat) : Int) * 1 = lo := by simp
   have e2 : (((hi - lo).toNat : Nat) : Int) - ((0 : Nat) : Int) = Builtin.Range.rangeSize lo hi 1 := by rw [rangeSize_one]; split <;> omega
   show IsRangeIter _ _ (lo + ((0 : Nat) : Int) * 1) ((((hi - lo).toNat : Nat) : Int) - ((0 : Nat) : Int)) 1
   rw [e1, e2]
   exact Heap.get?_push_size _ rfl
 . have e : b = (s.heap.push { cls := .type "range", data := .fields #[.int lo t, .int hi u, .int 1 v] }).objs.size := by simpa using hb
   subst e
   exact I1.fH (Nat.le_refl _) (I1.aL.fresh (Nat.le_refl _))
def vH (ta : TA) : TI := fun σ H R => ta σ H fun vs H1 => ∃ j : Int, vs = [.int j] /\ -(2 ^ 62) <= j /\ j < 2 ^ 62 /\ R (uK 0 j.toNat) H1
theorem f9 {a : Expr} {ta : TA} {p pos : Pos} (hg : Gl X "range") (hm : X.mg "range" = none) (ha : PA X [a] ta) (hs : starEach [a] X.env = [(false, eval a X.env)] := by rfl) : PI X tg (.Call (.Name "range" p) [a] [] pos) (vH ta) := by
 intro pins s σ H R I h
 refine Call_ (cN I hg hm boot_range (PyProof.Rows.callWith_type1 (bu (ha pos pins s σ H _ I h) fun us s1 ⟨vs, H1, I1, r1, q1⟩ => ?_) hs rfl))
 obtain ⟨j, e, q1, q2, q⟩ := q1
 subst e
 cases r1 with
 | cons r rr =>
   cases rr
   obtain ⟨t, rfl⟩ := r
   exact call_range_1 (rN I1 (by omega) (by omega) q1 q2 (by simpa using q))
def yc (wi : TI) (g : TG) (tb : TS) : TS := fun D σ H => wi σ H fun J H1 => ∃ W : Nat -> Nat -> St -> Hp -> Prop, (∃ m, W 0 m σ H1) /\ ∀ i m σ H, W i m σ H ->
 (J.stop i H /\ D.nx σ H) \/ (J.go i H /\ ∃ N : St -> Hp -> Prop, (∀ σ' H', N σ' H' -> ∃ m', m' < m /\ W (i + 1) m' σ' H') /\ ∀ x H', J.xO i H x H' -> g x σ H' fun σ2 H2 => tb { D with nx := N, ct := N, bk := D.nx } σ2 H2)
def hZ (fp : List Addr) (h : Heap) : List (Addr × Obj) := fp.filterMap fun b => (h.get? b).map fun o => (b, o)
theorem dJ {fp : List Addr} {h : Heap} {b : Addr} {o : Obj} (hb : b ∈ fp) (e : h.get? b = some o) : (b, o) ∈ hZ fp h := List.mem_filterMap.mpr ⟨b, hb, by rw [e]; rfl⟩
theorem oB {fp : List Addr} {h : Heap} {p : Addr × Obj} (hp : p ∈ hZ fp h) : p.1 ∈ fp /\ h.get? p.1 = some p.2 := by
 obtain ⟨b, hb, e⟩ := List.mem_filterMap.mp hp
 cases q : h.get? b with
 | none => rw [q] at e; cases e
 | some o =>
   rw [q] at e
   have e' : (b, o) = p := Option.some.inj e
   subst e'
   exact ⟨hb, q⟩
theorem Inv.pinned {pins : List (Addr × Obj)} {σ : St} {H : Hp} {s : Shared} {fp : List Addr} (I : Inv X pins σ H s) (hf : ∀ b ∈ fp, bL X pins H b) (ho : ∀ b ∈ fp, ∃ o, s.heap.get? b = some o /\ ∀ v, o.data ≠ .cell v) : Inv X (pins ++ hZ fp s.heap) σ H s :=
 I.cX fun p hp => (List.mem_append.mp hp).elim (fun z => I.pin p (List.mem_append_right _ z)) fun z => by
  obtain ⟨hb, e⟩ := oB z
  obtain ⟨f0, f1, f2, _⟩ := hf p.1 hb
  obtain ⟨o, e', d⟩ := ho p.1 hb
  rw [e] at e'; cases e'
  exact ⟨e, f0, f1, f2, d⟩
theorem Inv.dw {pins pl : List (Addr × Obj)} {σ : St} {H : Hp} {s : Shared} (I : Inv X (pins ++ pl) σ H s) : Inv X pins σ H s := I.cX fun p hp => I.pin p (List.mem_append_right _ (List.mem_append_left _ hp))
theorem eD {iter : Expr} {body : List Stmt} {wi : TI} {g : TG} {tb : TS} {pos : Pos} (hp : PassesOwn (model X.prog X.w) X.A X.env X.xe) (hc : X.calm = true) (hi : PI X tg iter wi) (hg : PG X tg g) (hb : k7 X body tb)
 (hs : ∀ x, foldedSetIterable iter X.env x = pure x := by intro _; rfl) : PS X (.For tg iter body [] pos) (yc wi g tb) := by
 intro pins s σ H D I h
 refine wpAny_For (bu (hi pins s σ H _ I h) fun v s1 h1 => bu h1 fun Bl s2 h2 => ?_) hs
 obtain ⟨it, fp, tn, J, H2, e, I2, T, GY, f2, W, ⟨m0, w0⟩, turn⟩ := h2
 subst e
 have stat : ∀ {H' : Hp}, (∀ b ∈ fp, H' b = none) -> ∀ b ∈ fp, bL X pins H' b := fun hn b hb => ⟨hn b hb, (f2 b hb).2⟩
 refine codeAny_forLoop_any (fun n s' => ∃ i σ' H', Inv X pins σ' H' s' /\ tn i s'.heap /\ (∀ b ∈ fp, H' b = none) /\ W i n σ' H') ?_ m0 ⟨0, σ, H2, I2, GY, fun b hb => (f2 b hb).1, w0⟩
 rintro n s3 ⟨i, σ3, H3, I3, AA, zU, w3⟩
 rcases turn i n σ3 H3 w3 with ⟨stop, qn⟩ | ⟨go, N, hN, step⟩
 . refine wpAny_passesOwn hp (bu (T.done X rfl rfl rfl hc i pins s3 σ3 H3 X.xe I3 (stat zU) AA stop) fun r s4 ⟨hr, I4⟩ => ?_)
   subst hr
   exact wpAny_execs_nil ⟨σ3, H3, I4, qn⟩
 . refine wpAny_passesOwn hp (bu (T.item X rfl rfl rfl hc i pins s3 σ3 H3 X.xe I3 (stat zU) AA go) fun r s4 ⟨u, hr, h4⟩ => ?_)
   subst hr
   refine wpAny_passesOwn hp (bu h4 fun _ s5 ⟨x, H5, I5, r5, y5, v9, Cu⟩ => ?_)
   have Dl := I5.pinned (stat Cu) (T.obj _ _ v9)
   refine wpAny_passesOwn hp (bu (hg _ s5 σ3 H5 x u _ Dl r5 (step x H5 y5)) fun _ s6 ⟨σ6, H6, I6, q6⟩ => ?_)
   refine wpAny_passesOwn hp (bu (hb _ s6 σ6 H6 _ I6 q6) fun f s7 q7 => ?_)
   have again : ∀ {σ7 : St} {H7 : Hp}, Inv X (pins ++ hZ fp s5.heap) σ7 H7 s7 -> N σ7 H7 -> ∃ m, m < n /\ ∃ i σ' H', Inv X pins σ' H' s7 /\ tn i s7.heap /\ (∀ b ∈ fp, H' b = none) /\ W i m σ' H' := fun {σ7 H7} I7 n7 => by
    obtain ⟨m', hm, w7⟩ := hN σ7 H7 n7
    refine ⟨m', hm, i + 1, σ7, H7, I7.dw, T.keep _ _ _ v9 fun b hb o e => (I7.pin (b, o) (List.mem_append_right _ (List.mem_append_right _ (dJ hb e)))).1, fun b hb => ?_, w7⟩
    obtain ⟨o, e, d⟩ := T.obj _ _ v9 b hb
    exact (I7.pin (b, o) (List.mem_append_right _ (List.mem_append_right _ (dJ hb e)))).2.1
   cases f with
   | next => obtain ⟨σ7, H7, I7, n7⟩ := q7; exact again I7 n7
   | cont => obtain ⟨σ7, H7, I7, n7⟩ := q7; exact again I7 n7
   | brk => obtain ⟨σ7, H7, I7, q7⟩ := q7; exact ⟨σ7, H7, I7.dw, q7⟩
   | ret v => obtain ⟨x7, σ7, H7, I7, r7, q7⟩ := q7; exact ⟨x7, σ7, H7, I7.dw, r7, q7⟩
end
theorem qx {K : PySem.W.Frag} {a : Addr} {xs : List V} {g : TG} {tb : TS} {D : Ends} {σ : St} {H : Hp} (Pv : Nat -> St -> Hp -> Prop) (h0 : Pv 0 σ H) (hl : ∀ i σ H, i <= xs.length -> Pv i σ H -> bF K H a xs)
 (hs : ∀ i x σ H, xs[i]? = some x -> Pv i σ H -> g x σ H fun σ2 H2 => tb { D with nx := Pv (i + 1), ct := Pv (i + 1), bk := D.nx } σ2 H2) (hd : ∀ σ H, Pv xs.length σ H -> D.nx σ H) :
 ∃ W : Nat -> Nat -> St -> Hp -> Prop, (∃ m, W 0 m σ H) /\ ∀ i m σ H, W i m σ H ->
   ((qo K a).stop i H /\ D.nx σ H) \/ ((qo K a).go i H /\ ∃ N : St -> Hp -> Prop, (∀ σ' H', N σ' H' -> ∃ m', m' < m /\ W (i + 1) m' σ' H') /\ ∀ x H', (qo K a).xO i H x H' -> g x σ H' fun σ2 H2 => tb { D with nx := N, ct := N, bk := D.nx } σ2 H2) := by
 refine ⟨fun i m σ H => m = xs.length - i /\ i <= xs.length /\ Pv i σ H, ⟨xs.length, by simp, Nat.zero_le _, h0⟩, ?_⟩
 rintro i m σ H ⟨rfl, hi, p⟩
 have q := hl i σ H hi p
 by_cases bZ : i < xs.length
 . refine .inr ⟨⟨xs, xs[i], q, by simp [bZ]⟩, Pv (i + 1), fun σ' H' p' => ⟨xs.length - (i + 1), by omega, rfl, bZ, p'⟩, fun x H' y => ?_⟩
   obtain ⟨e, y⟩ := y
   subst e
   exact hs i x σ _ (y xs q) p
 . have e : i = xs.length := by omega
   subst e
   exact .inl ⟨⟨xs, q, Nat.le_refl _⟩, hd σ H p⟩
theorem gg {lo : Int} {n : Nat} {g : TG} {tb : TS} {D : Ends} {σ : St} {H : Hp} (Pv : Nat -> St -> Hp -> Prop) (h0 : Pv 0 σ H)
 (hs : ∀ i σ H, i < n -> Pv i σ H -> g (.int (lo + i)) σ H fun σ2 H2 => tb { D with nx := Pv (i + 1), ct := Pv (i + 1), bk := D.nx } σ2 H2) (hd : ∀ σ H, Pv n σ H -> D.nx σ H) :
 ∃ W : Nat -> Nat -> St -> Hp -> Prop, (∃ m, W 0 m σ H) /\ ∀ i m σ H, W i m σ H ->
   ((uK lo n).stop i H /\ D.nx σ H) \/ ((uK lo n).go i H /\ ∃ N : St -> Hp -> Prop, (∀ σ' H', N σ' H' -> ∃ m', m' < m /\ W (i + 1) m' σ' H') /\ ∀ x H', (uK lo n).xO i H x H' -> g x σ H' fun σ2 H2 => tb { D with nx := N, ct := N, bk := D.nx } σ2 H2) := by
 refine ⟨fun i m σ H => m = n - i /\ i <= n /\ Pv i σ H, ⟨n, by simp, Nat.zero_le _, h0⟩, ?_⟩
 rintro i m σ H ⟨rfl, hi, p⟩
 by_cases bZ : i < n
 . refine .inr ⟨bZ, Pv (i + 1), fun σ' H' p' => ⟨n - (i + 1), by omega, rfl, bZ, p'⟩, fun x H' y => ?_⟩
   obtain ⟨e, y⟩ := y
   subst e y
   exact hs i σ _ bZ p
 . have e : i = n := by omega
   subst e
   exact .inl ⟨Nat.le_refl _, hd σ H p⟩
abbrev R2 := V -> V -> Hp -> VK -> Prop
def gy (X : Cx) (f : Value -> Value -> Sem Value) (r : R2) : Prop :=
 ∀ (pins : List (Addr × Obj)) (s : Shared) (σ : St) (H : Hp) (x y : V) (v u : Value) (Q : VK), Inv X pins σ H s -> RelV x v -> RelV y u -> r x y H Q ->
   wpAny (model X.prog X.w) X.A (f v u) (EP X pins σ Q) X.xe s
def dB (X : Cx) (f : Value) (r : List V -> Hp -> VK -> Prop) : Prop :=
 ∀ (pins : List (Addr × Obj)) (s : Shared) (σ : St) (H : Hp) (xs : List V) (us : List Value) (Q : VK), Inv X pins σ H s -> Vals xs us -> r xs H Q ->
   wpAny (model X.prog X.w) X.A (call f us) (EP X pins σ Q) X.xe s
def Be (r : R2) (ta tb : TE) : TE := fun σ H Q => ta σ H fun x H1 => tb σ H1 fun y H2 => r x y H2 Q
def rI (C : Int -> Int -> Prop) (g : Int -> Int -> V) : R2 := fun x y H Q => ∃ i j, x = .int i /\ y = .int j /\ C i j /\ Q (g i j) H
def uX (g : Int -> Int -> V) : R2 := fun x y H Q => ∃ i j, x = .int i /\ y = .int j /\ Q (g i j) H
section
variable {X : Cx} {a b c : Expr} {ta tb tc : TE} {pos : Pos}
theorem zj (ha : PE X a ta) (hb : PE X b tb) {pins : List (Addr × Obj)} {s : Shared} {σ : St} {H : Hp} {R : V -> V -> Hp -> Prop} (I : Inv X pins σ H s)
 (h : ta σ H fun x H1 => tb σ H1 fun y H2 => R x y H2) {Q : Value -> Shared -> Prop} {f : Value -> Value -> Sem Value}
 (hf : ∀ v u s2 x y H2, Inv X pins σ H2 s2 -> RelV x v -> RelV y u -> R x y H2 -> wpAny (model X.prog X.w) X.A (f v u) Q X.xe s2) :
 wpAny (model X.prog X.w) X.A (eval a X.env) (fun v s₁ => wpAny (model X.prog X.w) X.A (eval b X.env) (fun u s₂ => wpAny (model X.prog X.w) X.A (f v u) Q X.xe s₂) X.xe s₁) X.xe s := by
 refine bu (ha pins s σ H _ I h) fun v s1 ⟨x, H1, I1, r1, q1⟩ => ?_
 refine bu (hb pins s1 σ H1 _ I1 q1) fun u s2 ⟨y, H2, I2, r2, q2⟩ => ?_
 exact hf v u s2 x y H2 I2 r1 r2 q2
theorem ag {op : Operator} {r : R2} (ho : gy X (binaryOp op) r) (ha : PE X a ta) (hb : PE X b tb) : PE X (.BinOp a op b pos) (Be r ta tb) := by
 intro pins s σ H Q I h
 exact wpAny_BinOp (zj ha hb I h fun v u s2 x y H2 I2 rx ry q => ho pins s2 σ H2 x y v u Q I2 rx ry q)
theorem Bg {f : Value -> Value -> Sem Value} {C : Int -> Int -> Prop} {g : Int -> Int -> Int}
 (rule : ∀ (i j : Int) (t u : Tok) (s : Shared) (Q : Value -> Shared -> Prop) (E : Value -> Shared -> Prop), C i j -> Q (.int (g i j) s.toks) { s with toks := s.toks + 1 } -> wpAny (model X.prog X.w) X.A (f (.int i t) (.int j u)) Q E s) :
 gy X f (rI C fun i j => .int (g i j)) := by
 intro pins s σ H x y v u Q I rx ry h
 obtain ⟨i, j, rfl, rfl, hc, q⟩ := h
 obtain ⟨t, rfl⟩ := rx
 obtain ⟨t', rfl⟩ := ry
 exact rule i j t t' s _ _ hc ⟨.int (g i j), H, I.tok _, ⟨_, rfl⟩, q⟩
theorem zO {f : Value -> Value -> Sem Value} {g : Int -> Int -> Int}
 (rule : ∀ (i j : Int) (t u : Tok) (s : Shared) (Q : Value -> Shared -> Prop) (E : Value -> Shared -> Prop), Q (.int (g i j) s.toks) { s with toks := s.toks + 1 } -> wpAny (model X.prog X.w) X.A (f (.int i t) (.int j u)) Q E s) :
 gy X f (uX fun i j => .int (g i j)) := by
 intro pins s σ H x y v u Q I rx ry h
 obtain ⟨i, j, rfl, rfl, q⟩ := h
 obtain ⟨t, rfl⟩ := rx
 obtain ⟨t', rfl⟩ := ry
 exact rule i j t t' s _ _ ⟨.int (g i j), H, I.tok _, ⟨_, rfl⟩, q⟩
theorem x8 {f : Value -> Value -> Sem Value} {g : Int -> Int -> Bool}
 (rule : ∀ (i j : Int) (t u : Tok) (s : Shared) (Q : Value -> Shared -> Prop) (E : Value -> Shared -> Prop), Q (.bool (g i j)) s -> wpAny (model X.prog X.w) X.A (f (.int i t) (.int j u)) Q E s) :
 gy X f (uX fun i j => .bl (g i j)) := by
 intro pins s σ H x y v u Q I rx ry h
 obtain ⟨i, j, rfl, rfl, q⟩ := h
 obtain ⟨t, rfl⟩ := rx
 obtain ⟨t', rfl⟩ := ry
 exact rule i j t t' s _ _ ⟨.bl (g i j), H, I, rfl, q⟩
def xr (i j : Int) : Prop := 0 <= j /\ j <= 1000000 /\ i.natAbs < 2 ^ 64
theorem aU : gy X (binaryOp .Add) (uX fun i j => .int (i + j)) := zO fun _ _ _ _ _ _ _ q => add_int q
theorem fh : gy X (binaryOp .Sub) (uX fun i j => .int (i - j)) := zO fun _ _ _ _ _ _ _ q => sub_int q
theorem vY : gy X (binaryOp .Mod) (rI (fun _ j => 0 < j) fun i j => .int (i % j)) := Bg fun i j _ _ _ _ _ hc q => by
 have h1 : (0 : Int) < j := hc
 exact mod_int' (by omega) (by rw [Int.fmod_eq_emod_of_nonneg i (by omega)]; exact q)
theorem hX : gy X (binaryOp .Pow) (rI xr fun i j => .int (i ^ j.toNat)) := Bg fun _ _ _ _ _ _ _ hc q => pow_int_small hc.1 hc.2.1 hc.2.2 q
end
def yb : V -> V -> Bool
 | .bG, .bG => true | .bG, .int _ => true | .int _, .bG => true | .bG, .bl _ => true | .bl _, .bG => true | .bG, .str _ => true | .str _, .bG => true
 | .int _, .int _ => true | .bl _, .bl _ => true | .str _, .str _ => true | .tJ _, .tJ _ => true
 | .int _, .str _ => true | .str _, .int _ => true | .bl _, .str _ => true | .str _, .bl _ => true
 | _, _ => false
def FQ : R2 := fun x y H Q => yb x y = true /\ Q (.bl (decide (x = y))) H
theorem tG {i j : Int} : decide (V.int i = V.int j) = (i == j) := by
 rw [Bool.eq_iff_iff]
 simp
theorem w6 {i j : Bool} : decide (V.bl i = V.bl j) = (i == j) := by
 rw [Bool.eq_iff_iff]
 simp
theorem ud {i j : Str} : decide (V.str i = V.str j) = (i == j) := by
 rw [Bool.eq_iff_iff]
 simp
theorem tQ {i j : Array UInt8} : decide (V.tJ i = V.tJ j) = (i.toList == j.toList) := by
 rw [Bool.eq_iff_iff]
 cases i
 cases j
 simp
section
variable {X : Cx} {a b c : Expr} {ta tb tc : TE} {pos : Pos}
theorem bK {pins : List (Addr × Obj)} {σ : St} {H : Hp} {s : Shared} {Q : VK} {k k' : Bool} (I : Inv X pins σ H s) (q : Q (.bl k) H) (e : k = k') : EP X pins σ Q (.bool k') s := by
 subst e
 exact ⟨.bl k, H, I, rfl, q⟩
theorem zC : gy X (compareOp .Eq) FQ := by
 intro pins s σ H x y v u Q I rx ry h
 obtain ⟨hs, q⟩ := h
 cases x with
 | bG =>
   cases rx
   cases y with
   | bG => cases ry; exact PySem.EqNone.eq_none_none (bK I q (by simp))
   | bl j => cases ry; exact PySem.EqNone.eq_none_bool (bK I q (by simp))
   | int j => obtain ⟨t', rfl⟩ := ry; exact PySem.EqNone.eq_none_int (bK I q (by simp))
   | str j => obtain ⟨t', rfl⟩ := ry; exact PySem.EqNone.eq_none_str (bK I q (by simp))
   | _ => exact absurd (show false = true from hs) Bool.false_ne_true
 | bl i =>
   cases rx
   cases y with
   | bG => cases ry; exact PySem.EqNone.eq_bool_none (bK I q (by simp))
   | bl j => cases ry; exact eq_bool (bK I q w6)
   | str j => obtain ⟨t', rfl⟩ := ry; exact PySem.EqMixed.eq_bool_str (bK I q (by simp))
   | _ => exact absurd (show false = true from hs) Bool.false_ne_true
 | int i =>
   obtain ⟨t, rfl⟩ := rx
   cases y with
   | bG => cases ry; exact PySem.EqNone.eq_int_none (bK I q (by simp))
   | int j => obtain ⟨t', rfl⟩ := ry; exact eq_int (bK I q tG)
   | str j => obtain ⟨t', rfl⟩ := ry; exact PySem.EqMixed.eq_int_str (bK I q (by simp))
   | _ => exact absurd (show false = true from hs) Bool.false_ne_true
 | str i =>
   obtain ⟨t, rfl⟩ := rx
   cases y with
   | bG => cases ry; exact PySem.EqNone.eq_str_none (bK I q (by simp))
   | bl j => cases ry; exact PySem.EqMixed.eq_str_bool (bK I q (by simp))
   | int j => obtain ⟨t', rfl⟩ := ry; exact PySem.EqMixed.eq_str_int (bK I q (by simp))
   | str j => obtain ⟨t', rfl⟩ := ry; exact eq_str (bK I q ud)
   | _ => exact absurd (show false = true from hs) Bool.false_ne_true
 | tJ i =>
   obtain ⟨t, rfl⟩ := rx
   cases y with
   | tJ j => obtain ⟨t', rfl⟩ := ry; exact PySem.W.eq_bytes (bK I q tQ)
   | _ => exact absurd (show false = true from hs) Bool.false_ne_true
 | _ => cases y <;> exact absurd (show false = true from hs) Bool.false_ne_true
theorem uT : gy X (compareOp .Lt) (uX fun i j => .bl (decide (i < j))) := x8 fun _ _ _ _ _ _ _ q => lt_int q
theorem fL : gy X (compareOp .LtE) (uX fun i j => .bl (decide (i <= j))) := x8 fun _ _ _ _ _ _ _ q => le_int q
theorem z0 : gy X (compareOp .Gt) (uX fun i j => .bl (decide (j < i))) := x8 fun _ _ _ _ _ _ _ q => gt_int q
theorem cQ (b : Expr) {op : CmpOp} (h : op ≠ .In := by decide) (h2 : op ≠ .NotIn := by decide) : behindInMarks op b = false := by
 have e1 : (op == CmpOp.In) = false := by cases op <;> first | rfl | exact absurd rfl h
 have e2 : (op == CmpOp.NotIn) = false := by cases op <;> first | rfl | exact absurd rfl h2
 cases b <;> simp [behindInMarks, e1, e2]
def qv (t : TE) : TT := fun σ H Q => t σ H fun x H' => ∃ k, x = .bl k /\ Q k H'
theorem bR {op : CmpOp} {r : R2} (ho : gy X (compareOp op) r) (ha : PE X a ta) (hb : PE X b tb) (hm : behindInMarks op b = false) : PT X (.Compare a [op] [b] pos) (qv (Be r ta tb)) := by
 intro pins s σ H Q I h
 refine wpAny_isTrue_Compare1 (bu (ha pins s σ H _ I h) fun v s1 ⟨x, H1, I1, r1, q1⟩ => bu (hb pins s1 σ H1 _ I1 q1) fun u s2 ⟨y, H2, I2, r2, q2⟩ =>
  bu (ho pins s2 σ H2 x y v u _ I2 r1 r2 q2) fun c s3 ⟨z, H3, I3, r3, k, e, q3⟩ => ?_) hm
 subst e
 cases r3
 exact wpAny_truthy_bool ⟨H3, I3, q3⟩
def rV (r r' : R2) (ta tb tc : TE) : TE := fun σ H Q => ta σ H fun x H1 => tb σ H1 fun y H2 => r x y H2 fun z H3 => ∃ k, z = .bl k /\
 (if k = true then tc σ H3 fun w' H4 => r' y w' H4 Q else Q (.bl false) H3)
theorem g8 {op ya : CmpOp} {r r' : R2} (ho : gy X (compareOp op) r) (oV : gy X (compareOp ya) r') (ha : PE X a ta) (hb : PE X b tb) (hc : PE X c tc)
 (hm : lastMarks [op, ya] [b, c] = false := by with_unfolding_all rfl) : PT X (.Compare a [op, ya] [b, c] pos) (qv (rV r r' ta tb tc)) := by
 intro pins s σ H Q I h
 refine isTrue_chain (bu (ha pins s σ H _ I h) fun v s1 ⟨x, H1, I1, r1, q1⟩ => test_link (bu (hb pins s1 σ H1 _ I1 q1) fun u s2 ⟨y, H2, I2, r2, q2⟩ =>
  bu (ho pins s2 σ H2 x y v u _ I2 r1 r2 q2) fun d s3 ⟨z, H3, I3, r3, k, e, q3⟩ => ?_)) hm
 subst e
 cases r3
 refine wpAny_truthy_bool ?_
 cases k with
 | false =>
   obtain ⟨k', e', q'⟩ := q3
   cases e'
   exact ite_ff ⟨H3, I3, q'⟩
 | true =>
   refine ite_tt (test_last (bu (hc pins s3 σ H3 _ I3 q3) fun w' s4 ⟨z', H4, I4, r4, q4⟩ => bu (oV pins s4 σ H4 y z' u w' _ I4 r2 r4 q4) fun d' s5 ⟨z2, H5, I5, r5, k2, e2, q5⟩ => ?_))
   subst e2
   cases r5
   exact wpAny_truthy_bool ⟨H5, I5, q5⟩
theorem fZ : (sizeLine : Nat) < 2 ^ 63 := by rw [sizeLine_eq]; decide
theorem lZ : gy X (binaryOp .Add) (fun x y H Q => ∃ i j, x = .str i /\ y = .str j /\ i.length + j.length <= sizeLine /\ Q (.str (i ++ j)) H) := by
 intro pins s σ H x y v u Q I rx ry h
 obtain ⟨i, j, rfl, rfl, hz, q⟩ := h
 obtain ⟨t, rfl⟩ := rx
 obtain ⟨t', rfl⟩ := ry
 exact add_str (fun t' tk => ⟨.str (i ++ j), H, I.tok _, ⟨_, rfl⟩, q⟩) hz
theorem vals1 {x : V} {us : List Value} (r : Vals [x] us) : ∃ u, us = [u] /\ RelV x u := by
 cases r with
 | cons r1 r2 => cases r2; exact ⟨_, rfl, r1⟩
theorem vals2 {x y : V} {us : List Value} (r : Vals [x, y] us) : ∃ u w', us = [u, w'] /\ RelV x u /\ RelV y w' := by
 cases r with
 | cons r1 r2 =>
   cases r2 with
   | cons r3 r4 => cases r4; exact ⟨_, _, rfl, r1, r3⟩
theorem pC (hc : X.calm = true) : dB X (.builtin "min") (fun xs H Q => ∃ i j, xs = [.int i, .int j] /\ Q (.int (if j < i then j else i)) H) := by
 intro pins s σ H xs us Q I r h
 obtain ⟨i, j, rfl, q⟩ := h
 obtain ⟨u, w', rfl, ⟨t, rfl⟩, ⟨t', rfl⟩⟩ := vals2 r
 refine min_two_ints (I.ok.hd hc) fun h' tk k => ⟨_, H, I.kept k, ?_, q⟩
 by_cases hj : j < i
 . rw [if_pos hj, if_pos hj]; exact ⟨_, rfl⟩
 . rw [if_neg hj, if_neg hj]; exact ⟨_, rfl⟩
end
structure G1 (h : Heap) (x dx C : Addr) (mA : Str -> Option Value) : Prop where
 obj : h.get? x = some (PySem.W.instObj C dx)
 ns : h.Ns1 dx mA
 ne : dx ≠ x
section
variable {prog : Program} {w : World} {A : Around} {E : Value -> Shared -> Prop} {s : Shared} {K : PySem.W.Frag} {x dx C f : Addr} {mA : Str -> Option Value} {name : Str} {v : Value}
end
theorem iR.some_of {v : V} {o : Option Value} (r : iR (some v) o) : ∃ u, o = some u /\ RelV v u := by
 cases o with
 | none => exact (show False from r).elim
 | some u => exact ⟨u, rfl, r⟩
section
variable {P : Program} {w : World} {H H' : Hp} {h h' : Heap} {a C dx : Addr} {fs F3 : List (Str × V)}
end
structure GP (K : PySem.W.Frag) (C : Addr) : Prop where
 pg : PySem.W.plainGet K C Str.empty = true
 hd : PySem.W.hasDictIn K C = true
 po : PySem.W.plainOver K C = true
 sa : PySem.W.findIn K (.ref C) "__setattr__" = some (some (.builtin "object.__setattr__"))
structure HU (K : PySem.W.Frag) (C : Addr) (f : Str) (v : V) (u : Value) : Prop where
 at_ : PySem.W.findIn K (.ref C) f = some (some u)
 rel : RelV v u
 get : PySem.W.specialIn K u "__get__" = some none
 cp : PySem.W.copiedNames.contains f = false
structure Meth (K : PySem.W.Frag) (C : Addr) (m : Str) (f : Addr) : Prop where
 at_ : PySem.W.findIn K (.ref C) m = some (some (.ref f))
 fn : PySem.W.isFn K (.ref f) = true
 kp : PySem.W.keepIn K (.ref f) = true
section
variable {X : Cx} {pins : List (Addr × Obj)} {σ : St} {H : Hp} {s : Shared} {a C dx : Addr} {fs : List (Str × V)} {f : Str} {v : V} {A : Around} {E : Value -> Shared -> Prop}
end
section
variable {X : Cx} {o e value : Expr} {f : Str} {pos pos' wJ : Pos} {ta tv : TE}
end
section
variable {X : Cx} {pins : List (Addr × Obj)} {σ : St} {H : Hp} {s : Shared} {A : Around} {E : Value -> Shared -> Prop} {Q : Value -> Shared -> Prop} {c : Value} {b : Bool}
inductive ie (K : PySem.W.Frag) (H : Hp) : V -> Value -> Prop where
 | bG : ie K H .bG (.type "NoneType")
 | bl (x : Bool) : ie K H (.bl x) (.type "bool")
 | int (i : Int) : ie K H (.int i) (.type "int")
 | str (x : Str) : ie K H (.str x) (.type "str")
 | Ai (x : UInt64) : ie K H (.Ai x) (.type "float")
 | lst {a : Addr} {xs : List V} (e : H a = some (.lst xs)) : ie K H (.ref a) (.type "list")
 | nM {a : Addr} {o : Obj} {xs : List V} (e : H a = some (.nM o (.lst xs))) : ie K H (.ref a) (.type "list")
 | tup {a : Addr} {xs : List V} (e : H a = some (.tup xs)) : ie K H (.ref a) (.type "tuple")
 | dK {a : Addr} {ax : List (Key × V)} (e : H a = some (.dK ax)) : ie K H (.ref a) (.type "dict")
 | dT {a : Addr} {ax : List (List Key × V)} (e : H a = some (.dT ax)) : ie K H (.ref a) (.type "dict")
 | ins {a C dx : Addr} {fs : List (Str × V)} (e : H a = some (.ins C dx fs)) (cl : GP K C) (ha : PySem.W.findIn K (.ref C) "__class__" = some (some (.builtin "object.__class__")))
  (hn : PySem.W.specialIn K (.builtin "object.__class__") "__get__" = some (some (.builtin "getset_descriptor.__get__"))) (kc : PySem.W.takesIn K (.builtin "object.__class__") = some true)
  (hm : PySem.W.mroIn K C (.type "object") = some true) : ie K H (.ref a) (.ref C)
end
structure bo (k : Nat) (A : Around) : Prop where
 hd : A.handled = none
 dp : A.depth + 3 * k + 5 < recursionLimit
 un : A.units + 16 * k + 200 < cLine
theorem bo.mono {j k : Nat} {A : Around} (r : bo k A) (h : j <= k) : bo j A := ⟨r.hd, by have := r.dp; omega, by have := r.un; omega⟩
theorem bo.deeper {k : Nat} {A : Around} (r : bo (k + 1) A) (env : Env) : bo k (A.deeper env) :=
 ⟨r.hd, by have := r.dp; show A.depth + 1 + 3 * k + 5 < _; omega, by have := r.un; show A.units + 3 + 16 * k + 200 < _; omega⟩
theorem bo.in1 {k : Nat} {A : Around} (r : bo (k + 1) A) : bo k A.in1 :=
 ⟨r.hd, by have := r.dp; show A.depth + 3 * k + 5 < _; omega, by have := r.un; show A.units + 1 + 16 * k + 200 < _; omega⟩
theorem bo.depth {k : Nat} {A : Around} (r : bo k A) : A.depth < recursionLimit := by have := r.dp; omega
theorem bo.units {k : Nat} {A : Around} (r : bo k A) : A.units + 64 < cLine := by have := r.un; omega
def xk : TA := fun _ H Q => Q [] H
def qF (ta : TE) (tr : TA) : TA := fun σ H Q => ta σ H fun x H1 => tr σ H1 fun xs H2 => Q (x :: xs) H2
section
variable {X : Cx} {e : Expr} {es : List Expr} {te : TE} {t : TA} {pos : Pos}
theorem ao : PA X [] xk := fun _ _ _ _ H Q I h => Calls.spliced_nil ⟨[], H, I, .nil, h⟩
theorem af (ha : PE X e te) (hr : PA X es t) (hs : starEach (e :: es) X.env = (false, eval e X.env) :: starEach es X.env := by rfl) : PA X (e :: es) (qF te t) := by
 intro pos pins s σ H Q I h
 rw [hs]
 show wpAny _ _ (spliced ((false, eval e X.env) :: backTo pos (starEach es X.env))) _ _ s
 refine Calls.spliced_cons (bu (ha pins s σ H _ I h) fun u s1 ⟨x, H1, I1, r1, q1⟩ => ?_)
 exact bu (hr pos pins s1 σ H1 _ I1 q1) fun us s2 ⟨xs, H2, I2, r2, q2⟩ => ⟨x :: xs, H2, I2, .cons r1 r2, q2⟩
def B4 (t : TA) : TE := fun σ H Q => t σ H fun xs H1 => xs.length <= sizeLine /\ ∀ p, H1 p = none -> Q (.ref p) (upd H1 p (.tup xs))
def C7 (t : TA) : TE := fun σ H Q => t σ H fun xs H1 => xs.length <= sizeLine /\ ∀ p, H1 p = none -> Q (.ref p) (upd H1 p (.lst xs))
theorem wz {x1} (h : PA X es t) : PE X (.Tuple es x1 pos) (B4 t) := by
 intro pins s σ H Q I hq
 refine wpAny_Tuple_spliced (bu (h pos pins s σ H _ I hq) fun us s1 ⟨xs, H1, I1, r, z, q⟩ => ⟨by rw [<- r.length]; exact z, ?_⟩)
 have hf : H1 s1.heap.objs.size = none := I1.aL.fresh (Nat.le_refl _)
 refine ⟨.ref s1.heap.objs.size, upd H1 s1.heap.objs.size (.tup xs), I1.laid (t' := s1.toks) (fun b u e => Heap.get?_push_of_some _ e) (Nat.le_refl _) ?_, rfl, q _ hf⟩
 exact ⟨z, us, r, ⟨_, Heap.get?_push_size _ rfl, rfl, _, rfl⟩⟩
theorem vL (h : PA X es t) : PE X (.List es pos) (C7 t) := by
 intro pins s σ H Q I hq
 refine wpAny_List_spliced (bu (h pos pins s σ H _ I hq) fun us s1 ⟨xs, H1, I1, r, z, q⟩ => ⟨by rw [<- r.length]; exact z, ?_⟩)
 have hf : H1 s1.heap.objs.size = none := I1.aL.fresh (Nat.le_refl _)
 refine ⟨.ref s1.heap.objs.size, upd H1 s1.heap.objs.size (.lst xs), I1.laid (t' := s1.toks) (fun b u e => Heap.get?_push_of_some _ e) (Nat.le_refl _) ?_, rfl, q _ hf⟩
 exact ⟨z, us, 0, r, Heap.get?_push_size _ rfl⟩
end
abbrev Sp := List V -> Hp -> VK -> XK -> Prop
abbrev kG := List Env -> Hp -> Shared -> XK -> Value -> Shared -> Prop
structure md (P : Program) (w : World) (K : PySem.W.Frag) (mg : Str -> Option Value) (base : Heap) (A : Around) (outer : List Env) (s : Shared) (H : Hp) : Prop where
 frames : A.frames = some outer
 mod : Mod K mg base
 bs : ∀ b o, base.get? b = some o -> s.heap.get? b = some o /\ H b = none
 qg : base.objs.size <= s.heap.objs.size
 fJ : s.heap.FunFrames base outer
 uw : ∀ b ∈ k6 outer, H b = none
 aL : fc P w H s.heap
 bare : AllBare s.gens
def CE (outer : List Env) (P : Program) (w : World) (H : Hp) (s : Shared) (Q : VK) (u : Value) (s' : Shared) : Prop :=
 ∃ v H', s'.os = s.os /\ AllBare s'.gens /\ Un (k6 outer) [] H H' s.heap s'.heap /\ fc P w H' s'.heap /\ RelV v u /\ Q v H'
def CR (CX : kG) (outer : List Env) (P : Program) (w : World) (H : Hp) (s : Shared) (Q : VK) (E : XK) (r : Result) (s' : Shared) : Prop :=
 match r with
 | .ok (.ret u) => CE outer P w H s Q u s'
 | .ok _ => False
 | .error e => CX outer H s E e s'
structure bQ (P : Program) (w : World) (K : PySem.W.Frag) (mg : Str -> Option Value) (base : Heap) (CX : kG) (k : Nat) (f : Addr) (fd : FuncData) (ps : List Str) (sp : Sp) : Prop where
 len : ∀ vs H Q E, sp vs H Q E -> vs.length = ps.length
 run : ∀ (A : Around) (outer : List Env) (s : Shared) (H : Hp) (args : Args) (us : List Value) (vs : List V) (Q : VK) (E : XK), bo k A -> md P w K mg base A outer s H -> BindsTo s fd args (ps.zip us) -> Vals vs us -> sp vs H Q E ->
  codeAny (model P w) A (.call (.ref f) args) (CR CX outer P w H s Q E) s
theorem bQ.mono {P : Program} {w : World} {K : PySem.W.Frag} {mg : Str -> Option Value} {base : Heap} {CX : kG} {j k : Nat} {f : Addr} {fd : FuncData} {ps : List Str} {sp : Sp} (F : bQ P w K mg base CX j f fd ps sp) (h : j <= k) :
 bQ P w K mg base CX k f fd ps sp := ⟨F.len, fun A outer s H args us vs Q E hr => F.run A outer s H args us vs Q E (hr.mono h)⟩
theorem md.in1 {P : Program} {w : World} {K : PySem.W.Frag} {mg : Str -> Option Value} {base : Heap} {A : Around} {outer : List Env} {s : Shared} {H : Hp} (e : md P w K mg base A outer s H) :
 md P w K mg base A.in1 outer s H := ⟨e.frames, e.mod, e.bs, e.qg, e.fJ, e.uw, e.aL, e.bare⟩
section
variable {X : Cx} {pins : List (Addr × Obj)} {σ : St} {H : Hp} {s s' : Shared}
theorem Inv.uC (I : Inv X pins σ H s) : md X.prog X.w X.K X.mg X.base X.A X.stack s H :=
 ⟨I.ok.frames, I.ok.mod, I.bs, Nat.le_trans I.ok.qg I.sz, I.stack, I.nD, I.aL, I.bare⟩
theorem Inv.after {Q : VK} {u : Value} (I : Inv X pins σ H s) (h : CE X.stack X.prog X.w H s Q u s') : EP X pins σ Q u s' := by
 obtain ⟨v, H', os, bare, un, aL, r, q⟩ := h
 obtain ⟨hh, g, d, t, ym⟩ := s'
 obtain rfl : ym = s.os := os
 exact ⟨v, H', I.call (h' := hh) (g' := g) (d' := d) (t' := t) (ch := []) un aL bare (fun b z => absurd z (by simp)), r, q⟩
end
def mZ (sp : Sp) (e7 : List V) (E : XK) (t : TA) : TE := fun σ H Q => t σ H fun vs H1 => sp (vs ++ e7) H1 Q E
def Binds (K : PySem.W.Frag) (fd : FuncData) (ps : List Str) (ds : List Value) : Prop :=
 ∀ (s : Shared) (us : List Value), K.In s.heap -> (us ++ ds).length = ps.length -> BindsTo s fd ⟨us, []⟩ (ps.zip (us ++ ds))
theorem Binds.all {K : PySem.W.Frag} {fd : FuncData} {ps : List Str} (h : ∀ us : List Value, us.length = ps.length -> bindArgs fd ⟨us, []⟩ = pure (ps.zip us)) : Binds K fd ps [] := fun s us _ hl => by
 rw [List.append_nil] at hl ⊢
 exact .of_eq (h us hl)
def Passes (CX : kG) (X : Cx) (E : XK) : Prop := ∀ (pins : List (Addr × Obj)) (σ : St) (H : Hp) (s : Shared) (e : Value) (s' : Shared), Inv X pins σ H s -> CX X.stack H s E e s' -> X.xe e s'
section
variable {X : Cx} {CX : kG} {k : Nat} {f C : Addr} {fd : FuncData} {ps : List Str} {sp : Sp} {e7 : List V} {ds : List Value} {E : XK} {x m : Str} {p pos apos : Pos} {e o : Expr} {es : List Expr} {ta : TE} {t : TA}
theorem xH {pins : List (Addr × Obj)} {σ : St} {H : Hp} {s : Shared} {Q : VK} {us : List Value} {vs : List V} (F : bQ X.prog X.w X.K X.mg X.base CX k f fd ps sp) (hr : bo k X.A) (hb : Binds X.K fd ps ds) (hd : Vals e7 ds) (hx : Passes CX X E)
 (I : Inv X pins σ H s) (r : Vals vs us) (h : sp (vs ++ e7) H Q E) : wpAny (model X.prog X.w) X.A (call (.ref f) us) (EP X pins σ Q) X.xe s := by
 have r2 : Vals (vs ++ e7) (us ++ ds) := r.append hd
 have hl : (us ++ ds).length = ps.length := by rw [<- r2.length]; exact F.len _ _ _ _ h
 refine wpAny_call (codeAny_mono (F.run X.A X.stack s H ⟨us, []⟩ (us ++ ds) (vs ++ e7) Q E hr I.uC (hb s us I.vS hl) r2 h) fun r s' hq => ?_)
 cases r with
 | error e => exact hx pins σ H s e s' I hq
 | ok fl =>
   cases fl with
   | ret u => exact I.after hq
   | next => exact False.elim hq
   | brk => exact False.elim hq
   | cont => exact False.elim hq
theorem tE (F : bQ X.prog X.w X.K X.mg X.base CX k f fd ps sp) (hr : bo k X.A) (hg : Gl X x) (hm : X.mg x = some (.ref f)) (hk : PySem.W.keepIn X.K (.ref f) = true) (hb : Binds X.K fd ps ds) (hd : Vals e7 ds) (hx : Passes CX X E)
 (ha : PA X (e :: es) t) (uP : (x == ("__debug__" : Str)) = false := by decide) (he : starEach (e :: es) X.env = (false, eval e X.env) :: starEach es X.env := by rfl) (ka : (backTo pos (starEach es X.env)).any (·.1) = false := by rfl) :
 PE X (.Call (.Name x p) (e :: es) [] pos) (mZ sp e7 E t) := by
 intro pins s σ H Q I h
 refine wpAny_Call_Name_kw (mX I hg hm ?_ uP)
 refine PySem.W.callWith_K (h₀ := X.base) I.ok.mod.Dr hk (bu (ha pos pins s σ H _ I h) fun us s1 ⟨vs, H1, I1, r, q⟩ => ⟨I1.vS, ?_⟩) he ka
 exact xH F hr hb hd hx I1 r q
structure Mk (K : PySem.W.Frag) (C f : Addr) : Prop where
 makes : PySem.W.makesIn K C = true
 init : PySem.W.findIn K (.ref C) "__init__" = some (some (.ref f))
 fn : PySem.W.isFn K (.ref f) = true
 kp : PySem.W.keepIn K (.ref C) = true
end
def PK (X : Cx) (zW : List Keyword) (t : TA) : Prop :=
 ∀ (pos : Pos) (pins : List (Addr × Obj)) (s : Shared) (σ : St) (H : Hp) (Q : List V -> Hp -> Prop), Inv X pins σ H s -> t σ H Q -> wpAny (model X.prog X.w) X.A (evalAll ((backToKw pos (keywordEach zW X.env)).map (·.2))) (AP X pins σ Q) X.xe s
section
variable {X : Cx} {CX : kG} {k : Nat} {f C : Addr} {fd : FuncData} {ps ks : List Str} {sp : Sp} {E : XK} {x m : Str} {p pos apos n6 : Pos} {e o : Expr} {es : List Expr} {zW : List Keyword} {te ta : TE} {t tk : TA} {nm : Option Str}
theorem yp : PK X [] xk := fun _ _ _ _ H Q I h => wpAny_evalAll_nil ⟨[], H, I, .nil, h⟩
theorem tP (ha : PE X e te) (hr : PK X zW t) : PK X (⟨nm, e, n6⟩ :: zW) (qF te t) := by
 intro pos pins s σ H Q I h
 show wpAny _ _ (evalAll ((do let v <- eval e X.env; standAt pos; pure v) :: (backToKw pos (keywordEach zW X.env)).map (·.2))) _ _ s
 refine wpAny_evalAll_cons (wpAny_bind (bu (ha pins s σ H _ I h) fun u s1 ⟨x, H1, I1, r1, q1⟩ => wpAny_bind (wpAny_standAt (wpAny_pure ?_))))
 exact bu (hr pos pins s1 σ H1 _ I1 q1) fun us s2 ⟨xs, H2, I2, r2, q2⟩ => ⟨x :: xs, H2, I2, .cons r1 r2, q2⟩
structure B5 (K : PySem.W.Frag) (fd : FuncData) (ps ks : List Str) (g : List Value -> List Value -> List Value) (gV : List V -> List V -> List V) : Prop where
 to : ∀ (s : Shared) (us ws : List Value), K.In s.heap -> (g us ws).length = ps.length -> BindsTo s fd ⟨us, ks.zip ws⟩ (ps.zip (g us ws))
 rel : ∀ {vs : List V} {us : List Value} {zs : List V} {ws : List Value}, Vals vs us -> Vals zs ws -> Vals (gV vs zs) (g us ws)
variable {g : List Value -> List Value -> List Value} {gV : List V -> List V -> List V}
end
structure bb (N P : List Str) (sc : Scope) : Prop where
 kind : sc.kind = .function
 co : sc.isCoroutine = false
 gen : sc.isGenerator = false
 nd : N.Nodup
 pre : N.take P.length = P
 par : ∀ x ∈ P, sc.names.lookup x = some .local \/ sc.names.lookup x = some .cell
 w9 : ∀ y ∈ sc.names, y.2 ≠ .free
theorem i7 {kindOf : Str -> Option NameKind} {x : Str} : ∀ {binds : List (Str × Value)} {m : Str -> Option Value}, (∀ v, (x, v) ∉ binds) -> bindL kindOf binds m x = m x
 | [], _, _ => rfl
 | (n, v) :: r, m, h => by
   unfold bindL
   rw [i7 fun w hw => h w (List.mem_cons_of_mem _ hw)]
   split
   . have : x ≠ n := by rintro rfl; exact h v List.mem_cons_self
     simp [this]
   . rfl
theorem jt {kindOf : Str -> Option NameKind} {x : Str} : ∀ {binds : List (Str × Value)} {m : Str -> Option Value}, (∀ v, (x, v) ∉ binds) -> bindC kindOf binds m x = m x
 | [], _, _ => rfl
 | (n, v) :: r, m, h => by
   unfold bindC
   rw [jt fun w hw => h w (List.mem_cons_of_mem _ hw)]
   split
   . rfl
   . have : x ≠ n := by rintro rfl; exact h v List.mem_cons_self
     simp [this]
theorem jd {kindOf : Str -> Option NameKind} {x : Str} {v : Value} : ∀ {P : List Str} {vs : List Value} {i : Nat} {m : Str -> Option Value}, P.Nodup -> P[i]? = some x -> vs[i]? = some v -> kindOf x = some .local ->
 bindL kindOf (P.zip vs) m x = some v
 | [], _, _, _, _, h, _, _ => by simp at h
 | _ :: _, [], _, _, _, _, h, _ => by simp at h
 | p :: P, w :: vs, 0, m, nd, h1, h2, hk => by
   simp at h1 h2; subst h1; subst h2
   show bindL kindOf ((p, w) :: P.zip vs) m p = _
   unfold bindL
   rw [i7 fun v hv => (List.nodup_cons.mp nd).1 (List.of_mem_zip hv).1, if_pos hk]
   simp
 | p :: P, w :: vs, i + 1, m, nd, h1, h2, hk => by
   show bindL kindOf ((p, w) :: P.zip vs) m x = _
   unfold bindL
   exact jd (i := i) (List.nodup_cons.mp nd).2 (by simpa using h1) (by simpa using h2) hk
theorem iX {kindOf : Str -> Option NameKind} {x : Str} {v : Value} : ∀ {P : List Str} {vs : List Value} {i : Nat} {m : Str -> Option Value}, P.Nodup -> P[i]? = some x -> vs[i]? = some v -> kindOf x ≠ some .local ->
 bindC kindOf (P.zip vs) m x = some v
 | [], _, _, _, _, h, _, _ => by simp at h
 | _ :: _, [], _, _, _, _, h, _ => by simp at h
 | p :: P, w :: vs, 0, m, nd, h1, h2, hk => by
   simp at h1 h2; subst h1; subst h2
   show bindC kindOf ((p, w) :: P.zip vs) m p = _
   unfold bindC
   rw [jt fun v hv => (List.nodup_cons.mp nd).1 (List.of_mem_zip hv).1, if_neg hk]
   simp
 | p :: P, w :: vs, i + 1, m, nd, h1, h2, hk => by
   show bindC kindOf ((p, w) :: P.zip vs) m x = _
   unfold bindC
   exact iX (i := i) (List.nodup_cons.mp nd).2 (by simpa using h1) (by simpa using h2) hk
def start (N : List Str) (vs : List V) : St := vs.map some ++ List.replicate (N.length - vs.length) none
def my (CX : kG) (P : Program) (w : World) (K : PySem.W.Frag) (mg : Str -> Option Value) (base : Heap) (N : List Str) (qual : Str) (scope : Scope) (f : Addr) (cd : Value) (A : Around) (outer : List Env) (s : Shared) (H : Hp) (E : XK) : Cx where
 prog := P
 w := w
 K := K
 mg := mg
 base := base
 A := A.deeper (envOfC qual scope s.heap.objs.size f cd)
 N := N
 bN := s
 ow := H
 env := envOfC qual scope s.heap.objs.size f cd
 outer := outer
 stack := envOfC qual scope s.heap.objs.size f cd :: outer
 ex := []
 calm := true
 fn := fun _ => true
 pn := []
 xe := fun e s' => wpAny (model P w) (A.deeper (envOfC qual scope s.heap.objs.size f cd)) (leaving (envOfC qual scope s.heap.objs.size f cd) e) (fun _ Cd => CX outer H s E e Cd) (fun e' Cd => CX outer H s E e' Cd) s'
theorem kO {sc : Scope} {n : Nat} {x : Str} (h : sc.names.lookup x = some .cell) : ∃ c, (cellsFrom n sc.names []).lookup x = some c := by
 have q := PySem.W.cellsFrom_some sc.names n [] (.inl h)
 exact Option.isSome_iff_exists.mp q
theorem oC {CX : kG} {P : Program} {w : World} {K : PySem.W.Frag} {mg : Str -> Option Value} {base : Heap} {N ps : List Str} {qual : Str} {scope : Scope} {f : Addr} {cd : Value} {A : Around} {outer : List Env} {s s1 : Shared} {H : Hp} {E : XK} {us : List Value} {vs : List V}
 (S : bb N ps scope) (hd : A.handled = none) (e0 : md P w K mg base A outer s H) (hl : vs.length = ps.length) (r : Vals vs us)
 (x : InCallC s s.heap.objs.size (bindL (envOfC qual scope s.heap.objs.size f cd).kindOf (ps.zip us) fun _ => none) (cellsFrom (s.heap.objs.size + 1) scope.names []) (bindC (envOfC qual scope s.heap.objs.size f cd).kindOf (ps.zip us) fun _ => none) s1) :
 Inv (my CX P w K mg base N qual scope f cd A outer s H E) [] (start N vs) H s1 := by
 have ka : ps.length <= N.length := by have := congrArg List.length S.pre; rw [List.length_take] at this; omega
 obtain ⟨h1, tk, rfl, hk⟩ := x.done
 have sV : ∀ b : Addr, b ∉ (my CX P w K mg base N qual scope f cd A outer s H E).ex := fun b z => absurd (show b ∈ ([] : List Addr) from z) (by simp)
 refine ⟨⟨e0.mod, S.kind, rfl, rfl, Nat.le_refl _, fun y z c h1 h2 => ?_, fun y hy => ?_, fun y c _ h => ?_, fun _ => hd, Around.frames_deeper e0.frames, .inr ⟨rfl, rfl⟩, fun b z => absurd z (sV b), e0.bs, e0.qg, fun b _ _ => sV b, fun b z => absurd z (sV b), e0.fJ, e0.uw⟩,
  rfl, e0.bare, Un.kept hk, ⟨_, x.toInCall.ns, fun i y v h1 h2 h3 => ?_⟩, fun y c h => ⟨_, x.cell y c h⟩, e0.aL.fresh (Nat.le_refl _), fun y c h => ?_, fun p hp => absurd (show p ∈ ([] : List (Addr × Obj)) from hp) (by simp), e0.aL.kept hk, ?_⟩
 . exact name_of_addr x.apart (PySem.mem_of_lookup h1) (PySem.mem_of_lookup h2)
 . have hy : scope.names.lookup y = some .cell \/ scope.names.lookup y = some .free := hy
   rcases hy with hy | hy
   . exact kO hy
   . exact absurd rfl (S.w9 _ (PySem.mem_of_lookup hy))
 . exact Nat.le_of_lt (x.above y c (PySem.mem_of_lookup h))
 . have hi : i < vs.length := by
    unfold start at h2
    by_cases hi : i < vs.length
    . exact hi
    . rw [List.getElem?_append_right (by simpa using hi)] at h2
      rw [List.getElem?_replicate] at h2
      split at h2 <;> cases h2
   have ha : vs[i]? = some v := by
    unfold start at h2
    rw [List.getElem?_append_left (by simpa using hi), List.getElem?_map] at h2
    cases e : vs[i]? with
    | none => rw [e] at h2; cases h2
    | some a => rw [e] at h2; cases h2; rfl
   obtain ⟨u, hu, rv⟩ := r.get ha
   have hp : ps[i]? = some y := by
    rw [<- S.pre, List.getElem?_take_of_lt (by omega)]; exact h1
   have E7 : ps.Nodup := by rw [<- S.pre]; exact S.nd.sublist (List.take_sublist _ _)
   refine ⟨u, rv, ?_⟩
   rcases S.par y (List.mem_of_getElem? hp) with k | k
   . exact .inl ⟨k, jd E7 hp hu k⟩
   . obtain ⟨c, e⟩ := kO (n := s.heap.objs.size + 1) k
     refine .inr ⟨.inl k, c, e, ?_⟩
     have q := x.cell y c e
     rw [iX E7 hp hu (by show scope.names.lookup y ≠ _; rw [k]; decide)] at q
     exact q
 . exact e0.aL.fresh (Nat.le_of_lt (x.above y c (PySem.mem_of_lookup h)))
 . unfold start
   show _ = N.length
   rw [List.length_append, List.length_map, List.length_replicate]
   omega
theorem uY {CX : kG} {P : Program} {w : World} {K : PySem.W.Frag} {mg : Str -> Option Value} {base : Heap} {k : Nat} {f : Addr} {name qual : Str} {params : Arguments} {body : List Stmt} {scope : Scope} {dV kV doc pm du ct oc : Value} {an od : Option Addr}
 {oG : Array (Option Value)} {N ps : List Str} {sp : Sp} (lk : K.lookup f = some ⟨oc, od, .func (PySem.W.fnOf name qual params body scope dV kV doc pm an du ct), oG⟩) (iP : PySem.W.codeIn K du qual = true) (S : bb N ps scope)
 (len : ∀ vs H Q E, sp vs H Q E -> vs.length = ps.length)
 (eu : ∀ (A : Around) (outer : List Env) (s : Shared) (H : Hp) (vs : List V) (Q : VK) (E : XK), bo k (A.deeper (envOfC qual scope s.heap.objs.size f du)) -> sp vs H Q E ->
  ∃ t, k7 (my CX P w K mg base N qual scope f du A outer s H E) body t /\ t { nx := fun _ H' => Q .bG H', rt := Q } (start N vs) H) :
 bQ P w K mg base CX (k + 1) f (PySem.W.fnOf name qual params body scope dV kV doc pm an du ct) ps sp := by
 refine ⟨len, fun A outer s H args us vs Q E hr e0 hb r sj => ?_⟩
 have hl := len _ _ _ _ sj
 have KX : K.In s.heap := e0.mod.Dr.keeps fun b o e => (e0.bs b o e).1
 have lim : s.heap.NoLimit := e0.mod.nolimit.keeps fun b o e => (e0.bs b o e).1
 have zm : ∀ y ∈ ps.zip us, scope.names.lookup y.1 = some .local \/ (scope.names.lookup y.1 = some .cell /\ ((cellsFrom (s.heap.objs.size + 1) scope.names []).lookup y.1).isSome = true) := fun ⟨n, v⟩ hy => by
  rcases S.par n (List.of_mem_zip hy).1 with q | q
  . exact .inl q
  . exact .inr ⟨q, PySem.W.cellsFrom_some _ _ _ (.inl q)⟩
 refine codeAny_call_function hr.depth (KX _ _ lk) rfl S.co S.gen rfl (PySem.W.codeRec_of KX iP) (hb _ _ _ _ ?_)
 refine wpAny_newFunctionEnv_cells S.kind zm fun env he s1 x => ?_
 subst he
 refine ⟨lim.keeps x.toInCall.keep, codeAny_func ?_⟩
 obtain ⟨t, ht, hq⟩ := eu A outer s H vs Q E (hr.deeper _) sj
 have I : Inv (my CX P w K mg base N qual scope f du A outer s H E) [] (start N vs) H s1 := oC S hr.hd e0 hl r x
 refine wpAny_mono (ht [] s1 (start N vs) H _ I hq) (fun fl s' hs => ?_) fun e s' hs => hs
 have fin : ∀ {σ' : St} {H' : Hp} {v : V} {u : Value}, Inv (my CX P w K mg base N qual scope f du A outer s H E) [] σ' H' s' -> RelV v u -> Q v H' -> CE outer P w H s Q u s' :=
  fun {σ' H' v u} J rv q => ⟨v, H', J.os, J.bare, J.base, J.aL, rv, q⟩
 cases fl with
 | ret u =>
   obtain ⟨v, σ', H', J, rv, q⟩ := hs
   exact fin J rv q
 | next =>
   obtain ⟨σ', H', J, q⟩ := hs
   exact fin (v := V.bG) (u := Value.none) J rfl q
 | brk =>
   obtain ⟨_, _, _, q⟩ := hs
   exact False.elim q
 | cont =>
   obtain ⟨_, _, _, q⟩ := hs
   exact False.elim q
section
variable {X : Cx} {x : Str} {p pos : Pos} {e : Expr} {es : List Expr} {t : TA} {id T : String} {r : List V -> Hp -> VK -> Prop}
def Dy (r : List V -> Hp -> VK -> Prop) (t : TA) : TE := fun σ H Q => t σ H fun vs H1 => r vs H1 Q
theorem cA (hc : dB X (.builtin id) r) (hg : Gl X x) (hm : X.mg x = none) (hv : bootBuiltins x = some (.builtin id)) (ha : PA X (e :: es) t) (hn : x ≠ "__name__" := by decide) (uP : (x == ("__debug__" : Str)) = false := by decide)
 (he : starEach (e :: es) X.env = (false, eval e X.env) :: starEach es X.env := by rfl) (ka : (backTo pos (starEach es X.env)).any (·.1) = false := by rfl) : PE X (.Call (.Name x p) (e :: es) [] pos) (Dy r t) := by
 intro pins s σ H Q I h
 refine wpAny_Call_Name_kw (cN I hg hm hv ?_ hn uP)
 exact PyProof.Rows.callWith_builtin1 (bu (ha pos pins s σ H _ I h) fun us s1 ⟨vs, H1, I1, r1, q1⟩ => hc pins s1 σ H1 vs us Q I1 r1 q1) he ka
theorem jf (hc : dB X (.type T) r) (hg : Gl X x) (hm : X.mg x = none) (hv : bootBuiltins x = some (.type T)) (ha : PA X (e :: es) t) (hn : x ≠ "__name__" := by decide) (uP : (x == ("__debug__" : Str)) = false := by decide)
 (he : starEach (e :: es) X.env = (false, eval e X.env) :: starEach es X.env := by rfl) (ka : (backTo pos (starEach es X.env)).any (·.1) = false := by rfl) : PE X (.Call (.Name x p) (e :: es) [] pos) (Dy r t) := by
 intro pins s σ H Q I h
 refine wpAny_Call_Name_kw (cN I hg hm hv ?_ hn uP)
 exact PyProof.Rows.callWith_type1 (bu (ha pos pins s σ H _ I h) fun us s1 ⟨vs, H1, I1, r1, q1⟩ => hc pins s1 σ H1 vs us Q I1 r1 q1) he ka
end
end L2
namespace HT
open PySem PyProof.Rows
section
open PySem.SeqAt
open PySem.AutoSeq1 (wpAny_loadPart')
open PySem.MeetsSeq PySem.MeetsSeq2 PySem.MeetsSeq3
end
section
variable {prog : Program} {w : World} {A : Around} {E : Value -> Shared -> Prop} {s : Shared}
def lq (n d : Nat) : Option Int -> Nat
 | none => d
 | some v => if v < 0 then (v + (n : Int)).toNat else min v.toNat n
theorem nj (n d k : Nat) : lq n d (some (k : Int)) = min k n := by
 show (if (k : Int) < 0 then ((k : Int) + (n : Int)).toNat else min (k : Int).toNat n) = min k n
 rw [if_neg (by omega), Int.toNat_natCast]
end
end HT
namespace L2
open PySem PySem.Spec PyProof.Rows
abbrev TO := St -> Hp -> (Option Int -> Hp -> Prop) -> Prop
def PO (X : Cx) (e : Option Expr) (t : TO) : Prop :=
 ∀ (pins : List (Addr × Obj)) (s : Shared) (σ : St) (H : Hp) (Q : Option Int -> Hp -> Prop), Inv X pins σ H s -> t σ H Q ->
   wpAny (model X.prog X.w) X.A (evalPart e X.env) (fun u s' => ∃ o H', Inv X pins σ H' s' /\ IsPart u o /\ Q o H') X.xe s
def nO : TO := fun _ H Q => Q none H
def vb (t : TE) : TO := fun σ H Q => t σ H fun x H1 => ∃ i, x = .int i /\ Q (some i) H1
section
variable {X : Cx} {e : Expr} {te : TE} {lo hi : Option Expr} {tl th : TO} {pos p2 : Pos}
theorem eG : PO X none nO := by
 intro pins s σ H Q I h
 rw [evalPart_none]
 exact wpAny_pure ⟨none, H, I, .none, h⟩
theorem c4 (h : PE X e te) : PO X (some e) (vb te) := by
 intro pins s σ H Q I hw
 rw [evalPart_some]
 refine bu (h pins s σ H _ I hw) fun u s1 ⟨x, H1, I1, r1, q1⟩ => ?_
 obtain ⟨i, rfl, q⟩ := q1
 obtain ⟨t, rfl⟩ := r1
 exact ⟨some i, H1, I1, .int i t, q⟩
def C8 (X : Cx) (r : V -> Option Int -> Option Int -> Hp -> VK -> Prop) : Prop :=
 ∀ (pins : List (Addr × Obj)) (s : Shared) (σ : St) (H : Hp) (x : V) (v vl vu : Value) (lo hi : Option Int) (sl : Addr) (Q : VK), Inv X pins σ H s -> RelV x v -> s.heap.IsSliceOf sl vl vu .none -> IsPart vl lo -> IsPart vu hi -> r x lo hi H Q ->
   ∃ T id, typeLookup (.type T) "__getitem__" = pure (some (.builtin id)) /\ s.TypeIs v T /\ wpAny (model X.prog X.w) X.A (getItem v (.ref sl)) (EP X pins σ Q) X.xe s
def EI (r : V -> Option Int -> Option Int -> Hp -> VK -> Prop) (te : TE) (tl th : TO) : TE := fun σ H Q => te σ H fun x H1 => tl σ H1 fun l H2 => th σ H2 fun u H3 => r x l u H3 Q
theorem cT {r : V -> Option Int -> Option Int -> Hp -> VK -> Prop} (hr : C8 X r) (he : PE X e te) (hl : PO X lo tl) (hu : PO X hi th) : PE X (.Subscript e (.Slice lo hi none p2) pos) (EI r te tl th) := by
 intro pins s σ H Q I h
 refine Subscript_ (bu (he pins s σ H _ I h) fun v s1 ⟨x, H1, I1, r1, q1⟩ => ?_)
 refine wpAny_Slice (bu (hl pins s1 σ H1 _ I1 q1) fun vl s2 ⟨l, H2, I2, pl, q2⟩ => bu (hu pins s2 σ H2 _ I2 q2) fun vu s3 ⟨u, H3, I3, pu, q3⟩ => ?_)
 rw [evalPart_none]
 refine wpAny_pure ?_
 have I4 : Inv X pins σ H3 { s3 with heap := s3.heap.push { cls := .type "slice", data := .fields #[vl, vu, .none] } } := I3.kept (t' := s3.toks) fun b ob q => Heap.get?_push_of_some _ q
 obtain ⟨T, id, hT, ht, hg⟩ := hr pins { s3 with heap := s3.heap.push { cls := .type "slice", data := .fields #[vl, vu, .none] } } σ H3 x v vl vu l u s3.heap.objs.size Q I4 r1 (Heap.IsSliceOf.new ..) pl pu q3
 show wpAny (model X.prog X.w) X.A (subscriptTail e (.Slice lo hi none p2) v (.ref s3.heap.objs.size)) (EP X pins σ Q) X.xe { s3 with heap := s3.heap.push { cls := .type "slice", data := .fields #[vl, vu, .none] } }
 exact tail_any (ops := [.ref s3.heap.objs.size, v]) ht hT hg (by with_unfolding_all rfl)
def oJ (xs : List V) (lo hi : Option Int) : List V := (xs.drop (HT.lq xs.length 0 lo)).take (HT.lq xs.length xs.length hi - HT.lq xs.length 0 lo)
theorem kF (xs : List V) (lo hi : Option Int) : (oJ xs lo hi).length <= xs.length := by
 unfold oJ
 rw [List.length_take, List.length_drop]
 omega
end
def pP (n : Nat) (i : Int) : Option Nat := if 0 <= i then (if i < n then some i.toNat else none) else if -(n : Int) <= i then some (i + n).toNat else none
def j3 {α : Type} (xs : List α) (i : Int) : Option α := (pP xs.length i).bind fun j => xs[j]?
theorem nA {n : Nat} {i : Int} {j : Nat} (h : pP n i = some j) : seqIndex? i n = some j /\ j < n /\ -(n : Int) <= i /\ i < n := by
 unfold pP at h
 by_cases h0 : 0 <= i
 . rw [if_pos h0] at h
   by_cases h1 : i < n
   . rw [if_pos h1] at h
     have e : i.toNat = j := Option.some.inj h
     exact ⟨by rw [seqIndex_of h0 h1, e], by omega, by omega, h1⟩
   . rw [if_neg h1] at h; cases h
 . rw [if_neg h0] at h
   by_cases h1 : -(n : Int) <= i
   . rw [if_pos h1] at h
     have e : (i + n).toNat = j := Option.some.inj h
     exact ⟨by rw [seqIndex_neg (by omega) h1, e], by omega, h1, by omega⟩
   . rw [if_neg h1] at h; cases h
theorem jS {α : Type} {xs : List α} {i : Int} {v : α} (h : j3 xs i = some v) : ∃ j, seqIndex? i xs.length = some j /\ xs[j]? = some v /\ j < xs.length /\ -(xs.length : Int) <= i /\ i < xs.length := by
 unfold j3 at h
 cases e : pP xs.length i with
 | none => rw [e] at h; cases h
 | some j =>
   rw [e] at h
   obtain ⟨h1, h2, h3, h4⟩ := nA e
   exact ⟨j, h1, h, h2, h3, h4⟩
theorem dQ {α : Type} {xs : List α} {j : Nat} {v : α} (h : xs[j]? = some v) : j3 xs (j : Int) = some v := by
 have hj : j < xs.length := (List.getElem?_eq_some_iff.mp h).1
 have e : pP xs.length (j : Int) = some j := by
  unfold pP
  rw [if_pos (by omega), if_pos (by omega)]; simp
 unfold j3; rw [e]; exact h
def uq (b : Expr) : Prop := ∀ o i, subscripted b false o i = operate [o, i] (getItem o i)
def pI (X : Cx) (r : R2) : Prop :=
 ∀ (value slice : Expr) (pins : List (Addr × Obj)) (s : Shared) (σ : St) (H : Hp) (x y : V) (v u : Value) (Q : VK), Inv X pins σ H s -> RelV x v -> RelV y u -> r x y H Q ->
   subscripted slice false v u = operate [v, u] (getItem v u) -> wpAny (model X.prog X.w) X.A (subscriptTail value slice v u) (EP X pins σ Q) X.xe s
def GO (X : Cx) (id : String) (r : V -> List V -> Hp -> VK -> Prop) : Prop :=
 ∀ (pins : List (Addr × Obj)) (s : Shared) (σ : St) (H : Hp) (x : V) (xs : List V) (v : Value) (us : List Value) (Q : VK), Inv X pins σ H s -> RelV x v -> Vals xs us -> r x xs H Q ->
   wpAny (model X.prog X.w) X.A (call (.builtin id) (v :: us)) (EP X pins σ Q) X.xe s
section
variable {X : Cx} {a b : Expr} {ta tb : TE} {pos : Pos}
theorem pI.or {r r' : R2} (h : pI X r) (h' : pI X r') : pI X (fun x y H Q => r x y H Q \/ r' x y H Q) := by
 intro value slice pins s σ H x y v u Q I rx ry q hs
 rcases q with q | q
 . exact h value slice pins s σ H x y v u Q I rx ry q hs
 . exact h' value slice pins s σ H x y v u Q I rx ry q hs
theorem aP {r : R2} (hr : pI X r) (ha : PE X a ta) (hb : PE X b tb) (hs : uq b) : PE X (.Subscript a b pos) (Be r ta tb) := by
 intro pins s σ H Q I h
 exact Subscript_ (zj ha hb I h fun v u s2 x y H2 I2 rx ry q => hr a b pins s2 σ H2 x y v u Q I2 rx ry q (hs _ _))
def xT (K : PySem.W.Frag) : R2 := fun x y H Q => ∃ p xs i v, x = .ref p /\ y = .int i /\ bF K H p xs /\ j3 xs i = some v /\ Q v H
def zp (K : PySem.W.Frag) : R2 := fun x y H Q => ∃ p xs i v, x = .ref p /\ y = .int i /\ n5 K H p xs /\ j3 xs i = some v /\ Q v H
def yu : R2 := fun x y H Q => ∃ z i c, x = .str z /\ y = .int i /\ z.length <= sizeLine /\ j3 z.cps.toList i = some c /\ Q (.str ⟨#[c]⟩) H
theorem m8 : pI X (xT X.K) := by
 intro value slice pins s σ H x y v u Q I rx ry h hs
 obtain ⟨p, xs, i, z, rfl, rfl, hq, he, q⟩ := h
 cases rx
 obtain ⟨t, rfl⟩ := ry
 obtain ⟨au, r, pl, hz⟩ := I.list hq
 obtain ⟨j, h1, h2, h3, h4, h5⟩ := jS he
 obtain ⟨w, ew, rl⟩ := r.get h2
 have hl := r.length
 have hn := fZ
 have fin : EP X pins σ Q w s := ⟨z, H, I, rl, q⟩
 by_cases h0 : 0 <= i
 . have hj : i.toNat = j := by
    rw [seqIndex_of h0 h5] at h1
    exact Option.some.inj h1
   exact item_listR pl.isList h0 (by omega) (by rw [hj]; simpa using ew) fin hs
 . have hj : (i + (au.toArray.size : Int)).toNat = j := by
    rw [seqIndex_neg (by omega) h4] at h1
    rw [List.size_toArray, <- hl]
    exact Option.some.inj h1
   exact subscriptTail_builtinR (x := w) pl.isList.typeIs slot_list_getitem.lookup
    (wpAny_getItem_list_neg (Q := fun r s' => r = w /\ EP X pins σ Q r s') pl.isList (by omega) (by rw [List.size_toArray] <;> omega) (by omega) (by rw [hj]; simpa using ew) ⟨rfl, fin⟩) hs
theorem yg : pI X (zp X.K) := by
 intro value slice pins s σ H x y v u Q I rx ry h hs
 obtain ⟨p, xs, i, z, rfl, rfl, hq, he, q⟩ := h
 cases rx
 obtain ⟨t, rfl⟩ := ry
 obtain ⟨au, r, pl, hz⟩ := I.tuple hq
 obtain ⟨j, h1, h2, h3, h4, h5⟩ := jS he
 obtain ⟨w, ew, rl⟩ := r.get h2
 have hl := r.length
 have hn := fZ
 have fin : EP X pins σ Q w s := ⟨z, H, I, rl, q⟩
 exact subscriptTail_builtinR (x := w) pl.typeIs slot_tuple_getitem.lookup
  (getItem_tuple (j := j) (Q := fun r s' => r = w /\ EP X pins σ Q r s') pl (by omega) (by omega) (by rw [List.size_toArray, <- hl]; exact h1) (by simpa using ew) ⟨rfl, fin⟩) hs
theorem xg : pI X yu := by
 intro value slice pins s σ H x y v u Q I rx ry h hs
 obtain ⟨z, i, c, rfl, rfl, hz, he, q⟩ := h
 obtain ⟨t, rfl⟩ := rx
 obtain ⟨t', rfl⟩ := ry
 obtain ⟨j, h1, h2, h3, h4, h5⟩ := jS he
 have hl : z.cps.toList.length = z.length := by simp [Str.length]
 rw [hl] at h1 h4 h5
 have hn := fZ
 exact tail_any (typeIs_str s z t) slot_str_getitem.lookup (getItem_str (c := c) (by
  have e1 : decide (i < -(2 ^ 63 : Int)) = false := decide_eq_false (by omega)
  have e2 : decide (i ≥ 2 ^ 63) = false := decide_eq_false (by omega)
  rw [e1, e2, Bool.or_false]) (by rw [h1]; simpa using h2) ⟨.str ⟨#[c]⟩, H, I.tok _, ⟨_, rfl⟩, q⟩) hs
def Fj (K : PySem.W.Frag) : R2 := fun x y H Q => xT K x y H Q \/ zp K x y H Q \/ yu x y H Q
theorem wV : pI X (Fj X.K) := m8.or (yg.or xg)
theorem lJ (au : List Value) (n j : Nat) (u : Value) : Obj.mapSeq (·.setIfInBounds j u) { cls := .type "list", data := .seq au.toArray n } = { cls := .type "list", data := .seq (au.set j u).toArray n } := by
 simp [Obj.mapSeq]
theorem Inv.lst {pins : List (Addr × Obj)} {σ : St} {H : Hp} {s : Shared} {p : Addr} {xs : List V} (I : Inv X pins σ H s) (h : H p = some (.lst xs)) :
 ∃ (au : List Value) (n : Nat), Vals xs au /\ s.heap.get? p = some { cls := .type "list", data := .seq au.toArray n } /\ xs.length <= sizeLine := by
 obtain ⟨z, au, n, r, e⟩ := I.aL p _ h
 exact ⟨au, n, r, e, z⟩
theorem Inv.xt {pins : List (Addr × Obj)} {σ : St} {H : Hp} {s : Shared} {p : Addr} {xs ys : List V} {au its' : List Value} {n n' : Nat} {f : Obj -> Obj} (I : Inv X pins σ H s) (h : H p = some (.lst xs))
 (ho : s.heap.get? p = some { cls := .type "list", data := .seq au.toArray n }) (hf : f { cls := .type "list", data := .seq au.toArray n } = { cls := .type "list", data := .seq its'.toArray n' }) (r : Vals ys its') (hz : ys.length <= sizeLine) (t : Nat) :
 Inv X pins σ (upd H p (.lst ys)) { s with heap := s.heap.update p f, toks := t } := by
 have e : (s.heap.update p f).get? p = some { cls := .type "list", data := .seq its'.toArray n' } := by
  rw [Heap.get?_update_self f ho (by rw [hf] <;> rfl), hf]
 refine I.write (x := p) (e := p) (by rw [h]; trivial) (.inl rfl) (fun b u hb q => (Heap.get?_update_other _ _ (Ne.symm hb)).trans q) ⟨_, e⟩ ?_
 exact ⟨hz, its', n', r, e⟩
def vg : V -> V -> V -> Hp -> (Hp -> Prop) -> Prop := fun o i v H Q => ∃ p xs k j, o = .ref p /\ i = .int k /\ H p = some (.lst xs) /\ pP xs.length k = some j /\ Q (upd H p (.lst (xs.set j v)))
theorem set_list : zJ X vg := by
 intro pins s σ H o i v ov iv u Q I ro ri rv h
 obtain ⟨p, xs, k, j, rfl, rfl, hp, hj, q⟩ := h
 cases ro
 obtain ⟨t, rfl⟩ := ri
 obtain ⟨au, n, r, ho, hz⟩ := I.lst hp
 obtain ⟨h1, h2, h3, h4⟩ := nA hj
 have hl := r.length
 have hn := fZ
 have I' : Inv X pins σ (upd H p (.lst (xs.set j v))) { s with heap := s.heap.update p (Obj.mapSeq (·.setIfInBounds j u)) } :=
  I.xt hp ho (lJ au n j u) (r.set rv j) (by rw [List.length_set]; exact hz) s.toks
 by_cases h0 : 0 <= k
 . have hk : k.toNat = j := by
    rw [seqIndex_of h0 h4] at h1
    exact Option.some.inj h1
   exact PySem.W.ki_setAt ho h0 (by omega) (by rw [List.size_toArray, <- hl]; exact h4) (by rw [hk]; exact ⟨_, I', q⟩)
 . have hk : (k + (au.toArray.size : Int)).toNat = j := by
    rw [seqIndex_neg (by omega) h3] at h1
    rw [List.size_toArray, <- hl]
    exact Option.some.inj h1
   exact PySem.W.ki_setBack ho (by omega) (by rw [List.size_toArray, <- hl]; exact h3) (by omega) (by rw [hk]; exact ⟨_, I', q⟩)
theorem jR (lo hi : Option Int) (n : Nat) : (sliceBounds lo hi none n).1 = ((HT.lq n 0 lo : Nat) : Int) /\ (sliceBounds lo hi none n).2.1 = ((HT.lq n n hi : Nat) : Int) /\ (sliceBounds lo hi none n).2.2 = 1 := by
 refine ⟨?_, ?_, rfl⟩
 . cases lo with
   | none => simp [sliceBounds, HT.lq]
   | some i =>
     simp only [sliceBounds, HT.lq, Option.getD_none, show (1 : Int) > 0 by decide, if_true]
     by_cases h : i < 0
     . simp only [h, if_true] <;> omega
     . simp only [h, if_false] <;> omega
 . cases hi with
   | none => simp [sliceBounds, HT.lq]
   | some i =>
     simp only [sliceBounds, HT.lq, Option.getD_none, show (1 : Int) > 0 by decide, if_true]
     by_cases h : i < 0
     . simp only [h, if_true] <;> omega
     . simp only [h, if_false] <;> omega
theorem iH (au : List Value) (lo hi : Option Int) : slicePick au.toArray lo hi none = ((au.drop (HT.lq au.length 0 lo)).take (HT.lq au.length au.length hi - HT.lq au.length 0 lo)).toArray := by
 obtain ⟨h1, h2, h3⟩ := jR lo hi au.toArray.size
 unfold slicePick
 rw [h1, h2, h3]
 simp only [sliceRange_one, pick_run, List.size_toArray] <;> rfl
def Ba (K : PySem.W.Frag) : V -> Option Int -> Option Int -> Hp -> VK -> Prop := fun x lo hi H Q => ∃ a xs, x = .ref a /\ bF K H a xs /\ ∀ p, H p = none -> Q (.ref p) (upd H p (.lst (oJ xs lo hi)))
theorem tu : C8 X (Ba X.K) := by
 intro pins s σ H x v vl vu lo hi sl Q I rx hs pl pu h
 obtain ⟨a, xs, rfl, hx, q⟩ := h
 cases rx
 obtain ⟨au, r, ht, hz⟩ := I.list hx
 have hlen := r.length
 refine ⟨"list", _, slot_list_getitem.lookup, ht.isList.typeIs, ?_⟩
 refine wpAny_getItem_list_slice ht.isList hs pl pu .none (by simp) ?_ (by rw [List.size_toArray] <;> omega)
 rw [iH, <- hlen]
 refine ⟨.ref s.heap.objs.size, _, I.laid (t' := s.toks) (o := .lst (oJ xs lo hi)) (fun b ob q => Heap.get?_push_of_some _ q) (Nat.le_refl _) ?_, rfl, q _ (I.aL.fresh (Nat.le_refl _))⟩
 exact ⟨Nat.le_trans (kF xs lo hi) hz, _, 0, (r.drop (HT.lq xs.length 0 lo)).take (HT.lq xs.length xs.length hi - HT.lq xs.length 0 lo), Heap.get?_push_size _ rfl⟩
theorem dN : dB X (.builtin "len") (fun xs H Q => ∃ p ys, xs = [.ref p] /\ (bF X.K H p ys \/ n5 X.K H p ys) /\ Q (.int ys.length) H) := by
 intro pins s σ H xs us Q I r h
 obtain ⟨p, ys, rfl, hq, q⟩ := h
 obtain ⟨u, rfl, rx⟩ := vals1 r
 cases rx
 have hn := fZ
 rcases hq with hq | hq
 . obtain ⟨au, r', pl, hz⟩ := I.list hq
   have hlen := r'.length
   exact Calls.call_len_list pl.isList (by simp only [List.size_toArray] <;> omega) ⟨.int ys.length, H, I.tok _, ⟨s.toks + 1, by rw [List.size_toArray, hlen]⟩, q⟩
 . obtain ⟨au, r', pl, hz⟩ := I.tuple hq
   have hlen := r'.length
   exact len_tuple pl (by simp only [List.size_toArray] <;> omega) ⟨.int ys.length, H, I.tok _, ⟨s.toks + 1, by rw [List.size_toArray, hlen]⟩, q⟩
theorem jF : dB X (.builtin "len") (fun xs H Q => ∃ z, xs = [.str z] /\ z.length <= sizeLine /\ Q (.int z.length) H) := by
 intro pins s σ H xs us Q I r h
 obtain ⟨z, rfl, hz, q⟩ := h
 obtain ⟨u, rfl, t, rfl⟩ := vals1 r
 have hn := fZ
 exact len_str (by omega) ⟨.int z.length, H, I.tok _, ⟨_, rfl⟩, q⟩
theorem jU : dB X (.type "list") (fun xs H Q => ∃ p ys, xs = [.ref p] /\ (bF X.K H p ys \/ n5 X.K H p ys) /\ ∀ l, H l = none -> Q (.ref l) (upd H l (.lst ys))) := by
 intro pins s σ H xs us Q I r h
 obtain ⟨p, ys, rfl, hq, q⟩ := h
 obtain ⟨u, rfl, rx⟩ := vals1 r
 cases rx
 have fin : ∀ (au : List Value), Vals ys au -> ys.length <= sizeLine -> ∀ (h' : Heap) (c' : Nat), (∀ b o', s.heap.get? b = some o' -> h'.get? b = some o') ->
  h'.get? s.heap.objs.size = some { cls := .type "list", dict := none, data := .seq au.toArray c', slots := #[] } -> EP X pins σ Q (.ref s.heap.objs.size) { s with heap := h' } := fun au r' hz h' c' kp e =>
  ⟨.ref s.heap.objs.size, _, I.laid (t' := s.toks) kp (Nat.le_refl _) (show bx X.prog X.w _ h' _ (.lst ys) from ⟨hz, au, c', r', e⟩), rfl, q _ (I.aL.fresh (Nat.le_refl _))⟩
 rcases hq with hq | hq
 . obtain ⟨au, r', pl, hz⟩ := I.list hq
   have hlen := r'.length
   obtain ⟨o, ho, hc, n, hd⟩ := pl.isList
   exact call_list_seq p (.inl rfl) ho hc hd (fun h' c' kp e => fin au r' hz h' c' kp e) (by simp only [List.size_toArray] <;> omega)
 . obtain ⟨au, r', pl, hz⟩ := I.tuple hq
   have hlen := r'.length
   obtain ⟨o, ho, hc, n, hd⟩ := pl
   exact call_list_seq p (.inr rfl) ho hc hd (fun h' c' kp e => fin au r' hz h' c' kp e) (by simp only [List.size_toArray] <;> omega)
def Br (K : PySem.W.Frag) (T : String) (x : V) (H : Hp) : Prop := match x with
 | .str _ => T = "str"
 | .int _ => T = "int"
 | .ref p => (T = "list" /\ ∃ xs, bF K H p xs) \/ (T = "tuple" /\ ∃ o, K.lookup p = some o /\ o.cls = .type "tuple" /\ o.dict = none) \/
  (T = "dict" /\ ((∃ ax, H p = some (.dK ax)) \/ ∃ ax, H p = some (.dT ax))) \/ (T = "set" /\ ∃ S n, H p = some (.set S n))
 | _ => False
theorem qG {pins : List (Addr × Obj)} {σ : St} {H : Hp} {s : Shared} {T : String} {x : V} {v : Value} (I : Inv X pins σ H s) (r : RelV x v) (ty : Br X.K T x H) :
 s.TypeIs v T /\ ∀ a, v = .ref a -> ∃ ob, s.heap.get? a = some ob /\ ob.dict = none := by
 cases x with
 | str z =>
   obtain ⟨t, rfl⟩ := r
   cases (show T = "str" from ty)
   exact ⟨typeIs_str s z t, fun _ e => nomatch e⟩
 | int i =>
   obtain ⟨t, rfl⟩ := r
   cases (show T = "int" from ty)
   exact ⟨typeIs_int s i t, fun _ e => nomatch e⟩
 | ref p =>
   cases r
   rcases ty with ⟨rfl, xs, hq⟩ | ⟨rfl, o, hk, hc, hd⟩ | ⟨rfl, hk⟩ | ⟨rfl, S, n, hk⟩
   . obtain ⟨au, _, pl, _⟩ := I.list hq
     refine ⟨pl.isList.typeIs, fun a e => ?_⟩
     cases e
     obtain ⟨o, n, e, c, hd, _⟩ := pl
     exact ⟨o, e, hd⟩
   . refine ⟨⟨o, I.vS p o hk, hc⟩, fun a e => ?_⟩
     cases e
     exact ⟨o, I.vS _ o hk, hd⟩
   . have z : ∃ o, s.heap.get? p = some o /\ o.ExactDict := by
      rcases hk with ⟨ax, hk⟩ | ⟨ax, hk⟩
      . obtain ⟨_, _, _, _, o, _, _, e, ex, _⟩ := I.aL p _ hk
        exact ⟨o, e, ex⟩
      . obtain ⟨_, _, _, _, o, _, _, e, ex, _⟩ := I.aL p _ hk
        exact ⟨o, e, ex⟩
     obtain ⟨o, e, ex⟩ := z
     refine ⟨⟨o, e, ex.1⟩, fun a e2 => ?_⟩
     cases e2
     exact ⟨o, e, ex.2.1⟩
   . obtain ⟨o, _, _, _, e, ex, _⟩ := I.aL p _ hk
     refine ⟨⟨o, e, ex.1⟩, fun a e2 => ?_⟩
     cases e2
     exact ⟨o, e, ex.2.1⟩
 | _ => exact False.elim ty
def E1 (K : PySem.W.Frag) (T : String) (r : V -> List V -> Hp -> VK -> Prop) (to : TE) (t : TA) : TE := fun σ H Q => to σ H fun x H1 => Br K T x H1 /\ t σ H1 fun xs H2 => r x xs H2 Q
variable {o e : Expr} {es : List Expr} {to : TE} {t : TA} {name : Str} {apos bM : Pos} {T id : String} {r : V -> List V -> Hp -> VK -> Prop}
theorem rq (pa : PlainAttrs T) (slot : Slot T name id) (Gr : typeOf (.builtin id) = pure (.type "method_descriptor")) (hm : GO X id r) (ho : PE X o to) (ha : PA X (e :: es) t)
 (qH : attributeBase o name X.env (eval o X.env) = eval o X.env := by rfl)
 (CH : ((backTo bM (starEach (e :: es) X.env)).all (fun x => !x.1) && (backToKw bM (keywordEach [] X.env)).all (fun x => x.1.isSome)
  && decide ((e :: es).length + ([] : List Keyword).length + (if ([] : List Keyword).isEmpty then 0 else 1) < 30)) = true := by rfl)
 (hline : (apos.endLine == bM.line) = true := by rfl) (hs : starEach (e :: es) X.env = (false, eval e X.env) :: starEach es X.env := by rfl) (wt : (backTo bM (starEach es X.env)).any (·.1) = false := by rfl) :
 PE X (.Call (.Attribute o name apos) (e :: es) [] bM) (E1 X.K T r to t) := by
 intro pins s σ H Q I h
 refine wpAny_Call_method_late qH CH hline rfl (bu (ho pins s σ H _ I h) fun v s1 ⟨x, H1, I1, r1, ty, q1⟩ => ?_)
 obtain ⟨h1, h2⟩ := qG I1 r1 ty
 refine ⟨T, id, pa, slot, Gr, h1, h2, ?_⟩
 have hA := ha bM pins s1 σ H1 _ I1 q1
 rw [hs] at hA ⊢
 refine Calls.callWith_builtin (by show (false || (backTo bM (starEach es X.env)).any (·.1)) = false; rw [wt] <;> rfl) (Calls.evalArgs_plain ?_)
 exact bu hA fun us s2 ⟨vs, H2, I2, r2, q2⟩ => hm pins s2 σ H2 x vs v us Q I2 r1 r2 q2
end
def GL (X : Cx) (id : String) (r : V -> List V -> Hp -> VK -> Prop) : Prop :=
 ∀ (pins : List (Addr × Obj)) (s : Shared) (σ : St) (H : Hp) (x : V) (xs : List V) (v : Value) (us : List Value) (Q : VK), Inv X pins σ H s -> RelV x v -> Vals xs us -> r x xs H Q ->
   wpAny (model X.prog X.w) X.A (call (.builtin id) (v :: us)) (EP X pins σ Q) X.xe s
theorem Vals.one : ∀ {x : V} {us : List Value}, Vals [x] us -> ∃ u, us = [u] /\ RelV x u
 | _, _, .cons r .nil => ⟨_, rfl, r⟩
theorem Vals.reverse {xs : List V} {us : List Value} (h : Vals xs us) : Vals xs.reverse us.reverse := by
 induction h with
 | nil => exact .nil
 | cons r t ih => rw [List.reverse_cons, List.reverse_cons]; exact Vals.append ih (.cons r .nil)
section
variable {X : Cx} {pins : List (Addr × Obj)} {σ : St} {H : Hp} {s : Shared} {l b : Addr} {xs ys zs : List V}
theorem Inv.B9 {au its' : List Value} {n : Nat} {f : Array Value -> Array Value} {t' : Nat} (I : Inv X pins σ H s) (hH : H l = some (.lst xs))
 (e : s.heap.get? l = some { cls := .type "list", data := .seq au.toArray n }) (hf : f au.toArray = its'.toArray) (hv : Vals ys its') (hz : ys.length <= sizeLine) :
 Inv X pins σ (upd H l (.lst ys)) { s with heap := s.heap.update l (Obj.mapSeq f), toks := t' } := by
 have q := PySem.IsL.update e f
 rw [hf] at q
 refine I.write (x := l) (e := l) (by rw [hH]; exact trivial) (.inl rfl) (fun b' u hb hu => (Heap.get?_update_other s.heap (Obj.mapSeq f) (Ne.symm hb)).trans hu) ⟨_, q⟩ ?_
 exact ⟨hz, its', _, hv, q⟩
theorem Inv.CY {au : List Value} {t' : Nat} (I : Inv X pins σ H s) (hv : Vals ys au) (hz : ys.length <= sizeLine) :
 Inv X pins σ (upd H s.heap.objs.size (.lst ys)) { s with heap := s.heap.push { cls := .type "list", data := .seq au.toArray }, toks := t' } :=
 I.laid (fun _ _ q => Heap.get?_push_of_some _ q) (Nat.le_refl _) ⟨hz, au, 0, hv, Heap.get?_push_size _ rfl⟩
theorem Inv.fresh (I : Inv X pins σ H s) : H s.heap.objs.size = none := I.aL.fresh (Nat.le_refl _)
theorem Inv.wA (I : Inv X pins σ H s) (hH : H l = some (.lst xs)) : xs.length <= sizeLine /\ ∃ (au : List Value) (n : Nat), Vals xs au /\ xs.length = au.length /\ s.heap.get? l = some { cls := .type "list", data := .seq au.toArray n } := by
 obtain ⟨z, au, n, r, e⟩ := I.aL l _ hH
 exact ⟨z, au, n, r, r.length, e⟩
end
section
variable {X : Cx}
def nH : V -> List V -> Hp -> VK -> Prop := fun x vs H Q => ∃ l xs y, x = .ref l /\ vs = [y] /\ H l = some (.lst xs) /\ xs.length < sizeLine /\ Q .bG (upd H l (.lst (xs ++ [y])))
theorem fX : GL X "list.append" nH := by
 intro pins s σ H x vs v us Q I rx rv h
 obtain ⟨l, xs, y, rfl, rfl, hH, hz, q⟩ := h
 cases rx
 obtain ⟨u, rfl, ru⟩ := rv.one
 obtain ⟨z, au, n, r, hl, e⟩ := I.wA hH
 refine call_meets F.slot_list_append ⟨_, e, rfl⟩ F.entry_list_append (F.args_list_append_2 _ _) (PySem.list_append l au.toArray n u (by rw [List.size_toArray]; omega)) ⟨e, ?_⟩
 refine ⟨.bG, _, I.B9 (its' := au ++ [u]) hH e (by simp) (r.append (.cons ru .nil)) ?_, rfl, q⟩
 rw [List.length_append, List.length_singleton]
 omega
def Ac : R2 := fun x y H Q => ∃ l b xs zs, x = .ref l /\ y = .ref b /\ H l = some (.lst xs) /\ H b = some (.lst zs) /\ xs.length + zs.length <= sizeLine /\ ∀ p, H p = none -> Q (.ref p) (upd H p (.lst (xs ++ zs)))
theorem xP : gy X (binaryOp .Add) Ac := by
 intro pins s σ H x y v u Q I rx ry h
 obtain ⟨l, b, xs, zs, rfl, rfl, hH, hB, hz, q⟩ := h
 cases rx
 cases ry
 obtain ⟨z, au, n, r, hl, e⟩ := I.wA hH
 obtain ⟨z2, zF, n2, r2, Ef, e2⟩ := I.wA hB
 refine PySem.P.add_list e e2 ?_ (by rw [List.size_toArray, List.size_toArray]; omega)
 have ea : au.toArray ++ zF.toArray = (au ++ zF).toArray := by simp
 rw [ea]
 exact ⟨.ref _, _, I.CY (t' := s.toks) (r.append r2) (by rw [List.length_append]; omega), rfl, q _ I.fresh⟩
end
section
variable {prog : Program} {w : World} {A : Around} {E : Value -> Shared -> Prop} {s : Shared}
set_option maxRecDepth 100000 in
end
section
variable {X : Cx}
end
section
variable {κ : Type} [DecidableEq κ]
def fT (ax : List (κ × V)) (k : κ) : Option V := (ax.find? fun kv => decide (kv.1 = k)).map (·.2)
def putK (ax : List (κ × V)) (k : κ) (v : V) : List (κ × V) :=
 if (ax.any fun kv => decide (kv.1 = k)) = true then ax.map (fun kv => if kv.1 = k then (kv.1, v) else kv) else ax ++ [(k, v)]
theorem fM {p : κ × V} {r : List (κ × V)} {k : κ} (e : p.1 = k) : fT (p :: r) k = some p.2 := by simp [fT, List.find?_cons, e]
theorem eh {p : κ × V} {r : List (κ × V)} {k : κ} (e : ¬ p.1 = k) : fT (p :: r) k = fT r k := by simp [fT, List.find?_cons, e]
theorem ko (k : κ) : ∀ ax : List (κ × V), (ax.any fun kv => decide (kv.1 = k)) = (fT ax k).isSome
 | [] => rfl
 | p :: r => by
   rw [List.any_cons]
   by_cases e : p.1 = k
   . simp only [fM e, decide_eq_true e, Bool.true_or, Option.isSome_some]
   . rw [eh e, decide_eq_false e, Bool.false_or]; exact ko k r
theorem gD (ax : List (κ × V)) (k : κ) (v : V) : (putK ax k v).length <= ax.length + 1 := by
 unfold putK
 split
 . rw [List.length_map]; omega
 . rw [List.length_append, List.length_cons, List.length_nil]; omega
theorem iR.oi {o : Option V} {u : Option Value} (r : iR o u) : o.isSome = u.isSome := by
 cases o with
 | none => cases u with
   | none => rfl
   | some _ => exact (show False from r).elim
 | some _ => cases u with
   | none => exact (show False from r).elim
   | some _ => rfl
theorem KV.val {ax : List (κ × V)} {vs : List (κ × Value)} (r : KV ax vs) (k : κ) : iR (fT ax k) (valueAt vs k) := by
 unfold KV at r
 induction r with
 | nil => exact True.intro
 | @cons p q ps qs h t ih =>
   obtain ⟨h1, h2⟩ := h
   by_cases e : p.1 = k
   . have e' : q.1 = k := h1.symm.trans e
     have b : valueAt (q :: qs) k = some q.2 := by simp [valueAt, List.find?_cons, e']
     rw [fM e, b]; exact h2
   . have e' : ¬ q.1 = k := fun z => e (h1.trans z)
     have b : valueAt (q :: qs) k = valueAt qs k := by simp [valueAt, List.find?_cons, e']
     rw [eh e, b]; exact ih
theorem KV.any {ax : List (κ × V)} {vs : List (κ × Value)} (r : KV ax vs) (k : κ) : (ax.any fun kv => decide (kv.1 = k)) = vs.any fun kv => decide (kv.1 = k) := by
 unfold KV at r
 induction r with
 | nil => rfl
 | cons h t ih => rw [List.any_cons, List.any_cons, ih, h.1]
theorem KV.repl {ax : List (κ × V)} {vs : List (κ × Value)} (r : KV ax vs) (k : κ) {y : V} {u : Value} (ry : RelV y u) :
 KV (ax.map fun kv => if kv.1 = k then (kv.1, y) else kv) (vs.map fun kv => if kv.1 = k then (kv.1, u) else kv) := by
 unfold KV at r ⊢
 induction r with
 | nil => exact .nil
 | @cons p q ps qs h t ih =>
   rw [List.map_cons, List.map_cons]
   refine .cons ?_ ih
   obtain ⟨h1, h2⟩ := h
   by_cases e : p.1 = k
   . rw [if_pos e, if_pos (h1.symm.trans e)]; exact ⟨h1, ry⟩
   . rw [if_neg e, if_neg (fun z => e (h1.trans z))]; exact ⟨h1, h2⟩
theorem KV.put {ax : List (κ × V)} {vs : List (κ × Value)} (r : KV ax vs) (k : κ) {y : V} {u : Value} (ry : RelV y u) : KV (putK ax k y) (stored vs k u) := by
 unfold putK stored
 rw [r.any k]
 by_cases e : (vs.any fun kv => decide (kv.1 = k)) = true
 . rw [if_pos e, if_pos e]; exact r.repl k ry
 . rw [if_neg e, if_neg e]; exact Paired.snoc r ⟨rfl, ry⟩
theorem KV.length {ax : List (κ × V)} {vs : List (κ × Value)} (r : KV ax vs) : ax.length = vs.length := Paired.length r
end
theorem rD {P : Program} {w : World} {k : Key} {u : Value} (r : RelV (kV k) u) : (bf P w).is k u = true := by
 cases k with
 | inl i => obtain ⟨t, e⟩ := (show ∃ t, u = Value.int i t from r); subst e; exact kC P w i t
 | inr x => obtain ⟨t, e⟩ := (show ∃ t, u = Value.str x t from r); subst e; exact kl P w x t
theorem jq {P : Program} {w : World} : ∀ {ks : List Key} {us : List Value}, Vals (ks.map kV) us -> ItemsAre (bf P w) ks us
 | [], _, r => by rw [List.map_nil] at r; cases r; exact .nil
 | k :: ks, _, r => by
   rw [List.map_cons] at r
   cases r with
   | cons h t => exact .cons (rD h) (jq t)
abbrev KT (H : Hp) : List (List Key × V) -> List (List Key × Addr × Value) -> Prop := Paired fun p q => p.1 = q.1 /\ H q.2.1 = some (.tup (p.1.map kV)) /\ RelV p.2 q.2.2
theorem KT.val {H : Hp} {ax : List (List Key × V)} {xs : List (List Key × Addr × Value)} (r : KT H ax xs) (k : List Key) : iR (fT ax k) ((atKey xs k).map (·.2)) := by
 induction r with
 | nil => exact True.intro
 | @cons p q ps qs h t ih =>
   obtain ⟨h1, _, h2⟩ := h
   by_cases e : p.1 = k
   . have e' : q.1 = k := h1.symm.trans e
     have b : atKey (q :: qs) k = some q.2 := by simp [atKey, List.find?_cons, e']
     rw [fM e, b]; exact h2
   . have e' : ¬ q.1 = k := fun z => e (h1.trans z)
     have b : atKey (q :: qs) k = atKey qs k := by simp [atKey, List.find?_cons, e']
     rw [eh e, b]; exact ih
theorem KT.repl {H : Hp} {ax : List (List Key × V)} {xs : List (List Key × Addr × Value)} (r : KT H ax xs) (k : List Key) {y : V} {u : Value} (ry : RelV y u) :
 KT H (ax.map fun kv => if kv.1 = k then (kv.1, y) else kv) (xs.map (putAt k u)) := by
 induction r with
 | nil => exact .nil
 | @cons p q ps qs h t ih =>
   rw [List.map_cons, List.map_cons]
   refine .cons ?_ ih
   obtain ⟨h1, h2, h3⟩ := h
   unfold putAt
   by_cases e : p.1 = k
   . rw [if_pos e, if_pos (h1.symm.trans e)]; exact ⟨h1, h2, ry⟩
   . rw [if_neg e, if_neg (fun z => e (h1.trans z))]; exact ⟨h1, h2, h3⟩
theorem KT.put {H : Hp} {ax : List (List Key × V)} {xs : List (List Key × Addr × Value)} (r : KT H ax xs) (k : List Key) {b : Addr} {y : V} {u : Value} (hb : H b = some (.tup (k.map kV))) (ry : RelV y u) :
 KT H (putK ax k y) (storedH xs k b u) := by
 have e : (ax.any fun kv => decide (kv.1 = k)) = (atKey xs k).isSome := by
  rw [ko, (r.val k).oi, Option.isSome_map]
 unfold putK storedH
 rw [e]
 by_cases q : (atKey xs k).isSome = true
 . rw [if_pos q, if_pos q]; exact r.repl k ry
 . rw [if_neg q, if_neg q]; exact Paired.snoc r ⟨rfl, hb, ry⟩
theorem KT.keeps {H H' : Hp} {ax : List (List Key × V)} {xs : List (List Key × Addr × Value)} (r : KT H ax xs) (ht : ∀ b ys, H b = some (.tup ys) -> H' b = some (.tup ys)) : KT H' ax xs :=
 Paired.wL r fun _ _ z => ⟨z.1, ht _ _ z.2.1, z.2.2⟩
section
variable {P : Program} {w : World} {H : Hp} {h : Heap} {a : Addr}
theorem vi {u : HO} (ok : fc P w H h) (e : Rd H a u) : bx P w H h a u := e.ok ok
theorem rH {ax : List (Key × V)} (ok : fc P w H h) (e : Rd H a (.dK ax)) : ax.length <= sizeLine /\ (a == sysModules) = false /\ ∃ vs, KV ax vs /\ h.DictOf (bf P w) a vs :=
 show bx P w H h a (.dK ax) from vi ok e
theorem A6 {ax : List (Key × V)} (ok : fc P w H h) (e : H a = some (.dK ax)) : ax.length <= sizeLine /\ (a == sysModules) = false /\ ∃ vs, KV ax vs /\ h.DictOf (bf P w) a vs := rH ok (.inl e)
theorem lU {ks : List Key} (ok : fc P w H h) (e : H a = some (.tup (ks.map kV))) : (tupleKind (bf P w)).is h ks a := by
 obtain ⟨_, au, r, o, h1, h2, n, h3⟩ := (show bx P w H h a (.tup (ks.map kV)) from ok a _ e)
 exact ⟨o, au.toArray, n, h1, h2, h3, by simpa using jq r⟩
theorem p6 {ax : List (List Key × V)} (ok : fc P w H h) (e : Rd H a (.dT ax)) : ax.length <= sizeLine /\ (a == sysModules) = false /\
 ∃ xs, KT H ax xs /\ h.DictOfH (tupleKind (bf P w)) a xs := by
 obtain ⟨z, y, xs, r, o, es, ep, h1, h2, h3, h4, h5⟩ := (show bx P w H h a (.dT ax) from vi ok e)
 refine ⟨z, y, xs, r, o, es, ep, h1, h2, h3, h4, fun x hx => ?_, h5⟩
 have all : ∀ {l : List (List Key × V)} {m : List (List Key × Addr × Value)}, KT H l m -> ∀ x ∈ m, (tupleKind (bf P w)).is h x.1 x.2.1 := by
  intro l m q
  induction q with
  | nil => intro x hx; exact nomatch hx
  | @cons p q ps qs hq t ih =>
    intro x hx
    rcases List.mem_cons.mp hx with e | hx
    . subst e
      exact lU ok (by rw [<- hq.1]; exact hq.2.1)
    . exact ih x hx
 exact all r x hx
theorem y3 {ax : List (List Key × V)} (ok : fc P w H h) (e : H a = some (.dT ax)) : ax.length <= sizeLine /\ (a == sysModules) = false /\
 ∃ xs, KT H ax xs /\ h.DictOfH (tupleKind (bf P w)) a xs := p6 ok (.inl e)
end
def kI (H : Hp) (a : Addr) (y : V) (r : Option V) : Prop :=
 (∃ ax k, Rd H a (.dK ax) /\ y = kV k /\ r = fT ax k) \/ ∃ ax k b, Rd H a (.dT ax) /\ y = .ref b /\ H b = some (.tup (k.map kV)) /\ r = fT ax k
def lY (H : Hp) (a : Addr) (y v : V) (H' : Hp) : Prop :=
 (∃ ax k, H a = some (.dK ax) /\ y = kV k /\ ax.length < sizeLine /\ H' = upd H a (.dK (putK ax k v))) \/
 ∃ ax k b, H a = some (.dT ax) /\ y = .ref b /\ H b = some (.tup (k.map kV)) /\ ax.length < sizeLine /\ H' = upd H a (.dT (putK ax k v))
theorem kI.k {H : Hp} {a : Addr} {ax : List (Key × V)} {k : Key} (e : H a = some (.dK ax)) : kI H a (kV k) (fT ax k) := .inl ⟨ax, k, .inl e, rfl, rfl⟩
theorem lY.k {H : Hp} {a : Addr} {ax : List (Key × V)} {k : Key} {v : V} (e : H a = some (.dK ax)) (hl : ax.length < sizeLine) : lY H a (kV k) v (upd H a (.dK (putK ax k v))) := .inl ⟨ax, k, e, rfl, hl, rfl⟩
section
variable {X : Cx} {pins : List (Addr × Obj)} {σ : St} {H : Hp} {s : Shared} {a : Addr} {y v : V} {u r : Value} {o : Option V} {A : Around} {E : Value -> Shared -> Prop}
theorem Inv.big (I : Inv X pins σ H s) : sysModules < s.heap.objs.size := by
 have h : mainGlobals < s.heap.objs.size := (I.mod.glob.keeps I.bk).lt
 exact Nat.lt_trans (by decide) h
theorem oX {Q : Value -> Shared -> Prop} (hu : A.units + 1 < cLine) (I : Inv X pins σ H s) (g : kI H a y (some v)) (ry : RelV y u) (h : ∀ w' s', Inv X pins σ H s' -> RelV v w' -> Q w' s') :
 wpAny (model X.prog X.w) A (getItem (.ref a) u) Q E s := by
 rcases g with ⟨ax, k, e, ey, l⟩ | ⟨ax, k, b, e, ey, eb, l⟩
 . subst ey
   obtain ⟨z, hd, vs, rel, dd⟩ := rH I.aL e
   obtain ⟨w', hw, rl⟩ := iR.some_of (v := v) (o := valueAt vs k) (by rw [l]; exact rel.val k)
   exact wpAny_getItem_of (rD ry) dd.mapOf hw (h w' _ (I.tok _) rl)
 . subst ey
   cases (show u = Value.ref b from ry)
   obtain ⟨z, hd, xs, rel, dd⟩ := p6 I.aL e
   obtain ⟨w', hw, rl⟩ := iR.some_of (v := v) (o := (atKey xs k).map (·.2)) (by rw [l]; exact rel.val k)
   obtain ⟨p, hp, Av⟩ := Option.map_eq_some_iff.mp hw
   refine wpAny_getItem_heap (tupleKind_room_in1 hu) (lU I.aL eb) dd hp ?_
   rw [Av]
   exact h w' _ (I.tok _) rl
theorem mW {h' : Heap} {t' : Nat} {ob : HO} (I : Inv X pins σ H s) (mu : zc (H a)) (hs : Heap.SameBut a s.heap h') (he : ∃ q, h'.get? a = some q) (new : bx X.prog X.w (upd H a ob) h' a ob) :
 Inv X pins σ (upd H a ob) { s with heap := h', toks := t' } :=
 I.write (x := a) (e := a) mu (.inl rfl) (fun b q hb z => (hs.2 b hb).trans z) he new
theorem xG {P : Program} {w : World} {H' : Hp} {h' : Heap} {ax : List (Key × V)} {vs : List (Key × Value)} (z : ax.length <= sizeLine) (hd : (a == sysModules) = false) (rel : KV ax vs) (dd : h'.DictOf (bf P w) a vs) :
 bx P w H' h' a (.dK ax) := ⟨z, hd, vs, rel, dd⟩
theorem pE {H' : Hp} {Q : Unit -> Shared -> Prop} (hu : A.units + 1 < cLine) (I : Inv X pins σ H s) (g : lY H a y v H') (ry : RelV y u) (rv : RelV v r) (h : ∀ s', Inv X pins σ H' s' -> Q () s') :
 wpAny (model X.prog X.w) A (setItem (.ref a) u r) Q E s := by
 rcases g with ⟨ax, k, e, ey, l, eH⟩ | ⟨ax, k, b, e, ey, eb, l, eH⟩
 . subst ey eH
   obtain ⟨z, hd, vs, rel, dd⟩ := A6 I.aL e
   have hz : vs.length <= sizeLine := by rw [<- rel.length]; exact z
   have hl : (putK ax k v).length <= sizeLine := by have := gD ax k v; omega
   refine wpAny_setItem_pairs (hsz := hz) (rD ry) dd fun h' Bd hs => h _ ?_
   have he : ∃ q, h'.get? a = some q := let ⟨q, _, _, hq, _⟩ := Bd; ⟨q, hq⟩
   exact mW I (by rw [e]; exact True.intro) hs he (xG hl hd (rel.put k rv) Bd)
 . subst ey eH
   cases (show u = Value.ref b from ry)
   obtain ⟨z, hd, xs, rel, dd⟩ := y3 I.aL e
   have hz : xs.length <= sizeLine := by rw [<- Paired.length rel]; exact z
   have hl : (putK ax k v).length <= sizeLine := by have := gD ax k v; omega
   refine wpAny_setItem_heap (hsz := hz) (tupleKind_room_in1 hu) (lU I.aL eb) dd fun h' Bd hs => h _ ?_
   obtain ⟨q, es, ep, hq, h2, h3, h4, _, h5⟩ := Bd
   refine mW I (by rw [e]; exact True.intro) hs ⟨q, hq⟩ ⟨hl, hd, _, (rel.put k eb rv).keeps fun c ys ec => ?_, q, es, ep, hq, h2, h3, h4, h5⟩
   rw [aj (y7 ec e (fun z => nomatch z))]
   exact ec
end
section
variable {X : Cx} {pins : List (Addr × Obj)} {σ : St} {H : Hp} {s : Shared} {a : Addr} {ax : List (Key × V)} {k : Key} {u : Value} {A : Around} {E : Value -> Shared -> Prop}
end
def z4 (i : Expr) : Prop := ∀ ov iv, subscripted i false ov iv = operate [ov, iv] (getItem ov iv)
theorem uH {prog : Program} {w : World} {A : Around} {E : Value -> Shared -> Prop} {s : Shared} {env : Env} {value slice : Expr} {pos : Pos} {T id : String} {Q : Value -> Shared -> Prop}
 (hl : typeLookup (.type T) "__getitem__" = pure (some (.builtin id))) (hs : z4 slice)
 (h : wpAny (model prog w) A (eval value env) (fun o s₁ => wpAny (model prog w) A (eval slice env) (fun i s₂ => s₂.TypeIs o T /\ wpAny (model prog w) A (getItem o i) Q E s₂) E s₁) E s) :
 wpAny (model prog w) A (eval (.Subscript value slice pos) env) Q E s := by
 refine Subscript_ (wpAny_mono h (fun o s₁ h₁ => wpAny_mono h₁ (fun i s₂ h₂ => ?_) fun _ _ x => x) fun _ _ x => x)
 obtain ⟨hT, h₂⟩ := h₂
 unfold subscriptTail
 refine wpAny_bind ?_
 rw [getitemInPython_of_ne hT.not_modules]
 refine wpAny_bind (wpAny_specialOf hT hl ?_)
 have fin : wpAny (model prog w) A (subscripted slice false o i) (fun r s₃ => wpAny (model prog w) A (letTemporaryGo value o r >>= fun _ => pure r) Q E s₃) E s₂ := by
  rw [hs o i]
  exact wpAny_operating (wpAny_mono h₂ (fun r s₃ h₃ => wpAny_bind (wpAny_letTemporaryGo (wpAny_pure h₃))) fun _ _ x => x)
 first
  | exact wpAny_pure (wpAny_bind fin)
  | exact wpAny_bind (wpAny_pure (wpAny_bind fin))
  | exact wpAny_bind fin
theorem kM {X : Cx} {pins : List (Addr × Obj)} {σ : St} {H : Hp} {s : Shared} {a : Addr} {y : V} {o : Option V} (I : Inv X pins σ H s) (g : kI H a y o) : s.TypeIs (.ref a) "dict" := by
 rcases g with ⟨ax, k, e, _, _⟩ | ⟨ax, k, b, e, _, _, _⟩
 . obtain ⟨_, _, vs, _, dd⟩ := rH I.aL e
   exact dd.typeIs
 . obtain ⟨_, _, xs, _, dd⟩ := p6 I.aL e
   exact dd.typeIs
def uV (td ty : TE) : TE := fun σ H Q => td σ H fun x H1 => ty σ H1 fun y H2 => ∃ a v, x = .ref a /\ kI H2 a y (some v) /\ Q v H2
def u3 (td ty tv : TE) : TS := fun D σ H => tv σ H fun v H1 => td σ H1 fun x H2 => ty σ H2 fun y H3 => ∃ a H4, x = .ref a /\ lY H3 a y v H4 /\ D.nx σ H4
section
variable {X : Cx} {o i e value : Expr} {pos pos' wJ : Pos} {td ty tv : TE}
theorem tW (hu : X.A.units + 1 < cLine) (ho : PE X o td) (hi : PE X i ty) (hs : z4 i) : PE X (.Subscript o i pos) (uV td ty) := by
 intro pins s σ H Q I h
 refine uH PySem.F.slot_dict_getitem.lookup hs (bu (ho pins s σ H _ I h) fun u s1 ⟨x, H1, I1, rx, q1⟩ => bu (hi pins s1 σ H1 _ I1 q1) fun iv s2 ⟨y, H2, I2, ry, a, v, ex, g, q2⟩ => ?_)
 subst ex
 obtain rfl : u = Value.ref a := rx
 exact ⟨kM I2 g, oX hu I2 g ry fun w' s3 I3 rl => ⟨v, H2, I3, rl, q2⟩⟩
theorem nr (hu : X.A.units + 1 < cLine) (ho : PE X o td) (hi : PE X i ty) (hv : PE X value tv) (hs : swapsWith value (some (.Subscript o i pos')) pos.line X.env = pure false) :
 PS X (.Assign [.Subscript o i pos'] value pos) (u3 td ty tv) := by
 intro pins s σ H D I h
 refine wpAny_Assign_Subscript (bu (hv pins s σ H _ I h) fun r s1 ⟨v, H1, I1, rv, q1⟩ => bu (ho pins s1 σ H1 _ I1 q1) fun u s2 ⟨x, H2, I2, rx, q2⟩ => bu (hi pins s2 σ H2 _ I2 q2) fun iv s3 ⟨y, H3, I3, ry, a, H4, ex, g, q3⟩ => ?_) hs
 subst ex
 obtain rfl : u = Value.ref a := rx
 exact pE hu I3 g ry rv fun s4 I4 => ⟨σ, H4, I4, q3⟩
end
theorem rO {P : Program} {w : World} {H : Hp} (h : Heap) (hb : sysModules < h.objs.size) : bx P w H (h.push { cls := .type "dict", data := .dict #[] }) h.objs.size (.dK []) :=
 ⟨Nat.zero_le _, beq_eq_false_iff_ne.mpr (Ne.symm (Nat.ne_of_lt hb)), [], .nil, Heap.DictOf.new h⟩
def rT : TE := fun _ H Q => ∀ p, H p = none -> Q (.ref p) (upd H p (.dK []))
section
variable {X : Cx} {pos : Pos}
theorem pR : PE X (.Dict [] [] pos) rT := fun pins s σ H Q I h =>
 wpAny_Dict_empty ⟨.ref s.heap.objs.size, _, I.laid (a := s.heap.objs.size) (o := .dK []) (t' := s.toks) (fun _ _ q => Heap.get?_push_of_some _ q) (Nat.le_refl _) (rO s.heap I.big), rfl, h _ (I.aL.fresh (Nat.le_refl _))⟩
end
structure M1 (X : Cx) (o : Expr) (m : Str) (apos : Pos) (e : Expr) (bM : Pos) : Prop where
 base : attributeBase o m X.env (eval o X.env) = eval o X.env
 few : ((backTo bM (starEach [e] X.env)).all (fun x => !x.1) && (backToKw bM (keywordEach [] X.env)).all (fun x => x.1.isSome)
  && decide (([e] : List Expr).length + ([] : List Keyword).length + (if ([] : List Keyword).isEmpty then 0 else 1) < 30)) = true
 line : (apos.endLine == bM.line) = true
 trees : backTo bM (starEach [e] X.env) = [(false, eval e X.env)]
structure M2 (X : Cx) (o : Expr) (m : Str) (apos : Pos) (e f : Expr) (bM : Pos) : Prop where
 base : attributeBase o m X.env (eval o X.env) = eval o X.env
 few : ((backTo bM (starEach [e, f] X.env)).all (fun x => !x.1) && (backToKw bM (keywordEach [] X.env)).all (fun x => x.1.isSome)
  && decide (([e, f] : List Expr).length + ([] : List Keyword).length + (if ([] : List Keyword).isEmpty then 0 else 1) < 30)) = true
 line : (apos.endLine == bM.line) = true
 trees : backTo bM (starEach [e, f] X.env) = [(false, eval e X.env), (false, eval f X.env)]
section
variable {X : Cx} {pins : List (Addr × Obj)} {σ : St} {H : Hp} {s : Shared} {a : Addr} {y d : V} {u r : Value} {o : Option V} {A : Around} {E : Value -> Shared -> Prop}
end
section
variable {X : Cx} {o e f : Expr} {apos bM : Pos} {td ty tx : TE}
end
section
variable {X : Cx} {pins : List (Addr × Obj)} {σ : St} {H : Hp} {s : Shared} {a : Addr} {ax : List (Key × V)} {A : Around} {E : Value -> Shared -> Prop}
end
section
variable {X : Cx} {pins : List (Addr × Obj)} {σ : St} {H : Hp} {s : Shared} {a : Addr} {y : V} {u : Value} {A : Around} {E : Value -> Shared -> Prop}
end
end L2
namespace En
open PySem PySem.W PySem.Calls PyProof.Rows
theorem gG {P : Params} {h : Heap} : ∀ (ns : List Int) (vs : List Value), WellAll P h vs (ns.map WData.int) -> IntsAre vs ns := by
 intro ns
 induction ns with
 | nil =>
   intro vs w
   rw [List.map_nil] at w
   cases w
   exact .nil
 | cons n ns ih =>
   intro vs w
   rw [List.map_cons] at w
   cases w with
   | cons a b =>
     cases a
     exact .cons _ _ (ih _ b)
theorem oO {l : OpenLaw} {n : Nat} (hn : l.most = some n) {P : Params} {h : Heap} {args : List WData} {vals : List Value}
 (sD : l.row.toRowW.claim.pre args = true) (Cb : WellAll P h vals args) :
 ∃ a vs ns, vals = [Value.ref a] /\ args = [WData.list (ns.map WData.int)] /\ h.get? a = some { cls := .type "list", data := .seq vs.toArray } /\ IntsAre vs ns /\ ns.length <= n := by
 have BG : WShape.hasAll [] args [.list .int] = true := (pre_splitW sD).1
 have hc : l.pre.holds [] { args := args } = true := (pre_splitW sD).2
 obtain ⟨d, r, rfl, h1, h2⟩ := hasAllW_cons BG
 obtain rfl := hasAllW_nil h2
 obtain ⟨xs, rfl, h3⟩ := hasW_list h1
 obtain ⟨ns, rfl⟩ := items_int h3
 have hlen : ns.length <= n := by
  unfold OpenLaw.pre at hc
  have h4 : (WTm.not (.lt (.lit (.int (n : Int))) (.len (.arg 0)))).holds [] { args := [.list (ns.map .int)] } = true := by
   have h4 := (holds_andW hc).1
   rw [hn] at h4
   exact h4
  have h5 := condW_of h4 (w_not (w_lt w_lit (w_len_list (w_arg rfl))))
  rw [List.length_map] at h5
  refine Nat.le_of_not_lt fun q => ?_
  have q' : (n : Int) < ((ns.length : Nat) : Int) := by omega
  first
   | (rw [decide_eq_true q'] at h5; exact absurd h5 (by decide))
   | (simp at h5; omega)
 cases Cb with
 | cons w1 w2 =>
   cases w2
   cases w1 with
   | list ho vP => exact ⟨_, _, ns, rfl, rfl, ho, gG ns _ vP, hlen⟩
theorem pG (l : OpenLaw) (args : List WData) : l.row.toRowW.claim.post args (.bool true) args = true :=
 postW_of (r := l.row.toRowW) (X := (true == true))
  (show WShape.has [] (.bool true) .bool = true by first | rfl | decide | simp [WShape.has, WShape.arms, WShape.armsAll])
  (show (WTm.eq .res (.lit (.bool true))).value [] { args := args, res := some (.bool true), after := args } = some (.bool (true == true)) from w_eq_bool (w_res rfl) w_lit) rfl
theorem j9 {l : OpenLaw} {n : Nat} {q : Program} {loose : List Str} {XP : (Str -> Option Value) -> Heap -> Prop} {YP : World -> Heap -> Prop} {d : DefRec}
 (hn : l.most = some n) (CG : d.params.defaults = [])
 (call : ∀ (w : World) (bN s₁ : Shared) (mg mb : Str -> Option Value) (fa : Addr) (o : Obj) (pm cd doc : Value) (a : Addr) (vs : List Value) (ns : List Int),
  Ground q loose [] XP w bN mg mb s₁.heap -> YP w s₁.heap ->
  s₁.heap.get? fa = some o -> o.data = .func (docDef d.name d.params d.body d.scope pm cd doc) -> s₁.heap.CodeRec cd d.name -> mg d.name = some (.ref fa) ->
  s₁.heap.get? a = some { cls := .type "list", data := .seq vs.toArray } -> IntsAre vs ns -> ns.length <= n -> s₁.gens = #[] ->
  codeAny (model l.prog w) callerA (.call (.ref fa) ⟨[.ref a], []⟩) (fun r s' => r = .ok (.ret (.bool true)) /\ OldK s₁.heap s'.heap /\ s'.os = s₁.os /\ AllBare s'.gens) s₁) :
 WalkO q loose XP YP l.row.toRowW d [] (fun f vs => PySem.call f vs) := by
 intro w bN s₁ mg mb G Y fa o pm cd doc dV kV ho hd iP hD wm hg args vals as sD HE HY Cb xo
 obtain rfl : dV = .none := Dflts.none hD CG
 obtain rfl : kV = .none := Dflts.noKw hD
 obtain ⟨a, vs, ns, rfl, rfl, xi, hints, hlen⟩ := oO hn sD Cb
 refine enter_call (codeAny_mono (call w bN s₁ mg mb fa o pm cd doc a vs ns G Y ho (fd_plain hd) iP wm xi hints hlen hg) fun r s' hq => ?_)
 obtain ⟨rfl, h2, h3, h4⟩ := hq
 exact ⟨.inl ⟨.bool true, .bool true, [], rfl, fun _ => rfl, .bool true, pG l _, fun _ => ⟨List.Pairwise.nil, fun _ hm => (nomatch hm)⟩⟩, h2, h3, h4⟩
section
variable {prog : Program} {w : World} {A : Around} {E : Value -> Shared -> Prop} {s : Shared} {K : Frag}
end
end En
namespace L2
open PySem PySem.Spec PyProof.Rows
theorem gf : ∀ {vs : List Value} {ns : List Int}, IntsAre vs ns -> Vals (ns.map V.int) vs
 | _, _, .nil => .nil
 | _, _, .cons n t h => .cons ⟨t, rfl⟩ (gf h)
def fE (s : Stmt) : Arguments := match s with
 | .FunctionDef _ a _ _ _ _ _ _ _ _ => a
 | _ => { posonlyargs := [], args := [], vararg := none, kwonlyargs := [], kw_defaults := [], kwarg := none, defaults := [] }
def dC (s : Stmt) : List Stmt := match s with
 | .FunctionDef _ _ b _ _ _ _ _ _ _ => b
 | _ => []
def aq (s : Stmt) : Scope := match s with
 | .FunctionDef _ _ _ _ _ _ sc _ _ _ => sc
 | _ => { kind := .function, names := [], isGenerator := false, isCoroutine := false }
abbrev gO : kG := fun _ _ _ _ _ _ => False
abbrev E0 : XK := fun _ _ _ => False
theorem zl {X : Cx} : Passes gO X E0 := fun _ _ _ _ _ _ _ h => h.elim
structure Ij (K : PySem.W.Frag) (x qual : Str) (st : Stmt) (f : Addr) (fd : FuncData) : Prop where
 ex : ∃ (oc : Value) (od : Option Addr) (kV doc pm : Value) (an : Option Addr) (du ct : Value) (oG : Array (Option Value)),
  fd = PySem.W.fnOf x qual (fE st) (dC st) (aq st) .none kV doc pm an du ct /\ K.lookup f = some ⟨oc, od, .func fd, oG⟩ /\ PySem.W.codeIn K du qual = true
 kp : PySem.W.keepIn K (.ref f) = true
section
variable {P : Program} {w : World} {K : PySem.W.Frag} {mg : Str -> Option Value} {base : Heap}
end
theorem qC {A : Around} {k : Nat} (hr : bo k A) : A.units + 1 < cLine := Nat.lt_of_le_of_lt (Nat.add_le_add_left (by decide : 1 <= 64) _) hr.units
section
variable {X : Cx}
theorem pv (i : Nat) {x : Str} {pos : Pos} (hN : X.N[i]? = some x := by rfl) (hv : yQ X.env.scope x := by first | exact Or.inl rfl | exact Or.inr (Or.inl rfl) | exact Or.inr (Or.inr rfl)) (hd : (x == ("__debug__" : Str)) = false := by decide)
 (iP : (x == ("__classdict__" : Str)) = false := by decide) : PE X (.Name x pos) (vX i) := vR hN hv hd iP
end
theorem B1 {A B : Prop} (h : B) : if false = true then A else B := by
 rw [if_neg Bool.false_ne_true]
 exact h
theorem Cy {A B : Prop} (h : A) : if true = true then A else B := by
 rw [if_pos rfl]
 exact h
def ai (H H' : Hp) : Prop := ∀ b o, H b = some o -> H' b = some o
theorem ai.refl (H : Hp) : ai H H := fun _ _ h => h
theorem ai.trans {H H1 H2 : Hp} (a : ai H H1) (b : ai H1 H2) : ai H H2 := fun c o h => b c o (a c o h)
theorem ai.seq {K : PySem.W.Frag} {H H' : Hp} {a : Addr} {xs : List V} (e : ai H H') (h : bF K H a xs) : bF K H' a xs := by
 rcases h with (h | ⟨o, h⟩) | h
 . exact .inl (.inl (e _ _ h))
 . exact .inl (.inr ⟨o, e _ _ h⟩)
 . exact .inr h
section
variable {κ : Type} [DecidableEq κ]
end
section
variable {X : Cx}
def nR (i j : Int) : Prop := i.natAbs < 2 ^ 2000 /\ j.natAbs < 2 ^ 2000
theorem nR.ok {i j : Int} (h : nR i j) : IntMulOk i j := by
 have h1 : Builtin.Int.intBits i <= 2000 := PyProof.Rows.intBits_le h.1
 have h2 : Builtin.Int.intBits j <= 2000 := PyProof.Rows.intBits_le h.2
 have h3 : Builtin.Int.intTooBig ((Builtin.Int.intBits i + Builtin.Int.intBits j : Nat) : Int) = false := by
  unfold Builtin.Int.intTooBig
  have : (bitsLine : Nat) = 134217728 := rfl
  refine decide_eq_false ?_
  omega
 unfold IntMulOk
 have h4 : Builtin.Int.intTooBig (Builtin.Int.intBits i + Builtin.Int.intBits j) = false := by
  have e : ((Builtin.Int.intBits i : Int) + (Builtin.Int.intBits j : Int)) = ((Builtin.Int.intBits i + Builtin.Int.intBits j : Nat) : Int) := by omega
  rw [e]; exact h3
 rw [h4]
 simp
theorem bO : gy X (binaryOp .Mult) (rI nR fun i j => .int (i * j)) := Bg fun _ _ _ _ _ _ _ hc q => mul_int q hc.ok
def uZ (_ j : Int) : Prop := 0 < j /\ j.natAbs < 2 ^ 2000
theorem aD : gy X (binaryOp .FloorDiv) (rI uZ fun i j => .int (i / j)) := Bg fun i j _ _ _ _ _ hc q => by
 have e : i.fdiv j = i / j := Int.fdiv_eq_ediv_of_nonneg _ (Int.le_of_lt hc.1)
 have hl : j.natAbs.log2 < 9000 := by
  have h0 : j.natAbs ≠ 0 := by have := hc.1; omega
  have h2 : j.natAbs.log2 < 2000 := (Nat.log2_lt h0).mpr hc.2
  omega
 refine floordiv_int (by have := hc.1; omega) ?_ (.inl (PyProof.noPylong_of_log2 hl))
 rw [e]; exact q
inductive AG : V -> Value -> Prop where
 | ty (n : String) : AG (.ty n) (.type n)
 | ref (C : Addr) : AG (.ref C) (.ref C)
structure Fe (K : PySem.W.Frag) (C : Addr) (m : Str) (f : Addr) : Prop where
 ga : PySem.W.specialIn K (.ref C) "__getattribute__" = some (some (.builtin "type.__getattribute__"))
 rd : PySem.W.readsIn K C (.type "type") = true
 fd : PySem.W.findCls K (.ref C) (.type "type") m = some (.val (.ref f))
 kp : PySem.W.keepIn K (.ref f) = true
end
mutual
inductive ez (K : PySem.W.Frag) (H : Hp) : V -> PyData -> Prop where
 | bG : ez K H .bG .none
 | bl (b : Bool) : ez K H (.bl b) (.bool b)
 | int (i : Int) : ez K H (.int i) (.int i)
 | str (x : Str) : ez K H (.str x) (.str x)
 | tup {a : Addr} {xs : List V} {ds : List PyData} (h : n5 K H a xs) (r : cu K H xs ds) : ez K H (.ref a) (.tuple ds)
 | lst {a : Addr} {xs : List V} {ds : List PyData} (h : bF K H a xs) (r : cu K H xs ds) : ez K H (.ref a) (.list ds)
inductive cu (K : PySem.W.Frag) (H : Hp) : List V -> List PyData -> Prop where
 | nil : cu K H [] []
 | cons {x : V} {d : PyData} {xs : List V} {ds : List PyData} (h : ez K H x d) (r : cu K H xs ds) : cu K H (x :: xs) (d :: ds)
end
theorem n5.keeps {K : PySem.W.Frag} {H H' : Hp} {a : Addr} {xs : List V} (e : ai H H') (h : n5 K H a xs) : n5 K H' a xs := by
 rcases h with (h | ⟨o, h⟩) | h
 . exact .inl (.inl (e _ _ h))
 . exact .inl (.inr ⟨o, e _ _ h⟩)
 . exact .inr h
mutual
theorem ez.keeps {K : PySem.W.Frag} {H H' : Hp} (e : ai H H') : ∀ {v : V} {d : PyData}, ez K H v d -> ez K H' v d
 | _, _, .bG => .bG
 | _, _, .bl b => .bl b
 | _, _, .int i => .int i
 | _, _, .str x => .str x
 | _, _, .tup h r => .tup (n5.keeps e h) (cu.keeps e r)
 | _, _, .lst h r => .lst (ai.seq e h) (cu.keeps e r)
theorem cu.keeps {K : PySem.W.Frag} {H H' : Hp} (e : ai H H') : ∀ {vs : List V} {ds : List PyData}, cu K H vs ds -> cu K H' vs ds
 | _, _, .nil => .nil
 | _, _, .cons h r => .cons (ez.keeps e h) (cu.keeps e r)
end
section
variable {X : Cx} {pins : List (Addr × Obj)} {σ : St} {H : Hp} {s : Shared}
mutual
theorem ez.reads (I : Inv X pins σ H s) : ∀ {v : V} {d : PyData} {u : Value}, ez X.K H v d -> RelV v u -> ∃ as, Reads s.heap u d as
 | _, _, _, .bG, r => by cases r; exact ⟨_, .none⟩
 | _, _, _, .bl b, r => by cases r; exact ⟨_, .bool b⟩
 | _, _, _, .int i, r => by obtain ⟨t, rfl⟩ := r; exact ⟨_, .int i t⟩
 | _, _, _, .str x, r => by obtain ⟨t, rfl⟩ := r; exact ⟨_, .str x t⟩
 | _, _, _, .tup h q, r => by
   cases r
   obtain ⟨au, rv, ⟨o, h1, h2, n, h3⟩, _⟩ := I.tuple h
   obtain ⟨as, ra⟩ := cu.reads I q rv
   exact ⟨_, .tuple h1 h2 h3 (by simpa using ra)⟩
 | _, _, _, .lst h q, r => by
   cases r
   obtain ⟨au, rv, ⟨o, n, h1, h2, _, h3⟩, _⟩ := I.list h
   obtain ⟨as, ra⟩ := cu.reads I q rv
   exact ⟨_, .list h1 h2 h3 (by simpa using ra)⟩
theorem cu.reads (I : Inv X pins σ H s) : ∀ {vs : List V} {ds : List PyData} {us : List Value}, cu X.K H vs ds -> Vals vs us -> ∃ as, ReadsAll s.heap us ds as
 | _, _, _, .nil, r => by cases r; exact ⟨_, .nil⟩
 | _, _, _, .cons h q, r => by
   cases r with
   | cons r1 r2 =>
     obtain ⟨as, ra⟩ := ez.reads I h r1
     obtain ⟨bs, rb⟩ := cu.reads I q r2
     exact ⟨_, .cons ra rb⟩
end
end
section
variable {X : Cx}
def BP (K : PySem.W.Frag) (f : Bool -> Bool) : R2 := fun x y H Q => ∃ d e, ez K H x d /\ ez K H y e /\ d.canLay0 = true /\ e.canLay0 = true /\ d.depth <= 8 /\ Q (.bl (f (PyData.eqv d e))) H
theorem xK (hu : X.A.units + 8 < cLine) : gy X (compareOp .Eq) (BP X.K id) := by
 intro pins s σ H x y v u Q I rx ry h
 obtain ⟨d, e, hd, he, c1, c2, hn, q⟩ := h
 obtain ⟨as, ra⟩ := hd.reads I rx
 obtain ⟨bs, rb⟩ := he.reads I ry
 exact SeqAt.compareEq_reads ra rb c1 c2 (by have := Nat.min_le_left d.depth e.depth; omega) ⟨.bl _, H, I, rfl, q⟩
end
structure m9 (P : Program) (w : World) (K : PySem.W.Frag) (mg : Str -> Option Value) (base : Heap) (k : Nat) (f : Addr) (ps : List Str) (e7 : List V) (sp : Sp) : Prop where
 ex : ∃ (fd : FuncData) (ds : List Value), bQ P w K mg base gO k f fd ps sp /\ Binds K fd ps ds /\ Vals e7 ds
section
variable {X : Cx} {k : Nat} {f C : Addr} {ps : List Str} {sp : Sp} {e7 : List V} {x m : Str} {p pos apos : Pos} {e o : Expr} {es : List Expr} {ta : TE} {t : TA}
theorem sF (c : m9 X.prog X.w X.K X.mg X.base k f ps e7 sp) (hr : bo k X.A) (hg : Gl X x) (hm : X.mg x = some (.ref f)) (hk : PySem.W.keepIn X.K (.ref f) = true)
 (ha : PA X (e :: es) t) (uP : (x == ("__debug__" : Str)) = false := by decide) (he : starEach (e :: es) X.env = (false, eval e X.env) :: starEach es X.env := by rfl) (ka : (backTo pos (starEach es X.env)).any (·.1) = false := by rfl) :
 PE X (.Call (.Name x p) (e :: es) [] pos) (mZ sp e7 E0 t) := by
 obtain ⟨fd, ds, F, hb, hd⟩ := c.ex
 exact tE F hr hg hm hk hb hd zl ha uP he ka
end
structure cW (K : PySem.W.Frag) (x qual : Str) (st : Stmt) (f : Addr) (dV : Value) (fd : FuncData) : Prop where
 ex : ∃ (oc : Value) (od : Option Addr) (kV doc pm : Value) (an : Option Addr) (du ct : Value) (oG : Array (Option Value)),
  fd = PySem.W.fnOf x qual (fE st) (dC st) (aq st) dV kV doc pm an du ct /\ K.lookup f = some ⟨oc, od, .func fd, oG⟩ /\ PySem.W.codeIn K du qual = true
theorem tU {K : PySem.W.Frag} {x qual : Str} {st : Stmt} {f : Addr} {oc : Value} {od an : Option Addr} {oG : Array (Option Value)} {dV kV doc pm du ct : Value} (l : K.lookup f = some ⟨oc, od, .func (PySem.W.fnOf x qual (fE st) (dC st) (aq st) dV kV doc pm an du ct), oG⟩)
 (c : PySem.W.codeIn K du qual = true) : cW K x qual st f dV (PySem.W.fnOf x qual (fE st) (dC st) (aq st) dV kV doc pm an du ct) := ⟨⟨oc, od, kV, doc, pm, an, du, ct, oG, rfl, l, c⟩⟩
section
variable {P : Program} {w : World} {K : PySem.W.Frag} {mg : Str -> Option Value} {base : Heap}
theorem cW.ok {x qual : Str} {st : Stmt} {f : Addr} {dV : Value} {fd : FuncData} {N ps : List Str} {k : Nat} {sp : Sp} (F : cW K x qual st f dV fd) (S : bb N ps (aq st)) (len : ∀ vs H Q E, sp vs H Q E -> vs.length = ps.length)
 (eu : ∀ (du : Value) (A : Around) (outer : List Env) (s : Shared) (H : Hp) (vs : List V) (Q : VK) (E : XK), bo k (A.deeper (envOfC qual (aq st) s.heap.objs.size f du)) -> sp vs H Q E ->
  ∃ t, k7 (my gO P w K mg base N qual (aq st) f du A outer s H E).yP (dC st) t /\ t { nx := fun _ H' => Q .bG H', rt := Q } (start N vs) H) : bQ P w K mg base gO (k + 1) f fd ps sp := by
 obtain ⟨oc, od, kV, doc, pm, an, du, ct, oG, rfl, lk, iP⟩ := F.ex
 refine uY lk iP S len fun A outer s H vs Q E hr sj => ?_
 obtain ⟨t, h, q⟩ := eu du A outer s H vs Q E hr sj
 exact ⟨t, h.yP, q⟩
theorem cW.binds {x qual : Str} {st : Stmt} {f : Addr} {dV : Value} {fd : FuncData} {ps : List Str} {ds : List Value} (F : cW K x qual st f dV fd)
 (h : ∀ (kV doc pm : Value) (an : Option Addr) (du ct : Value), Binds K (PySem.W.fnOf x qual (fE st) (dC st) (aq st) dV kV doc pm an du ct) ps ds) : Binds K fd ps ds := by
 obtain ⟨oc, od, kV, doc, pm, an, du, ct, oG, rfl, lk, iP⟩ := F.ex
 exact h kV doc pm an du ct
end
structure Ha (K : PySem.W.Frag) (T : Addr) (items : Array Value) : Prop where
 ex : ∃ (o : Obj) (n : Nat), K.lookup T = some o /\ o.data = .seq items n
structure zg (K : PySem.W.Frag) (C : Addr) : Prop where
 ha : PySem.W.findIn K (.ref C) "__class__" = some (some (.builtin "object.__class__"))
 hn : PySem.W.specialIn K (.builtin "object.__class__") "__get__" = some (some (.builtin "getset_descriptor.__get__"))
 ht : PySem.W.takesIn K (.builtin "object.__class__") = some true
 hm : PySem.W.mroIn K C (.type "object") = some true
section
variable {σ : St} {H : Hp} {Q : VK} {D : Ends} {K : PySem.W.Frag}
theorem yq (h : D.nx σ H) : va D σ H := h
theorem Ap {te : TE} (h : te σ H D.rt) : Al te D σ H := h
theorem yw {te : TE} (h : te σ H fun _ H1 => D.nx σ H1) : uU te D σ H := h
theorem As {c : TT} {t u : TS} (h : c σ H fun b H1 => if b = true then t D σ H1 else u D σ H1) : Ax c t u D σ H := h
theorem zG {te : TE} {i : Nat} (h : te σ H fun x H1 => D.nx (σ.set i (some x)) H1) : pW te (dA i) D σ H := h
theorem AZ {i : Nat} {v : V} (e : σ[i]? = some (some v)) (h : Q v H) : vX i σ H Q := ⟨v, e, h⟩
theorem GA {v : V} (h : Q v H) : tC v σ H Q := h
theorem DQ {r : R2} {ta tb : TE} (h : ta σ H fun x H1 => tb σ H1 fun y H2 => r x y H2 Q) : Be r ta tb σ H Q := h
theorem BV {g : Int -> Int -> V} {i j : Int} (h : Q (g i j) H) : uX g (.int i) (.int j) H Q := ⟨i, j, rfl, rfl, h⟩
theorem GQ {C : Int -> Int -> Prop} {g : Int -> Int -> V} {i j : Int} (c : C i j) (h : Q (g i j) H) : rI C g (.int i) (.int j) H Q := ⟨i, j, rfl, rfl, c, h⟩
theorem yz {t : TE} {Q : Bool -> Hp -> Prop} (h : t σ H fun x H' => ∃ k, x = .bl k /\ Q k H') : qv t σ H Q := h
theorem BQ {b : Bool} {R : Bool -> Prop} (h : R b) : ∃ k, V.bl b = .bl k /\ R k := ⟨b, rfl, h⟩
theorem zM {Q : List V -> Hp -> Prop} (h : Q [] H) : xk σ H Q := h
theorem yl {ta : TE} {tr : TA} {Q : List V -> Hp -> Prop} (h : ta σ H fun x H1 => tr σ H1 fun xs H2 => Q (x :: xs) H2) : qF ta tr σ H Q := h
theorem Cm {r : List V -> Hp -> VK -> Prop} {t : TA} (h : t σ H fun vs H1 => r vs H1 Q) : Dy r t σ H Q := h
theorem oP {A B : Prop} (h : B) : if false = true then A else B := by rw [if_neg Bool.false_ne_true]; exact h
end
section
variable {X : Cx} {e : Expr} {es : List Expr}
theorem PE.weak {t u : TE} (h1 : PE X e t) (h : ∀ σ H Q, u σ H Q -> t σ H Q) : PE X e u := fun pins s σ H Q I q => h1 pins s σ H Q I (h σ H Q q)
def mA (t : TA) : TA := fun σ H Q => ∃ Q' : List V -> Hp -> Prop, t σ H Q' /\ ∀ v H', Q' v H' -> Q v H'
theorem PA.m {t : TA} (h : PA X es t) : PA X es (mA t) := fun pos pins s σ H Q I ⟨Q', q, m⟩ => bu (h pos pins s σ H Q' I q) fun _ _ ⟨v, H', I', r, z⟩ => ⟨v, H', I', r, m v H' z⟩
end
def BU : Key -> PyData
 | .inl i => .int i
 | .inr x => .str x
mutual
inductive Dv (H : Hp) : V -> PyData -> Prop where
 | bG : Dv H .bG .none
 | bl (b : Bool) : Dv H (.bl b) (.bool b)
 | int (i : Int) : Dv H (.int i) (.int i)
 | str (x : Str) : Dv H (.str x) (.str x)
 | tup {a : Addr} {xs : List V} {ds : List PyData} (h : H a = some (.tup xs)) (r : a9 H xs ds) : Dv H (.ref a) (.tuple ds)
 | lst {a : Addr} {xs : List V} {ds : List PyData} (h : Rd H a (.lst xs)) (r : a9 H xs ds) : Dv H (.ref a) (.list ds)
 | dct {a : Addr} {ax : List (Key × V)} {ds : List (PyData × PyData)} (h : H a = some (.dK ax)) (r : sk H ax ds) : Dv H (.ref a) (.dict ds)
inductive sk (H : Hp) : List (Key × V) -> List (PyData × PyData) -> Prop where
 | nil : sk H [] []
 | cons {k : Key} {x : V} {d : PyData} {xs : List (Key × V)} {ds : List (PyData × PyData)} (h : Dv H x d) (r : sk H xs ds) : sk H ((k, x) :: xs) ((BU k, d) :: ds)
inductive a9 (H : Hp) : List V -> List PyData -> Prop where
 | nil : a9 H [] []
 | cons {x : V} {d : PyData} {xs : List V} {ds : List PyData} (h : Dv H x d) (r : a9 H xs ds) : a9 H (x :: xs) (d :: ds)
end
mutual
theorem Dv.has {K : PySem.W.Frag} {H : Hp} : ∀ {v : V} {d : PyData}, Dv H v d -> d.canLay0 = true -> ez K H v d
 | _, _, .bG, _ => .bG
 | _, _, .bl b, _ => .bl b
 | _, _, .int i, _ => .int i
 | _, _, .str x, _ => .str x
 | _, _, .tup h r, c => .tup (.of h) (a9.has r (by simpa [PyData.canLay0] using c))
 | _, _, .lst h r, c => .lst (.inl h) (a9.has r (by simpa [PyData.canLay0] using c))
 | _, _, .dct h r, c => by simp [PyData.canLay0] at c
theorem a9.has {K : PySem.W.Frag} {H : Hp} : ∀ {v : List V} {d : List PyData}, a9 H v d -> PyData.canLayAll0 d = true -> cu K H v d
 | _, _, .nil, _ => .nil
 | _, _, .cons h r, c => by
   have c' := c
   simp only [PyData.canLayAll0, Bool.and_eq_true] at c'
   exact .cons (Dv.has h c'.1) (a9.has r c'.2)
end
theorem ai.rd {H H' : Hp} {a : Addr} {u : HO} (e : ai H H') (h : Rd H a u) : Rd H' a u := by
 rcases h with h | ⟨o, h⟩
 . exact .inl (e _ _ h)
 . exact .inr ⟨o, e _ _ h⟩
mutual
theorem Dv.keeps {H H' : Hp} (e : ai H H') : ∀ {v : V} {d : PyData}, Dv H v d -> Dv H' v d
 | _, _, .bG => .bG
 | _, _, .bl b => .bl b
 | _, _, .int i => .int i
 | _, _, .str x => .str x
 | _, _, .tup h r => .tup (e _ _ h) (a9.keeps e r)
 | _, _, .lst h r => .lst (e.rd h) (a9.keeps e r)
 | _, _, .dct h r => .dct (e _ _ h) (sk.keeps e r)
theorem sk.keeps {H H' : Hp} (e : ai H H') : ∀ {v : List (Key × V)} {d : List (PyData × PyData)}, sk H v d -> sk H' v d
 | _, _, .nil => .nil
 | _, _, .cons h r => .cons (Dv.keeps e h) (sk.keeps e r)
theorem a9.keeps {H H' : Hp} (e : ai H H') : ∀ {v : List V} {d : List PyData}, a9 H v d -> a9 H' v d
 | _, _, .nil => .nil
 | _, _, .cons h r => .cons (Dv.keeps e h) (a9.keeps e r)
end
theorem a9.length {H : Hp} : ∀ {xs : List V} {ds : List PyData}, a9 H xs ds -> xs.length = ds.length
 | _, _, .nil => rfl
 | _, _, .cons _ r => by simp [a9.length r]
theorem a9.get {H : Hp} : ∀ {xs : List V} {ds : List PyData} {i : Nat} {d : PyData}, a9 H xs ds -> ds[i]? = some d -> ∃ x, xs[i]? = some x /\ Dv H x d
 | _, _, _, _, .nil, e => by simp at e
 | _, _, 0, _, .cons h _, e => by simp at e; subst e; exact ⟨_, rfl, h⟩
 | _, _, i + 1, x, .cons _ r, e => by
   obtain ⟨d, h1, h2⟩ := a9.get (i := i) (d := x) r (by simpa using e)
   exact ⟨d, by simpa using h1, h2⟩
theorem a9.append {H : Hp} : ∀ {xs ys : List V} {ds es : List PyData}, a9 H xs ds -> a9 H ys es -> a9 H (xs ++ ys) (ds ++ es)
 | _, _, _, _, .nil, s => s
 | _, _, _, _, .cons r t, s => .cons r (a9.append t s)
theorem a9.ints {H : Hp} : ∀ (ns : List Int), a9 H (ns.map V.int) (ns.map PyData.int)
 | [] => .nil
 | n :: ns => .cons (.int n) (a9.ints ns)
theorem Dv.int_inv {H : Hp} {v : V} {i : Int} (h : Dv H v (.int i)) : v = .int i := by cases h; rfl
theorem Dv.str_inv {H : Hp} {v : V} {i : Str} (h : Dv H v (.str i)) : v = .str i := by cases h; rfl
def kn (H : Hp) (d : PyData) (Q : VK) : Prop := match d with
 | .none => Q .bG H
 | .bool b => Q (.bl b) H
 | .int i => Q (.int i) H
 | .str x => Q (.str x) H
 | d => ∀ v, Dv H v d -> Q v H
theorem kn.use {H : Hp} {d : PyData} {Q : VK} (g : kn H d Q) {v : V} (h : Dv H v d) : Q v H := by
 cases h with
 | bG => exact g
 | bl b => exact g
 | int i => exact g
 | str x => exact g
 | tup h r => exact g _ (.tup h r)
 | lst h r => exact g _ (.lst h r)
 | dct h r => exact g _ (.dct h r)
theorem nL {H : Hp} {xs : List V} {ds : List PyData} {i : Int} {d : PyData} (r : a9 H xs ds) (h : j3 ds i = some d) : ∃ x, j3 xs i = some x /\ Dv H x d := by
 unfold j3 at h ⊢
 rw [r.length]
 cases e : pP ds.length i with
 | none => rw [e] at h; simp at h
 | some j =>
   rw [e] at h
   have h' : ds[j]? = some d := by simpa using h
   obtain ⟨x, h1, h2⟩ := r.get h'
   exact ⟨x, by simpa using h1, h2⟩
def jh (H : Hp) (v : V) (ds : List PyData) : Prop := Dv H v (.tuple ds) \/ Dv H v (.list ds)
def zP : R2 := fun x y H Q => ∃ ds i d, y = .int i /\ jh H x ds /\ j3 ds i = some d /\ kn H d Q
theorem sZ {K : PySem.W.Frag} {x y : V} {H : Hp} {Q : VK} (h : zP x y H Q) : Fj K x y H Q := by
 obtain ⟨ds, i, d, rfl, hs, hi, g⟩ := h
 rcases hs with hs | hs
 . cases hs with
   | tup h r =>
     obtain ⟨v, h1, h2⟩ := nL r hi
     exact .inr (.inl ⟨_, _, i, v, rfl, rfl, .of h, h1, g.use h2⟩)
 . cases hs with
   | lst h r =>
     obtain ⟨v, h1, h2⟩ := nL r hi
     exact .inl ⟨_, _, i, v, rfl, rfl, .inl h, h1, g.use h2⟩
section
variable {X : Cx}
def xq : R2 := fun x y H Q => zP x y H Q \/ yu x y H Q
theorem DI : pI X xq := fun value slice pins s σ H x y v u Q I r1 r2 h => wV value slice pins s σ H x y v u Q I r1 r2 (h.elim sZ fun z => .inr (.inr z))
def rL : List V -> Hp -> VK -> Prop := fun xs H Q => (∃ v ds, xs = [v] /\ jh H v ds /\ Q (.int (ds.length : Nat)) H) \/ ∃ z, xs = [.str z] /\ z.length <= sizeLine /\ Q (.int (z.length : Nat)) H
theorem n9 : dB X (.builtin "len") rL := fun pins s σ H xs us Q I r h => by
 rcases h with ⟨v, ds, rfl, hs, q⟩ | h
 . rcases hs with hs | hs
   . cases hs with
     | tup h t => exact dN pins s σ H _ us Q I r ⟨_, _, rfl, .inr (.of h), by rw [t.length]; exact q⟩
   . cases hs with
     | lst h t => exact dN pins s σ H _ us Q I r ⟨_, _, rfl, .inl (.inl h), by rw [t.length]; exact q⟩
 . exact jF pins s σ H _ us Q I r h
def An (K : PySem.W.Frag) (f : Bool -> Bool) : R2 := fun x y H Q => (yb x y = true /\ Q (.bl (f (decide (x = y)))) H) \/ ∃ d e, Dv H x d /\ Dv H y e /\ d.canLay0 = true /\ e.canLay0 = true /\ d.depth <= 8 /\ Q (.bl (f (PyData.eqv d e))) H
theorem eB (hu : X.A.units + 8 < cLine) : gy X (compareOp .Eq) (An X.K id) := fun pins s σ H x y v u Q I rx ry h => by
 rcases h with h | ⟨d, e, h1, h2, h3, h4, h5, h6⟩
 . exact zC pins s σ H x y v u Q I rx ry h
 . exact xK hu pins s σ H x y v u Q I rx ry ⟨d, e, h1.has h3, h2.has h4, h3, h4, h5, h6⟩
variable {es : List Expr} {t : TA} {pos : Pos}
def yx (xs : List V) (H1 : Hp) (Q : VK) : Prop := xs.length <= sizeLine /\ ∃ ds, a9 H1 xs ds /\ ∀ p H2, ai H1 H2 -> H1 p = none -> H2 p = some (.tup xs) -> Dv H2 (.ref p) (.tuple ds) -> Q (.ref p) H2
def vT (xs : List V) (H1 : Hp) (Q : VK) : Prop := xs.length <= sizeLine /\ ∃ ds, a9 H1 xs ds /\ ∀ p H2, ai H1 H2 -> H1 p = none -> H2 p = some (.lst xs) -> a9 H2 xs ds -> Dv H2 (.ref p) (.list ds) -> Q (.ref p) H2
def vk (t : TA) : TE := fun σ H Q => t σ H fun xs H1 => yx xs H1 Q
theorem gL {x1} (h : PA X es t) : PE X (.Tuple es x1 pos) (vk t) := PE.weak (wz h.m) fun σ H Q q => ⟨_, q, fun xs H1 ⟨hl, ds, hd, k⟩ => ⟨hl, fun p hp => by
 have sm : ai H1 (upd H1 p (.tup xs)) := fun b u e => by rw [aj (az e hp)]; exact e
 exact k p _ sm hp aw (.tup aw (hd.keeps sm))⟩⟩
def ve (t : TA) : TE := fun σ H Q => t σ H fun xs H1 => vT xs H1 Q
theorem cH (h : PA X es t) : PE X (.List es pos) (ve t) := PE.weak (vL h.m) fun σ H Q q => ⟨_, q, fun xs H1 ⟨hl, ds, hd, k⟩ => ⟨hl, fun p hp => by
 have sm : ai H1 (upd H1 p (.lst xs)) := fun b u e => by rw [aj (az e hp)]; exact e
 exact k p _ sm hp aw (hd.keeps sm) (.lst (.of aw) (hd.keeps sm))⟩⟩
variable {st : Stmt} {rest : List Stmt}
def vN (t u : TS) : TS := fun D σ H => ∃ R : St -> Hp -> Prop, t { D with nx := R } σ H /\ ∀ σ' H', R σ' H' -> u D σ' H'
theorem ah {t u : TS} (h1 : PS X st t) (h2 : k7 X rest u) : k7 X (st :: rest) (vN t u) := by
 intro pins s σ H D I ⟨R, h, k⟩
 refine wpAny_execs_cons (bu (h1 pins s σ H { D with nx := R } I h) fun f s1 q => ?_)
 cases f with
 | next =>
   obtain ⟨σ', H', I', q⟩ := q
   exact h2 pins s1 σ' H' D I' (k _ _ q)
 | ret v => exact q
 | brk => exact q
 | cont => exact q
end
section
variable {σ : St} {H : Hp} {Q : VK} {D : Ends} {K : PySem.W.Frag}
theorem yt {t u : TS} (h : t { D with nx := u D } σ H) : vN t u D σ H := ⟨u D, h, fun _ _ z => z⟩
theorem xa {t : TA} (h : t σ H fun xs H1 => yx xs H1 Q) : vk t σ H Q := h
theorem xW {xs : List V} {ds : List PyData} (hl : xs.length <= sizeLine) (hd : a9 H xs ds) (k : ∀ v H2, ai H H2 -> Dv H2 v (.tuple ds) -> Q v H2) : yx xs H Q := ⟨hl, ds, hd, fun p H2 s _ _ d => k (.ref p) H2 s d⟩
theorem vO {t : TA} (h : t σ H fun xs H1 => vT xs H1 Q) : ve t σ H Q := h
theorem AB {f : Bool -> Bool} {x y : V} (e : yb x y = true) (h : Q (.bl (f (decide (x = y)))) H) : An K f x y H Q := .inl ⟨e, h⟩
theorem Az {x : V} {ds : List PyData} {i : Int} {d : PyData} (hs : jh H x ds) (hi : j3 ds i = some d) (g : kn H d Q) : xq x (.int i) H Q := .inl ⟨ds, i, d, rfl, hs, hi, g⟩
theorem wQ {v : V} {ds : List PyData} (hs : jh H v ds) (h : Q (.int (ds.length : Nat)) H) : rL [v] H Q := .inl ⟨v, ds, rfl, hs, h⟩
theorem fQ {i : Int} (h : Q (.int i) H) : kn H (.int i) Q := h
theorem sv {i : Str} (h : Q (.str i) H) : kn H (.str i) Q := h
theorem AF {b : Bool} {A B : Prop} (h1 : b = true -> A) (h2 : b = false -> B) : if b = true then A else B := by
 cases b
 . exact B1 (h2 rfl)
 . exact Cy (h1 rfl)
end
theorem bo.vd {k : Nat} {A : Around} (r : bo k A) : A.units + 8 < cLine := Nat.lt_of_le_of_lt (by omega) r.units
theorem aY {H : Hp} {t : Addr} {o : HO} (h : H t = none) : ai H (upd H t o) := fun b u e => by rw [aj (az e h)]; exact e
section
variable {σ : St} {H : Hp} {Q : VK} {D : Ends} {K : PySem.W.Frag}
end
def isInt : PyData -> Bool | .int _ => true | .bool _ => true | _ => false
def isBool : PyData -> Bool | .bool _ => true | _ => false
def isStr : PyData -> Bool | .str _ => true | _ => false
def zS : PyData -> Bool | .list _ => true | _ => false
def isTup : PyData -> Bool | .tuple _ => true | _ => false
def A5 : PyData -> Bool | .dict _ => true | _ => false
section
variable {K : PySem.W.Frag} {H : Hp} {v : V} {d : PyData} {Q : VK}
def G2 (H : Hp) (v : V) (C : Addr) (fs : List (Str × V)) : Prop := ∃ p dx, v = .ref p /\ H p = some (.ins C dx fs)
end
section
variable {X : Cx}
def iF (K : PySem.W.Frag) : R2 := fun x y H Q => xq x y H Q \/ xT K x y H Q
theorem cU : pI X (iF X.K) := fun value slice pins s σ H x y v u Q I r1 r2 h => h.elim (DI value slice pins s σ H x y v u Q I r1 r2) (m8 value slice pins s σ H x y v u Q I r1 r2)
def kh (K : PySem.W.Frag) : List V -> Hp -> VK -> Prop := fun xs H Q => rL xs H Q \/ ∃ p ys, xs = [.ref p] /\ bF K H p ys /\ Q (.int ys.length) H
theorem eJ : dB X (.builtin "len") (kh X.K) := fun pins s σ H xs us Q I r h => by
 rcases h with h | ⟨p, ys, e, hl, q⟩
 . exact n9 pins s σ H xs us Q I r h
 . exact dN pins s σ H xs us Q I r ⟨p, ys, e, .inl hl, q⟩
end
section
variable {σ : St} {H : Hp} {Q : VK} {D : Ends} {K : PySem.W.Frag}
theorem jg {x : V} {ds : List PyData} {i : Int} {d : PyData} (hs : jh H x ds) (hi : j3 ds i = some d) (g : kn H d Q) : iF K x (.int i) H Q := .inl (Az hs hi g)
theorem zy {p : Addr} {xs : List V} {i : Int} {v : V} (hs : bF K H p xs) (hi : j3 xs i = some v) (g : Q v H) : iF K (.ref p) (.int i) H Q := .inr ⟨p, xs, i, v, rfl, rfl, hs, hi, g⟩
theorem rh {v : V} {ds : List PyData} (hs : jh H v ds) (h : Q (.int (ds.length : Nat)) H) : kh K [v] H Q := .inl (wQ hs h)
theorem wX {p : Addr} {xs : List V} (hs : bF K H p xs) (h : Q (.int xs.length) H) : kh K [.ref p] H Q := .inr ⟨p, xs, rfl, hs, h⟩
end
theorem bg {i : Int} (h1 : -(10 ^ 200) < i) (h2 : i < 10 ^ 200) : i.natAbs < 2 ^ 2000 := by
 have : (10 : Nat) ^ 200 < 2 ^ 2000 := by decide +kernel
 have h3 : i.natAbs < 10 ^ 200 := by
  have e : ((10 : Nat) ^ 200 : Nat) = ((10 : Int) ^ 200).toNat := by decide +kernel
  rw [e]
  generalize (10 : Int) ^ 200 = m at h1 h2 ⊢
  omega
 exact Nat.lt_trans h3 this
theorem yY {i j : Int} (h1 : -(10 ^ 200) < i /\ i < 10 ^ 200) (h2 : -(10 ^ 200) < j /\ j < 10 ^ 200) : nR i j := ⟨bg h1.1 h1.2, bg h2.1 h2.2⟩
theorem Ag {i j : Int} (h1 : 0 < j) (h2 : j < 10 ^ 200) : uZ i j := ⟨h1, bg (Int.lt_trans (by decide) h1) h2⟩
def cell (ns : List Int) (k : Nat) : Int := ns.getD k 0
def mI (K : PySem.W.Frag) : Sp := fun vs H Q _ => ∃ l ns k, vs = [.ref l, .int k] /\ bF K H l (ns.map V.int) /\ 0 <= k /\ Q (.int (cell ns k.toNat)) H
theorem xX {K : PySem.W.Frag} {H : Hp} {Q : VK} {E : XK} {l : Addr} {ns : List Int} {k : Int} (h : bF K H l (ns.map V.int)) (hk : 0 <= k) (q : Q (.int (cell ns k.toNat)) H) : mI K [.ref l, .int k] H Q E := ⟨l, ns, k, rfl, h, hk, q⟩
theorem uF {ns : List Int} {k : Int} (h0 : 0 <= k) (h : k < (ns.map V.int).length) : j3 (ns.map V.int) k = some (.int (cell ns k.toNat)) := by
 obtain ⟨n, rfl⟩ := Int.eq_ofNat_of_zero_le h0
 refine dQ ?_
 have hn : n < ns.length := by simpa using h
 simp [cell, hn, List.getD_eq_getElem?_getD]
theorem sY {ns : List Int} {k : Int} (h0 : 0 <= k) (h : ¬ k < (ns.map V.int).length) : cell ns k.toNat = 0 := by
 have : ns.length <= k.toNat := by simp at h; omega
 simp [cell, List.getD_eq_getElem?_getD, this]
def mY (sp : Sp) (vs : List V) (H : Hp) (Q : VK) (E : XK) : Prop := ∃ ws, vs = ws /\ sp ws H Q E
theorem pO (sp : Sp) (vs : List V) (H : Hp) (Q : VK) (E : XK) : mY sp vs H Q E = sp vs H Q E := propext ⟨fun ⟨_, e, h⟩ => e ▸ h, fun h => ⟨vs, rfl, h⟩⟩
def jN (sp : Sp) (e7 : List V) (E : XK) (t : TA) : TE := fun σ H Q => t σ H fun vs H1 => mY sp (vs ++ e7) H1 Q E
theorem pz (sp : Sp) (e7 : List V) (E : XK) (t : TA) : jN sp e7 E t = mZ sp e7 E t := by
 funext σ H Q; unfold jN mZ; congr 1; funext vs H1; exact pO _ _ _ _ _
section
variable {X : Cx} {k : Nat} {f C : Addr} {ps : List Str} {sp : Sp} {e7 : List V} {x m : Str} {p pos apos : Pos} {e o : Expr} {es : List Expr} {ta : TE} {t : TA}
theorem aQ (c : m9 X.prog X.w X.K X.mg X.base k f ps e7 sp) (hr : bo k X.A) (hg : Gl X x) (hm : X.mg x = some (.ref f)) (hk : PySem.W.keepIn X.K (.ref f) = true)
 (ha : PA X (e :: es) t) (uP : (x == ("__debug__" : Str)) = false := by decide) (he : starEach (e :: es) X.env = (false, eval e X.env) :: starEach es X.env := by rfl) (ka : (backTo pos (starEach es X.env)).any (·.1) = false := by rfl) :
 PE X (.Call (.Name x p) (e :: es) [] pos) (jN sp e7 E0 t) := by rw [pz]; exact sF c hr hg hm hk ha uP he ka
end
section
variable {σ : St} {H : Hp} {Q : VK} {D : Ends} {K : PySem.W.Frag}
theorem uN {sp : Sp} {e7 : List V} {E : XK} {t : TA} (h : t σ H fun vs H1 => mY sp (vs ++ e7) H1 Q E) : jN sp e7 E t σ H Q := h
theorem lI {sp : Sp} {vs ws : List V} {E : XK} (e : vs = ws) (h : sp ws H Q E) : mY sp vs H Q E := ⟨ws, e, h⟩
end
theorem vh {n : Nat} (h : Nat.ble n 64 = true) : n <= sizeLine := Nat.le_trans (Nat.le_of_ble_eq_true h) (by decide)
section
variable {X : Cx} {st : Stmt} {rest : List Stmt}
def vG (t u : TS) : TS := vN t u
theorem kQ {t u : TS} (h1 : PS X st t) (h2 : k7 X rest u) : k7 X (st :: rest) (vG t u) := ah h1 h2
end
section
variable {σ : St} {H : Hp} {Q : VK} {D : Ends} {K : PySem.W.Frag}
theorem rJ {t u : TS} (R : St -> Hp -> Prop) (h : t { D with nx := R } σ H) (k : ∀ σ' H', R σ' H' -> u D σ' H') : vG t u D σ H := ⟨R, h, k⟩
def xJ (K : PySem.W.Frag) (x : V) (g : TG) (tb : TS) (D : Ends) (σ : St) (H1 : Hp) : Prop := ∃ a, x = .ref a /\ (∃ xs, bF K H1 a xs) /\ ∃ W : Nat -> Nat -> St -> Hp -> Prop, (∃ m, W 0 m σ H1) /\ ∀ i m σ H, W i m σ H ->
 ((qo K a).stop i H /\ D.nx σ H) \/ ((qo K a).go i H /\ ∃ N : St -> Hp -> Prop, (∀ σ' H', N σ' H' -> ∃ m', m' < m /\ W (i + 1) m' σ' H') /\ ∀ x H', (qo K a).xO i H x H' -> g x σ H' fun σ2 H2 => tb { D with nx := N, ct := N, bk := D.nx } σ2 H2)
theorem y4 {tl : TE} {g : TG} {tb : TS} (h : tl σ H fun x H1 => xJ K x g tb D σ H1) : yc (qe K tl) g tb D σ H := h
theorem forL {a : Addr} {xs : List V} {g : TG} {tb : TS} (hl : bF K H a xs) (Pv : Nat -> St -> Hp -> Prop) (h0 : Pv 0 σ H) (hk : ∀ i σ H, i <= xs.length -> Pv i σ H -> bF K H a xs)
 (hs : ∀ i x σ H, xs[i]? = some x -> Pv i σ H -> g x σ H fun σ2 H2 => tb { D with nx := Pv (i + 1), ct := Pv (i + 1), bk := D.nx } σ2 H2) (hd : ∀ σ H, Pv xs.length σ H -> D.nx σ H) : xJ K (.ref a) g tb D σ H :=
 ⟨a, rfl, ⟨xs, hl⟩, qx Pv h0 hk hs hd⟩
def BX (lo : Int) (n : Nat) (g : TG) (tb : TS) (D : Ends) (σ : St) (H1 : Hp) : Prop := ∃ W : Nat -> Nat -> St -> Hp -> Prop, (∃ m, W 0 m σ H1) /\ ∀ i m σ H, W i m σ H ->
 ((uK lo n).stop i H /\ D.nx σ H) \/ ((uK lo n).go i H /\ ∃ N : St -> Hp -> Prop, (∀ σ' H', N σ' H' -> ∃ m', m' < m /\ W (i + 1) m' σ' H') /\ ∀ x H', (uK lo n).xO i H x H' -> g x σ H' fun σ2 H2 => tb { D with nx := N, ct := N, bk := D.nx } σ2 H2)
theorem sP {ta : TA} {g : TG} {tb : TS} (h : ta σ H fun vs H1 => ∃ j : Int, vs = [.int j] /\ -(2 ^ 62) <= j /\ j < 2 ^ 62 /\ BX 0 j.toNat g tb D σ H1) : yc (vH ta) g tb D σ H := h
theorem we {j : Int} {R : Int -> Prop} (h1 : -(2 ^ 62) <= j) (h2 : j < 2 ^ 62) (h : R j) : ∃ i : Int, [V.int j] = [.int i] /\ -(2 ^ 62) <= i /\ i < 2 ^ 62 /\ R i := ⟨j, rfl, h1, h2, h⟩
end
section
variable {X : Cx}
def u5 : List V -> Hp -> VK -> Prop := fun xs H Q => ∃ i j, xs = [.int i, .int j] /\ ∀ k, (k = i \/ k = j) -> k <= i -> k <= j -> Q (.int k) H
theorem oF (hc : X.calm = true) : dB X (.builtin "min") u5 := fun pins s σ H xs us Q I r ⟨i, j, e, h⟩ => pC hc pins s σ H xs us Q I r ⟨i, j, e, by
 split
 . exact h _ (.inr rfl) (by omega) (by omega)
 . exact h _ (.inl rfl) (by omega) (by omega)⟩
def vz : R2 := fun x y H Q => ∃ i j, x = .int i /\ y = .int j /\ 0 < j /\ (0 <= i % j -> i % j < j -> Q (.int (i % j)) H)
theorem av : gy X (binaryOp .Mod) vz := fun pins s σ H x y v u Q I rx ry ⟨i, j, e1, e2, hj, h⟩ => vY pins s σ H x y v u Q I rx ry ⟨i, j, e1, e2, hj, h (Int.emod_nonneg _ (by omega)) (Int.emod_lt_of_pos _ hj)⟩
end
section
variable {σ : St} {H : Hp} {Q : VK} {D : Ends} {K : PySem.W.Frag}
theorem xl {i j : Int} (h : ∀ k, (k = i \/ k = j) -> k <= i -> k <= j -> Q (.int k) H) : u5 [.int i, .int j] H Q := ⟨i, j, rfl, h⟩
theorem wB {i j : Int} (hj : 0 < j) (h : 0 <= i % j -> i % j < j -> Q (.int (i % j)) H) : vz (.int i) (.int j) H Q := ⟨i, j, rfl, rfl, hj, h⟩
end
section
variable {σ : St} {H : Hp} {Q : VK} {D : Ends} {K : PySem.W.Frag}
def uR (Pv : Nat -> St -> Hp -> Prop) (m : Nat) (tb : TS) (D : Ends) (σ : St) (H1 : Hp) : Prop := ∃ N : St -> Hp -> Prop, (∀ σ' H', N σ' H' -> ∃ m', m' < m /\ Pv m' σ' H') /\ tb { D with nx := N, ct := N, bk := D.nx } σ H1
theorem wH {Pv : Nat -> St -> Hp -> Prop} {m : Nat} {tb : TS} (h : tb { D with nx := fun σ' H' => ∃ m', m' < m /\ Pv m' σ' H', ct := fun σ' H' => ∃ m', m' < m /\ Pv m' σ' H', bk := D.nx } σ H) : uR Pv m tb D σ H := ⟨_, fun _ _ h => h, h⟩
theorem sW {c : TT} {tb : TS} (Pv : Nat -> St -> Hp -> Prop) (h0 : ∃ m, Pv m σ H) (hs : ∀ m σ H, Pv m σ H -> c σ H fun b H1 => if b = true then uR Pv m tb D σ H1 else D.nx σ H1) : rR c tb D σ H := ⟨Pv, h0, hs⟩
end
end L2
namespace L2
end L2
namespace L2
open PySem PySem.Spec PyProof.Rows
section
variable {X : Cx}
end
section
variable {σ : St} {H : Hp} {Q : VK} {D : Ends} {K : PySem.W.Frag}
end
theorem yh {H : Hp} {Q : VK} {i j p : Int} (c : xr i j) (e : i ^ j.toNat = p) (h : Q (.int p) H) : rI xr (fun i j => .int (i ^ j.toNat)) (.int i) (.int j) H Q := ⟨i, j, rfl, rfl, c, by show Q (.int (i ^ j.toNat)) H; rw [e]; exact h⟩
section
variable {X : Cx} {e : Expr}
end
section
variable {σ : St} {H : Hp} {Q : VK} {D : Ends} {K : PySem.W.Frag}
end
end L2
namespace L2
end L2
namespace L2
open PySem PySem.Spec PyProof.Rows PySem.W
structure GN (lt : Nat -> Nat -> Bool) : Prop where
 A2 : ∀ a, lt a a = false
 AO : ∀ a b, lt a b = true -> lt b a = false
 se : ∀ a b c, lt a b = false -> lt b c = false -> lt a c = false
section
variable {lt : Nat -> Nat -> Bool} {n : Nat} {S : Shared -> Prop} {cmp : Nat -> Nat -> (Bool -> Shared -> Prop) -> Shared -> Prop}
def Up (lt : Nat -> Nat -> Bool) (p : Array Nat) (k : Nat) : Prop := ∀ i j, i < j -> j < k -> lt (p.getD j 0) (p.getD i 0) = false
def Down (lt : Nat -> Nat -> Bool) (p : Array Nat) (k : Nat) : Prop := ∀ i j, i < j -> j < k -> lt (p.getD i 0) (p.getD j 0) = false
def Alike (lt : Nat -> Nat -> Bool) (p : Array Nat) (a b : Nat) : Prop := ∀ i j, a <= i -> i < b -> a <= j -> j < b -> lt (p.getD i 0) (p.getD j 0) = false
structure Ix (n : Nat) (p : Array Nat) : Prop where
 sz : p.size = n
 pm : p.toList.Perm (List.range n)
theorem Ix.low {p : Array Nat} (h : Ix n p) {i : Nat} (hi : i < n) : p.getD i 0 < n := by
 have vn : i < p.size := by rw [h.sz]; exact hi
 have e : p.getD i 0 = p[i] := by simp [Array.getD, vn]
 rw [e]
 have : p[i] ∈ p.toList := by simp
 exact List.mem_range.mp (h.pm.mem_iff.mp this)
theorem Ix.perm {p q : Array Nat} (h : Ix n p) (hq : q.Perm p) : Ix n q := ⟨hq.size_eq.trans h.sz, (Array.perm_iff_toList_perm.mp hq).trans h.pm⟩
theorem cz {p : Array Nat} {i j : Nat} (hj : j <= p.size) (k : Nat) : (kas_rev p i j).getD k 0 = if i <= k /\ k < j then p.getD (i + j - 1 - k) 0 else p.getD k 0 := by
 unfold kas_rev
 rw [Array.getD_eq_getD_getElem?, getElem?_mirror_all hj k]
 by_cases h : i <= k /\ k < j
 . rw [if_pos h, if_pos h, Array.getD_eq_getD_getElem?]
 . rw [if_neg h, if_neg h, Array.getD_eq_getD_getElem?]
theorem iC {p : Array Nat} (h : Ix n p) (i j : Nat) : Ix n (kas_rev p i j) := h.perm (mirror_perm _ _ _ _)
theorem kD {p : Array Nat} {k d : Nat} (hk : k < p.size) (hd : d <= k) (i : Nat) : (bubble p k d).getD i 0 = if i = k - d then p.getD k 0 else if k - d < i /\ i <= k then p.getD (i - 1) 0 else p.getD i 0 := by
 rw [Array.getD_eq_getD_getElem?, getElem?_bubble hk d hd i]
 by_cases h : i = k - d
 . rw [if_pos h, if_pos h, Array.getD_eq_getD_getElem?]
 . rw [if_neg h, if_neg h]
   by_cases h2 : k - d < i /\ i <= k
   . rw [if_pos h2, if_pos h2, Array.getD_eq_getD_getElem?]
   . rw [if_neg h2, if_neg h2, Array.getD_eq_getD_getElem?]
def zu (n : Nat) (lt : Nat -> Nat -> Bool) (S : Shared -> Prop) (cmp : Nat -> Nat -> (Bool -> Shared -> Prop) -> Shared -> Prop) : Prop :=
 ∀ i j C s, i < n -> j < n -> S s -> (∀ s', S s' -> C (lt i j) s') -> cmp i j C s
variable (w : GN lt) (ha : zu n lt S cmp)
include w ha
theorem lD {p : Array Nat} (hp : Ix n p) {Q : Nat -> Shared -> Prop} : ∀ (f k : Nat), 1 <= k -> k + f <= n -> Up lt p k -> (∀ m s, S s -> k <= m -> m <= k + f -> Up lt p m -> (m = k + f \/ (m < k + f /\ lt (p.getD m 0) (p.getD (m - 1) 0) = true)) -> Q m s) -> ∀ s, S s -> (kas_asc p f k).kasWp cmp Q s
 | 0, k, _, _, hu, hq, s, hs => hq k s hs (Nat.le_refl _) (Nat.le_refl _) hu (.inl rfl)
 | f + 1, k, h1, hf, hu, hq, s, hs => by
   refine ha _ _ _ _ (hp.low (by omega)) (hp.low (by omega)) hs fun s' o5 => ?_
   cases e : lt (p.getD k 0) (p.getD (k - 1) 0) with
   | true => exact hq k s' o5 (Nat.le_refl _) (by omega) hu (.inr ⟨by omega, e⟩)
   | false =>
     refine lD hp f (k + 1) (by omega) (by omega) (fun i j fm hj => ?_) (fun m s hs a b c d => hq m s hs (by omega) (by omega) c (by rcases d with d | d; exact .inl (by omega); exact .inr ⟨by omega, d.2⟩)) s' o5
     by_cases w5 : j < k
     . exact hu i j fm w5
     . have : j = k := by omega
       subst this
       by_cases hi : i = j - 1
       . rw [hi]; exact e
       . exact w.se _ _ _ e (hu i (j - 1) (by omega) (by omega))
theorem gQ {Q : Array Nat × Nat × Nat -> Shared -> Prop} : ∀ (f : Nat) (p : Array Nat) (k q : Nat), Ix n p -> k + f <= n -> q + 1 <= k -> Down lt p k -> Alike lt p (k - (q + 1)) k ->
 (∀ p' k' q' s, S s -> Ix n p' -> k <= k' -> k' <= k + f -> q' + 1 <= k' -> Down lt p' k' -> Alike lt p' (k' - (q' + 1)) k' -> Q (p', k', q') s) -> ∀ s, S s -> (kas_desc f p k q).kasWp cmp Q s
 | 0, p, k, q, hp, _, h1, hd, hl, hq, s, hs => hq p k q s hs hp (Nat.le_refl _) (Nat.le_refl _) h1 hd hl
 | f + 1, p, k, q, hp, hf, h1, hd, hl, hq, s, hs => by
   refine ha _ _ _ _ (hp.low (by omega)) (hp.low (by omega)) hs fun s' o5 => ?_
   cases e : lt (p.getD k 0) (p.getD (k - 1) 0) with
   | true =>
     have lT : ∀ i, i < k -> lt (p.getD i 0) (p.getD k 0) = false := fun i hi => by
      by_cases h : i = k - 1
      . rw [h]; exact w.AO _ _ e
      . exact w.se _ _ _ (hd i (k - 1) (by omega) (by omega)) (w.AO _ _ e)
     by_cases h0 : q > 0
     . simp only [if_true, if_pos h0]
       have hk : k <= p.size := by rw [hp.sz]; omega
       refine gQ f _ (k + 1) 0 (iC hp _ _) (by omega) (by omega) (fun i j fm hj => ?_) (fun i j a b c d => ?_) (fun p' k' q' s hs a b c d e f => hq p' k' q' s hs a (by omega) (by omega) d e f) s' o5
       . rw [cz hk, cz hk]
         by_cases w5 : j = k
         . subst w5
           rw [if_neg (show ¬ (j - (q + 1) <= j /\ j < j) by omega)]
           by_cases hi : j - (q + 1) <= i /\ i < j
           . rw [if_pos hi]; exact lT _ (by omega)
           . rw [if_neg hi]; exact lT _ fm
         . by_cases hi : k - (q + 1) <= i /\ i < k
           . rw [if_pos hi, if_pos (show k - (q + 1) <= j /\ j < k by omega)]
             exact hl _ _ (by omega) (by omega) (by omega) (by omega)
           . rw [if_neg hi]
             by_cases vq : k - (q + 1) <= j /\ j < k
             . rw [if_pos vq]; exact hd _ _ (by omega) (by omega)
             . rw [if_neg vq]; exact hd _ _ fm (by omega)
       . have : i = k := by omega
         have : j = k := by omega
         subst_vars
         exact w.A2 _
     . simp only [if_true, if_neg h0]
       refine gQ f _ (k + 1) 0 hp (by omega) (by omega) (fun i j fm hj => ?_) (fun i j a b c d => ?_) (fun p' k' q' s hs a b c d e f => hq p' k' q' s hs a (by omega) (by omega) d e f) s' o5
       . by_cases w5 : j = k
         . subst w5; exact lT _ fm
         . exact hd _ _ fm (by omega)
       . have : i = k := by omega
         have : j = k := by omega
         subst_vars
         exact w.A2 _
   | false =>
     simp only [Bool.false_eq_true, if_false]
     refine ha _ _ _ _ (hp.low (by omega)) (hp.low (by omega)) o5 fun s2 AW => ?_
     cases e2 : lt (p.getD (k - 1) 0) (p.getD k 0) with
     | true => simp only [if_true]; exact hq p k q s2 AW hp (Nat.le_refl _) (by omega) h1 hd hl
     | false =>
       simp only [Bool.false_eq_true, if_false]
       refine gQ f _ (k + 1) (q + 1) hp (by omega) (by omega) (fun i j fm hj => ?_) (fun i j a b c d => ?_) (fun p' k' q' s hs a b c d e f => hq p' k' q' s hs a (by omega) (by omega) d e f) s2 AW
       . by_cases w5 : j = k
         . subst w5
           by_cases h : i = j - 1
           . rw [h]; exact e2
           . exact w.se _ _ _ (hd i (j - 1) (by omega) (by omega)) e2
         . exact hd _ _ fm (by omega)
       . by_cases hi : i = k
         . by_cases hj : j = k
           . rw [hi, hj]; exact w.A2 _
           . rw [hi]; exact w.se _ _ _ e (hl _ _ (by omega) (by omega) (by omega) (by omega))
         . by_cases hj : j = k
           . rw [hj]; exact w.se _ _ _ (hl _ _ (by omega) (by omega) (by omega) (by omega)) e2
           . exact hl _ _ (by omega) (by omega) (by omega) (by omega)
theorem kH {Q : Nat × Array Nat -> Shared -> Prop} {p : Array Nat} {k : Nat} (hp : Ix n p) (h1 : 1 <= k) (hk : k <= n) (hd : Down lt p k) (hq : ∀ m p' s, S s -> Ix n p' -> 1 <= m -> m <= n -> Up lt p' m -> Q (m, p') s) (s : Shared) (hs : S s) : (kas_tail3 k n p).kasWp cmp Q s := by
 unfold kas_tail3
 rw [KasT.kasWp_bind]
 have uL : k <= p.size := by rw [hp.sz]; exact hk
 refine lD w ha (iC hp 0 k) (n - k) k h1 (by omega) (fun i j fm hj => ?_) (fun m s hs a b c _ => hq m _ s hs (iC hp _ _) (by omega) (by omega) c) s hs
 rw [cz uL, cz uL, if_pos (by omega), if_pos (by omega)]
 exact hd _ _ (by omega) (by omega)
theorem gm {Q : Nat × Array Nat -> Shared -> Prop} {p : Array Nat} {k : Nat} (hp : Ix n p) (h1 : 1 <= k) (hk : k + 1 <= n) (hd : Down lt p (k + 1)) (hq : ∀ m p' s, S s -> Ix n p' -> 1 <= m -> m <= n -> Up lt p' m -> Q (m, p') s) (s : Shared) (hs : S s) : (kas_descPart k n p).kasWp cmp Q s := by
 unfold kas_descPart
 rw [KasT.kasWp_bind]
 refine gQ w ha _ p (k + 1) 0 hp (by omega) (by omega) hd (fun i j a b c d => ?_) (fun p' k' q' s hs vt a b c iI hl => ?_) s hs
 . have : i = k := by omega
   have : j = k := by omega
   subst_vars
   exact w.A2 _
 . by_cases h0 : q' > 0
   . simp only [if_pos h0]
     have uL : k' <= p'.size := by rw [vt.sz]; omega
     refine kH w ha (iC vt _ _) (by omega) (by omega) (fun i j fm hj => ?_) hq s hs
     rw [cz uL, cz uL]
     by_cases hi : k' - (q' + 1) <= i /\ i < k'
     . rw [if_pos hi, if_pos (by omega)]; exact hl _ _ (by omega) (by omega) (by omega) (by omega)
     . rw [if_neg hi]
       by_cases vq : k' - (q' + 1) <= j /\ j < k'
       . rw [if_pos vq]; exact iI _ _ (by omega) (by omega)
       . rw [if_neg vq]; exact iI _ _ fm (by omega)
   . simp only [if_neg h0]
     exact kH w ha vt (by omega) (by omega) iI hq s hs
theorem p8 {Q : Nat × Array Nat -> Shared -> Prop} {p : Array Nat} (hn : 1 <= n) (hp : Ix n p) (hq : ∀ m p' s, S s -> Ix n p' -> 1 <= m -> m <= n -> Up lt p' m -> Q (m, p') s) (s : Shared) (hs : S s) : (kas_count n p).kasWp cmp Q s := by
 unfold kas_count
 rw [KasT.kasWp_bind]
 refine lD w ha hp (n - 1) 1 (Nat.le_refl _) (by omega) (fun i j _ _ => by omega) (fun m s hs a b hu hc => ?_) s hs
 by_cases hm : (m == n) = true
 . simp only [if_pos hm]; exact hq m p s hs hp a (by have := beq_iff_eq.mp hm; omega) hu
 . simp only [if_neg hm]
   have y6 : m ≠ n := fun z => hm (beq_iff_eq.mpr z)
   have bZ : m < n := by omega
   have pJ : lt (p.getD m 0) (p.getD (m - 1) 0) = true := by
    rcases hc with hc | hc
    . omega
    . exact hc.2
   by_cases h1 : m > 1
   . simp only [if_pos h1]
     refine ha _ _ _ _ (hp.low (by omega)) (hp.low (by omega)) hs fun s2 AW => ?_
     cases e : lt (p.getD 0 0) (p.getD (m - 1) 0) with
     | true => simp only [if_true]; exact hq m p s2 AW hp a (by omega) hu
     | false =>
       simp only [Bool.false_eq_true, if_false]
       have hk : m <= p.size := by rw [hp.sz]; omega
       have al : ∀ i j, i < m -> j < m -> lt (p.getD i 0) (p.getD j 0) = false := fun i j hi hj => by
        have h1 : lt (p.getD i 0) (p.getD 0 0) = false := by
         by_cases h : i = 0
         . rw [h]; exact w.A2 _
         . exact hu 0 i (by omega) hi
        have h2 : lt (p.getD i 0) (p.getD (m - 1) 0) = false := w.se _ _ _ h1 e
        by_cases h : j = m - 1
        . rw [h]; exact h2
        . exact w.se _ _ _ h2 (hu j (m - 1) (by omega) (by omega))
       refine gm w ha (iC hp _ _) a (by omega) (fun i j fm hj => ?_) hq s2 AW
       rw [cz hk, cz hk, if_pos (by omega)]
       by_cases Ik : j < m
       . rw [if_pos (by omega)]; exact al _ _ (by omega) (by omega)
       . rw [if_neg (by omega)]
         have : j = m := by omega
         subst this
         exact w.se _ _ _ (al _ (j - 1) (by omega) (by omega)) (w.AO _ _ pJ)
   . simp only [if_neg h1]
     refine gm w ha hp a (by omega) (fun i j fm hj => ?_) hq s hs
     have h1 : m = 1 := by omega
     have hi : i = m - 1 := by omega
     have hj : j = m := by omega
     rw [hi, hj]
     exact w.AO _ _ pJ
theorem hV {p : Array Nat} {k : Nat} (hp : Ix n p) (hk : k < n) (hu : Up lt p k) {Q : Nat -> Shared -> Prop} : ∀ (f l r : Nat), l <= r -> r <= k -> r - l <= f -> (∀ i, i < l -> lt (p.getD k 0) (p.getD i 0) = false) -> (∀ i, r <= i -> i < k -> lt (p.getD k 0) (p.getD i 0) = true) ->
 (∀ l s, S s -> l <= k -> (∀ i, i < l -> lt (p.getD k 0) (p.getD i 0) = false) -> (∀ i, l <= i -> i < k -> lt (p.getD k 0) (p.getD i 0) = true) -> Q l s) -> ∀ s, S s -> (kas_place p k f l r).kasWp cmp Q s
 | 0, l, r, Gf, hr, hf, h1, h2, hq, s, hs => hq l s hs (by omega) h1 (fun i a b => h2 i (by omega) b)
 | f + 1, l, r, Gf, hr, hf, h1, h2, hq, s, hs => by
   unfold kas_place
   by_cases h : l ≥ r
   . rw [if_pos h]; exact hq l s hs (by omega) h1 (fun i a b => h2 i (by omega) b)
   . rw [if_neg h]
     refine ha _ _ _ _ (hp.low hk) (hp.low (by omega)) hs fun s' o5 => ?_
     cases e : lt (p.getD k 0) (p.getD ((l + r) / 2) 0) with
     | true =>
       simp only [if_true]
       refine hV hp hk hu f l ((l + r) / 2) (by omega) (by omega) (by omega) h1 (fun i a b => ?_) hq s' o5
       by_cases hi : i = (l + r) / 2
       . rw [hi]; exact e
       . cases e3 : lt (p.getD k 0) (p.getD i 0) with
         | true => rfl
         | false => rw [w.se _ _ _ e3 (hu ((l + r) / 2) i (by omega) b)] at e; exact e
     | false =>
       simp only [Bool.false_eq_true, if_false]
       refine hV hp hk hu f ((l + r) / 2 + 1) r (by omega) (by omega) (by omega) (fun i a => ?_) h2 hq s' o5
       by_cases hi : i = (l + r) / 2
       . rw [hi]; exact e
       . exact w.se _ _ _ e (hu i ((l + r) / 2) (by omega) (by omega))
theorem qm {Q : Array Nat -> Shared -> Prop} : ∀ (f : Nat) (p : Array Nat) (k : Nat), Ix n p -> k + f = n -> Up lt p k -> (∀ p' s, S s -> Ix n p' -> Up lt p' n -> Q p' s) -> ∀ s, S s -> (kas_bin f p k).kasWp cmp Q s
 | 0, p, k, hp, hf, hu, hq, s, hs => by
   have : k = n := by omega
   subst this
   exact hq p s hs hp hu
 | f + 1, p, k, hp, hf, hu, hq, s, hs => by
   unfold kas_bin
   rw [KasT.kasWp_bind]
   refine hV w ha hp (by omega) hu k 0 k (by omega) (Nat.le_refl _) (by omega) (fun i h => by omega) (fun i a b => by omega) (fun l s hs hl h1 h2 => ?_) s hs
   have hk : k < p.size := by rw [hp.sz]; omega
   refine qm f _ (k + 1) (hp.perm (bubble_perm _ _ _)) (by omega) (fun i j fm hj => ?_) hq s hs
   rw [kD hk (by omega), kD hk (by omega)]
   have el : k - (k - l) = l := by omega
   rw [el]
   by_cases yC : j = l
   . rw [if_pos yC, if_neg (by omega), if_neg (by omega)]; exact h1 i (by omega)
   . rw [if_neg yC]
     by_cases yd : i = l
     . rw [if_pos yd, if_pos (by omega)]; exact w.AO _ _ (h2 _ (by omega) (by omega))
     . rw [if_neg yd]
       by_cases tL : l < i /\ i <= k
       . rw [if_pos tL, if_pos (by omega)]; exact hu _ _ (by omega) (by omega)
       . rw [if_neg tL]
         by_cases vq : l < j /\ j <= k
         . rw [if_pos vq]; exact hu _ _ (by omega) (by omega)
         . rw [if_neg vq]; exact hu _ _ fm (by omega)
theorem uA {Q : Array Nat -> Shared -> Prop} (hn : 1 <= n) (hq : ∀ p' s, S s -> Ix n p' -> Up lt p' n -> Q p' s) (s : Shared) (hs : S s) : (kas_sort n).kasWp cmp Q s := by
 unfold kas_sort
 rw [KasT.kasWp_bind]
 refine p8 w ha hn ⟨by simp, by simp⟩ (fun m p' s hs hp h1 hm hu => ?_) s hs
 by_cases h : m < n
 . simp only [if_pos h]
   have : max m 1 = m := by omega
   rw [this]
   exact qm w ha _ p' m hp (by omega) hu hq s hs
 . simp only [if_neg h]
   have : m = n := by omega
   subst this
   exact hq p' s hs hp hu
end
section
variable {X : Cx} {pins : List (Addr × Obj)} {σ : St} {H H' : Hp} {s : Shared} {a : Addr}
theorem Inv.kL {f : Obj -> Obj} (I : Inv X pins σ H s) (fa : bL X pins H a) : Inv X pins σ H { s with heap := s.heap.update a f } :=
 I.turned (t' := s.toks) (fun b o hb e => by rw [Heap.get?_update_ne _ _ _ _ hb]; exact e) fa.1 fa.2.1 fa.2.2.2.1 fa.2.2.2.2.1 fa.2.2.2.2.2
theorem Inv.fK {o : Obj} (I : Inv X pins σ H s) : Inv X pins σ H { s with heap := s.heap.push o } := I.kept (t' := s.toks) fun b u e => Heap.get?_push_of_some _ e
theorem bL.keep (fa : bL X pins H a) (h : H' a = none) : bL X pins H' a := ⟨h, fa.2⟩
theorem Inv.zi {acc : List V} {au : List Value} {n : Nat} (I : Inv X pins σ H s) (fa : bL X pins H a) (qJ : X.bN.heap.objs.size <= a) (hl : acc.length <= sizeLine) (r : Vals acc au) (hd : s.heap.get? a = some { cls := .type "list", data := .seq au.toArray n }) :
 Inv X pins σ (upd H a (.lst acc)) s := by
 have ne : ∀ b u, H b = some u -> b ≠ a := fun b u e => az e fa.1
 have old : ∀ b o, X.bN.heap.get? b = some o -> b ≠ a := fun b o e => Nat.ne_of_lt (Nat.lt_of_lt_of_le (Heap.lt_size e) qJ)
 have U := I.base
 refine ⟨I.ok, I.os, I.bare, ⟨U.keep, U.slot, fun b o e n hx => ?_, U.there, fun b xs e => ?_, fun b o u e => ?_, fun b ps e => ?_⟩, I.loc, I.cell, ?_, fun x c e => ?_, fun p hp => ?_, fun b u e => ?_, I.len⟩
 . rw [aj (old b o e)]; exact U.free b o e n hx
 . rw [aj (ne b _ (U.gI b xs e))]; exact U.gI b xs e
 . rw [aj (ne b _ (U.fW b o u e))]; exact U.fW b o u e
 . obtain ⟨more, q⟩ := U.gU b ps e
   exact ⟨more, by rw [aj (ne b _ q)]; exact q⟩
 . rw [aj (Ne.symm fa.2.1)]; exact I.free
 . rw [aj (fa.2.2.2.2.1 x c e)]; exact I.c9 x c e
 . obtain ⟨e1, e2, e3⟩ := I.pin p hp
   exact ⟨e1, by rw [aj (fa.2.2.2.2.2 p hp)]; exact e2, e3⟩
 . by_cases hb : b = a
   . subst hb
     rw [aw] at e
     cases e
     exact ⟨hl, au, n, r, hd⟩
   . rw [aj hb] at e
     exact (I.aL b u e).jP (fun c v _ q => q) (fun c q => by rw [aj (ne c _ q)]; exact q) fun c xs q => by rw [aj (ne c _ q)]; exact q
end
def rE (a b : Str) : Bool := decide (a.cps.toList < b.cps.toList)
def bX (a b : Int × Str) : Bool := decide (a.1 < b.1) || (decide (a.1 = b.1) && rE a.2 b.2)
theorem su (a : Str) : rE a a = false := decide_eq_false (List.lt_irrefl _)
theorem um {a b : Str} (h : rE a b = true) : rE b a = false := decide_eq_false (List.lt_asymm (of_decide_eq_true h))
theorem tH {a b c : Str} (h : rE a b = false) (h2 : rE b c = false) : rE a c = false := by
 unfold rE at *
 have pK : b.cps.toList <= a.cps.toList := List.not_lt.mp (of_decide_eq_false h)
 have AH : c.cps.toList <= b.cps.toList := List.not_lt.mp (of_decide_eq_false h2)
 exact decide_eq_false (List.not_lt.mpr (List.le_trans AH pK))
theorem rm {a b : Int × Str} : bX a b = true ↔ a.1 < b.1 \/ (a.1 = b.1 /\ rE a.2 b.2 = true) := by
 unfold bX; simp
theorem cM {a b : Int × Str} : bX a b = false ↔ ¬ a.1 < b.1 /\ (a.1 = b.1 -> rE a.2 b.2 = false) := by
 unfold bX; simp
theorem kN (a : Int × Str) : bX a a = false := cM.mpr ⟨by omega, fun _ => su _⟩
theorem qB {a b : Int × Str} (h : bX a b = true) : bX b a = false := by
 rcases rm.mp h with h | ⟨h, h2⟩
 . exact cM.mpr ⟨by omega, fun _ => by omega⟩
 . exact cM.mpr ⟨by omega, fun _ => um h2⟩
theorem r9 {a b c : Int × Str} (h : bX a b = false) (h2 : bX b c = false) : bX a c = false := by
 obtain ⟨h1, h3⟩ := cM.mp h
 obtain ⟨h4, h5⟩ := cM.mp h2
 refine cM.mpr ⟨by omega, fun e => ?_⟩
 exact tH (h3 (by omega)) (h5 (by omega))
section
variable {prog : Program} {w : World} {A : Around} {E : Value -> Shared -> Prop} {s : Shared}
theorem uf {x y : Addr} {i j : Int} {t u t2 u2 : Tok} {c d : Str} {Q : Bool -> Shared -> Prop} (hx : IsTup s.heap x #[.int i t, .str c t2]) (hy : IsTup s.heap y #[.int j u, .str d u2]) (h : Q (bX (i, c) (j, d)) s) :
 wpAny (model prog w) A (keyLt' (tuples' true) (.ref x) (.ref y)) Q E s := by
 obtain ⟨ox, FJ, cx, nx, dx⟩ := hx
 obtain ⟨oy, FA, cy, ny, dy⟩ := hy
 refine kat_lt FJ dx FA dy ?_
 refine kat_cons (wpAny_eqBool_int ?_)
 by_cases e : i = j
 . rw [show (i == j) = true from beq_iff_eq.mpr e]
   refine kat_yes (kat_cons (wpAny_eqBool_str ?_))
   by_cases e2 : c = d
   . rw [decide_eq_true e2]
     refine kat_yes (kat_nil ?_)
     have : bX (i, c) (j, d) = false := by rw [e, e2]; exact kN _
     rw [this] at h
     exact h
   . rw [decide_eq_false e2]
     refine kat_no (kat_one _ _ (lt_str ?_))
     have : bX (i, c) (j, d) = rE c d := by unfold bX; simp [e]
     rw [this] at h
     exact h
 . rw [show (i == j) = false from beq_eq_false_iff_ne.mpr e]
   refine kat_no (oneLt_int ?_)
   have : bX (i, c) (j, d) = decide (i < j) := by unfold bX; simp [e]
   rw [this] at h
   exact h
end
def ic (sp : Sp) (kf : V -> Int × Str) (H : Hp) (xs : List V) : Prop := ∀ v ∈ xs, ∀ H', ai H H' -> sp [v] H' (fun y H2 => ai H' H2 /\ Dv H2 y (.tuple [.int (kf v).1, .str (kf v).2])) E0
def jE {α : Type} (lt : α -> α -> Bool) (kf : V -> α) (ys xs : List V) : Prop := ys.Perm xs /\ ys.Pairwise fun x y => lt (kf y) (kf x) = false
section
variable {X : Cx} {pins : List (Addr × Obj)} {σ : St} {H : Hp} {s : Shared} {k : Nat} {f : Addr} {fd : FuncData} {ps : List Str} {sp : Sp} {kf : V -> Int × Str} {A : Around}
theorem sU {H' : Hp} {s' : Shared} {v : V} {u : Value} {pl : List (Addr × Obj)} (F : bQ X.prog X.w X.K X.mg X.base gO k f fd ps sp) (hb : Binds X.K fd ps []) (hr : bo (k + 2) X.A) (I : Inv X pl σ H' s') (r : RelV v u)
 (hs : sp [v] H' (fun y H2 => ai H' H2 /\ Dv H2 y (.tuple [.int (kf v).1, .str (kf v).2])) E0) :
 wpAny (model X.prog X.w) X.A.in1.in1 (call (.ref f) [u]) (EP X pl σ fun y H2 => ai H' H2 /\ Dv H2 y (.tuple [.int (kf v).1, .str (kf v).2])) (fun _ _ => False) s' := by
 have r2 : Vals [v] [u] := .cons r .nil
 have hl : ([u] ++ []).length = ps.length := by have := F.len _ _ _ _ hs; simpa using this
 have sd := hb s' [u] I.vS hl
 refine wpAny_call (codeAny_mono (F.run X.A.in1.in1 X.stack s' H' ⟨[u], []⟩ [u] [v] _ E0 (bo.in1 (bo.in1 hr)) (I.uC.in1.in1) (by simpa using sd) r2 hs) fun r s2 hq => ?_)
 cases r with
 | error e => exact hq.elim
 | ok fl =>
   cases fl with
   | ret u => exact I.after hq
   | next => exact False.elim hq
   | brk => exact False.elim hq
   | cont => exact False.elim hq
structure o8 (X : Cx) (pins : List (Addr × Obj)) (σ : St) (H : Hp) (kf : V -> Int × Str) (a kS : Addr) (oa : Obj) (xs : List V) (s' : Shared) : Prop where
 mk ::
 ex : ∃ H' us e ys, Inv X pins σ H' s' /\ ai H H' /\ H' a = none /\ H' kS = none /\ s'.heap.get? a = some oa /\ s'.heap.get? kS = some (seqObj "list" (List.toArray us) e) /\ Vals ys us /\ a9 H' ys (xs.map fun v => .tuple [.int (kf v).1, .str (kf v).2])
theorem i3 {kS : Addr} {oa : Obj} {body : Value -> PUnit -> Sem (ForInStep PUnit)} {E : Value -> Shared -> Prop} (F : bQ X.prog X.w X.K X.mg X.base gO k f fd ps sp) (hb : Binds X.K fd ps []) (hr : bo (k + 2) X.A) (zb : ∀ v, oa.data ≠ .cell v)
 (eu : ∀ x (s' : Shared) (R : Shared -> Prop), wpAny (model X.prog X.w) X.A.in1.in1 (call (.ref f) [x]) (fun k s2 => ∃ us e, s2.heap.get? kS = some (seqObj "list" (List.toArray us) e) /\ us.length < 64 /\ R { s2 with heap := s2.heap.update kS (Obj.mapSeq (·.push k)) }) (fun _ _ => False) s' ->
  wpAny (model X.prog X.w) X.A.in1.in1 (body x ⟨⟩) (fun r s2 => r = .yield ⟨⟩ /\ R s2) E s')
 (fa : bL X pins H a) (fk : bL X pins H kS) (lg : a ≠ kS) : ∀ (rx : List V) (r : List Value) (xs : List V) (s' : Shared), Vals rx r -> ic sp kf H rx -> xs.length + rx.length < 64 -> o8 X pins σ H kf a kS oa xs s' ->
  wpAny (model X.prog X.w) X.A.in1.in1 (forIn r PUnit.unit body) (fun _ s2 => o8 X pins σ H kf a kS oa (xs ++ rx) s2) E s'
 | [], _, xs, s', hv, _, _, hK => by
   cases hv
   rw [List.forIn_nil, List.append_nil]
   exact wpAny_pure hK
 | v :: rx, _, xs, s', .cons (b := u) (l₂ := r) hu hv, AQ, hlen, ⟨H', us, e, ys, I, sm, ha, hk, B2, C1, rv, dv⟩ => by
   rw [List.forIn_cons]
   have Fz := fa.keep (H' := H') ha
   have FE := fk.keep (H' := H') hk
   have I' : Inv X (pins ++ [(a, oa), (kS, seqObj "list" (List.toArray us) e)]) σ H' s' := by
    refine I.cX fun p hp => ?_
    rcases List.mem_append.mp hp with hp | hp
    . exact I.pin p (List.mem_append_right _ hp)
    . rcases List.mem_cons.mp hp with rfl | hp
      . exact ⟨B2, ha, fa.2.1, fa.2.2.1, zb⟩
      . have : p = (kS, seqObj "list" (List.toArray us) e) := by simpa using hp
        subst this
        exact ⟨C1, hk, fk.2.1, fk.2.2.1, fun v z => by cases z⟩
   have GH : us.length = xs.length := by rw [<- rv.length, dv.length, List.length_map]
   refine wpAny_bind (wpAny_mono (eu u s' (fun s2 => o8 X pins σ H kf a kS oa (xs ++ [v]) s2) (wpAny_mono (sU F hb hr I' hu (AQ v List.mem_cons_self H' sm)) (fun kv s2 hq => ?_) fun _ _ z => z)) (fun q s2 hq => ?_) fun _ _ z => z)
   . obtain ⟨y, H2, I2, ry, fy, dy⟩ := hq
     have p1 := I2.pin (a, oa) (List.mem_append_right _ (List.mem_append_right _ List.mem_cons_self))
     have p2 := I2.pin (kS, seqObj "list" (List.toArray us) e) (List.mem_append_right _ (List.mem_append_right _ (List.mem_cons_of_mem _ List.mem_cons_self)))
     have I3 : Inv X pins σ H2 s2 := I2.dw
     refine ⟨us, e, p2.1, by simp at hlen; omega, ?_⟩
     obtain ⟨c, hc⟩ : ∃ c, (s2.heap.update kS (Obj.mapSeq (·.push kv))).get? kS = some (seqObj "list" (List.toArray (us ++ [kv])) c) := by
      have ea : (List.toArray us).push kv = List.toArray (us ++ [kv]) := by simp
      rw [<- ea]
      exact ⟨_, get?_update_seq p2.1 (·.push kv)⟩
     refine ⟨H2, us ++ [kv], c, ys ++ [y], I3.kL (fk.keep p2.2.1), sm.trans fy, p1.2.1, p2.2.1, ?_, hc, rv.append (.cons ry .nil), ?_⟩
     . show (s2.heap.update kS _).get? a = some oa
       rw [Heap.get?_update_ne _ _ _ _ lg]; exact p1.1
     . rw [List.map_append]
       exact (dv.keeps fy).append (.cons dy .nil)
   . obtain ⟨rfl, hq⟩ := hq
     have := i3 F hb hr zb eu fa fk lg rx r (xs ++ [v]) s2 hv (fun z hz => AQ z (List.mem_cons_of_mem _ hz)) (by simp at hlen ⊢; omega) hq
     rw [List.append_assoc] at this
     exact this
theorem qp {xs : List V} {p : Array Nat} {α : Type} {lt : α -> α -> Bool} {kf : V -> α} (hp : Ix xs.length p) (hu : Up (fun i j => lt (kf (xs.getD i .bG)) (kf (xs.getD j .bG))) p xs.length) : jE lt kf (p.toList.map fun i => xs.getD i .bG) xs := by
 refine ⟨?_, ?_⟩
 . have h := hp.pm.map fun i => xs.getD i .bG
   have e : (List.range xs.length).map (fun i => xs.getD i .bG) = xs := by
    refine List.ext_getElem? fun i => ?_
    rw [List.getElem?_map]
    by_cases hi : i < xs.length
    . rw [List.getElem?_range hi]; simp [hi]
    . rw [List.getElem?_eq_none (by simpa using hi), List.getElem?_eq_none (by simpa using hi)]; rfl
   rw [e] at h
   exact h
 . rw [List.pairwise_map, List.pairwise_iff_getElem]
   intro i j hi hj fm
   have hsz : p.toList.length = xs.length := by simp [hp.sz]
   have := hu i j fm (by omega)
   have gi : p.getD i 0 = p.toList[i] := by simp [Array.getD, show i < p.size by rw [hp.sz]; omega]
   have gj : p.getD j 0 = p.toList[j] := by simp [Array.getD, show j < p.size by rw [hp.sz]; omega]
   rw [gi, gj] at this
   exact this
theorem fS : ∀ {xs : List V} {us : List Value} (i : Nat), Vals xs us -> RelV (xs.getD i .bG) (us.getD i Value.none)
 | _, _, _, .nil => rfl
 | _, _, 0, .cons r _ => r
 | _, _, i + 1, .cons _ t => by simpa using fS i t
theorem iW {xs : List V} {us : List Value} (r : Vals xs us) : ∀ l : List Nat, Vals (l.map fun i => xs.getD i .bG) (l.map fun i => us.getD i Value.none)
 | [] => .nil
 | i :: l => .cons (fS i r) (iW r l)
theorem kJ {H : Hp} {g : V -> PyData} : ∀ {ys : List V} {xs : List V} {i : Nat}, a9 H ys (xs.map g) -> i < xs.length -> Dv H (ys.getD i .bG) (g (xs.getD i .bG))
 | _, [], _, _, h => by simp at h
 | _, _ :: _, 0, .cons h _, _ => h
 | _, _ :: _, i + 1, .cons _ t, hi => by simpa using kJ (i := i) t (by simpa using hi)
def jy (X : Cx) (pins : List (Addr × Obj)) (σ : St) (H : Hp) {α : Type} (lt : α -> α -> Bool) (kf : V -> α) (xs : List V) (Q : VK) : Prop :=
 ∀ a ys H', ai H H' -> H a = none -> H' a = none -> jE lt kf ys xs -> Q (.ref a) (upd H' a (.lst ys))
theorem oN {H' : Hp} {s' : Shared} {xs ys : List V} {us : List Value} {A : Around} (I : Inv X pins σ H' s') (rv : Vals ys us) (dv : a9 H' ys (xs.map fun v => .tuple [.int (kf v).1, .str (kf v).2])) :
 zu xs.length (fun i j => bX (kf (xs.getD i .bG)) (kf (xs.getD j .bG))) (fun z => z = s') (kas_ask X.prog X.w A (tuples' true) us) := by
 intro i j C z hi hj hz hC
 subst hz
 have one : ∀ i, i < xs.length -> ∃ x t t2, us.getD i Value.none = .ref x /\ IsTup z.heap x #[.int (kf (xs.getD i .bG)).1 t, .str (kf (xs.getD i .bG)).2 t2] := fun i hi => by
  have d := kJ dv hi
  have r := fS i rv
  generalize ys.getD i .bG = y at d r
  generalize us.getD i Value.none = u at r
  cases d with
  | tup h q =>
    have r' : u = .ref _ := r
    obtain ⟨au, rr, tt, _⟩ := I.tuple (.of h)
    cases q with
    | cons h1 q =>
      cases q with
      | cons h2 q =>
        cases q
        cases h1; cases h2
        cases rr with
        | cons r1 rr =>
          cases rr with
          | cons r2 rr =>
            cases rr
            obtain ⟨t1, rfl⟩ := r1
            obtain ⟨t2, rfl⟩ := r2
            exact ⟨_, t1, t2, r', tt⟩
 obtain ⟨x, t, t2, e1, hx⟩ := one i hi
 obtain ⟨y, u, u2, e2, hy⟩ := one j hj
 show wpAny (model X.prog X.w) A (keyLt' (tuples' true) (us.getD i Value.none) (us.getD j Value.none)) C (fun _ _ => False) z
 rw [e1, e2]
 exact uf hx hy (hC _ rfl)
theorem iy {H' : Hp} {s' : Shared} : ∀ {xs ys : List V} {us : List Value}, Inv X pins σ H' s' -> Vals ys us -> a9 H' ys (xs.map fun v => .tuple [.int (kf v).1, .str (kf v).2]) ->
 ∃ fs, KatTups s'.heap us fs /\ fs.length = us.length /\ ∀ v ∈ fs, Looks (model X.prog X.w) s'.heap (typeOf v) (.type "int")
 | [], _, _, I, rv, dv => by
   cases dv
   cases rv
   exact ⟨[], trivial, rfl, fun _ z => nomatch z⟩
 | x :: xs, _, _, I, rv, dv => by
   cases dv with
   | cons d dv =>
     cases rv with
     | cons r rv =>
       obtain ⟨fs, h1, h2, h3⟩ := iy I rv dv
       cases d with
       | tup h q =>
         obtain ⟨au, rr, tt, _⟩ := I.tuple (.of h)
         cases q with
         | cons q1 q =>
           cases q with
           | cons q2 q =>
             cases q
             cases q1; cases q2
             cases rr with
             | cons r1 rr =>
               cases rr with
               | cons r2 rr =>
                 cases rr
                 obtain ⟨t1, rfl⟩ := r1
                 obtain ⟨t2, rfl⟩ := r2
                 cases r
                 obtain ⟨o, ho, hc, n, hd⟩ := tt
                 refine ⟨_ :: fs, KatTups.cons ho hc hd rfl h1, by simp [h2], fun v hv => ?_⟩
                 rcases List.mem_cons.mp hv with rfl | hv
                 . exact .now
                 . exact h3 v hv
end
section
variable {X : Cx} {pins : List (Addr × Obj)} {σ : St} {H : Hp} {s : Shared} {k : Nat} {f : Addr} {fd : FuncData} {ps : List Str} {sp : Sp} {kf : V -> Int × Str} {A : Around}
theorem jr {H' : Hp} {s' : Shared} {a kS : Addr} {e e1 : Nat} {us out : List Value} {ys : List V} {st : SortSt} {E : Value -> Shared -> Prop} {P : PySem.Fin -> Shared -> Prop} (I : Inv X pins σ H' s') (fa : bL X pins H' a) (fk : bL X pins H' kS) (lg : a ≠ kS) (qJ : X.bN.heap.objs.size <= a)
 (oa : s'.heap.get? a = some (seqObj "list" #[] e1)) (ok : s'.heap.get? kS = some (seqObj "list" (List.toArray us) e)) (hz : us.length < 64) (D3 : (arrOf st).map (·.2) = List.toArray out) (ho : out.length < 64) (hf : failedOf st = none) (rv : Vals ys out)
 (h : ∀ s2, Inv X pins σ (upd H' a (.lst ys)) s2 -> P (.done (.ret .none)) s2) : wpAny (model X.prog X.w) A (ksk_tail a false e1 (.ref kS) st) P E s' := by
 have wZ : (64 : Nat) <= sizeLine := by decide
 unfold ksk_tail
 dsimp only
 rw [D3]
 refine wpAny_bind (listUpdate_at ok rfl ?_ (by rw [List.size_toArray]; omega) (Nat.zero_le _))
 refine wpAny_bind (wpAny_letGo ?_)
 have Dz : (s'.heap.update kS (Obj.mapSeq fun _ => (#[] : Array Value))).get? a = some (seqObj "list" #[] e1) := by rw [Heap.get?_update_ne _ _ _ _ lg]; exact oa
 have I1 : Inv X pins σ H' { s' with heap := s'.heap.update kS (Obj.mapSeq fun _ => (#[] : Array Value)) } := I.kL fk
 refine wpAny_bind (seqEpoch_at Dz rfl ?_)
 refine wpAny_bind (listUpdate_at Dz rfl ?_ (Nat.zero_le _) (by show (List.toArray out).size <= _; rw [List.size_toArray]; omega))
 rw [hf]
 simp only [bne_self_eq_false, Bool.false_eq_true, if_false]
 refine wpAny_pure (h _ ?_)
 have I2 := I1.kL (f := Obj.mapSeq fun _ => List.toArray out) fa
 exact I2.zi fa qJ (by rw [rv.length]; omega) rv (get?_update_seq Dz fun _ => List.toArray out)
theorem k8 {H' : Hp} {s' : Shared} {a kS : Addr} {e e1 : Nat} {us vs : List Value} {xs ys : List V} {Q : VK} {E : Value -> Shared -> Prop} {P : PySem.Fin -> Shared -> Prop} (sm : ai H H') (Ff : H a = none) (I : Inv X pins σ H' s') (fa : bL X pins H' a) (fk : bL X pins H' kS) (lg : a ≠ kS) (qJ : X.bN.heap.objs.size <= a)
 (oa : s'.heap.get? a = some (seqObj "list" #[] e1)) (ok : s'.heap.get? kS = some (seqObj "list" (List.toArray us) e)) (m6 : xs.length < 64) (rx : Vals xs vs) (ry : Vals ys us) (dv : a9 H' ys (xs.map fun v => .tuple [.int (kf v).1, .str (kf v).2]))
 (fin : jy X pins σ H bX kf xs Q) (h : ∀ s2, EP X pins σ Q (.ref a) s2 -> P (.done (.ret .none)) s2) : wpAny (model X.prog X.w) A (ksk_end a false vs.toArray e1 (.ref kS) (List.toArray us)) P E s' := by
 have lx := rx.length
 have ly := ry.length
 have ld := dv.length
 rw [List.length_map] at ld
 unfold ksk_end
 simp only [Bool.false_eq_true, if_false]
 by_cases h2 : vs.toArray.size < 2
 . rw [if_pos h2, if_pos h2]
   refine wpAny_bind (wpAny_pure ?_)
   rw [StateT.run_pure]
   refine wpAny_bind (wpAny_pure ?_)
   refine jr (out := vs) (ys := xs) I fa fk lg qJ oa ok (by omega) ?_ (by omega) rfl rx (fun s2 I2 => h s2 ⟨.ref a, _, I2, rfl, fin a xs H' sm Ff fa.1 ⟨List.Perm.refl _, ?_⟩⟩)
   . show ((List.toArray us).zip vs.toArray).map (·.2) = List.toArray vs
     apply Array.toList_inj.mp
     have : us.length = vs.length := by omega
     simp [List.map_snd_zip, this]
   . rw [List.size_toArray] at h2
     match xs, lx with
     | [], _ => exact .nil
     | [_], _ => exact List.pairwise_singleton _ _
     | _ :: _ :: _, lx => simp at lx; omega
 . rw [if_neg h2, if_neg h2]
   rw [List.size_toArray] at h2
   obtain ⟨fs, k1, k2, k3⟩ := iy I ry dv
   refine wpAny_bind (kat_kind k1 (by omega) k3 (by decide) ?_)
   have EE : us.length = vs.length := by omega
   refine wpAny_bind (wpAny_mono (kat_run (Q := fun sg s2 => s2 = s' /\ ∃ p : Array Nat, Ix xs.length p /\ arrOf sg = p.map (kas_item ((List.toArray us).zip (List.toArray vs))) /\ failedOf sg = none /\ Up (fun i j => bX (kf (xs.getD i .bG)) (kf (xs.getD j .bG))) p xs.length)
    (G := fun p s2 => s2 = s' /\ Ix xs.length p /\ Up (fun i j => bX (kf (xs.getD i .bG)) (kf (xs.getD j .bG))) p xs.length) EE (by omega) (by omega) (fun p sg s2 a1 a2 a3 ⟨a4, a5, a6⟩ => ⟨a4, p, a5, a2, a3, a6⟩) ?_) ?_ fun _ _ z => z)
   . rw [show vs.length = xs.length by omega]
     refine uA (lt := fun i j => bX (kf (xs.getD i .bG)) (kf (xs.getD j .bG))) (S := fun z => z = s') ⟨fun _ => kN _, fun _ _ => qB, fun _ _ _ => r9⟩ (oN I ry dv) (by omega) (fun p s2 hs hp hu => ⟨hs, hp, hu⟩) s' rfl
   . rintro ⟨⟨⟩, sg⟩ s2 ⟨rfl, p, hp, Gv, hf, hu⟩
     dsimp only
     refine jr (out := p.toList.map fun i => vs.getD i Value.none) (ys := p.toList.map fun i => xs.getD i .bG) I fa fk lg qJ oa ok (by omega) (kat_snds EE Gv) (by simp [hp.sz]; omega) hf (iW rx _) (fun s3 I3 => h s3 ⟨.ref a, _, I3, rfl, fin a _ H' sm Ff fa.1 (qp hp hu)⟩)
theorem lW {l : Addr} {xs : List V} {Q : VK} {E : Value -> Shared -> Prop} (I : Inv X pins σ H s) (hl : bF X.K H l xs) (m6 : xs.length < 64) (F : bQ X.prog X.w X.K X.mg X.base gO k f fd ps sp) (hb : Binds X.K fd ps []) (hr : bo (k + 2) X.A)
 (hk : ic sp kf H xs) (fin : jy X pins σ H bX kf xs Q) : wpAny (model X.prog X.w) X.A (call (.builtin "sorted") [.ref l] [(Str.ofString "key", .ref f)]) (EP X pins σ Q) E s := by
 have wZ : (64 : Nat) <= sizeLine := by decide
 obtain ⟨vs, rv, p, hz⟩ := I.list hl
 have lx := rv.length
 refine call_function_entry_kw kind_sorted plain_sorted entry_sorted (ksk_s1 _ _) ?_
 unfold Builtin.«sorted»
 refine wpAny_bind (m := checkCount "sorted" 1 1 _) (wpAny_pure ?_)
 refine wpAny_bind (collect_list p.isList ?_ (by omega))
 refine wpAny_bind (wpAny_newList ?_ (by omega))
 have GW : bL X pins H s.heap.objs.size := I.fH (Nat.le_refl _) (I.aL.fresh (Nat.le_refl _))
 have I2 : Inv X pins σ H { s with heap := (s.heap.push (seqObj "list" #[] 0)).update s.heap.objs.size (Obj.mapSeq (· ++ vs.toArray)) } := (I.fK (o := seqObj "list" #[] 0)).kL GW
 have hsz : ((s.heap.push (seqObj "list" #[] 0)).update s.heap.objs.size (Obj.mapSeq (· ++ vs.toArray))).objs.size = s.heap.objs.size + 1 := by rw [Heap.size_update, size_push']
 generalize hG : (s.heap.push (seqObj "list" #[] 0)).update s.heap.objs.size (Obj.mapSeq (· ++ vs.toArray)) = h2 at I2 hsz ⊢
 have mK : (h2.push (seqObj "list" vs.toArray 0)).get? h2.objs.size = some (seqObj "list" vs.toArray 0) := Heap.get?_push_size _ rfl
 have I3 : Inv X pins σ H { s with heap := h2.push (seqObj "list" vs.toArray 0) } := I2.fK
 have fa : bL X pins H h2.objs.size := I2.fH (Nat.le_refl _) (I2.aL.fresh (Nat.le_refl _))
 have qJ : X.bN.heap.objs.size <= h2.objs.size := I2.sz
 show wpAny _ _ _ _ _ { s with heap := h2.push (seqObj "list" vs.toArray 0) }
 generalize h2.objs.size = a at *
 refine wpAny_bind (wpAny_holding (wpAny_call_entry_kw slot_list_sort ⟨_, mK, rfl⟩ entry_list_sort ?body (ksk_l1 _ _)))
 case body =>
  show wpAny (model X.prog X.w) X.A.in1.in1 (Builtin.«list.sort» ⟨[.ref a], [(Str.ofString "key", .ref f)]⟩) _ _ _
  rw [ksk_t1]
  generalize h2.push (seqObj "list" vs.toArray 0) = h3 at *
  unfold ksk_tree
  refine wpAny_bind (listItems_at mK rfl ?_)
  refine wpAny_bind (listUpdate_at mK rfl ?_ (by rw [List.size_toArray]; omega) (Nat.zero_le _))
  have I4 : Inv X pins σ H { s with heap := h3.update a (Obj.mapSeq fun _ => (#[] : Array Value)) } := I3.kL fa
  obtain ⟨e1, oa⟩ : ∃ e1, (h3.update a (Obj.mapSeq fun _ => (#[] : Array Value))).get? a = some (seqObj "list" #[] e1) := ⟨_, get?_update_seq mK fun _ => #[]⟩
  generalize h3.update a (Obj.mapSeq fun _ => (#[] : Array Value)) = h4 at *
  refine wpAny_bind (seqEpoch_at oa rfl ?_)
  refine wpAny_bind (wpAny_newTuple ?_ (by show vs.length <= _; omega))
  have I5 : Inv X pins σ H { s with heap := h4.push (seqObj "tuple" vs.toArray 0) } := I4.fK
  have Ae : (h4.push (seqObj "tuple" vs.toArray 0)).get? a = some (seqObj "list" #[] e1) := Heap.get?_push_of_some _ oa
  show wpAny _ _ _ _ _ { s with heap := h4.push (seqObj "tuple" vs.toArray 0) }
  generalize h4.push (seqObj "tuple" vs.toArray 0) = h5 at *
  refine wpAny_bind (wpAny_newList ?_ (Nat.zero_le _))
  have I6 : Inv X pins σ H { s with heap := h5.push (seqObj "list" #[] 0) } := I5.fK
  have fk : bL X pins H h5.objs.size := I5.fH (Nat.le_refl _) (I5.aL.fresh (Nat.le_refl _))
  have DR : (h5.push (seqObj "list" #[] 0)).get? a = some (seqObj "list" #[] e1) := Heap.get?_push_of_some _ Ae
  have Dq : (h5.push (seqObj "list" #[] 0)).get? h5.objs.size = some (seqObj "list" #[] 0) := Heap.get?_push_size _ rfl
  have lg : a ≠ h5.objs.size := Nat.ne_of_lt (Heap.lt_size Ae)
  show wpAny _ _ _ _ _ { s with heap := h5.push (seqObj "list" #[] 0) }
  show wpAny _ _ (holding [_, .ref h5.objs.size] (ksk_rest a (.ref f) false vs.toArray e1 (.ref h5.objs.size))) _ _ _
  generalize h5.objs.size = kS at *
  generalize h5.push (seqObj "list" #[] 0) = h6 at *
  refine wpAny_holding ?_
  unfold ksk_rest
  refine wpAny_bind (wpAny_rule ?_)
  first
   | rw [List.forIn_toArray]
   | (rw [<- Array.forIn_toList]; simp only [List.toList_toArray])
  refine wpAny_bind (wpAny_mono (i3 (kf := kf) F hb hr (oa := seqObj "list" #[] e1) (fun v z => by cases z) (fun x s' R hx => ?_) fa fk lg xs vs [] { s with heap := h6 } rv hk (by simpa using m6) ⟨H, [], 0, [], I6, ai.refl _, fa.1, fk.1, DR, Dq, .nil, .nil⟩) (fun _ s7 hK => ?_) fun _ _ z => z)
  . refine wpAny_bind (wpAny_attempt (wpAny_mono hx (fun kv s2 hq => ?_) fun _ _ z => z.elim))
    obtain ⟨us, e, ok, bZ, hR⟩ := hq
    dsimp only
    refine wpAny_bind (listUpdate_at ok rfl ?_ (by rw [List.size_toArray]; omega) (by rw [Array.size_push, List.size_toArray]; omega))
    exact wpAny_pure ⟨rfl, hR⟩
  . obtain ⟨H', us, e, ys, I7, sm, D9, Dt, CZ, zr, ry, dv⟩ := hK
    try dsimp only
    refine wpAny_bind (listItems_at zr rfl ?_)
    refine k8 sm fa.1 I7 (fa.keep D9) (fk.keep Dt) lg qJ CZ zr m6 rv ry (by simpa using dv) fin (fun s8 h8 => ⟨_, rfl, wpAny_pure ⟨_, rfl, h8⟩⟩)
end
def ig (sp : Sp) (K : PySem.W.Frag) (vs : List V) (H : Hp) (Q : VK) : Prop := ∃ a xs kf, vs = [.ref a] /\ bF K H a xs /\ xs.length < 64 /\ ic sp kf H xs /\ ∀ l ys H', ai H H' -> H l = none -> H' l = none -> jE bX kf ys xs -> Q (.ref l) (upd H' l (.lst ys))
def p7 (K : PySem.W.Frag) (sp : Sp) (t : TA) : TE := fun σ H Q => t σ H fun vs H1 => ig sp K vs H1 Q
section
variable {X : Cx} {k : Nat} {f : Addr} {ps : List Str} {sp : Sp} {e : Expr} {t : TA} {x : Str} {p p2 pos n6 : Pos}
theorem rM (c : m9 X.prog X.w X.K X.mg X.base k f ps [] sp) (hr : bo (k + 2) X.A) (hg : Gl X "sorted") (hm : X.mg "sorted" = none) (hf : PE X (.Name x p2) (tC (.ref f))) (ha : PA X [e] t)
 (pX : backTo pos (starEach [e] X.env) = (false, eval e X.env) :: backTo pos (starEach [] X.env) := by rfl) (ka : (backTo pos (starEach [e] X.env)).any (·.1) = false := by rfl) : PE X (.Call (.Name "sorted" p) [e] [⟨some "key", .Name x p2, n6⟩] pos) (p7 X.K sp t) := by
 intro pins s σ H Q I h
 obtain ⟨fd, ds, F, hb, hd⟩ := c.ex
 cases hd
 refine wpAny_Call_Name_kw (cN I hg hm boot_sorted ?_)
 refine callWith_kw (bu (ha pos pins s σ H _ I h) fun us s1 ⟨vs, H1, I1, r1, q1⟩ => ?_) pX ka
 refine bu (tP hf yp pos pins s1 σ H1 (fun zs H2 => zs = [.ref f] /\ H2 = H1) I1 ⟨rfl, rfl⟩) fun ws s2 ⟨zs, H2, I2, rz, q2, q3⟩ => ?_
 subst q2; subst q3
 obtain ⟨a, xs, kf, e1, hl, m6, hk, fin⟩ := q1
 subst e1
 obtain ⟨u, rfl, ru⟩ := vals1 r1
 obtain ⟨w', rfl, rl⟩ := vals1 rz
 have e1 : u = .ref a := ru
 have e2 : w' = .ref f := rl
 subst e1; subst e2
 exact lW I2 hl m6 F hb hr hk (fun a ys H' => fin a ys H')
end
end L2
namespace L2
open PySem PySem.Spec PyProof.Rows
theorem gZ {scope : Scope} {env : Env} (h : ∀ x ∈ scope.names, x.2 = .free -> ∃ c, env.cells.lookup x.1 = some c) :
 ∃ cl, closureFor scope env = pure cl /\ (∀ x c, cl.lookup x = some c -> env.cells.lookup x = some c) /\ ∀ x ∈ scope.names, x.2 = .free -> ∃ c, cl.lookup x.1 = some c := by
 have key : ∀ (l : List (Str × NameKind)) (acc : List (Str × Addr)), (∀ x ∈ l, x.2 = .free -> ∃ c, env.cells.lookup x.1 = some c) -> (∀ x c, acc.lookup x = some c -> env.cells.lookup x = some c) ->
  ∃ cl, (forIn l acc (fun (x : Str × NameKind) (r : List (Str × Addr)) => (match x with
    | (name, kind) => if (kind == NameKind.free) = true then (do let c <- cellOf env name; pure (ForInStep.yield ((name, c) :: r))) else pure (ForInStep.yield r) : Sem (ForInStep (List (Str × Addr))))) : Sem _) = pure cl /\
    (∀ x c, cl.lookup x = some c -> env.cells.lookup x = some c) /\ (∀ x ∈ l, x.2 = .free -> ∃ c, cl.lookup x.1 = some c) /\ ∀ x, (∃ c, acc.lookup x = some c) -> ∃ c, cl.lookup x = some c := by
  intro l
  induction l with
  | nil => intro acc _ ha; exact ⟨acc, rfl, ha, fun _ z => (nomatch z), fun _ z => z⟩
  | cons p r ih =>
    intro acc hl ha
    obtain ⟨n, k⟩ := p
    rw [List.forIn_cons]
    by_cases hk : k = .free
    . subst hk
      obtain ⟨c, hc⟩ := hl (n, .free) List.mem_cons_self rfl
      have ju : cellOf env n = pure c := by unfold cellOf; rw [hc]
      obtain ⟨cl, e, h1, h2, h3⟩ := ih ((n, c) :: acc) (fun x hx => hl x (List.mem_cons_of_mem _ hx)) (fun x d hd => by
       rw [List.lookup_cons] at hd
       by_cases hx : x = n
       . subst hx; rw [beq_self_eq_true] at hd; cases hd; exact hc
       . rw [beq_eq_false_iff_ne.mpr hx] at hd; exact ha x d hd)
      refine ⟨cl, ?_, h1, fun x hx hf => ?_, fun x ⟨d, hd⟩ => h3 x ?_⟩
      . simp only [beq_self_eq_true, if_true, ju]
        exact e
      . rcases List.mem_cons.mp hx with rfl | hx
        . exact h3 n ⟨c, by rw [List.lookup_cons, beq_self_eq_true]⟩
        . exact h2 x hx hf
      . rw [List.lookup_cons]
        by_cases hx : x = n
        . subst hx; rw [beq_self_eq_true]; exact ⟨c, rfl⟩
        . rw [beq_eq_false_iff_ne.mpr hx]; exact ⟨d, hd⟩
    . obtain ⟨cl, e, h1, h2, h3⟩ := ih acc (fun x hx => hl x (List.mem_cons_of_mem _ hx)) ha
      refine ⟨cl, ?_, h1, fun x hx hf => ?_, h3⟩
      . have : (k == NameKind.free) = false := by simpa using hk
        simp only [this, Bool.false_eq_true, if_false]
        exact e
      . rcases List.mem_cons.mp hx with rfl | hx
        . exact absurd hf hk
        . exact h2 x hx hf
 obtain ⟨cl, e, h1, h2, _⟩ := key scope.names [] h (fun _ _ z => by simp at z)
 refine ⟨cl, ?_, h1, h2⟩
 unfold closureFor
 show (forIn scope.names [] _ >>= fun cs => pure cs) = _
 refine Eq.trans (congrArg (· >>= _) e) rfl
theorem dF {env : Env} {scope : Scope} {x : Str} : (relabel scope env).names.lookup x = (scope.names.lookup x).map fun k => if (k == NameKind.free && env.scope.kind == .function && env.kindOf x == some .cell) = true then .cell else k := by
 unfold relabel
 show List.lookup x (List.map _ scope.names) = _
 generalize scope.names = l
 induction l with
 | nil => rfl
 | cons p r ih =>
   obtain ⟨n, k⟩ := p
   rw [List.map_cons]
   dsimp only
   by_cases hx : x = n
   . subst hx
     by_cases hc : (k == NameKind.free && env.scope.kind == .function && env.kindOf x == some .cell) = true
     . rw [if_pos hc, List.lookup_cons, List.lookup_cons, beq_self_eq_true]; simp only [Option.map_some, if_pos hc]
     . rw [if_neg hc, List.lookup_cons, List.lookup_cons, beq_self_eq_true]; simp only [Option.map_some, if_neg hc]
   . have hb : (x == n) = false := beq_eq_false_iff_ne.mpr hx
     by_cases hc : (k == NameKind.free && env.scope.kind == .function && env.kindOf n == some .cell) = true
     . rw [if_pos hc, List.lookup_cons, List.lookup_cons, hb]; exact ih
     . rw [if_neg hc, List.lookup_cons, List.lookup_cons, hb]; exact ih
theorem mem_lookup {α : Type} {x : Str} {k : α} : ∀ {l : List (Str × α)}, l.lookup x = some k -> (x, k) ∈ l
 | [], h => by simp at h
 | (n, j) :: r, h => by
   rw [List.lookup_cons] at h
   by_cases hx : x = n
   . subst hx; rw [beq_self_eq_true] at h; cases h; exact List.mem_cons_self
   . rw [beq_eq_false_iff_ne.mpr hx] at h; exact List.mem_cons_of_mem _ (mem_lookup h)
def cV (X : Cx) (N : List Str) (scope : Scope) (cl : List (Str × Addr)) (C : Addr) (s : Shared) (H : Hp) (fp : List Addr) : Cx :=
 { X with N := N, bN := s, ow := H, env := compEnvC scope cl C X.env, outer := X.stack, stack := X.stack, ex := fp, fn := fun _ => false, pn := [], xe := fun _ _ => False }
structure eK (X : Cx) (T M : List Str) (scope : Scope) : Prop where
 kind : scope.kind = .function
 cell : ∀ y ∈ scope.names, y.2 ≠ .cell
 names : ∀ y ∈ scope.names, y.2 = .local -> scope.names.lookup y.1 = some .local
 free : ∀ y ∈ scope.names, y.2 = .free -> X.env.scope.names.lookup y.1 = some .cell \/ X.env.scope.names.lookup y.1 = some .free
 len : M.length = X.N.length
 old : ∀ (i : Nat) x, M[i]? = some x -> X.N[i]? = some x /\ scope.names.lookup x = some .free \/ scope.names.lookup x = none
section
variable {X : Cx} {pins : List (Addr × Obj)} {σ : St} {H : Hp} {s : Shared} {T M : List Str} {scope : Scope} {cl : List (Str × Addr)} {fp : List Addr}
theorem y0 {C : Addr} (I : Inv X pins σ H s) (hN : eK X T M scope) (h1 : ∀ x c, cl.lookup x = some c -> X.env.cells.lookup x = some c) (h2 : ∀ x ∈ scope.names, x.2 = .free -> ∃ c, cl.lookup x.1 = some c)
 (hC : s.heap.objs.size <= C) (hf : ∀ b ∈ fp, bL X pins H b) (yG : ∀ b ∈ fp, b < s.heap.objs.size) : (cV X (T ++ M) scope cl C s H fp).Ok where
 mod := I.ok.mod
 kind := hN.kind
 glob := I.ok.glob
 blt := I.ok.blt
 above := hC
 inj := fun x y c e1 e2 => I.ok.inj x y c (h1 x c e1) (h1 y c e2)
 has := fun x hx => by
  have iV : (relabel scope X.env).names.lookup x = some .cell \/ (relabel scope X.env).names.lookup x = some .free := hx
  rw [dF] at iV
  cases e : scope.names.lookup x with
  | none => rw [e] at iV; simp at iV
  | some k =>
    have hm := mem_lookup e
    have hk : k = .free := by
     rw [e] at iV
     simp only [Option.map_some, Option.some.injEq] at iV
     by_cases hf : k = .free
     . exact hf
     . have : (k == NameKind.free) = false := by simpa using hf
       simp only [this, Bool.false_and, Bool.false_eq_true, if_false] at iV
       rcases iV with iV | iV
       . exact absurd iV (hN.cell _ hm)
       . exact iV
    exact h2 (x, k) hm hk
 yO := fun _ _ z => by cases z
 hd := I.ok.hd
 frames := I.ok.frames
 zE := .inl rfl
 Ao := fun b hb => ⟨Nat.ne_of_lt (Nat.lt_of_lt_of_le (yG b hb) hC), fun x c e => (hf b hb).2.2.2.2.1 x c (h1 x c e)⟩
 bs := I.bs
 qg := Nat.le_trans I.ok.qg I.sz
 o1 := fun b o e hb => by
  rcases (hf b hb).2.2.2.1 with z | z
  . exact I.ok.o1 b o e z
  . exact absurd (Nat.lt_of_lt_of_le (Heap.lt_size e) (Nat.le_trans I.ok.qg z)) (Nat.lt_irrefl _)
 nZ := fun b hb z => by
  rcases List.mem_cons.mp (I.mJ b z) with e | e
  . exact (hf b hb).2.1 e
  . exact (hf b hb).2.2.1 e
 fJ := I.stack
 uw := I.nD
theorem qE {C : Addr} {h₁ : Heap} {tk : Nat} (I : Inv X pins σ H s) (hN : eK X T M scope) (h1 : ∀ x c, cl.lookup x = some c -> X.env.cells.lookup x = some c) (h2 : ∀ x ∈ scope.names, x.2 = .free -> ∃ c, cl.lookup x.1 = some c)
 (hC : s.heap.objs.size <= C) (hf : ∀ b ∈ fp, bL X pins H b) (yG : ∀ b ∈ fp, b < s.heap.objs.size)
 {m : Str -> Option Value} (hn : h₁.Ns C m) (old : ∀ b o, s.heap.get? b = some o -> h₁.get? b = some o) :
 Inv (cV X (T ++ M) scope cl C s H fp) [] (List.replicate T.length none ++ σ) H { s with heap := h₁, toks := tk } where
 ok := y0 I hN h1 h2 hC hf yG
 os := rfl
 bare := I.bare
 base := Un.kept old
 loc := by
  refine ⟨m, hn, fun i x v e1 e2 e3 => ?_⟩
  have EA : (T ++ M)[i]? = some x := e1
  by_cases hi : i < T.length
  . rw [List.getElem?_append_left (by simpa using hi), List.getElem?_replicate, if_pos hi] at e2
    cases e2
  . have vn : T.length <= i := Nat.le_of_not_lt hi
    rw [List.getElem?_append_right vn] at EA
    rw [List.getElem?_append_right (by simpa using vn), List.length_replicate] at e2
    have DC : yQ (relabel scope X.env) x := e3
    rcases hN.old _ x EA with ⟨hx, jm⟩ | Bn
    . obtain ⟨m0, qJ, xj⟩ := I.loc
      have hk := hN.free _ (mem_lookup jm) rfl
      have uL : X.env.scope.names.lookup x = some .cell \/ X.env.scope.names.lookup x = some .free := hk
      obtain ⟨u, r, l⟩ := xj _ x v hx e2 (.inr uL)
      refine ⟨u, r, .inr ?_⟩
      rcases l with ⟨z, _⟩ | ⟨_, c, hc, ju⟩
      . have z' : X.env.scope.names.lookup x = some .local := z
        rw [z'] at uL; rcases uL with q | q <;> cases q
      . obtain ⟨c', pJ⟩ := h2 _ (mem_lookup jm) rfl
        have : c' = c := by have := h1 _ _ pJ; rw [hc] at this; exact (Option.some.inj this).symm
        subst this
        refine ⟨?_, c', pJ, ?_⟩
        . show (relabel scope X.env).names.lookup x = some .cell \/ (relabel scope X.env).names.lookup x = some .free
          rw [dF, jm]
          simp only [Option.map_some, Option.some.injEq]
          by_cases hc : (NameKind.free == NameKind.free && X.env.scope.kind == .function && X.env.kindOf x == some .cell) = true
          . left; rw [if_pos hc]
          . right; rw [if_neg hc]
        . obtain ⟨o, ho, hd⟩ := ju
          exact ⟨o, old _ _ ho, hd⟩
    . unfold yQ at DC
      rw [dF, Bn] at DC
      simp at DC
 cell := fun x c e => by
  obtain ⟨v, o, ho, hd⟩ := I.cell x c (h1 x c e)
  exact ⟨v, o, old _ _ ho, hd⟩
 free := I.aL.fresh hC
 c9 := fun x c e => I.c9 x c (h1 x c e)
 pin := fun p hp => nomatch hp
 aL := I.aL.kept old
 len := by
  show (List.replicate T.length none ++ σ).length = (T ++ M).length
  rw [List.length_append, List.length_append, List.length_replicate, hN.len, I.len]
theorem sM {C D : Addr} {s' : Shared} {σ' : St} {H' : Hp} {acc : List V} {au : List Value} {n : Nat} (I : Inv X pins σ H s) (I' : Inv (cV X (T ++ M) scope cl C s H fp) [] σ' H' s')
 (hf : ∀ b ∈ fp, bL X pins H b) (hD : s.heap.objs.size <= D) (hn : H' D = none) (hl : acc.length <= sizeLine) (r : Vals acc au) (hd : s'.heap.get? D = some { cls := .type "list", data := .seq au.toArray n }) :
 Inv X pins σ (upd H' D (.lst acc)) s' := by
 have U : Un (k6 X.stack) fp H H' s.heap s'.heap := I'.base
 have Hn : ∀ b o, s.heap.get? b = some o -> b ≠ D := fun b o e => Nat.ne_of_lt (Nat.lt_of_lt_of_le (Heap.lt_size e) hD)
 have neT : ∀ b u, H' b = some u -> b ≠ D := fun b u e => az e hn
 refine I.y8 (ch := fp) I'.os ⟨U.keep, U.slot, fun b o e1 e2 e3 => ?_, U.there, fun b xs e => ?_, fun b o u e => ?_, fun b ps e => ?_⟩ (fun b u e => ?_) I'.bare (fun b hb => ⟨(hf b hb).2.2.2.1, (hf b hb).2.1, (hf b hb).2.2.2.2.1, (hf b hb).2.2.2.2.2⟩)
 . rw [aj (Hn b o e1)]; exact U.free b o e1 e2 e3
 . rw [aj (neT b _ (U.gI b xs e))]; exact U.gI b xs e
 . rw [aj (neT b _ (U.fW b o u e))]; exact U.fW b o u e
 . obtain ⟨more, q⟩ := U.gU b ps e
   exact ⟨more, by rw [aj (neT b _ q)]; exact q⟩
 . by_cases hb : b = D
   . subst hb
     rw [aw] at e
     cases e
     exact ⟨hl, au, n, r, hd⟩
   . rw [aj hb] at e
     exact (I'.aL b u e).jP (fun c v _ q => q) (fun c q => by rw [aj (neT c _ q)]; exact q) fun c xs q => by rw [aj (neT c _ q)]; exact q
end
theorem lB {prog : Program} {w : World} {A : Around} {R : Result -> Shared -> Prop} {s : Shared} {elt target iter : Expr} {ifs : List Expr} {scope : Scope} {pos : Pos} {it acc : Value} {env : Env} (I : Nat -> Shared -> Prop)
 (turn : ∀ n s, I n s -> wpAny (model prog w) A (pyNext it) (fun r s₁ => match r with
  | none => R (.ok .next) s₁
  | some v => wpAny (model prog w) A (letOwnedTupleGo target it v) (fun _ vy => wpAny (model prog w) A (assign target env v) (fun _ s₂ =>
   wpAny (model prog w) A (forIn ifs true fun c r => if r = true then do let ok <- isTrue c env (eval c env); pure (ForInStep.yield ok) else pure (ForInStep.yield r)) (fun ok s₃ =>
    if ok = true then wpAny (model prog w) A (eval elt env) (fun x s₄ =>
     wpAny (model prog w) A (call (.builtin "list.append") [acc, x]) (fun _ s₅ => ∃ m, m < n /\ I m s₅) (fun _ _ => False) s₄) (fun _ _ => False) s₃
    else ∃ m, m < n /\ I m s₃) (fun _ _ => False) s₂) (fun _ _ => False) vy) (fun _ _ => False) s₁) (fun _ _ => False) s)
 (n : Nat) (h : I n s) :
 codeAny (model prog w) A (.compLoop (.ListComp elt [⟨target, iter, ifs, 0⟩] scope pos) 0 it acc env) R s := by
 refine codeAny_loop rfl I (fun n s hI => ?_) n h
 show wpAny _ A ((compTurn (.ListComp elt [⟨target, iter, ifs, 0⟩] scope pos) 0 it acc env).onRaise (fun x => do noteFrame x env; theTreesLotGoes x)) _ _ s
 refine wpAny_noted ?_
 rw [compTurn_list]
 refine wpAny_bind (wpAny_standAt (wpAny_bind (wpAny_mono (turn n s hI) (fun r s₁ h₁ => ?_) fun _ _ h' => h'.elim)))
 cases r with
 | none => exact wpAny_pure h₁
 | some v =>
   refine wpAny_bind (wpAny_mono h₁ (fun _ vy Aq => ?_) fun _ _ h' => h'.elim)
   refine wpAny_bind (wpAny_mono Aq (fun _ s₂ h₂ => wpAny_bind (wpAny_mono h₂ (fun ok s₃ h₃ => ?_) fun _ _ h' => h'.elim)) fun _ _ h' => h'.elim)
   cases ok with
   | false => exact wpAny_pure ⟨rfl, h₃⟩
   | true =>
     exact wpAny_bind (wpAny_bind (wpAny_mono h₃ (fun x s₄ h₄ => wpAny_bind (wpAny_mono h₄ (fun _ s₅ h₅ => wpAny_pure (wpAny_pure ⟨rfl, h₅⟩)) fun _ _ h' => h'.elim)) fun _ _ h' => h'.elim))
def Ay (X : Cx) (ifs : List Expr) (t : TT) : Prop :=
 ∀ (pins : List (Addr × Obj)) (s : Shared) (σ : St) (H : Hp) (Q : Bool -> Hp -> Prop), Inv X pins σ H s -> t σ H Q ->
   wpAny (model X.prog X.w) X.A (forIn ifs true fun c r => if r = true then do let ok <- isTrue c X.env (eval c X.env); pure (ForInStep.yield ok) else pure (ForInStep.yield r)) (TP X pins σ Q) X.xe s
def CF : TT := fun _ H Q => Q true H
theorem fx {X : Cx} : Ay X [] CF := fun _ _ _ H _ I h => wpAny_tests_nil ⟨H, I, h⟩
theorem nu {X : Cx} {c : Expr} {t : TT} (h : PT X c t) : Ay X [c] t := fun pins s σ H Q I q => wpAny_tests_one (h pins s σ H Q I q)
def wN (k : Nat) (g : TG) (tc : TT) (te : TE) (Fin : List V -> Hp -> Prop) (σ : St) (J : It) (H1 : Hp) : Prop :=
 ∃ W : Nat -> Nat -> List V -> Hp -> Prop, (∃ m, W 0 m [] H1) /\ ∀ i m acc H, W i m acc H ->
   (J.stop i H /\ Fin acc H) \/ (J.go i H /\ acc.length < sizeLine /\ ∀ x H', J.xO i H x H' -> g x (List.replicate k none ++ σ) H' fun σ2 H2 => tc σ2 H2 fun b H3 =>
    if b = true then te σ2 H3 fun y H4 => ∃ m', m' < m /\ W (i + 1) m' (acc ++ [y]) H4 else ∃ m', m' < m /\ W (i + 1) m' acc H3)
section
variable {X : Cx} {pins : List (Addr × Obj)} {σ : St} {H : Hp} {s : Shared} {T M : List Str} {scope : Scope} {cl : List (Str × Addr)} {fp : List Addr} {g : TG} {tc : TT} {te : TE} {tg elt iter : Expr} {ifs : List Expr} {pos : Pos}
theorem Inv.forget {X : Cx} {pins : List (Addr × Obj)} {σ σ' : St} {H : Hp} {s : Shared} (I : Inv X pins σ' H s) (k : Nat) (hk : k + σ.length = σ'.length) (h : σ'.drop k = σ) : Inv X pins (List.replicate k none ++ σ) H s := by
 refine I.weak (by simp [hk]) (fun i v e => ?_)
 by_cases hi : i < k
 . rw [List.getElem?_append_left (by simpa using hi), List.getElem?_replicate, if_pos hi] at e; cases e
 . rw [List.getElem?_append_right (by simpa using hi), List.length_replicate, <- h, List.getElem?_drop] at e
   have : k + (i - k) = i := by omega
   rw [this] at e; exact e
theorem rZ {it : Addr} {tn : Nat -> Heap -> Prop} {J : It} {RR : Value -> Addr -> Result -> Shared -> Prop} {Fin : List V -> Hp -> Prop} {E : Value -> Shared -> Prop}
 (hN : eK X T M scope) (jb : X.calm = true) (h1 : ∀ x c, cl.lookup x = some c -> X.env.cells.lookup x = some c) (h2 : ∀ x ∈ scope.names, x.2 = .free -> ∃ c, cl.lookup x.1 = some c)
 (hg : ∀ cl C s H fp, PG (cV X (T ++ M) scope cl C s H fp) tg g) (GI : ∀ v H Q, g v (List.replicate T.length none ++ σ) H Q -> g v (List.replicate T.length none ++ σ) H fun σ2 H2 => Q σ2 H2 /\ T.length + σ.length = σ2.length /\ σ2.drop T.length = σ)
 (hc : ∀ cl C s H fp, Ay (cV X (T ++ M) scope cl C s H fp) ifs tc) (he : ∀ cl C s H fp, PE (cV X (T ++ M) scope cl C s H fp) elt te)
 (I : Inv X pins σ H s) (Tn : Turn X.prog X.w X.K tg J fp it tn) (st : tn 0 s.heap) (hf : ∀ b ∈ fp, bL X pins H b) (hW : wN T.length g tc te Fin σ J H)
 (hR : ∀ D C s' H' acc m, s.heap.objs.size <= D -> s.heap.objs.size <= C -> C ≠ D -> s'.heap.Ns C m -> H' C = none -> H' D = none -> Inv X pins σ (upd H' D (.lst acc)) s' -> Fin acc H' -> RR (.ref D) C (.ok .next) s') :
 wpAny (model X.prog X.w) X.A (newList []) (fun acc s₃ => wpAny (model X.prog X.w) X.A (newFunctionEnv scope X.env.globals cl [] X.env.qual none .none (some X.env)) (fun AY s₄ =>
  codeAny (model X.prog X.w) X.A (.compStart (.ListComp elt [⟨tg, iter, ifs, 0⟩] scope pos) 0 (.ref it) acc { AY with scope := relabel scope X.env }) (RR acc AY.locals) s₄) E s₃) E s := by
 refine wpAny_newObj_type (wpAny_newFunctionEnv hN.cell (by intro y hy; simp at hy) (fun h₁ mG jJ => ?_) hN.kind)
 dsimp only at mG jJ ⊢
 generalize B8 : s.heap.push { cls := .type "list", dict := none, data := .seq ([] : List Value).toArray } = H2 at mG jJ ⊢
 have hC : H2.objs.size = s.heap.objs.size + 1 := by rw [<- B8, Heap.size_push]
 have Bz : s.heap.objs.size ≠ H2.objs.size := by rw [hC]; exact Nat.ne_of_lt (Nat.lt_succ_self _)
 have wO : s.heap.objs.size <= H2.objs.size := by rw [hC]; exact Nat.le_succ _
 have yG : ∀ b ∈ fp, b < s.heap.objs.size := fun b hb => by obtain ⟨o, ho, _⟩ := Tn.obj _ _ st b hb; exact Heap.lt_size ho
 have old : ∀ b o, s.heap.get? b = some o -> h₁.get? b = some o := fun b o e => jJ.extBut b o (Nat.ne_of_lt (Nat.lt_of_lt_of_le (Heap.lt_size e) wO)) (Heap.get?_push_of_some _ (B8 ▸ Heap.get?_push_of_some _ e))
 have dj : h₁.PlainList s.heap.objs.size #[] := ⟨_, jJ.extBut _ _ Bz (Heap.get?_push_of_some _ (B8 ▸ Heap.get?_push_size _ rfl))⟩
 generalize wa : s.heap.objs.size = D at *
 generalize HJ : H2.objs.size = C at *
 have I0 : Inv (cV X (T ++ M) scope cl C s H fp) [] (List.replicate T.length none ++ σ) H { s with heap := h₁, toks := s.toks + ([] : List (Str × Value)).length } :=
  qE I hN h1 h2 (by rw [wa]; exact wO) hf (by rw [wa]; exact yG) mG old
 have Bq : tn 0 h₁ := Tn.keep _ _ _ st fun b _ o e => old b o e
 obtain ⟨W, ⟨m0, w0⟩, turn⟩ := hW
 have EF : ∀ b ∈ fp, b ≠ D := fun b hb => Nat.ne_of_lt (yG b hb)
 have stat : ∀ {H' : Hp} {pl : List (Addr × Obj)}, (∀ b ∈ fp, H' b = none) -> (∀ p ∈ pl, p.1 = D) -> ∀ b ∈ fp, bL (cV X (T ++ M) scope cl C s H fp) pl H' b := fun {H' pl} hn hp b hb => by
  have ok := I0.ok
  refine ⟨hn b hb, (ok.Ao b hb).1, ok.nZ b hb, .inl hb, (ok.Ao b hb).2, fun p hq => ?_⟩
  have HA : p ∈ pl := hq
  rw [hp p HA]; exact Ne.symm (EF b hb)
 have loop : codeAny (model X.prog X.w) X.A (.compLoop (.ListComp elt [⟨tg, iter, ifs, 0⟩] scope pos) 0 (.ref it) (.ref D) (compEnvC scope cl C X.env)) (RR (.ref D) C) { s with heap := h₁, toks := s.toks + ([] : List (Str × Value)).length } := by
  refine lB (fun n s' => ∃ i acc H' au, Inv (cV X (T ++ M) scope cl C s H fp) [] (List.replicate T.length none ++ σ) H' s' /\ tn i s'.heap /\ (∀ b ∈ fp, H' b = none) /\ s'.heap.PlainList D au /\ H' D = none /\ Vals acc au.toList /\ acc.length <= sizeLine /\ W i n acc H') ?_ m0
   ⟨0, [], H, #[], I0, Bq, fun b hb => (hf b hb).1, dj, I.aL.fresh (by rw [wa]; exact Nat.le_refl _), .nil, Nat.zero_le _, w0⟩
  rintro n s3 ⟨i, acc, H3, au, I3, AA, zU, ⟨nn, ho⟩, CD, hv, hlen, w3⟩
  have BR : ∀ {H'} {s'} {σ'} {o : Obj}, Inv (cV X (T ++ M) scope cl C s H fp) [] σ' H' s' -> s'.heap.get? D = some o -> (∀ v, o.data ≠ .cell v) -> H' D = none -> Inv (cV X (T ++ M) scope cl C s H fp) [(D, o)] σ' H' s' := fun {H' s' σ' o} I' e d hn => by
   refine I'.cX fun p hp => ?_
   have e' : p = (D, o) := by simpa using hp
   subst e'
   refine ⟨e, hn, Bz, fun z => ?_, d⟩
   have z' : D ∈ k6 X.stack := z
   obtain ⟨_, o', oV, _⟩ := I.stack.mem z'
   exact absurd (Heap.lt_size oV) (by rw [wa]; exact Nat.lt_irrefl _)
  have Eg := BR I3 ho (fun v z => by cases z) CD
  rcases turn i n acc H3 w3 with ⟨stop, fin⟩ | ⟨go, hl, step⟩
  . refine bu (Tn.done (cV X (T ++ M) scope cl C s H fp) rfl rfl rfl jb i _ s3 _ H3 _ Eg (stat zU (by simp)) AA stop) fun r s4 ⟨hr, I4⟩ => ?_
    subst hr
    have e4 := (I4.pin (D, _) (List.mem_append_right _ List.mem_cons_self)).1
    have DL : Inv (cV X (T ++ M) scope cl C s H fp) [] (List.replicate T.length none ++ σ) H3 s4 := I4.cX fun p hp => nomatch hp
    obtain ⟨m4, n4, _⟩ := DL.loc
    exact hR D C s4 H3 acc m4 (Nat.le_refl _) wO (Ne.symm Bz) n4 DL.free CD (sM I DL hf (by rw [wa]; exact Nat.le_refl _) CD hlen hv (by simpa using e4)) fin
  . refine bu (Tn.item (cV X (T ++ M) scope cl C s H fp) rfl rfl rfl jb i _ s3 _ H3 _ Eg (stat zU (by simp)) AA go) fun r s4 ⟨u, hr, h4⟩ => ?_
    subst hr
    refine bu h4 fun _ s5 ⟨x, H5, I5, r5, y5, v9, Cu⟩ => ?_
    have Dl := I5.pinned (stat Cu (by simp)) (Tn.obj _ _ v9)
    refine bu (hg _ _ _ _ _ _ s5 _ H5 x u _ Dl r5 (GI _ _ _ (step x H5 y5))) fun _ s6 ⟨σ6, H6, I6, q6, FX, F0⟩ => ?_
    refine bu (hc _ _ _ _ _ _ s6 σ6 H6 _ I6 q6) fun b s7 ⟨H7, I7, q7⟩ => ?_
    have rest : ∀ {s8 : Shared} {H8 : Hp}, Inv (cV X (T ++ M) scope cl C s H fp) ([(D, _)] ++ hZ fp s5.heap) σ6 H8 s8 -> tn (i + 1) s8.heap /\ (∀ b ∈ fp, H8 b = none) /\ s8.heap.PlainList D au /\ H8 D = none /\ Inv (cV X (T ++ M) scope cl C s H fp) [] (List.replicate T.length none ++ σ) H8 s8 := fun {s8 H8} I8 => by
     refine ⟨Tn.keep _ _ _ v9 fun b hb o e => (I8.pin (b, o) (List.mem_append_right _ (List.mem_append_right _ (dJ hb e)))).1, fun b hb => ?_, ⟨nn, (I8.pin (D, _) (List.mem_append_right _ (List.mem_append_left _ List.mem_cons_self))).1⟩, (I8.pin (D, _) (List.mem_append_right _ (List.mem_append_left _ List.mem_cons_self))).2.1, (I8.forget T.length FX F0).cX fun p hp => nomatch hp⟩
     obtain ⟨o, e, d⟩ := Tn.obj _ _ v9 b hb
     exact (I8.pin (b, o) (List.mem_append_right _ (List.mem_append_right _ (dJ hb e)))).2.1
    cases b with
    | false =>
      obtain ⟨m', hm, w7⟩ := q7
      obtain ⟨a1, a2, a3, a4, a5⟩ := rest I7
      exact ⟨m', hm, i + 1, acc, H7, au, a5, a1, a2, a3, a4, hv, hlen, w7⟩
    | true =>
      refine bu (he _ _ _ _ _ _ s7 σ6 H7 _ I7 q7) fun y s8 ⟨yv, H8, I8, r8, m', hm, w8⟩ => ?_
      obtain ⟨a1, a2, a3, a4, a5⟩ := rest I8
      have hsz : au.size <= sizeLine := by have := hv.length; simp at this; omega
      refine wpAny_list_append_plain (hsz := hsz) a3 fun h9 DA Er => ?_
      refine ⟨m', hm, i + 1, acc ++ [yv], H8, au.push y, ?_, ?_, a2, DA, a4, ?_, by simp; omega, w8⟩
      . exact a5.turned (t' := s8.toks) (it := D) (fun b o hb e => (Er.2 b hb).trans e) a4 Bz (.inr (by show s.heap.objs.size <= D; rw [wa]; exact Nat.le_refl _)) (fun x c e z => by
         obtain ⟨v, o, ho, _⟩ := I.cell x c (h1 x c e)
         exact absurd (Heap.lt_size ho) (by rw [wa, z]; exact Nat.lt_irrefl _)) (fun p hp => nomatch hp)
      . exact Tn.keep _ _ _ a1 fun b hb o e => (Er.2 b (EF b hb)).trans e
      . simpa using Vals.append hv (.cons r8 .nil)
 exact codeAny_compStart_list loop (Tn.self _ _ _ _ _ Bq loop)
end
def uD (k : Nat) (g : TG) : Prop := ∀ v (τ σ : St) H Q, τ.length = k -> g v (τ ++ σ) H Q -> g v (τ ++ σ) H fun σ2 H2 => Q σ2 H2 /\ ∃ τ', τ'.length = k /\ σ2 = τ' ++ σ
def mU (k : Nat) (g : pQ) : Prop := ∀ vs (τ σ : St) H Q, τ.length = k -> g vs (τ ++ σ) H Q -> g vs (τ ++ σ) H fun σ2 H2 => Q σ2 H2 /\ ∃ τ', τ'.length = k /\ σ2 = τ' ++ σ
theorem dr {k i : Nat} (h : i < k) : uD k (dA i) := fun v τ σ H Q hl q => by
 have e : (τ ++ σ).set i (some v) = τ.set i (some v) ++ σ := List.set_append_left _ _ (by omega)
 exact ⟨q, τ.set i (some v), by simp [hl], e⟩
theorem ja {k : Nat} : mU k tT := fun vs τ σ H Q hl ⟨e, q⟩ => ⟨e, q, τ, hl, rfl⟩
theorem b7 {k i : Nat} {u : pQ} (h : i < k) (h2 : mU k u) : mU k (gs (dA i) u) := fun vs τ σ H Q hl ⟨v, r, e, q⟩ => by
 have e1 : (τ ++ σ).set i (some v) = τ.set i (some v) ++ σ := List.set_append_left _ _ (by omega)
 refine ⟨v, r, e, ?_⟩
 show u r ((τ ++ σ).set i (some v)) H _
 rw [e1]
 have q' : u r ((τ ++ σ).set i (some v)) H Q := q
 rw [e1] at q'
 exact h2 r _ σ H Q (by simp [hl]) q'
theorem ke {K : PySem.W.Frag} {k n : Nat} {u : pQ} (h : mU k u) : uD k (qN K n u) := fun v τ σ H Q hl ⟨a, xs, e, hq, hn, q⟩ => ⟨a, xs, e, hq, hn, h xs τ σ H Q hl q⟩
def jc (Q : VK) (acc : List V) (H : Hp) : Prop := ∀ p, H p = none -> Q (.ref p) (upd H p (.lst acc))
def z1 (k : Nat) (wi : TI) (g : TG) (tc : TT) (te : TE) : TE := fun σ H Q => wi σ H fun J H1 => wN k g tc te (jc Q) σ J H1
section
variable {X : Cx} {T M : List Str} {scope : Scope} {g : TG} {tc : TT} {te : TE} {wi : TI} {tg elt iter : Expr} {ifs : List Expr} {pos : Pos}
theorem kr (hN : eK X T M scope) (jb : X.calm = true) (hi : PI X tg iter wi) (hg : ∀ cl C s H fp, PG (cV X (T ++ M) scope cl C s H fp) tg g) (DM : uD T.length g)
 (hc : ∀ cl C s H fp, Ay (cV X (T ++ M) scope cl C s H fp) ifs tc) (he : ∀ cl C s H fp, PE (cV X (T ++ M) scope cl C s H fp) elt te)
 (hs : ∀ x, foldedSetIterable iter X.env x = pure x := by intro _; rfl) : PE X (.ListComp elt [⟨tg, iter, ifs, 0⟩] scope pos) (z1 T.length wi g tc te) := by
 intro pins s σ H Q I h
 obtain ⟨cl, gH, h1, h2⟩ := gZ (scope := scope) (env := X.env) fun x hx hf => I.ok.has x.1 (hN.free x hx hf)
 rw [eval_ListComp]
 refine wpAny_comprehension_free (use := none) rfl hs gH hN.kind hN.names (bu (hi pins s σ H _ I h) fun xv s1 pK => bu pK fun Bl s2 AH => ?_)
 obtain ⟨it, fp, tn, J, H2, e, I2, Tn, st, hf, hW⟩ := AH
 subst e
 refine rZ (RR := fun acc C => compPost (model X.prog X.w) X.A X.xe none (EP X pins σ Q) acc C) hN jb h1 h2 hg (fun v H Q q => ?_) hc he I2 Tn st hf hW ?_
 . have := DM v (List.replicate T.length none) σ H Q (by simp) q
   refine (by
    have e : (fun (σ2 : St) (H2 : Hp) => Q σ2 H2 /\ T.length + σ.length = σ2.length /\ σ2.drop T.length = σ) = fun σ2 H2 => Q σ2 H2 /\ ∃ τ' : St, τ'.length = T.length /\ σ2 = τ' ++ σ := by
     funext σ2 H2
     refine propext ⟨fun ⟨a, b, c⟩ => ⟨a, σ2.take T.length, by rw [List.length_take]; omega, by rw [<- c, List.take_append_drop]⟩, fun ⟨a, τ', b, c⟩ => ⟨a, by rw [c, List.length_append, b], by rw [c, <- b, List.drop_left]⟩⟩
    rw [e]; exact this)
 . intro D C s' H' acc m hD hC jo hn BW CI Ib fin
   refine ⟨m, hn, fun h' o5 => ⟨.ref D, _, ?_, rfl, fin D CI⟩⟩
   exact Ib.turned (t' := s'.toks) (it := C) (fun b o hb e => (o5.2 b hb).trans e) (by rw [aj jo]; exact BW) (Nat.ne_of_gt (Nat.lt_of_lt_of_le I2.lt hC)) (.inr (Nat.le_trans I2.sz hC)) (fun x c e z => by
    obtain ⟨v, q⟩ := I2.cell x c e
    exact absurd (Nat.lt_of_lt_of_le q.lt (by rw [z]; exact hC)) (Nat.lt_irrefl _)) (fun p hp z => absurd (Nat.lt_of_lt_of_le (Heap.lt_size (I2.pin p hp).1) (by rw [z]; exact hC)) (Nat.lt_irrefl _))
theorem uQ {i : Nat} {y : Str} {py zo : Pos} (qD : X.N.Nodup) (vn : X.N[i]? = some y) (hy : Loc X.env.scope y) (hN : eK X T M scope) (jb : X.calm = true) (hi : PI X tg iter wi) (hg : ∀ cl C s H fp, PG (cV X (T ++ M) scope cl C s H fp) tg g) (DM : uD T.length g)
 (hc : ∀ cl C s H fp, Ay (cV X (T ++ M) scope cl C s H fp) ifs tc) (he : ∀ cl C s H fp, PE (cV X (T ++ M) scope cl C s H fp) elt te)
 (GB : swapsWith (.ListComp elt [⟨tg, iter, ifs, 0⟩] scope pos) (some (.Name y py)) zo.line X.env = pure true)
 (hs : ∀ x, foldedSetIterable iter X.env x = pure x := by intro _; rfl) (GR : X.fn y = true \/ X.env.scope.names.lookup y = some .local := by first | exact .inl rfl | exact .inr rfl | assumption) :
 PS X (.Assign [.Name y py] (.ListComp elt [⟨tg, iter, ifs, 0⟩] scope pos) zo) (pW (z1 T.length wi g tc te) (dA i)) := by
 intro pins s σ H D' I h
 have h : z1 T.length wi g tc te σ H fun x H1 => D'.nx (σ.set i (some x)) H1 := h
 obtain ⟨cl, gH, h1, h2⟩ := gZ (scope := scope) (env := X.env) fun x hx hf => I.ok.has x.1 (hN.free x hx hf)
 rw [exec_Assign_Name_used _ _ _ _ GB]
 refine wpAny_bind (wpAny_standAt (wpAny_bind ?_))
 show wpAny _ X.A (do let _ <- comprehension (.ListComp elt [⟨tg, iter, ifs, 0⟩] scope pos) scope X.env _ (newList []) false (eval iter X.env) (some (assign (.Name y py) X.env))) _ _ s
 refine wpAny_bind (wpAny_mono (wpAny_comprehension_free (use := some (assign (.Name y py) X.env)) (Q := fun _ s' => SP X pins D' .next s') rfl hs gH hN.kind hN.names
  (bu (hi pins s σ H _ I h) fun xv s1 pK => bu pK fun Bl s2 AH => ?_)) (fun _ s' hq => wpAny_pure (wpAny_pure hq)) fun _ _ e => e)
 obtain ⟨it, fp, tn, J, H2, e, I2, Tn, st, hf, hW⟩ := AH
 subst e
 refine rZ (RR := fun acc C => compPost (model X.prog X.w) X.A X.xe (some (assign (.Name y py) X.env)) (fun _ s' => SP X pins D' .next s') acc C) hN jb h1 h2 hg (fun v H Q q => ?_) hc he I2 Tn st hf hW ?_
 . have := DM v (List.replicate T.length none) σ H Q (by simp) q
   refine (by
    have e : (fun (σ2 : St) (H2 : Hp) => Q σ2 H2 /\ T.length + σ.length = σ2.length /\ σ2.drop T.length = σ) = fun σ2 H2 => Q σ2 H2 /\ ∃ τ' : St, τ'.length = T.length /\ σ2 = τ' ++ σ := by
     funext σ2 H2
     refine propext ⟨fun ⟨a, b, c⟩ => ⟨a, σ2.take T.length, by rw [List.length_take]; omega, by rw [<- c, List.take_append_drop]⟩, fun ⟨a, τ', b, c⟩ => ⟨a, by rw [c, List.length_append, b], by rw [c, <- b, List.drop_left]⟩⟩
    rw [e]; exact this)
 . intro D C s' H' acc m hD hC jo hn BW CI Ib fin
   show wpAny _ X.A (assign (.Name y py) X.env (.ref D)) _ _ _
   refine wpAny_assign_Name (jl Ib qD vn hy (v := .ref D) rfl (fun s3 I3 ⟨a, sb, ha⟩ => ?_) GR)
   have Fs : C ≠ X.env.locals := Nat.ne_of_gt (Nat.lt_of_lt_of_le I2.lt hC)
   have ED : ∀ x c, X.env.cells.lookup x = some c -> c ≠ C := fun x c e z => by
    obtain ⟨v, q⟩ := I2.cell x c e
    exact absurd (Nat.lt_of_lt_of_le q.lt (by rw [z]; exact hC)) (Nat.lt_irrefl _)
   have FR : C ≠ a := by
    rcases ha with rfl | ha
    . exact Fs
    . exact Ne.symm (ED _ _ ha)
   refine ⟨m, hn.sameBut sb FR, fun h' o5 => ⟨_, _, ?_, fin D CI⟩⟩
   exact I3.turned (t' := s3.toks) (it := C) (fun b o hb e => (o5.2 b hb).trans e) (by rw [aj jo]; exact BW) Fs (.inr (Nat.le_trans I2.sz hC)) ED (fun p hp z => absurd (Nat.lt_of_lt_of_le (Heap.lt_size (I2.pin p hp).1) (by rw [z]; exact hC)) (Nat.lt_irrefl _))
end
end L2
namespace L2
open PySem PySem.Spec PyProof.Rows PySem.W
mutual
def gM : PyData -> Bool
 | .none => true
 | .bool _ => true
 | .int _ => true
 | .str _ => true
 | .tuple ds => aM ds
 | .list _ => false
 | .dict _ => false
def aM : List PyData -> Bool
 | [] => true
 | d :: ds => gM d && aM ds
end
theorem cO : ∀ {ds : List PyData}, aM ds = true ↔ ∀ d ∈ ds, gM d = true
 | [] => by simp [aM]
 | d :: ds => by simp [aM, cO (ds := ds)]
theorem dh {ds es : List PyData} (h1 : aM ds = true) (h2 : aM es = true) : aM (ds ++ es) = true := by
 rw [cO] at *
 intro d hd
 rcases List.mem_append.mp hd with h | h
 . exact h1 d h
 . exact h2 d h
theorem cb {α : Type} {f : α -> PyData} (h : ∀ x, gM (f x) = true) (xs : List α) : aM (xs.map f) = true := by
 rw [cO]
 intro d hd
 obtain ⟨x, _, rfl⟩ := List.mem_map.mp hd
 exact h x
structure Mv (S : List Addr) (H H' : Hp) : Prop where
 kp : ∀ a o, a ∉ S -> H a = some o -> H' a = some o
 tp : ∀ a xs, H a = some (.tup xs) -> H' a = some (.tup xs)
 dm : ∀ a, H' a = none -> H a = none
theorem Mv.refl {S : List Addr} {H : Hp} : Mv S H H := ⟨fun _ _ _ h => h, fun _ _ h => h, fun _ h => h⟩
theorem ai.mv {S : List Addr} {H H' : Hp} (s : ai H H') : Mv S H H' := ⟨fun a o _ h => s a o h, fun a xs h => s a _ h, fun a h => by
 cases e : H a with
 | none => rfl
 | some o => rw [s a o e] at h; cases h⟩
theorem Mv.trans {S : List Addr} {H H1 H2 : Hp} (m : Mv S H H1) (m2 : Mv S H1 H2) : Mv S H H2 := ⟨fun a o n h => m2.kp a o n (m.kp a o n h), fun a xs h => m2.tp a xs (m.tp a xs h), fun a h => m.dm a (m2.dm a h)⟩
theorem Mv.step {S S1 : List Addr} {H H1 H2 : Hp} (m : Mv S H H1) (m2 : Mv S1 H1 H2) (hs : ∀ a ∈ S1, a ∈ S \/ H a = none) : Mv S H H2 := by
 refine ⟨fun a o n h => ?_, fun a xs h => m2.tp a xs (m.tp a xs h), fun a h => m.dm a (m2.dm a h)⟩
 refine m2.kp a o (fun z => ?_) (m.kp a o n h)
 rcases hs a z with q | q
 . exact n q
 . rw [q] at h; cases h
theorem Mv.eR {S : List Addr} {H H1 H2 : Hp} (m : Mv S H H1) (s : ai H1 H2) : Mv S H H2 := m.trans s.mv
theorem Mv.at {S : List Addr} {H H' : Hp} {a : Addr} {o : HO} (m : Mv S H H') (n : a ∉ S) (h : H a = some o) : H' a = some o := m.kp a o n h
theorem Mv.none {S : List Addr} {H H' : Hp} {a : Addr} (m : Mv S H H') (h : H' a = none) : H a = none := m.dm a h
theorem ai.none {H H' : Hp} {a : Addr} (m : ai H H') (h : H' a = none) : H a = none := (m.mv (S := [])).dm a h
theorem Mv.lV {H : Hp} {p : Addr} {o u : HO} (h : H p = some u) (nt : ∀ xs, u ≠ .tup xs) : Mv [p] H (upd H p o) := ⟨fun a v n e => by
 rw [aj (fun z => n (by simp [z]))]; exact e, fun a xs e => by
 rw [aj (fun z => by subst z; rw [h] at e; exact nt xs (Option.some.inj e))]; exact e, fun a e => by
 by_cases z : a = p
 . subst z; rw [aw] at e; cases e
 . rw [aj z] at e; exact e⟩
mutual
theorem Dv.ni {H H' : Hp} (t : ∀ a xs, H a = some (.tup xs) -> H' a = some (.tup xs)) : ∀ {v : V} {d : PyData}, Dv H v d -> gM d = true -> Dv H' v d
 | _, _, .bG, _ => .bG
 | _, _, .bl b, _ => .bl b
 | _, _, .int i, _ => .int i
 | _, _, .str x, _ => .str x
 | _, _, .tup h r, c => .tup (t _ _ h) (a9.ni t r (by simpa [gM] using c))
 | _, _, .lst h r, c => by simp [gM] at c
 | _, _, .dct h r, c => by simp [gM] at c
theorem a9.ni {H H' : Hp} (t : ∀ a xs, H a = some (.tup xs) -> H' a = some (.tup xs)) : ∀ {v : List V} {d : List PyData}, a9 H v d -> aM d = true -> a9 H' v d
 | _, _, .nil, _ => .nil
 | _, _, .cons h r, c => by
   have c' := c
   simp only [aM, Bool.and_eq_true] at c'
   exact .cons (Dv.ni t h c'.1) (a9.ni t r c'.2)
end
theorem Mv.dat {S : List Addr} {H H' : Hp} {v : V} {d : PyData} (m : Mv S H H') (i : gM d = true) (h : Dv H v d) : Dv H' v d := h.ni m.tp i
theorem Mv.uB {S : List Addr} {H H' : Hp} {v : List V} {d : List PyData} (m : Mv S H H') (i : aM d = true) (h : a9 H v d) : a9 H' v d := h.ni m.tp i
def bJ (H : Hp) (p : Addr) (ds : List PyData) : Prop := ∃ xs, H p = some (.lst xs) /\ a9 H xs ds /\ aM ds = true
theorem bJ.dv {H : Hp} {p : Addr} {ds : List PyData} (h : bJ H p ds) : Dv H (.ref p) (.list ds) := let ⟨_, e, d, _⟩ := h; .lst (.of e) d
theorem bJ.keeps {H H' : Hp} {p : Addr} {ds : List PyData} (s : ai H H') (h : bJ H p ds) : bJ H' p ds := let ⟨xs, e, d, i⟩ := h; ⟨xs, s _ _ e, d.keeps s, i⟩
theorem bJ.mv {S : List Addr} {H H' : Hp} {p : Addr} {ds : List PyData} (m : Mv S H H') (n : p ∉ S) (h : bJ H p ds) : bJ H' p ds := let ⟨xs, e, d, i⟩ := h; ⟨xs, m.at n e, m.uB i d, i⟩
theorem bJ.ne {H : Hp} {p q : Addr} {ds : List PyData} (h : bJ H p ds) (hn : H q = none) : p ≠ q := let ⟨_, e, _, _⟩ := h; az e hn
theorem gN {H : Hp} {p : Addr} {xs : List V} {ds : List PyData} (hn : H p = none) (d : a9 H xs ds) (i : aM ds = true) : bJ (upd H p (.lst xs)) p ds := ⟨xs, aw, d.keeps (aY hn), i⟩
theorem qU {p q : Addr} (h : p ≠ q) : p ∉ [q] := by simpa using h
theorem small {n m : Nat} (h : n <= m) (hm : m <= 4000 := by decide) : n <= sizeLine := Nat.le_trans h (Nat.le_trans hm (by decide))
theorem dD {n : Nat} (h : n <= 4000) : n < sizeLine := Nat.lt_of_le_of_lt h (by decide)
section
variable {σ : St} {H : Hp} {Q : VK} {D : Ends} {K : PySem.W.Frag} {p : Addr} {ds : List PyData}
theorem Cp {T : String} {r : V -> List V -> Hp -> VK -> Prop} {to : TE} {t : TA} (h : to σ H fun x H1 => Br K T x H1 /\ t σ H1 fun xs H2 => r x xs H2 Q) : E1 K T r to t σ H Q := h
theorem Aj {R : Prop} (hp : bJ H p ds) (h : R) : Br K "list" (.ref p) H /\ R := let ⟨xs, e, _, _⟩ := hp; ⟨.inl ⟨rfl, xs, bF.of e⟩, h⟩
theorem Ah {y : V} {d : PyData} (hp : bJ H p ds) (hl : ds.length <= 4000) (hy : Dv H y d) (hi : gM d = true) (h : ∀ H2, Mv [p] H H2 -> bJ H2 p (ds ++ [d]) -> Q .bG H2) : nH (.ref p) [y] H Q := by
 obtain ⟨xs, e, dv, i⟩ := hp
 have m : Mv [p] H (upd H p (.lst (xs ++ [y]))) := .lV e (by intro _ z; cases z)
 refine ⟨p, xs, y, rfl, rfl, e, by rw [dv.length]; exact dD hl, h _ m ⟨_, aw, m.uB (dh i (by simp [aM, hi])) (dv.append (.cons hy .nil)), dh i (by simp [aM, hi])⟩⟩
theorem wj {xs : List V} (hl : xs.length <= sizeLine) (hd : a9 H xs ds) (hi : aM ds = true) (k : ∀ p H2, ai H H2 -> H p = none -> bJ H2 p ds -> Q (.ref p) H2) : vT xs H Q :=
 ⟨hl, ds, hd, fun p H2 s n e d _ => k p H2 s n ⟨xs, e, d, hi⟩⟩
end
mutual
theorem Dv.fn {H : Hp} : ∀ {v : V} {d e : PyData}, Dv H v d -> Dv H v e -> gM d = true -> d = e
 | _, _, _, .bG, h, _ => by cases h; rfl
 | _, _, _, .bl b, h, _ => by cases h; rfl
 | _, _, _, .int i, h, _ => by cases h; rfl
 | _, _, _, .str x, h, _ => by cases h; rfl
 | _, _, _, .tup h r, h2, c => by
   cases h2 with
   | tup h' r' =>
     have c' := (by simpa [gM] using c : aM _ = true)
     rw [h] at h'
     cases h'
     rw [a9.fn r r' c']
   | lst h' r' =>
     rcases h' with h' | ⟨o, h'⟩ <;> rw [h] at h' <;> cases h'
   | dct h' r' => rw [h] at h'; cases h'
 | _, _, _, .lst h r, _, c => by simp [gM] at c
 | _, _, _, .dct h r, _, c => by simp [gM] at c
theorem a9.fn {H : Hp} : ∀ {v : List V} {d e : List PyData}, a9 H v d -> a9 H v e -> aM d = true -> d = e
 | _, _, _, .nil, h, _ => by cases h; rfl
 | _, _, _, .cons h r, h2, c => by
   have c' := c
   simp only [aM, Bool.and_eq_true] at c'
   cases h2 with
   | cons h' r' => rw [Dv.fn h h' c'.1, a9.fn r r' c'.2]
end
theorem a9.perm {α : Type} {H : Hp} {g : α -> PyData} {xs ys : List V} (p0 : ys.Perm xs) : ∀ {cs : List α}, a9 H xs (cs.map g) -> ∃ si : List α, si.Perm cs /\ a9 H ys (si.map g) := by
 have p := p0.symm
 clear p0
 induction p with
 | nil => intro cs h; exact ⟨cs, .refl _, h⟩
 | cons x _ ih =>
   intro cs h
   cases cs with
   | nil => cases h
   | cons c cs =>
     cases h with
     | cons h r =>
       obtain ⟨si, p', h'⟩ := ih r
       exact ⟨c :: si, p'.cons c, .cons h h'⟩
 | swap x y l =>
   intro cs h
   cases cs with
   | nil => cases h
   | cons c cs =>
     cases h with
     | cons h r =>
       cases cs with
       | nil => cases r
       | cons c2 cs =>
         cases r with
         | cons h2 r => exact ⟨c2 :: c :: cs, .swap c c2 cs, .cons h2 (.cons h r)⟩
 | trans _ _ F6 Hv =>
   intro cs h
   obtain ⟨c1, p1, h1⟩ := F6 h
   obtain ⟨c2, p2, h2⟩ := Hv h1
   exact ⟨c2, p2.trans p1, h2⟩
theorem a9.mem {α : Type} {H : Hp} {g : α -> PyData} : ∀ {xs : List V} {cs : List α}, a9 H xs (cs.map g) -> ∀ v ∈ xs, ∃ c ∈ cs, Dv H v (g c)
 | _, [], .nil, _, h => nomatch h
 | _, c :: cs, .cons h r, v, hv => by
   rcases List.mem_cons.mp hv with rfl | hv
   . exact ⟨c, List.mem_cons_self, h⟩
   . obtain ⟨c', hc, hd⟩ := a9.mem r v hv
     exact ⟨c', List.mem_cons_of_mem _ hc, hd⟩
theorem a9.pairwise {α β : Type} {H : Hp} {g : α -> PyData} {key : α -> β} {kf : V -> β} {R : β -> β -> Prop} (hk : ∀ v c, Dv H v (g c) -> kf v = key c) : ∀ {xs : List V} {cs : List α}, a9 H xs (cs.map g) -> xs.Pairwise (fun x y => R (kf x) (kf y)) -> cs.Pairwise (fun c d => R (key c) (key d))
 | _, [], .nil, _ => .nil
 | _, c :: cs, .cons h r, p => by
   rw [List.pairwise_cons] at p ⊢
   refine ⟨fun d hd => ?_, a9.pairwise hk r p.2⟩
   obtain ⟨i, hi⟩ := List.getElem?_of_mem hd
   obtain ⟨x, hx, hv⟩ := r.get (i := i) (d := g d) (by rw [List.getElem?_map, hi]; rfl)
   have := p.1 x (List.mem_of_getElem? hx)
   rw [hk _ _ h, hk _ _ hv] at this
   exact this
theorem Dv.lst_inv {H : Hp} {v : V} {ds : List PyData} (h : Dv H v (.list ds)) : ∃ a xs, v = .ref a /\ (∀ K : PySem.W.Frag, bF K H a xs) /\ a9 H xs ds := by
 cases h with
 | lst h r => exact ⟨_, _, rfl, fun _ => .inl h, r⟩
section
variable {σ : St} {H : Hp} {Q : VK} {D : Ends} {K : PySem.W.Frag} {p : Addr} {v : V} {ds : List PyData}
theorem qI {sp : Sp} {t : TA} (h : t σ H fun vs H1 => ig sp K vs H1 Q) : p7 K sp t σ H Q := h
theorem jC {α : Type} {sp : Sp} {cs : List α} (g : α -> PyData) (key : α -> Int × Str) (hg : ∀ c, gM (g c) = true) (hinj : ∀ c c', g c = g c' -> key c = key c') (hl : Dv H v (.list (cs.map g))) (m6 : cs.length < 64)
 (hk : ∀ c v H', c ∈ cs -> ai H H' -> Dv H' v (g c) -> sp [v] H' (fun y H2 => ai H' H2 /\ Dv H2 y (.tuple [.int (key c).1, .str (key c).2])) E0)
 (k : ∀ q H' (si : List α), ai H H' -> H q = none -> si.Perm cs -> si.Pairwise (fun c d => bX (key d) (key c) = false) -> bJ H' q (si.map g) -> Q (.ref q) H') : ig sp K [v] H Q := by
 obtain ⟨p, xs, rfl, e, dv⟩ := hl.lst_inv
 classical
 have Bo : ∃ kf : V -> Int × Str, ∀ v c, Dv H v (g c) -> kf v = key c := by
  refine ⟨fun v => if h : ∃ c, Dv H v (g c) then key h.choose else (0, ⟨#[]⟩), fun v c hv => ?_⟩
  have h : ∃ c, Dv H v (g c) := ⟨c, hv⟩
  show (if h : ∃ c, Dv H v (g c) then key h.choose else (0, ⟨#[]⟩)) = key c
  rw [dif_pos h]
  exact hinj _ _ (Dv.fn h.choose_spec hv (hg _))
 obtain ⟨kf, Bo⟩ := Bo
 refine ⟨p, xs, kf, rfl, e K, by rw [dv.length, List.length_map]; exact m6, fun v hv H' sm => ?_, fun l ys H' sm hn yN ord => ?_⟩
 . obtain ⟨c, hc, hd⟩ := dv.mem v hv
   rw [Bo v c hd]
   exact hk c v H' hc sm (hd.keeps sm)
 . obtain ⟨pm, pw⟩ := ord
   obtain ⟨si, pc, EK⟩ := dv.perm pm
   have fy : ai H (upd H' l (.lst ys)) := sm.trans (aY yN)
   exact k l _ si fy hn pc (a9.pairwise (R := fun a b => bX b a = false) Bo EK pw) ⟨ys, aw, EK.keeps fy, cb hg _⟩
def zf (te : TE) (N : Option V -> Hp -> Prop) (σ2 : St) (b : Bool) (H3 : Hp) : Prop := if b = true then te σ2 H3 (fun y H4 => N (some y) H4) else N none H3
theorem zk {k : Nat} {tl : TE} {g : TG} {tc : TT} {te : TE} (h : tl σ H fun x H1 => ∃ a, x = .ref a /\ (∃ xs, bF K H1 a xs) /\ wN k g tc te (jc Q) σ (qo K a) H1) : z1 k (qe K tl) g tc te σ H Q := h
theorem qy {k : Nat} {g : TG} {tc : TT} {te : TE} {α : Type} {cs : List α} {gd : α -> PyData} (pf : α -> Bool) (fd : α -> PyData) (hl : Dv H v (.list (cs.map gd))) (hlen : cs.length <= 4000) (hi : ∀ c, gM (fd c) = true)
 (turn : ∀ x c H' (N : Option V -> Hp -> Prop), c ∈ cs -> ai H H' -> Dv H' x (gd c) -> (pf c = true -> ∀ y H4, ai H' H4 -> Dv H4 y (fd c) -> N (some y) H4) -> (pf c = false -> ∀ H3, ai H' H3 -> N none H3) ->
  g x (List.replicate k none ++ σ) H' fun σ2 H2 => tc σ2 H2 fun b H3 => zf te N σ2 b H3)
 (kk : ∀ q H', ai H H' -> H q = none -> bJ H' q ((cs.filter pf).map fd) -> Q (.ref q) H') : ∃ a, v = .ref a /\ (∃ xs, bF K H a xs) /\ wN k g tc te (jc Q) σ (qo K a) H := by
 obtain ⟨p, xs, rfl, e, dv⟩ := hl.lst_inv
 have xj : bF K H p xs := e K
 have zq : xs.length = cs.length := by rw [dv.length, List.length_map]
 refine ⟨p, rfl, ⟨xs, xj⟩, fun i m acc H' => i <= cs.length /\ m = cs.length - i /\ ai H H' /\ a9 H' acc (((cs.take i).filter pf).map fd), ⟨cs.length, Nat.zero_le _, rfl, ai.refl _, by simpa using a9.nil⟩, ?_⟩
 rintro i m acc H' ⟨AK, hm, sm, dj⟩
 have oW : bF K H' p xs := ai.seq sm xj
 have pA : acc.length <= cs.length := by
  rw [dj.length, List.length_map]
  exact Nat.le_trans (List.length_filter_le _ _) (by rw [List.length_take]; omega)
 by_cases hc : i = cs.length
 . left
   refine ⟨⟨xs, oW, by omega⟩, fun q hq => ?_⟩
   rw [hc, List.take_length] at dj
   have fy : ai H (upd H' q (.lst acc)) := sm.trans (aY hq)
   exact kk q _ fy (sm.none hq) ⟨acc, aw, dj.keeps (aY hq), cb hi _⟩
 . right
   have bZ : i < cs.length := by omega
   have wR : i < xs.length := by omega
   refine ⟨⟨xs, xs[i], oW, List.getElem?_eq_getElem wR⟩, dD (by omega), fun x H2 hy => ?_⟩
   obtain ⟨rfl, hy⟩ := hy
   have hx := hy xs oW
   have yU : cs[i]? = some cs[i] := List.getElem?_eq_getElem bZ
   obtain ⟨x', iV, hd⟩ := dv.get (i := i) (d := gd cs[i]) (by rw [List.getElem?_map, yU]; rfl)
   rw [hx] at iV
   cases iV
   have kc : cs.take (i + 1) = cs.take i ++ [cs[i]] := by rw [List.take_add_one, yU]; rfl
   exact turn x cs[i] H2 (fun o H4 => match o with | some y => ∃ m', m' < m /\ i + 1 <= cs.length /\ m' = cs.length - (i + 1) /\ ai H H4 /\ a9 H4 (acc ++ [y]) (((cs.take (i + 1)).filter pf).map fd) | none => ∃ m', m' < m /\ i + 1 <= cs.length /\ m' = cs.length - (i + 1) /\ ai H H4 /\ a9 H4 acc (((cs.take (i + 1)).filter pf).map fd))
    (List.getElem_mem bZ) sm (hd.keeps sm)
    (fun hp y H4 s4 d4 => ⟨cs.length - (i + 1), by omega, bZ, rfl, sm.trans s4, by
     rw [kc, List.filter_append, List.map_append]
     simp only [List.filter_cons, hp, if_true, List.filter_nil, List.map_cons, List.map_nil]
     exact a9.append (dj.keeps s4) (.cons d4 .nil)⟩)
    (fun hp H3 s3 => ⟨cs.length - (i + 1), by omega, bZ, rfl, sm.trans s3, by
     rw [kc, List.filter_append, List.map_append]
     simp only [List.filter_cons, hp, Bool.false_eq_true, if_false, List.filter_nil, List.map_nil, List.append_nil]
     exact dj.keeps s3⟩)
end
def mR (scope sc : Scope) (N M : List Str) : Bool :=
 (scope.kind == .function) && scope.names.all (fun y => y.2 != .cell) && scope.names.all (fun y => y.2 != .local || scope.names.lookup y.1 == some .local) &&
  scope.names.all (fun y => y.2 != .free || (sc.names.lookup y.1 == some .cell || sc.names.lookup y.1 == some .free)) && (M.length == N.length) &&
  (M.zip N).all fun p => (p.1 == p.2 && scope.names.lookup p.1 == some .free) || scope.names.lookup p.1 == none
theorem xh {X : Cx} {T M : List Str} {scope : Scope} (sc : Scope) (N : List Str) (hs : X.env.scope = sc) (hN : X.N = N) (h : mR scope sc N M = true) : eK X T M scope := by
 unfold mR at h
 simp only [Bool.and_eq_true, List.all_eq_true, Bool.or_eq_true, bne_iff_ne, beq_iff_eq, ne_eq] at h
 obtain ⟨⟨⟨⟨⟨h1, h2⟩, h3⟩, h4⟩, h5⟩, h6⟩ := h
 refine ⟨h1, h2, fun y hy e => ?_, fun y hy e => ?_, by rw [hN]; exact h5, fun i x hx => ?_⟩
 . rcases h3 y hy with z | z
   . exact absurd e z
   . exact z
 . rw [hs]
   rcases h4 y hy with z | z
   . exact absurd e z
   . exact z
 . have hi : i < M.length := (List.getElem?_eq_some_iff.mp hx).1
   have EV : i < N.length := by omega
   have hz : (M.zip N)[i]? = some (x, N[i]) := by
    rw [List.getElem?_zip_eq_some]
    exact ⟨hx, List.getElem?_eq_getElem EV⟩
   rcases h6 _ (List.mem_of_getElem? hz) with ⟨a, b⟩ | a
   . left
     refine ⟨?_, b⟩
     rw [hN, List.getElem?_eq_getElem EV]
     have a' : x = N[i] := a
     rw [a']
   . exact .inr a
section
variable {σ : St} {H : Hp} {Q : VK} {D : Ends} {K : PySem.W.Frag} {p : Addr} {v : V} {ds : List PyData}
theorem yy {z : Str} {i : Int} {c : Nat} (hl : z.length <= sizeLine) (hi : j3 z.cps.toList i = some c) (h : Q (.str ⟨#[c]⟩) H) : iF K (.str z) (.int i) H Q := .inl (.inr ⟨z, i, c, rfl, rfl, hl, hi, h⟩)
def vB : R2 := fun x y H Q => ∃ i j, x = .str i /\ y = .str j /\ i.length + j.length <= sizeLine /\ Q (.str (i ++ j)) H
theorem jz {X : Cx} : gy X (binaryOp .Add) vB := lZ
theorem wF {i j : Str} (hl : i.length + j.length <= 4000) (h : Q (.str (i ++ j)) H) : vB (.str i) (.str j) H Q := ⟨i, j, rfl, rfl, small hl, h⟩
def nq (K : PySem.W.Frag) : List V -> Hp -> VK -> Prop := fun xs H Q => ∃ p ys, xs = [.ref p] /\ (bF K H p ys \/ n5 K H p ys) /\ ∀ l, H l = none -> Q (.ref l) (upd H l (.lst ys))
theorem gq {X : Cx} : dB X (.type "list") (nq X.K) := jU
theorem rn (hp : Dv H v (.list ds)) (i : aM ds = true) (k : ∀ q H', ai H H' -> H q = none -> bJ H' q ds -> Q (.ref q) H') : nq K [v] H Q := by
 obtain ⟨p, xs, rfl, e, dv⟩ := hp.lst_inv
 exact ⟨p, xs, rfl, .inl (e K), fun l hl => k l _ (aY hl) hl (gN hl dv i)⟩
theorem tS (xs : List V) (i j : Nat) : oJ xs (some (i : Int)) (some (j : Int)) = (xs.drop i).take (j - i) := by
 unfold oJ
 rw [HT.nj, HT.nj]
 by_cases h : i <= xs.length
 . rw [Nat.min_eq_left h]
   by_cases h2 : j <= xs.length
   . rw [Nat.min_eq_left h2]
   . rw [Nat.min_eq_right (by omega)]
     rw [List.take_of_length_le (by rw [List.length_drop]; omega), List.take_of_length_le (by rw [List.length_drop]; omega)]
 . rw [List.drop_of_length_le (show xs.length <= min i xs.length by omega), List.drop_of_length_le (show xs.length <= i by omega), List.take_nil, List.take_nil]
theorem BL {te : TE} {tl th : TO} {r : V -> Option Int -> Option Int -> Hp -> VK -> Prop} (h : te σ H fun x H1 => tl σ H1 fun l H2 => th σ H2 fun u H3 => r x l u H3 Q) : EI r te tl th σ H Q := h
theorem vQ {t : TE} {R : Option Int -> Hp -> Prop} (h : t σ H fun x H1 => ∃ i, x = .int i /\ R (some i) H1) : vb t σ H R := h
theorem pV {R : Option Int -> Hp -> Prop} (h : R none H) : nO σ H R := h
theorem tB {i : Int} {R : Int -> Prop} (h : R i) : ∃ j, V.int i = .int j /\ R j := ⟨i, rfl, h⟩
theorem xN {ns : List Int} (i j : Nat) (hp : bF K H p (ns.map V.int)) (k : ∀ q H', ai H H' -> H q = none -> bJ H' q (((ns.drop i).take (j - i)).map PyData.int) -> Q (.ref q) H') : Ba K (.ref p) (some (i : Int)) (some (j : Int)) H Q := by
 refine ⟨p, _, rfl, hp, fun q hq => ?_⟩
 rw [tS, <- List.map_drop, <- List.map_take]
 exact k q _ (aY hq) hq ⟨_, aw, a9.ints _, cb (fun _ => rfl) _⟩
end
end L2
namespace L2
theorem pN {H H1 H2 : Hp} (a : ∀ x, H1 x = none -> H x = none) (b : ∀ x, H2 x = none -> H1 x = none) : ∀ x, H2 x = none -> H x = none := fun x h => a x (b x h)
theorem wW {H H' : Hp} {p : PySem.Addr} (s : ∀ x, H' x = none -> H x = none) (h : H' p = none) : H p = none := s p h
theorem ai.Hf {H H' : Hp} (s : ai H H') : ∀ x, H' x = Option.none -> H x = Option.none := (s.mv (S := [])).dm
theorem uW {S : List PySem.Addr} {H : Hp} {p : PySem.Addr} (h : p ∈ S \/ H p = none) : ∀ a ∈ [p], a ∈ S \/ H a = none := fun a ha => by
 have : a = p := by simpa using ha
 subst this; exact h
end L2
namespace L2
open PySem
theorem pT {α β : Type} [Inhabited α] {f : α -> β} {xs : List α} {i : Int} (h0 : 0 <= i) (h1 : i < xs.length) : j3 (xs.map f) i = some (f (xs.getD i.toNat default)) := by
 obtain ⟨m, rfl⟩ := Int.eq_ofNat_of_zero_le h0
 have hm : m < xs.length := by omega
 refine dQ ?_
 rw [List.getElem?_map, List.getElem?_eq_getElem hm]
 simp [hm]
theorem xV {α : Type} {g : α -> PyData} {xs : List α} {K : PySem.W.Frag} {H : Hp} {Q : VK} {v : V} (hs : Dv H v (.list (xs.map g))) (h : Q (.int (xs.length : Nat)) H) : kh K [v] H Q := rh (.inr hs) (by rw [List.length_map]; exact h)
theorem ur {i : Nat} {v : V} {σ : St} {H : Hp} {R : St -> Hp -> Prop} (h : R (σ.set i (some v)) H) : dA i v σ H R := h
theorem Mv.zY {p : Addr} {H H1 H2 : Hp} (s : ai H H1) (m : Mv [p] H1 H2) (n : H p = Option.none) : ai H H2 := fun a o e => m.kp a o (qU (az e n)) (s a o e)
theorem Mv.sq {K : PySem.W.Frag} {S : List Addr} {H H' : Hp} {a : Addr} {xs : List V} (m : Mv S H H') (n : a ∉ S) (h : bF K H a xs) : bF K H' a xs := by
 rcases h with (h | ⟨o, h⟩) | h
 . exact .inl (.inl (m.at n h))
 . exact .inl (.inr ⟨o, m.at n h⟩)
 . exact .inr h
theorem fz {te : TE} {N : Option V -> Hp -> Prop} {σ2 : St} {b : Bool} {H3 : Hp} (h1 : b = true -> te σ2 H3 (fun y H4 => N (some y) H4)) (h2 : b = false -> N none H3) : zf te N σ2 b H3 := by
 unfold zf
 cases b with
 | true => rw [if_pos rfl]; exact h1 rfl
 | false => rw [if_neg (by simp)]; exact h2 rfl
end L2
namespace L2
open PySem PySem.Spec PyProof.Rows
section
variable {X : Cx} {K : PySem.W.Frag} {a b e : Expr} {es : List Expr} {ta : TE} {pos : Pos}
theorem dZ (h : X.K = K) : pI X (iF K) := by rw [<- h]; exact cU
theorem nz {k : Nat} {t : pQ} {n : Nat} (h : X.K = K) (hc : X.calm = true) (hs : yW X es t) (hn : (assignEach es X.env).length = n := by rfl) (pX : (assignEach es X.env).findIdx? (·.1) = none := by rfl) : PG X (.Tuple es k pos) (qN K n t) := by rw [<- h]; exact mH hc hs hn pX
end
end L2
namespace L2
open PySem PySem.Spec PyProof.Rows PySem.W
inductive eL (H : Hp) : List (Key × V) -> List (Str × PyData) -> Prop where
 | nil : eL H [] []
 | cons {k : Str} {v : V} {d : PyData} {ax : List (Key × V)} {m : List (Str × PyData)} (h : Dv H v d) (i : gM d = true) (r : eL H ax m) : eL H ((.inr k, v) :: ax) ((k, d) :: m)
theorem eL.ni {H H' : Hp} (t : ∀ a xs, H a = some (.tup xs) -> H' a = some (.tup xs)) : ∀ {ax : List (Key × V)} {m : List (Str × PyData)}, eL H ax m -> eL H' ax m
 | _, _, .nil => .nil
 | _, _, .cons h i r => .cons (h.ni t i) i (eL.ni t r)
theorem eL.length {H : Hp} : ∀ {ax : List (Key × V)} {m : List (Str × PyData)}, eL H ax m -> ax.length = m.length
 | _, _, .nil => rfl
 | _, _, .cons _ _ r => by simp [eL.length r]
def pL (m : List (Str × PyData)) (k : Str) : Option PyData := (m.find? fun kv => decide (kv.1 = k)).map (·.2)
def putD (m : List (Str × PyData)) (k : Str) (d : PyData) : List (Str × PyData) := if (m.any fun kv => decide (kv.1 = k)) = true then m.map (fun kv => if kv.1 = k then (kv.1, d) else kv) else m ++ [(k, d)]
theorem sR {a b : Str} : ((Sum.inr a : Key) = Sum.inr b) = (a = b) := propext ⟨fun h => Sum.inr.inj h, fun h => by rw [h]⟩
theorem eL.val {H : Hp} {k : Str} : ∀ {ax : List (Key × V)} {m : List (Str × PyData)}, eL H ax m -> (∀ d, pL m k = some d -> ∃ v, fT ax (.inr k) = some v /\ Dv H v d) /\ (pL m k = none -> fT ax (.inr k) = none)
 | _, _, .nil => ⟨fun d h => by simp [pL] at h, fun _ => rfl⟩
 | _, _, .cons (k := j) h i r => by
   obtain ⟨h1, h2⟩ := eL.val (k := k) r
   by_cases e : j = k
   . subst e
     refine ⟨fun d hd => ⟨_, fM rfl, ?_⟩, fun hd => by simp [pL] at hd⟩
     simp [pL] at hd
     subst hd; exact h
   . have e' : (Sum.inr j : Key) ≠ .inr k := fun z => e (Sum.inr.inj z)
     have el : ∀ (d : PyData) (m : List (Str × PyData)), pL ((j, d) :: m) k = pL m k := fun d m => by simp [pL, List.find?_cons, e]
     refine ⟨fun d hd => ?_, fun hd => ?_⟩
     . rw [el] at hd
       obtain ⟨v, hv, iI⟩ := h1 d hd
       exact ⟨v, by rw [eh e']; exact hv, iI⟩
     . rw [el] at hd
       rw [eh e']; exact h2 hd
theorem eL.any {H : Hp} {k : Str} : ∀ {ax : List (Key × V)} {m : List (Str × PyData)}, eL H ax m -> (ax.any fun kv => decide (kv.1 = .inr k)) = m.any fun kv => decide (kv.1 = k)
 | _, _, .nil => rfl
 | _, _, .cons h i r => by
   simp only [List.any_cons, eL.any r, sR]
theorem eL.append {H : Hp} : ∀ {ax Am : List (Key × V)} {m m' : List (Str × PyData)}, eL H ax m -> eL H Am m' -> eL H (ax ++ Am) (m ++ m')
 | _, _, _, _, .nil, s => s
 | _, _, _, _, .cons h i r, s => .cons h i (eL.append r s)
theorem eL.repl {H : Hp} {k : Str} {v : V} {d : PyData} (hv : Dv H v d) (hi : gM d = true) : ∀ {ax : List (Key × V)} {m : List (Str × PyData)}, eL H ax m -> eL H (ax.map fun kv => if kv.1 = .inr k then (kv.1, v) else kv) (m.map fun kv => if kv.1 = k then (kv.1, d) else kv)
 | _, _, .nil => .nil
 | _, _, .cons (k := j) h i r => by
   rw [List.map_cons, List.map_cons]
   by_cases e : j = k
   . subst e
     rw [if_pos rfl, if_pos rfl]
     exact .cons hv hi (eL.repl hv hi r)
   . rw [if_neg (fun z => e (Sum.inr.inj z)), if_neg e]
     exact .cons h i (eL.repl hv hi r)
theorem eL.put {H : Hp} {k : Str} {v : V} {d : PyData} {ax : List (Key × V)} {m : List (Str × PyData)} (r : eL H ax m) (hv : Dv H v d) (hi : gM d = true) : eL H (putK ax (.inr k) v) (putD m k d) := by
 unfold putK putD
 rw [r.any]
 by_cases h : (m.any fun kv => decide (kv.1 = k)) = true
 . rw [if_pos h, if_pos h]; exact r.repl hv hi
 . rw [if_neg h, if_neg h]; exact r.append (.cons hv hi .nil)
def gS (H : Hp) (p : Addr) (m : List (Str × PyData)) : Prop := ∃ ax, H p = some (.dK ax) /\ eL H ax m
theorem gS.keeps {H H' : Hp} {p : Addr} {m : List (Str × PyData)} (s : ai H H') (h : gS H p m) : gS H' p m := let ⟨ax, e, d⟩ := h; ⟨ax, s _ _ e, d.ni fun a xs e => s _ _ e⟩
theorem gS.mv {S : List Addr} {H H' : Hp} {p : Addr} {m : List (Str × PyData)} (v : Mv S H H') (n : p ∉ S) (h : gS H p m) : gS H' p m := let ⟨ax, e, d⟩ := h; ⟨ax, v.at n e, d.ni v.tp⟩
theorem gS.ne {H : Hp} {p q : Addr} {m : List (Str × PyData)} (h : gS H p m) (hn : H q = none) : p ≠ q := let ⟨_, e, _⟩ := h; az e hn
section
variable {σ : St} {H : Hp} {Q : VK} {D : Ends} {K : PySem.W.Frag} {p : Addr} {m : List (Str × PyData)} {k : Str}
theorem wY (h : ∀ p H2, ai H H2 -> H p = none -> gS H2 p [] -> Q (.ref p) H2) : rT σ H Q := fun p hp => h p _ (aY hp) hp ⟨[], aw, .nil⟩
theorem tV {td ty tv : TE} (h : tv σ H fun v H1 => td σ H1 fun x H2 => ty σ H2 fun y H3 => ∃ a H4, x = .ref a /\ lY H3 a y v H4 /\ D.nx σ H4) : u3 td ty tv D σ H := h
theorem xI {v : V} {d : PyData} {R : Hp -> Prop} (hp : gS H p m) (hl : m.length <= 4000) (hv : Dv H v d) (hi : gM d = true) (h : ∀ H2, Mv [p] H H2 -> gS H2 p (putD m k d) -> R H2) : ∃ a H4, V.ref p = .ref a /\ lY H a (.str k) v H4 /\ R H4 := by
 obtain ⟨ax, e, dk⟩ := hp
 have mv : Mv [p] H (upd H p (.dK (putK ax (.inr k) v))) := .lV e (by intro _ z; cases z)
 exact ⟨p, _, rfl, lY.k (k := .inr k) e (by rw [dk.length]; exact dD hl), h _ mv ⟨_, aw, (dk.put hv hi).ni mv.tp⟩⟩
theorem sC {td ty : TE} (h : td σ H fun x H1 => ty σ H1 fun y H2 => ∃ a v, x = .ref a /\ kI H2 a y (some v) /\ Q v H2) : uV td ty σ H Q := h
theorem wg {d : PyData} {R : V -> Prop} (hp : gS H p m) (hk : pL m k = some d) (h : kn H d fun v _ => R v) : ∃ a v, V.ref p = .ref a /\ kI H a (.str k) (some v) /\ R v := by
 obtain ⟨ax, e, dk⟩ := hp
 obtain ⟨v, hv, hd⟩ := (dk.val (k := k)).1 d hk
 exact ⟨p, v, rfl, by rw [<- hv]; exact kI.k (k := .inr k) e, h.use hd⟩
theorem uo {r r' : R2} {ta tb tc : TE} (h : ta σ H fun x H1 => tb σ H1 fun y H2 => r x y H2 fun z H3 => ∃ k, z = .bl k /\ if k = true then tc σ H3 fun u H4 => r' y u H4 Q else Q (.bl false) H3) : rV r r' ta tb tc σ H Q := h
end
end L2
namespace L2
end L2
namespace L2
open PySem
theorem nK {Hb : Hp} {σ : St} {H : Hp} {D : Ends} {K : PySem.W.Frag} {v : V} {α : Type} {cs : List α} {gd : α -> PyData} {g : TG} {tb : TS} (hl : Dv Hb v (.list (cs.map gd))) (Pv : Nat -> St -> Hp -> Prop) (h0 : Pv 0 σ H) (hk : ∀ i σ H', i <= cs.length -> Pv i σ H' -> ∀ a xs, v = .ref a -> bF K Hb a xs -> bF K H' a xs)
 (hs : ∀ i c x σ H', cs[i]? = some c -> Pv i σ H' -> (gM (gd c) = true -> (∀ a xs, Hb a = some (.tup xs) -> H' a = some (.tup xs)) -> Dv H' x (gd c)) -> (ai Hb H' -> Dv H' x (gd c)) -> g x σ H' fun σ2 H2 => tb { D with nx := Pv (i + 1), ct := Pv (i + 1), bk := D.nx } σ2 H2) (hd : ∀ σ H', Pv cs.length σ H' -> D.nx σ H') : xJ K v g tb D σ H := by
 obtain ⟨p, xs, rfl, e, dv⟩ := hl.lst_inv
 have zq : xs.length = cs.length := by rw [dv.length, List.length_map]
 refine forL (hk 0 σ H (Nat.zero_le _) h0 p xs rfl (e K)) Pv h0 (fun i σ H' hi hp => hk i σ H' (by omega) hp p xs rfl (e K)) (fun i x σ H' hx hp => ?_) (fun σ H' hp => hd σ H' (by rw [<- zq]; exact hp))
 have hi : i < cs.length := by have := (List.getElem?_eq_some_iff.mp hx).1; omega
 obtain ⟨x', iV, iI⟩ := dv.get (i := i) (d := gd cs[i]) (by rw [List.getElem?_map, List.getElem?_eq_getElem hi]; rfl)
 rw [hx] at iV
 cases iV
 exact hs i cs[i] x σ H' (List.getElem?_eq_getElem hi) hp (fun im t => iI.ni t im) (fun s => iI.keeps s)
end L2
namespace L2
open PySem PySem.Spec PyProof.Rows PySem.W
section
variable {X : Cx} {tg : Expr}
section
variable {σ : St} {H : Hp} {Q : VK} {D : Ends} {K : PySem.W.Frag}
end
end
end L2
namespace L2
open PySem
section
variable {H : Hp} {Q : VK} {K : PySem.W.Frag}
theorem uc {z : Str} (hl : z.length <= 4000) (h : Q (.int (z.length : Nat)) H) : kh K [.str z] H Q := .inl (.inr ⟨z, rfl, small hl, h⟩)
end
end L2
namespace L2
open PySem PySem.Spec PyProof.Rows PySem.W
section
variable {X : Cx}
end
section
variable {σ : St} {H : Hp} {Q : VK} {D : Ends} {K : PySem.W.Frag} {p : Addr} {ds : List PyData}
theorem a9.rev {H : Hp} {xs : List V} {ds : List PyData} (h : a9 H xs ds) : a9 H xs.reverse ds.reverse := by
 induction xs generalizing ds with
 | nil => cases h; exact .nil
 | cons x xs ih =>
   cases h with
   | cons h r => rw [List.reverse_cons, List.reverse_cons]; exact (ih r).append (.cons h .nil)
theorem mj {ds : List PyData} (h : aM ds = true) : aM ds.reverse = true := by
 rw [cO] at *
 intro d hd
 exact h d (List.mem_reverse.mp hd)
theorem rj {q : Addr} {es : List PyData} (hp : bJ H p ds) (hq : bJ H q es) (hl : ds.length + es.length <= 4000) (k : ∀ r H', ai H H' -> H r = none -> bJ H' r (ds ++ es) -> Q (.ref r) H') : Ac (.ref p) (.ref q) H Q := by
 obtain ⟨xs, e, dv, im⟩ := hp
 obtain ⟨zs, e2, E2, Hy⟩ := hq
 refine ⟨p, q, xs, zs, rfl, rfl, e, e2, by rw [dv.length, E2.length]; exact small hl, fun r hr => ?_⟩
 exact k r _ (aY hr) hr (gN hr (dv.append E2) (dh im Hy))
end
end L2
namespace L2
open PySem PySem.Calls PyProof.Rows
section
variable {X : Cx} {e k : Expr} {te tk : TE} {pos p2 : Pos}
end
section
variable {X : Cx}
end
section
variable {K : PySem.W.Frag} {σ : St} {H : Hp} {Q : VK} {p : Addr} {ds : List PyData}
end
end L2
namespace L2
open PySem PySem.Spec PyProof.Rows PySem.W
theorem mP (lo hi : Option Int) (n : Nat) : (Builtin.Str.strSliceIndices lo hi 1 n).length <= n := by
 unfold Builtin.Str.strSliceIndices sliceRange
 simp only [List.length_map, List.length_range, Int.ediv_one, show (1 : Int) > 0 by decide, if_true]
 cases lo <;> cases hi <;> simp only [] <;> (repeat' split) <;> omega
section
variable {X : Cx}
def vp : List V -> Hp -> VK -> Prop := fun xs H Q => ∃ (v : V) (ns : List Int), xs = [v] /\ Dv H v (.list (ns.map PyData.int)) /\ Q (.int ns.sum) H
theorem fu {H : Hp} : ∀ {xs : List V} {ns : List Int} {us : List Value}, a9 H xs (ns.map PyData.int) -> Vals xs us -> IntsAre us ns
 | _, [], _, .nil, .nil => .nil
 | _, _ :: _, _, .cons h r, .cons q t => by
   cases h
   obtain ⟨tk, rfl⟩ := q
   exact .cons _ _ (fu r t)
theorem gB (x : Int) (ns : List Int) : ∀ k, preSum (fun i => (x :: ns).getD i 0) (k + 1) = x + preSum (fun i => ns.getD i 0) k
 | 0 => by simp [preSum]
 | k + 1 => by
   rw [preSum, gB x ns k, preSum, List.getD_cons_succ]
   omega
theorem er : ∀ ns : List Int, preSum (fun i => ns.getD i 0) ns.length = ns.sum
 | [] => rfl
 | x :: r => by rw [List.length_cons, gB, er r, List.sum_cons]
theorem ph (hc : X.calm = true) : dB X (.builtin "sum") vp := by
 intro pins s σ H xs us Q I r h
 obtain ⟨v, ns, rfl, hd, q⟩ := h
 obtain ⟨u, rfl, ru⟩ := vals1 r
 obtain ⟨p, ys, rfl, e, dv⟩ := hd.lst_inv
 obtain ⟨au, vx, pl, _⟩ := I.list (e X.K)
 cases ru
 have hI := fu dv vx
 have bZ : p < s.heap.objs.size := by obtain ⟨o, n, e1, _⟩ := pl; exact Heap.lt_size e1
 have hA : X.A.in1.handled = none := I.ok.hd hc
 refine call_sum_walkAnyB (wpAny_pyIter_list pl.isList ?_)
 refine ⟨s.heap.objs.size, _, _, _, _, _, _, fun i => ns.getD i 0, rfl, (Walks.list hA _ p (Nat.ne_of_lt bZ) au.toArray).toS, ⟨⟨_, Heap.get?_push_size _ rfl, rfl, rfl⟩, pl.isList.at fun o e => Heap.get?_push_of_some _ e⟩, ?_, ?_, ?_⟩
 . intro b hb
   rw [Heap.size_push]
   have : b = s.heap.objs.size \/ b = p := by simpa using hb
   rcases this with rfl | rfl
   . exact Nat.lt_succ_self _
   . exact Nat.lt_succ_of_lt bZ
 . intro i v hv
   obtain ⟨t, ht⟩ := hI.int_at i v (by simpa using hv)
   exact .inl ⟨t, ht⟩
 . intro s' t' hm
   have hn : au.toArray.size = ns.length := by rw [List.size_toArray, hI.length]
   rw [hn, er]
   obtain ⟨h', g', d', zQ, ym⟩ := s'
   have eg : g' = s.gens := hm.gens
   have ed : d' = s.drawn := hm.drawn
   have eo : ym = s.os := hm.os
   subst eg; subst ed; subst eo
   have I1 := I.kept (t' := s.toks) (h' := s.heap.push { cls := Value.type "list_iterator", data := Data.fields #[Value.ref p, Value.int 0 0] }) fun b o e => Heap.get?_push_of_some _ e
   have fp := I.fH (H' := H) (Nat.le_refl _) (I.aL.fresh (Nat.le_refl _))
   have I2 := I1.turned (t' := zQ) (h' := h') (it := s.heap.objs.size) (fun b o hb e => hm.heap b o (by simpa using hb) e) fp.1 fp.2.1 fp.2.2.2.1 fp.2.2.2.2.1 fp.2.2.2.2.2
   exact ⟨.int ns.sum, H, I2, ⟨t', rfl⟩, q⟩
end
theorem sL : typeLookup (.type "list_reverseiterator") "__len__" = pure none := by rw [typeLookup_type, builtinLookup_eq_fast]; kernel_rfl
theorem rW : typeLookup (.type "list_reverseiterator") "__length_hint__" = pure (some (.builtin "list_reverseiterator.__length_hint__")) := by rw [typeLookup_type, builtinLookup_eq_fast]; kernel_rfl
theorem o9 : splitId "list_reverseiterator.__length_hint__" = some ("list_reverseiterator", "__length_hint__") := by decide +kernel
section
variable {prog : Program} {w : World} {A : Around} {E : Value -> Shared -> Prop} {s : Shared} {it l : Addr} {au : Array Value}
theorem t9 {R : Result -> Shared -> Prop} (hh : A.handled = none) (jo : l ≠ it) (y : Addr) (c0 : Nat) (hz : au.size <= sizeLine) (hi : s.heap.IsRevIter it l ((au.size : Int) - 1)) (hl : s.heap.IsList l au)
 (hy : s.heap.get? y = some { cls := .type "list", data := .seq #[] c0 }) (D6 : y ≠ it) (Hi : y ≠ l)
 (hR : ∀ s' acc c, Moved [y, it] (fun a b => b = a) s s' -> s'.heap.get? y = some { cls := .type "list", data := .seq acc c } -> ItemsOf (fun i v => au[au.size - 1 - i]? = some v) acc au.size -> R (.ok (.ret .none)) s') :
 wpAny (model prog w) A.in1 (Builtin.List.listExtendWith (.ref y) (.ref it) .none)
  (fun f s' => match f with | .done g => R (.ok g) s' | .again c => c.quiet = true /\ codeAny (model prog w) A c R s') (fun e s' => R (.error e) s') s := by
 have W := (Walks.listRev (prog := prog) (w := w) (A := A.in1) hh it l jo au).toS
 have Bq : (0 : Nat) <= au.size /\ s.heap.IsRevIter it l ((au.size : Int) - 1 - ((0 : Nat) : Int)) /\ s.heap.IsList l au := ⟨Nat.zero_le _, by simpa using hi, hl⟩
 have nf : y ∉ [it, l] := by simp [D6, Hi]
 unfold Builtin.List.listExtendWith
 refine wpAny_bind (wpAny_typeOf hi.typeIs ?_)
 have a1 : Builtin.List.listSameRef (.ref y) (.ref it) = false := by simp [Builtin.List.listSameRef, D6]
 have a2 : (Value.type "list_reverseiterator" == Value.type "list") = false := by decide
 have a3 : (Value.type "list_reverseiterator" == Value.type "tuple") = false := by decide
 simp only [a1, a2, a3, Bool.or_self, Bool.false_eq_true, if_false]
 refine wpAny_bind (wpAny_pyIter_revIter hi (wpAny_bind (wpAny_holding ?_)))
 unfold Builtin.List.listLengthHint
 refine wpAny_bind (wpAny_specialOf hi.typeIs sL ?_)
 wp_delta
 refine wpAny_bind (wpAny_specialOf hi.typeIs rW ?_)
 dsimp only
 rw [o9]
 dsimp only
 refine wpAny_bind (wpAny_isInstance (b := true) hi.typeIs (by rw [isSubtype_type]; kernel_rfl) ?_)
 rw [if_neg (by decide), if_pos (by decide +kernel), if_neg (by decide)]
 refine wpAny_pure ?_
 rw [if_neg (by decide +kernel)]
 refine wpAny_pure ⟨plainId_quiet F.plain_extend_loop _, codeAny_extend_loopS W hz _ nf _ au.size 0 _ _ _ rfl (Nat.zero_le _) Bq hy (ItemsOf.nil _) fun s' acc c hm hs dj => ?_⟩
 exact hR s' acc c (hm.mono (by simp)) hs dj
theorem iM {Q : Value -> Shared -> Prop} (hh : A.handled = none) (jo : l ≠ it) (hz : au.size <= sizeLine) (hi : s.heap.IsRevIter it l ((au.size : Int) - 1)) (hl : s.heap.IsList l au)
 (hQ : ∀ s' acc c, s'.gens = s.gens -> s'.drawn = s.drawn -> s'.os = s.os -> (∀ b o, b ≠ it -> s.heap.get? b = some o -> s'.heap.get? b = some o) -> s'.heap.get? s.heap.objs.size = some { cls := .type "list", data := .seq acc c } -> ItemsOf (fun i v => au[au.size - 1 - i]? = some v) acc au.size -> Q (.ref s.heap.objs.size) s') :
 wpAny (model prog w) A (call (.type "list") [.ref it]) Q E s := by
 have li : it < s.heap.objs.size := by obtain ⟨o, e, _⟩ := hi; exact Heap.lt_size e
 have ll : l < s.heap.objs.size := by obtain ⟨o, e, _⟩ := hl; exact Heap.lt_size e
 refine callType_codes (Q₁ := fun u s1 => u = .ref s.heap.objs.size /\ s1 = { s with heap := s.heap.push { cls := .type "list", data := .seq #[] } }) F.called_list (F.typeCall_list_1 _) F.entry_list_init (code_list_new _ ⟨rfl, rfl⟩) fun u s1 hu => ?_
 obtain ⟨rfl, rfl⟩ := hu
 have h0 : (s.heap.push { cls := .type "list", data := .seq #[] }).get? s.heap.objs.size = some { cls := .type "list", data := .seq #[] } := Heap.get?_push_size _ rfl
 refine ⟨⟨_, h0, rfl⟩, F.args_list_init_2 _ _, ?_⟩
 show wpAny _ _ (Builtin.List.listItems (.ref s.heap.objs.size) >>= fun old => Builtin.List.listUpdate (.ref s.heap.objs.size) (fun _ => #[]) >>= fun _ => letGo old.toList.reverse >>= fun _ => Builtin.List.listExtendWith (.ref s.heap.objs.size) (.ref it) .none) _ _ _
 refine wpAny_bind ?_
 unfold Builtin.List.listItems
 refine wpAny_bind (wpAny_seqItems h0 rfl (wpAny_pure (wpAny_bind ?_)))
 refine wpAny_updateSeq h0 rfl (wpAny_bind (wpAny_letGo ?_))
 have h2 := Heap.get?_update_self (Obj.mapSeq (fun _ => (#[] : Array Value))) h0 rfl
 have ot : ∀ b o, b ≠ s.heap.objs.size -> s.heap.get? b = some o -> ((s.heap.push { cls := .type "list", data := .seq #[] }).update s.heap.objs.size (Obj.mapSeq (fun _ => (#[] : Array Value)))).get? b = some o := fun b o hb e => by
  rw [Heap.get?_update_other _ _ (Ne.symm hb)]
  exact Heap.get?_push_of_some _ e
 refine t9 (A := A.in1) hh jo _ _ hz (hi.at fun o e => ot it o (Nat.ne_of_lt li) e) (hl.at fun o e => ot l o (Nat.ne_of_lt ll) e) h2 (Ne.symm (Nat.ne_of_lt li)) (Ne.symm (Nat.ne_of_lt ll)) fun s' acc c hm hs dj => ?_
 exact ⟨rfl, hQ s' acc c hm.gens hm.drawn hm.os (fun b o hb e => hm.heap b o (by simp [hb, Nat.ne_of_lt (Heap.lt_size e)]) (ot b o (Nat.ne_of_lt (Heap.lt_size e)) e)) hs dj⟩
end
section
variable {X : Cx} {e : Expr} {te : TE} {p p2 pos gY : Pos}
def lM (K : PySem.W.Frag) : V -> Hp -> VK -> Prop := fun x H Q => ∃ a xs, x = .ref a /\ bF K H a xs /\ ∀ q, H q = none -> Q (.ref q) (upd H q (.lst xs.reverse))
def qA (K : PySem.W.Frag) (te : TE) : TE := fun σ H Q => te σ H fun x H1 => lM K x H1 Q
theorem oK {au : List Value} {acc : Array Value} (h : ItemsOf (fun i v => au.toArray[au.toArray.size - 1 - i]? = some v) acc au.toArray.size) : acc.toList = au.reverse := by
 obtain ⟨h0, h1⟩ := h
 rw [List.size_toArray] at h0
 refine List.ext_getElem (by simp [h0]) fun i hi hj => ?_
 have ha : i < acc.size := by simpa using hi
 have bZ : i < au.length := by simpa using hj
 have := h1 i acc[i] (Array.getElem?_eq_getElem ha)
 rw [List.size_toArray] at this
 rw [List.getElem_reverse]
 have hk : au.length - 1 - i < au.length := by omega
 have e : au.toArray[au.length - 1 - i]? = some au[au.length - 1 - i] := by simp [hk]
 rw [e] at this
 simpa using (Option.some.inj this).symm
theorem lL (he : PE X e te) (hc : X.calm = true) (hg : Gl X "list") (hm : X.mg "list" = none) (D2 : Gl X "reversed") (CP : X.mg "reversed" = none)
 (h1 : starEach [e] X.env = (false, eval e X.env) :: starEach [] X.env := by rfl)
 (h2 : starEach [.Call (.Name "reversed" p2) [e] [] gY] X.env = (false, eval (.Call (.Name "reversed" p2) [e] [] gY) X.env) :: starEach [] X.env := by rfl) :
 PE X (.Call (.Name "list" p) [.Call (.Name "reversed" p2) [e] [] gY] [] pos) (qA X.K te) := by
 intro pins s σ H Q I h
 refine wpAny_Call_Name_kw (cN I hg hm (by rfl) ?_ (by decide) (by decide))
 refine PyProof.Rows.callWith_type1 ?_ h2 rfl
 rw [h2]
 show wpAny _ _ (spliced ((false, eval (.Call (.Name "reversed" p2) [e] [] gY) X.env) :: backTo pos (starEach [] X.env))) _ _ s
 refine Calls.spliced_cons (wpAny_Call_Name_kw (cN I D2 CP (by rfl) ?_ (by decide) (by decide)))
 refine PyProof.Rows.callWith_type1 ?_ h1 rfl
 rw [h1]
 show wpAny _ _ (spliced ((false, eval e X.env) :: backTo gY (starEach [] X.env))) _ _ s
 refine Calls.spliced_cons (bu (he pins s σ H _ I h) fun u s1 ⟨x, H1, I1, r1, q1⟩ => ?_)
 refine Calls.spliced_nil ?_
 obtain ⟨a, xs, rfl, hx, q⟩ := q1
 cases r1
 obtain ⟨au, r, ht, hz⟩ := I1.list hx
 have hlen := r.length
 have la : a < s1.heap.objs.size := by obtain ⟨o, n, e1, _⟩ := ht; exact Heap.lt_size e1
 refine call_reversed_list ht.isList ?_
 refine Calls.spliced_nil ?_
 have hit : (s1.heap.push (revObj a ((au.toArray.size : Int) - 1))).IsRevIter s1.heap.objs.size a ((au.toArray.size : Int) - 1) := ⟨_, Heap.get?_push_size _ rfl, rfl, rfl⟩
 refine iM (I1.ok.hd hc) (Nat.ne_of_lt la) (by rw [List.size_toArray]; omega) hit (ht.isList.at fun o e => Heap.get?_push_of_some _ e) fun s' acc c eg ed eo hk hs dj => ?_
 obtain ⟨h', g', d', zQ, ym⟩ := s'
 have eg : g' = s1.gens := eg
 have ed : d' = s1.drawn := ed
 have eo : ym = s1.os := eo
 subst eg; subst ed; subst eo
 have sz : (s1.heap.push (revObj a ((au.toArray.size : Int) - 1))).objs.size = s1.heap.objs.size + 1 := Heap.size_push ..
 rw [sz] at hs
 have hq : H1 (s1.heap.objs.size + 1) = none := I1.aL.fresh (Nat.le_succ _)
 rw [sz]
 refine ⟨.ref (s1.heap.objs.size + 1), upd H1 (s1.heap.objs.size + 1) (.lst xs.reverse), I1.laid (t' := zQ) (fun b ob e => hk b ob (Nat.ne_of_lt (Heap.lt_size e)) (Heap.get?_push_of_some _ e)) (Nat.le_succ _) ?_, rfl, q _ hq⟩
 refine ⟨by rw [List.length_reverse]; exact hz, au.reverse, c, r.reverse, ?_⟩
 rw [<- oK dj]
 simpa using hs
end
section
variable {K : PySem.W.Frag} {σ : St} {H : Hp} {Q : VK} {p : Addr} {ds : List PyData} {v : V}
theorem qT {te : TE} (h : te σ H fun x H1 => lM K x H1 Q) : qA K te σ H Q := h
theorem sx (hp : Dv H v (.list ds)) (i : aM ds = true) (k : ∀ q H', ai H H' -> H q = none -> bJ H' q ds.reverse -> Q (.ref q) H') : lM K v H Q := by
 obtain ⟨p, xs, rfl, e, dv⟩ := hp.lst_inv
 refine ⟨p, xs, rfl, e K, fun q hq => ?_⟩
 exact k q _ (aY hq) hq (gN hq dv.rev (mj i))
theorem wG {ns : List Int} (hp : Dv H v (.list (ns.map PyData.int))) (h : Q (.int ns.sum) H) : vp [v] H Q := ⟨v, ns, rfl, hp, h⟩
theorem mr {x : V} {i j l m : Nat} {d1 d2 d3 d4 : PyData} {R : St -> Hp -> Prop} (hd : Dv H x (.tuple [d1, d2, d3, d4])) (h : ∀ v1 v2 v3 v4, Dv H v1 d1 -> Dv H v2 d2 -> Dv H v3 d3 -> Dv H v4 d4 -> R ((((σ.set i (some v1)).set j (some v2)).set l (some v3)).set m (some v4)) H) :
 qN K 4 (gs (dA i) (gs (dA j) (gs (dA l) (gs (dA m) tT)))) x σ H R := by
 cases hd with
 | tup ha r =>
   cases r with
   | cons h1 r =>
     cases r with
     | cons h2 r =>
       cases r with
       | cons h3 r =>
         cases r with
         | cons h4 r =>
           cases r
           exact ⟨_, _, rfl, .of ha, rfl, _, _, rfl, _, _, rfl, _, _, rfl, _, _, rfl, rfl, h _ _ _ _ h1 h2 h3 h4⟩
end
section
variable {P : Program} {w : World} {H : Hp} {h : Heap} {d : Addr} {o : Obj} {ax : List (Key × V)}
end
section
variable {X : Cx} {pins : List (Addr × Obj)} {σ : St} {H : Hp} {s : Shared} {d : Addr} {o : Obj} {ax : List (Key × V)}
end
theorem gW {α β : Type} {F : α -> β -> Prop} : ∀ {xs : List α} {ys : List β}, Paired F xs ys -> ∀ {i : Nat} {x : α}, xs[i]? = some x -> ∃ y, ys[i]? = some y /\ F x y
 | _, _, .nil, i, x, h => by simp at h
 | _, _, .cons r t, 0, x, h => by
   have e := Option.some.inj h
   exact ⟨_, rfl, e ▸ r⟩
 | _, _, .cons r t, i + 1, x, h => by
   obtain ⟨y, e, q⟩ := gW t (i := i) (by simpa using h)
   exact ⟨y, by simpa using e, q⟩
theorem eL.yX {H : Hp} : ∀ {ax : List (Key × V)} {m : List (Str × PyData)}, eL H ax m -> ∀ {i : Nat} {kv : Key × V}, ax[i]? = some kv -> ∃ k d, m[i]? = some (k, d) /\ kv.1 = .inr k /\ Dv H kv.2 d
 | _, _, .nil, i, kv, h => by simp at h
 | _, _, .cons (k := k) (d := d) hv _ r, 0, kv, h => by
   have e := (Option.some.inj h).symm
   subst e
   exact ⟨k, d, rfl, rfl, hv⟩
 | _, _, .cons _ _ r, i + 1, kv, h => by
   obtain ⟨k, d, e, q⟩ := eL.yX r (i := i) (by simpa using h)
   exact ⟨k, d, by simpa using e, q⟩
section
variable {σ : St} {H : Hp} {Q : VK} {K : PySem.W.Frag} {p : Addr} {m : List (Str × PyData)} {k : Str}
end
section
variable {X : Cx}
end
section
variable {σ : St} {H : Hp} {Q : VK} {K : PySem.W.Frag} {p : Addr} {m : List (Str × PyData)} {k : Str}
end
section
variable {σ : St} {H : Hp} {Q : VK} {K : PySem.W.Frag} {p : Addr}
end
section
variable {X : Cx}
end
theorem lH {h : Heap} {o u : Obj} {b : Addr} (e : (h.push o).get? b = some u) (n : b ≠ h.objs.size) : h.get? b = some u := by
 obtain ⟨e1, e2⟩ := Heap.get?_some_iff.mp e
 refine Heap.get?_some_iff.mpr ⟨?_, e2⟩
 cases h
 simpa [Heap.push, Array.getElem?_push, n] using e1
section
variable {prog : Program} {w : World} {K : Type} [DecidableEq K] {knd : KeyKind prog w K} {A : Around} {E : Value -> Shared -> Prop} {s : Shared} {d : Addr} {ax : List (K × Value)} {ep : Nat}
end
section
variable {X : Cx}
end
section
variable {σ : St} {H : Hp} {Q : VK} {p : Addr} {m : List (Str × PyData)}
end
section
variable {σ : St} {H : Hp} {D : Ends} {p : Addr} {m : List (Str × PyData)} {g : TG} {tb : TS}
end
section
variable {σ : St} {H : Hp} {K : PySem.W.Frag}
theorem xD {x : V} {i j : Nat} {d1 d2 : PyData} {R : St -> Hp -> Prop} (hd : Dv H x (.tuple [d1, d2])) (h : ∀ v1 v2, Dv H v1 d1 -> Dv H v2 d2 -> R ((σ.set i (some v1)).set j (some v2)) H) :
 qN K 2 (gs (dA i) (gs (dA j) tT)) x σ H R := by
 cases hd with
 | tup ha r =>
   cases r with
   | cons h1 r =>
     cases r with
     | cons h2 r =>
       cases r
       exact ⟨_, _, rfl, .of ha, rfl, _, _, rfl, _, _, rfl, rfl, h _ _ h1 h2⟩
end
end L2
namespace L2
open PySem
def yn (xs : Array Nat) : Prop := ∀ i j, (hi : i < xs.size) -> (hj : j < xs.size) -> i < j -> xs[i] < xs[j]
theorem qu {xs : Array Nat} {j : Nat} (up : yn xs) : ∀ (f lo hi : Nat), hi - lo <= f -> lo <= hi -> hi <= xs.size -> (∀ i, (h : i < xs.size) -> i < lo -> xs[i] < j) -> (∀ i, (h : i < xs.size) -> hi <= i -> j <= xs[i]) ->
 SetTable.below.go xs j f lo hi <= xs.size /\ (∀ i, (h : i < xs.size) -> i < SetTable.below.go xs j f lo hi -> xs[i] < j) /\ ∀ i, (h : i < xs.size) -> SetTable.below.go xs j f lo hi <= i -> j <= xs[i] := by
 intro f
 induction f with
 | zero =>
   intro lo hi hf h1 h2 a b
   have e : hi = lo := by omega
   subst e
   exact ⟨h2, a, b⟩
 | succ f ih =>
   intro lo hi hf h1 h2 a b
   unfold SetTable.below.go
   by_cases bZ : lo < hi
   . rw [if_pos bZ]
     have hm : (lo + hi) / 2 < xs.size := by omega
     have hg : xs.getD ((lo + hi) / 2) j = xs[(lo + hi) / 2] := by simp [Array.getD, hm]
     dsimp only
     rw [hg]
     by_cases hx : xs[(lo + hi) / 2] < j
     . rw [if_pos hx]
       refine ih _ _ (by omega) (by omega) h2 (fun i h vn => ?_) b
       by_cases e : i = (lo + hi) / 2
       . subst e; exact hx
       . exact Nat.lt_trans (up i _ h hm (by omega)) hx
     . rw [if_neg hx]
       refine ih _ _ (by omega) (by omega) (by omega) a (fun i h vn => ?_)
       by_cases e : i = (lo + hi) / 2
       . subst e; omega
       . have := up _ i hm h (by omega); omega
   . rw [if_neg bZ]
     have e : hi = lo := by omega
     subst e
     exact ⟨h2, a, b⟩
theorem below_at {xs : Array Nat} {j : Nat} (up : yn xs) : SetTable.below xs j <= xs.size /\ (∀ i, (h : i < xs.size) -> i < SetTable.below xs j -> xs[i] < j) /\ ∀ i, (h : i < xs.size) -> SetTable.below xs j <= i -> j <= xs[i] :=
 qu up _ _ _ (by omega) (Nat.zero_le _) (Nat.le_refl _) (fun i _ h => absurd h (Nat.not_lt_zero _)) (fun i h h' => absurd h (by omega))
theorem lK {xs : Array Nat} : yn xs ↔ xs.toList.Pairwise (· < ·) := by
 rw [List.pairwise_iff_getElem]
 constructor
 . intro h i j hi hj fm
   simpa using h i j (by simpa using hi) (by simpa using hj) fm
 . intro h i j hi hj fm
   have := h i j (by simpa using hi) (by simpa using hj) fm
   rw [Array.getElem_toList, Array.getElem_toList] at this
   exact this
theorem mh {xs : Array Nat} {j : Nat} (up : yn xs) (hn : xs[SetTable.below xs j]? ≠ some j) : yn (SetTable.insertAt xs (SetTable.below xs j) j) := by
 obtain ⟨h0, h1, h2⟩ := below_at (j := j) up
 rw [lK, SetTable.toList_insertAt]
 have pw := lK.mp up
 have hd : ∀ x ∈ xs.toList.drop (SetTable.below xs j), j < x := by
  intro x hx
  obtain ⟨k, hk, e⟩ := List.getElem_of_mem hx
  rw [List.getElem_drop] at e
  have Bi : SetTable.below xs j + k < xs.size := by rw [List.length_drop] at hk; simp at hk; omega
  have e2 : xs[SetTable.below xs j + k] = x := by rw [<- e]; simp
  have := h2 _ Bi (by omega)
  rcases Nat.lt_or_ge j x with q | q
  . exact q
  . have hj : xs[SetTable.below xs j + k] = j := by omega
    rcases Nat.eq_zero_or_pos k with k0 | k0
    . subst k0
      exact absurd (by rw [Array.getElem?_eq_getElem (by omega)]; simpa using hj) hn
    . have a := up (SetTable.below xs j) _ (by omega) Bi (by omega)
      have b := h2 (SetTable.below xs j) (by omega) (Nat.le_refl _)
      omega
 rw [List.pairwise_append, List.pairwise_cons]
 refine ⟨pw.sublist (List.take_sublist _ _), ⟨hd, pw.sublist (List.drop_sublist _ _)⟩, fun x hx y hy => ?_⟩
 have Em : x < j := by
  obtain ⟨k, hk, e⟩ := List.getElem_of_mem hx
  rw [List.getElem_take] at e
  rw [List.length_take] at hk
  have Bi : k < xs.size := by simp at hk; omega
  have := h1 k Bi (by omega)
  rw [<- e]; simpa using this
 rcases List.mem_cons.mp hy with rfl | hy
 . exact Em
 . exact Nat.lt_trans Em (hd y hy)
structure Good (t : SetTable) : Prop where
 up : yn t.place
 nd : t.dummies = #[]
theorem oR (n : Nat) : yn (Array.range n) := fun i j hi hj h => by simpa using h
theorem cI {t : SetTable} {n : Nat} : Good (t.standIn n) := ⟨oR n, rfl⟩
theorem mD {t : SetTable} {b : Bool} (g : Good t) : Good { t with plain := b } := ⟨g.up, g.nd⟩
theorem m7 {j : Nat} : SetTable.has #[] j = false := by simp [SetTable.has]
theorem mM {t : SetTable} {j : Nat} (g : Good t) (h : t.slot j = .empty) : t.place[SetTable.below t.place j]? ≠ some j := by
 intro e
 unfold SetTable.slot at h
 simp [e] at h
theorem qh {t : SetTable} {f : Nat -> Int} {h : Int} (g : Good t) : ∀ (k : Nat) (p : SetTable.Probe) (j : Nat) (d : Option Nat), p.dummy = none -> SetTable.probe.go t f h k p = some (.empty j d) -> t.slot j = .empty /\ d = none := by
 intro k
 induction k with
 | zero => intro p j d _ e; simp [SetTable.probe.go] at e
 | succ k ih =>
   intro p j d hp e
   unfold SetTable.probe.go at e
   have Hr : ∀ q : SetTable.Probe, q.dummy = none -> (t.advance q).dummy = none := by
    intro q hq
    unfold SetTable.advance
    split <;> exact hq
   split at e
   . rename_i hs
     cases e
     exact ⟨hs, hp⟩
   . rename_i hs
     unfold SetTable.slot at hs
     dsimp only at hs
     split at hs
     . cases hs
     . rw [g.nd, m7] at hs
       cases hs
   . split at e
     . cases e
     . exact ih _ j d (Hr p hp) e
theorem kA {t : SetTable} {es : Array (Int × Value)} {h : Int} {x : Value} (g : Good t) : Good (layNew t es h x).2.1 /\ (layNew t es h x).2.1.led = t.led := by
 unfold layNew
 split
 . rename_i slot Gi e
   have hs : t.slot slot = .empty := by
    unfold SetTable.freeSlot at e
    split at e
    . rename_i j d hp
      obtain ⟨h1, rfl⟩ := qh g _ _ _ _ rfl hp
      cases e
      exact h1
    . cases e
   have hn := mM g hs
   have gp : Good (t.put slot).1 := ⟨mh g.up hn, by unfold SetTable.put; dsimp only; rw [g.nd, m7]; rfl⟩
   dsimp only
   unfold SetTable.orStandIn
   split
   . exact ⟨gp, rfl⟩
   . exact ⟨cI, rfl⟩
 . exact ⟨cI, rfl⟩
theorem ik {α : Type} (g : Nat -> Option α) : ∀ l : List Nat, ((l.filterMap fun j => (g j).map (j, ·)).map (·.1)) = l.filter fun j => (g j).isSome
 | [] => rfl
 | j :: r => by
   rw [List.filterMap_cons, List.filter_cons]
   cases hg : g j with
   | none => simpa using ik g r
   | some a => simpa using ik g r
theorem o3 {mask finger moves : Nat} {led plain : Bool} {hs : Array Int} {t : SetTable} {o : Array Nat} (e : SetTable.laid mask finger moves led plain hs = some (t, o)) : Good t /\ t.led = led := by
 unfold SetTable.laid at e
 cases hl : SetTable.layClean mask hs with
 | none => rw [hl] at e; cases e
 | some owner =>
   rw [hl] at e
   have e' := Option.some.inj e
   cases e'
   refine ⟨⟨?_, rfl⟩, rfl⟩
   rw [lK]
   show List.Pairwise _ (List.map _ _)
   rw [ik]
   exact List.pairwise_lt_range.filter _
theorem lE {t : SetTable} {es : Array (Int × Value)} {n : Nat} : Good (relayAll t es n).2.1 /\ (relayAll t es n).2.1.led = t.led := by
 unfold relayAll
 split
 . rename_i t' order e
   have := o3 e
   dsimp only
   split
   . exact this
   . exact ⟨cI, rfl⟩
 . exact ⟨cI, rfl⟩
section
variable {prog : Program} {w : World} {A : Around} {E : Value -> Shared -> Prop} {s : Shared}
def dq (prog : Program) (w : World) (h : Heap) (a : Addr) (S : Int -> Bool) (n : Nat) : Prop :=
 ∃ o es ep t, h.get? a = some o /\ o.ExactSet /\ o.data = .set es ep t /\ ElemsOf (intKind prog w) es.toList /\ (∀ k, S k = true ↔ ∃ e ∈ es.toList, (intKind prog w).is k e.2 = true) /\ es.size < scanBound /\ t.fits es.size = true /\ es.size = n /\ Good t /\ t.led = !w.params.followText "set-order"
theorem dq.at {h h' : Heap} {a : Addr} {S : Int -> Bool} {n : Nat} (x : dq prog w h a S n) (k : ∀ o, h.get? a = some o -> h'.get? a = some o) : dq prog w h' a S n := by
 obtain ⟨o, es, ep, t, ho, r⟩ := x
 exact ⟨o, es, ep, t, k o ho, r⟩
theorem nk {h : Heap} {a : Addr} {o : Obj} {es dz : Array (Int × Value)} {ep : Nat} {t t1 : SetTable} {S : Int -> Bool} (ho : h.get? a = some o) (hx : o.ExactSet) (hd : o.data = .set es ep t)
 (h1 : ElemsOf (intKind prog w) dz.toList) (h2 : ∀ k, S k = true ↔ ∃ e ∈ dz.toList, (intKind prog w).is k e.2 = true) (h3 : dz.size < scanBound) (h4 : t1.fits dz.size = true) (h5 : Good t1) (h6 : t1.led = !w.params.followText "set-order") :
 (h.update a (Obj.putSet dz t1)).get? a = some { o with data := .set dz (ep + 1) t1 } /\ dq prog w (h.update a (Obj.putSet dz t1)) a S dz.size := by
 obtain ⟨e, _⟩ := SetOf_store (knd := intKind prog w) ho hx hd h1 h2 h3 h4
 exact ⟨e, _, dz, ep + 1, t1, e, hx, rfl, h1, h2, h3, h4, rfl, h5, h6⟩
theorem pY {g : Bool -> Sem Unit} (hg : ∀ (b : Bool) (s1 : Shared) (R : Unit -> Shared -> Prop), R () s1 -> wpAny (model prog w) A (g b) R E s1) {a : Addr} {o : Obj} {es dz : Array (Int × Value)} {ep : Nat} {t t1 : SetTable} {S : Int -> Bool} {wd : Bool} {R : Option Bool -> Shared -> Prop}
 (ho : s.heap.get? a = some o) (hx : o.ExactSet) (hd : o.data = .set es ep t) (h1 : ElemsOf (intKind prog w) dz.toList) (h2 : ∀ k, S k = true ↔ ∃ e ∈ dz.toList, (intKind prog w).is k e.2 = true) (h3 : dz.size < scanBound) (h4 : t1.fits dz.size = true) (h5 : Good t1) (h6 : t1.led = !w.params.followText "set-order")
 (k : ∀ h', Heap.SameBut a s.heap h' -> dq prog w h' a S dz.size -> R (some true) { s with heap := h' }) :
 wpAny (model prog w) A (do
  storeSet a dz t1
  if (!wd && t1.tooFull) = true then do
      g (relayAll t1 dz (SetTable.grown dz.size)).2.2
      storeSet a (relayAll t1 dz (SetTable.grown dz.size)).1 (relayAll t1 dz (SetTable.grown dz.size)).2.1
      pure (some true)
   else pure (some true)) R E s := by
 obtain ⟨e1, g1⟩ := nk (prog := prog) (w := w) ho hx hd h1 h2 h3 h4 h5 h6
 refine wpAny_bind (wpAny_storeSet_of ho hd ?_ (fits_of_scanBound h3))
 have sb := Heap.SameBut.update s.heap a (Obj.putSet dz t1)
 by_cases c : (!wd && t1.tooFull) = true
 . rw [if_pos c]
   have p1 := relayAll_perm t1 dz (SetTable.grown dz.size)
   have p2 := relayAll_fits t1 dz (SetTable.grown dz.size)
   obtain ⟨p3, p4⟩ := lE (t := t1) (es := dz) (n := SetTable.grown dz.size)
   have sz : (relayAll t1 dz (SetTable.grown dz.size)).1.size = dz.size := by rw [<- Array.length_toList, p1.length_eq, Array.length_toList]
   have q2 : ∀ k, S k = true ↔ ∃ e ∈ (relayAll t1 dz (SetTable.grown dz.size)).1.toList, (intKind prog w).is k e.2 = true := fun k => by
    rw [h2 k]
    exact ⟨fun ⟨e, m, i⟩ => ⟨e, p1.mem_iff.mpr m, i⟩, fun ⟨e, m, i⟩ => ⟨e, p1.mem_iff.mp m, i⟩⟩
   have Fm : (relayAll t1 dz (SetTable.grown dz.size)).1.size < scanBound := by rw [sz]; exact h3
   obtain ⟨_, g2⟩ := nk (prog := prog) (w := w) e1 hx rfl (h1.perm p1) q2 Fm p2 p3 (p4.trans h6)
   refine wpAny_bind (hg _ _ _ (wpAny_bind (wpAny_storeSet_of e1 rfl ?_ (fits_of_scanBound Fm))))
   rw [sz] at g2
   exact wpAny_pure (k _ (sb.trans (Heap.SameBut.update _ a _)) g2)
 . rw [if_neg c]
   exact wpAny_pure (k _ sb g1)
theorem Af {a : Addr} {S : Int -> Bool} {n : Nat} {k : Int} {x : Value} {Q : Bool -> Shared -> Prop} (hk : (intKind prog w).is k x = true) (hc : x.scannable = true) (hS : dq prog w s.heap a S n) (hr : n + 1 < scanBound)
 (h : ∀ h', Heap.SameBut a s.heap h' -> dq prog w h' a (fun i => S i || decide (i = k)) (if S k then n else n + 1) -> Q (!S k) { s with heap := h' }) : wpAny (model prog w) A (setAddHashed a x ((intKind prog w).hash k)) Q E s := by
 obtain ⟨o, es, ep, t, ho, hx, hd, h1, h2, h3, h4, h5, h6, h7⟩ := hS
 unfold setAddHashed setAddHashedIn
 refine wpAny_holding (wpAny_bind (wpAny_setState_of ho hd h4 ?_))
 dsimp only
 rw [byScan_of hc h3 h1]
 simp only [if_true]
 unfold setAddByScan
 refine wpAny_bind (wpAny_bind (wpAny_rule (wpAny_bind (wpAny_setScan_of hk ho hd h4 h1 ?_))))
 cases hf : List.findIdx? (fun e => (intKind prog w).is k e.2) es.toList with
 | some j =>
   obtain ⟨hj, hp, _⟩ := List.findIdx?_eq_some_iff_getElem.mp hf
   have e : S k = true := (h2 k).mpr ⟨_, List.getElem_mem hj, hp⟩
   rw [e] at h
   dsimp only
   refine wpAny_pure (wpAny_pure ?_)
   have z := h s.heap (Heap.SameBut.refl a s.heap) ⟨o, es, ep, t, ho, hx, hd, h1, fun i => by
    rw [Bool.or_eq_true, decide_eq_true_eq, <- h2 i]
    exact ⟨fun q => q.elim id fun z => z ▸ e, .inl⟩, h3, h4, by simpa using h5, h6, h7⟩
   cases s
   exact z
 | none =>
   have e : S k = false := by
    cases hb : S k with
    | false => rfl
    | true =>
      obtain ⟨y, m, i⟩ := (h2 k).mp hb
      rw [List.findIdx?_eq_none_iff.mp hf y m] at i
      cases i
   rw [e] at h
   dsimp only
   have p1 := layNew_perm t es ((intKind prog w).hash k) x
   have p2 := layNew_fits t es ((intKind prog w).hash k) x
   obtain ⟨p3, p4⟩ := kA (es := es) (h := (intKind prog w).hash k) (x := x) h6
   generalize layNew t es ((intKind prog w).hash k) x = L at p1 p2 p3 p4 ⊢
   obtain ⟨dz, t1, wd, gv⟩ := L
   dsimp only at p1 p2 p3 p4 ⊢
   rw [Array.toList_push] at p1
   have sz : dz.size = n + 1 := by rw [<- Array.length_toList, p1.length_eq, List.length_append, Array.length_toList, h5]; rfl
   have q1 : ElemsOf (intKind prog w) dz.toList := (h1.push hk hc).perm p1
   have q2 := mem_push_iff hk h2 p1
   have q3 : dz.size < scanBound := by rw [sz]; exact hr
   have fin : ∀ h', Heap.SameBut a s.heap h' -> dq prog w h' a (fun i => S i || decide (i = k)) dz.size -> Q true { s with heap := h' } := fun h' sb g => by
    rw [sz] at g
    exact h h' sb g
   refine wpAny_bind (m := match gv with | true => rule "set.scan.the-table-gave-way" | false => pure ()) ?_
   have gw : ∀ (b : Bool) (s1 : Shared) (R : Unit -> Shared -> Prop), R () s1 -> wpAny (model prog w) A (match b with | true => rule "set.scan.the-table-gave-way" | false => pure ()) R E s1 := fun b s1 R hq => by
    cases b
    . exact wpAny_pure hq
    . exact wpAny_rule hq
   refine gw gv _ _ ?_
   by_cases c : t1.plain = true
   . rw [if_pos c, hashByValue_scannable 8 hc]
     refine wpAny_bind (wpAny_pure ?_)
     refine pY gw ho hx hd q1 q2 q3 ?_ ?_ ?_ fun h' sb g => wpAny_pure (fin h' sb g)
     . split
       . exact p2
       . exact SetTable.fits_plain_off p2
     . split
       . exact p3
       . exact mD p3
     . split
       . exact p4.trans h7
       . exact p4.trans h7
   . rw [if_neg c]
     refine wpAny_bind (wpAny_pure ?_)
     simp only [if_true]
     exact pY gw ho hx hd q1 q2 q3 p2 p3 (p4.trans h7) fun h' sb g => wpAny_pure (fin h' sb g)
end
theorem e8 {α : Type} : ∀ {xs : List α} {i : Nat} (h : i < xs.length), (xs[i] :: xs.eraseIdx i).Perm xs
 | a :: r, 0, _ => .refl _
 | a :: r, i + 1, h => by
   have h2 : i < r.length := by simpa using h
   show (r[i] :: a :: r.eraseIdx i).Perm (a :: r)
   exact (List.Perm.swap a _ _).trans (List.Perm.cons a (e8 h2))
theorem sE {α : Type} (f : Nat -> Nat) : ∀ (n k : Nat) (left : List α) (out : Array α), left.length <= n -> (pickOrder.go f n k left out).toList.Perm (out.toList ++ left) := by
 intro n
 induction n with
 | zero =>
   intro k left out h
   have : left = [] := List.length_eq_zero_iff.mp (by omega)
   subst this
   simp [pickOrder.go]
 | succ n ih =>
   intro k left out h
   unfold pickOrder.go
   cases left with
   | nil => simp
   | cons a r =>
     have bZ : f k % (a :: r).length < (a :: r).length := Nat.mod_lt _ (by simp)
     rw [List.getElem?_eq_getElem bZ]
     dsimp only
     refine (ih _ _ _ ?_).trans ?_
     . rw [List.length_eraseIdx, if_pos bZ]; simp at h ⊢; omega
     . rw [Array.toList_push, List.append_assoc]
       exact List.Perm.append_left _ (e8 bZ)
theorem fY {α : Type} (f : Nat -> Nat) (xs : Array α) : (pickOrder f xs).toList.Perm xs.toList := by
 unfold pickOrder
 simpa using sE f xs.size 0 xs.toList #[] (by simp)
section
variable {prog : Program} {w : World} {A : Around} {E : Value -> Shared -> Prop} {s : Shared}
theorem uI {src : Source} {n : Nat} {Q : Nat -> Shared -> Prop} (hn : n ≠ 0) (h : ∀ i d, i < n -> Q i { s with drawn := d }) : wpAny (model prog w) A (choose src n) Q E s := fun Γ p _ => by
 show Sem.wp _ _ (.choose src n .pure) _ _ _ _
 rw [Sem.wp_choose]
 exact ⟨hn, h _ _ (Nat.mod_lt _ (Nat.pos_of_ne_zero hn))⟩
theorem qZ {α : Type} : ∀ (n : Nat) (xs : List α) {s : Shared} {Q : List α -> Shared -> Prop}, xs.length <= n -> (∀ ys d, ys.Perm xs -> Q ys { s with drawn := d }) -> wpAny (model prog w) A (drawOrder n xs) Q E s := by
 intro n
 induction n with
 | zero =>
   intro xs s Q h k
   have : xs = [] := List.length_eq_zero_iff.mp (by omega)
   subst this
   exact wpAny_pure (k [] s.drawn .nil)
 | succ n ih =>
   intro xs s Q h k
   cases xs with
   | nil => exact wpAny_pure (k [] s.drawn .nil)
   | cons a r =>
     unfold drawOrder
     refine wpAny_bind (uI (by simp) fun i d hi => ?_)
     rw [List.getElem?_eq_getElem hi]
     dsimp only
     refine wpAny_bind (ih _ ?_ fun ys d2 hp => wpAny_pure (k _ _ ?_))
     . rw [List.length_eraseIdx, if_pos hi]; simp at h ⊢; omega
     . exact (List.Perm.cons _ hp).trans (e8 hi)
end
set_option maxRecDepth 100000
theorem j6 : Manifest.owners.lookup (String.ofList ['r', 'o', 't', 'a', 'r', 'e', 't', 'i', '_', 't', 'e', 's'].reverse) = some Manifest.sig_set_iterator := by kernel_rfl
theorem aI : Slot "set_iterator" "__next__" "set_iterator.__next__" :=
 .of (owner := "set_iterator") (n := "__next__") (by rw [typeLookup_type, builtinLookup_eq_fast]; kernel_rfl) (by decide +kernel) (by decide +kernel) (by decide +kernel) (by first | exact .inl (by decide +kernel) | exact .inr (by decide +kernel)) (by rw [isSubtype_type]; kernel_rfl)
theorem ft : Slot "set_iterator" "__iter__" "set_iterator.__iter__" :=
 .of (owner := "set_iterator") (n := "__iter__") (by rw [typeLookup_type, builtinLookup_eq_fast]; kernel_rfl) (by decide +kernel) (by decide +kernel) (by decide +kernel) (by first | exact .inl (by decide +kernel) | exact .inr (by decide +kernel)) (by rw [isSubtype_type]; kernel_rfl)
theorem cn : entryFor table "set_iterator.__next__" = some Builtin.«set_iterator.__next__» := entryFor_of_tree (by kernel_rfl)
theorem iJ : entryFor table "set_iterator.__iter__" = some Builtin.«dict_keyiterator.__iter__» :=
 entryFor_alias (id' := "dict_keyiterator.__iter__") (by kernel_rfl) rfl (by decide +kernel) (by kernel_rfl)
theorem cF (a : Value) : argsOk "set_iterator.__next__" ⟨[a], []⟩ := by
 unfold argsOk; rw [signature?_of (id := "set_iterator.__next__") (n := ['_', '_', 't', 'x', 'e', 'n', '_', '_']) (o := ['r', 'o', 't', 'a', 'r', 'e', 't', 'i', '_', 't', 'e', 's']) (by kernel_rfl) j6]; kernel_rfl
theorem jQ (a : Value) : argsOk "set_iterator.__iter__" ⟨[a], []⟩ := by
 unfold argsOk; rw [signature?_of (id := "set_iterator.__iter__") (n := ['_', '_', 'r', 'e', 't', 'i', '_', '_']) (o := ['r', 'o', 't', 'a', 'r', 'e', 't', 'i', '_', 't', 'e', 's']) (by kernel_rfl) j6]; kernel_rfl
theorem iq : entryFor table "set.__iter__" = some Builtin.«frozenset.__iter__» :=
 entryFor_alias (id' := "frozenset.__iter__") (by kernel_rfl) rfl (by decide +kernel) (by kernel_rfl)
def dX (f : Value) (i : Nat) (a : Addr) (n ep : Nat) : Obj := { cls := .type "set_iterator", data := .fields #[f, rawInt i, .ref a, rawInt n, rawInt ep] }
section
variable {prog : Program} {w : World} {A : Around} {E : Value -> Shared -> Prop} {s : Shared} {it a : Addr} {o : Obj} {es : Array (Int × Value)} {ep : Nat} {t : SetTable}
theorem jO {f : Value} {i n : Nat} {Q : Value -> Shared -> Prop} (h : s.heap.get? it = some (dX f i a n ep)) (q : Q (.ref it) s) : wpAny (model prog w) A (pyIter (.ref it)) Q E s := by
 have hT : s.TypeIs (.ref it) "set_iterator" := ⟨_, h, rfl⟩
 refine wpAny_pyIter_slot hT ft (wpAny_call_entry ft hT iJ ?_ (jQ _))
 show wpAny _ _ (ret (.ref it)) _ _ s
 exact wpAny_pure ⟨_, rfl, "set_iterator", _, hT, aI.lookup, q⟩
end
section
variable {prog : Program} {w : World} {A : Around} {E : Value -> Shared -> Prop} {s : Shared} {it a : Addr} {o : Obj} {es : Array (Int × Value)} {ep : Nat} {t : SetTable}
theorem ip : isSubtype (.type "StopIteration") (.type "StopIteration") = pure true := by rw [isSubtype_type]; kernel_rfl
theorem nh {z z2 i : Nat} {x : Value} {Q : Option Value -> Shared -> Prop} (hit : s.heap.get? it = some (dX (rawInt z) i a es.size ep)) (ho : s.heap.get? a = some o) (hd : o.data = .set es ep t) (hf : t.fits es.size = true)
 (hn : ∀ (R : Option (Value × Nat) -> Shared -> Prop) (E : Value -> Shared -> Prop), R (some (x, z2)) s -> wpAny (model prog w) A.in1 (setNext a z i ep) R E s)
 (h : ∀ h', h'.get? it = some (dX (rawInt z2) (i + 1) a es.size ep) -> Heap.SameBut it s.heap h' -> Q (some x) { s with heap := h' }) : wpAny (model prog w) A (pyNext (.ref it)) Q E s := by
 have hT : s.TypeIs (.ref it) "set_iterator" := ⟨_, hit, rfl⟩
 unfold pyNext
 refine wpAny_bind (wpAny_attempt (wpAny_callSpecial?_slot (name := Str.ofString "__next__") hT aI (wpAny_call_entry aI hT cn ?_ (cF _))))
 unfold Builtin.«set_iterator.__next__»
 refine wpAny_bind (wpAny_pure ?_)
 refine wpAny_bind (wpAny_fieldsOf hit rfl ?_)
 refine wpAny_bind (wpAny_setEntries_of ho hd hf ?_)
 rw [if_neg (by simp)]
 refine wpAny_bind (hn _ _ ?_)
 dsimp only
 refine wpAny_bind (wpAny_setField_rec hit (by simp) fun h1 e1 b1 => ?_)
 refine wpAny_bind (wpAny_setField_rec (s := { s with heap := h1 }) e1 (by simp) fun h2 e2 b2 => ?_)
 refine wpAny_pure ⟨_, rfl, wpAny_pure (h h2 ?_ (b1.trans b2))⟩
 rw [e2]
 unfold dX
 have e : ((i + 1 : Nat) : Int) = (i : Int) + 1 := by omega
 rw [e]
 rfl
theorem hE {z i : Nat} {Q : Option Value -> Shared -> Prop} (hh : A.handled = none) (hit : s.heap.get? it = some (dX (rawInt z) i a es.size ep)) (ho : s.heap.get? a = some o) (hd : o.data = .set es ep t) (hf : t.fits es.size = true)
 (hn : ∀ (R : Option (Value × Nat) -> Shared -> Prop) (E : Value -> Shared -> Prop), R none s -> wpAny (model prog w) A.in1 (setNext a z i ep) R E s)
 (h : ∀ h', Heap.ExtBut it s.heap h' -> Q none { s with heap := h' }) : wpAny (model prog w) A (pyNext (.ref it)) Q E s := by
 have hT : s.TypeIs (.ref it) "set_iterator" := ⟨_, hit, rfl⟩
 unfold pyNext
 refine wpAny_bind (wpAny_attempt (wpAny_callSpecial?_slot (name := Str.ofString "__next__") hT aI (wpAny_call_entry aI hT cn ?_ (cF _))))
 unfold Builtin.«set_iterator.__next__»
 refine wpAny_bind (wpAny_pure ?_)
 refine wpAny_bind (wpAny_fieldsOf hit rfl ?_)
 refine wpAny_bind (wpAny_setEntries_of ho hd hf ?_)
 rw [if_neg (by simp)]
 refine wpAny_bind (hn _ _ ?_)
 dsimp only
 refine wpAny_bind (wpAny_setField_rec hit (by simp) fun h1 e1 b1 => ?_)
 refine wpAny_bind ?_
 simp only [newExc, newTuple]
 refine wpAny_bind (wpAny_newObj_type ?_ (by size_fits))
 refine wpAny_bind (m := firstArgMember _ _) (wpAny_of_eq (a := Value.none) (by first | rfl | (simp only [firstArgMember]; rfl)) ?_)
 refine wpAny_newObj_type ?_ (by size_fits)
 simp only [raiseNew]
 refine wpAny_bind (wpAny_handled ?_)
 rw [show A.in1.handled = none from hh]
 refine wpAny_bind (wpAny_pure (wpAny_throw ?_))
 refine wpAny_bind (wpAny_isInstance (T := "StopIteration") (b := true) ⟨_, Heap.get?_push_size _ rfl, rfl⟩ ip ?_)
 exact wpAny_pure (h _ ((b1.extBut.push _).push _))
theorem qS {p i j : Nat} {ps : List Nat} {x : Int × Value} {Q : Option Value -> Shared -> Prop} (hit : s.heap.get? it = some (dX (.ref p) i a es.size ep)) (hp : s.heap.get? p = some { cls := .type "tuple", data := .seq (ps.map fun (i : Nat) => rawInt i).toArray }) (ho : s.heap.get? a = some o) (hd : o.data = .set es ep t) (hf : t.fits es.size = true)
 (hi : ps[i]? = some j) (hj : es[j]? = some x) (h : ∀ h', h'.get? it = some (dX (.ref p) (i + 1) a es.size ep) -> Heap.SameBut it s.heap h' -> Q (some x.2) { s with heap := h' }) : wpAny (model prog w) A (pyNext (.ref it)) Q E s := by
 have hT : s.TypeIs (.ref it) "set_iterator" := ⟨_, hit, rfl⟩
 unfold pyNext
 refine wpAny_bind (wpAny_attempt (wpAny_callSpecial?_slot (name := Str.ofString "__next__") hT aI (wpAny_call_entry aI hT cn ?_ (cF _))))
 unfold Builtin.«set_iterator.__next__»
 refine wpAny_bind (wpAny_pure ?_)
 refine wpAny_bind (wpAny_fieldsOf hit rfl ?_)
 refine wpAny_bind (wpAny_setEntries_of ho hd hf ?_)
 rw [if_neg (by simp)]
 refine wpAny_bind (wpAny_bind (wpAny_load hp (wpAny_pure ?_)))
 dsimp only
 have e0 : (ps.map fun (i : Nat) => rawInt i).toArray[(i : Int).toNat]? = some (rawInt j) := by
  rw [Int.toNat_natCast, List.getElem?_toArray, List.getElem?_map, hi]; rfl
 rw [e0]
 refine wpAny_bind ?_
 unfold setNextDrawn
 refine wpAny_bind (wpAny_setState_of ho hd hf ?_)
 dsimp only
 rw [if_neg (by simp), Int.toNat_natCast, hj]
 refine wpAny_pure (wpAny_bind (wpAny_setField_rec hit (by simp) fun h1 e1 b1 => wpAny_pure ⟨_, rfl, wpAny_pure (h h1 ?_ b1)⟩))
 rw [e1]
 unfold dX
 have e : ((i + 1 : Nat) : Int) = (i : Int) + 1 := by omega
 rw [e]
 rfl
theorem kX {p i : Nat} {ps : List Nat} {Q : Option Value -> Shared -> Prop} (hh : A.handled = none) (hit : s.heap.get? it = some (dX (.ref p) i a es.size ep)) (hp : s.heap.get? p = some { cls := .type "tuple", data := .seq (ps.map fun (i : Nat) => rawInt i).toArray }) (ho : s.heap.get? a = some o) (hd : o.data = .set es ep t) (hf : t.fits es.size = true)
 (hi : ps[i]? = none) (h : ∀ h', Heap.ExtBut it s.heap h' -> Q none { s with heap := h' }) : wpAny (model prog w) A (pyNext (.ref it)) Q E s := by
 have hT : s.TypeIs (.ref it) "set_iterator" := ⟨_, hit, rfl⟩
 unfold pyNext
 refine wpAny_bind (wpAny_attempt (wpAny_callSpecial?_slot (name := Str.ofString "__next__") hT aI (wpAny_call_entry aI hT cn ?_ (cF _))))
 unfold Builtin.«set_iterator.__next__»
 refine wpAny_bind (wpAny_pure ?_)
 refine wpAny_bind (wpAny_fieldsOf hit rfl ?_)
 refine wpAny_bind (wpAny_setEntries_of ho hd hf ?_)
 rw [if_neg (by simp)]
 refine wpAny_bind (wpAny_bind (wpAny_load hp (wpAny_pure ?_)))
 dsimp only
 have e0 : (ps.map fun (i : Nat) => rawInt i).toArray[(i : Int).toNat]? = none := by
  rw [Int.toNat_natCast, List.getElem?_toArray, List.getElem?_map, hi]; rfl
 rw [e0]
 refine wpAny_bind (wpAny_setField_rec hit (by simp) fun h1 e1 b1 => ?_)
 refine wpAny_bind (wpAny_setField_rec (s := { s with heap := h1 }) e1 (by simp) fun h2 e2 b2 => ?_)
 refine wpAny_bind ?_
 simp only [newExc, newTuple]
 refine wpAny_bind (wpAny_newObj_type ?_ (by size_fits))
 refine wpAny_bind (m := firstArgMember _ _) (wpAny_of_eq (a := Value.none) (by first | rfl | (simp only [firstArgMember]; rfl)) ?_)
 refine wpAny_newObj_type ?_ (by size_fits)
 simp only [raiseNew]
 refine wpAny_bind (wpAny_handled ?_)
 rw [show A.in1.handled = none from hh]
 refine wpAny_bind (wpAny_pure (wpAny_throw ?_))
 refine wpAny_bind (wpAny_isInstance (T := "StopIteration") (b := true) ⟨_, Heap.get?_push_size _ rfl, rfl⟩ ip ?_)
 exact wpAny_pure (h _ (((b1.trans b2).extBut.push _).push _))
theorem ng {A : Around} {z i : Nat} (hb : w.params.followText "set-order" = true) (ho : s.heap.get? a = some o) (hd : o.data = .set es ep t) (hf : t.fits es.size = true) (R : Option (Value × Nat) -> Shared -> Prop) (E : Value -> Shared -> Prop)
 (h : R ((((pickOrder (w.params.setOrder a ep) es).toList.map (·.2))[i]?).map fun x => (x, z)) s) : wpAny (model prog w) A (setNext a z i ep) R E s := by
 unfold setNext
 refine wpAny_bind (wpAny_setState_of ho hd hf ?_)
 unfold setsByText
 refine wpAny_bind (wpAny_bind (wpAny_askSetting (wpAny_pure ?_)))
 dsimp only
 rw [show (model prog w).w.params.followText "set-order" = true from hb, if_pos rfl, if_neg (by simp)]
 refine wpAny_bind ?_
 unfold setWalk setsByText
 refine wpAny_bind (wpAny_setState_of ho hd hf ?_)
 refine wpAny_bind (wpAny_bind (wpAny_askSetting (wpAny_pure ?_)))
 dsimp only
 rw [show (model prog w).w.params.followText "set-order" = true from hb, if_pos rfl]
 refine wpAny_bind (wpAny_askSetting (wpAny_pure (wpAny_pure ?_)))
 dsimp only
 rw [List.getElem?_map, Array.getElem?_toList, Option.map_map] at h
 exact h
theorem jk {A : Around} {z i k : Nat} (hb : w.params.followText "set-order" = false) (ho : s.heap.get? a = some o) (hd : o.data = .set es ep t) (hf : t.fits es.size = true) (yH : (!t.plain && decide (es.size > 1)) = false) (hl : t.led = true) (R : Option (Value × Nat) -> Shared -> Prop) (E : Value -> Shared -> Prop)
 (h : R (match es[SetTable.below t.place z]?, t.place[SetTable.below t.place z]? with | some (_, x), some j => some (x, j + 1) | _, _ => none) s) : wpAny (model prog w) A (setNext a z k ep) R E s := by
 unfold setNext
 refine wpAny_bind (wpAny_setState_of ho hd hf ?_)
 unfold setsByText
 refine wpAny_bind (wpAny_bind (wpAny_askSetting (wpAny_pure ?_)))
 dsimp only
 rw [show (model prog w).w.params.followText "set-order" = false from hb, if_neg (by simp)]
 split
 . rename_i c
   have c2 : (!t.plain && decide (es.size > 1)) = true := c
   rw [yH] at c2
   cases c2
 . refine wpAny_bind ?_
   show wpAny _ _ (if (!t.led && !es.isEmpty) = true then unsupported "set:maker-not-led" else pure ()) _ _ _
   rw [hl, if_neg (by simp)]
   exact wpAny_pure (wpAny_pure h)
theorem lS {t : SetTable} {i : Nat} (g : Good t) (hi : i < t.place.size) : SetTable.below t.place (t.place[i] + 1) = i + 1 := by
 obtain ⟨h0, h1, h2⟩ := below_at (j := t.place[i] + 1) g.up
 by_cases a : SetTable.below t.place (t.place[i] + 1) <= i
 . have := h2 i hi a; omega
 . by_cases b : i + 1 < SetTable.below t.place (t.place[i] + 1)
   . have c : i + 1 < t.place.size := by omega
     have := h1 (i + 1) c b
     have := g.up i (i + 1) hi c (by omega)
     omega
   . omega
theorem me {t : SetTable} (g : Good t) : SetTable.below t.place 0 = 0 := by
 obtain ⟨h0, h1, h2⟩ := below_at (j := 0) g.up
 by_cases a : 0 < SetTable.below t.place 0
 . have := h1 0 (by omega) a; omega
 . omega
theorem oA (hh : A.handled = none) (hb : w.params.followText "set-order" = true) (hd : o.data = .set es ep t) (hf : t.fits es.size = true) (jo : a ≠ it) (z : Nat) :
 Walks prog w A it [it, a] [it] es.size (fun i v => ((pickOrder (w.params.setOrder a ep) es).toList.map (·.2))[i]? = some v) (fun i h => h.get? it = some (dX (rawInt z) i a es.size ep) /\ h.get? a = some o) where
 sub := fun b hb => by simp at hb; simp [hb]
 frame := fun i h h' st k => ⟨k it (by simp) _ st.1, k a (by simp) _ st.2⟩
 item := fun i s Q E hi st hQ => by
  have hl : ((pickOrder (w.params.setOrder a ep) es).toList.map (·.2)).length = es.size := by rw [List.length_map, (fY _ _).length_eq]; simp
  obtain ⟨x, hx⟩ : ∃ x, ((pickOrder (w.params.setOrder a ep) es).toList.map (·.2))[i]? = some x := ⟨_, List.getElem?_eq_getElem (by rw [hl]; exact hi)⟩
  refine nh (z2 := z) st.1 st.2 hd hf (fun R E h => ng hb st.2 hd hf R E (by rw [hx]; exact h)) fun h' e sb => ?_
  exact hQ x h' s.toks hx ⟨e, (sb.2 a jo).trans st.2⟩ fun b o hb e => sb.extBut b o (by simpa using hb) e
 done := fun s Q E st hQ => by
  have hl : ((pickOrder (w.params.setOrder a ep) es).toList.map (·.2)).length = es.size := by rw [List.length_map, (fY _ _).length_eq]; simp
  refine hE hh st.1 st.2 hd hf (fun R E h => ng hb st.2 hd hf R E (by rw [List.getElem?_eq_none (by rw [hl]; exact Nat.le_refl _)]; exact h)) fun h' eb => hQ h' s.toks fun b o hb e => eb b o (by simpa using hb) e
 self := fun i s Q E st q => jO st.1 q
theorem kE (hh : A.handled = none) (hb : w.params.followText "set-order" = false) (hd : o.data = .set es ep t) (hf : t.fits es.size = true) (hg : Good t) (yH : (!t.plain && decide (es.size > 1)) = false) (hl : t.led = true) (jo : a ≠ it) :
 Walks prog w A it [it, a] [it] es.size (fun i v => (es.toList.map (·.2))[i]? = some v) (fun i h => (∃ z : Nat, SetTable.below t.place z = i /\ h.get? it = some (dX (rawInt z) i a es.size ep)) /\ h.get? a = some o) where
 sub := fun b hb => by simp at hb; simp [hb]
 frame := fun i h h' st k => let ⟨⟨z, e1, e2⟩, e3⟩ := st; ⟨⟨z, e1, k it (by simp) _ e2⟩, k a (by simp) _ e3⟩
 item := fun i s Q E hi st hQ => by
  obtain ⟨⟨z, e1, e2⟩, e3⟩ := st
  have hp : t.place.size = es.size := by unfold SetTable.fits at hf; simp at hf; exact hf.1
  have tL : i < t.place.size := by rw [hp]; exact hi
  have hx : (es.toList.map (·.2))[i]? = some es[i].2 := by rw [List.getElem?_map, Array.getElem?_toList, Array.getElem?_eq_getElem hi]; rfl
  refine nh (z2 := t.place[i] + 1) (x := es[i].2) e2 e3 hd hf (fun R E h => jk (i := i) hb e3 hd hf yH hl R E (by rw [e1, Array.getElem?_eq_getElem hi, Array.getElem?_eq_getElem tL]; exact h)) fun h' e sb => ?_
  exact hQ _ h' s.toks hx ⟨⟨_, lS hg tL, e⟩, (sb.2 a jo).trans e3⟩ fun b o hb e => sb.extBut b o (by simpa using hb) e
 done := fun s Q E st hQ => by
  obtain ⟨⟨z, e1, e2⟩, e3⟩ := st
  refine hE hh e2 e3 hd hf (fun R E h => jk (i := 0) hb e3 hd hf yH hl R E (by rw [e1, Array.getElem?_eq_none (Nat.le_refl _)]; exact h)) fun h' eb => hQ h' s.toks fun b o hb e => eb b o (by simpa using hb) e
 self := fun i s Q E st q => by
  obtain ⟨⟨z, e1, e2⟩, e3⟩ := st
  exact jO e2 q
theorem mw {p : Addr} {ps : List Nat} (hh : A.handled = none) (hd : o.data = .set es ep t) (hf : t.fits es.size = true) (jo : a ≠ it) (G3 : p ≠ it) (wI : ps.Perm (List.range es.size)) :
 Walks prog w A it [it, a, p] [it] es.size (fun i v => (ps.map fun j => (es.getD j default).2)[i]? = some v) (fun i h => h.get? it = some (dX (.ref p) i a es.size ep) /\ h.get? a = some o /\ h.get? p = some { cls := .type "tuple", data := .seq (ps.map fun (i : Nat) => rawInt i).toArray }) where
 sub := fun b hb => by simp at hb; simp [hb]
 frame := fun i h h' st k => ⟨k it (by simp) _ st.1, k a (by simp) _ st.2.1, k p (by simp) _ st.2.2⟩
 item := fun i s Q E hi st hQ => by
  have hl : ps.length = es.size := by rw [wI.length_eq, List.length_range]
  have tL : i < ps.length := by rw [hl]; exact hi
  have hj : ps[i] < es.size := List.mem_range.mp (wI.mem_iff.mp (List.getElem_mem tL))
  have hx : (ps.map fun j => (es.getD j default).2)[i]? = some es[ps[i]].2 := by
   rw [List.getElem?_map, List.getElem?_eq_getElem tL]
   simp [Array.getD, hj]
  refine qS st.1 st.2.2 st.2.1 hd hf (List.getElem?_eq_getElem tL) (Array.getElem?_eq_getElem hj) fun h' e sb => ?_
  exact hQ _ h' s.toks hx ⟨e, (sb.2 a jo).trans st.2.1, (sb.2 p G3).trans st.2.2⟩ fun b o hb e => sb.extBut b o (by simpa using hb) e
 done := fun s Q E st hQ => by
  have hl : ps.length = es.size := by rw [wI.length_eq, List.length_range]
  exact kX hh st.1 st.2.2 st.2.1 hd hf (List.getElem?_eq_none (by rw [hl]; exact Nat.le_refl _)) fun h' eb => hQ h' s.toks fun b o hb e => eb b o (by simpa using hb) e
 self := fun i s Q E st q => jO st.1 q
end
section
variable {prog : Program} {w : World} {A : Around} {E : Value -> Shared -> Prop} {s : Shared} {it a : Addr} {o : Obj} {es : Array (Int × Value)} {ep : Nat} {t : SetTable}
theorem mC {α : Type} [Inhabited α] (es : Array α) : (List.range es.size).map (fun j => es.getD j default) = es.toList := by
 refine List.ext_getElem (by simp) fun i h1 h2 => ?_
 have : i < es.size := by simpa using h1
 simp [Array.getD, this]
theorem qV {Q : Value -> Shared -> Prop} (ho : s.heap.get? a = some o) (hx : o.ExactSet) (hd : o.data = .set es ep t) (hf : t.fits es.size = true) (hg : Good t) (hl : t.led = !w.params.followText "set-order") (hz : es.size < scanBound)
 (h : ∀ (it : Addr) (fp : List Addr) (St : Nat -> Heap -> Prop) (ord : List Value) (h' : Heap) (d : Drawn), (∀ b u, s.heap.get? b = some u -> h'.get? b = some u) -> s.heap.objs.size <= it -> St 0 h' -> (∀ b ∈ fp, b < h'.objs.size) -> (∀ b ∈ fp, b = a \/ s.heap.objs.size <= b) -> it ∈ fp -> ord.Perm (es.toList.map (·.2)) ->
  (∀ A : Around, A.handled = none -> Walks prog w A it fp [it] es.size (fun i v => ord[i]? = some v) St) -> Q (.ref it) { s with heap := h', drawn := d }) : wpAny (model prog w) A (pyIter (.ref a)) Q E s := by
 have hT : s.TypeIs (.ref a) "set" := ⟨o, ho, hx.1⟩
 have pA : a < s.heap.objs.size := Heap.lt_size ho
 refine wpAny_pyIter_slot hT F.slot_set_iter (wpAny_call_entry F.slot_set_iter hT iq ?_ (F.args_set_iter_1 _))
 unfold Builtin.«frozenset.__iter__»
 refine wpAny_bind (wpAny_pure ?_)
 refine wpAny_bind ?_
 unfold Builtin.Frozenset.sizeOf
 refine wpAny_bind (wpAny_setEntries_of ho hd hf (wpAny_pure ?_))
 refine wpAny_bind ?_
 unfold setDrawn setsByText
 refine wpAny_bind (wpAny_setState_of ho hd hf ?_)
 refine wpAny_bind (wpAny_bind (wpAny_askSetting (wpAny_pure (wpAny_pure ?_))))
 dsimp only
 split
 . rename_i c
   have c2 : (!w.params.followText "set-order" && (!t.plain && decide (es.size > 1))) = true := c
   refine wpAny_bind (qZ _ _ (by simp) fun ps d wI => ?_)
   have ka : ps.length = es.size := by rw [wI.length_eq, List.length_range]
   refine wpAny_bind (wpAny_newTuple (hsz := by rw [List.length_map, ka]; exact fits_of_scanBound hz) ?_)
   refine wpAny_bind (wpAny_setEpoch_of (o := o) (Heap.get?_push_of_some _ ho) hd hf ?_)
   refine wpAny_bind (wpAny_newObj_type (wpAny_pure ⟨_, rfl, "set_iterator", _, ⟨_, Heap.get?_push_size _ rfl, rfl⟩, aI.lookup, ?_⟩))
   have hsz : ∀ u : Obj, (s.heap.push u).objs.size = s.heap.objs.size + 1 := fun u => Heap.size_push ..
   refine h _ [_, a, s.heap.objs.size] _ (ps.map fun j => (es.getD j default).2) _ d (fun b u e => Heap.get?_push_of_some _ (Heap.get?_push_of_some _ e)) (by rw [hsz]; exact Nat.le_succ _) ⟨Heap.get?_push_size _ rfl, Heap.get?_push_of_some _ (Heap.get?_push_of_some _ ho), Heap.get?_push_of_some _ (Heap.get?_push_size _ rfl)⟩ ?_ ?_ (by simp) ?_ (fun A hh => mw hh hd hf ?_ ?_ wI)
   . intro b hb
     rw [Heap.size_push, hsz]
     have : b = s.heap.objs.size + 1 \/ b = a \/ b = s.heap.objs.size := by simpa using hb
     rcases this with rfl | rfl | rfl
     . exact Nat.lt_succ_self _
     . exact Nat.lt_succ_of_lt (Nat.lt_succ_of_lt pA)
     . exact Nat.lt_succ_of_lt (Nat.lt_succ_self _)
   . intro b hb
     have : b = s.heap.objs.size + 1 \/ b = a \/ b = s.heap.objs.size := by simpa using hb
     rcases this with rfl | rfl | rfl
     . exact .inr (Nat.le_succ _)
     . exact .inl rfl
     . exact .inr (Nat.le_refl _)
   . rw [<- mC es, List.map_map]
     exact wI.map _
   . rw [hsz]; exact Nat.ne_of_lt (Nat.lt_succ_of_lt pA)
   . rw [hsz]; exact Nat.ne_of_lt (Nat.lt_succ_self _)
 . rename_i c
   have c2 : ¬ (!w.params.followText "set-order" && (!t.plain && decide (es.size > 1))) = true := c
   refine wpAny_bind (wpAny_pure ?_)
   refine wpAny_bind (wpAny_setEpoch_of ho hd hf ?_)
   refine wpAny_bind (wpAny_newObj_type (wpAny_pure ⟨_, rfl, "set_iterator", _, ⟨_, Heap.get?_push_size _ rfl, rfl⟩, aI.lookup, ?_⟩))
   have EJ : ∀ u : Obj, ∀ b ∈ [s.heap.objs.size, a], b < (s.heap.push u).objs.size := by
    intro u b hb
    rw [Heap.size_push]
    have : b = s.heap.objs.size \/ b = a := by simpa using hb
    rcases this with rfl | rfl
    . exact Nat.lt_succ_self _
    . exact Nat.lt_succ_of_lt pA
   have Ej : ∀ b ∈ [s.heap.objs.size, a], b = a \/ s.heap.objs.size <= b := by
    intro b hb
    have : b = s.heap.objs.size \/ b = a := by simpa using hb
    rcases this with rfl | rfl
    . exact .inr (Nat.le_refl _)
    . exact .inl rfl
   cases hb : w.params.followText "set-order" with
   | true =>
     exact h _ [s.heap.objs.size, a] _ _ _ s.drawn (fun b u e => Heap.get?_push_of_some _ e) (Nat.le_refl _) ⟨Heap.get?_push_size _ rfl, Heap.get?_push_of_some _ ho⟩ (EJ _) Ej (by simp) ((fY _ _).map _) (fun A hh => oA hh hb hd hf (Nat.ne_of_lt pA) 0)
   | false =>
     have yH : (!t.plain && decide (es.size > 1)) = false := by
      cases q : (!t.plain && decide (es.size > 1)) with
      | false => rfl
      | true => exact absurd (by rw [hb, q]; rfl) c2
     exact h _ [s.heap.objs.size, a] _ _ _ s.drawn (fun b u e => Heap.get?_push_of_some _ e) (Nat.le_refl _) ⟨⟨0, me hg, Heap.get?_push_size _ rfl⟩, Heap.get?_push_of_some _ ho⟩ (EJ _) Ej (by simp) (.refl _) (fun A hh => kE hh hb hd hf hg yH (by rw [hl, hb]; rfl) (Nat.ne_of_lt pA))
end
end L2
namespace L2
open PySem PySem.Spec PyProof.Rows
section
variable {prog : Program} {w : World} {A : Around} {R : Result -> Shared -> Prop} {it y : Addr} {fp wr : List Addr} {G : Array GenState -> Array GenState -> Prop} {n : Nat} {Pv : Nat -> Value -> Prop} {St : Nat -> Shared -> Prop}
theorem dq.congr {h : Heap} {a : Addr} {S S' : Int -> Bool} {n n' : Nat} (x : dq prog w h a S n) (e : ∀ k, S k = S' k) (en : n = n') : dq prog w h a S' n' := by
 have : S = S' := funext e
 subst this; subst en; exact x
theorem tY (W : WalksS prog w A.in1 it fp wr G n Pv St) (hy : y ∉ fp) (f : Nat -> Int) (hf : ∀ i v, Pv i v -> ∃ t, v = .int (f i) t) (hb : n + 1 < scanBound) :
 ∀ (k i : Nat) (s : Shared), n - i = k -> i <= n -> St i s -> dq prog w s.heap y (fun k' => (firstMet f i).any (· == k')) (firstMet f i).length ->
   (∀ s', Moved (y :: wr) G s s' -> dq prog w s'.heap y (fun k' => (firstMet f n).any (· == k')) (firstMet f n).length -> R (.ok (.ret .none)) s') ->
   codeAny (model prog w) A (.builtin "set.update.loop" ⟨[.ref y, .ref it], []⟩) R s := by
 have Fh : y ∉ wr := fun z => hy (W.sub _ z)
 intro k
 induction k with
 | zero =>
   intro i s ek li st hS fin
   obtain rfl : i = n := by omega
   refine codeAny_builtin PyProof.Rows.F.entry_set_update_loop ?_
   rw [Around.under_plainId PyProof.Rows.F.plain_set_update_loop _]
   show wpAny _ A.in1 (pyNext (.ref it) >>= _) _ _ s
   refine wpAny_bind (W.done s _ _ st fun s1 m1 => ?_)
   show wpAny _ A.in1 (ret Value.none) _ _ s1
   exact wpAny_pure (fin s1 (m1.mono fun b z => List.mem_cons_of_mem _ z) (hS.at fun o e => m1.heap y _ Fh e))
 | succ k ih =>
   intro i s ek li st hS fin
   have sN : i < n := by omega
   refine codeAny_builtin PyProof.Rows.F.entry_set_update_loop ?_
   rw [Around.under_plainId PyProof.Rows.F.plain_set_update_loop _]
   show wpAny _ A.in1 (pyNext (.ref it) >>= _) _ _ s
   refine wpAny_bind (W.item i s _ _ sN st fun v s1 hv GZ m1 => ?_)
   obtain ⟨t, rfl⟩ := hf i v hv
   have FP := hS.at (h' := s1.heap) fun o e => m1.heap y _ Fh e
   show wpAny _ A.in1 (holding [Value.int (f i) t] (setAdd y (.int (f i) t)) >>= _) _ _ s1
   refine wpAny_bind (wpAny_holding ?_)
   unfold setAdd
   refine wpAny_holding (wpAny_bind ((intKind prog w).pyHash (k := f i) (intKind_is _ _ _ _) ?_))
   have hle := firstMet_length_le f i
   refine Af (s := { s1 with toks := s1.toks + 1 }) (intKind_is _ _ _ _) rfl FP (by omega) fun h2 sb Hg => ?_
   have HH : dq prog w h2 y (fun k' => (firstMet f (i + 1)).any (· == k')) (firstMet f (i + 1)).length := Hg.congr (fun k' => by rw [firstMet_succ, step_any]) (by rw [firstMet_succ, step_length])
   refine wpAny_pure ⟨plainId_quiet PyProof.Rows.F.plain_set_update_loop _, ih (i + 1) _ (by omega) sN (W.frame _ s1 _ _ GZ (Nat.le_succ _) fun b z o e => ?_) HH fun s3 m3 G5 => ?_⟩
   . rw [sb.2 b (fun z' : b = y => hy (z' ▸ z))]; exact e
   . refine fin s3 (Moved.trans W.gtrans ((m1.mono fun b z => List.mem_cons_of_mem _ z).then_heap (Nat.le_succ _) fun b o z e => ?_) m3) G5
     rw [sb.2 b (fun z' : b = y => z (z' ▸ List.mem_cons_self))]; exact e
end
section
variable {prog : Program} {w : World} {A : Around} {E : Value -> Shared -> Prop} {s : Shared}
theorem jZ (a : Value) {Q : Value -> Shared -> Prop} (h : Q (.ref s.heap.objs.size) { s with heap := s.heap.push { cls := .type "set", dict := none, data := .set #[] 0 (.fresh 0 0 (!w.params.followText "set-order")) } }) :
 codeAny (model prog w) A (.call (.builtin "set.__new__") ⟨[.type "set", a], []⟩) (wants Q E) s := by
 refine codeAny_of_tree ?_
 show wpAny _ A.in1 (do checkBuiltinCall "set.__new__" ⟨[.type "set", a], []⟩; again (.builtin "set.__new__" ⟨[.type "set", a], []⟩)) _ _ s
 refine wpAny_bind (wpAny_of_eq (PySem.F.newCall_set_1 a) (wpAny_pure ⟨plainId_quiet PySem.F.plain_set_new _, codeAny_builtin PySem.F.entry_set_new ?_⟩))
 rw [Around.under_plainId PySem.F.plain_set_new _]
 unfold Builtin.«set.__new__» Builtin.Frozenset.newClass
 have Ct := sub_set_self
 obtain ⟨hp, g, d, tk, os⟩ := s
 dsimp only
 wp_walk
 refine wpAny_askSetting (wpAny_pure ?_)
 dsimp only
 simp only [newObj]
 exact wpAny_bind (wpAny_alloc (wpAny_pure (wpAny_pure h)))
theorem uz {h : Heap} {a : Addr} (e : h.get? a = some { cls := .type "set", dict := none, data := .set #[] 0 (.fresh 0 0 (!w.params.followText "set-order")) }) : dq prog w h a (fun _ => false) 0 :=
 ⟨_, #[], 0, _, e, ⟨rfl, rfl, rfl⟩, rfl, fun e he => by simp at he, fun k => by simp, by decide, by rfl, rfl, ⟨fun i j hi => by simp [SetTable.fresh] at hi, rfl⟩, rfl⟩
set_option maxRecDepth 100000 in
set_option maxHeartbeats 3200000 in
theorem iK {l : Addr} {au : Array Value} {ns : List Int} {Q : Value -> Shared -> Prop} (hh : A.handled = none) (hl : s.heap.IsList l au) (hi : IntsAre au.toList ns) (hb : au.size + 1 < scanBound)
 (fin : ∀ (h1 : Heap) (tk : Nat), dq prog w h1 s.heap.objs.size (fun k' => (firstMet (fun i => ns.getD i 0) au.size).any (· == k')) (firstMet (fun i => ns.getD i 0) au.size).length -> (∀ b o, b < s.heap.objs.size -> s.heap.get? b = some o -> h1.get? b = some o) -> Q (.ref s.heap.objs.size) { s with heap := h1, toks := tk }) :
 wpAny (model prog w) A (call (.type "set") [.ref l]) Q E s := by
 obtain ⟨c, tl, Gw⟩ := PySem.F.called_set.mro
 have EW := PySem.F.called_set.made
 have Ct := PySem.F.called_set.sub
 refine wpAny_call (codeAny_of_tree ?_)
 show wpAny _ _ (callAny (.type "set") _) _ _ _
 refine wpAny_pure ⟨Code.quiet_builtin _ (by decide +kernel), codeAny_builtin PySem.F.entry_type_call ?_⟩
 rw [Around.under_plain (weight_type_call_type "set" [.ref l] []) rfl]
 have n1 := PySem.F.called_set.notType
 have n2 := PySem.F.called_set.canCreate
 have n3 := PySem.F.typeCall_set_1 (.ref l)
 repeat (any_goals (first | assumption | wp_step))
 let ob : Obj := { cls := .type "set", dict := none, data := .set #[] 0 (.fresh 0 0 (!w.params.followText "set-order")) }
 refine codeAny_mono (jZ (.ref l) (E := E) (Q := fun u s1 => u = .ref s.heap.objs.size /\ s1 = { s with heap := s.heap.push ob }) ⟨rfl, rfl⟩) fun r s1 hr => ?_
 cases r with
 | error e => exact hr
 | ok fl =>
   cases fl with
   | ret u =>
     obtain ⟨rfl, rfl⟩ := hr
     have h0 : (s.heap.push ob).get? s.heap.objs.size = some ob := Heap.get?_push_size _ rfl
     have hT : Shared.TypeIs { s with heap := s.heap.push ob } (.ref s.heap.objs.size) "set" := ⟨_, h0, rfl⟩
     have g1 := PySem.F.called_set.init.lookup
     have g2 := PySem.F.called_set.init.bind (.ref s.heap.objs.size)
     repeat (any_goals (first | assumption | wp_step))
     refine codeAny_mono (codeAny_call_builtin (R := wants (fun r s2 => r = .none /\ ∃ h1 tk, s2 = { s with heap := h1, toks := tk } /\ dq prog w h1 s.heap.objs.size (fun k' => (firstMet (fun i => ns.getD i 0) au.size).any (· == k')) (firstMet (fun i => ns.getD i 0) au.size).length /\
      (∀ b o, b < s.heap.objs.size -> s.heap.get? b = some o -> h1.get? b = some o)) E) PySem.F.called_set.init.plain PySem.F.entry_set_init (check_set_init_1 hT ?_)) fun r2 s2 CA => ?_
     . obtain ⟨ol, E4, gH, nl, Fn⟩ := hl
       obtain ⟨Hu, zT, Fd, wC⟩ := ol
       simp only at gH Fn
       subst gH; subst Fn
       have k1 : (s.heap.push ob).get? l = some { cls := .type "list", dict := zT, data := .seq au nl, slots := wC } := Heap.get?_push_of_some _ E4
       have k2 := PySem.F.sub_list_set
       have k3 := PySem.F.sub_list_frozenset
       have k4 : (Value.type "list" == Value.type "dict") = false := by decide
       have vA : (s.heap.push ob).IsList l au := ⟨_, k1, rfl, nl, rfl⟩
       unfold Builtin.«set.__init__» noKeywords Builtin.Frozenset.updateFrom
       generalize Gs : pyIter = PI
       wp_walk
       subst Gs
       refine wpAny_pyIter_list vA (wpAny_bind (wpAny_runValue ?_))
       have ll : l < s.heap.objs.size := Heap.lt_size E4
       have sz : (s.heap.push ob).objs.size = s.heap.objs.size + 1 := Heap.size_push ..
       have Hc : A.in1.in1.in1.handled = none := by simp [hh]
       have c1 : l ≠ (s.heap.push ob).objs.size := by rw [sz]; exact Nat.ne_of_lt (Nat.lt_succ_of_lt ll)
       have c2 : s.heap.objs.size ∉ [(s.heap.push ob).objs.size, l] := by
        rw [sz]
        intro z
        simp only [List.mem_cons, List.not_mem_nil, or_false] at z
        rcases z with z | z
        . exact absurd z (Nat.ne_of_lt (Nat.lt_succ_self _))
        . exact absurd z.symm (Nat.ne_of_lt ll)
       have c3 : ∀ (i : Nat) (v : Value), au[i]? = some v -> ∃ t, v = .int ((fun i => ns.getD i 0) i) t := fun i v hv => IntsAre.int_at hi i v (by simpa using hv)
       refine tY ((Walks.list Hc _ l c1 au).toS) c2 (fun i => ns.getD i 0) c3 hb (au.size - 0) 0 _ (by omega) (Nat.zero_le _) ⟨⟨_, Heap.get?_push_size _ rfl, rfl, rfl⟩, (vA.push _)⟩ ?_ ?_
       . have kg : ((s.heap.push ob).push { cls := .type "list_iterator", data := .fields #[.ref l, .int 0 0] }).get? s.heap.objs.size = some ob := Heap.get?_push_of_some _ h0
         exact (uz kg).congr (fun _ => rfl) rfl
       . intro s3 hm hS
         obtain ⟨h3, g3, d3, G4, FK⟩ := s3
         have eg : g3 = s.gens := hm.gens
         have ed : d3 = s.drawn := hm.drawn
         have eo : FK = s.os := hm.os
         subst eg; subst ed; subst eo
         show wpAny _ _ _ _ _ _
         refine wpAny_pure ?_
         show wpAny _ _ (ret Value.none) _ _ _
         refine wpAny_pure ⟨rfl, h3, G4, rfl, hS, fun b o lb e => ?_⟩
         refine hm.heap b o ?_ (Heap.get?_push_of_some _ (Heap.get?_push_of_some _ e))
         intro z
         simp only [List.mem_cons, List.not_mem_nil, or_false] at z
         rw [sz] at z
         rcases z with z | z
         . exact absurd z (Nat.ne_of_lt lb)
         . exact absurd z (Nat.ne_of_lt (Nat.lt_succ_of_lt lb))
     . cases r2 with
       | error e => exact CA
       | ok f2 =>
         cases f2 with
         | ret r =>
           obtain ⟨rfl, h1, tk, rfl, hS, hk⟩ := CA
           repeat (any_goals (first | assumption | wp_step))
           exact fin _ _ hS hk
         | _ => exact CA.elim
   | _ => exact hr.elim
end
section
variable {prog : Program} {w : World} {A : Around} {E : Value -> Shared -> Prop} {s : Shared} {a : Addr} {S : Int -> Bool} {n : Nat}
theorem pe {ord : List Value} {acc : Array Value} {n : Nat} (hl : ord.length = n) (h : ItemsOf (fun i v => ord[i]? = some v) acc n) : acc.toList = ord := by
 obtain ⟨h0, h1⟩ := h
 refine List.ext_getElem? fun i => ?_
 rw [Array.getElem?_toList]
 by_cases hi : i < acc.size
 . rw [Array.getElem?_eq_getElem hi]
   exact (h1 i _ (Array.getElem?_eq_getElem hi)).symm
 . rw [Array.getElem?_eq_none (by omega), List.getElem?_eq_none (by omega)]
theorem kR {Q : List Value -> Shared -> Prop} (hh : A.handled = none) (hS : dq prog w s.heap a S n)
 (h : ∀ (h' : Heap) (d : Drawn) (tk : Nat) (vs : List Value), (∀ b u, s.heap.get? b = some u -> h'.get? b = some u) -> (∃ es ep t o, s.heap.get? a = some o /\ o.data = .set es ep t /\ vs.Perm (es.toList.map (·.2))) -> vs.length = n -> s.heap.objs.size < h'.objs.size -> Q vs { s with heap := h', drawn := d, toks := tk }) : wpAny (model prog w) A (collect (.ref a)) Q E s := by
 obtain ⟨o, es, ep, t, ho, hx, hd, h1, h2, h3, h4, h5, h6, h7⟩ := hS
 have pA : a < s.heap.objs.size := Heap.lt_size ho
 unfold collect
 refine wpAny_bind (wpAny_runValue (codeAny_builtin entry_proto_collect' ?_))
 show wpAny _ _ (do again (.builtin "list.__iadd__" ⟨[<- newList [], .ref a], []⟩)) _ _ s
 refine wpAny_bind (wpAny_newList (wpAny_pure ⟨Code.quiet_builtin _ (by decide +kernel), codeAny_builtin entry_list_iadd' ?_⟩))
 show wpAny _ _ (Builtin.List.listExtendWith (.ref s.heap.objs.size) (.ref a) (.ref s.heap.objs.size)) _ _ { s with heap := s.heap.push (seqObj "list" #[] 0) }
 unfold Builtin.List.listExtendWith
 have Dg : (s.heap.push (seqObj "list" #[] 0)).get? a = some o := Heap.get?_push_of_some _ ho
 have Hq : (s.heap.push (seqObj "list" #[] 0)).get? s.heap.objs.size = some (seqObj "list" #[] 0) := Heap.get?_push_size _ rfl
 refine wpAny_bind (wpAny_typeOf (T := "set") ⟨o, Dg, hx.1⟩ ?_)
 have a1 : Builtin.List.listSameRef (.ref s.heap.objs.size) (.ref a) = false := by simp [Builtin.List.listSameRef, Ne.symm (Nat.ne_of_lt pA)]
 have a2 : (Value.type "set" == Value.type "list") = false := by decide
 have a3 : (Value.type "set" == Value.type "tuple") = false := by decide
 simp only [a1, a2, a3, Bool.or_self, Bool.false_eq_true, if_false]
 refine wpAny_bind (qV (s := { s with heap := s.heap.push (seqObj "list" #[] 0) }) Dg hx hd h4 h6 h7 h3 fun it fp St ord pK d kp lit st fl fn Ds fD W => ?_)
 refine wpAny_bind (wpAny_holding ?_)
 have Cg : Shared.TypeIs { s with heap := pK, drawn := d } (.ref a) "set" := ⟨o, kp a o Dg, hx.1⟩
 unfold Builtin.List.listLengthHint
 refine wpAny_bind (wpAny_specialOf Cg F.slot_set_len.lookup ?_)
 generalize Ez : ("set.__len__" : String) = G8
 wp_delta
 rw [show splitId G8 = some ("set", "__len__") from by subst Ez; decide +kernel]
 subst Ez
 refine wpAny_bind (wpAny_isInstance (T := "set") (b := true) Cg (by rw [isSubtype_type]; kernel_rfl) ?_)
 refine wpAny_ite_split (fun za => absurd za (by decide)) (fun _ => ?_)
 refine wpAny_ite_split (fun _ => ?_) (fun za => absurd (by decide +kernel) za)
 refine wpAny_bind (wpAny_typeOf Cg (wpAny_pure ?_))
 show wpAny _ _ (rule "list.extend.makes-room" >>= fun _ => Builtin.List.listTouch (.ref s.heap.objs.size) >>= fun _ =>
  again (.builtin "list.extend.loop" ⟨[.ref s.heap.objs.size, .ref it, .ref s.heap.objs.size], []⟩)) _ _ _
 refine wpAny_bind (wpAny_rule (wpAny_bind ?_))
 have Bf := kp _ _ Hq
 show wpAny _ _ (updateSeq s.heap.objs.size (·.push .none) >>= fun _ => updateSeq s.heap.objs.size (·.pop)) _ _ _
 refine wpAny_bind (wpAny_updateSeq Bf rfl ?_)
 have E9 := Heap.get?_update_self (Obj.mapSeq (·.push Value.none)) Bf rfl
 refine wpAny_updateSeq (hz := by seq_fits) E9 rfl ?_
 have F9 := Heap.get?_update_self (Obj.mapSeq (·.pop)) E9 rfl
 have ot : ∀ b u, b ≠ s.heap.objs.size -> pK.get? b = some u -> ((pK.update s.heap.objs.size (Obj.mapSeq (·.push Value.none))).update s.heap.objs.size (Obj.mapSeq (·.pop))).get? b = some u :=
  fun b u hb e => (Heap.get?_update_other _ _ (Ne.symm hb)).trans ((Heap.get?_update_other _ _ (Ne.symm hb)).trans e)
 have xo : ord.length = es.size := by rw [fD.length_eq, List.length_map, Array.length_toList]
 have W1 := W A.in1 hh
 have BO : s.heap.objs.size ∉ fp := fun z => by
  rcases fn _ z with e | e
  . exact absurd e.symm (Nat.ne_of_lt pA)
  . have : s.heap.objs.size + 1 <= s.heap.objs.size := by rw [<- size_push' s.heap (seqObj "list" #[] 0)]; exact e
    exact absurd this (Nat.not_succ_le_self _)
 have D6 : s.heap.objs.size ≠ it := fun z => BO (z ▸ Ds)
 refine wpAny_pure ⟨plainId_quiet F.plain_extend_loop _, codeAny_extend_loopS W1.toS (fits_of_scanBound h3) _ BO _ es.size 0 _ _ _ rfl (Nat.zero_le _) (W1.frame 0 _ _ st fun b hb u e => ot b u (fun z => BO (z ▸ hb)) e) F9 (ItemsOf.nil _) fun s' acc c hm hs dj => ?_⟩
 show wpAny _ _ (load s.heap.objs.size >>= _) _ _ s'
 refine wpAny_bind (wpAny_load hs (wpAny_pure ?_))
 have ea := pe xo dj
 obtain ⟨h9, g9, d9, Gu, FN⟩ := s'
 have eg : g9 = s.gens := hm.gens
 have ed : d9 = d := hm.drawn
 have eo : FN = s.os := hm.os
 subst eg; subst ed; subst eo
 rw [ea]
 refine h h9 d9 Gu ord (fun b u e => ?_) ⟨es, ep, t, o, ho, hd, fD⟩ (xo.trans h5) (Heap.lt_size hs)
 have hb : b ≠ s.heap.objs.size := Nat.ne_of_lt (Heap.lt_size e)
 have Cj : s.heap.objs.size + 1 <= it := by rw [<- size_push' s.heap (seqObj "list" #[] 0)]; exact lit
 have HD : b ≠ it := Nat.ne_of_lt (Nat.lt_of_lt_of_le (Nat.lt_succ_of_lt (Heap.lt_size e)) Cj)
 exact hm.heap b u (by simp [hb, HD]) (ot b u hb (kp b u (Heap.get?_push_of_some _ e)))
theorem qk {h : Heap} (hS : dq prog w h a S n) {es : Array (Int × Value)} {ep : Nat} {t : SetTable} {o : Obj} {vs : List Value} (ho : h.get? a = some o) (hd : o.data = .set es ep t) (hp : vs.Perm (es.toList.map (·.2))) :
 ∃ ms, IntsAre vs ms /\ ∀ k, S k = true ↔ k ∈ ms := by
 obtain ⟨o2, Ic, Ig, t2, EG, hx, hd2, h1, h2, _⟩ := hS
 rw [ho] at EG
 cases EG
 rw [hd] at hd2
 cases hd2
 have key : ∀ l : List Value, (∀ v ∈ l, ∃ k t, v = Value.int k t) -> ∃ ms, IntsAre l ms /\ ∀ k, k ∈ ms ↔ ∃ v ∈ l, (intKind prog w).is k v = true := by
  intro l
  induction l with
  | nil => intro _; exact ⟨[], .nil, fun k => by simp⟩
  | cons v r ih =>
    intro hv
    obtain ⟨ms, hI, hm⟩ := ih fun u hu => hv u (List.mem_cons_of_mem _ hu)
    obtain ⟨k, tk, rfl⟩ := hv v List.mem_cons_self
    refine ⟨k :: ms, .cons k tk hI, fun j => ?_⟩
    rw [List.mem_cons, hm j]
    constructor
    . rintro (rfl | ⟨u, hu, e⟩)
      . exact ⟨_, List.mem_cons_self, intKind_is _ _ _ _⟩
      . exact ⟨u, List.mem_cons_of_mem _ hu, e⟩
    . rintro ⟨u, hu, e⟩
      rcases List.mem_cons.mp hu with rfl | hu
      . exact .inl ((intKind prog w).inj _ j k e (intKind_is _ _ _ _))
      . exact .inr ⟨u, hu, e⟩
 have hv : ∀ v ∈ vs, ∃ k t, v = Value.int k t := by
  intro v hv
  obtain ⟨e, he, rfl⟩ := List.mem_map.mp (hp.mem_iff.mp hv)
  obtain ⟨⟨k, hk, _⟩, _⟩ := h1 e he
  exact ⟨k, Value.isInt_shape hk⟩
 obtain ⟨ms, hI, hm⟩ := key vs hv
 refine ⟨ms, hI, fun k => ?_⟩
 rw [h2 k, hm k]
 constructor
 . rintro ⟨e, he, q⟩
   exact ⟨e.2, hp.mem_iff.mpr (List.mem_map.mpr ⟨e, he, rfl⟩), q⟩
 . rintro ⟨v, hv, q⟩
   obtain ⟨e, he, rfl⟩ := List.mem_map.mp (hp.mem_iff.mp hv)
   exact ⟨e, he, q⟩
theorem mL {Q : Value -> Shared -> Prop} (hh : A.handled = none) (hS : dq prog w s.heap a S n) (m6 : n < 64)
 (h : ∀ (q : Addr) (h' : Heap) (d : Drawn) (tk e : Nat) (us : List Value) (ns : List Int), s.heap.objs.size <= q -> (∀ b u, s.heap.get? b = some u -> h'.get? b = some u) -> h'.get? q = some { cls := .type "list", data := .seq us.toArray e } -> IntsAre us ns -> ns.length = n -> ns.Pairwise (· <= ·) -> (∀ k, S k = true ↔ k ∈ ns) -> Q (.ref q) { s with heap := h', drawn := d, toks := tk }) :
 wpAny (model prog w) A (call (.builtin "sorted") [.ref a]) Q E s := by
 refine Calls.call_function_entry kind_sorted plain_sorted entry_sorted (args_sorted1 _) ?_
 unfold Builtin.«sorted»
 refine wpAny_bind (m := checkCount "sorted" 1 1 _) (wpAny_pure ?_)
 refine wpAny_bind (kR (A := A.in1) hh hS fun h1 d tk vs kp ⟨es, ep, t, o, ho, hd, hp⟩ hn bZ => ?_)
 obtain ⟨ms, hI, hm⟩ := qk hS ho hd hp
 refine wpAny_bind (wpAny_newList ?_ (hsz := by rw [hn, sizeLine_eq]; omega))
 have mK : (h1.push (seqObj "list" vs.toArray 0)).get? h1.objs.size = some (seqObj "list" vs.toArray 0) := Heap.get?_push_size _ rfl
 refine wpAny_bind (wpAny_holding (wpAny_call_entry slot_list_sort ⟨_, mK, rfl⟩ entry_list_sort (list_sort_tree mK hI (by rw [hn]; exact m6) fun out Ht a1 a2 a3 => ⟨_, rfl, ?_⟩) (args_list_sort _)))
 obtain ⟨e, he⟩ := sortedHeap_at (out := out) mK
 have hle : ∀ b u, s.heap.get? b = some u -> b < h1.objs.size := fun b u q => Heap.lt_size (kp b u q)
 refine wpAny_pure ⟨_, rfl, h h1.objs.size _ d tk e out.toList Ht ?_ (fun b u q => ?_) (by simpa [seqObj] using he) a1 ?_ a3 fun k => ?_⟩
 . exact Nat.le_of_lt bZ
 . rw [sortedHeap_old (Nat.ne_of_lt (hle b u q)) (by rw [size_push']; exact Nat.lt_succ_of_lt (hle b u q))]
   exact Heap.get?_push_of_some _ (kp b u q)
 . rw [a2.length_eq, <- IntsAre.length hI, hn]
 . rw [hm k, a2.mem_iff]
end
end L2
namespace L2
open PySem PySem.Spec PyProof.Rows PySem.W
theorem iu {α : Type} [BEq α] [LawfulBEq α] : ∀ {xs ys : List α}, xs.Nodup -> (∀ x ∈ xs, x ∈ ys) -> xs.length = ys.length -> ys.Perm xs
 | [], ys, _, _, hl => by
   have : ys = [] := List.length_eq_zero_iff.mp hl.symm
   subst this; exact .nil
 | x :: xs, ys, hn, hs, hl => by
   have hx : x ∈ ys := hs x List.mem_cons_self
   have p1 : ys.Perm (x :: ys.erase x) := List.perm_cons_erase hx
   have yN := List.nodup_cons.mp hn
   have Ef : xs.length = (ys.erase x).length := by have := p1.length_eq; simp at hl this; omega
   refine p1.trans (List.Perm.cons x (iu yN.2 (fun y hy => ?_) Ef))
   have jo : y ≠ x := fun e => yN.1 (e ▸ hy)
   exact (List.mem_erase_of_ne jo).mpr (hs y (List.mem_cons_of_mem _ hy))
theorem tF {σ : List Int} {v : Int} (h : σ.Nodup) : (step_dedup σ v).Nodup := by
 unfold step_dedup
 split
 . exact h
 . rename_i c
   rw [List.nodup_append]
   refine ⟨h, by simp, fun a ha b hb => ?_⟩
   have : b = v := by simpa using hb
   subst this
   intro e
   subst e
   exact c (by rw [List.any_eq_true]; exact ⟨a, ha, by simp⟩)
theorem ef (f : Nat -> Int) : ∀ i, (firstMet f i).Nodup
 | 0 => by rw [firstMet_zero]; exact List.nodup_nil
 | i + 1 => by rw [firstMet_succ]; exact tF (ef f i)
theorem map_getD (ns : List Int) : (List.range ns.length).map (fun i => ns.getD i 0) = ns := by
 refine List.ext_getElem (by simp) fun i h1 h2 => ?_
 simp [h2]
theorem pD {ms : List Int} (h : ms.Pairwise (· <= ·)) (n : ms.Nodup) : ms.Pairwise (· < ·) := by
 rw [List.nodup_iff_pairwise_ne] at n
 exact (h.and n).imp fun ⟨a, b⟩ => by omega
theorem Inv.drew {X : Cx} {pins : List (Addr × Obj)} {σ : St} {H : Hp} {s : Shared} (I : Inv X pins σ H s) (d : Drawn) : Inv X pins σ H { s with drawn := d } :=
 I.call (g' := s.gens) (t' := s.toks) (d' := d) (ch := []) (h' := s.heap) Un.refl I.aL I.bare (fun _ z => nomatch z)
section
variable {X : Cx} {e : Expr} {te : TE} {p p2 pos gY : Pos}
def hJ : V -> Hp -> VK -> Prop := fun x H Q => ∃ ns : List Int, Dv H x (.list (ns.map PyData.int)) /\ ns.length < 64 /\ ∀ (q : Addr) (H' : Hp) (ms : List Int), ai H H' -> H q = none -> ms.Pairwise (· < ·) -> (∀ k, k ∈ ms ↔ k ∈ ns) -> bJ H' q (ms.map PyData.int) -> Q (.ref q) H'
def kT (te : TE) : TE := fun σ H Q => te σ H fun x H1 => hJ x H1 Q
theorem km {H : Hp} : ∀ (ns : List Int), a9 H (ns.map V.int) (ns.map PyData.int)
 | [] => .nil
 | x :: r => .cons (.int x) (km r)
theorem lO (he : PE X e te) (hc : X.calm = true) (hg : Gl X "sorted") (hm : X.mg "sorted" = none) (D2 : Gl X "set") (CP : X.mg "set" = none)
 (h1 : starEach [e] X.env = (false, eval e X.env) :: starEach [] X.env := by rfl)
 (h2 : starEach [.Call (.Name "set" p2) [e] [] gY] X.env = (false, eval (.Call (.Name "set" p2) [e] [] gY) X.env) :: starEach [] X.env := by rfl) :
 PE X (.Call (.Name "sorted" p) [.Call (.Name "set" p2) [e] [] gY] [] pos) (kT te) := by
 intro pins s σ H Q I h
 refine wpAny_Call_Name_kw (cN I hg hm (by rfl) ?_ (by decide) (by decide))
 refine PyProof.Rows.callWith_builtin1 ?_ h2 rfl
 rw [h2]
 show wpAny _ _ (spliced ((false, eval (.Call (.Name "set" p2) [e] [] gY) X.env) :: backTo pos (starEach [] X.env))) _ _ s
 refine Calls.spliced_cons (wpAny_Call_Name_kw (cN I D2 CP (by rfl) ?_ (by decide) (by decide)))
 refine PyProof.Rows.callWith_type1 ?_ h1 rfl
 rw [h1]
 show wpAny _ _ (spliced ((false, eval e X.env) :: backTo gY (starEach [] X.env))) _ _ s
 refine Calls.spliced_cons (bu (he pins s σ H _ I h) fun u s1 ⟨x, H1, I1, r1, q1⟩ => ?_)
 refine Calls.spliced_nil ?_
 obtain ⟨ns, hd, hl, q⟩ := q1
 obtain ⟨a, ys, rfl, e, dv⟩ := hd.lst_inv
 obtain ⟨au, vx, pl, _⟩ := I1.list (e X.K)
 cases r1
 have hS := fu dv vx
 have hlen : au.length = ns.length := by rw [<- vx.length, dv.length, List.length_map]
 refine iK (I1.ok.hd hc) pl.isList (by simpa using hS) (by rw [List.size_toArray, hlen]; unfold scanBound; omega) fun h3 tk A8 hk => ?_
 refine Calls.spliced_nil ?_
 have HC : ∀ b u, s1.heap.get? b = some u -> h3.get? b = some u := fun b ob q => hk b ob (Heap.lt_size q) q
 have hle := firstMet_length_le (fun i => ns.getD i 0) au.toArray.size
 refine mL (I1.ok.hd hc) A8 (by rw [List.size_toArray, hlen] at hle; rw [List.size_toArray, hlen]; omega) fun qa h4 d EL ep us ms hq kp DT hI AV FO ml => ?_
 have xE : s1.heap.objs.size <= qa := by
  rcases Nat.lt_or_ge qa s1.heap.objs.size with z | z
  . have : s1.heap.objs.size < h3.objs.size := by
     obtain ⟨o, _, _, _, ho, _⟩ := A8
     exact Heap.lt_size ho
    exact absurd (Nat.lt_of_lt_of_le this hq) (Nat.not_lt.mpr (Nat.le_of_lt z))
  . exact z
 have Bx : H1 qa = none := I1.aL.fresh xE
 have hm : ∀ k, k ∈ ms ↔ k ∈ ns := fun k => by
  have z := ml k
  rw [firstMet_any, List.size_toArray, hlen, map_getD, List.any_eq_true] at z
  rw [<- z]
  exact ⟨fun ⟨y, hy, e⟩ => by rw [<- beq_iff_eq.mp e]; exact hy, fun hk => ⟨k, hk, by simp⟩⟩
 have qD : ms.Nodup := by
  refine (iu (ef _ _) (fun k hk => ?_) AV.symm).symm.nodup (ef _ _)
  exact (ml k).mp (by rw [List.any_eq_true]; exact ⟨k, hk, by simp⟩)
 have I2 : Inv X pins σ (upd H1 qa (.lst (ms.map V.int))) { s1 with heap := h4, toks := EL } := I1.laid (t' := EL) (fun b u e => kp b u (HC b u e)) xE ⟨by
  rw [List.length_map]
  have := firstMet_length_le (fun i => ns.getD i 0) au.toArray.size
  rw [AV, sizeLine_eq]
  rw [List.size_toArray, hlen] at this
  rw [List.size_toArray, hlen]
  omega, us, ep, gf hI, DT⟩
 exact ⟨.ref qa, _, I2.drew d, rfl, q qa _ ms (aY Bx) Bx (pD FO qD) hm (gN Bx (km ms) (cb (fun _ => rfl) _))⟩
end
section
variable {σ : St} {H : Hp} {Q : VK} {v : V}
theorem lr {te : TE} (h : te σ H fun x H1 => hJ x H1 Q) : kT te σ H Q := h
theorem nW {ns : List Int} (hp : Dv H v (.list (ns.map PyData.int))) (hl : ns.length < 64) (h : ∀ (q : Addr) (H' : Hp) (ms : List Int), ai H H' -> H q = none -> ms.Pairwise (· < ·) -> (∀ k, k ∈ ms ↔ k ∈ ns) -> bJ H' q (ms.map PyData.int) -> Q (.ref q) H') : hJ v H Q := ⟨ns, hp, hl, h⟩
end
section
variable {X : Cx}
end
section
variable {σ : St} {H : Hp} {Q : VK} {K : PySem.W.Frag} {p : Addr} {m : List (Str × PyData)}
end
def Tr (h : Heap) (a T : Addr) (c : Value) : Prop := ∃ oe vs oT ts, h.get? a = some oe /\ oe.cls = c /\ oe.dict = none /\ oe.data = .fields vs /\ vs[1]? = some (.ref T) /\ T ≠ a /\ h.get? T = some oT /\ oT.data = .fields ts /\ ts[3]? = some .none /\ vs[2]? = some .none
structure Lv (l : List Env) (S : List Addr) (h h' : Heap) : Prop where
 keep : ∀ b o, b ∉ k6 l -> b ∉ S -> h.get? b = some o -> h'.get? b = some o
 slot : ∀ b o, b ∈ k6 l -> h.get? b = some o -> ∃ sl, h'.get? b = some { o with slots := sl }
section
variable {M : Model} {A : Around} {E : Value -> Shared -> Prop} {s : Shared} {env : Env} {outer : List Env} {L a T : Addr} {c : Value} {base : Heap} {Q : Unit -> Shared -> Prop}
end
def Fy (P : Program) (w : World) : kG := fun outer H s E e s' => ∃ a T C H', e = .ref a /\ s'.os = s.os /\ AllBare s'.gens /\ Un (k6 outer) [] H H' s.heap s'.heap /\ fc P w H' s'.heap /\ Tr s'.heap a T (.ref C) /\ s.heap.get? a = none /\ s.heap.get? T = none /\ H' a = none /\ H' T = none /\ E (.ref C) none H'
section
variable {P : Program} {w : World} {K : PySem.W.Frag} {mg : Str -> Option Value} {base : Heap} {N : List Str} {qual : Str} {scope : Scope} {f : Addr} {cd : Value} {A : Around} {outer : List Env} {s0 : Shared} {H0 : Hp} {E : XK} {CX : kG} {pins : List (Addr × Obj)} {σ : St} {H : Hp} {s : Shared}
end
section
variable {K : PySem.W.Frag} {h : Heap} {C : Addr} {yI : List Value} {newId : String}
def vZ (h : Heap) (C : Addr) (yI : List Value) (newId : String) : Prop := ∃ (bm : List Value) (N : Addr) (nm q : Str) (bs : List Value) (hd : Bool) (sn : List Str) (sub : List Value) (ab : Bool) (col : Option Bool) (dd : Option Addr) (k0 k1 k2 k3 k5 : Option Value) (mN : Str -> Option Value),
 h.get? C = some (excClassObj nm q C N bs bm hd sn sub ab col dd k0 k1 k2 k3 k5 newId) /\ h.Ns N mN /\ mN "__init__" = none /\ OwnTail h yI bm
theorem xu (X : K.In h) (q : excIn K C yI newId = true) : vZ h C yI newId := by
 unfold excIn at q
 split at q
 . rename_i dd cd sl ho
   split at q
   . rename_i C' bm k0 k1 k2 k3 n k5 hm hs
     simp only [Bool.and_eq_true, beq_iff_eq, Bool.not_eq_true'] at q
     obtain ⟨⟨⟨⟨⟨rfl, rfl⟩, zv⟩, ht⟩, aL⟩, Es⟩ := q
     obtain ⟨nm, bs, mro, ns, qn, hd, sn, sub, ab, col, del⟩ := cd
     dsimp only at hm zv aL Es
     subst hm zv
     obtain ⟨l⟩ := sl
     dsimp only at hs
     subst hs
     exact ⟨bm, ns, nm, qn, bs, hd, sn, sub, ab, col, dd, k0, k1, k2, k3, k5, _, X _ _ ho, .of_isNs (isNs_of_in X aL), nsMap_none_of_in X aL Es, tail_of_in X ht⟩
   . cases q
 . cases q
end
abbrev Dp : List Value := [.type "ValueError", .type "Exception", .type "BaseException", .type "object"]
def vV (K : PySem.W.Frag) (C : Addr) : Prop := excIn K C Dp "ValueError.__new__" = true
section
variable {X : Cx} {pins : List (Addr × Obj)} {σ : St} {H : Hp} {s : Shared}
abbrev Cx.hand (X : Cx) (a : Addr) : Cx := { X with A := X.A.mark (some (.ref a)), calm := false, xe := fun _ _ => False }
end
section
variable {M : Model} {A : Around} {E : Value -> Shared -> Prop}
end
structure HG (K : PySem.W.Frag) (C : Addr) : Prop where
 ga : PySem.W.findIn K (.ref C) "__getattribute__" = some (some (.builtin "BaseException.__getattribute__"))
 gn : PySem.W.findIn K (.ref C) "__getattr__" = some none
 mb : PySem.W.mroIn K C (.type "BaseException") = some true
 hd : PySem.W.hasDictIn K C = true
 ty : zg K C
section
variable {X : Cx}
end
section
variable {P : Program} {w : World} {K : PySem.W.Frag} {mg : Str -> Option Value} {base : Heap}
structure Hk (P : Program) (w : World) (K : PySem.W.Frag) (mg : Str -> Option Value) (base : Heap) (k : Nat) (f : Addr) (ps : List Str) (e7 : List V) (sp : Sp) : Prop where
 ex : ∃ (fd : FuncData) (ds : List Value), bQ P w K mg base (Fy P w) k f fd ps sp /\ Binds K fd ps ds /\ Vals e7 ds
end
section
variable {X : Cx} {k : Nat} {f : Addr} {ps : List Str} {sp : Sp} {e7 : List V} {E : XK} {x : Str} {p pos : Pos} {e : Expr} {es : List Expr} {t : TA}
end
section
variable {σ : St} {H : Hp} {Q : VK} {D : Ends} {K : PySem.W.Frag} {E : XK} {C : Addr} {ta : TA}
end
def bE (z : Str) (lo hi : Option Int) : Str := ⟨((Builtin.Str.strSliceIndices lo hi 1 z.length).filterMap (z.cps[·]?)).toArray⟩
def zR : V -> Option Int -> Option Int -> Hp -> VK -> Prop := fun x lo hi H Q => ∃ z : Str, x = .str z /\ z.length <= 4000 /\ Q (.str (bE z lo hi)) H
theorem t7 {lo hi : Option Int} {n : Nat} (h : (Builtin.Str.strSliceIndices lo hi 1 n).length = n) : Builtin.Str.strSliceIndices lo hi 1 n = List.range n := by
 have key : ∀ a b : Int, 0 <= a -> b <= n -> (sliceRange a b 1).length = n -> sliceRange a b 1 = List.range n := by
  intro a b ha hb hl
  unfold sliceRange at hl ⊢
  simp only [List.length_map, List.length_range, Int.ediv_one, show (1 : Int) > 0 by decide, if_true] at hl ⊢
  rw [hl]
  by_cases hn : n = 0
  . subst hn; rfl
  . have : a = 0 := by
     split at hl <;> omega
    subst this
    rw [show (fun k : Nat => ((0 : Int) + 1 * (k : Int)).toNat) = id from funext fun k => by simp, List.map_id]
 unfold Builtin.Str.strSliceIndices at h ⊢
 simp only [show (1 : Int) > 0 by decide, if_true] at h ⊢
 refine key _ _ ?_ ?_ h
 . cases lo <;> simp only [] <;> omega
 . cases hi <;> simp only [] <;> omega
theorem ib : ∀ (l : List Nat), (List.range l.length).filterMap (fun i => l[i]?) = l
 | [] => rfl
 | c :: r => by
   rw [List.length_cons, List.range_succ_eq_map, List.filterMap_cons]
   simp only [List.getElem?_cons_zero, List.filterMap_map]
   have : ((fun i => (c :: r)[i]?) ∘ Nat.succ) = fun i => r[i]? := funext fun i => by simp
   rw [this, ib r]
theorem oQ {z : Str} {lo hi : Option Int} (h : (Builtin.Str.strSliceIndices lo hi 1 z.length).length = z.length) : bE z lo hi = z := by
 unfold bE
 rw [t7 h]
 obtain ⟨⟨l⟩⟩ := z
 show (⟨((List.range l.length).filterMap fun i => (⟨l⟩ : Array Nat)[i]?).toArray⟩ : Str) = _
 have : (fun i => (⟨l⟩ : Array Nat)[i]?) = fun i => l[i]? := funext fun i => (Array.getElem?_toList (xs := ⟨l⟩)).symm
 rw [this, ib l]
section
variable {X : Cx}
theorem eF : C8 X zR := by
 intro pins s σ H x v vl vu lo hi sl Q I rx hs pl pu h
 obtain ⟨z, rfl, hz, q⟩ := h
 obtain ⟨t, rfl⟩ := rx
 obtain ⟨l, rfl, e1⟩ : ∃ l : Option (Int × Tok), vl = partValue l /\ l.map (·.1) = lo := by
  cases pl with
  | none => exact ⟨none, rfl, rfl⟩
  | int i t => exact ⟨some (i, t), rfl, rfl⟩
 obtain ⟨u, rfl, e2⟩ : ∃ u : Option (Int × Tok), vu = partValue u /\ u.map (·.1) = hi := by
  cases pu with
  | none => exact ⟨none, rfl, rfl⟩
  | int i t => exact ⟨some (i, t), rfl, rfl⟩
 refine ⟨"str", _, F.slot_str_getitem.lookup, typeIs_str _ _ _, ?_⟩
 refine wpAny_getItem_str_slice (l := l) (u := u) (st := none) hs rfl ?_
 have ep : slicePicked z l u none = Builtin.Str.strSliceIndices lo hi 1 z.length := by unfold slicePicked; rw [e1, e2]; rfl
 unfold sliceMade
 rw [ep]
 split
 . rename_i c
   rw [Bool.and_eq_true] at c
   have := oQ (z := z) (lo := lo) (hi := hi) (by simpa using c.2)
   rw [this] at q
   exact ⟨.str z, H, I, ⟨t, rfl⟩, q⟩
 . have hn : (List.filterMap (fun i => z.cps[i]?) (Builtin.Str.strSliceIndices lo hi 1 z.length)).length <= z.length := by
    refine Nat.le_trans (List.length_filterMap_le _ _) ?_
    exact mP _ _ _
   have hl : (Str.mk (List.filterMap (fun i => z.cps[i]?) (Builtin.Str.strSliceIndices lo hi 1 z.length)).toArray).length <= z.length := by
    show (List.filterMap (fun i => z.cps[i]?) (Builtin.Str.strSliceIndices lo hi 1 z.length)).toArray.size <= _
    rw [List.size_toArray]; exact hn
   exact ⟨Nat.le_trans hl (Nat.le_of_lt (dD hz)), .str _, H, I.tok _, ⟨_, rfl⟩, q⟩
end
section
variable {σ : St} {H : Hp} {Q : VK} {D : Ends} {K : PySem.W.Frag}
end
section
variable {X : Cx} {k : Nat} {f C : Addr} {ps : List Str} {sp : Sp} {e7 : List V} {E : XK} {x m : Str} {p pos apos : Pos} {e : Expr} {es : List Expr} {t : TA}
end
section
variable {prog : Program} {w : World} {A : Around} {E : Value -> Shared -> Prop} {s : Shared}
end
section
variable {σ : St} {H : Hp} {Q : VK} {D : Ends}
end
section
variable {X : Cx} {pins : List (Addr × Obj)} {σ : St} {H : Hp} {s : Shared} {h' : Heap}
theorem Inv.sT {t' : Nat} {i1 i2 : Addr} (I : Inv X pins σ H s) (k : ∀ b o, b ≠ i1 -> b ≠ i2 -> s.heap.get? b = some o -> h'.get? b = some o) (f1 : bL X pins H i1) (f2 : bL X pins H i2) : Inv X pins σ H { s with heap := h', toks := t' } := by
 have xB : ∀ b u, H b = some u -> b ≠ i1 /\ b ≠ i2 := fun b u e => ⟨fun z => (by rw [z, f1.1] at e; cases e), fun z => (by rw [z, f2.1] at e; cases e)⟩
 have nc : ∀ {b : Addr}, b ∉ [i1, i2] -> b ≠ i1 /\ b ≠ i2 := fun {b} h => by simpa using h
 refine I.step (g' := s.gens) (d' := s.drawn) (ch := [i1, i2]) (fun b hb => ?_) (fun b o _ _ hc e _ => k b o (nc hc).1 (nc hc).2 e) (fun b o _ _ hc e _ => ⟨o.slots, k b o (nc hc).1 (nc hc).2 e⟩) (fun _ _ _ _ n => n)
  (fun b o hc e => ⟨o, k b o (nc hc).1 (nc hc).2 e⟩) (fun _ _ e => e) (fun _ _ _ e => e) (fun b ps e => ⟨#[], by rw [e]; simp⟩) (fun m hm => ?_) (fun b u e => ?_) I.bare
 . have e : b = i1 \/ b = i2 := by simpa using hb
   rcases e with rfl | rfl
   . exact ⟨f1.2.2.2.1, f1.2.1, f1.2.2.2.2.1, f1.2.2.2.2.2⟩
   . exact ⟨f2.2.2.2.1, f2.2.1, f2.2.2.2.2.1, f2.2.2.2.2.2⟩
 . obtain ⟨o, es, ep, ho, r⟩ := hm
   exact ⟨o, es, ep, k _ o (Ne.symm f1.2.1) (Ne.symm f2.2.1) ho, r⟩
 . refine (I.aL b u e).jP (fun c v hc q => k c v ?_ ?_ q) (fun _ q => q) fun _ _ q => q
   . rcases hc with z | z
     . rw [z]; exact (xB b u e).1
     . exact (xB c _ z).1
   . rcases hc with z | z
     . rw [z]; exact (xB b u e).2
     . exact (xB c _ z).2
end
theorem dW : entryFor table "enumerate.__iter__" = some Builtin.«dict_keyiterator.__iter__» :=
 entryFor_alias (id' := "dict_keyiterator.__iter__") (by kernel_rfl) rfl (by decide +kernel) (by kernel_rfl)
def BA (K : PySem.W.Frag) (a : Addr) : It := ⟨fun i H => ∃ xs x, bF K H a xs /\ xs[i]? = some x, fun i H v H' => ∃ t x, (∀ xs, bF K H a xs -> xs[i]? = some x) /\ v = .ref t /\ H t = none /\ H' = upd H t (.tup [.int i, x]), fun i H => ∃ xs, bF K H a xs /\ xs.length <= i⟩
theorem oH {P : Program} {w : World} {K : PySem.W.Frag} {elts : List Expr} {x1} {pos : Pos} {e it a : Addr} (jo : e ≠ it) :
 Turn P w K (.Tuple elts x1 pos) (BA K a) [e, it] e (fun i h => (∃ old, IsEnum h e it (i : Nat) old) /\ h.IsListIter it a i) where
 mem := by simp
 obj := fun i h st b hb => by
  have e' : b = e \/ b = it := by simpa using hb
  obtain ⟨⟨old, q⟩, o, e1, c, d⟩ := st
  rcases e' with rfl | rfl
  . exact ⟨_, q, fun v z => by cases z⟩
  . exact ⟨o, e1, fun v z => by rw [d] at z; cases z⟩
 keep := fun i h h' st k => ⟨let ⟨old, q⟩ := st.1; ⟨old, k e (by simp) _ q⟩, st.2.at fun o q => k it (by simp) o q⟩
 item := by
  intro X hP hw hK hc i pins s σ H E I hf st hg
  subst hP hw hK
  have fe := hf e (by simp)
  have fi := hf it (by simp)
  obtain ⟨xs, x, hq, hx⟩ := hg
  obtain ⟨au, rv, p, hz⟩ := I.list hq
  obtain ⟨u, hu, ru⟩ := rv.get hx
  obtain ⟨⟨old, he⟩, hit⟩ := st
  have Hd : e < s.heap.objs.size := Heap.lt_size he
  have yd : it < s.heap.objs.size := by obtain ⟨o, ho, _⟩ := id hit; exact Heap.lt_size ho
  have hn : H s.heap.objs.size = none := I.aL.fresh (Nat.le_refl _)
  refine wpAny_pyNext_enum_item he hit p.isList (x := u) (by simpa using hu) jo fun h' vC Ck ht Il kk => ?_
  refine ⟨_, rfl, wpAny_letOwnedTupleGo_enum (s := { s with heap := h', toks := s.toks + 1 }) vC fun h2 Gy sb => ?_⟩
  replace sb : Heap.SameBut e h' h2 := sb
  let tb : Obj := { cls := .type "tuple", data := .seq #[.int i s.toks, u] }
  have I1 : Inv X pins σ (upd H s.heap.objs.size (.tup [.int i, x])) { s with heap := s.heap.push tb } :=
   I.laid (t' := s.toks) (fun b u e => Heap.get?_push_of_some _ e) (Nat.le_refl _) (show bx X.prog X.w _ _ _ (.tup [.int i, x]) from ⟨by rw [sizeLine_eq]; simp, [.int i s.toks, u], .cons ⟨_, rfl⟩ (.cons ru .nil), IsTup.new _ _⟩)
  have Au : upd H s.heap.objs.size (.tup [.int i, x]) e = none := by rw [aj (Nat.ne_of_lt Hd)]; exact fe.1
  have Aa : upd H s.heap.objs.size (.tup [.int i, x]) it = none := by rw [aj (Nat.ne_of_lt yd)]; exact fi.1
  have I2 : Inv X pins σ (upd H s.heap.objs.size (.tup [.int i, x])) { s with heap := h2, toks := s.toks + 1 } := by
   refine Inv.sT (s := { s with heap := s.heap.push tb }) (h' := h2) (t' := s.toks + 1) (i1 := e) (i2 := it) I1 (fun b u' AJ j4 q => ?_) ⟨Au, fe.2⟩ ⟨Aa, fi.2⟩
   by_cases BI : b = s.heap.objs.size
   . subst BI
     have e0 : (s.heap.push tb).get? s.heap.objs.size = some tb := Heap.get?_push_size _ rfl
     have e1 := e0.symm.trans q
     cases e1
     exact (sb.2 _ AJ).trans ht
   . exact (sb.2 _ AJ).trans (kk b u' AJ j4 (lH q BI))
  refine ⟨.ref s.heap.objs.size, _, I2, rfl, ⟨_, x, fun ys hy => by rw [I.kZ hy hq]; exact hx, rfl, hn, rfl⟩, ⟨⟨_, Gy⟩, Ck.at fun o q => (sb.2 it (Ne.symm jo)).trans q⟩, fun b hb => ?_⟩
  have e' : b = e \/ b = it := by simpa using hb
  rcases e' with rfl | rfl
  . exact Au
  . exact Aa
 done := by
  intro X hP hw hK hc i pins s σ H E I hf st hg
  subst hP hw hK
  obtain ⟨f0, f1, f2, f3, f4, f5⟩ := hf it (by simp)
  obtain ⟨xs, hq, hx⟩ := hg
  obtain ⟨au, rv, p, hz⟩ := I.list hq
  have hl := rv.length
  obtain ⟨⟨old, he⟩, hit⟩ := st
  exact wpAny_pyNext_enum_end (I.ok.hd hc) he hit p.isList (by simp; omega) fun h' eb => ⟨rfl, I.turned (t' := s.toks) (fun b o hb e => eb b o hb e) f0 f1 f3 f4 f5⟩
 self := fun A i s Q E st q => by
  obtain ⟨⟨old, he⟩, hit⟩ := st
  have hT : s.TypeIs (.ref e) "enumerate" := ⟨_, he, rfl⟩
  refine wpAny_pyIter_slot hT F.slot_enumerate_iter (wpAny_call_entry F.slot_enumerate_iter hT dW ?_ (F.args_enumerate_iter_1 _))
  show wpAny _ _ (ret (.ref e)) _ _ s
  exact wpAny_pure ⟨_, rfl, "enumerate", _, hT, F.slot_enumerate_next.lookup, q⟩
def vD (K : PySem.W.Frag) (ta : TA) : TI := fun σ H R => ta σ H fun vs H1 => ∃ a, vs = [.ref a] /\ (∃ xs, bF K H1 a xs) /\ R (BA K a) H1
theorem uG {X : Cx} {elts : List Expr} {x1} {wJ : Pos} {a : Expr} {ta : TA} {p pos : Pos} (hg : Gl X "enumerate") (hm : X.mg "enumerate" = none) (ha : PA X [a] ta) (hs : starEach [a] X.env = [(false, eval a X.env)] := by rfl) :
 PI X (.Tuple elts x1 wJ) (.Call (.Name "enumerate" p) [a] [] pos) (vD X.K ta) := by
 intro pins s σ H R I h
 refine Call_ (cN I hg hm boot_enumerate (PyProof.Rows.callWith_type1 (bu (ha pos pins s σ H _ I h) fun us s1 ⟨vs, H1, I1, r1, q1⟩ => ?_) hs rfl))
 obtain ⟨l, e, ⟨xs, hq⟩, q⟩ := q1
 subst e
 cases r1 with
 | cons r rr =>
   cases rr
   cases r
   obtain ⟨au, rv, p, hz⟩ := I1.list hq
   refine call_enumerate_list p.isList fun h' he hit hsz hk => ?_
   have hT : (⟨h', s1.gens, s1.drawn, s1.toks, s1.os⟩ : Shared).TypeIs (.ref (s1.heap.objs.size + 1)) "enumerate" := ⟨_, he, rfl⟩
   refine wpAny_pyIter_slot hT F.slot_enumerate_iter (wpAny_call_entry F.slot_enumerate_iter hT dW ?_ (F.args_enumerate_iter_1 _))
   show wpAny _ _ (ret (.ref (s1.heap.objs.size + 1))) _ _ _
   refine wpAny_pure ⟨_, rfl, "enumerate", _, hT, F.slot_enumerate_next.lookup, ?_⟩
   refine ⟨s1.heap.objs.size + 1, [s1.heap.objs.size + 1, s1.heap.objs.size], _, _, H1, rfl, I1.kept (t' := s1.toks) hk, oH (a := l) (Nat.succ_ne_self _), ⟨⟨_, he⟩, hit⟩, fun b hb => ?_, q⟩
   have e : b = s1.heap.objs.size + 1 \/ b = s1.heap.objs.size := by simpa using hb
   rcases e with rfl | rfl
   . exact I1.fH (Nat.le_succ _) (I1.aL.fresh (Nat.le_succ _))
   . exact I1.fH (Nat.le_refl _) (I1.aL.fresh (Nat.le_refl _))
theorem nT (num : Nat -> Int) : ∀ k, argBest (fun i j => decide (num i > num j)) k <= k /\ ∀ j, j <= k -> num j <= num (argBest (fun i j => decide (num i > num j)) k)
 | 0 => ⟨Nat.le_refl _, fun j hj => by have : j = 0 := by omega
                                       subst this; exact Int.le_refl _⟩
 | k + 1 => by
   obtain ⟨h1, h2⟩ := nT num k
   unfold argBest
   by_cases h : num (k + 1) > num (argBest (fun i j => decide (num i > num j)) k)
   . rw [if_pos (decide_eq_true h)]
     refine ⟨Nat.le_refl _, fun j hj => ?_⟩
     by_cases hk : j = k + 1
     . subst hk; exact Int.le_refl _
     . exact Int.le_trans (h2 j (by omega)) (Int.le_of_lt h)
   . rw [if_neg (by simpa using h)]
     refine ⟨by omega, fun j hj => ?_⟩
     by_cases hk : j = k + 1
     . subst hk; omega
     . exact h2 j (by omega)
section
variable {X : Cx}
def vj : List V -> Hp -> VK -> Prop := fun xs H Q => ∃ (v : V) (ns : List Int), xs = [v] /\ Dv H v (.list (ns.map PyData.int)) /\ 0 < ns.length /\ ∀ m ∈ ns, (∀ k ∈ ns, k <= m) -> Q (.int m) H
theorem pq (hc : X.calm = true) : dB X (.builtin "max") vj := by
 intro pins s σ H xs us Q I r h
 obtain ⟨v, ns, rfl, hd, kz, q⟩ := h
 obtain ⟨u, rfl, ru⟩ := vals1 r
 obtain ⟨p, ys, rfl, e, dv⟩ := hd.lst_inv
 obtain ⟨au, vx, pl, _⟩ := I.list (e X.K)
 cases ru
 have hI := fu dv vx
 have hn : au.toArray.size = ns.length := by rw [List.size_toArray, hI.length]
 have bZ : p < s.heap.objs.size := by obtain ⟨o, n, e1, _⟩ := pl; exact Heap.lt_size e1
 have hA : X.A.in1.handled = none := I.ok.hd hc
 refine call_max_walk (wpAny_pyIter_list pl.isList ?_)
 refine ⟨s.heap.objs.size, _, _, _, _, _, fun i j => decide (ns.getD i 0 > ns.getD j 0), rfl, Walks.list hA _ p (Nat.ne_of_lt bZ) au.toArray, ⟨⟨_, Heap.get?_push_size _ rfl, rfl, rfl⟩, pl.isList.at fun o e => Heap.get?_push_of_some _ e⟩, ?_, by omega, CmpOf.ints_gt (fun i => ns.getD i 0) ?_, ?_⟩
 . intro b hb
   rw [Heap.size_push]
   have : b = s.heap.objs.size \/ b = p := by simpa using hb
   rcases this with rfl | rfl
   . exact Nat.lt_succ_self _
   . exact Nat.lt_succ_of_lt bZ
 . intro i v hv
   exact hI.int_at i v (by simpa using hv)
 . intro v h' tk hP hk
   have b := nT (fun i => ns.getD i 0) (au.toArray.size - 1)
   generalize argBest (fun i j => decide (ns.getD i 0 > ns.getD j 0)) (au.toArray.size - 1) = ix at b hP
   obtain ⟨b1, b2⟩ := b
   obtain ⟨t, rfl⟩ := hI.int_at ix v (by simpa using hP)
   have I1 := I.kept (t' := s.toks) (h' := s.heap.push { cls := Value.type "list_iterator", data := Data.fields #[Value.ref p, Value.int 0 0] }) fun b o e => Heap.get?_push_of_some _ e
   have fp := I.fH (H' := H) (Nat.le_refl _) (I.aL.fresh (Nat.le_refl _))
   have I2 := I1.turned (t' := tk) (h' := h') (it := s.heap.objs.size) (fun b o hb e => hk b o (by simpa using hb) e) fp.1 fp.2.1 fp.2.2.2.1 fp.2.2.2.2.1 fp.2.2.2.2.2
   have hb : ix < ns.length := by omega
   refine ⟨.int _, H, I2, ⟨t, rfl⟩, q _ ?_ ?_⟩
   . rw [List.getD_eq_getElem?_getD, List.getElem?_eq_getElem hb]; exact List.getElem_mem hb
   . intro k hk
     obtain ⟨j, hj, rfl⟩ := List.getElem_of_mem hk
     have := b2 j (by omega)
     rwa [List.getD_eq_getElem?_getD (i := j), List.getElem?_eq_getElem hj] at this
def qd : V -> Hp -> VK -> Prop := fun x H Q => ∃ (p : Addr) (m : List (Str × PyData)) (ns : List Int), x = .ref p /\ gS H p m /\ m.map (·.2) = ns.map PyData.int /\ Q (.int ns.sum) H
def vE (te : TE) : TE := fun σ H Q => te σ H fun x H1 => qd x H1 Q
theorem tK {e : Expr} {te : TE} {p pos apos bM : Pos} (he : PE X e te) (hc : X.calm = true) (hg : Gl X "sum") (hm : X.mg "sum" = none)
 (qH : attributeBase e "values" X.env (eval e X.env) = eval e X.env := by rfl) (hline : (apos.endLine == bM.line) = true := by rfl)
 (h2 : starEach [.Call (.Attribute e "values" apos) [] [] bM] X.env = (false, eval (.Call (.Attribute e "values" apos) [] [] bM) X.env) :: starEach [] X.env := by rfl) :
 PE X (.Call (.Name "sum" p) [.Call (.Attribute e "values" apos) [] [] bM] [] pos) (vE te) := by
 intro pins s σ H Q I h
 refine wpAny_Call_Name_kw (cN I hg hm boot_sum ?_ (by decide) (by decide))
 refine PyProof.Rows.callWith_builtin1 ?_ h2 rfl
 rw [h2]
 show wpAny _ _ (spliced ((false, eval (.Call (.Attribute e "values" apos) [] [] bM) X.env) :: backTo pos (starEach [] X.env))) _ _ s
 refine Calls.spliced_cons (wpAny_Call_method0_late qH hline (bu (he pins s σ H _ I h) fun v s1 ⟨y, H1, I1, r1, q1⟩ => ?_))
 obtain ⟨d, m, ns, rfl, ⟨ax, hd, dk⟩, y6, q⟩ := q1
 obtain ⟨h1, h2⟩ := qG I1 (T := "dict") r1 (.inr (.inr (.inl ⟨rfl, .inl ⟨ax, hd⟩⟩)))
 cases r1
 refine ⟨"dict", "dict.values", PySem.F.plainAttrs_dict, PySem.F.slot_dict_values, PySem.F.type_dict_values, h1, h2, Calls.callWith_builtin rfl (PySem.evalArgs_none ?_)⟩
 obtain ⟨_, hs, vs, kv, o, es, ep, ho, a2, a3, a4⟩ := (show bx X.prog X.w H1 s1.heap d (.dK ax) from I1.aL d _ hd)
 have da : s1.heap.DictAt (bf X.prog X.w) d vs ep := ⟨o, es, ho, a2, a3, a4⟩
 have bZ : d < s1.heap.objs.size := Heap.lt_size ho
 have hlen : vs.length = ax.length := kv.length.symm
 refine call_meetsIn PySem.F.slot_dict_values da.dictOf.typeIs PySem.F.entry_dict_values (PySem.F.args_dict_values_1 _) (meets_dict_values (bf X.prog X.w) d hs) ⟨⟨vs, da.dictOf⟩, ?_⟩
 refine Calls.spliced_nil ?_
 have hsz : (s1.heap.push { cls := .type "dict_values", data := .fields #[.ref d] }).objs.size = s1.heap.objs.size + 1 := Heap.size_push ..
 have hA : X.A.in1.handled = none := I1.ok.hd hc
 have Gn : ns.length = ax.length := by
  have := congrArg List.length y6
  rw [List.length_map, List.length_map] at this
  rw [<- this]; exact dk.length.symm
 refine call_sum_walkAnyB (wpAny_pyIter_values (v := s1.heap.objs.size) ⟨_, Heap.get?_push_size _ rfl, rfl, rfl⟩ (da.push _) ?_)
 refine ⟨_, _, _, _, _, _, _, fun i => ns.getD i 0, rfl, (Walks.dictValues (knd := bf X.prog X.w) hA _ d (Nat.ne_of_lt (by rw [hsz]; exact Nat.lt_succ_of_lt bZ)) vs ep).toS, ⟨⟨_, Heap.get?_push_size _ rfl, rfl, rfl⟩, (da.push _).push _⟩, ?_, ?_, ?_⟩
 . intro b hb
   rw [Heap.size_push]
   have : b = (s1.heap.push { cls := .type "dict_values", data := .fields #[.ref d] }).objs.size \/ b = d := by simpa using hb
   rcases this with rfl | rfl
   . exact Nat.lt_succ_self _
   . rw [hsz]; exact Nat.lt_succ_of_lt (Nat.lt_succ_of_lt bZ)
 . rintro i v ⟨k, hv⟩
   have hi : i < ax.length := by rw [<- hlen]; exact (List.getElem?_eq_some_iff.mp hv).1
   obtain ⟨y, hy, Bf⟩ := gW kv (List.getElem?_eq_getElem hi)
   rw [hv] at hy
   cases hy
   obtain ⟨k', dd, G6, HM, EY⟩ := dk.yX (List.getElem?_eq_getElem hi)
   have sN : i < ns.length := by omega
   have GU : dd = .int (ns.getD i 0) := by
    have e1 : (m.map (·.2))[i]? = some dd := by rw [List.getElem?_map, G6]; rfl
    rw [y6, List.getElem?_map, List.getElem?_eq_getElem sN] at e1
    rw [List.getD_eq_getElem?_getD, List.getElem?_eq_getElem sN]
    exact (Option.some.inj e1).symm
   subst GU
   have hq := EY.int_inv
   have r2 := Bf.2
   rw [hq] at r2
   obtain ⟨t, ht⟩ := r2
   exact .inl ⟨t, ht⟩
 . intro s' t' Bj
   rw [hlen, <- Gn, er]
   obtain ⟨h', g', d', zQ, ym⟩ := s'
   have eg : g' = s1.gens := Bj.gens
   have ed : d' = s1.drawn := Bj.drawn
   have eo : ym = s1.os := Bj.os
   subst eg; subst ed; subst eo
   have I2 : Inv X pins σ H1 { s1 with heap := s1.heap.push { cls := .type "dict_values", data := .fields #[.ref d] } } := I1.kept (t' := s1.toks) fun b o e => Heap.get?_push_of_some _ e
   have fp := I2.fH (H' := H1) (Nat.le_refl _) (I2.aL.fresh (Nat.le_refl _))
   have I3 := I2.turned (t' := zQ) (h' := h') (it := (s1.heap.push { cls := .type "dict_values", data := .fields #[.ref d] }).objs.size) (fun b o hb e => Bj.heap b o (by simpa using hb) (Heap.get?_push_of_some _ e)) fp.1 fp.2.1 fp.2.2.2.1 fp.2.2.2.2.1 fp.2.2.2.2.2
   exact ⟨.int ns.sum, H1, I3, ⟨t', rfl⟩, q⟩
end
section
variable {σ : St} {H : Hp} {Q : VK}
theorem xf {v : V} {ns : List Int} (hp : Dv H v (.list (ns.map PyData.int))) (hl : 0 < ns.length) (h : ∀ m ∈ ns, (∀ k ∈ ns, k <= m) -> Q (.int m) H) : vj [v] H Q := ⟨v, ns, rfl, hp, hl, h⟩
theorem uO {te : TE} (h : te σ H fun x H1 => qd x H1 Q) : vE te σ H Q := h
theorem vW {p : Addr} {m : List (Str × PyData)} {ns : List Int} (hp : gS H p m) (hm : m.map (·.2) = ns.map PyData.int) (h : Q (.int ns.sum) H) : qd (.ref p) H Q := ⟨p, m, ns, rfl, hp, hm, h⟩
end
section
variable {σ : St} {H : Hp} {Q : VK} {K : PySem.W.Frag} {v : V}
theorem xc {k : Nat} {ta : TA} {g : TG} {tc : TT} {te : TE} (h : ta σ H fun vs H1 => ∃ a, vs = [.ref a] /\ (∃ xs, bF K H1 a xs) /\ wN k g tc te (jc Q) σ (BA K a) H1) : z1 k (vD K ta) g tc te σ H Q := h
theorem Aw {k : Nat} {g : TG} {tc : TT} {te : TE} {α : Type} {cs : List α} {gd : α -> PyData} (pf : α × Nat -> Bool) (fd : α × Nat -> PyData) (hl : Dv H v (.list (cs.map gd))) (hlen : cs.length <= 4000) (hi : ∀ c, gM (fd c) = true)
 (turn : ∀ x c H' (N : Option V -> Hp -> Prop), c ∈ cs.zipIdx -> ai H H' -> Dv H' x (.tuple [.int c.2, gd c.1]) -> (pf c = true -> ∀ y H4, ai H' H4 -> Dv H4 y (fd c) -> N (some y) H4) -> (pf c = false -> ∀ H3, ai H' H3 -> N none H3) ->
  g x (List.replicate k none ++ σ) H' fun σ2 H2 => tc σ2 H2 fun b H3 => zf te N σ2 b H3)
 (kk : ∀ q H', ai H H' -> H q = none -> bJ H' q ((cs.zipIdx.filter pf).map fd) -> Q (.ref q) H') : ∃ a, [v] = [.ref a] /\ (∃ xs, bF K H a xs) /\ wN k g tc te (jc Q) σ (BA K a) H := by
 obtain ⟨p, xs, rfl, e, dv⟩ := hl.lst_inv
 have xj : bF K H p xs := e K
 have zq : xs.length = cs.length := by rw [dv.length, List.length_map]
 have Gx : cs.zipIdx.length = cs.length := List.length_zipIdx
 refine ⟨p, rfl, ⟨xs, xj⟩, fun i m acc H' => i <= cs.length /\ m = cs.length - i /\ ai H H' /\ a9 H' acc (((cs.zipIdx.take i).filter pf).map fd), ⟨cs.length, Nat.zero_le _, rfl, ai.refl _, by simpa using a9.nil⟩, ?_⟩
 rintro i m acc H' ⟨AK, hm, sm, dj⟩
 have oW : bF K H' p xs := ai.seq sm xj
 have pA : acc.length <= cs.length := by
  rw [dj.length, List.length_map]
  exact Nat.le_trans (List.length_filter_le _ _) (by rw [List.length_take]; omega)
 by_cases hc : i = cs.length
 . left
   refine ⟨⟨xs, oW, by omega⟩, fun q hq => ?_⟩
   rw [hc, <- Gx, List.take_length] at dj
   have fy : ai H (upd H' q (.lst acc)) := sm.trans (aY hq)
   exact kk q _ fy (sm.none hq) ⟨acc, aw, dj.keeps (aY hq), cb hi _⟩
 . right
   have bZ : i < cs.length := by omega
   have wR : i < xs.length := by omega
   refine ⟨⟨xs, xs[i], oW, List.getElem?_eq_getElem wR⟩, dD (by omega), fun x H2 hy => ?_⟩
   obtain ⟨t, x', hy, rfl, ht, rfl⟩ := hy
   have hx := hy xs oW
   have yU : cs[i]? = some cs[i] := List.getElem?_eq_getElem bZ
   obtain ⟨x2, A4, hd⟩ := dv.get (i := i) (d := gd cs[i]) (by rw [List.getElem?_map, yU]; rfl)
   rw [hx] at A4
   cases A4
   have Eo : cs.zipIdx[i]? = some (cs[i], i) := by rw [List.getElem?_zipIdx, yU]; simp
   have kc : cs.zipIdx.take (i + 1) = cs.zipIdx.take i ++ [(cs[i], i)] := by rw [List.take_add_one, Eo]; rfl
   have D5 : ai H' (upd H' t (.tup [.int i, x'])) := aY ht
   have fy := sm.trans D5
   exact turn (.ref t) (cs[i], i) _ (fun o H4 => match o with | some y => ∃ m', m' < m /\ i + 1 <= cs.length /\ m' = cs.length - (i + 1) /\ ai H H4 /\ a9 H4 (acc ++ [y]) (((cs.zipIdx.take (i + 1)).filter pf).map fd) | none => ∃ m', m' < m /\ i + 1 <= cs.length /\ m' = cs.length - (i + 1) /\ ai H H4 /\ a9 H4 acc (((cs.zipIdx.take (i + 1)).filter pf).map fd))
    (List.mem_of_getElem? Eo) fy (.tup aw (.cons (.int _) (.cons (hd.keeps fy) .nil)))
    (fun hp y H4 s4 d4 => ⟨cs.length - (i + 1), by omega, bZ, rfl, fy.trans s4, by
     rw [kc, List.filter_append, List.map_append]
     simp only [List.filter_cons, hp, if_true, List.filter_nil, List.map_cons, List.map_nil]
     exact a9.append (dj.keeps (D5.trans s4)) (.cons d4 .nil)⟩)
    (fun hp H3 s3 => ⟨cs.length - (i + 1), by omega, bZ, rfl, fy.trans s3, by
     rw [kc, List.filter_append, List.map_append]
     simp only [List.filter_cons, hp, Bool.false_eq_true, if_false, List.filter_nil, List.map_nil, List.append_nil]
     exact dj.keeps (D5.trans s3)⟩)
end
end L2
namespace L2
open PySem
theorem cL {z : Str} {lo hi : Option Int} : ∀ c ∈ (bE z lo hi).cps.toList, c ∈ z.cps.toList := by
 intro c hc
 unfold bE at hc
 have hc : c ∈ (Builtin.Str.strSliceIndices lo hi 1 z.length).filterMap (z.cps[·]?) := by simpa using hc
 obtain ⟨i, _, hi⟩ := List.mem_filterMap.mp hc
 have := Array.mem_of_getElem? hi
 simpa using this
theorem cg (z : Str) (lo hi : Option Int) : (bE z lo hi).length <= z.length := by
 show ((Builtin.Str.strSliceIndices lo hi 1 z.length).filterMap (z.cps[·]?)).toArray.size <= _
 rw [List.size_toArray]
 exact Nat.le_trans (List.length_filterMap_le _ _) (mP _ _ _)
section
variable {H : Hp} {Q : VK} {K : PySem.W.Frag}
theorem wh {z : Str} {lo hi : Option Int} (hl : z.length <= 4000) (h : (bE z lo hi).length <= z.length -> Q (.str (bE z lo hi)) H) : zR (.str z) lo hi H Q := ⟨z, rfl, hl, h (cg z lo hi)⟩
theorem xU {z : Str} {i : Int} (hz : z.length <= 4000) (h0 : 0 <= i) (h1 : i < z.length) (h : ∀ c, z.cps.toList[i.toNat]? = some c -> Q (.str ⟨#[c]⟩) H) : iF K (.str z) (.int i) H Q := by
 obtain ⟨m, rfl⟩ := Int.eq_ofNat_of_zero_le h0
 have hi : m < z.cps.toList.length := by
  have : z.length = z.cps.toList.length := by show z.cps.size = _; simp
  omega
 exact yy (Nat.le_of_lt (dD hz)) (dQ (List.getElem?_eq_getElem hi)) (h _ (List.getElem?_eq_getElem hi))
end
end L2
namespace L2
open PySem PySem.Spec PyProof.Rows PySem.W
theorem nF (num : Nat -> Int) : ∀ k, argBest (fun i j => decide (num i < num j)) k <= k /\ ∀ j, j <= k -> num (argBest (fun i j => decide (num i < num j)) k) <= num j
 | 0 => ⟨Nat.le_refl _, fun j hj => by have : j = 0 := by omega
                                       subst this; exact Int.le_refl _⟩
 | k + 1 => by
   obtain ⟨h1, h2⟩ := nF num k
   unfold argBest
   by_cases h : num (k + 1) < num (argBest (fun i j => decide (num i < num j)) k)
   . rw [if_pos (decide_eq_true h)]
     refine ⟨Nat.le_refl _, fun j hj => ?_⟩
     by_cases hk : j = k + 1
     . subst hk; exact Int.le_refl _
     . exact Int.le_trans (Int.le_of_lt h) (h2 j (by omega))
   . rw [if_neg (by simpa using h)]
     refine ⟨by omega, fun j hj => ?_⟩
     by_cases hk : j = k + 1
     . subst hk; omega
     . exact h2 j (by omega)
section
variable {X : Cx}
end
section
variable {σ : St} {H : Hp} {Q : VK}
end
section
variable {X : Cx} {pins : List (Addr × Obj)} {σ : St} {H : Hp} {s : Shared}
end
section
variable {σ : St} {H : Hp} {Q : VK}
end
section
variable {σ : St} {H : Hp} {Q : VK} {K : PySem.W.Frag} {p : Addr} {m : List (Str × PyData)} {k : Str}
end
def Ee (h : Heap) (a T : Addr) (c : Value) (od : Option Addr) : Prop := ∃ oe vs oT ts, h.get? a = some oe /\ oe.cls = c /\ oe.dict = od /\ oe.data = .fields vs /\ vs[1]? = some (.ref T) /\ T ≠ a /\ h.get? T = some oT /\ oT.data = .fields ts /\ ts[3]? = some .none /\ vs[2]? = some .none
section
variable {M : Model} {A : Around} {E : Value -> Shared -> Prop} {s : Shared} {env : Env} {outer : List Env} {L a T : Addr} {c : Value} {od : Option Addr} {base : Heap} {Q : Unit -> Shared -> Prop}
end
def F8 (P : Program) (w : World) : kG := fun outer H s E e s' => ∃ a T C od H', e = .ref a /\ s'.os = s.os /\ AllBare s'.gens /\ Un (k6 outer) [] H H' s.heap s'.heap /\ fc P w H' s'.heap /\ Ee s'.heap a T (.ref C) od /\ s.heap.get? a = none /\ s.heap.get? T = none /\ H' a = none /\ H' T = none /\ E (.ref C) od H'
section
variable {P : Program} {w : World} {K : PySem.W.Frag} {mg : Str -> Option Value} {base : Heap} {N : List Str} {qual : Str} {scope : Scope} {f : Addr} {cd : Value} {A : Around} {outer : List Env} {s0 : Shared} {H0 : Hp} {E : XK} {CX : kG} {pins : List (Addr × Obj)} {σ : St} {H : Hp} {s : Shared}
end
structure Hm (P : Program) (w : World) (K : PySem.W.Frag) (mg : Str -> Option Value) (base : Heap) (k : Nat) (f : Addr) (ps : List Str) (e7 : List V) (sp : Sp) : Prop where
 ex : ∃ (fd : FuncData) (ds : List Value), bQ P w K mg base (F8 P w) k f fd ps sp /\ Binds K fd ps ds /\ Vals e7 ds
section
variable {X : Cx} {CX : kG} {k : Nat} {f C : Addr} {fd : FuncData} {ps : List Str} {sp : Sp} {e7 : List V} {ds : List Value} {E : St -> XK} {x m : Str} {p pos apos : Pos} {e o : Expr} {es : List Expr} {ta : TE} {t : TA}
end
section
variable {P : Program} {w : World} {K : PySem.W.Frag} {mg : Str -> Option Value} {base : Heap}
end
section
variable {prog : Program} {w : World} {A : Around} {E : Value -> Shared -> Prop} {s : Shared} {K : PySem.W.Frag} {x C : Addr} {ox : Obj} {name : Str} {v : Value} {cd : ClassData}
open Builtin.ObjectAttr in
open Builtin.ObjectAttr in
end
structure HR (K : PySem.W.Frag) (C W fI : Addr) : Prop where
 cls : ∃ (nm q : Str) (N : Addr) (bs : List Value) (sn : List Str) (sub : List Value) (ab : Bool) (col : Option Bool) (dd : Option Addr) (k0 k1 k2 k3 k5 : Option Value), K.lookup C = some (excClassObj nm q C N bs (.ref W :: Dp) true sn sub ab col dd k0 k1 k2 k3 k5 "ValueError.__new__")
 up : vV K W
 init : PySem.W.findIn K (.ref C) "__init__" = some (some (.ref fI))
 fn : PySem.W.isFn K (.ref fI) = true
 te : HG K C
 sa : PySem.W.findIn K (.ref C) "__setattr__" = some (some (.builtin "object.__setattr__"))
 tk : PySem.W.takerIn K C "name" = some none
 nm : PySem.W.findIn K (.ref C) "name" = some none
def Df (K : PySem.W.Frag) (C : Addr) : Prop := ∀ h : Heap, K.In h -> ∃ (bm : List Value) (N : Addr) (nm q : Str) (bs : List Value) (hd : Bool) (sn : List Str) (sub : List Value) (ab : Bool) (col : Option Bool) (dd : Option Addr) (k0 k1 k2 k3 k5 : Option Value),
 h.get? C = some (excClassObj nm q C N bs bm hd sn sub ab col dd k0 k1 k2 k3 k5 "ValueError.__new__") /\ OwnTail h Dp bm
theorem vV.o {K : PySem.W.Frag} {C : Addr} (h : vV K C) : Df K C := fun hp X => by
 obtain ⟨bm, N, nm, q, bs, hd, sn, sub, ab, col, dd, k0, k1, k2, k3, k5, mN, hC, _, _, T⟩ := xu X h
 exact ⟨bm, N, nm, q, bs, hd, sn, sub, ab, col, dd, k0, k1, k2, k3, k5, hC, T⟩
section
variable {prog : Program} {w : World} {A : Around} {E : Value -> Shared -> Prop} {h : Heap} {g : Array GenState} {d : Drawn} {t : Nat} {os : OsState}
variable {nm q : Str} {C N : Addr} {bs bm yI : List Value} {CT : Bool} {sn : List Str} {sub : List Value} {ab : Bool} {col : Option Bool} {dd : Option Addr} {k0 k1 k2 k3 k5 : Option Value} {B newId DP : String}
end
structure E6 (K : PySem.W.Frag) (W : Addr) : Prop where
 ga : PySem.W.specialIn K (.ref W) "__getattribute__" = some (some (.builtin "type.__getattribute__"))
 rd : PySem.W.readsIn K W (.type "type") = true
 fd : PySem.W.findCls K (.ref W) (.type "type") "__init__" = some (.val (.builtin "ValueError.__init__"))
section
variable {X : Cx} {W : Addr} {x : Str} {p pos apos : Pos} {e : Expr} {es : List Expr} {t : TA} {pl : Sem Bool}
end
def del (H : Hp) (a : Addr) : Hp := fun b => if b = a then none else H b
section
variable {prog : Program} {w : World} {A : Around} {E : Value -> Shared -> Prop} {s : Shared} {env : Env}
variable {nm q : Str} {C N : Addr} {bs bm yI : List Value} {CT : Bool} {sn : List Str} {sub : List Value} {ab : Bool} {col : Option Bool} {dd : Option Addr} {k0 k1 k2 k3 k5 : Option Value} {newId : String}
end
def GD (X : Cx) (cl : Expr) (hit : Addr -> Bool -> Prop) : Prop := ∀ (a C T : Addr) (od : Option Addr) (pins : List (Addr × Obj)) (σ : St) (H : Hp) (s : Shared) (Q : Bool -> Shared -> Prop) (E : Value -> Shared -> Prop) (b : Bool), Inv X pins σ H s -> Ee s.heap a T (.ref C) od -> hit C b ->
 (∀ h', (∀ b o, s.heap.get? b = some o -> h'.get? b = some o) -> Q b { s with heap := h' }) ->
 wpAny (model X.prog X.w) (X.hand a).A (eval cl X.env) (fun c s1 => wpAny (model X.prog X.w) (X.hand a).A (excMatches (.ref a) c) Q E s1) E s
structure ER where
 hit : Addr -> Bool -> Prop
 i : Option Nat
 ts : Addr -> TS
def xm (X : Cx) : Option Str -> Option Nat -> Prop
 | some n, some i => X.N[i]? = some n /\ X.env.scope.names.lookup n = some .local
 | none, none => True
 | _, _ => False
inductive qb (X : Cx) : List ExceptHandler -> List ER -> Prop
 | nil : qb X [] []
 | cons {cl : Expr} {n : Option Str} {b0 : Stmt} {vF : List Stmt} {pos : Pos} {hs : List ExceptHandler} {hit : Addr -> Bool -> Prop} {i : Option Nat} {ts : Addr -> TS} {rs : List ER} (hc : GD X cl hit) (hb : ∀ a, k7 (X.hand a) (b0 :: vF) (ts a)) (hn : xm X n i) (r : qb X hs rs) :
  qb X (.ExceptHandler (some cl) n (b0 :: vF) pos :: hs) (⟨hit, i, ts⟩ :: rs)
section
variable {X : Cx} {pins : List (Addr × Obj)} {σ : St} {H : Hp} {a C : Addr} {od : Option Addr} {Dn : Ends}
end
section
variable {X : Cx} {e : Expr} {te : TE} {y y2 : Str} {k k2 : Nat} {p1 p2 p3 pos : Pos}
end
section
variable {σ : St} {H : Hp} {Q : VK} {D : Ends} {K : PySem.W.Frag} {C : Addr} {E : St -> XK}
end
section
variable {prog : Program} {w : World} {A : Around} {R : Result -> Shared -> Prop} {I S : Addr} {fp wr : List Addr} {n : Nat} {P : Nat -> Value -> Prop} {St : Nat -> Heap -> Prop} {bt : Nat -> Nat -> Bool}
end
section
variable {prog : Program} {w : World} {A : Around} {E : Value -> Shared -> Prop} {s : Shared}
end
section
variable {X : Cx}
end
section
variable {σ : St} {H : Hp} {Q : VK} {D : Ends} {K : PySem.W.Frag}
end
def xM : Expr -> Option V
 | .Constant (.int i) _ _ => some (.int i)
 | .Constant (.str x) _ _ => some (.str x)
 | .Constant (.bool b) _ _ => some (.bl b)
 | .Constant .none _ _ => some .bG
 | _ => none
def rC : List Expr -> Option (List V)
 | [] => some []
 | e :: es => match xM e, rC es with
   | some v, some vs => some (v :: vs)
   | _, _ => none
def vo (vs : List V) : TA := fun _ H Q => Q vs H
theorem mQ {X : Cx} {e : Expr} {v : V} (h : xM e = some v) : PE X e (tC v) /\ ∀ es : List Expr, starEach (e :: es) X.env = (false, eval e X.env) :: starEach es X.env := by
 unfold xM at h
 split at h <;> cases h <;> refine ⟨?_, fun _ => rfl⟩
 . exact ae
 . exact rk
 . exact vJ
 . exact yf
theorem nC {X : Cx} : ∀ {es : List Expr} {vs : List V}, rC es = some vs -> PA X es (vo vs)
 | [], vs, h => by cases h; exact ao
 | e :: es, vs, h => by
   unfold rC at h
   split at h
   . rename_i v FU h1 h2
     cases h
     exact af (mQ h1).1 (nC h2) ((mQ h1).2 es)
   . cases h
theorem yr {σ : St} {H : Hp} {vs : List V} {Q : List V -> Hp -> Prop} (h : Q vs H) : vo vs σ H Q := h
section
variable {X : Cx}
end
section
open PySem.SeqAt
open PySem.AutoSeq1 (wpAny_loadPart')
open PySem.MeetsSeq PySem.MeetsSeq2 PySem.MeetsSeq3
end
section
variable {X : Cx}
end
section
variable {σ : St} {H : Hp} {Q : VK} {D : Ends} {K : PySem.W.Frag}
theorem uM {S : List Addr} {H0 H1 H2 : Hp} (s : ai H0 H1) (m : Mv S H1 H2) (h : ∀ b ∈ S, H0 b = none) : ai H0 H2 := fun b u e => m.kp b u (fun z => by rw [h b z] at e; cases e) (s b u e)
end
section
variable {σ : St} {H : Hp} {Q : VK} {K : PySem.W.Frag}
theorem A1 {k : Nat} {g : TG} {tc : TT} {te : TE} {p : Addr} {xs : List V} (hl : bF K H p xs) (hlen : xs.length <= 4000) (Pv : Nat -> List V -> Hp -> Prop) (h0 : Pv 0 [] H) (hk : ∀ i acc H', i <= xs.length -> Pv i acc H' -> bF K H' p xs /\ acc.length <= xs.length)
 (turn : ∀ i x acc H' (N : Option V -> Hp -> Prop), xs[i]? = some x -> Pv i acc H' -> (∀ y H4, Pv (i + 1) (acc ++ [y]) H4 -> N (some y) H4) -> (∀ H4, Pv (i + 1) acc H4 -> N none H4) ->
  g x (List.replicate k none ++ σ) H' fun σ2 H2 => tc σ2 H2 fun b H3 => zf te N σ2 b H3)
 (kk : ∀ acc H' q, Pv xs.length acc H' -> H' q = none -> Q (.ref q) (upd H' q (.lst acc))) : ∃ a, V.ref p = .ref a /\ (∃ xs, bF K H a xs) /\ wN k g tc te (jc Q) σ (qo K a) H := by
 refine ⟨p, rfl, ⟨xs, hl⟩, fun i m acc H' => i <= xs.length /\ m = xs.length - i /\ Pv i acc H', ⟨xs.length, Nat.zero_le _, rfl, h0⟩, ?_⟩
 rintro i m acc H' ⟨AK, hm, hp⟩
 obtain ⟨oW, pA⟩ := hk i acc H' AK hp
 by_cases hc : i = xs.length
 . subst hc
   exact .inl ⟨⟨xs, oW, Nat.le_refl _⟩, fun q hq => kk acc H' q hp hq⟩
 . have wR : i < xs.length := by omega
   refine .inr ⟨⟨xs, xs[i], oW, List.getElem?_eq_getElem wR⟩, dD (by omega), fun x H2 hy => ?_⟩
   obtain ⟨rfl, hy⟩ := hy
   have hx := hy xs oW
   exact turn i x acc H2 (fun o H4 => match o with | some y => ∃ m', m' < m /\ i + 1 <= xs.length /\ m' = xs.length - (i + 1) /\ Pv (i + 1) (acc ++ [y]) H4 | none => ∃ m', m' < m /\ i + 1 <= xs.length /\ m' = xs.length - (i + 1) /\ Pv (i + 1) acc H4) hx hp
    (fun y H4 h => ⟨xs.length - (i + 1), by omega, wR, rfl, h⟩) fun H4 h => ⟨xs.length - (i + 1), by omega, wR, rfl, h⟩
end
def BM (mg : Str -> Option Value) (h : Heap) : Prop := ∃ bm ob, mg "__builtins__" = some (.ref bm) /\ bm ≠ builtinsNs /\ h.get? bm = some ob /\ ob.cls = .type "module" /\ ob.dict = some builtinsNs /\ ob.data = .plain
def gT (c : Addr) (q : Str) : HO := .ext fun h => h.CodeRec (.ref c) q
theorem rA {P : Program} {w : World} {H : Hp} {h : Heap} {c : Addr} {q : Str} (e : h.CodeRec (.ref c) q) : bx P w H h c (gT c q) := by
 refine ⟨e, ?_, fun h1 h2 x k => ?_⟩
 . obtain ⟨c', o, vs, t, e1, e2, _⟩ := e
   cases e1
   exact ⟨o, e2⟩
 . obtain ⟨c', o, vs, t, e1, e2, r⟩ := x
   cases e1
   exact ⟨c, o, vs, t, rfl, k _ e2, r⟩
section
variable {X : Cx} {pins : List (Addr × Obj)} {σ : St} {H : Hp} {s : Shared} {c P : Addr} {params : Arguments} {body : Expr} {scope : Scope} {pos : Pos} {aV : List (Str × Addr)} {E : Value -> Shared -> Prop}
theorem Inv.grow {h' : Heap} {c' P : Addr} {ps more : Array Value} {q : Str} {tk : Nat} (I : Inv X pins σ H s) (hT : H P = some (.eO ps)) (hx : Heap.ExtBut P s.heap h') (yE : s.heap.objs.size <= c') (x9 : h'.CodeRec (.ref c') q) (hP : h'.get? P = some (tabObj (ps ++ more))) :
 Inv X pins σ (upd (upd H P (.eO (ps ++ more))) c' (gT c' q)) { s with heap := h', toks := tk } := by
 have lX : H c' = none := I.aL.fresh yE
 have BF : P ≠ c' := az hT lX
 have nP : ∀ b, H b = none -> b ≠ P := fun b n z => by rw [z, hT] at n; cases n
 have kp : ∀ b u, b ≠ P -> H b = some u -> upd (upd H P (.eO (ps ++ more))) c' (gT c' q) b = some u := fun b u hb e => by rw [aj (az e lX), aj hb]; exact e
 have HF : upd (upd H P (.eO (ps ++ more))) c' (gT c' q) P = some (.eO (ps ++ more)) := by rw [aj BF, aw]
 refine I.step (g' := s.gens) (d' := s.drawn) (ch := []) (fun _ z => nomatch z) (fun b o _ _ _ e n => hx b o (nP b n) e) (fun b o _ _ _ e n => ⟨o.slots, hx b o (nP b n) e⟩) (fun b o _ e n => ?_) (fun b o _ e => ?_) (fun b xs e => kp b _ (fun z => by rw [z, hT] at e; cases e) e)
  (fun b o u e => kp b _ (fun z => by rw [z, hT] at e; cases e) e) (fun b Ie e => ?_) (fun m hm => ?_) (fun b u e => ?_) I.bare
 . rw [aj (Nat.ne_of_lt (Nat.lt_of_lt_of_le (Heap.lt_size e) yE)), aj (nP b n)]; exact n
 . by_cases hb : b = P
   . exact ⟨_, hb ▸ hP⟩
   . exact ⟨o, hx b o hb e⟩
 . by_cases hb : b = P
   . subst hb
     rw [hT] at e; cases e
     exact ⟨more, HF⟩
   . exact ⟨#[], by rw [kp b _ hb e]; simp⟩
 . obtain ⟨o, es, ep, ho, r⟩ := hm
   exact ⟨o, es, ep, hx _ o (nP _ I.free) ho, r⟩
 . by_cases hb : b = c'
   . subst hb
     rw [aw] at e; cases e
     exact rA x9
   . rw [aj hb] at e
     by_cases j4 : b = P
     . subst j4
       rw [aw] at e; cases e
       exact hP
     . rw [aj j4] at e
       refine (I.aL b u e).jP (fun d v hd z => hx d v (fun y => ?_) z) (fun d z => kp d _ (fun y => by rw [y, hT] at z; cases z) z) fun d xs z => kp d _ (fun y => by rw [y, hT] at z; cases z) z
       rcases hd with rfl | hd
       . exact j4 y
       . rw [y, hT] at hd; cases hd
end
def iz (qual : Str) (scope : Scope) (L g : Addr) (cd : Value) (aV : List (Str × Addr)) : Env := newEnv scope L mainGlobals aV (qual ++ ".<locals>.") (some g) cd none builtinsNs
def kx (X : Cx) (A : Around) (N : List Str) (qual : Str) (scope : Scope) (g : Addr) (cd : Value) (aV : List (Str × Addr)) (s : Shared) (H : Hp) : Cx where
 prog := X.prog
 w := X.w
 K := X.K
 mg := X.mg
 base := X.base
 A := A.deeper (iz qual scope s.heap.objs.size g cd aV)
 N := N
 bN := s
 ow := H
 env := iz qual scope s.heap.objs.size g cd aV
 outer := X.stack
 stack := iz qual scope s.heap.objs.size g cd aV :: X.stack
 ex := []
 fn := fun _ => false
 calm := true
 pn := []
 xe := fun _ _ => False
structure fC (N : List Str) (p : Str) (scope : Scope) : Prop where
 kind : scope.kind = .function
 co : scope.isCoroutine = false
 gen : scope.isGenerator = false
 nd : N.Nodup
 pre : N[0]? = some p
 par : scope.names.lookup p = some .local
 rY : ∀ y ∈ scope.names, y.2 ≠ .cell
def pS (X : Cx) (σ : St) (N : List Str) (scope : Scope) (v : V) (σ' : St) : Prop := σ'.length = N.length /\ σ'[0]? = some (some v) /\ ∀ (i : Nat) (x : Str) (w : V), 0 < i -> N[i]? = some x -> σ'[i]? = some (some w) -> scope.names.lookup x = some .free /\ ∃ j : Nat, X.N[j]? = some x /\ σ[j]? = some (some w) /\ (X.env.kindOf x = some .cell \/ X.env.kindOf x = some .free)
section
variable {X : Cx} {pins : List (Addr × Obj)} {σ σ' : St} {H : Hp} {s : Shared} {A : Around} {N : List Str} {p name qual : Str} {params : Arguments} {body : Expr} {scope : Scope} {aV : List (Str × Addr)} {g c' : Addr} {pm j8 : Value} {v : V} {u : Value} {k : Nat} {Q : VK} {te : TE}
theorem oS {h1 : Heap} {tk : Nat} {cd : Value} (I : Inv X pins σ H s) (hA : A.frames = some X.stack) (hh : A.handled = none) (S : fC N p scope) (gH : ∀ x c, aV.lookup x = some c -> X.env.cells.lookup x = some c) (jm : ∀ x, scope.names.lookup x = some .free -> ∃ c, aV.lookup x = some c)
 (pX : pS X σ N scope v σ') (rv : RelV v u) (yB : h1.Ns s.heap.objs.size fun x => [(p, u)].reverse.lookup x) (hk : ∀ b o, s.heap.get? b = some o -> h1.get? b = some o) : Inv (kx X A N qual scope g cd aV s H) [] σ' H { s with heap := h1, toks := tk } := by
 obtain ⟨hlen, h0, sN⟩ := pX
 have e0 := I.uC
 have sV : ∀ b : Addr, b ∉ (kx X A N qual scope g cd aV s H).ex := fun b z => absurd (show b ∈ ([] : List Addr) from z) (by simp)
 refine ⟨⟨e0.mod, S.kind, rfl, rfl, Nat.le_refl _, fun y z c h1 h2 => I.ok.inj y z c (gH _ _ h1) (gH _ _ h2), fun y hy => ?_, fun y c h => (nomatch (show false = true from h)), fun _ => hh, Around.frames_deeper hA, .inr ⟨rfl, rfl⟩, fun b z => absurd z (sV b), e0.bs, e0.qg, fun b _ _ => sV b, fun b z => absurd z (sV b), e0.fJ, e0.uw⟩,
  rfl, I.bare, Un.kept hk, ⟨_, yB, fun i y w pK h2 h3 => ?_⟩, fun y c h => ?_, e0.aL.fresh (Nat.le_refl _), fun y c h => I.c9 y c (gH y c h), fun p hp => absurd (show p ∈ ([] : List (Addr × Obj)) from hp) (by simp), e0.aL.kept hk, hlen⟩
 . have hy : scope.names.lookup y = some .cell \/ scope.names.lookup y = some .free := hy
   rcases hy with hy | hy
   . exact absurd rfl (S.rY _ (PySem.mem_of_lookup hy))
   . exact jm y hy
 . by_cases hi : i = 0
   . subst hi
     have e1 : N[0]? = some y := pK
     rw [S.pre] at e1; cases e1
     rw [h0] at h2; cases h2
     exact ⟨u, rv, .inl ⟨S.par, by simp⟩⟩
   . obtain ⟨hf, j, hj, Hs, EH⟩ := sN i y w (by omega) pK h2
     obtain ⟨c, hc⟩ := jm y hf
     have CM : yQ X.env.scope y := by
      rcases EH with z | z
      . exact .inr (.inl z)
      . exact .inr (.inr z)
     obtain ⟨m, _, hl⟩ := I.loc
     obtain ⟨u', ru, l⟩ := hl j y w hj Hs CM
     rcases l with ⟨z, _⟩ | ⟨_, c2, e2, e3⟩
     . rcases EH with y' | y' <;> (rw [z] at y'; cases y')
     . have e4 := gH y c hc
       rw [e2] at e4; cases e4
       refine ⟨u', ru, .inr ⟨.inr hf, _, hc, ?_⟩⟩
       obtain ⟨o, ho, hd⟩ := e3
       exact ⟨o, hk _ _ ho, hd⟩
 . obtain ⟨w, o, ho, hd⟩ := I.cell y c (gH y c h)
   exact ⟨w, o, hk _ _ ho, hd⟩
theorem tq (I : Inv X pins σ H s) (hA : A.frames = some X.stack) (hr : bo (k + 1) A) (S : fC N p scope) (gH : ∀ x c, aV.lookup x = some c -> X.env.cells.lookup x = some c) (jm : ∀ x, scope.names.lookup x = some .free -> ∃ c, aV.lookup x = some c)
 (hp : (g, kla_obj name qual params body scope aV pm c' j8) ∈ pins) (iP : s.heap.CodeRec (.ref c') qual) (rG : bindArgs (kla_fn name qual params body scope aV pm (.ref c') j8) ⟨[u], []⟩ = pure [(p, u)]) (pX : pS X σ N scope v σ') (rv : RelV v u)
 (ht : PE (kx X A N qual scope g (.ref c') aV s H) body te) (hq : te σ' H Q) : codeAny (model X.prog X.w) A (.call (.ref g) ⟨[u], []⟩) (CR gO X.stack X.prog X.w H s Q E0) s := by
 have hg := (I.pin _ (List.mem_append_right _ hp)).1
 refine kla_callFunE hr.depth hg rfl S.co S.gen rfl iP ?_
 rw [rG]
 refine wpAny_pure (wpAny_newFunctionEnv S.rY (fun y hy => ?_) (fun h1 yB GV => ?_) S.kind)
 . rw [List.mem_singleton.mp hy]; exact S.par
 have hk : ∀ b o, s.heap.get? b = some o -> h1.get? b = some o := fun b o e => GV.extBut b o (Nat.ne_of_lt (Heap.lt_size e)) (Heap.get?_push_of_some _ e)
 refine ⟨I.nolimit.keeps hk, kla_codeExpr ?_⟩
 have J := oS (qual := qual) (g := g) (cd := .ref c') (tk := s.toks + 1) I hA hr.hd S gH jm pX rv yB hk
 refine wpAny_mono (ht [] _ σ' H Q J hq) (fun w s' h => ?_) fun _ _ h => h.elim
 obtain ⟨v', H', J', r', q'⟩ := h
 exact ⟨v', H', J'.os, J'.bare, J'.base, J'.aL, r', q'⟩
end
section
variable {X : Cx} {pins : List (Addr × Obj)} {σ : St} {H : Hp} {s : Shared} {f a : Addr} {sp : Sp} {kf : V -> Int × Str} {A : Around}
def jK (X : Cx) (pins : List (Addr × Obj)) (σ : St) (H : Hp) (f : Addr) (sp : Sp) : Prop := ∀ (pl : List (Addr × Obj)) (s' : Shared) (H' : Hp) (v : V) (u : Value) (Q : VK), Inv X pl σ H' s' -> (∀ p ∈ pins, p ∈ pl) -> ai H H' -> RelV v u -> sp [v] H' Q E0 ->
 wpAny (model X.prog X.w) X.A.in1.in1 (call (.ref f) [u]) (EP X pl σ Q) (fun _ _ => False) s'
theorem iA {kS : Addr} {oa : Obj} {body : Value -> PUnit -> Sem (ForInStep PUnit)} {E : Value -> Shared -> Prop} (KC : jK X pins σ H f sp) (zb : ∀ v, oa.data ≠ .cell v)
 (eu : ∀ x (s' : Shared) (R : Shared -> Prop), wpAny (model X.prog X.w) X.A.in1.in1 (call (.ref f) [x]) (fun k s2 => ∃ us e, s2.heap.get? kS = some (seqObj "list" (List.toArray us) e) /\ us.length < 64 /\ R { s2 with heap := s2.heap.update kS (Obj.mapSeq (·.push k)) }) (fun _ _ => False) s' ->
  wpAny (model X.prog X.w) X.A.in1.in1 (body x ⟨⟩) (fun r s2 => r = .yield ⟨⟩ /\ R s2) E s')
 (fa : bL X pins H a) (fk : bL X pins H kS) (lg : a ≠ kS) : ∀ (rx : List V) (r : List Value) (xs : List V) (s' : Shared), Vals rx r -> ic sp kf H rx -> xs.length + rx.length < 64 -> o8 X pins σ H kf a kS oa xs s' ->
  wpAny (model X.prog X.w) X.A.in1.in1 (forIn r PUnit.unit body) (fun _ s2 => o8 X pins σ H kf a kS oa (xs ++ rx) s2) E s'
 | [], _, xs, s', hv, _, _, hK => by
   cases hv
   rw [List.forIn_nil, List.append_nil]
   exact wpAny_pure hK
 | v :: rx, _, xs, s', .cons (b := u) (l₂ := r) hu hv, AQ, hlen, ⟨H', us, e, ys, I, sm, ha, hk, B2, C1, rv, dv⟩ => by
   rw [List.forIn_cons]
   have Fz := fa.keep (H' := H') ha
   have FE := fk.keep (H' := H') hk
   have I' : Inv X (pins ++ [(a, oa), (kS, seqObj "list" (List.toArray us) e)]) σ H' s' := by
    refine I.cX fun p hp => ?_
    rcases List.mem_append.mp hp with hp | hp
    . exact I.pin p (List.mem_append_right _ hp)
    . rcases List.mem_cons.mp hp with rfl | hp
      . exact ⟨B2, ha, fa.2.1, fa.2.2.1, zb⟩
      . have : p = (kS, seqObj "list" (List.toArray us) e) := by simpa using hp
        subst this
        exact ⟨C1, hk, fk.2.1, fk.2.2.1, fun v z => by cases z⟩
   have GH : us.length = xs.length := by rw [<- rv.length, dv.length, List.length_map]
   refine wpAny_bind (wpAny_mono (eu u s' (fun s2 => o8 X pins σ H kf a kS oa (xs ++ [v]) s2) (wpAny_mono (KC _ s' H' v u _ I' (fun p hp => List.mem_append_left _ hp) sm hu (AQ v List.mem_cons_self H' sm)) (fun kv s2 hq => ?_) fun _ _ z => z)) (fun q s2 hq => ?_) fun _ _ z => z)
   . obtain ⟨y, H2, I2, ry, fy, dy⟩ := hq
     have p1 := I2.pin (a, oa) (List.mem_append_right _ (List.mem_append_right _ List.mem_cons_self))
     have p2 := I2.pin (kS, seqObj "list" (List.toArray us) e) (List.mem_append_right _ (List.mem_append_right _ (List.mem_cons_of_mem _ List.mem_cons_self)))
     have I3 : Inv X pins σ H2 s2 := I2.dw
     refine ⟨us, e, p2.1, by simp at hlen; omega, ?_⟩
     obtain ⟨c, hc⟩ : ∃ c, (s2.heap.update kS (Obj.mapSeq (·.push kv))).get? kS = some (seqObj "list" (List.toArray (us ++ [kv])) c) := by
      have ea : (List.toArray us).push kv = List.toArray (us ++ [kv]) := by simp
      rw [<- ea]
      exact ⟨_, get?_update_seq p2.1 (·.push kv)⟩
     refine ⟨H2, us ++ [kv], c, ys ++ [y], I3.kL (fk.keep p2.2.1), sm.trans fy, p1.2.1, p2.2.1, ?_, hc, rv.append (.cons ry .nil), ?_⟩
     . show (s2.heap.update kS _).get? a = some oa
       rw [Heap.get?_update_ne _ _ _ _ lg]; exact p1.1
     . rw [List.map_append]
       exact (dv.keeps fy).append (.cons dy .nil)
   . obtain ⟨rfl, hq⟩ := hq
     have := iA KC zb eu fa fk lg rx r (xs ++ [v]) s2 hv (fun z hz => AQ z (List.mem_cons_of_mem _ hz)) (by simp at hlen ⊢; omega) hq
     rw [List.append_assoc] at this
     exact this
theorem ky {l : Addr} {xs : List V} {Q : VK} {E : Value -> Shared -> Prop} (I : Inv X pins σ H s) (m6 : xs.length < 64) (C3 : ∀ (R : List Value -> Shared -> Prop) (E' : Value -> Shared -> Prop), (∀ vs s2, Vals xs vs -> Inv X pins σ H s2 -> R vs s2) -> wpAny (model X.prog X.w) X.A.in1 (collect (.ref l)) R E' s) (KC : jK X pins σ H f sp)
 (hk : ic sp kf H xs) (fin : jy X pins σ H bX kf xs Q) : wpAny (model X.prog X.w) X.A (call (.builtin "sorted") [.ref l] [(Str.ofString "key", .ref f)]) (EP X pins σ Q) E s := by
 have wZ : (64 : Nat) <= sizeLine := by decide
 refine call_function_entry_kw kind_sorted plain_sorted entry_sorted (ksk_s1 _ _) ?_
 unfold Builtin.«sorted»
 refine wpAny_bind (m := checkCount "sorted" 1 1 _) (wpAny_pure ?_)
 refine wpAny_bind (C3 _ _ fun vs s2 rv I2 => ?_)
 have lx := rv.length
 refine wpAny_bind (wpAny_newList ?_ (by omega))
 obtain ⟨h2, g2, d2, t2, o2⟩ := s2
 have mK : (h2.push (seqObj "list" vs.toArray 0)).get? h2.objs.size = some (seqObj "list" vs.toArray 0) := Heap.get?_push_size _ rfl
 have I3 : Inv X pins σ H (⟨h2.push (seqObj "list" vs.toArray 0), g2, d2, t2, o2⟩ : Shared) := I2.fK
 have fa : bL X pins H h2.objs.size := I2.fH (Nat.le_refl _) (I2.aL.fresh (Nat.le_refl _))
 have qJ : X.bN.heap.objs.size <= h2.objs.size := I2.sz
 show wpAny _ _ _ _ _ (⟨h2.push (seqObj "list" vs.toArray 0), g2, d2, t2, o2⟩ : Shared)
 generalize h2.objs.size = a at *
 refine wpAny_bind (wpAny_holding (wpAny_call_entry_kw slot_list_sort ⟨_, mK, rfl⟩ entry_list_sort ?body (ksk_l1 _ _)))
 case body =>
  show wpAny (model X.prog X.w) X.A.in1.in1 (Builtin.«list.sort» ⟨[.ref a], [(Str.ofString "key", .ref f)]⟩) _ _ _
  rw [ksk_t1]
  generalize h2.push (seqObj "list" vs.toArray 0) = h3 at *
  unfold ksk_tree
  refine wpAny_bind (listItems_at mK rfl ?_)
  refine wpAny_bind (listUpdate_at mK rfl ?_ (by rw [List.size_toArray]; omega) (Nat.zero_le _))
  have I4 : Inv X pins σ H (⟨h3.update a (Obj.mapSeq fun _ => (#[] : Array Value)), g2, d2, t2, o2⟩ : Shared) := I3.kL fa
  obtain ⟨e1, oa⟩ : ∃ e1, (h3.update a (Obj.mapSeq fun _ => (#[] : Array Value))).get? a = some (seqObj "list" #[] e1) := ⟨_, get?_update_seq mK fun _ => #[]⟩
  generalize h3.update a (Obj.mapSeq fun _ => (#[] : Array Value)) = h4 at *
  refine wpAny_bind (seqEpoch_at oa rfl ?_)
  refine wpAny_bind (wpAny_newTuple ?_ (by show vs.length <= _; omega))
  have I5 : Inv X pins σ H (⟨h4.push (seqObj "tuple" vs.toArray 0), g2, d2, t2, o2⟩ : Shared) := I4.fK
  have Ae : (h4.push (seqObj "tuple" vs.toArray 0)).get? a = some (seqObj "list" #[] e1) := Heap.get?_push_of_some _ oa
  show wpAny _ _ _ _ _ (⟨h4.push (seqObj "tuple" vs.toArray 0), g2, d2, t2, o2⟩ : Shared)
  generalize h4.push (seqObj "tuple" vs.toArray 0) = h5 at *
  refine wpAny_bind (wpAny_newList ?_ (Nat.zero_le _))
  have I6 : Inv X pins σ H (⟨h5.push (seqObj "list" #[] 0), g2, d2, t2, o2⟩ : Shared) := I5.fK
  have fk : bL X pins H h5.objs.size := I5.fH (Nat.le_refl _) (I5.aL.fresh (Nat.le_refl _))
  have DR : (h5.push (seqObj "list" #[] 0)).get? a = some (seqObj "list" #[] e1) := Heap.get?_push_of_some _ Ae
  have Dq : (h5.push (seqObj "list" #[] 0)).get? h5.objs.size = some (seqObj "list" #[] 0) := Heap.get?_push_size _ rfl
  have lg : a ≠ h5.objs.size := Nat.ne_of_lt (Heap.lt_size Ae)
  show wpAny _ _ _ _ _ (⟨h5.push (seqObj "list" #[] 0), g2, d2, t2, o2⟩ : Shared)
  show wpAny _ _ (holding [_, .ref h5.objs.size] (ksk_rest a (.ref f) false vs.toArray e1 (.ref h5.objs.size))) _ _ _
  generalize h5.objs.size = kS at *
  generalize h5.push (seqObj "list" #[] 0) = h6 at *
  refine wpAny_holding ?_
  unfold ksk_rest
  refine wpAny_bind (wpAny_rule ?_)
  first
   | rw [List.forIn_toArray]
   | (rw [<- Array.forIn_toList]; simp only [List.toList_toArray])
  refine wpAny_bind (wpAny_mono (iA (kf := kf) KC (oa := seqObj "list" #[] e1) (fun v z => by cases z) (fun x s' R hx => ?_) fa fk lg xs vs [] (⟨h6, g2, d2, t2, o2⟩ : Shared) rv hk (by simpa using m6) ⟨H, [], 0, [], I6, ai.refl _, fa.1, fk.1, DR, Dq, .nil, .nil⟩) (fun _ s7 hK => ?_) fun _ _ z => z)
  . refine wpAny_bind (wpAny_attempt (wpAny_mono hx (fun kv s2 hq => ?_) fun _ _ z => z.elim))
    obtain ⟨us, e, ok, bZ, hR⟩ := hq
    dsimp only
    refine wpAny_bind (listUpdate_at ok rfl ?_ (by rw [List.size_toArray]; omega) (by rw [Array.size_push, List.size_toArray]; omega))
    exact wpAny_pure ⟨rfl, hR⟩
  . obtain ⟨H', us, e, ys, I7, sm, D9, Dt, CZ, zr, ry, dv⟩ := hK
    try dsimp only
    refine wpAny_bind (listItems_at zr rfl ?_)
    refine k8 sm fa.1 I7 (fa.keep D9) (fk.keep Dt) lg qJ CZ zr m6 rv ry (by simpa using dv) fin (fun s8 h8 => ⟨_, rfl, wpAny_pure ⟨_, rfl, h8⟩⟩)
end
def nJ (te : TE) (js : List Nat) (σ : St) : Sp := fun vs H Q _ => ∃ v, vs = [v] /\ te (some v :: js.map fun j => σ.getD j none) H Q
structure kj (X : Cx) (P : Addr) (params : Arguments) (scope : Scope) (p : Str) (xs : List Str) (js : List Nat) : Prop where
 sc : fC (p :: xs) p scope
 cd : ∃ c, X.env.code = .ref c /\ CodeHd X.base c P
 bm : BM X.mg X.base
 df : defaultsOf params X.env = ([], [])
 bd : ∀ (name qual : Str) (body : Expr) (aV : List (Str × Addr)) (pm cv j8 u : Value), bindArgs (kla_fn name qual params body scope aV pm cv j8) ⟨[u], []⟩ = pure [(p, u)]
 cl : X.Ok -> ∃ aV, closureFor scope X.env = pure aV /\ (∀ x c, aV.lookup x = some c -> X.env.cells.lookup x = some c) /\ ∀ x, scope.names.lookup x = some .free -> ∃ c, aV.lookup x = some c
 st : ∀ (i : Nat) (x : Str), xs[i]? = some x -> scope.names.lookup x = some .free /\ ∃ j : Nat, js[i]? = some j /\ X.N[j]? = some x /\ (X.env.kindOf x = some .cell \/ X.env.kindOf x = some .free)
 ln : js.length = xs.length
section
variable {X : Cx} {pins : List (Addr × Obj)} {σ : St} {H : Hp} {s : Shared} {P : Addr} {params : Arguments} {body : Expr} {scope : Scope} {p : Str} {xs : List Str} {js : List Nat} {te : TE} {k : Nat} {pos : Pos}
theorem kj.yZ (L : kj X P params scope p xs js) (v : V) : pS X σ (p :: xs) scope v (some v :: js.map fun j => σ.getD j none) := by
 refine ⟨by simp [L.ln], rfl, fun i x w hi hx hw => ?_⟩
 obtain ⟨i, rfl⟩ : ∃ i', i = i' + 1 := ⟨i - 1, by omega⟩
 obtain ⟨h1, j, h2, h3, h4⟩ := L.st i x (by simpa using hx)
 refine ⟨h1, j, h3, ?_, h4⟩
 have hw : (js.map fun j => σ.getD j none)[i]? = some (some w) := by simpa using hw
 rw [List.getElem?_map, h2] at hw
 have hw : σ.getD j none = some w := by simpa using hw
 rw [List.getD_eq_getElem?_getD] at hw
 cases e : σ[j]? with
 | none => rw [e] at hw; cases hw
 | some o => rw [e] at hw; rw [show o = some w from hw]
theorem sJ {pl : List (Addr × Obj)} {H1 : Hp} {g c' : Addr} {pm j8 : Value} {aV : List (Str × Addr)} (L : kj X P params scope p xs js) (hr : bo (k + 3) X.A) (gH : ∀ x c, aV.lookup x = some c -> X.env.cells.lookup x = some c) (jm : ∀ x, scope.names.lookup x = some .free -> ∃ c, aV.lookup x = some c)
 (hp : (g, kla_obj "<lambda>" (X.env.qual ++ "<lambda>") params body scope aV pm c' j8) ∈ pl) (hc : H1 c' = some (gT c' (X.env.qual ++ "<lambda>")))
 (hb : ∀ (A : Around) (g : Addr) (cd : Value) (aV : List (Str × Addr)) (s : Shared) (H : Hp), bo k (A.deeper (iz (X.env.qual ++ "<lambda>") scope s.heap.objs.size g cd aV)) -> PE (kx X A (p :: xs) (X.env.qual ++ "<lambda>") scope g cd aV s H) body te) : jK X pl σ H1 g (nJ te js σ) := by
 intro Im s' H' v u Q I' sN sm rv hs
 obtain ⟨_, e, hq⟩ := hs
 obtain rfl := (List.cons.inj e).1
 have Ek : bo (k + 1) X.A.in1.in1 := bo.in1 (bo.in1 hr)
 have GF : s'.heap.CodeRec (.ref c') (X.env.qual ++ "<lambda>") := (I'.aL c' _ (sm _ _ hc)).1
 have Cz : X.A.in1.in1.frames = some X.stack := I'.uC.in1.in1.frames
 refine wpAny_call (codeAny_mono (tq (k := k) I' Cz Ek L.sc gH jm (sN _ hp) GF (L.bd _ _ _ _ _ _ _ u) (L.yZ v) rv (hb _ _ _ _ _ _ (Ek.deeper _)) hq) fun r s2 hq => ?_)
 cases r with
 | error e => exact hq.elim
 | ok fl =>
   cases fl with
   | ret u => exact I'.after hq
   | next => exact False.elim hq
   | brk => exact False.elim hq
   | cont => exact False.elim hq
variable {e : Expr} {t : TA} {pn p2 bM n6 : Pos}
end
theorem nX {P : Program} {w : World} {K : PySem.W.Frag} {mg mb : Str -> Option Value} {CX : kG} {k : Nat} {fa a : Addr} {fd : FuncData} {x : Str} {sp : Sp} {s₁ : Shared} {vs : List Value} {ns : List Int} {ts : List Addr}
 (KX : K.In s₁.heap) (yB : s₁.heap.Ns mainGlobals mg) (hb : s₁.heap.Ns builtinsNs mb) (FL : ∀ x : Str, x ≠ "__name__" -> mb x = bootBuiltins x) (DJ : s₁.heap.NoLimit) (Dm : BM mg s₁.heap) (mO : ∀ b ∈ ts, s₁.heap.get? b = some (tabObj #[]) /\ K.lookup b = none /\ ∃ c, CodeHd s₁.heap c b) (hg : s₁.gens = #[])
 (ha : s₁.heap.get? a = some { cls := .type "list", data := .seq vs.toArray }) (hi : IntsAre vs ns) (hl : ns.length <= sizeLine) (hr : bo k callerA)
 (F : ∀ base : Heap, K.In base -> base.Ns mainGlobals mg -> BM mg base -> bQ P w K mg base CX k fa fd [x] sp) (rG : ∀ (s : Shared) (u : Value), BindsTo s fd ⟨[u], []⟩ [(x, u)])
 (sj : ∀ H : Hp, bF K H a (ns.map V.int) -> (∀ b ∈ ts, H b = some (.eO #[])) -> sp [.ref a] H (fun v _ => v = .bl true) fun _ _ _ => False)
 (C0 : ∀ H e s', CX [] H s₁ (fun _ _ _ => False) e s' -> False) :
 codeAny (model P w) callerA (.call (.ref fa) ⟨[.ref a], []⟩) (fun r s' => r = .ok (.ret (.bool true)) /\ OldK s₁.heap s'.heap /\ s'.os = s₁.os /\ AllBare s'.gens) s₁ := by
 have rv := gf hi
 have DE := hi.length
 have core : ∀ H : Hp, bF K H a (ns.map V.int) -> fc P w H s₁.heap -> (∀ b, H b = none \/ (b = a /\ ∃ o xs, H b = some (.nM o (.lst xs))) \/ (b ∈ ts /\ H b = some (.eO #[]))) -> (∀ b ∈ ts, H b = some (.eO #[])) -> (H a ≠ none -> K.lookup a = none) ->
  codeAny (model P w) callerA (.call (.ref fa) ⟨[.ref a], []⟩) (fun r s' => r = .ok (.ret (.bool true)) /\ OldK s₁.heap s'.heap /\ s'.os = s₁.os /\ AllBare s'.gens) s₁ := by
  intro H hS aL hA Hj hK
  have jD : ∀ {b : Addr} {o : Obj}, s₁.heap.get? b = some o -> H b = none -> (iU s₁.heap H).get? b = some o := fun e n => rS e n
  have sV : ∀ {b : Addr} {o : Obj} {es : Array DictEntry} {ep : Nat}, s₁.heap.get? b = some o -> o.data = .dict es ep -> H b = none := fun {b o es ep} e d => by
   cases q : H b with
   | none => rfl
   | some u =>
     rcases hA b with z | ⟨e', _⟩ | ⟨hb, _⟩
     . rw [q] at z; cases z
     . subst e'
       rw [ha] at e; cases e
       have d' : Data.seq vs.toArray _ = Data.dict es ep := d
       cases d'
     . rw [(mO b hb).1] at e; cases e
       have d' : Data.fields #[] = Data.dict es ep := d
       cases d'
  have Bt : ∀ {b : Addr} {m : Str -> Option Value}, s₁.heap.Ns b m -> (iU s₁.heap H).Ns b m := fun {b m} ⟨o, es, ep, e, d, r⟩ => ⟨o, es, ep, jD e (sV e d), d, r⟩
  have E3 : K.In (iU s₁.heap H) := fun b o e => jD (KX b o e) (by
   cases q : H b with
   | none => rfl
   | some u =>
     rcases hA b with z | ⟨e', _⟩ | ⟨hb, _⟩
     . rw [q] at z; cases z
     . subst e'
       rw [hK (by rw [q]; simp)] at e; cases e
     . rw [(mO b hb).2.1] at e; cases e)
  have GJ : BM mg (iU s₁.heap H) := by
   obtain ⟨bm, ob, b1, b2, b3, b4, b5, b6⟩ := Dm
   refine ⟨bm, ob, b1, b2, jD b3 ?_, b4, b5, b6⟩
   rcases hA bm with z | ⟨e', _⟩ | ⟨hb, _⟩
   . exact z
   . rw [e', ha] at b3; cases b3; exact absurd (Value.type.inj b4) (by decide)
   . rw [(mO bm hb).1] at b3; cases b3; cases b4
  have hM : Mod K mg (iU s₁.heap H) := ⟨E3, Bt yB, ⟨mb, Bt hb, FL⟩, let ⟨mc, h1, h2⟩ := DJ; ⟨mc, Bt h1, h2⟩⟩
  have e0 : md P w K mg (iU s₁.heap H) callerA [] s₁ H := ⟨rfl, hM, fun b o e => ux e, Nat.le_of_eq (px _ _), trivial, fun b hb => absurd (show b ∈ ([] : List Addr) from hb) (by simp), aL, .of_eq hg⟩
  refine codeAny_mono ((F _ E3 (Bt yB) GJ).run callerA [] s₁ H ⟨[.ref a], []⟩ [.ref a] [.ref a] _ _ hr e0 (rG s₁ (.ref a)) (.cons rfl .nil) (sj H hS Hj)) fun r s' h => ?_
  cases r with
  | error e => exact (C0 H e s' h).elim
  | ok fl =>
    cases fl with
    | next => exact False.elim h
    | brk => exact False.elim h
    | cont => exact False.elim h
    | ret u =>
      obtain ⟨v, H', os, bare, un, zH, r', q⟩ := h
      have q' : v = .bl true := q
      subst q'
      obtain rfl : u = Value.bool true := r'
      have key : ∀ b o, s₁.heap.get? b = some o -> s'.heap.get? b = some o \/ (b ∈ ts /\ o = tabObj #[] /\ ∃ more, s'.heap.get? b = some (tabObj (#[] ++ more))) := fun b o e => by
       rcases hA b with q | ⟨_, ob, xs, z⟩ | ⟨hb, z⟩
       . exact .inl (un.keep b o e q (by intro z; exact absurd (show b ∈ ([] : List Addr) from z) (by simp)) (by simp))
       . have z2 := un.fW b ob _ z
         obtain ⟨e1, _⟩ := aL b _ z
         obtain ⟨e2, _⟩ := zH b _ z2
         rw [e] at e1; cases e1
         exact .inl e2
       . obtain ⟨more, z2⟩ := un.gU b _ z
         have e1 := (mO b hb).1
         rw [e] at e1; cases e1
         exact .inr ⟨hb, rfl, more, zH b _ z2⟩
      refine ⟨rfl, ⟨fun b o e => ?_, fun b o e => ?_⟩, os, bare⟩
      . rcases key b o e with z | ⟨hb, rfl, more, z⟩
        . exact .inl z
        . obtain ⟨h1, _, c, hC⟩ := mO b hb
          exact .inr (.inl ⟨(hC.tab h1).isCodeTable, rfl, #[], more, rfl, z⟩)
      . rcases key b o e with z | ⟨_, _, more, z⟩
        . exact ⟨_, z⟩
        . exact ⟨_, z⟩
 have nat : ∀ b ∈ ts, b ≠ a := fun b hb z => by
  have := (mO b hb).1
  rw [z, ha] at this; cases this
 have Ed : ∀ (H : Hp) (b : Addr), b ∈ ts -> bx P w H s₁.heap b (.eO #[]) := fun H b hb => (mO b hb).1
 cases hk : K.lookup a with
 | some o =>
   have e := KX a o hk
   rw [ha] at e
   cases e
   refine core (fun b => if b ∈ ts then some (.eO #[]) else none) (.inr ⟨_, vs.toArray, _, hk, rfl, rfl, rfl, by rw [List.size_toArray, DE]; exact hl, by simpa using rv⟩) (fun b u z => ?_) (fun b => ?_) (fun b hb => if_pos hb) (fun z => absurd (if_neg fun y => nat a y rfl) z)
   . by_cases hb : b ∈ ts
     . have z' := (if_pos hb).symm.trans z
       cases z'
       exact Ed _ b hb
     . have z' := (if_neg hb).symm.trans z
       cases z'
   . by_cases hb : b ∈ ts
     . exact .inr (.inr ⟨hb, if_pos hb⟩)
     . exact .inl (if_neg hb)
 | none =>
   have e1 : ∀ b, b ≠ a -> b ∈ ts -> (fun b => if b = a then some (HO.nM { cls := .type "list", data := .seq vs.toArray } (.lst (ns.map V.int))) else if b ∈ ts then some (.eO #[]) else none) b = some (.eO #[]) := fun b h1 h2 => by simp [h1, h2]
   have e2 : ∀ b, b ≠ a -> b ∉ ts -> (fun b => if b = a then some (HO.nM { cls := .type "list", data := .seq vs.toArray } (.lst (ns.map V.int))) else if b ∈ ts then some (.eO #[]) else none) b = none := fun b h1 h2 => by simp [h1, h2]
   refine core (fun b => if b = a then some (.nM { cls := .type "list", data := .seq vs.toArray } (.lst (ns.map V.int))) else if b ∈ ts then some (.eO #[]) else none) (.inl (.inr ⟨{ cls := .type "list", data := .seq vs.toArray }, if_pos rfl⟩)) (fun b u z => ?_) (fun b => ?_) (fun b hb => e1 b (nat b hb) hb) fun _ => hk
   . by_cases hb : b = a
     . have z' := (if_pos hb).symm.trans z
       cases z'
       subst hb
       exact ⟨ha, by rw [List.length_map]; exact hl, vs, _, rv, ha⟩
     . by_cases j4 : b ∈ ts
       . have z' := (e1 b hb j4).symm.trans z
         cases z'
         exact Ed _ b j4
       . have z' := (e2 b hb j4).symm.trans z
         cases z'
   . by_cases hb : b = a
     . exact .inr (.inl ⟨hb, _, _, if_pos hb⟩)
     . by_cases j4 : b ∈ ts
       . exact .inr (.inr ⟨j4, e1 b hb j4⟩)
       . exact .inl (e2 b hb j4)
theorem rP {l : PySem.W.OpenLaw} {n k : Nat} {q : Program} {loose : List Str} {XP : (Str -> Option Value) -> Heap -> Prop} {YP : World -> Heap -> Prop} {d : DefRec} {K : Params -> PySem.W.Frag} {CX : kG} {sp : List Addr -> PySem.W.Frag -> Sp} {x : Str} {ts : List Addr}
 (hn : l.most = some n) (vI : n <= sizeLine) (CG : d.params.defaults = []) (hr : bo k callerA)
 (hY : ∀ (w : World) (h : Heap), YP w h -> (K w.params).In h /\ ∀ b ∈ ts, h.get? b = some (tabObj #[]))
 (F : ∀ (w : World) (mg : Str -> Option Value) (fa : Addr) (h : Heap), (K w.params).In h -> h.Ns mainGlobals mg -> mg d.name = some (.ref fa) ->
  ∃ fd : FuncData, (∀ (s : Shared) (u : Value), BindsTo s fd ⟨[u], []⟩ [(x, u)]) /\ (∀ b ∈ ts, (K w.params).lookup b = none /\ ∃ c, CodeHd h c b) /\
    ∀ base : Heap, (K w.params).In base -> base.Ns mainGlobals mg -> BM mg base -> bQ l.prog w (K w.params) mg base CX k fa fd [x] (sp ts (K w.params)))
 (sj : ∀ (K : PySem.W.Frag) (H : Hp) (a : Addr) (ns : List Int), ns.length <= n -> bF K H a (ns.map V.int) -> (∀ b ∈ ts, H b = some (.eO #[])) -> sp ts K [.ref a] H (fun v _ => v = .bl true) fun _ _ _ => False)
 (C0 : ∀ (H : Hp) (s : Shared) (e : Value) (s' : Shared), CX [] H s (fun _ _ _ => False) e s' -> False) :
 PySem.W.WalkO q loose XP YP l.row.toRowW d [] (fun f vs => PySem.call f vs) := by
 refine En.j9 hn CG fun w bN s₁ mg mb fa o pm cd doc a vs ns G Y ho hd iP wm xi hints hlen hg => ?_
 obtain ⟨KX, hT⟩ := hY w _ Y
 obtain ⟨fd, hb, hK, hF⟩ := F w mg fa _ KX G.T.g wm
 exact nX KX G.T.g G.T.b G.T.builtins G.T.nolimit G.T.bmain (fun b hb => ⟨hT b hb, hK b hb⟩) hg xi hints (Nat.le_trans hlen vI) hr hF hb (fun H hS hT => sj (K w.params) H a ns hlen hS hT) fun H e s' => C0 H s₁ e s'
structure wk (K : PySem.W.Frag) (f c P : Addr) : Prop where
 fn : ∃ (oc : Value) (od : Option Addr) (fd : FuncData) (sl : Array (Option Value)), K.lookup f = some ⟨oc, od, .func fd, sl⟩ /\ fd.code = .ref c
 cd : codeHdIn K c P = true
 no : K.lookup P = none
theorem tR {K : PySem.W.Frag} {f c P : Addr} {oc : Value} {od Fl : Option Addr} {fd : FuncData} {sl Bk : Array (Option Value)} {vs : Array Value} (l : K.lookup f = some ⟨oc, od, .func fd, sl⟩) (e : fd.code = .ref c) (lc : K.lookup c = some ⟨.type "code", Fl, .fields vs, Bk⟩) (ev : vs.getD 11 .none = .ref P)
 (cd : codeHdIn K c P = true) (no : K.lookup P = none) : wk K f c P := ⟨⟨oc, od, fd, sl, l, e⟩, cd, no⟩
structure zX (K : PySem.W.Frag) (fd : FuncData) (c P : Addr) : Prop where
 e : fd.code = .ref c
 cd : codeHdIn K c P = true
 no : K.lookup P = none
theorem uy {K : PySem.W.Frag} {x qual : Str} {st : Stmt} {f c P : Addr} {dV : Value} {fd : FuncData} (F : cW K x qual st f dV fd) (L : wk K f c P) : zX K fd c P := by
 obtain ⟨oc, od, kV, doc, pm, an, du, ct, oG, rfl, lk, _⟩ := F.ex
 obtain ⟨HV, Fl, HK, Bk, l, e⟩ := L.fn
 rw [lk] at l
 cases l
 exact ⟨e, L.cd, L.no⟩
structure Bs (K : PySem.W.Frag) (mg : Str -> Option Value) (base : Heap) : Prop where
 k : K.In base
 b : BM mg base
section
variable {P : Program} {w : World} {K : PySem.W.Frag} {mg : Str -> Option Value} {base : Heap}
theorem cW.Fw {x qual : Str} {st : Stmt} {f : Addr} {dV : Value} {fd : FuncData} {N ps : List Str} {k : Nat} {sp : Sp} (F : cW K x qual st f dV fd) (S : bb N ps (aq st)) (len : ∀ vs H Q E, sp vs H Q E -> vs.length = ps.length)
 (eu : ∀ (A : Around) (outer : List Env) (s : Shared) (H : Hp) (vs : List V) (Q : VK) (E : XK), bo k (A.deeper (envOfC qual (aq st) s.heap.objs.size f fd.code)) -> sp vs H Q E ->
  ∃ t, k7 (my gO P w K mg base N qual (aq st) f fd.code A outer s H E).yP (dC st) t /\ t { nx := fun _ H' => Q .bG H', rt := Q } (start N vs) H) : bQ P w K mg base gO (k + 1) f fd ps sp := by
 obtain ⟨oc, od, kV, doc, pm, an, du, ct, oG, rfl, lk, iP⟩ := F.ex
 refine uY lk iP S len fun A outer s H vs Q E hr sj => ?_
 obtain ⟨t, h, q⟩ := eu A outer s H vs Q E hr sj
 exact ⟨t, h.yP, q⟩
end
section
variable {X : Cx} {P : Addr} {params : Arguments} {scope : Scope} {p x : Str} {j : Nat}
theorem s9 (hf : (scope.names.filter fun y => y.2 == .free) = []) : X.Ok -> ∃ aV, closureFor scope X.env = pure aV /\ (∀ x c, aV.lookup x = some c -> X.env.cells.lookup x = some c) /\ ∀ x, scope.names.lookup x = some .free -> ∃ c, aV.lookup x = some c := fun _ => by
 refine ⟨[], ?_, fun x c h => (nomatch h), fun x h => ?_⟩
 . unfold closureFor
   have : ∀ (names : List (Str × NameKind)) (acc : List (Str × Addr)), (names.filter fun y => y.2 == .free) = [] -> (forIn names acc fun (y : Str × NameKind) (cs : List (Str × Addr)) => (if (y.2 == NameKind.free) = true then (do let a <- cellOf X.env y.1; pure (ForInStep.yield ((y.1, a) :: cs))) else pure (ForInStep.yield cs) : Sem _)) = pure acc := by
    intro names
    induction names with
    | nil => intro acc _; rfl
    | cons y r ih =>
      intro acc h
      rw [List.forIn_cons]
      have hy : (y.2 == NameKind.free) = false := by
       cases z : (y.2 == NameKind.free) with
       | false => rfl
       | true => rw [List.filter_cons, if_pos z] at h; cases h
      rw [List.filter_cons, if_neg (by rw [hy]; decide)] at h
      simp only [hy, Bool.false_eq_true, if_false, pure_bind]
      exact ih acc h
   have := this scope.names [] hf
   simp only [bind_pure_comp] at this ⊢
   rw [this, pure_bind]
 . have := List.mem_filter (p := fun y : Str × NameKind => y.2 == .free) |>.mpr ⟨PySem.mem_of_lookup h, (rfl : (NameKind.free == NameKind.free) = true)⟩
   rw [hf] at this; cases this
theorem rK (sc : fC [p] p scope) (cd : ∃ c, X.env.code = .ref c /\ CodeHd X.base c P) (bm : BM X.mg X.base) (df : defaultsOf params X.env = ([], [])) (bd : ∀ (name qual : Str) (body : Expr) (aV : List (Str × Addr)) (pm cv j8 u : Value), bindArgs (kla_fn name qual params body scope aV pm cv j8) ⟨[u], []⟩ = pure [(p, u)])
 (hf : (scope.names.filter fun y => y.2 == .free) = []) : kj X P params scope p [] [] := ⟨sc, cd, bm, df, bd, s9 hf, fun i x h => by simp at h, rfl⟩
end
section
variable {σ : St} {H : Hp} {Q : VK} {K : PySem.W.Frag} {p : Addr} {m : List (Str × PyData)}
end
section
variable {σ : St} {H : Hp} {D : Ends} {p : Addr} {m : List (Str × PyData)} {g : TG} {tb : TS}
end
section
variable {σ : St} {H : Hp} {Q : VK} {K : PySem.W.Frag} {p : Addr} {m : List (Str × PyData)} {k : Str}
end
section
variable {σ : St} {H H' : Hp} {Q : VK} {K : PySem.W.Frag} {p l : Addr} {ns : List Str} {f : Str -> List PyData} {k : Str}
end
section
variable {H H' : Hp} {P : Addr} {pos : Pos} {q : Str}
theorem nG {te : TE} {js : List Nat} {σ : St} {v : V} {Q : VK} {E : XK} (h : te (some v :: js.map fun j => σ.getD j none) H Q) : nJ te js σ [v] H Q E := ⟨v, rfl, h⟩
end
section
variable {X : Cx}
end
def encL (es : List (Pos × Addr)) : List Value := es.flatMap fun e => [rawInt e.1.line, rawInt e.1.col, .ref e.2]
def bY (H : Hp) (P : Addr) (q : Str) : Prop := ∃ es : List (Pos × Addr), H P = some (.eO (encL es).toArray) /\ ∀ e ∈ es, e.2 ≠ P /\ H e.2 = some (gT e.2 q)
theorem bY.nil {H : Hp} {P : Addr} {q : Str} (h : H P = some (.eO #[])) : bY H P q := ⟨[], h, fun e he => by simp at he⟩
theorem bY.keeps {H H' : Hp} {P : Addr} {q : Str} (sm : ai H H') (h : bY H P q) : bY H' P q := by
 obtain ⟨es, h1, h2⟩ := h
 exact ⟨es, sm _ _ h1, fun e he => ⟨(h2 e he).1, sm _ _ (h2 e he).2⟩⟩
theorem bY.mv {H H' : Hp} {S : List Addr} {P : Addr} {q : Str} (mv : Mv S H H') (hS : ∀ b ∈ S, b ≠ P /\ ∀ φ, H b ≠ some (.ext φ)) (h : bY H P q) : bY H' P q := by
 obtain ⟨es, h1, h2⟩ := h
 exact ⟨es, mv.at (fun z => (hS _ z).1 rfl) h1, fun e he => ⟨(h2 e he).1, mv.at (fun z => (hS _ z).2 _ (h2 e he).2) (h2 e he).2⟩⟩
theorem bY.eO {H : Hp} {P : Addr} {q : Str} (h : bY H P q) : ∃ ps, H P = some (.eO ps) := let ⟨_, h1, _⟩ := h; ⟨_, h1⟩
theorem jx : ∀ es : List (Pos × Addr), TriplesOk (encL es)
 | [] => trivial
 | e :: r => by
   show TriplesOk (rawInt e.1.line :: rawInt e.1.col :: .ref e.2 :: encL r)
   have := jx r
   simpa [TriplesOk, rawInt] using this
theorem iB (pos : Pos) : ∀ es : List (Pos × Addr), codeAmong pos (encL es) = none \/ ∃ e ∈ es, codeAmong pos (encL es) = some (.ref e.2)
 | [] => .inl rfl
 | e :: r => by
   have hc : codeAmong pos (encL (e :: r)) = some (.ref e.2) \/ codeAmong pos (encL (e :: r)) = codeAmong pos (encL r) := by
    show codeAmong pos (rawInt e.1.line :: rawInt e.1.col :: .ref e.2 :: encL r) = _ \/ codeAmong pos (rawInt e.1.line :: rawInt e.1.col :: .ref e.2 :: encL r) = _
    simp only [codeAmong, rawInt]
    split
    . exact .inl rfl
    . exact .inr rfl
   rcases hc with hc | hc
   . exact .inr ⟨e, List.mem_cons_self, hc⟩
   . rw [hc]
     rcases iB pos r with h | ⟨e', FC, h⟩
     . exact .inl h
     . exact .inr ⟨e', List.mem_cons_of_mem _ FC, h⟩
theorem o7 (es : List (Pos × Addr)) (e : Pos × Addr) : (encL (es ++ [e])).toArray = (encL es).toArray ++ #[rawInt e.1.line, rawInt e.1.col, .ref e.2] := by
 unfold encL; rw [List.flatMap_append]; simp
section
variable {X : Cx} {pins : List (Addr × Obj)} {σ : St} {H : Hp} {s : Shared} {c P : Addr} {params : Arguments} {body : Expr} {scope : Scope} {pos : Pos} {aV : List (Str × Addr)} {E : Value -> Shared -> Prop}
theorem o4 {Q : Value -> Shared -> Prop} (I : Inv X pins σ H s) (iP : X.env.code = .ref c) (C : CodeHd X.base c P) (hB : BM X.mg X.base) (hT : bY H P (X.env.qual ++ "<lambda>")) (DX : defaultsOf params X.env = ([], [])) (gH : closureFor scope X.env = pure aV)
 (h : ∀ g c' pm j8 H' s', Inv X (pins ++ [(g, kla_obj "<lambda>" (X.env.qual ++ "<lambda>") params body scope aV pm c' j8)]) σ H' s' -> H' c' = some (gT c' (X.env.qual ++ "<lambda>")) -> Mv [P] H H' -> bY H' P (X.env.qual ++ "<lambda>") -> Q (.ref g) s') :
 wpAny (model X.prog X.w) X.A (eval (.Lambda params body scope pos) X.env) Q E s := by
 obtain ⟨bm, ob, b1, b2, b3, b4, b5, b6⟩ := hB
 have Et : s.heap.Ns mainGlobals X.mg := I.mod.glob.keeps I.bk
 have Cs := C.keeps I.bk
 have A9 : ∀ {h' : Heap} {H' : Hp} {o : Obj} {tk : Nat}, Inv X pins σ H' { s with heap := h'.push o, toks := tk } -> s.heap.objs.size <= h'.objs.size -> H' h'.objs.size = none -> (∀ v, o.data ≠ .cell v) -> o.isFreed = false -> Inv X (pins ++ [(h'.objs.size, o)]) σ H' { s with heap := h'.push o, toks := tk } := fun {h' H' o tk} J hsz hn hv jm => J.cX fun p hp => by
  rcases List.mem_append.mp hp with hp | hp
  . exact J.pin p (List.mem_append_right _ hp)
  . rw [List.mem_singleton.mp hp]
    exact ⟨Heap.get?_push_size _ jm, hn, Nat.ne_of_gt (Nat.lt_of_lt_of_le I.lt hsz), I.AI hsz, hv⟩
 have Fi : ∀ ps, H P = some (.eO ps) -> bm ≠ P := fun ps e z => by
  have := (I.bs bm ob b3).2
  rw [z, e] at this; cases this
 have Fb : bm ≠ mainGlobals := fun z => by
  obtain ⟨o, es, ep, e, hd, _⟩ := I.mod.glob
  rw [z, e] at b3; cases b3; rw [hd] at b6; cases b6
 have GC : ∀ ps, H P = some (.eO ps) -> mainGlobals ≠ P := fun ps e z => by
  obtain ⟨o, es, ep, e1, hd, _⟩ := I.mod.glob
  have := (I.bs _ o e1).2
  rw [z, e] at this; cases this
 refine kla_eval DX ?_
 obtain ⟨es, hT, BZ⟩ := hT
 have EZ : s.heap.get? P = some (tabObj (encL es).toArray) := I.aL P _ hT
 rcases iB pos es with zZ | ⟨e0, Gb, yT⟩
 . refine kla_makeFunction (mg := X.mg) gH I.ok.glob Et iP Cs EZ (jx es) zZ (GC _ hT) ⟨bm, ob, b1, b2, Fb, Fi _ hT, (I.bs _ _ b3).1, b4, b5, b6⟩ fun c' j8 h' tk hx yE bZ x9 Gg => ?_
   have J := I.grow (tk := tk) hT hx yE x9 Gg
   have lX : H c' = none := I.aL.fresh yE
   have BF : P ≠ c' := az hT lX
   have J2 := J.fK (o := kla_obj "<lambda>" (X.env.qual ++ "<lambda>") params body scope aV ((X.mg "__name__").getD .none) c' j8)
   have hsz : s.heap.objs.size <= h'.objs.size := Nat.le_trans yE (Nat.le_of_lt bZ)
   refine h h'.objs.size c' _ j8 _ _ (A9 J2 hsz (J.aL.fresh (Nat.le_refl _)) (fun v z => by cases z) rfl) aw ⟨fun b o hb e => ?_, fun b xs e => ?_, fun b e => ?_⟩ ⟨es ++ [(pos, c')], by rw [aj BF, aw, o7], fun e he => ?_⟩
   . rw [aj (az e lX), aj (by simpa using hb)]; exact e
   . rw [aj (az e lX), aj (fun z => by rw [z, hT] at e; cases e)]; exact e
   . by_cases hb : b = c'
     . rw [hb]; exact lX
     . rw [aj hb] at e
       by_cases j4 : b = P
       . rw [j4, aw] at e; cases e
       . rw [aj j4] at e; exact e
   . rcases List.mem_append.mp he with he | he
     . obtain ⟨h1, h2⟩ := BZ e he
       exact ⟨h1, by rw [aj (az h2 lX), aj h1]; exact h2⟩
     . rw [List.mem_singleton.mp he]
       exact ⟨Ne.symm BF, aw⟩
 . obtain ⟨h1, h2⟩ := BZ e0 Gb
   refine kla_makeFunctionHit (mg := X.mg) gH I.ok.glob Et iP Cs EZ (jx es) (cv := .ref e0.2) yT ⟨bm, ob, b1, b2, Fb, Fi _ hT, (I.bs _ _ b3).1, b4, b5, b6⟩ fun j8 h' tk hk hsz => ?_
   have J2 : Inv X pins σ H { s with heap := h'.push (kla_obj "<lambda>" (X.env.qual ++ "<lambda>") params body scope aV ((X.mg "__name__").getD .none) e0.2 j8), toks := tk } := I.kept fun b u e => Heap.get?_push_of_some _ (hk b u e)
   exact h h'.objs.size e0.2 _ j8 _ _ (A9 J2 hsz (I.aL.fresh hsz) (fun v z => by cases z) rfl) h2 Mv.refl ⟨es, hT, BZ⟩
end
section
variable {X : Cx} {P : Addr} {params : Arguments} {scope : Scope} {p : Str} {xs : List Str} {js : List Nat} {k : Nat} {body : Expr} {te : TE} {pos : Pos} {e : Expr} {t : TA} {pn p2 bM n6 : Pos}
def mV (K : PySem.W.Frag) (P : Addr) (q : Str) (te : TE) (js : List Nat) (t : TA) : TE := fun σ H Q => t σ H fun vs H1 => bY H1 P q /\ ∀ H2, Mv [P] H1 H2 -> bY H2 P q -> ig (nJ te js σ) K vs H2 Q
theorem je (L : kj X P params scope p xs js) (hr : bo (k + 3) X.A) (hg : Gl X "sorted") (hm : X.mg "sorted" = none) (ha : PA X [e] t)
 (hb : ∀ (A : Around) (g : Addr) (cd : Value) (aV : List (Str × Addr)) (s : Shared) (H : Hp), bo k (A.deeper (iz (X.env.qual ++ "<lambda>") scope s.heap.objs.size g cd aV)) -> PE (kx X A (p :: xs) (X.env.qual ++ "<lambda>") scope g cd aV s H) body te)
 (pX : backTo bM (starEach [e] X.env) = (false, eval e X.env) :: backTo bM (starEach [] X.env) := by rfl) (ka : (backTo bM (starEach [e] X.env)).any (·.1) = false := by rfl) :
 PE X (.Call (.Name "sorted" pn) [e] [⟨some "key", .Lambda params body scope pos, n6⟩] bM) (mV X.K P (X.env.qual ++ "<lambda>") te js t) := by
 intro pins s σ H Q I h
 obtain ⟨c, iP, hC⟩ := L.cd
 obtain ⟨aV, B7, gH, jm⟩ := L.cl I.ok
 refine wpAny_Call_Name_kw (cN I hg hm boot_sorted ?_)
 refine callWith_kw (bu (ha bM pins s σ H _ I h) fun us s1 ⟨vs, H1, I1, r1, hT, q1⟩ => ?_) pX ka
 refine wpAny_evalAll_cons (wpAny_bind (o4 I1 iP hC L.bm hT L.df B7 fun g c' pm j8 H2 s2 I2 hc mv G0 => wpAny_bind (wpAny_standAt (wpAny_pure (wpAny_evalAll_nil ?_)))))
 obtain ⟨a, ys, kf, e1, hl, m6, hk, fin⟩ := q1 H2 mv G0
 subst e1
 obtain ⟨u, rfl, ru⟩ := vals1 r1
 have e1 : u = .ref a := ru
 subst e1
 obtain ⟨FU, rv, pl, hz⟩ := I2.list hl
 have hlen := rv.length
 refine wpAny_mono (ky (E := X.xe) I2 m6 (fun R E' hR => collect_list pl.isList (hR _ _ rv ((I2.fK (o := seqObj "list" #[] 0)).kL (I2.fH (Nat.le_refl _) (I2.aL.fresh (Nat.le_refl _))))) (by omega)) (sJ (P := P) (k := k) L hr gH jm (List.mem_append_right _ (List.mem_singleton.mpr rfl)) hc hb) hk (fun a ys H' => fin a ys H')) (fun w s3 hq => ?_) fun _ _ z => z
 obtain ⟨v, H3, I3, r3, q3⟩ := hq
 exact ⟨v, H3, I3.dw, r3, q3⟩
theorem ji {K : PySem.W.Frag} {q : Str} {σ : St} {H : Hp} {Q : VK} (h : t σ H fun vs H1 => bY H1 P q /\ ∀ H2, Mv [P] H1 H2 -> bY H2 P q -> ig (nJ te js σ) K vs H2 Q) : mV K P q te js t σ H Q := h
end
section
variable {H H' : Hp} {P : Addr} {q : Str}
theorem bY.ne {b : Addr} {u : HO} (h : bY H P q) (e : H b = some u) (nt : ∀ ps, u ≠ .eO ps) : b ≠ P := fun z => by
 obtain ⟨ps, hp⟩ := h.eO
 rw [z, hp] at e
 cases e
 exact nt _ rfl
theorem bY.G9 {b : Addr} {u : HO} (h : bY H P q) (e : H b = some u) (nt : ∀ ps, u ≠ .eO ps) (nx : ∀ φ, u ≠ .ext φ) (mv : Mv [b] H H') : bY H' P q :=
 h.mv mv fun c hc => by
  rw [List.mem_singleton.mp hc]
  exact ⟨h.ne e nt, fun φ z => by rw [e] at z; cases z; exact nx _ rfl⟩
theorem bY.FY {d : Addr} {ds : List PyData} (h : bY H P q) (hd : bJ H d ds) (mv : Mv [d] H H') : bY H' P q := let ⟨_, e, _⟩ := hd; h.G9 e (by intro _ z; cases z) (by intro _ z; cases z) mv
theorem bY.yK {d : Addr} {ds : List PyData} (h : bY H P q) (hd : bJ H d ds) : d ≠ P := let ⟨_, e, _⟩ := hd; h.ne e (by intro _ z; cases z)
theorem bY.yR {d : Addr} {ds : List PyData} (h : bY H P q) (hd : bJ H d ds) (mv : Mv [P] H H') : bJ H' d ds := hd.mv mv (by simpa using h.yK hd)
end
section
variable {X : Cx}
def u6 : List V -> Hp -> VK -> Prop := fun xs H Q => ∃ (v : V) (ns : List Int), xs = [v] /\ Dv H v (.list (ns.map PyData.int)) /\ 0 < ns.length /\ ∀ m ∈ ns, (∀ k ∈ ns, m <= k) -> Q (.int m) H
theorem pB (hc : X.calm = true) : dB X (.builtin "min") u6 := by
 intro pins s σ H xs us Q I r h
 obtain ⟨v, ns, rfl, hd, kz, q⟩ := h
 obtain ⟨u, rfl, ru⟩ := vals1 r
 obtain ⟨p, ys, rfl, e, dv⟩ := hd.lst_inv
 obtain ⟨au, vx, pl, _⟩ := I.list (e X.K)
 cases ru
 have hI := fu dv vx
 have hn : au.toArray.size = ns.length := by rw [List.size_toArray, hI.length]
 have bZ : p < s.heap.objs.size := by obtain ⟨o, n, e1, _⟩ := pl; exact Heap.lt_size e1
 have hA : X.A.in1.handled = none := I.ok.hd hc
 refine call_min_walk (wpAny_pyIter_list pl.isList ?_)
 refine ⟨s.heap.objs.size, _, _, _, _, _, fun i j => decide (ns.getD i 0 < ns.getD j 0), rfl, Walks.list hA _ p (Nat.ne_of_lt bZ) au.toArray, ⟨⟨_, Heap.get?_push_size _ rfl, rfl, rfl⟩, pl.isList.at fun o e => Heap.get?_push_of_some _ e⟩, ?_, by omega, CmpOf.ints_lt (fun i => ns.getD i 0) ?_, ?_⟩
 . intro b hb
   rw [Heap.size_push]
   have : b = s.heap.objs.size \/ b = p := by simpa using hb
   rcases this with rfl | rfl
   . exact Nat.lt_succ_self _
   . exact Nat.lt_succ_of_lt bZ
 . intro i v hv
   exact hI.int_at i v (by simpa using hv)
 . intro v h' tk hP hk
   have b := nF (fun i => ns.getD i 0) (au.toArray.size - 1)
   generalize argBest (fun i j => decide (ns.getD i 0 < ns.getD j 0)) (au.toArray.size - 1) = ix at b hP
   obtain ⟨b1, b2⟩ := b
   obtain ⟨t, rfl⟩ := hI.int_at ix v (by simpa using hP)
   have I1 := I.kept (t' := s.toks) (h' := s.heap.push { cls := Value.type "list_iterator", data := Data.fields #[Value.ref p, Value.int 0 0] }) fun b o e => Heap.get?_push_of_some _ e
   have fp := I.fH (H' := H) (Nat.le_refl _) (I.aL.fresh (Nat.le_refl _))
   have I2 := I1.turned (t' := tk) (h' := h') (it := s.heap.objs.size) (fun b o hb e => hk b o (by simpa using hb) e) fp.1 fp.2.1 fp.2.2.2.1 fp.2.2.2.2.1 fp.2.2.2.2.2
   have hb : ix < ns.length := by omega
   refine ⟨.int _, H, I2, ⟨t, rfl⟩, q _ ?_ ?_⟩
   . rw [List.getD_eq_getElem?_getD, List.getElem?_eq_getElem hb]; exact List.getElem_mem hb
   . intro k hk
     obtain ⟨j, hj, rfl⟩ := List.getElem_of_mem hk
     have := b2 j (by omega)
     rwa [List.getD_eq_getElem?_getD (i := j), List.getElem?_eq_getElem hj] at this
theorem wc {H : Hp} {Q : VK} {v : V} {ns : List Int} (hp : Dv H v (.list (ns.map PyData.int))) (h0 : 0 < ns.length) (h : ∀ m ∈ ns, (∀ k ∈ ns, m <= k) -> Q (.int m) H) : u6 [v] H Q := ⟨v, ns, rfl, hp, h0, h⟩
end
def uE (r : Int × Int) : PyData := .list [.int r.1, .int r.2]
structure LL (H : Hp) (p : Addr) (as : List Addr) (rs : List (Int × Int)) : Prop where
 at' : H p = some (.lst (as.map V.ref))
 nd : as.Nodup
 ne : p ∉ as
 len : as.length = rs.length
 row : ∀ (i : Nat) (b : Addr) (r : Int × Int), as[i]? = some b -> rs[i]? = some r -> bJ H b [.int r.1, .int r.2]
section
variable {H H' : Hp} {p : Addr} {as : List Addr} {rs : List (Int × Int)}
theorem LL.keeps (s : ai H H') (h : LL H p as rs) : LL H' p as rs := ⟨s _ _ h.at', h.nd, h.ne, h.len, fun i b r h1 h2 => (h.row i b r h1 h2).keeps s⟩
theorem LL.mv {S : List Addr} (mv : Mv S H H') (n : p ∉ S) (na : ∀ b ∈ as, b ∉ S) (h : LL H p as rs) : LL H' p as rs := ⟨mv.at n h.at', h.nd, h.ne, h.len, fun i b r h1 h2 => (h.row i b r h1 h2).mv mv (na b (List.mem_of_getElem? h1))⟩
theorem LL.dv (h : LL H p as rs) : Dv H (.ref p) (.list (rs.map uE)) := by
 refine .lst (.inl h.at') ?_
 have key : ∀ (as : List Addr) (rs : List (Int × Int)), as.length = rs.length -> (∀ (i : Nat) b r, as[i]? = some b -> rs[i]? = some r -> bJ H b [.int r.1, .int r.2]) -> a9 H (as.map V.ref) (rs.map uE) := by
  intro as
  induction as with
  | nil =>
    intro rs hl _
    cases rs with
    | nil => exact .nil
    | cons => simp at hl
  | cons b r ih =>
    intro rs hl hr
    cases rs with
    | nil => simp at hl
    | cons x xs => exact .cons (hr 0 b x rfl rfl).dv (ih xs (by simpa using hl) fun i b' r' h1 h2 => hr (i + 1) b' r' (by simpa using h1) (by simpa using h2))
 exact key as rs h.len h.row
theorem LL.set {i : Nat} {b : Addr} {r : Int × Int} {y : Int} (h : LL H p as rs) (hb : as[i]? = some b) (hr : rs[i]? = some r) (mv : Mv [b] H H') (hl : bJ H' b [.int r.1, .int y]) : LL H' p as (rs.set i (r.1, y)) := by
 have Dm : b ∈ as := List.mem_of_getElem? hb
 refine ⟨mv.at (fun z => h.ne (by rw [List.mem_singleton.mp z]; exact Dm)) h.at', h.nd, h.ne, by rw [List.length_set]; exact h.len, fun j b' r' h1 h2 => ?_⟩
 by_cases fm : i = j
 . subst fm
   rw [hb] at h1
   cases h1
   have bZ := (List.getElem?_eq_some_iff.mp hr).1
   rw [List.getElem?_set_self bZ] at h2
   cases h2
   exact hl
 . rw [List.getElem?_set_ne fm] at h2
   refine (h.row j b' r' h1 h2).mv mv ?_
   intro z
   have : b' = b := by simpa using z
   subst this
   obtain ⟨g1, g2⟩ := List.getElem?_eq_some_iff.mp hb
   obtain ⟨g3, g4⟩ := List.getElem?_eq_some_iff.mp h1
   have hn := List.nodup_iff_pairwise_ne.mp h.nd
   rcases Nat.lt_or_gt_of_ne fm with k | k
   . exact (List.pairwise_iff_getElem.mp hn) i j g1 g3 k (g2.trans g4.symm)
   . exact (List.pairwise_iff_getElem.mp hn) j i g3 g1 k (g4.trans g2.symm)
end
section
variable {X : Cx} {a b c d : Expr} {ta tb tc td : TE} {pos : Pos}
def mS (r r' yk : R2) (ta tb tc td : TE) : TE := fun σ H Q => ta σ H fun x H1 => tb σ H1 fun y H2 => r x y H2 fun z H3 => ∃ k, z = .bl k /\
 (if k = true then tc σ H3 fun w' H4 => r' y w' H4 fun z2 H5 => ∃ k2, z2 = .bl k2 /\ (if k2 = true then td σ H5 fun u' H6 => yk w' u' H6 Q else Q (.bl false) H5) else Q (.bl false) H3)
theorem og {op ya xn : CmpOp} {r r' yk : R2} (ho : gy X (compareOp op) r) (oV : gy X (compareOp ya) r') (CQ : gy X (compareOp xn) yk) (ha : PE X a ta) (hb : PE X b tb) (hc : PE X c tc) (hd : PE X d td)
 (hm : lastMarks [op, ya, xn] [b, c, d] = false := by with_unfolding_all rfl) : PE X (.Compare a [op, ya, xn] [b, c, d] pos) (mS r r' yk ta tb tc td) := by
 intro pins s σ H Q I h
 refine Compare_chain (bu (ha pins s σ H _ I h) fun v s1 ⟨x, H1, I1, r1, q1⟩ => chain_link (bu (hb pins s1 σ H1 _ I1 q1) fun u s2 ⟨y, H2, I2, r2, q2⟩ =>
  bu (ho pins s2 σ H2 x y v u _ I2 r1 r2 q2) fun d s3 ⟨z, H3, I3, r3, k, e, q3⟩ => ?_)) hm
 subst e
 cases r3
 refine wpAny_truthy_bool ?_
 cases k with
 | false => exact ite_ff ⟨.bl false, H3, I3, rfl, q3⟩
 | true =>
   refine ite_tt (chain_link (bu (hc pins s3 σ H3 _ I3 q3) fun w' s4 ⟨z', H4, I4, r4, q4⟩ => bu (oV pins s4 σ H4 y z' u w' _ I4 r2 r4 q4) fun d2 s5 ⟨z2, H5, I5, r5, k2, e2, q5⟩ => ?_))
   subst e2
   cases r5
   refine wpAny_truthy_bool ?_
   cases k2 with
   | false => exact ite_ff ⟨.bl false, H5, I5, rfl, q5⟩
   | true => exact ite_tt (chain_last (bu (hd pins s5 σ H5 _ I5 q5) fun u' s6 ⟨z3, H6, I6, r6, q6⟩ => CQ pins s6 σ H6 z' z3 w' u' Q I6 r4 r6 q6))
theorem qi {r r' yk : R2} {σ : St} {H : Hp} {Q : VK} (h : ta σ H fun x H1 => tb σ H1 fun y H2 => r x y H2 fun z H3 => ∃ k, z = .bl k /\
 (if k = true then tc σ H3 fun w' H4 => r' y w' H4 fun z2 H5 => ∃ k2, z2 = .bl k2 /\ (if k2 = true then td σ H5 fun u' H6 => yk w' u' H6 Q else Q (.bl false) H5) else Q (.bl false) H3)) : mS r r' yk ta tb tc td σ H Q := h
end
end L2
set_option maxHeartbeats 4000000
namespace My
open PySem L2
local macro_rules | `(tactic| walk_at "same") => `(tactic| first
 | exact ai.refl _
 | assumption
 | (refine' ai.trans ?m ?s; (case s => assumption); (case m => walk_at "same")))
local macro_rules | `(tactic| walk_at "at") => `(tactic| first
 | assumption
 | exact aw
 | (refine' ai.at ?s ?m; (case s => assumption); (case m => walk_at "at")))
local macro_rules | `(tactic| walk_at "dat") => `(tactic| first
 | exact Dv.int _
 | exact Dv.bG
 | exact Dv.bl _
 | exact Dv.str _
 | assumption
 | (refine' Dv.keeps ?s ?m; (case s => assumption); (case m => walk_at "dat")))
local macro_rules | `(tactic| walk_at "ins") => `(tactic| first
 | assumption
 | (refine' G2.keeps ?s ?m; (case s => assumption); (case m => walk_at "ins")))
local macro_rules | `(tactic| walk_at "dats") => `(tactic| first
 | exact a9.nil
 | (refine' a9.cons ?m ?s; (case m => walk_at "dat"); (case s => walk_at "dats"))
 | assumption
 | (refine' a9.keeps ?s ?m; (case s => assumption); (case m => walk_at "dats")))
local macro_rules | `(tactic| walk_at "sql") => `(tactic| first
 | assumption
 | (refine' ai.seq ?s ?m; (case s => assumption); (case m => walk_at "sql")))
local macro_rules | `(tactic| walk_at "isq") => `(tactic| first
 | (refine' Or.inl ?m; case m => walk_at "dat")
 | (refine' Or.inr ?m; case m => walk_at "dat"))
set_option hygiene false in
local macro_rules | `(tactic| walk_at "side") => `(tactic| first
 | omega
 | assumption
 | exact (by decide)
 | exact Ag (by omega) (by omega)
 | exact yY ⟨by omega, by omega⟩ ⟨by omega, by omega⟩
 | exact ⟨by decide, by decide, by decide⟩)
set_option hygiene false in
local macro_rules | `(tactic| walk_at "use") => `(tactic| fail)
set_option hygiene false in
local macro_rules | `(tactic| walk_at "lk") => `(tactic| fail)
set_option hygiene false in
local macro_rules | `(tactic| walk_at "put") => `(tactic| fail)
set_option hygiene false in
local macro_rules | `(tactic| walk_at "fin") => `(tactic| fail)
set_option hygiene false in
local macro_rules | `(tactic| walk_at "wds") => `(tactic| first
 | with_reducible refine lI (ws := [_]) rfl ?_
 | with_reducible refine lI (ws := [_, _]) rfl ?_
 | with_reducible refine lI (ws := [_, _, _]) rfl ?_
 | with_reducible refine lI (ws := [_, _, _, _]) rfl ?_
 | with_reducible refine lI (ws := [_, _, _, _, _]) rfl ?_
 | with_reducible refine lI (ws := [_, _, _, _, _, _]) rfl ?_
 | with_reducible refine lI (ws := []) rfl ?_)
set_option hygiene false in
local macro_rules | `(tactic| walk_at "mks") => `(tactic| first
 | fail)
local macro_rules | `(tactic| walk_at "br") => `(tactic| ((with_reducible refine AF (fun hb => ?_) (fun hb => ?_)) <;> (try simp only [id, decide_eq_true_eq, decide_eq_false_iff_not, Bool.not_eq_true', Bool.not_eq_false', Bool.not_true, Bool.not_false, V.int.injEq, Bool.true_eq_false, Bool.false_eq_true, reduceCtorEq, decide_true, decide_false, not_true, not_false_iff, PyData.eqv, PyData.eqvAll, Bool.and_eq_true, Bool.and_eq_false_iff, Bool.or_eq_true, Bool.or_eq_false_iff, beq_iff_eq, beq_eq_false_iff_ne, ne_eq, bne_iff_ne, Bool.and_true, Bool.and_false, Bool.and_self, beq_self_eq_true, isInt, isBool, isStr, zS, isTup, A5, List.length_cons, List.length_nil] at hb) <;> (try (exfalso; omega)) <;> (try (exfalso; (refine' C5 hb ?d); (case d => walk_at "dat")))))
local macro_rules | `(tactic| walk_at "rd1") => `(tactic| first
 | with_reducible refine yt ?_
 | with_reducible refine zG ?_
 | with_reducible refine Ap ?_
 | with_reducible refine yw ?_
 | with_reducible refine As ?_
 | ((with_reducible refine' AZ ?e ?_); case e => exact rfl)
 | with_reducible refine GA ?_
 | with_reducible refine DQ ?_
 | with_reducible refine BV ?_
 | ((with_reducible refine' yh ?e1 ?e2 ?_); (case e1 => exact ⟨by decide, by decide, by decide⟩); (case e2 => ((conv => lhs; simp only [Int.reduceToNat]) <;> exact rfl)))
 | ((with_reducible refine' GQ ?e ?_); case e => walk_at "side")
 | with_reducible refine yl ?_
 | with_reducible refine zM ?_
 | with_reducible refine uN ?_
 | with_reducible refine Cm ?_
 | with_reducible refine yz ?_
 | with_reducible refine BQ ?_
 | with_reducible refine oP ?_
 | walk_at "br"
 | with_reducible refine yq ?_
 | ((with_reducible refine' AB ?e ?_); case e => exact rfl)
 | ((with_reducible refine' jg ?e1 ?e2 ?_); (case e1 => walk_at "isq"); (case e2 => exact rfl))
 | ((with_reducible refine' rh ?e ?_); case e => walk_at "isq")
 | ((with_reducible refine' wX ?e ?_); case e => walk_at "sql")
 | with_reducible refine xl (fun _ _ _ _ => ?_)
 | ((with_reducible refine' wB ?e (fun _ _ => ?_)); case e => walk_at "side")
 | with_reducible refine fQ ?_
 | with_reducible refine sv ?_
 | with_reducible refine xa ?_
 | ((with_reducible refine' xW ?e1 ?e2 (fun _ _ _ _ => ?_)); (case e1 => exact vh rfl); (case e2 => walk_at "dats"))
 | with_reducible refine vO ?_
 | with_reducible refine wH ?_
 | with_reducible refine y4 ?_
 | with_reducible refine sP ?_
 | ((with_reducible refine' we ?e1 ?e2 ?_); (case e1 => omega); (case e2 => omega))
 | walk_at "wds"
 | walk_at "mks"
 | walk_at "use"
 | walk_at "fin")
local macro_rules | `(tactic| walk_at "lat") => `(tactic| first
 | assumption
 | (refine' bJ.keeps ?s ?m; (case s => assumption); (case m => walk_at "lat"))
 | (refine' bJ.mv ?s ?n ?m; (case s => assumption); (case n => walk_at "nin"); (case m => walk_at "lat"))
 | fail)
local macro_rules | `(tactic| walk_at "nin") => `(tactic| first
 | (refine' qU ?n1; (case n1 => walk_at "ne"))
 | fail)
local macro_rules | `(tactic| walk_at "ne") => `(tactic| first
 | assumption
 | (refine Ne.symm ?_; assumption)
 | (refine' bJ.ne ?h ?n; (case n => assumption); (case h => walk_at "lat"))
 | (refine' Ne.symm (bJ.ne ?h ?n); (case n => assumption); (case h => walk_at "lat"))
 | fail)
local macro_rules | `(tactic| walk_at "dla") => `(tactic| first
 | assumption
 | (refine' gS.keeps ?s ?m; (case s => assumption); (case m => walk_at "dla"))
 | (refine' gS.mv ?s ?n ?m; (case s => assumption); (case n => walk_at "nin"); (case m => walk_at "dla"))
 | fail)
local macro_rules | `(tactic| walk_at "ne") => `(tactic| first
 | (refine' gS.ne ?h ?n; (case n => assumption); (case h => walk_at "dla"))
 | (refine' Ne.symm (gS.ne ?h ?n); (case n => assumption); (case h => walk_at "dla"))
 | fail)
local macro_rules | `(tactic| walk_at "imm") => `(tactic| first
 | rfl
 | assumption
 | exact cb (fun _ => rfl) _
 | (refine' bJ.ni ?h; (case h => assumption))
 | fail)
local macro_rules | `(tactic| walk_at "dm") => `(tactic| first
 | exact fun _ h => h
 | (refine' pN ?a ?b; (case b => first | (refine' ai.Hf ?c; (case c => assumption)) | (refine' Mv.dm ?c; (case c => assumption)) | fail); (case a => walk_at "dm"))
 | fail)
local macro_rules | `(tactic| walk_at "none") => `(tactic| first
 | assumption
 | (refine' wW ?s ?m; (case m => assumption); (case s => walk_at "dm"))
 | fail)
local macro_rules | `(tactic| walk_at "same") => `(tactic| first
 | (refine' Mv.zY ?s ?m ?n; (case m => assumption); (case s => walk_at "same"); (case n => walk_at "none"))
 | fail)
local macro_rules | `(tactic| walk_at "mv") => `(tactic| first
 | exact Mv.refl
 | assumption
 | (refine' Mv.eR ?m ?s; (case s => assumption); (case m => walk_at "mv"))
 | (refine' Mv.step ?m ?s ?h; (case s => assumption); (case m => walk_at "mv"); (case h => walk_at "ours"))
 | fail)
local macro_rules | `(tactic| walk_at "ours") => `(tactic| first
 | (refine' uW (Or.inr ?h); (case h => walk_at "none"))
 | exact uW (Or.inl (by simp))
 | fail)
local macro_rules | `(tactic| walk_at "dat") => `(tactic| first
 | (refine' bJ.dv ?m; (case m => walk_at "lat"))
 | (refine' Mv.dat ?s ?i ?m; (case s => assumption); (case i => walk_at "imm"); (case m => walk_at "dat"))
 | fail)
local macro_rules | `(tactic| walk_at "dats") => `(tactic| first
 | (refine' Mv.uB ?s ?i ?m; (case s => assumption); (case i => walk_at "imm"); (case m => walk_at "dats"))
 | fail)
set_option hygiene false in
local macro_rules | `(tactic| walk_at "len") => `(tactic| first
 | (simp only [List.length_map, List.length_append, List.length_cons, List.length_nil]; omega)
 | omega
 | fail)
local macro_rules | `(tactic| walk_at "rd1") => `(tactic| first
 | ((with_reducible refine' uc ?e ?_); case e => walk_at "len")
 | with_reducible refine uo ?_
 | with_reducible refine wY (fun _ _ _ _ _ => ?_)
 | with_reducible refine tV ?_
 | with_reducible refine sC ?_
 | ((with_reducible refine' xI ?e1 ?e2 ?e3 ?e4 (fun _ _ _ => ?_)); (case e1 => walk_at "dla"); (case e3 => walk_at "dat"); (case e2 => walk_at "len"); (case e4 => walk_at "imm"))
 | ((with_reducible refine' wg ?e1 ?e2 ?_); (case e1 => walk_at "dla"); (case e2 => assumption))
 | with_reducible refine ur ?_
 | with_reducible refine Cp ?_
 | ((with_reducible refine' Aj ?e ?_); case e => walk_at "lat")
 | ((with_reducible refine' Ah ?e1 ?e2 ?e3 ?e4 (fun _ _ _ => ?_)); (case e1 => walk_at "lat"); (case e3 => walk_at "dat"); (case e2 => walk_at "len"); (case e4 => walk_at "imm"))
 | ((with_reducible refine' wj ?e1 ?e2 ?e3 (fun _ _ _ _ _ => ?_)); (case e1 => exact vh rfl); (case e2 => walk_at "dats"); (case e3 => exact rfl))
 | with_reducible refine qI ?_
 | with_reducible refine BL ?_
 | with_reducible refine vQ ?_
 | with_reducible refine pV ?_
 | with_reducible refine tB ?_
 | with_reducible refine zk ?_
 | ((with_reducible refine' rn ?e1 ?e2 (fun _ _ _ _ _ => ?_)); (case e1 => walk_at "dat"); (case e2 => walk_at "imm"))
 | ((with_reducible refine' wF ?e ?_); case e => walk_at "len")
 | ((with_reducible refine' xV ?e ?_); case e => walk_at "dat")
 | ((with_reducible refine' jg ?e1 ?e2 ?_); (case e1 => walk_at "isq"); (case e2 => first | exact yJ | (refine' pT ?a ?b; (case a => omega); (case b => walk_at "len")) | fail))
 | fail)
local macro_rules | `(tactic| walk_at "rd1") => `(tactic| first
 | ((with_reducible refine' rj ?e1 ?e2 ?e3 (fun _ _ _ _ _ => ?_)); (case e1 => walk_at "lat"); (case e2 => walk_at "lat"); (case e3 => walk_at "len"))
 | fail)
local macro_rules | `(tactic| walk_at "rd1") => `(tactic| first
 | with_reducible refine qT ?_
 | ((with_reducible refine' sx ?e1 ?e2 (fun _ _ _ _ _ => ?_)); (case e1 => walk_at "dat"); (case e2 => walk_at "imm"))
 | ((with_reducible refine' wG ?e1 ?_); (case e1 => walk_at "dat"))
 | fail)
set_option hygiene false in
local macro_rules | `(tactic| walk_at "rd1") => `(tactic| first
 | fail)
set_option hygiene false in
local macro_rules | `(tactic| walk_at "rd1") => `(tactic| first
 | fail)
set_option hygiene false in
local macro_rules | `(tactic| walk_at "rd1") => `(tactic| first
 | with_reducible refine xc ?_
 | with_reducible refine uO ?_
 | fail)
set_option hygiene false in
local macro_rules | `(tactic| walk_at "rd1") => `(tactic| first
 | fail)
set_option hygiene false in
local macro_rules | `(tactic| walk_at "rd1") => `(tactic| first
 | fail)
set_option hygiene false in
local macro_rules | `(tactic| walk_at "rd1") => `(tactic| first
 | with_reducible refine yr ?_
 | fail)
def top (i : Nat) : Stmt := PySem.Challenge.pw_wakefew_k46_whole_no_shares_are_more.main.body.getD i (.Pass ⟨0, 0, 0, 0⟩)
set_option hygiene false in
local macro_rules | `(tactic| walk_at "scp") => `(tactic| exact ⟨rfl, rfl, rfl, by decide +kernel, rfl, by decide +kernel, by decide +kernel⟩)
abbrev f7 : Stmt := top 1
theorem mF : bb ["claim"] ["claim"] (aq f7) := by walk_at "scp"
abbrev bz : Stmt := top 3
theorem aA : bb ["price", "claims", "points", "loads", "shares", "name", "first", "last", "weight", "held", "place"] ["price", "claims"] (aq bz) := by walk_at "scp"
abbrev cP : Stmt := top 5
theorem gJ : bb ["_law_script", "_law_k"] ["_law_script", "_law_k"] (aq cP) := by walk_at "scp"
abbrev dE : Stmt := top 6
theorem dn : bb ["_law_number"] ["_law_number"] (aq dE) := by walk_at "scp"
abbrev e9 : Stmt := top 7
theorem gu : bb ["_law_cell", "_law_number"] ["_law_cell"] (aq e9) := by walk_at "scp"
abbrev d6 : Stmt := top 8
theorem bC : bb ["_law_cell", "_law_k", "_law_some", "_law_sign", "_law_rest", "_law_place", "_law_tail"] ["_law_cell", "_law_k"] (aq d6) := by walk_at "scp"
abbrev dM : Stmt := top 9
theorem cj : bb ["_law_script", "_law_many", "_law_found", "_law_number"] ["_law_script", "_law_many"] (aq dM) := by walk_at "scp"
abbrev dg : Stmt := top 10
theorem aC : bb ["_law_script", "_law_many", "_law_shape", "_law_cells_here", "_law_way", "_law_found", "_law_k", "_law_cell", "_law_other", "_law_first", "_law_last", "_law_weight"] ["_law_script", "_law_many"] (aq dg) := by walk_at "scp"
abbrev cK : Stmt := top 11
theorem iN : bb ["_law_claims_here", "_law_cell"] ["_law_claims_here", "_law_cell"] (aq cK) := by walk_at "scp"
abbrev dI : Stmt := top 12
theorem iL : bb ["_law_claims_here", "_law_cell"] ["_law_claims_here", "_law_cell"] (aq dI) := by walk_at "scp"
abbrev bj : Stmt := top 13
theorem aB : bb ["_law_claims_here", "_law_price_here", "_law_cell", "_law_load", "_law_total", "_law_one", "_law_room", "_law_pair"] ["_law_claims_here", "_law_price_here", "_law_cell"] (aq bj) := by walk_at "scp"
abbrev rp : Stmt := top 14
theorem eC : bb ["_law_script", "_law_many", "_law_claims_here", "_law_price_here", "_law_sums", "_law_k"] ["_law_script"] (aq rp) := by walk_at "scp"
abbrev iT : Str := ("_law_order" ++ ".<locals>.") ++ "<lambda>"
structure gF (K : PySem.W.Frag) (x q : Str) (s : Stmt) (d : Value) (f : Addr) : Prop where
 a : PySem.W.nsIn K mainGlobals x = some (some (.ref f))
 l : ∃ fd, cW K x q s f d fd
 k : PySem.W.keepIn K (.ref f) = true
structure FI (K : PySem.W.Frag) (C : Addr) (x q : Str) (s : Stmt) (d : Value) (f : Addr) : Prop where
 a : PySem.W.findIn K (.ref C) x = some (some (.ref f))
 l : ∃ fd, cW K x q s f d fd
 k : PySem.W.keepIn K (.ref f) = true
 i : PySem.W.isFn K (.ref f) = true
structure Gm (K : PySem.W.Frag) (C : Addr) : Prop where
 pg : PySem.W.plainGet K C Str.empty = true
 hd : PySem.W.hasDictIn K C = true
 po : PySem.W.plainOver K C = true
 sa : PySem.W.findIn K (.ref C) "__setattr__" = some (some (.builtin "object.__setattr__"))
 t1 : PySem.W.findIn K (.ref C) "__class__" = some (some (.builtin "object.__class__"))
 t2 : PySem.W.mroIn K C (.type "object") = some true
 t3 : PySem.W.typeIn K (.ref C) = some (.type "type")
set_option genSizeOf false in
set_option genInjectivity false in
structure Ad where
 b9 : Addr
 g7 : FuncData
 bq : Addr
 fP : FuncData
 aN : Addr
 dS : FuncData
 aZ : Addr
 eP : FuncData
 bA : Addr
 gC : FuncData
 bp : Addr
 fA : FuncData
 aX : Addr
 eT : FuncData
 aS : Addr
 eA : FuncData
 aW : Addr
 eU : FuncData
 aR : Addr
 de : FuncData
 bw : Addr
 ak : Addr
 aG : Addr
 cY : FuncData
 i6 : Addr
 jB : FuncData
 tabs : List Addr
structure Txt (K : PySem.W.Frag) (mg : Str -> Option Value) (a : Ad) : Prop where
 gk : cW K "by_last" "by_last" f7 a.b9 (.none) a.g7
 hU : mg "by_last" = some (.ref a.b9)
 dY : cW K "shares_at" "shares_at" bz a.bq (.none) a.fP
 fw : PySem.W.keepIn K (.ref a.bq) = true
 fO : mg "shares_at" = some (.ref a.bq)
 cS : cW K "_law_cell_at" "_law_cell_at" cP a.aN (.none) a.dS
 aK : PySem.W.keepIn K (.ref a.aN) = true
 aJ : mg "_law_cell_at" = some (.ref a.aN)
 dO : cW K "_law_mixed" "_law_mixed" dE a.aZ (.none) a.eP
 bH : PySem.W.keepIn K (.ref a.aZ) = true
 bI : mg "_law_mixed" = some (.ref a.aZ)
 eZ : cW K "_law_own" "_law_own" e9 a.bA (.none) a.gC
 gx : PySem.W.keepIn K (.ref a.bA) = true
 gA : mg "_law_own" = some (.ref a.bA)
 ei : cW K "_law_name" "_law_name" d6 a.bp (.none) a.fA
 fG : PySem.W.keepIn K (.ref a.bp) = true
 fv : mg "_law_name" = some (.ref a.bp)
 dH : cW K "_law_cells" "_law_cells" dM a.aX (.none) a.eT
 eY : PySem.W.keepIn K (.ref a.aX) = true
 eV : mg "_law_cells" = some (.ref a.aX)
 di : cW K "_law_claims" "_law_claims" dg a.aS (.none) a.eA
 d8 : PySem.W.keepIn K (.ref a.aS) = true
 et : mg "_law_claims" = some (.ref a.aS)
 dG : cW K "_law_price" "_law_price" cK a.aW (.none) a.eU
 eQ : PySem.W.keepIn K (.ref a.aW) = true
 eS : mg "_law_price" = some (.ref a.aW)
 dP : cW K "_law_order" "_law_order" dI a.aR (.none) a.de
 eN : PySem.W.keepIn K (.ref a.aR) = true
 eM : mg "_law_order" = some (.ref a.aR)
 aT : zX K a.de a.bw a.ak
 ck : a.ak ∈ a.tabs
 cf : cW K "_law_other_sum" "_law_other_sum" bj a.aG (.none) a.cY
 cZ : PySem.W.keepIn K (.ref a.aG) = true
 c5 : mg "_law_other_sum" = some (.ref a.aG)
 qP : cW K "law" "law" rp a.i6 (.none) a.jB
 qt : mg "law" = some (.ref a.i6)
 tX : ∀ b ∈ a.tabs, b = a.ak
 cE : mg "enumerate" = none
 fg : mg "len" = none
 eE : mg "list" = none
 jw : mg "max" = none
 iD : mg "min" = none
 dt : mg "range" = none
 c6 : mg "reversed" = none
 jI : mg "set" = none
 b8 : mg "sorted" = none
 hO : mg "sum" = none
theorem wU {K : PySem.W.Frag} {h : Heap} {mg : Str -> Option Value} {b9 bq aN aZ bA bp aX aS aW aR bw ak aG i6 : Addr} {tabs : List Addr}  (X : K.In h) (G : h.Ns mainGlobals mg)
 (fU : gF K "by_last" "by_last" f7 (.none) b9)
 (dc : gF K "shares_at" "shares_at" bz (.none) bq)
 (bV : gF K "_law_cell_at" "_law_cell_at" cP (.none) aN)
 (cD : gF K "_law_mixed" "_law_mixed" dE (.none) aZ)
 (dR : gF K "_law_own" "_law_own" e9 (.none) bA)
 (c7 : gF K "_law_name" "_law_name" d6 (.none) bp)
 (cG : gF K "_law_cells" "_law_cells" dM (.none) aX)
 (cm : gF K "_law_claims" "_law_claims" dg (.none) aS)
 (cJ : gF K "_law_price" "_law_price" cK (.none) aW)
 (bW : gF K "_law_order" "_law_order" dI (.none) aR)
 (iO : wk K aR bw ak)
 (ck : ak ∈ tabs)
 (bB : gF K "_law_other_sum" "_law_other_sum" bj (.none) aG)
 (qQ : gF K "law" "law" rp (.none) i6)
 (tX : ∀ b ∈ tabs, b = ak)
 (cE : PySem.W.nsIn K mainGlobals "enumerate" = some none)
 (fg : PySem.W.nsIn K mainGlobals "len" = some none)
 (eE : PySem.W.nsIn K mainGlobals "list" = some none)
 (jw : PySem.W.nsIn K mainGlobals "max" = some none)
 (iD : PySem.W.nsIn K mainGlobals "min" = some none)
 (dt : PySem.W.nsIn K mainGlobals "range" = some none)
 (c6 : PySem.W.nsIn K mainGlobals "reversed" = some none)
 (jI : PySem.W.nsIn K mainGlobals "set" = some none)
 (b8 : PySem.W.nsIn K mainGlobals "sorted" = some none)
 (hO : PySem.W.nsIn K mainGlobals "sum" = some none)
 : ∃ a : Ad, a.tabs = tabs /\ Txt K mg a :=
 ⟨⟨b9, fU.l.choose, bq, dc.l.choose, aN, bV.l.choose, aZ, cD.l.choose, bA, dR.l.choose, bp, c7.l.choose, aX, cG.l.choose, aS, cm.l.choose, aW, cJ.l.choose, aR, bW.l.choose, bw, ak, aG, bB.l.choose, i6, qQ.l.choose, tabs⟩, rfl, {
   gk := fU.l.choose_spec,
   hU := PySem.W.mg_of X G fU.a,
   dY := dc.l.choose_spec,
   fw := dc.k,
   fO := PySem.W.mg_of X G dc.a,
   cS := bV.l.choose_spec,
   aK := bV.k,
   aJ := PySem.W.mg_of X G bV.a,
   dO := cD.l.choose_spec,
   bH := cD.k,
   bI := PySem.W.mg_of X G cD.a,
   eZ := dR.l.choose_spec,
   gx := dR.k,
   gA := PySem.W.mg_of X G dR.a,
   ei := c7.l.choose_spec,
   fG := c7.k,
   fv := PySem.W.mg_of X G c7.a,
   dH := cG.l.choose_spec,
   eY := cG.k,
   eV := PySem.W.mg_of X G cG.a,
   di := cm.l.choose_spec,
   d8 := cm.k,
   et := PySem.W.mg_of X G cm.a,
   dG := cJ.l.choose_spec,
   eQ := cJ.k,
   eS := PySem.W.mg_of X G cJ.a,
   dP := bW.l.choose_spec,
   eN := bW.k,
   eM := PySem.W.mg_of X G bW.a,
   aT := uy bW.l.choose_spec iO,
   ck := ck,
   cf := bB.l.choose_spec,
   cZ := bB.k,
   c5 := PySem.W.mg_of X G bB.a,
   qP := qQ.l.choose_spec,
   qt := PySem.W.mg_of X G qQ.a,
   tX := tX,
   cE := PySem.W.mg_none_of X G cE,
   fg := PySem.W.mg_none_of X G fg,
   eE := PySem.W.mg_none_of X G eE,
   jw := PySem.W.mg_none_of X G jw,
   iD := PySem.W.mg_none_of X G iD,
   dt := PySem.W.mg_none_of X G dt,
   c6 := PySem.W.mg_none_of X G c6,
   jI := PySem.W.mg_none_of X G jI,
   b8 := PySem.W.mg_none_of X G b8,
   hO := PySem.W.mg_none_of X G hO
 }⟩
section
variable {P : Program} {w : World} {K : PySem.W.Frag} {mg : Str -> Option Value} {base : Heap} {a : Ad}
def Ep : PyData -> Bool
 | .int _ => true
 | _ => false
theorem A0 {H : Hp} {Q : VK} {v : V} {ds : List PyData} {i : Int} (hp : Dv H v (.list ds)) (vP : ds.all Ep = true) (h0 : 0 <= i) (h1 : i < ds.length) (h : ∀ n, PyData.int n ∈ ds -> Q (.int n) H) : iF K v (.int i) H Q := by
 obtain ⟨m, rfl⟩ := Int.eq_ofNat_of_zero_le h0
 have hi : m < ds.length := by omega
 have hm : ds[m] ∈ ds := List.getElem_mem hi
 have hb : Ep ds[m] = true := List.all_eq_true.mp vP _ hm
 obtain ⟨n, hn⟩ : ∃ n, ds[m] = .int n := by
  cases e : ds[m] with
  | int n => exact ⟨n, rfl⟩
  | _ => rw [e] at hb; cases hb
 have e : j3 ds (m : Int) = some (.int n) := dQ (by rw [List.getElem?_eq_getElem hi, hn])
 exact jg (.inr hp) e (fQ (h n (hn ▸ hm)))
local macro_rules | `(tactic| walk_at "rd1") => `(tactic| first
 | ((with_reducible refine' A0 ?e1 ?e2 ?e3 ?e4 (fun n hn => ?q)); (case e1 => walk_at "dat"); (case e2 => exact rfl); (case e3 => omega); (case e4 => (simp only [List.length_cons, List.length_nil]; omega)); (case' q => simp only [List.mem_cons, List.not_mem_nil, or_false, PyData.int.injEq] at hn))
 | fail)
def g6 : Sp := fun vs H Q _ => ∃ n, vs = [.int n] /\ ∀ r, 0 <= r -> r < 2147483647 -> Q (.int r) H
theorem jT {H : Hp} {Q : VK} {E : XK} {n : Int} (q : ∀ r, 0 <= r -> r < 2147483647 -> Q (.int r) H) : g6 [.int n] H Q E := ⟨n, rfl, q⟩
theorem q0 (T : Txt K mg a) : bQ P w K mg base gO 1 a.aZ a.eP ["_law_number"] g6 := by
 refine T.dO.ok dn (fun vs H Q E h => ?_) (fun du A outer s H vs Q E hr h => ?_)
 . obtain ⟨_, rfl, _⟩ := h; rfl
 . obtain ⟨n, rfl, q⟩ := h
   refine ⟨_, (ah (aE (i := 0) dn.nd rfl (Or.inl rfl) (ag av (ag bO (ag aU (ag av (pv 0) ae) ae) ae) ae))
    (ah (aE (i := 0) dn.nd rfl (Or.inl rfl) (ag av (ag bO (pv 0) (ag aU (ag aD (pv 0) ae) ae)) ae))
    (ay (bh (ag av (ag bO (ag aU (pv 0) ae) (ag aU (ag aD (pv 0) ae) ae)) ae))))), ?_⟩
   repeat' (walk_at "rd1")
   exact q _ (by assumption) (by omega)
theorem fR (T : Txt K mg a) : m9 P w K mg base 1 a.aZ ["_law_number"] [] g6 :=
 ⟨⟨_, _, q0 T, T.dO.binds fun _ _ _ _ _ _ => .all fun us hl => match us, hl with | [_], _ => rfl, .nil⟩⟩
def lu : Sp := fun vs H Q _ => ∃ n, vs = [.int n] /\ ∀ r, Q (.int r) H
theorem Ab {H : Hp} {Q : VK} {E : XK} {n : Int} (q : ∀ r, Q (.int r) H) : lu [.int n] H Q E := ⟨n, rfl, q⟩
theorem x6 (T : Txt K mg a) : bQ P w K mg base gO 2 a.bA a.gC ["_law_cell"] lu := by
 have bD := fR (P := P) (w := w) (base := base) T
 refine T.eZ.ok gu (fun vs H Q E h => ?_) (fun du A outer s H vs Q E hr h => ?_)
 . obtain ⟨_, rfl, _⟩ := h; rfl
 . obtain ⟨n, rfl, q⟩ := h
   refine ⟨_, (ah (d0 (bR (eB hr.vd) (ag av (pv 0) ae) ae (cQ _))
    (ay (bh (ag aD (pv 0) ae)))
    bP)
    (ah (aE (i := 1) gu.nd rfl (Or.inl rfl) (aQ bD (hr.mono (by decide)) rfl T.bI T.bH (af (ag aD (pv 0) ae) ao)))
    (ay (bh (ag aU (pv 1) (ag bO ae (aQ bD (hr.mono (by decide)) rfl T.bI T.bH (af (ag aU (pv 1) ae) ao)))))))), ?_⟩
   repeat' (walk_at "rd1")
   . exact q _
   . refine jT (fun r1 h1 h2 => ?_)
     repeat' (walk_at "rd1")
     refine jT (fun r2 h3 h4 => ?_)
     repeat' (walk_at "rd1")
     exact q _
theorem sH (T : Txt K mg a) : m9 P w K mg base 2 a.bA ["_law_cell"] [] lu :=
 ⟨⟨_, _, x6 T, T.eZ.binds fun _ _ _ _ _ _ => .all fun us hl => match us, hl with | [_], _ => rfl, .nil⟩⟩
def lh (s : Str) : Prop := ∀ c ∈ s.cps.toList, c < 1114112
theorem lh.sub {s t : Str} (h : lh t) (k : ∀ c ∈ s.cps.toList, c ∈ t.cps.toList) : lh s := fun c hc => h c (k c hc)
theorem lh.app {s t : Str} (h : lh s) (k : lh t) : lh (s ++ t) := by
 intro c hc
 have : c ∈ (s.cps ++ t.cps).toList := hc
 rw [Array.toList_append] at this
 rcases List.mem_append.mp this with z | z
 . exact h c z
 . exact k c z
theorem lh.one {c : Nat} {t : Str} (h : lh t) (k : c ∈ t.cps.toList) : lh ⟨#[c]⟩ := by
 intro x hx
 have : x = c := by simpa using hx
 subst this; exact h x k
theorem lh.abc : lh "abcdefghijklmnopqrstuvwxyz" := by
 have h : ((Str.ofString "abcdefghijklmnopqrstuvwxyz").cps.toList.all fun c => decide (c < 1114112)) = true := by decide +kernel
 intro c hc
 exact of_decide_eq_true (List.all_eq_true.mp h c hc)
theorem fN : (Str.ofString "abcdefghijklmnopqrstuvwxyz").length = 26 := by decide +kernel
theorem nE (c : Nat) : (Str.mk #[c]).length = 1 := rfl
def Fo (s : Str) : Prop := s.length <= 200 /\ lh s
abbrev j5 : Str := Str.ofString "abcdefghijklmnopqrstuvwxyz"
theorem xZ : ∀ i : Fin 26, j5.cps.toList[i.val]? = some (97 + i.val) := by decide +kernel
def ia (c : Int) : Str := bE (bE j5 (some (c / 156 % 20)) none) none (some (c / 3120 % 6))
def jG (c : Int) : Int := c / 18720 % (((ia c).length : Nat) + 1)
def gK (c : Int) : Int := [1, 3, 5, 7, 9, 11].getD (c / 26 % 6).toNat 0
def mB (c k : Int) : Nat := 97 + ((c + k * gK c) % 26).toNat
def vK (c k : Int) : Str := bE (bE j5 (some (k * 7 % 26)) none) none (some (k % 3 * (c / 112320 % 2)))
def pZ (c k : Int) : Str := ((bE (ia c) none (some (jG c)) ++ ⟨#[mB c k]⟩) ++ bE (ia c) (some (jG c)) none) ++ vK c k
theorem tf (x y : Str) : (x ++ y).cps.toList = x.cps.toList ++ y.cps.toList := by show (x.cps ++ y.cps).toList = _; simp
theorem rX (c : Int) : gK c = 1 \/ gK c = 3 \/ gK c = 5 \/ gK c = 7 \/ gK c = 9 \/ gK c = 11 := by
 unfold gK
 have h0 : 0 <= c / 26 % 6 := by omega
 have h1 : c / 26 % 6 < 6 := by omega
 generalize c / 26 % 6 = z at *
 have : z = 0 \/ z = 1 \/ z = 2 \/ z = 3 \/ z = 4 \/ z = 5 := by omega
 rcases this with rfl | rfl | rfl | rfl | rfl | rfl <;> simp
theorem uh {c k k' : Int} (h0 : 0 <= k) (h1 : k < 26) (h2 : 0 <= k') (h3 : k' < 26) (h : pZ c k = pZ c k') : k = k' := by
 have e := congrArg (fun s : Str => s.cps.toList) h
 simp only [pZ, tf, List.append_assoc] at e
 have e2 := List.append_cancel_left e
 have e3 : mB c k = mB c k' := (List.cons.inj e2).1
 unfold mB at e3
 have e4 : (c + k * gK c) % 26 = (c + k' * gK c) % 26 := by omega
 rcases rX c with m | m | m | m | m | m <;> rw [m] at e4 <;> omega
theorem v5 (c k : Int) : Fo (pZ c k) := by
 have al : j5.length = 26 := fN
 have l1 := cg j5 (some (c / 156 % 20)) none
 have l2 : (ia c).length <= _ := cg (bE j5 (some (c / 156 % 20)) none) none (some (c / 3120 % 6))
 have l3 := cg (ia c) none (some (jG c))
 have l4 := cg (ia c) (some (jG c)) none
 have l5 := cg j5 (some (k * 7 % 26)) none
 have l6 : (vK c k).length <= _ := cg (bE j5 (some (k * 7 % 26)) none) none (some (k % 3 * (c / 112320 % 2)))
 have r : lh (ia c) := (lh.abc.sub cL).sub cL
 have bZ : mB c k < 1114112 := by
  unfold mB
  generalize c + k * gK c = z
  omega
 refine ⟨?_, (((r.sub cL).app ?_).app (r.sub cL)).app ((lh.abc.sub cL).sub cL)⟩
 . simp only [pZ, Str.length_append, nE]; omega
 . intro d hd
   have : d = mB c k := by simpa using hd
   omega
def gX : Sp := fun vs H Q _ => ∃ c k, vs = [.int c, .int k] /\ 0 <= k /\ k < 100 /\ ∀ H', ai H H' -> Q (.str (pZ c k)) H'
theorem tN {H : Hp} {Q : VK} {E : XK} {c k : Int} (h : 0 <= k /\ k < 100) (q : ∀ H', ai H H' -> Q (.str (pZ c k)) H') : gX [.int c, .int k] H Q E := ⟨c, k, rfl, h.1, h.2, q⟩
theorem xS {H : Hp} {Q : VK} {v : V} {ls : List Int} {i : Int} (hp : Dv H v (.list (ls.map PyData.int))) (h0 : 0 <= i) (h1 : i < ls.length) (h : Q (.int (ls.getD i.toNat 0)) H) : iF K v (.int i) H Q := by
 obtain ⟨m, rfl⟩ := Int.eq_ofNat_of_zero_le h0
 have hi : m < ls.length := by omega
 refine jg (d := .int (ls.getD m 0)) (.inr hp) (dQ (by rw [List.getElem?_map, List.getElem?_eq_getElem hi]; simp [List.getD_eq_getElem?_getD, hi])) (fQ h)
theorem tj {H : Hp} {Q : VK} {i : Int} (h0 : 0 <= i) (h1 : i < 26) (h : Q (.str ⟨#[97 + i.toNat]⟩) H) : iF K (.str (Str.ofString "abcdefghijklmnopqrstuvwxyz")) (.int i) H Q :=
 xU (by rw [fN]; decide) h0 (by rw [fN]; omega) fun c hc => by
  have e := xZ ⟨i.toNat, by omega⟩
  have e2 : some c = some (97 + i.toNat) := hc.symm.trans e
  rw [Option.some.inj e2]; exact h
local macro_rules | `(tactic| walk_at "rd1") => `(tactic| first
 | ((with_reducible refine' xS (ls := [1, 3, 5, 7, 9, 11]) ?e1 ?e2 ?e3 ?_); (case e1 => walk_at "dat"); (case e2 => omega); (case e3 => (simp only [List.length_cons, List.length_nil]; omega)))
 | ((with_reducible refine' wh ?e1 (fun _ => ?_)); (case e1 => walk_at "len"))
 | ((with_reducible refine' tj ?e1 ?e2 ?_); (case e1 => omega); (case e2 => omega))
 | fail)
set_option hygiene false in
local macro_rules | `(tactic| walk_at "len") => `(tactic| first
 | (simp only [Str.length_append, nE, fN] at *; omega)
 | fail)
theorem rg (T : Txt K mg a) : bQ P w K mg base gO 1 a.bp a.fA ["_law_cell", "_law_k"] gX := by
 refine T.ei.ok bC (fun vs H Q E h => ?_) (fun du A outer s H vs Q E hr h => ?_)
 . obtain ⟨_, _, rfl, _⟩ := h; rfl
 . obtain ⟨c, k, rfl, k0, k1, q⟩ := h
   have al := fN
   refine ⟨_, (ah (aE (i := 2) bC.nd rfl (Or.inl rfl) rk)
    (ah (aE (i := 3) bC.nd rfl (Or.inl rfl) (aP cU (pv 2) (ag av (ag aU (pv 0) (ag bO (pv 1) (aP cU (cH (nC (vs := [.int 1, .int 3, .int 5, .int 7, .int 9, .int 11]) rfl)) (ag av (ag aD (pv 0) ae) ae) (fun _ _ => rfl)))) ae) (fun _ _ => rfl)))
    (ah (aE (i := 4) bC.nd rfl (Or.inl rfl) (cT eF (cT eF (pv 2) (c4 (ag av (ag aD (pv 0) ae) ae)) eG) eG (c4 (ag av (ag aD (pv 0) ae) ae))))
    (ah (aE (i := 5) bC.nd rfl (Or.inl rfl) (ag av (ag aD (pv 0) ae) (ag aU (cA eJ rfl T.fg PySem.boot_len (af (pv 4) ao)) ae)))
    (ah (aE (i := 6) bC.nd rfl (Or.inl rfl) (cT eF (cT eF (pv 2) (c4 (ag av (ag bO (pv 1) ae) ae)) eG) eG (c4 (ag bO (ag av (pv 1) ae) (ag av (ag aD (pv 0) ae) ae)))))
    (ay (bh (ag jz (ag jz (ag jz (cT eF (pv 4) eG (c4 (pv 5))) (pv 3)) (cT eF (pv 4) (c4 (pv 5)) eG)) (pv 6))))))))), ?_⟩
   have hm : 0 <= [1, 3, 5, 7, 9, 11].getD (c / 26 % 6).toNat (0 : Int) /\ [1, 3, 5, 7, 9, 11].getD (c / 26 % 6).toNat (0 : Int) <= 11 := by
    have := rX c
    unfold gK at this
    omega
   repeat' (walk_at "rd1")
   exact q _ (by walk_at "same")
theorem om (T : Txt K mg a) : m9 P w K mg base 1 a.bp ["_law_cell", "_law_k"] [] gX :=
 ⟨⟨_, _, rg T, T.ei.binds fun _ _ _ _ _ _ => .all fun us hl => match us, hl with | [_, _], _ => rfl, .nil⟩⟩
theorem oD (T : Txt K mg a) (s : Shared) (u : Value) : BindsTo s a.jB ⟨[u], []⟩ [("_law_script", u)] := by
 obtain ⟨oc, od, kV, doc, pm, an, du, ct, oG, e, lk, iP⟩ := T.qP.ex
 rw [e]
 exact .of_eq rfl
theorem iw (T : Txt K mg a) : bQ P w K mg base gO 1 a.aN a.dS ["_law_script", "_law_k"] (mI K) := by
 refine T.cS.ok gJ (fun vs H Q E h => ?_) (fun du A outer s H vs Q E hr h => ?_)
 . obtain ⟨_, _, _, rfl, _⟩ := h; rfl
 . obtain ⟨l, ns, i, rfl, hl, h0, k⟩ := h
   refine ⟨_, (ah (d0 (bR uT (pv 1) (cA eJ rfl T.fg PySem.boot_len (af (pv 0) ao)) (cQ _))
    (ay (bh (aP cU (pv 0) (pv 1) (fun _ _ => rfl))))
    bP)
    (ay (bh ae))), ?_⟩
   repeat' (walk_at "rd1")
   . exact zy hl (uF h0 (by assumption)) k
   . rw [sY h0 (by assumption)] at k; exact k
theorem cB (T : Txt K mg a) : m9 P w K mg base 1 a.aN ["_law_script", "_law_k"] [] (mI K) :=
 ⟨⟨_, _, iw T, T.cS.binds fun _ _ _ _ _ _ => .all fun us hl => match us, hl with | [_, _], _ => rfl, .nil⟩⟩
def g0 (K : PySem.W.Frag) : Sp := fun vs H Q _ => ∃ (l : Addr) (ns : List Int) (m : Int), vs = [.ref l, .int m] /\ bF K H l (ns.map V.int) /\ 0 <= m /\ m <= 200 /\ ∀ p H' (ms : List Int), ai H H' -> H p = none -> (ms.length : Int) = m -> bJ H' p (ms.map PyData.int) -> Q (.ref p) H'
theorem uk {H : Hp} {Q : VK} {E : XK} {l : Addr} {ns : List Int} {m : Int} (h : bF K H l (ns.map V.int)) (h0 : 0 <= m) (h1 : m <= 200) (q : ∀ p H' (ms : List Int), ai H H' -> H p = none -> (ms.length : Int) = m -> bJ H' p (ms.map PyData.int) -> Q (.ref p) H') : g0 K [.ref l, .int m] H Q E := ⟨l, ns, m, rfl, h, h0, h1, q⟩
local macro_rules | `(tactic| walk_at "use") => `(tactic| first
 | with_reducible refine jT (fun _ _ _ => ?_)
 | with_reducible refine Ab (fun _ => ?_)
 | ((with_reducible refine' xX ?e1 ?e2 ?_); (case e1 => walk_at "sql"); (case e2 => omega))
 | ((with_reducible refine' uk ?e1 ?e2 ?e3 (fun _ _ _ _ _ _ _ => ?_)); (case e1 => walk_at "sql"); (case e2 => omega); (case e3 => omega))
 | ((with_reducible refine' tN ?e1 (fun _ _ => ?_)); (case e1 => omega))
 | fail)
theorem q8 (T : Txt K mg a) : bQ P w K mg base gO 2 a.aX a.eT ["_law_script", "_law_many"] (g0 K) := by
 have aH := cB (P := P) (w := w) (base := base) T
 have bD := fR (P := P) (w := w) (base := base) T
 refine T.dH.ok cj (fun vs H Q E h => ?_) (fun du A outer s H vs Q E hr h => ?_)
 . obtain ⟨_, _, _, rfl, _⟩ := h; rfl
 . obtain ⟨l, ns, m, rfl, hl, m0, m1, q⟩ := h
   refine ⟨_, (ah (aE (i := 2) cj.nd rfl (Or.inl rfl) (cT tu (pv 0) (c4 ae) (c4 (ag aU ae (pv 1)))))
    (ah (aE (i := 3) cj.nd rfl (Or.inl rfl) (aQ aH (hr.mono (by decide)) rfl T.aJ T.aK (af (pv 0) (af ae ao))))
    (ah (rU PassesOwn.never (bR uT (cA eJ rfl T.fg PySem.boot_len (af (pv 2) ao)) (pv 1) (cQ _))
     (ah (aE (i := 3) cj.nd rfl (Or.inl rfl) (aQ bD (hr.mono (by decide)) rfl T.bI T.bH (af (ag aU (pv 3) (cA eJ rfl T.fg PySem.boot_len (af (pv 2) ao))) ao)))
     (ay (jW (rq PySem.F.plainAttrs_list PySem.F.slot_list_append PySem.F.type_list_append fX (pv 2) (af (pv 3) ao))))))
    (ay (bh (pv 2)))))), ?_⟩
   repeat' (walk_at "rd1")
   obtain ⟨M, rfl⟩ := Int.eq_ofNat_of_zero_le m0
   refine xN 4 (4 + M) hl (fun p H1 oj sr hp => ?_)
   have E8 : ((ns.drop 4).take (4 + M - 4)).length <= M := by rw [List.length_take]; omega
   generalize (ns.drop 4).take (4 + M - 4) = HI at *
   repeat' (walk_at "rd1")
   refine sW (fun r σ' H' => ∃ (num : Int) (ms : List Int), σ' = [some (.ref l), some (.int M), some (.ref p), some (.int num)] /\ Mv [p] H1 H' /\ bJ H' p (ms.map PyData.int) /\ ms.length <= M /\ r = M - ms.length) ⟨_, _, HI, rfl, Mv.refl, hp, E8, rfl⟩ ?_
   rintro r σ' H' ⟨num, ms, rfl, mv, vt, hle, rfl⟩
   repeat' (walk_at "rd1")
   . rename_i hb x x0 x1 H3 CB Gh
     refine ⟨M - (ms.length + 1), by omega, x, ms ++ [x], rfl, by walk_at "mv", by rw [List.map_append]; exact Gh, by rw [List.length_append]; simp only [List.length_cons, List.length_nil]; omega, by rw [List.length_append]; rfl⟩
   . exact q p H' ms (by walk_at "same") sr (by omega) vt
theorem pH (T : Txt K mg a) : m9 P w K mg base 2 a.aX ["_law_script", "_law_many"] [] (g0 K) :=
 ⟨⟨_, _, q8 T, T.dH.binds fun _ _ _ _ _ _ => .all fun us hl => match us, hl with | [_, _], _ => rfl, .nil⟩⟩
abbrev C4 := Str × Int × Int × Int
def fF (c : C4) : PyData := .tuple [.str c.1, .int c.2.1, .int c.2.2.1, .int c.2.2.2]
structure yo (cs : List C4) : Prop where
 nm : ∀ c ∈ cs, Fo c.1
 wd : ∀ c ∈ cs, c.2.1 <= c.2.2.1
structure lG (cs : List C4) : Prop where
 ok : yo cs
 w1 : ∀ c ∈ cs, 1 <= c.2.2.2 /\ c.2.2.2 <= 10 ^ 12
 nd : (cs.map (·.1)).Nodup
theorem qK (c : Int) : ∀ m : Nat, m <= 26 -> ((List.range m).map fun i => pZ c (i : Nat)).Nodup := fun m hm => by
 rw [List.Nodup, List.pairwise_map]
 refine List.Pairwise.imp_of_mem (fun ha hb za e => za ?_) List.nodup_range
 have h1 := List.mem_range.mp ha
 have h2 := List.mem_range.mp hb
 have := uh (by omega) (by omega) (by omega) (by omega) e
 omega
def fb (K : PySem.W.Frag) : Sp := fun vs H Q _ => ∃ (l : Addr) (ns : List Int) (m : Int), vs = [.ref l, .int m] /\ bF K H l (ns.map V.int) /\ 0 <= m /\ m <= 26 /\ ∀ p H' (cs : List C4), ai H H' -> H p = none -> (cs.length : Int) = m -> lG cs -> bJ H' p (cs.map fF) -> Q (.ref p) H'
theorem oM {H : Hp} {Q : VK} {E : XK} {l : Addr} {ns : List Int} {m : Int} (h : bF K H l (ns.map V.int)) (h0 : 0 <= m) (h1 : m <= 26) (q : ∀ p H' (cs : List C4), ai H H' -> H p = none -> (cs.length : Int) = m -> lG cs -> bJ H' p (cs.map fF) -> Q (.ref p) H') : fb K [.ref l, .int m] H Q E := ⟨l, ns, m, rfl, h, h0, h1, q⟩
set_option maxHeartbeats 0 in
theorem lP (T : Txt K mg a) : bQ P w K mg base gO 3 a.aS a.eA ["_law_script", "_law_many"] (fb K) := by
 have aH := cB (P := P) (w := w) (base := base) T
 have lQ := sH (P := P) (w := w) (base := base) T
 have jA := pH (P := P) (w := w) (base := base) T
 have kd := om (P := P) (w := w) (base := base) T
 refine T.di.ok aC (fun vs H Q E h => ?_) (fun du A outer s H vs Q E hr h => ?_)
 . obtain ⟨_, _, _, rfl, _⟩ := h; rfl
 . obtain ⟨l, ns, m, rfl, hl, m0, m1, q⟩ := h
   refine ⟨_, (ah (aE (i := 2) aC.nd rfl (Or.inl rfl) (aQ lQ (hr.mono (by decide)) rfl T.gA T.gx (af (aQ aH (hr.mono (by decide)) rfl T.aJ T.aK (af (pv 0) (af ae ao))) ao)))
    (ah (aE (i := 3) aC.nd rfl (Or.inl rfl) (aQ jA (hr.mono (by decide)) rfl T.eV T.eY (af (pv 0) (af (ag bO ae (pv 1)) ao))))
    (ah (aE (i := 4) aC.nd rfl (Or.inl rfl) (ag av (pv 2) ae))
    (ah (aE (i := 5) aC.nd rfl (Or.inl rfl) (cH ao))
    (ah (eD PassesOwn.never rfl (f9 rfl T.dt (af (pv 1) ao)) (aF (i := 6) aC.nd rfl (Or.inl rfl))
     (ah (aE (i := 7) aC.nd rfl (Or.inl rfl) (aP cU (pv 3) (ag bO ae (pv 6)) (fun _ _ => rfl)))
     (ah (aE (i := 8) aC.nd rfl (Or.inl rfl) (aP cU (pv 3) (ag aU (ag bO ae (pv 6)) ae) (fun _ _ => rfl)))
     (ah (aE (i := 9) aC.nd rfl (Or.inl rfl) (ag aU (aP cU (cH (af ae (af ae (af (ag hX ae ae) (af (ag fh ae ae) ao))))) (ag av (ag aD (pv 2) ae) ae) (fun _ _ => rfl)) (ag av (pv 7) (aP cU (cH (af ae (af ae (af (ag hX ae ae) (af (ag bO ae (pv 1)) ao))))) (pv 4) (fun _ _ => rfl)))))
     (ah (aE (i := 10) aC.nd rfl (Or.inl rfl) (ag aU (pv 9) (aP cU (cH (af (ag av (ag aD (pv 7) ae) ae) (af (ag av (ag aD (pv 7) ae) ae) (af (ag av (ag aD (pv 8) ae) (ag hX ae ae)) (af (ag av (ag aD (pv 7) ae) ae) ao))))) (pv 4) (fun _ _ => rfl))))
     (ah (aE (i := 11) aC.nd rfl (Or.inl rfl) (ag aU ae (ag av (pv 8) (aP cU (cH (af ae (af ae (af (ag fh (ag hX ae ae) ae) ao)))) (ag av (ag aD (pv 2) ae) ae) (fun _ _ => rfl)))))
     (ay (jW (rq PySem.F.plainAttrs_list PySem.F.slot_list_append PySem.F.type_list_append fX (pv 5) (af (gL (af (aQ kd (hr.mono (by decide)) rfl T.fv T.fG (af (ag aD (pv 2) ae) (af (pv 6) ao))) (af (pv 9) (af (pv 10) (af (pv 11) ao))))) ao))))))))))
    (ay (bh (pv 5)))))))), ?_⟩
   obtain ⟨M, rfl⟩ := Int.eq_ofNat_of_zero_le m0
   repeat' (walk_at "rd1")
   rename_i sh pc H1 ms oj sr AV Ci w0 w1 pf H2 fy vI GK
   refine gg (fun j σ' H' => ∃ z6 z7 z8 z9 lj vm cs, σ' = [some (.ref l), some (.int M), some (.int sh), some (.ref pc), some (.int (sh % 4)), some (.ref pf), z6, z7, z8, z9, lj, vm] /\ Mv [pf] H2 H' /\ bJ H' pf (cs.map fF) /\ cs.length = j /\ yo cs /\ (∀ c ∈ cs, 1 <= c.2.2.2 /\ c.2.2.2 <= 10 ^ 12) /\ cs.map (·.1) = (List.range j).map fun i => pZ (sh / 48) (i : Nat)) ⟨_, _, _, _, _, _, [], rfl, Mv.refl, GK, rfl, ⟨fun c h => by simp at h, fun c h => by simp at h⟩, fun c h => by simp at h, rfl⟩ ?_ ?_
   . rintro j σ' H' hj ⟨z6, z7, z8, z9, lj, vm, cs, rfl, mv, vt, gH, aL, DW, C6⟩
     have HW : j < M := by simpa using hj
     have fin : ∀ (c : C4) H3 (σ2 : St) (z6 z7 z8 z9 lj vm : Option V), c.1 = pZ (sh / 48) (0 + (j : Nat)) -> c.2.1 <= c.2.2.1 -> (1 <= c.2.2.2 /\ c.2.2.2 <= 10 ^ 12) -> Mv [pf] H2 H3 -> bJ H3 pf (cs.map fF ++ [fF c]) -> σ2 = [some (.ref l), some (.int M), some (.int sh), some (.ref pc), some (.int (sh % 4)), some (.ref pf), z6, z7, z8, z9, lj, vm] -> ∃ z6 z7 z8 z9 lj vm cs, σ2 = [some (.ref l), some (.int M), some (.int sh), some (.ref pc), some (.int (sh % 4)), some (.ref pf), z6, z7, z8, z9, lj, vm] /\ Mv [pf] H2 H3 /\ bJ H3 pf (cs.map fF) /\ cs.length = j + 1 /\ yo cs /\ (∀ c ∈ cs, 1 <= c.2.2.2 /\ c.2.2.2 <= 10 ^ 12) /\ cs.map (·.1) = (List.range (j + 1)).map fun i => pZ (sh / 48) (i : Nat) := by
      intro c H3 σ2 z6 z7 z8 z9 lj vm hn hw F4 m l2 e
      refine ⟨_, _, _, _, _, _, cs ++ [c], e, m, by rw [List.map_append]; exact l2, by simp [gH], ⟨fun d hd => ?_, fun d hd => ?_⟩, fun d hd => ?_, ?_⟩
      . rcases List.mem_append.mp hd with hd | hd
        . exact aL.nm d hd
        . have : d = c := by simpa using hd
          subst this; rw [hn]; exact v5 _ _
      . rcases List.mem_append.mp hd with hd | hd
        . exact aL.wd d hd
        . have : d = c := by simpa using hd
          subst this; exact hw
      . rcases List.mem_append.mp hd with hd | hd
        . exact DW d hd
        . have : d = c := by simpa using hd
          subst this; exact F4
      . rw [List.map_append, C6, List.range_succ, List.map_append, List.map_cons, List.map_nil, List.map_cons, List.map_nil, hn]
        rw [Int.zero_add]
     repeat' (walk_at "rd1")
     all_goals (refine' fin (_, _, _, _) _ _ _ _ _ _ _ _ ?e1 ?e2 ?e6 ?e3 ?e4 ?e5; (case e4 => assumption); (case e5 => exact rfl); (case e1 => exact rfl); (case e6 => (dsimp only; omega)); (case e3 => walk_at "mv"); (case e2 => (dsimp only; omega)))
   . rintro σ' H' ⟨z6, z7, z8, z9, lj, vm, cs, rfl, mv, vt, gH, aL, DW, C6⟩
     repeat' (walk_at "rd1")
     exact q pf H' cs (by walk_at "same") (by walk_at "none") (by omega) ⟨aL, DW, by rw [C6]; exact qK _ _ (by omega)⟩ vt
theorem kW (T : Txt K mg a) : m9 P w K mg base 3 a.aS ["_law_script", "_law_many"] [] (fb K) :=
 ⟨⟨_, _, lP T, T.di.binds fun _ _ _ _ _ _ => .all fun us hl => match us, hl with | [_, _], _ => rfl, .nil⟩⟩
def nI (ts : List Int) (f l : Int) : Option Int := ts.find? fun t => decide (f <= t) && decide (t <= l)
def hit (ts : List Int) (c : C4) : Bool := (nI ts c.2.1 c.2.2.1).isSome
def Dw (ts : List Int) (cs : List C4) : Int := ((cs.filter (hit ts)).map (·.2.2.2)).sum
theorem cq (ts : List Int) (c : C4) : hit ts c = true ↔ ∃ t ∈ ts, c.2.1 <= t /\ t <= c.2.2.1 := by
 unfold hit nI
 rw [List.find?_isSome]
 simp
theorem fB {l₁ l₂ : List Int} (h : l₁.Perm l₂) : l₁.sum = l₂.sum := by
 induction h with
 | nil => rfl
 | cons x _ ih => rw [List.sum_cons, List.sum_cons, ih]
 | swap x y l => simp only [List.sum_cons]; omega
 | trans _ _ h1 h2 => exact h1.trans h2
theorem take_snoc {α : Type} {l : List α} {j : Nat} {c : α} (h : l[j]? = some c) : l.take (j + 1) = l.take j ++ [c] := by
 rw [List.take_add_one, h]; rfl
theorem nQ (xs ys : List Int) : (xs ++ ys).sum = xs.sum + ys.sum := by
 induction xs with
 | nil => simp
 | cons x r ih => simp only [List.cons_append, List.sum_cons, ih]; omega
def sf (P : C4 -> Bool) (g : C4 -> Int) (cs : List C4) : Int := ((cs.filter P).map g).sum
theorem fj (P : C4 -> Bool) (g : C4 -> Int) : sf P g [] = 0 := rfl
theorem bU (P : C4 -> Bool) (g : C4 -> Int) (c : C4) (cs : List C4) : sf P g (c :: cs) = (if P c = true then g c else 0) + sf P g cs := by
 unfold sf
 rw [List.filter_cons]
 split
 . rw [List.map_cons, List.sum_cons]
 . omega
theorem lF (P : C4 -> Bool) (g : C4 -> Int) (cs ds : List C4) : sf P g (cs ++ ds) = sf P g cs + sf P g ds := by
 unfold sf; rw [List.filter_append, List.map_append, nQ]
theorem jj {P R : C4 -> Bool} {g h : C4 -> Int} : ∀ {cs : List C4}, (∀ c ∈ cs, P c = true -> R c = true /\ g c <= h c) -> (∀ c ∈ cs, R c = true -> 0 <= h c) -> sf P g cs <= sf R h cs
 | [], _, _ => by rw [fj, fj]; exact Int.le_refl _
 | c :: cs, h1, h2 => by
   have ih := jj (fun d hd => h1 d (List.mem_cons_of_mem _ hd)) (fun d hd => h2 d (List.mem_cons_of_mem _ hd))
   rw [bU, bU]
   by_cases hp : P c = true
   . obtain ⟨hr, hg⟩ := h1 c List.mem_cons_self hp
     rw [if_pos hp, if_pos hr]; omega
   . rw [if_neg hp]
     by_cases hr : R c = true
     . rw [if_pos hr]; have := h2 c List.mem_cons_self hr; omega
     . rw [if_neg hr]; omega
theorem qM {P R : C4 -> Bool} {g : C4 -> Int} : ∀ {cs : List C4}, (∀ c ∈ cs, 0 <= g c) -> sf (fun c => P c || R c) g cs <= sf P g cs + sf R g cs
 | [], _ => by rw [fj, fj, fj]; decide
 | c :: cs, h => by
   have ih := qM (P := P) (R := R) (fun d hd => h d (List.mem_cons_of_mem _ hd))
   have hc := h c List.mem_cons_self
   rw [bU, bU, bU]
   by_cases hp : P c = true
   . by_cases hr : R c = true
     . simp only [hp, hr, Bool.or_self, if_true]; omega
     . simp only [hp, hr, Bool.true_or, if_true, if_false, Bool.false_eq_true]; omega
   . by_cases hr : R c = true
     . simp only [hp, hr, Bool.or_true, if_true, if_false, Bool.false_eq_true]; omega
     . simp only [hp, hr, Bool.or_self, if_false, Bool.false_eq_true]; omega
theorem jX {P : C4 -> Bool} {g : C4 -> Int} {cs ds : List C4} (h : cs.Perm ds) : sf P g cs = sf P g ds := fB ((h.filter _).map _)
def con (p : Int) (c : C4) : Bool := decide (c.2.1 <= p) && decide (p <= c.2.2.1)
def load (f : Str -> Int) (cs : List C4) (p : Int) : Int := sf (con p) (fun c => f c.1) cs
theorem aO {p : Int} {c : C4} : con p c = true ↔ c.2.1 <= p /\ p <= c.2.2.1 := by simp [con]
theorem i9 : ∀ (ds : List C4), ds ≠ [] -> ∃ c ∈ ds, ∀ d ∈ ds, d.2.1 <= c.2.1
 | [], h => absurd rfl h
 | [c], _ => ⟨c, by simp, fun d hd => by have : d = c := by simpa using hd
                                         rw [this]; exact Int.le_refl _⟩
 | c :: d :: r, _ => by
   obtain ⟨e, he, hm⟩ := i9 (d :: r) (by simp)
   by_cases h : c.2.1 <= e.2.1
   . exact ⟨e, List.mem_cons_of_mem _ he, fun x hx => (List.mem_cons.mp hx).elim (fun z => z ▸ h) (hm x)⟩
   . exact ⟨c, List.mem_cons_self, fun x hx => (List.mem_cons.mp hx).elim (fun z => z ▸ Int.le_refl _) (fun z => by have := hm x z; omega)⟩
theorem kB {f : Str -> Int} {cs : List C4} {pr : Int} (h0 : 0 <= pr) (hf : ∀ c ∈ cs, 0 <= f c.1) (hl : ∀ c ∈ cs, load f cs c.2.1 <= pr) (t : Int) : load f cs t <= pr := by
 by_cases h : cs.filter (con t) = []
 . unfold load sf; rw [h]; exact h0
 . obtain ⟨c, hc, hm⟩ := i9 _ h
   obtain ⟨By, B6⟩ := List.mem_filter.mp hc
   refine Int.le_trans (jj (fun d hd hp => ⟨?_, Int.le_refl _⟩) (fun d hd _ => hf d hd)) (hl c By)
   have h1 := hm d (List.mem_filter.mpr ⟨hd, hp⟩)
   have h2 := aO.mp hp
   have h3 := aO.mp B6
   exact aO.mpr ⟨h1, by omega⟩
theorem j7 (t : Int) (ts : List Int) (c : C4) : hit (t :: ts) c = (con t c || hit ts c) := by
 rw [Bool.eq_iff_iff, Bool.or_eq_true, cq, cq, aO]
 simp
theorem nS {f : Str -> Int} {cs : List C4} {pr : Int} (h0 : 0 <= pr) (hf : ∀ c ∈ cs, 0 <= f c.1) (hl : ∀ c ∈ cs, load f cs c.2.1 <= pr) : ∀ ts : List Int, sf (hit ts) (fun c => f c.1) cs <= ts.length * pr
 | [] => by
   have : cs.filter (hit []) = [] := List.filter_eq_nil_iff.mpr fun c _ => by rw [cq]; simp
   unfold sf; rw [this]; simp
 | t :: ts => by
   have ih := nS h0 hf hl ts
   have e : hit (t :: ts) = fun c => con t c || hit ts c := funext (j7 t ts)
   have h1 := qM (P := con t) (R := hit ts) (g := fun c => f c.1) (cs := cs) hf
   have h2 := kB h0 hf hl t
   unfold load at h2
   rw [e, List.length_cons]
   have : ((ts.length + 1 : Nat) : Int) * pr = ts.length * pr + pr := by rw [Int.natCast_add, Int.add_mul]; simp
   omega
theorem iE {P : C4 -> Bool} {g : C4 -> Int} : ∀ cs : List C4, sf P g cs + sf (fun c => !P c) g cs = (cs.map g).sum
 | [] => rfl
 | c :: cs => by
   have ih := iE (P := P) (g := g) cs
   rw [bU, bU, List.map_cons, List.sum_cons]
   by_cases hp : P c = true
   . simp only [hp, if_true, Bool.not_true, Bool.false_eq_true, if_false]; omega
   . simp only [hp, if_false, Bool.not_false, if_true, Bool.false_eq_true]; omega
structure wy (pr : Int) (cs : List C4) (f : Str -> Int) : Prop where
 nn : ∀ c ∈ cs, 0 <= f c.1
 le : ∀ c ∈ cs, f c.1 <= c.2.2.2
 ld : ∀ c ∈ cs, load f cs c.2.1 <= pr
theorem wy.first {pr : Int} {cs : List C4} {f : Str -> Int} (h0 : 0 <= pr) (h : wy pr cs f) (ts : List Int) : Dw ts cs <= ts.length * pr + (cs.map fun c => c.2.2.2 - f c.1).sum := by
 have h1 := nS h0 h.nn h.ld ts
 have h2 := iE (P := hit ts) (g := fun c => c.2.2.2 - f c.1) cs
 have h3 : 0 <= sf (fun c => !hit ts c) (fun c => c.2.2.2 - f c.1) cs := by
  have := jj (P := fun _ => false) (R := fun c => !hit ts c) (g := fun _ => 0) (h := fun c => c.2.2.2 - f c.1) (cs := cs) (fun c _ z => by cases z) (fun c hc _ => by have := h.le c hc; omega)
  have e : sf (fun _ => false) (fun _ => 0) cs = 0 := by unfold sf; rw [List.filter_eq_nil_iff.mpr (fun _ _ z => by cases z)]; rfl
  omega
 have h4 : Dw ts cs = sf (hit ts) (fun c => f c.1) cs + sf (hit ts) (fun c => c.2.2.2 - f c.1) cs := by
  unfold Dw sf
  induction cs.filter (hit ts) with
  | nil => rfl
  | cons c r ih => simp only [List.map_cons, List.sum_cons] at ih ⊢; omega
 omega
def bS (f : Str -> Int) (n : Str) (v : Int) : Str -> Int := fun x => if x = n then v else f x
theorem fq {f : Str -> Int} {ds : List C4} {c : C4} {v p : Int} (hn : c.1 ∉ ds.map (·.1)) : load (bS f c.1 v) (ds ++ [c]) p = load f ds p + (if con p c = true then v else 0) := by
 unfold load
 rw [lF, bU, fj]
 have e1 : sf (con p) (fun d => bS f c.1 v d.1) ds = sf (con p) (fun d => f d.1) ds := by
  unfold sf
  congr 1
  refine List.map_congr_left fun d hd => ?_
  have : d.1 ≠ c.1 := fun z => hn (z ▸ List.mem_map_of_mem (List.mem_filter.mp hd).1)
  simp [bS, this]
 have e2 : bS f c.1 v c.1 = v := by simp [bS]
 rw [e1, e2]
 omega
def dU (v : Int) (l : List Int) (hs : List Nat) : List Int := hs.foldl (fun l i => l.set i (l.getD i 0 + v)) l
theorem mm (v : Int) (l : List Int) (hs : List Nat) (i : Nat) : dU v l (hs ++ [i]) = (dU v l hs).set i ((dU v l hs).getD i 0 + v) := by unfold dU; rw [List.foldl_append]; rfl
theorem fV (v : Int) : ∀ (hs : List Nat) (l : List Int), (dU v l hs).length = l.length
 | [], _ => rfl
 | h :: hs, l => by show (dU v (l.set h (l.getD h 0 + v)) hs).length = _; rw [fV v hs, List.length_set]
theorem i5 (v : Int) : ∀ (hs : List Nat) (l : List Int), hs.Nodup -> ∀ i, i < l.length -> (dU v l hs).getD i 0 = l.getD i 0 + (if i ∈ hs then v else 0)
 | [], l, _, i, _ => by show l.getD i 0 = _; simp
 | h :: hs, l, nd, i, hi => by
   obtain ⟨n1, n2⟩ := List.nodup_cons.mp nd
   show (dU v (l.set h (l.getD h 0 + v)) hs).getD i 0 = _
   rw [i5 v hs _ n2 i (by rw [List.length_set]; exact hi)]
   by_cases e : i = h
   . subst e
     have : (l.set i (l.getD i 0 + v)).getD i 0 = l.getD i 0 + v := by
      rw [List.getD_eq_getElem?_getD, List.getElem?_set_self hi]; rfl
     rw [this, if_neg n1, if_pos List.mem_cons_self]; omega
   . have : (l.set h (l.getD h 0 + v)).getD i 0 = l.getD i 0 := by
      rw [List.getD_eq_getElem?_getD, List.getElem?_set_ne (Ne.symm e), <- List.getD_eq_getElem?_getD]
     rw [this]
     by_cases m : i ∈ hs
     . rw [if_pos m, if_pos (List.mem_cons_of_mem _ m)]
     . rw [if_neg m, if_neg (by simp [e, m])]
def heldOf (ps : List Int) (c : C4) : List Nat := (ps.zipIdx.filter fun x => con x.1 c).map (·.2)
theorem cR {ps : List Int} {c : C4} {i : Nat} : i ∈ heldOf ps c ↔ ∃ p, ps[i]? = some p /\ con p c = true := by
 unfold heldOf
 rw [List.mem_map]
 constructor
 . rintro ⟨⟨p, j⟩, h, rfl⟩
   obtain ⟨h1, h2⟩ := List.mem_filter.mp h
   exact ⟨p, List.mk_mem_zipIdx_iff_getElem?.mp h1, h2⟩
 . rintro ⟨p, h1, h2⟩
   exact ⟨(p, i), List.mem_filter.mpr ⟨List.mk_mem_zipIdx_iff_getElem?.mpr h1, h2⟩, rfl⟩
theorem t8 (ps : List Int) (c : C4) : (heldOf ps c).Nodup := by
 have h1 : (ps.zipIdx.map (·.2)).Nodup := by
  rw [List.zipIdx_map_snd]; exact List.nodup_range'
 exact h1.sublist (List.filter_sublist.map _)
theorem jv {ps : List Int} {c : C4} {i : Nat} (h : i ∈ heldOf ps c) : i < ps.length := by
 obtain ⟨p, h1, _⟩ := cR.mp h
 exact (List.getElem?_eq_some_iff.mp h1).1
theorem q9 (ps : List Int) (c : C4) : (heldOf ps c).length <= ps.length := by
 unfold heldOf
 rw [List.length_map]
 exact Nat.le_trans (List.length_filter_le _ _) (by rw [List.length_zipIdx]; exact Nat.le_refl _)
theorem oI {ps : List Int} {c : C4} {v : Int} {g : Int -> Int} : dU v (ps.map g) (heldOf ps c) = ps.map fun p => g p + (if con p c = true then v else 0) := by
 have hl : (dU v (ps.map g) (heldOf ps c)).length = ps.length := by rw [fV, List.length_map]
 refine List.ext_getElem (by rw [hl, List.length_map]) fun i h1 h2 => ?_
 have hi : i < ps.length := by omega
 have h3 := i5 v (heldOf ps c) (ps.map g) (t8 ps c) i (by rw [List.length_map]; exact hi)
 rw [List.getD_eq_getElem?_getD, List.getElem?_eq_getElem h1, Option.getD_some] at h3
 rw [h3, List.getElem_map, List.getD_eq_getElem?_getD, List.getElem?_map, List.getElem?_eq_getElem hi]
 by_cases hc : con ps[i] c = true
 . rw [if_pos hc, if_pos (cR.mpr ⟨_, List.getElem?_eq_getElem hi, hc⟩)]; rfl
 . rw [if_neg hc, if_neg (fun z => by
    obtain ⟨p, e1, e2⟩ := cR.mp z
    rw [List.getElem?_eq_getElem hi] at e1
    cases e1
    exact hc e2)]; rfl
structure Pr (pr : Int) (ps : List Int) (f : Str -> Int) (ds : List C4) : Prop where
 nn : ∀ c ∈ ds, 0 <= f c.1 /\ f c.1 <= c.2.2.2
 ld : ∀ p ∈ ps, load f ds p <= pr
theorem Pr.step {pr mx v : Int} {ps : List Int} {f : Str -> Int} {ds : List C4} {c : C4} (h : Pr pr ps f ds) (hn : c.1 ∉ ds.map (·.1)) (hm : ∀ i ∈ heldOf ps c, (ps.map (load f ds)).getD i 0 <= mx) (hx : ∃ i ∈ heldOf ps c, mx = (ps.map (load f ds)).getD i 0) (hv : v = c.2.2.2 \/ v = pr - mx) (Di : v <= c.2.2.2) (DY : v <= pr - mx) (hw : 1 <= c.2.2.2) : Pr pr ps (bS f c.1 v) (ds ++ [c]) := by
 have Bv : mx <= pr := by
  obtain ⟨i, hi, e⟩ := hx
  have hl := jv hi
  rw [List.getD_eq_getElem?_getD, List.getElem?_map, List.getElem?_eq_getElem hl] at e
  have : mx = load f ds ps[i] := e
  rw [this]; exact h.ld _ (List.getElem_mem hl)
 refine ⟨fun d hd => ?_, fun p hp => ?_⟩
 . rcases List.mem_append.mp hd with hd | hd
   . have : d.1 ≠ c.1 := fun z => hn (z ▸ List.mem_map_of_mem hd)
     simp only [bS, if_neg this]
     exact h.nn d hd
   . have : d = c := by simpa using hd
     subst this
     simp only [bS, if_true]
     omega
 . rw [fq hn]
   have := h.ld p hp
   by_cases hc : con p c = true
   . rw [if_pos hc]
     obtain ⟨i, hi, rfl⟩ := List.getElem_of_mem hp
     have := hm i (cR.mpr ⟨_, List.getElem?_eq_getElem hi, hc⟩)
     rw [List.getD_eq_getElem?_getD, List.getElem?_map, List.getElem?_eq_getElem hi] at this
     have : load f ds ps[i] <= mx := this
     omega
   . rw [if_neg hc]; omega
theorem Pr.shr {pr : Int} {ps : List Int} {f : Str -> Int} {ls cs : List C4} (h : Pr pr ps f ls) (hp : ls.Perm cs) (hm : ∀ c ∈ cs, c.2.1 ∈ ps) : wy pr cs f := by
 refine ⟨fun c hc => (h.nn c (hp.mem_iff.mpr hc)).1, fun c hc => (h.nn c (hp.mem_iff.mpr hc)).2, fun c hc => ?_⟩
 have := h.ld _ (hm c hc)
 unfold load at this ⊢
 rwa [jX hp] at this
theorem m5 {H : Hp} {y : V} {d : PyData} (hy : Dv H y d) : ∀ {xs : List V} {ds : List PyData} (j : Nat), a9 H xs ds -> a9 H (xs.set j y) (ds.set j d)
 | [], [], _, _ => .nil
 | _ :: _, _ :: _, 0, .cons _ t => .cons hy t
 | _ :: _, _ :: _, j + 1, .cons h t => .cons h (m5 hy j t)
theorem il {d : PyData} (hd : gM d = true) {ds : List PyData} (j : Nat) (h : aM ds = true) : aM (ds.set j d) = true := by
 rw [cO] at h ⊢
 intro x hx
 rcases List.mem_or_eq_of_mem_set hx with h1 | rfl
 . exact h x h1
 . exact hd
theorem wM {D : Ends} {σ : St} {H : Hp} {to ti te : TE} {t : sI} (h : te σ H fun v H1 => to σ H1 fun o H2 => ti σ H2 fun i H3 => t o i v H3 fun H4 => D.nx σ H4) : pW te (zh to ti t) D σ H := h
theorem qf {H : Hp} {p : Addr} {ds : List PyData} {j : Nat} {k : Int} {y : V} {d : PyData} {R : Hp -> Prop} (hp : bJ H p ds) (hk : pP ds.length k = some j) (hy : Dv H y d) (hi : gM d = true) (h : ∀ H2, Mv [p] H H2 -> bJ H2 p (ds.set j d) -> R H2) : vg (.ref p) (.int k) y H R := by
 obtain ⟨xs, e, dv, im⟩ := hp
 have m : Mv [p] H (upd H p (.lst (xs.set j y))) := .lV e (by intro _ z; cases z)
 exact ⟨p, xs, k, j, rfl, rfl, e, by rw [dv.length]; exact hk, h _ m ⟨_, aw, m.uB (il hi j im) (m5 hy j dv), il hi j im⟩⟩
local macro_rules | `(tactic| walk_at "rd1") => `(tactic| first
 | with_reducible refine wM ?_
 | ((with_reducible refine' qf ?e1 ?e2 ?e3 ?e4 (fun _ _ _ => ?_)); (case e1 => walk_at "lat"); (case e2 => exact rfl); (case e3 => walk_at "dat"); (case e4 => exact rfl))
 | fail)
def eX (c : C4) : Int × Str := (c.2.2.1, c.1)
theorem jV (c : C4) : gM (fF c) = true := rfl
theorem jH {c d : C4} (h : fF c = fF d) : c = d := by
 obtain ⟨a, b, c, e⟩ := c
 obtain ⟨a', b', c', e'⟩ := d
 simp only [fF, PyData.tuple.injEq, List.cons.injEq, PyData.str.injEq, PyData.int.injEq, and_true] at h
 obtain ⟨rfl, rfl, rfl, rfl⟩ := h
 rfl
def d5 : Sp := fun vs H Q _ => ∃ (v : V) (c : C4), vs = [v] /\ Dv H v (fF c) /\ ∀ y H', ai H H' -> Dv H' y (.tuple [.int (eX c).1, .str (eX c).2]) -> Q y H'
theorem lR {H : Hp} {Q : VK} {E : XK} {v : V} {c : C4} (h : Dv H v (fF c)) (q : ∀ y H', ai H H' -> Dv H' y (.tuple [.int (eX c).1, .str (eX c).2]) -> Q y H') : d5 [v] H Q E := ⟨v, c, rfl, h, q⟩
theorem kU (T : Txt K mg a) : bQ P w K mg base gO 1 a.b9 a.g7 ["claim"] d5 := by
 refine T.gk.ok mF (fun vs H Q E h => ?_) (fun du A outer s H vs Q E hr h => ?_)
 . obtain ⟨_, _, rfl, _⟩ := h; rfl
 . obtain ⟨v, c, rfl, hv, q⟩ := h
   have Bu : Dv H v (.tuple [.str c.1, .int c.2.1, .int c.2.2.1, .int c.2.2.2]) := hv
   refine ⟨_, (ay (bh (gL (af (aP cU (pv 0) ae (fun _ _ => rfl)) (af (aP cU (pv 0) ae (fun _ _ => rfl)) ao))))), ?_⟩
   repeat' (walk_at "rd1")
   exact q _ _ (by walk_at "same") (by walk_at "dat")
theorem jM (T : Txt K mg a) : m9 P w K mg base 1 a.b9 ["claim"] [] d5 :=
 ⟨⟨_, _, kU T, T.gk.binds fun _ _ _ _ _ _ => .all fun us hl => match us, hl with | [_], _ => rfl, .nil⟩⟩
def xA (pr : Int) (ps : List Int) (f : Str -> Int) (L : List C4) : Prop := ∀ i c, L[i]? = some c -> ∃ p0 ∈ ps, con p0 c = true /\ (∀ p ∈ ps, con p c = true -> load f (L.take i) p <= load f (L.take i) p0) /\ f c.1 <= c.2.2.2 /\ f c.1 <= pr - load f (L.take i) p0 /\ (f c.1 = c.2.2.2 \/ f c.1 = pr - load f (L.take i) p0)
theorem cw {f : Str -> Int} {ds : List C4} {n : Str} {v p : Int} (hn : n ∉ ds.map (·.1)) : load (bS f n v) ds p = load f ds p := by
 unfold load sf
 congr 1
 refine List.map_congr_left fun d hd => ?_
 have : d.1 ≠ n := fun z => hn (z ▸ List.mem_map_of_mem (List.mem_filter.mp hd).1)
 simp only [bS, if_neg this]
theorem xA.step {pr mx v : Int} {ps : List Int} {f : Str -> Int} {ds : List C4} {c : C4} (h : xA pr ps f ds) (hn : c.1 ∉ ds.map (·.1)) (hm : ∀ i ∈ heldOf ps c, (ps.map (load f ds)).getD i 0 <= mx) (hx : ∃ i ∈ heldOf ps c, mx = (ps.map (load f ds)).getD i 0) (hv : v = c.2.2.2 \/ v = pr - mx) (h1 : v <= c.2.2.2) (h2 : v <= pr - mx) : xA pr ps (bS f c.1 v) (ds ++ [c]) := by
 intro i d hi
 by_cases bZ : i < ds.length
 . rw [List.getElem?_append_left bZ] at hi
   obtain ⟨p0, yL, k1, k2, k3, k4, k5⟩ := h i d hi
   have hd : d.1 ≠ c.1 := fun z => hn (z ▸ List.mem_map_of_mem (List.mem_of_getElem? hi))
   have ht : (ds ++ [c]).take i = ds.take i := List.take_append_of_le_length (Nat.le_of_lt bZ)
   have vI : c.1 ∉ (ds.take i).map (·.1) := fun z => hn (by rw [List.map_take] at z; exact List.mem_of_mem_take z)
   have e : bS f c.1 v d.1 = f d.1 := by simp only [bS, if_neg hd]
   refine ⟨p0, yL, k1, fun p hp hc => ?_, ?_, ?_, ?_⟩
   . rw [ht, cw vI, cw vI]; exact k2 p hp hc
   . rw [e]; exact k3
   . rw [e, ht, cw vI]; exact k4
   . rw [e, ht, cw vI]; exact k5
 . have F5 : i = ds.length := by
    have := (List.getElem?_eq_some_iff.mp hi).1
    rw [List.length_append, List.length_singleton] at this
    omega
   subst F5
   have hd : d = c := by simpa using hi.symm
   subst hd
   have ht : (ds ++ [d]).take ds.length = ds := by simp
   obtain ⟨j, hj, ej⟩ := hx
   obtain ⟨p0, yL, BJ⟩ := cR.mp hj
   have e0 : mx = load f ds p0 := by rw [ej, List.getD_eq_getElem?_getD, List.getElem?_map, yL]; rfl
   have e : bS f d.1 v d.1 = v := by simp only [bS, if_true]
   refine ⟨p0, List.mem_of_getElem? yL, BJ, fun p hp hc => ?_, ?_, ?_, ?_⟩
   . rw [ht, cw hn, cw hn, <- e0]
     obtain ⟨k, hk, rfl⟩ := List.getElem_of_mem hp
     have := hm k (cR.mpr ⟨_, List.getElem?_eq_getElem hk, hc⟩)
     rwa [List.getD_eq_getElem?_getD, List.getElem?_map, List.getElem?_eq_getElem hk] at this
   . rw [e]; exact h1
   . rw [e, ht, cw hn, <- e0]; exact h2
   . rw [e, ht, cw hn, <- e0]; exact hv
def Exact (pr : Int) (cs : List C4) (f : Str -> Int) : Prop := ∃ (ls : List C4) (ps : List Int), ls.Perm cs /\ (ls.Pairwise fun c d => bX (eX d) (eX c) = false) /\ (∀ x, x ∈ ps ↔ x ∈ cs.map (·.2.1)) /\ xA pr ps f ls
def iG (f : Str -> Int) (cs : List C4) : List (Str × PyData) := cs.map fun c => (c.1, .int (f c.1))
theorem ui {f : Str -> Int} {n : Str} {v : Int} : ∀ {cs : List C4}, n ∈ cs.map (·.1) -> putD (iG f cs) n (.int v) = iG (bS f n v) cs := fun {cs} h => by
 have h1 : ((iG f cs).any fun kv => decide (kv.1 = n)) = true := by
  obtain ⟨c, hc, rfl⟩ := List.mem_map.mp h
  exact List.any_eq_true.mpr ⟨_, List.mem_map_of_mem hc, decide_eq_true rfl⟩
 unfold putD
 rw [if_pos h1]
 unfold iG
 rw [List.map_map]
 refine List.map_congr_left fun c _ => ?_
 simp only [Function.comp, bS]
 split <;> rfl
theorem sy {cs : List C4} {n : Str} (h : n ∉ cs.map (·.1)) : putD (iG (fun _ => 0) cs) n (.int 0) = iG (fun _ => 0) cs ++ [(n, .int 0)] := by
 have h1 : ¬ ((iG (fun _ => 0) cs).any fun kv => decide (kv.1 = n)) = true := by
  intro z
  obtain ⟨kv, FV, e⟩ := List.any_eq_true.mp z
  obtain ⟨c, hc, rfl⟩ := List.mem_map.mp FV
  exact h (List.mem_map.mpr ⟨c, hc, of_decide_eq_true e⟩)
 unfold putD
 rw [if_neg h1]
theorem tZ {f : Str -> Int} {n : Str} {cs : List C4} (h : n ∈ cs.map (·.1)) : pL (iG f cs) n = some (.int (f n)) := by
 unfold pL
 cases e : (iG f cs).find? fun kv => decide (kv.1 = n) with
 | none =>
   obtain ⟨c, hc, rfl⟩ := List.mem_map.mp h
   have := List.find?_eq_none.mp e _ (List.mem_map_of_mem hc)
   simp at this
 | some kv =>
   have h1 := List.find?_some e
   obtain ⟨c, hc, rfl⟩ := List.mem_map.mp (List.mem_of_find?_eq_some e)
   have : c.1 = n := of_decide_eq_true h1
   subst this
   rfl
theorem gR {α : Type} (l : List α) : l.filter (fun _ => true) = l := List.filter_eq_self.mpr fun _ _ => rfl
theorem lN : ∀ {xs ys : List Int}, xs.Nodup -> (∀ x ∈ xs, x ∈ ys) -> xs.length <= ys.length
 | [], _, _, _ => Nat.zero_le _
 | x :: xs, ys, h, hs => by
   obtain ⟨h1, h2⟩ := List.nodup_cons.mp h
   have hx := hs x List.mem_cons_self
   have ih := lN (xs := xs) (ys := ys.erase x) h2 fun y hy => (List.mem_erase_of_ne (fun z : y = x => h1 (by rw [<- z]; exact hy))).mpr (hs y (List.mem_cons_of_mem _ hy))
   rw [List.length_erase_of_mem hx] at ih
   have : 0 < ys.length := List.length_pos_of_mem hx
   rw [List.length_cons]
   omega
theorem jL {α β : Type} {f : α -> β} {l : List α} {j : Nat} {c : α} (h : (l.map f).Nodup) (hc : l[j]? = some c) : f c ∉ (l.take j).map f := by
 intro hm
 obtain ⟨d, hd, e⟩ := List.mem_map.mp hm
 obtain ⟨i, hi, rfl⟩ := List.getElem_of_mem hd
 have fm : i < j := by rw [List.length_take] at hi; omega
 have yC : j < l.length := (List.getElem?_eq_some_iff.mp hc).1
 rw [List.Nodup, List.pairwise_map] at h
 have := List.pairwise_iff_getElem.mp h i j (by omega) yC fm
 rw [List.getElem_take] at e
 have pJ : l[j] = c := Option.some.inj ((List.getElem?_eq_getElem yC).symm.trans hc)
 rw [pJ] at this
 exact this e
theorem nN (f : Str -> Int) (cs : List C4) : (iG f cs).length = cs.length := List.length_map ..
theorem qW (f : Str -> Int) (cs : List C4) (c : C4) : iG f (cs ++ [c]) = iG f cs ++ [(c.1, .int (f c.1))] := by unfold iG; rw [List.map_append]; rfl
theorem tI {n i : Nat} (h : i < n) : pP n (i : Int) = some i := by unfold pP; rw [if_pos (Int.natCast_nonneg _), if_pos (Int.ofNat_lt.mpr h)]; rfl
theorem rB {x y b : Addr} (h : b ∈ [x]) : b ∈ [x, y] := by
 have : b = x := by simpa using h
 rw [this]; exact List.mem_cons_self
def gb : Sp := fun vs H Q _ => ∃ (pr : Int) (v : V) (cs : List C4), vs = [.int pr, v] /\ Dv H v (.list (cs.map fF)) /\ lG cs /\ cs.length <= 26 /\ 0 <= pr /\ ∀ p H' f, ai H H' -> H p = none -> gS H' p (iG f cs) -> wy pr cs f -> Exact pr cs f -> Q (.ref p) H'
theorem qz {H : Hp} {Q : VK} {E : XK} {pr : Int} {v : V} {cs : List C4} (h : Dv H v (.list (cs.map fF))) (ho : lG cs) (hl : cs.length <= 26) (h0 : 0 <= pr) (q : ∀ p H' f, ai H H' -> H p = none -> gS H' p (iG f cs) -> wy pr cs f -> Exact pr cs f -> Q (.ref p) H') : gb [.int pr, v] H Q E := ⟨pr, v, cs, rfl, h, ho, hl, h0, q⟩
theorem n8 (T : Txt K mg a) : bQ P w K mg base gO 5 a.bq a.fP ["price", "claims"] gb := by
 have pF := jM (P := P) (w := w) (base := base) T
 refine T.dY.ok aA (fun vs H Q E h => ?_) (fun du A outer s H vs Q E hr h => ?_)
 . obtain ⟨_, _, _, rfl, _⟩ := h; rfl
 . obtain ⟨pr, v, cs, rfl, hv, aL, hl, h0, q⟩ := h
   refine ⟨_, (ah (aE (i := 2) aA.nd rfl (Or.inl rfl) (lO (kr (T := ["name", "first", "last", "weight"]) (M := ["price", "claims", "points", "loads", "shares", "05", "06", "07", "08", "held", "place"]) (xh (aq bz) ["price", "claims", "points", "loads", "shares", "name", "first", "last", "weight", "held", "place"] rfl rfl (by decide +kernel)) rfl (bT (pv 1)) (fun _ _ _ _ _ => (nz (K := K) (n := 4) rfl rfl (a8 (aF (i := 0) (show List.Nodup (["name", "first", "last", "weight", "price", "claims", "points", "loads", "shares", "05", "06", "07", "08", "held", "place"] : List Str) by decide +kernel) rfl (Or.inl rfl)) (a8 (aF (i := 1) (show List.Nodup (["name", "first", "last", "weight", "price", "claims", "points", "loads", "shares", "05", "06", "07", "08", "held", "place"] : List Str) by decide +kernel) rfl (Or.inl rfl)) (a8 (aF (i := 2) (show List.Nodup (["name", "first", "last", "weight", "price", "claims", "points", "loads", "shares", "05", "06", "07", "08", "held", "place"] : List Str) by decide +kernel) rfl (Or.inl rfl)) (a8 (aF (i := 3) (show List.Nodup (["name", "first", "last", "weight", "price", "claims", "points", "loads", "shares", "05", "06", "07", "08", "held", "place"] : List Str) by decide +kernel) rfl (Or.inl rfl)) gP)))))) (ke (b7 (by decide) (b7 (by decide) (b7 (by decide) (b7 (by decide) ja))))) (fun _ _ _ _ _ => fx) (fun _ _ _ _ _ => (pv 1))) rfl rfl T.b8 rfl T.jI))
    (ah (aE (i := 3) aA.nd rfl (Or.inr rfl) (kr (T := ["point"]) (M := ["price", "claims", "points", "loads", "shares", "name", "first", "last", "weight", "held", "place"]) (xh (aq bz) ["price", "claims", "points", "loads", "shares", "name", "first", "last", "weight", "held", "place"] rfl rfl (by decide +kernel)) rfl (bT (pv 2)) (fun _ _ _ _ _ => (aF (i := 0) (show List.Nodup (["point", "price", "claims", "points", "loads", "shares", "name", "first", "last", "weight", "held", "place"] : List Str) by decide +kernel) rfl (Or.inl rfl))) (dr (by decide)) (fun _ _ _ _ _ => fx) (fun _ _ _ _ _ => ae)))
    (ah (aE (i := 4) aA.nd rfl (Or.inl rfl) pR)
    (ah (eD PassesOwn.never rfl (bT (pv 1)) (mH (n := 4) rfl (a8 (aF (i := 5) aA.nd rfl (Or.inl rfl)) (a8 (aF (i := 6) aA.nd rfl (Or.inr rfl)) (a8 (aF (i := 7) aA.nd rfl (Or.inr rfl)) (a8 (aF (i := 8) aA.nd rfl (Or.inl rfl)) gP)))))
     (ay (nr (qC hr) (pv 4) (pv 5) ae rfl)))
    (ah (eD PassesOwn.never rfl (bT (rM pF (hr.mono (by decide)) rfl T.b8 (sS rfl T.hU rfl) (af (pv 1) ao))) (mH (n := 4) rfl (a8 (aF (i := 5) aA.nd rfl (Or.inl rfl)) (a8 (aF (i := 6) aA.nd rfl (Or.inr rfl)) (a8 (aF (i := 7) aA.nd rfl (Or.inr rfl)) (a8 (aF (i := 8) aA.nd rfl (Or.inl rfl)) gP)))))
     (ah (uQ (i := 9) aA.nd rfl (Or.inl rfl) (T := ["place", "point"]) (M := ["price", "claims", "points", "loads", "shares", "name", "first", "last", "weight", "held", "010"]) (xh (aq bz) ["price", "claims", "points", "loads", "shares", "name", "first", "last", "weight", "held", "place"] rfl rfl (by decide +kernel)) rfl (uG rfl T.cE (af (pv 2) ao)) (fun _ _ _ _ _ => (nz (K := K) (n := 2) rfl rfl (a8 (aF (i := 0) (show List.Nodup (["place", "point", "price", "claims", "points", "loads", "shares", "name", "first", "last", "weight", "held", "010"] : List Str) by decide +kernel) rfl (Or.inl rfl)) (a8 (aF (i := 1) (show List.Nodup (["place", "point", "price", "claims", "points", "loads", "shares", "name", "first", "last", "weight", "held", "010"] : List Str) by decide +kernel) rfl (Or.inl rfl)) gP)))) (ke (b7 (by decide) (b7 (by decide) ja))) (fun _ _ _ _ _ => (nu (g8 fL fL (pv 8) (pv 1) (pv 9)))) (fun _ _ _ _ _ => (pv 0)) rfl)
     (ah (nr (qC hr) (pv 4) (pv 5) (cA (oF rfl) rfl T.iD PyProof.Rows.boot_min (af (pv 8) (af (ag fh (pv 0) (cA (pq rfl) rfl T.jw PyProof.Rows.boot_max (af (kr (T := ["place"]) (M := ["price", "claims", "points", "loads", "shares", "name", "first", "last", "weight", "held", "010"]) (xh (aq bz) ["price", "claims", "points", "loads", "shares", "name", "first", "last", "weight", "held", "place"] rfl rfl (by decide +kernel)) rfl (bT (pv 9)) (fun _ _ _ _ _ => (aF (i := 0) (show List.Nodup (["place", "price", "claims", "points", "loads", "shares", "name", "first", "last", "weight", "held", "010"] : List Str) by decide +kernel) rfl (Or.inl rfl))) (dr (by decide)) (fun _ _ _ _ _ => fx) (fun _ _ _ _ _ => (aP (dZ (K := K) rfl) (pv 4) (pv 0) (fun _ _ => rfl)))) ao))) ao))) rfl)
     (ay (eD PassesOwn.never rfl (bT (pv 9)) (aF (i := 10) aA.nd rfl (Or.inl rfl))
      (ay (qq (ag aU (aP cU (pv 3) (pv 10) (fun _ _ => rfl)) (tW (qC hr) (pv 4) (pv 5) (fun _ _ => rfl))) (qj (pv 3) (pv 10) set_list))))))))
    (ay (bh (pv 4)))))))), ?_⟩
   repeat' (walk_at "rd1")
   refine lr ?_
   repeat' (walk_at "rd1")
   refine qy (cs := cs) (gd := fF) (fun _ => true) (fun c => .int c.2.1) hv (by omega) (fun _ => rfl) (fun x c H2 N hc fy hx yes no => ?_) (fun q1 H1 oj sr xE => ?_)
   . have iV : Dv H2 x (.tuple [.str c.1, .int c.2.1, .int c.2.2.1, .int c.2.2.2]) := hx
     refine mr iV (fun v1 v2 v3 v4 e1 e2 e3 e4 => ?_)
     obtain rfl := e1.str_inv
     obtain rfl := e2.int_inv
     obtain rfl := e3.int_inv
     obtain rfl := e4.int_inv
     refine fz (fun hb => ?_) (fun hb => by cases hb)
     repeat' (walk_at "rd1")
     exact yes rfl _ _ (ai.refl _) (.int _)
   have y9 : Dv H1 (.ref q1) (.list ((cs.map (·.2.1)).map PyData.int)) := by
    have := xE.dv
    rw [gR] at this
    rw [List.map_map]; exact this
   refine nW y9 (by rw [List.length_map]; omega) (fun q2 H2 ps fy vI bZ ml vw => ?_)
   have ka : ps.length <= 26 := by
    have := lN (bZ.imp fun h => Int.ne_of_lt h) (fun x hx => (ml x).mp hx)
    rw [List.length_map] at this
    omega
   repeat' (walk_at "rd1")
   refine qy (cs := ps) (gd := PyData.int) (fun _ => true) (fun _ => .int 0) vw.dv (by omega) (fun _ => rfl) (fun x c H3 N hc sm3 hx yes no => ?_) (fun q3 H3 sm3 uS Dh => ?_)
   . obtain rfl := hx.int_inv
     repeat' (walk_at "rd1")
     refine fz (fun hb => ?_) (fun hb => by cases hb)
     repeat' (walk_at "rd1")
     exact yes rfl _ _ (ai.refl _) (.int _)
   rw [gR] at Dh
   repeat' (walk_at "rd1")
   rename_i q4 H4 Ak BE yF
   have oq : ai H H3 := (oj.trans fy).trans sm3
   refine nK (Hb := H) (cs := cs) (gd := fF) hv (fun j σ' H' => ∃ z5 z6 z7 z8, σ' = [some (.int pr), some v, some (.ref q2), some (.ref q3), some (.ref q4), z5, z6, z7, z8, none, none] /\ ai H3 H' /\ gS H' q4 (iG (fun _ => 0) (cs.take j))) ⟨_, _, _, _, rfl, Ak, yF⟩ (fun i σ' H' _ ⟨_, _, _, _, _, qX, _⟩ a' xs _ hx => ai.seq (oq.trans qX) hx) ?_ ?_
   . rintro j c x σ' H' hc ⟨z5, z6, z7, z8, rfl, qX, iI⟩ _ hd
     have hx : Dv H' x (.tuple [.str c.1, .int c.2.1, .int c.2.2.1, .int c.2.2.2]) := hd (oq.trans qX)
     have AV : (iG (fun _ => 0) (cs.take j)).length <= 26 := by rw [nN, List.length_take]; omega
     refine mr hx (fun v1 v2 v3 v4 e1 e2 e3 e4 => ?_)
     obtain rfl := e1.str_inv
     obtain rfl := e2.int_inv
     obtain rfl := e3.int_inv
     obtain rfl := e4.int_inv
     repeat' (walk_at "rd1")
     rename_i H5 v7 Bc
     rw [sy (jL aL.nd hc)] at Bc
     exact ⟨_, _, _, _, rfl, by walk_at "same", by rw [take_snoc hc, qW]; exact Bc⟩
   rintro σ' H' ⟨z5, z6, z7, z8, rfl, qX, iI⟩
   rw [List.take_length] at iI
   have D8 := qX
   have Bu : Dv H' v (.list (cs.map fF)) := hv.keeps (oq.trans qX)
   repeat' (walk_at "rd1")
   refine jC (cs := cs) fF eX jV (fun c c' h => by rw [jH h]) Bu (by omega) (fun c v' H' hc qX hd => lR hd (fun y Iq s d => ⟨s, d⟩)) (fun sq H5 ls pj AU cC fD zB => ?_)
   repeat' (walk_at "rd1")
   have zN : bJ H' q2 (ps.map PyData.int) := (vw.keeps sm3).keeps qX
   have yV : bJ H' q3 (ps.map fun _ => PyData.int 0) := Dh.keeps qX
   have Gq : q2 ≠ q3 := vw.ne uS
   have Fu : q2 ≠ q4 := (vw.keeps sm3).ne BE
   have Dx : q3 ≠ q4 := Dh.ne BE
   have Io : q2 ≠ sq := zN.ne AU
   have Gk : q3 ≠ sq := yV.ne AU
   have Hh : q4 ≠ sq := iI.ne AU
   have Dd := zN.keeps pj
   have DK := yV.keeps pj
   have Bc := iI.keeps pj
   have E8 : ls.length = cs.length := cC.length_eq
   have qD : (ls.map (·.1)).Nodup := (cC.map _).nodup_iff.mpr aL.nd
   refine nK (Hb := H5) (cs := ls) (gd := fF) zB.dv (fun j σ' H' => ∃ z5 z6 z7 z8 z9 lj f, σ' = [some (.int pr), some v, some (.ref q2), some (.ref q3), some (.ref q4), z5, z6, z7, z8, z9, lj] /\ Mv [q3, q4] H5 H' /\ gS H' q4 (iG f cs) /\ bJ H' q3 ((ps.map (load f (ls.take j))).map PyData.int) /\ Pr pr ps f (ls.take j) /\ xA pr ps f (ls.take j)) ⟨_, _, _, _, _, _, fun _ => 0, rfl, Mv.refl, Bc, by rw [List.map_map]; exact DK, ⟨fun c hc => by simp at hc, fun p _ => h0⟩, fun i c h => by simp at h⟩ (fun i σ' H' _ ⟨_, _, _, _, _, _, _, _, mv, _⟩ a' xs e hx => by cases e; exact mv.sq (by simp [Ne.symm Gk, Ne.symm Hh]) hx) ?_ ?_
   . rintro j c x σ' H' hc ⟨z5, z6, z7, z8, z9, lj, f, rfl, mv, iI, xo, Bh, yA⟩ hd _
     have hx : Dv H' x (.tuple [.str c.1, .int c.2.1, .int c.2.2.1, .int c.2.2.2]) := hd rfl mv.tp
     have yC : j < ls.length := (List.getElem?_eq_some_iff.mp hc).1
     have FD : c ∈ ls := List.mem_of_getElem? hc
     have nY : c ∈ cs := cC.mem_iff.mp FD
     have lX : c.1 ∈ cs.map (·.1) := List.mem_map_of_mem nY
     have wu := jL qD hc
     have kc := take_snoc hc
     have hw := aL.w1 c nY
     have AV : (iG f cs).length <= 26 := by rw [nN]; exact hl
     have Eb : bJ H' q2 (ps.map PyData.int) := Dd.mv mv (by simp [Gq, Fu])
     refine mr hx (fun v1 v2 v3 v4 e1 e2 e3 e4 => ?_)
     obtain rfl := e1.str_inv
     obtain rfl := e2.int_inv
     obtain rfl := e3.int_inv
     obtain rfl := e4.int_inv
     repeat' (walk_at "rd1")
     refine Aw (cs := ps) (gd := PyData.int) (fun x => con x.1 c) (fun x => .int (x.2 : Nat)) Eb.dv (by omega) (fun _ => rfl) (fun y t Hx N ht fy hy yes no => ?_) (fun hq H6 qw BH HB => ?_)
     . refine xD hy (fun w1 w2 f1 f2 => ?_)
       obtain rfl := f1.int_inv
       obtain rfl := f2.int_inv
       repeat' (walk_at "rd1")
       . rename_i h1
         refine fz (fun hb => ?_) (fun hb => no (by simp [con, h1, of_decide_eq_false hb]) _ (ai.refl _))
         repeat' (walk_at "rd1")
         exact yes (by simp [con, h1, of_decide_eq_true hb]) _ _ (ai.refl _) (.int _)
       . rename_i h1
         exact fz (fun hb => by cases hb) (fun _ => no (by simp [con, h1]) _ (ai.refl _))
     have A3 : bJ H6 hq ((heldOf ps c).map fun i => PyData.int (i : Nat)) := by unfold heldOf; rw [List.map_map]; exact HB
     have HS := q9 ps c
     have DU := iI.keeps qw
     have C9 := xo.keeps qw
     have FH : q3 ≠ hq := xo.ne BH
     have F1 : q4 ≠ hq := iI.ne BH
     have kz : 0 < ((heldOf ps c).map fun i => (ps.map (load f (ls.take j))).getD i 0).length := by
      rw [List.length_map]
      have hf : c.2.1 ∈ ps := (ml _).mpr (List.mem_map_of_mem nY)
      obtain ⟨i, hi, e⟩ := List.getElem_of_mem hf
      exact List.length_pos_of_mem (cR.mpr ⟨c.2.1, by rw [List.getElem?_eq_getElem hi, e], aO.mpr ⟨Int.le_refl _, aL.ok.wd c nY⟩⟩)
     repeat' (walk_at "rd1")
     refine qy (cs := heldOf ps c) (gd := fun i => .int (i : Nat)) (fun _ => true) (fun i => .int ((ps.map (load f (ls.take j))).getD i 0)) A3.dv (by omega) (fun _ => rfl) (fun y i Hx N hi lz hy yes no => ?_) (fun mq H7 lz A7 Fp => ?_)
     . obtain rfl := hy.int_inv
       have bZ := jv hi
       repeat' (walk_at "rd1")
       refine fz (fun hb => ?_) (fun hb => by cases hb)
       repeat' (walk_at "rd1")
       exact yes rfl _ _ (ai.refl _) (.int _)
     rw [gR] at Fp
     have D0 : Dv H7 (.ref mq) (.list (((heldOf ps c).map fun i => (ps.map (load f (ls.take j))).getD i 0).map PyData.int)) := by rw [List.map_map]; exact Fp.dv
     have HP := DU.keeps lz
     repeat' (walk_at "rd1")
     refine xf D0 kz (fun mx Bv zK => ?_)
     repeat' (walk_at "rd1")
     rename_i vv hv Di DY H8 rQ D7
     rw [ui lX] at D7
     have Ia : pL (iG (bS f c.1 vv) cs) c.1 = some (.int vv) := by rw [tZ lX]; simp [bS]
     have DF : bJ H8 q3 ((ps.map (load f (ls.take j))).map PyData.int) := (C9.keeps lz).mv rQ (by simp [Dx])
     have Ea : bJ H8 hq ((heldOf ps c).map fun i => PyData.int (i : Nat)) := (A3.keeps lz).mv rQ (by simp [Ne.symm F1])
     have Ga : Mv [q3, q4] H5 H8 := by
      refine ((mv.eR qw).eR lz).step rQ ?_
      exact fun b hb => .inl (List.mem_cons_of_mem _ hb)
     refine nK (Hb := H8) (cs := heldOf ps c) (gd := fun i => PyData.int (i : Nat)) Ea.dv (fun t σ' H' => ∃ lj, σ' = [some (.int pr), some v, some (.ref q2), some (.ref q3), some (.ref q4), some (.str c.1), some (.int c.2.1), some (.int c.2.2.1), some (.int c.2.2.2), some (.ref hq), lj] /\ Mv [q3] H8 H' /\ bJ H' q3 ((dU vv (ps.map (load f (ls.take j))) ((heldOf ps c).take t)).map PyData.int)) ⟨_, rfl, Mv.refl, DF⟩ (fun i σ' H' _ ⟨_, _, mv, _⟩ a' xs e hx => by cases e; exact mv.sq (by simp [Ne.symm FH]) hx) ?_ ?_
     . rintro t i x σ' H' hi ⟨lj, rfl, uv, ua⟩ Hl _
       obtain rfl := (Hl rfl uv.tp).int_inv
       have hit := jv (List.mem_of_getElem? hi)
       have F2 : gS H' q4 (iG (bS f c.1 vv) cs) := D7.mv uv (by simp [Ne.symm Dx])
       have pA : (dU vv (ps.map (load f (ls.take j))) ((heldOf ps c).take t)).length = ps.length := by rw [fV, List.length_map]
       repeat' (walk_at "rd1")
       refine qf (j := i) ua (tI (by rw [List.length_map, pA]; exact hit)) (Dv.int _) rfl (fun H9 CL zt => ?_)
       refine ⟨_, rfl, uv.step CL fun b hb => .inl hb, ?_⟩
       rw [take_snoc hi, mm, List.map_set]
       exact zt
     . rintro σ' H' ⟨lj, rfl, uv, ua⟩
       rw [List.take_length, oI] at ua
       refine ⟨_, _, _, _, _, _, bS f c.1 vv, rfl, ?_, D7.mv uv (by simp [Ne.symm Dx]), ?_, ?_, ?_⟩
       . exact Ga.step uv fun b hb => .inl (rB hb)
       . rw [kc]
         have : ps.map (load (bS f c.1 vv) (ls.take j ++ [c])) = ps.map fun p => load f (ls.take j) p + (if con p c = true then vv else 0) := List.map_congr_left fun p _ => fq wu
         rw [this]; exact ua
       . rw [kc]
         obtain ⟨i, hi, e⟩ := List.mem_map.mp Bv
         exact Bh.step wu (fun i hi => zK _ (List.mem_map.mpr ⟨i, hi, rfl⟩)) ⟨i, hi, e.symm⟩ hv Di DY hw.1
       . rw [kc]
         obtain ⟨i, hi, e⟩ := List.mem_map.mp Bv
         exact yA.step wu (fun i hi => zK _ (List.mem_map.mpr ⟨i, hi, rfl⟩)) ⟨i, hi, e.symm⟩ hv Di DY
   . rintro σ' H' ⟨z5, z6, z7, z8, z9, lj, f, rfl, mv, iI, xo, Bh, yA⟩
     rw [List.take_length] at Bh yA
     repeat' (walk_at "rd1")
     refine q q4 H' f ?_ ?_ iI (Bh.shr cC fun c hc => (ml _).mpr (List.mem_map_of_mem hc)) ⟨ls, ps, cC, fD, ml, yA⟩
     . have h3 : H q3 = none := (oj.trans fy).none uS
       have h4 : H q4 = none := oq.none BE
       intro b u e
       refine mv.kp b u (fun z => ?_) (pj b u (D8 b u (oq b u e)))
       have : b = q3 \/ b = q4 := by simpa using z
       rcases this with rfl | rfl
       . rw [h3] at e; cases e
       . rw [h4] at e; cases e
     . exact oq.none BE
theorem mE (T : Txt K mg a) : m9 P w K mg base 5 a.bq ["price", "claims"] [] gb :=
 ⟨⟨_, _, n8 T, T.dY.binds fun _ _ _ _ _ _ => .all fun us hl => match us, hl with | [_, _], _ => rfl, .nil⟩⟩
theorem kP : ∀ (ds : List C4), ds ≠ [] -> ∃ c ∈ ds, ∀ d ∈ ds, c.2.2.1 <= d.2.2.1
 | [], h => absurd rfl h
 | [c], _ => ⟨c, by simp, fun d hd => by have : d = c := by simpa using hd
                                         rw [this]; exact Int.le_refl _⟩
 | c :: d :: r, _ => by
   obtain ⟨e, he, hm⟩ := kP (d :: r) (by simp)
   by_cases h : e.2.2.1 <= c.2.2.1
   . exact ⟨e, List.mem_cons_of_mem _ he, fun x hx => (List.mem_cons.mp hx).elim (fun z => z ▸ h) (hm x)⟩
   . exact ⟨c, List.mem_cons_self, fun x hx => (List.mem_cons.mp hx).elim (fun z => z ▸ Int.le_refl _) (fun z => by have := hm x z; omega)⟩
theorem tM {f : Str -> Int} {G : List C4} (hf : ∀ d ∈ G, 0 <= f d.1) (p : Int) : 0 <= load f G p := by
 have := jj (P := fun _ => false) (R := con p) (g := fun _ => 0) (h := fun c => f c.1) (cs := G) (fun c _ z => by cases z) (fun c hc _ => hf c hc)
 have e : sf (fun _ => false) (fun _ => 0) G = 0 := by unfold sf; rw [List.filter_eq_nil_iff.mpr (fun _ _ z => by cases z)]; rfl
 unfold load
 omega
theorem oo {f : Str -> Int} {G : List C4} {p : Int} (h : G.filter (con p) = []) : load f G p = 0 := by unfold load sf; rw [h]; rfl
theorem eI {f : Str -> Int} {ls : List C4} (hf : ∀ d ∈ ls, 0 <= f d.1) {i j : Nat} (h : i <= j) (p : Int) : load f (ls.take i) p <= load f (ls.take j) p := by
 have e : ls.take j = ls.take i ++ (ls.take j).drop i := by
  have e0 := List.take_append_drop i (ls.take j)
  rw [List.take_take, Nat.min_eq_left h] at e0
  exact e0.symm
 rw [e]
 unfold load
 rw [lF]
 have : 0 <= sf (con p) (fun c => f c.1) ((ls.take j).drop i) := tM (f := f) (fun d hd => hf d (List.mem_of_mem_take (List.mem_of_mem_drop hd))) p
 omega
theorem oU {f : Str -> Int} {ds : List C4} {c : C4} {p : Int} : load f (ds ++ [c]) p = load f ds p + (if con p c = true then f c.1 else 0) := by
 unfold load; rw [lF, bU, fj]; omega
theorem nB : ∀ (ps : List Int), ps ≠ [] -> ∃ m ∈ ps, ∀ p ∈ ps, p <= m
 | [], h => absurd rfl h
 | [c], _ => ⟨c, by simp, fun d hd => by have : d = c := by simpa using hd
                                         rw [this]; exact Int.le_refl _⟩
 | c :: d :: r, _ => by
   obtain ⟨e, he, hm⟩ := nB (d :: r) (by simp)
   by_cases h : c <= e
   . exact ⟨e, List.mem_cons_of_mem _ he, fun x hx => (List.mem_cons.mp hx).elim (fun z => z ▸ h) (hm x)⟩
   . exact ⟨c, List.mem_cons_self, fun x hx => (List.mem_cons.mp hx).elim (fun z => z ▸ Int.le_refl _) (fun z => by have := hm x z; omega)⟩
structure xR (pr : Int) (ps : List Int) (f : Str -> Int) (ls : List C4) (i : Nat) (W : List Int) : Prop where
 mk' : ∀ w ∈ W, w ∈ ps /\ ∃ k d, i <= k /\ ls[k]? = some d /\ con w d = true /\ load f (ls.take (k + 1)) w = pr /\ ∀ p ∈ ps, con p d = true -> load f (ls.take (k + 1)) p = pr -> p <= w
 hit : ∀ k c, i <= k -> ls[k]? = some c -> f c.1 < c.2.2.2 -> hit W c = true
 one : ∀ c ∈ ls, 0 < f c.1 -> ∀ w ∈ W, ∀ w' ∈ W, con w c = true -> con w' c = true -> w = w'
 nd : W.Nodup
theorem oY {pr : Int} {ps : List Int} {f : Str -> Int} {ls : List C4} {i : Nat} {W : List Int} {c : C4} (hf : ∀ d ∈ ls, 0 <= f d.1) (sO : ∀ p ∈ ps, load f ls p <= pr) (fD : ∀ (i j : Nat) (c d : C4), i <= j -> ls[i]? = some c -> ls[j]? = some d -> c.2.2.1 <= d.2.2.1) (hg : xA pr ps f ls) (hc : ls[i]? = some c) (h : xR pr ps f ls (i + 1) W) : ∃ W', xR pr ps f ls i W' := by
 have kc : ls.take (i + 1) = ls.take i ++ [c] := take_snoc hc
 have up : ∀ {j : Nat} {p : Int}, p ∈ ps -> load f (ls.take j) p <= pr := fun {j p} hp => by
  have h1 := eI hf (Nat.le_max_left j ls.length) p
  rw [List.take_of_length_le (Nat.le_max_right j ls.length)] at h1
  exact Int.le_trans h1 (sO p hp)
 by_cases hh : f c.1 < c.2.2.2 /\ My.hit W c = false
 . obtain ⟨bZ, Bn⟩ := hh
   obtain ⟨p0, yL, BJ, Bv, a1, b1, e1⟩ := hg i c hc
   have AX : load f (ls.take (i + 1)) p0 = pr := by rw [kc, oU, if_pos BJ]; omega
   have jo : ps.filter (fun p => con p c && decide (load f (ls.take (i + 1)) p = pr)) ≠ [] := fun z => by
    have : p0 ∈ ps.filter (fun p => con p c && decide (load f (ls.take (i + 1)) p = pr)) := List.mem_filter.mpr ⟨yL, by simp [BJ, AX]⟩
    rw [z] at this; simp at this
   obtain ⟨q, hq, Hw⟩ := nB _ jo
   obtain ⟨Bb, vw⟩ := List.mem_filter.mp hq
   rw [Bool.and_eq_true] at vw
   have BK := vw.1
   have Gz : load f (ls.take (i + 1)) q = pr := of_decide_eq_true vw.2
   have vM : ∀ w ∈ W, con w c = true -> False := fun w hw yS => by
    have : My.hit W c = true := (cq W c).mpr ⟨w, hw, aO.mp yS⟩
    rw [this] at Bn; cases Bn
   have qc := aO.mp BK
   have key : ∀ d ∈ ls, 0 < f d.1 -> con q d = true -> ∀ w ∈ W, con w d = true -> False := fun d hd kz EX w hw FZ => by
    obtain ⟨t, ht, ed⟩ := List.getElem_of_mem hd
    have Eh : ls[t]? = some d := by rw [List.getElem?_eq_getElem ht, ed]
    have He : t <= i := by
     rcases Nat.lt_or_ge i t with h1 | h1
     . obtain ⟨p1, HX, By, CW, a2, b2, e2⟩ := hg t d Eh
       have g1 := eI hf (show i + 1 <= t from h1) q
       have g2 := CW q Bb EX
       omega
     . exact h1
    obtain ⟨HN, k, d2, hk, hd2, CN, HQ, yA⟩ := h.mk' w hw
    have l1 := fD t i d c He Eh hc
    have l2 := fD i k c d2 (by omega) hc hd2
    have x1 := aO.mp EX
    have x2 := aO.mp FZ
    have x3 := aO.mp CN
    rcases Int.lt_trichotomy w q with h1 | h1 | h1
    . have h2 : con q d2 = true := aO.mpr ⟨by omega, by omega⟩
      have h3 : load f (ls.take (k + 1)) q = pr := by
       have g1 := eI hf (show i + 1 <= k + 1 by omega) q
       have g2 := up (j := k + 1) Bb
       omega
      have := yA q Bb h2 h3
      omega
    . subst h1; exact vM w hw BK
    . exact vM w hw (aO.mpr ⟨by omega, by omega⟩)
   refine ⟨q :: W, ⟨fun w hw => ?_, fun k d hk hd ub => ?_, fun d hd kz w hw w' G7 yS tD => ?_, ?_⟩⟩
   . rcases List.mem_cons.mp hw with rfl | hw
     . exact ⟨Bb, i, c, Nat.le_refl _, hc, BK, Gz, fun p hp Hz Fv => Hw p (List.mem_filter.mpr ⟨hp, by simp [Hz, Fv]⟩)⟩
     . obtain ⟨h1, k, d, h2, h3⟩ := h.mk' w hw
       exact ⟨h1, k, d, by omega, h3⟩
   . rcases Nat.lt_or_ge i k with h1 | h1
     . have := (cq W d).mp (h.hit k d h1 hd ub)
       obtain ⟨t, ht, h2⟩ := this
       exact (cq _ d).mpr ⟨t, List.mem_cons_of_mem _ ht, h2⟩
     . have CV : k = i := by omega
       subst CV
       rw [hc] at hd
       cases hd
       exact (cq _ c).mpr ⟨q, List.mem_cons_self, qc⟩
   . rcases List.mem_cons.mp hw with e1 | w1 <;> rcases List.mem_cons.mp G7 with e2 | w2
     . rw [e1, e2]
     . rw [e1] at yS
       exact (key d hd kz yS w' w2 tD).elim
     . rw [e2] at tD
       exact (key d hd kz tD w w1 yS).elim
     . exact h.one d hd kz w w1 w' w2 yS tD
   . exact List.nodup_cons.mpr ⟨fun hw => vM q hw BK, h.nd⟩
 . refine ⟨W, ⟨fun w hw => ?_, fun k d hk hd ub => ?_, h.one, h.nd⟩⟩
   . obtain ⟨h1, k, d, h2, h3⟩ := h.mk' w hw
     exact ⟨h1, k, d, by omega, h3⟩
   . rcases Nat.lt_or_ge i k with h1 | h1
     . exact h.hit k d h1 hd ub
     . have CV : k = i := by omega
       subst CV
       rw [hc] at hd
       cases hd
       cases hx : My.hit W c with
       | true => rfl
       | false => exact absurd ⟨ub, hx⟩ hh
theorem kY {pr : Int} {ps : List Int} {f : Str -> Int} {ls : List C4} (hf : ∀ d ∈ ls, 0 <= f d.1) (sO : ∀ p ∈ ps, load f ls p <= pr) (fD : ∀ (i j : Nat) (c d : C4), i <= j -> ls[i]? = some c -> ls[j]? = some d -> c.2.2.1 <= d.2.2.1) (hg : xA pr ps f ls) : ∀ n : Nat, n <= ls.length -> ∃ W, xR pr ps f ls (ls.length - n) W
 | 0, _ => ⟨[], ⟨fun w hw => by simp at hw, fun k c hk hc _ => by have := (List.getElem?_eq_some_iff.mp hc).1; omega, fun c _ _ w hw => by simp at hw, .nil⟩⟩
 | n + 1, hn => by
   obtain ⟨W, h⟩ := kY hf sO fD hg n (by omega)
   have hi : ls.length - (n + 1) < ls.length := by omega
   have e : ls.length - n = ls.length - (n + 1) + 1 := by omega
   rw [e] at h
   exact oY hf sO fD hg (List.getElem?_eq_getElem hi) h
def cnt (W : List Int) (c : C4) : Int := ((W.filter fun w => con w c).length : Nat)
theorem kK (f : Str -> Int) : ∀ (cs : List C4) (p : Int), load f cs p = (cs.map fun c => if con p c = true then f c.1 else 0).sum
 | [], _ => rfl
 | c :: cs, p => by
   have := kK f cs p
   unfold load at this ⊢
   rw [bU, List.map_cons, List.sum_cons, this]
theorem sum_add {α : Type} (g h : α -> Int) : ∀ l : List α, (l.map fun x => g x + h x).sum = (l.map g).sum + (l.map h).sum
 | [] => rfl
 | x :: l => by have := sum_add g h l; simp only [List.map_cons, List.sum_cons] at this ⊢; omega
theorem iZ (f : Str -> Int) (cs : List C4) : ∀ W : List Int, (W.map (load f cs)).sum = (cs.map fun c => f c.1 * cnt W c).sum
 | [] => by
   have : (cs.map fun c => f c.1 * cnt [] c) = cs.map fun _ => 0 := List.map_congr_left fun c _ => by simp [cnt]
   rw [this]
   have z : ∀ l : List C4, (l.map fun _ => (0 : Int)).sum = 0 := fun l => by induction l with | nil => rfl | cons x r ih => simp only [List.map_cons, List.sum_cons, ih]; rfl
   rw [z]; rfl
 | w :: W => by
   have ih := iZ f cs W
   rw [List.map_cons, List.sum_cons, ih, kK, <- sum_add]
   congr 1
   refine List.map_congr_left fun c _ => ?_
   unfold cnt
   rw [List.filter_cons]
   by_cases h : con w c = true
   . simp only [h, if_true, List.length_cons, Int.natCast_add, Int.mul_add]
     simp
     omega
   . simp only [h, if_false, Bool.false_eq_true]; omega
theorem sQ {W : List Int} {c : C4} (hn : W.Nodup) (h : ∀ w ∈ W, ∀ w' ∈ W, con w c = true -> con w' c = true -> w = w') : cnt W c = if hit W c = true then 1 else 0 := by
 unfold cnt
 cases hl : W.filter (fun w => con w c) with
 | nil =>
   rw [if_neg]
   . rfl
   . intro hh
     obtain ⟨t, ht, h1⟩ := (cq W c).mp hh
     have : t ∈ W.filter (fun w => con w c) := List.mem_filter.mpr ⟨ht, aO.mpr h1⟩
     rw [hl] at this; simp at this
 | cons x r =>
   have hx : x ∈ W.filter (fun w => con w c) := by rw [hl]; exact List.mem_cons_self
   obtain ⟨x1, x2⟩ := List.mem_filter.mp hx
   rw [if_pos ((cq W c).mpr ⟨x, x1, aO.mp x2⟩)]
   have qD : (x :: r).Nodup := by rw [<- hl]; exact hn.filter _
   cases r with
   | nil => rfl
   | cons y r =>
     have hy : y ∈ W.filter (fun w => con w c) := by rw [hl]; simp
     obtain ⟨y1, y2⟩ := List.mem_filter.mp hy
     have := h x x1 y y1 x2 y2
     subst this
     exact absurd List.mem_cons_self (List.nodup_cons.mp qD).1
def gE (W : List Int) (cs : List C4) : Int := (cs.map fun c => if hit W c = true then 0 else c.2.2.2).sum
theorem ug {pr : Int} {cs : List C4} {f : Str -> Int} (hs : wy pr cs f) (hx : Exact pr cs f) : ∃ W : List Int, W.length <= cs.length /\ (cs.map fun c => f c.1).sum = W.length * pr + gE W cs := by
 obtain ⟨ls, ps, hp, ho, hm, hg⟩ := hx
 have hf : ∀ d ∈ ls, 0 <= f d.1 := fun d hd => hs.nn d (hp.mem_iff.mp hd)
 have sO : ∀ p ∈ ps, load f ls p <= pr := fun p Ho => by
  obtain ⟨c, hc, rfl⟩ := List.mem_map.mp ((hm p).mp Ho)
  have := hs.ld c hc
  unfold load at this ⊢
  rwa [jX hp]
 have fD : ∀ (i j : Nat) (c d : C4), i <= j -> ls[i]? = some c -> ls[j]? = some d -> c.2.2.1 <= d.2.2.1 := fun i j c d fm hi hj => by
  rcases Nat.lt_or_eq_of_le fm with h | rfl
  . obtain ⟨AK, rfl⟩ := List.getElem?_eq_some_iff.mp hi
    obtain ⟨Gp, rfl⟩ := List.getElem?_eq_some_iff.mp hj
    have h1 := (List.pairwise_iff_getElem.mp ho) i j AK Gp h
    rcases Int.lt_or_le ls[j].2.2.1 ls[i].2.2.1 with bZ | hle
    . have h3 : bX (eX ls[j]) (eX ls[i]) = true := by
       unfold bX eX
       rw [decide_eq_true bZ]; rfl
      rw [h3] at h1; cases h1
    . exact hle
  . rw [hi] at hj; cases hj; exact Int.le_refl _
 obtain ⟨W, hD⟩ := kY hf sO fD hg ls.length (Nat.le_refl _)
 rw [Nat.sub_self] at hD
 refine ⟨W, ?_, ?_⟩
 . have := lN hD.nd (ys := cs.map (·.2.1)) fun w hw => (hm w).mp (hD.mk' w hw).1
   rwa [List.length_map] at this
 . have full : ∀ w ∈ W, load f ls w = pr := fun w hw => by
    obtain ⟨h1, k, d, _, _, _, h2, _⟩ := hD.mk' w hw
    have g1 := eI hf (Nat.le_max_left (k + 1) ls.length) w
    rw [List.take_of_length_le (Nat.le_max_right (k + 1) ls.length), h2] at g1
    have := sO w h1
    omega
   have e1 : (W.map (load f ls)).sum = W.length * pr := by
    have : W.map (load f ls) = W.map fun _ => pr := List.map_congr_left fun w hw => full w hw
    rw [this]
    have z : ∀ l : List Int, (l.map fun _ => pr).sum = l.length * pr := fun l => by
     induction l with
     | nil => simp
     | cons x r ih =>
       simp only [List.map_cons, List.sum_cons, ih, List.length_cons, Int.natCast_add, Int.add_mul]
       simp
       omega
    exact z W
   have e2 := iZ f ls W
   have e3 : (ls.map fun c => f c.1).sum = (ls.map fun c => f c.1 * cnt W c).sum + (ls.map fun c => if hit W c = true then 0 else c.2.2.2).sum := by
    rw [<- sum_add]
    congr 1
    refine List.map_congr_left fun c hc => ?_
    have hn := hf c hc
    by_cases h0 : 0 < f c.1
    . rw [sQ hD.nd (hD.one c hc h0)]
      by_cases hh : hit W c = true
      . simp only [hh, if_true]; omega
      . simp only [hh, if_false, Bool.false_eq_true]
        obtain ⟨k, hk, ek⟩ := List.getElem_of_mem hc
        have hw : ¬ f c.1 < c.2.2.2 := fun z => hh (hD.hit k c (Nat.zero_le _) (by rw [List.getElem?_eq_getElem hk, ek]) z)
        have := hs.le c (hp.mem_iff.mp hc)
        omega
    . have hz : f c.1 = 0 := by omega
      rw [hz]
      by_cases hh : hit W c = true
      . simp only [hh, if_true]; omega
      . simp only [hh, if_false, Bool.false_eq_true]
        obtain ⟨k, hk, ek⟩ := List.getElem_of_mem hc
        have hw : ¬ f c.1 < c.2.2.2 := fun z => hh (hD.hit k c (Nat.zero_le _) (by rw [List.getElem?_eq_getElem hk, ek]) z)
        have := hs.le c (hp.mem_iff.mp hc)
        omega
   have e4 : (cs.map fun c => f c.1).sum = (ls.map fun c => f c.1).sum := (fB (hp.map _)).symm
   have e5 : gE W cs = (ls.map fun c => if hit W c = true then 0 else c.2.2.2).sum := (fB (hp.map _)).symm
   rw [e4, e5, e3, <- e2, e1]
theorem jn {pr : Int} {cs : List C4} {g : C4 -> Int} (h0 : ∀ c ∈ cs, 0 <= g c) (hw : ∀ c ∈ cs, g c <= c.2.2.2) (hl : ∀ t : Int, sf (con t) g cs <= pr) : ∀ W : List Int, (cs.map g).sum <= W.length * pr + gE W cs := by
 intro W
 have e1 : (cs.map g).sum = sf (hit W) g cs + sf (fun c => !hit W c) g cs := (iE (P := hit W) (g := g) cs).symm
 have e2 : sf (fun c => !hit W c) g cs <= gE W cs := by
  have z : gE W cs = sf (fun c => !hit W c) (fun c => c.2.2.2) cs := by
   unfold gE
   clear h0 hw hl e1
   induction cs with
   | nil => rfl
   | cons c r ih =>
     rw [bU, List.map_cons, List.sum_cons, ih]
     by_cases hh : hit W c = true
     . simp [hh]
     . simp [hh]
  rw [z]
  exact jj (fun c hc hp => ⟨hp, hw c hc⟩) (fun c hc _ => Int.le_trans (h0 c hc) (hw c hc))
 have e3 : ∀ W : List Int, sf (hit W) g cs <= W.length * pr := by
  intro W
  induction W with
  | nil =>
    have : cs.filter (hit []) = [] := List.filter_eq_nil_iff.mpr fun c _ => by rw [cq]; simp
    unfold sf; rw [this]; simp
  | cons t ts ih =>
    have e : hit (t :: ts) = fun c => con t c || hit ts c := funext (j7 t ts)
    have h1 := qM (P := con t) (R := hit ts) (g := g) (cs := cs) h0
    have h2 := hl t
    rw [e, List.length_cons]
    have : ((ts.length + 1 : Nat) : Int) * pr = ts.length * pr + pr := by rw [Int.natCast_add, Int.add_mul]; simp
    omega
 have := e3 W
 omega
theorem nU : ∀ {cs : List C4}, (∀ c ∈ cs, 1 <= c.2.2.2 /\ c.2.2.2 <= 10 ^ 12) -> 0 <= (cs.map fun c => c.2.2.2).sum /\ (cs.map fun c => c.2.2.2).sum <= 10 ^ 12 * cs.length
 | [], _ => by simp
 | c :: cs, h => by
   have ih := nU (cs := cs) fun d hd => h d (List.mem_cons_of_mem _ hd)
   have hc := h c List.mem_cons_self
   rw [List.map_cons, List.sum_cons, List.length_cons]
   omega
def g5 : Sp := fun vs H Q _ => ∃ (v : V) (c : Int) (cs : List C4), vs = [v, .int c] /\ Dv H v (.list (cs.map fF)) /\ lG cs /\ cs.length <= 26 /\ ∀ H' pr, ai H H' -> 0 <= pr -> pr < 10 ^ 40 -> Q (.int pr) H'
theorem tm {H : Hp} {Q : VK} {E : XK} {v : V} {c : Int} {cs : List C4} (h : Dv H v (.list (cs.map fF))) (ho : lG cs) (hl : cs.length <= 26) (q : ∀ H' pr, ai H H' -> 0 <= pr -> pr < 10 ^ 40 -> Q (.int pr) H') : g5 [v, .int c] H Q E := ⟨v, c, cs, rfl, h, ho, hl, q⟩
theorem pU (T : Txt K mg a) : bQ P w K mg base gO 1 a.aW a.eU ["_law_claims_here", "_law_cell"] g5 := by
 refine T.dG.ok iN (fun vs H Q E h => ?_) (fun du A outer s H vs Q E hr h => ?_)
 . obtain ⟨_, _, _, rfl, _⟩ := h; rfl
 . obtain ⟨v, c, cs, rfl, hv, aL, hl, q⟩ := h
   refine ⟨_, (ah (d0 (bR (eB hr.vd) (ag av (pv 1) ae) ae (cQ _))
    (ay (bh (ag av (ag aD (pv 1) ae) ae)))
    bP)
    (ah (d0 (bR (eB hr.vd) (ag av (pv 1) ae) ae (cQ _))
     (ay (bh (ag av (ag aD (pv 1) ae) (ag aU ae (cA (ph rfl) rfl T.hO PyProof.Rows.boot_sum (af (kr (T := ["_law_one"]) (M := ["_law_claims_here", "_law_cell"]) (xh (aq cK) ["_law_claims_here", "_law_cell"] rfl rfl (by decide +kernel)) rfl (bT (pv 0)) (fun _ _ _ _ _ => (aF (i := 0) (show List.Nodup (["_law_one", "_law_claims_here", "_law_cell"] : List Str) by decide +kernel) rfl (Or.inl rfl))) (dr (by decide)) (fun _ _ _ _ _ => fx) (fun _ _ _ _ _ => (aP (dZ (K := K) rfl) (pv 0) ae (fun _ _ => rfl)))) ao))))))
     bP)
    (ay (bh (ag av (ag aD (pv 1) ae) (ag hX ae ae)))))), ?_⟩
   repeat' (walk_at "rd1")
   . exact q _ _ (ai.refl _) (by omega) (by omega)
   . refine qy (cs := cs) (gd := fF) (fun _ => true) (fun c => .int c.2.2.2) hv (by omega) (fun _ => rfl) (fun x c H2 N hc fy hx yes no => ?_) (fun q1 H1 oj sr xE => ?_)
     . have iV : Dv H2 x (.tuple [.str c.1, .int c.2.1, .int c.2.2.1, .int c.2.2.2]) := hx
       repeat' (walk_at "rd1")
       refine fz (fun hb => ?_) (fun hb => by cases hb)
       repeat' (walk_at "rd1")
       exact yes rfl _ _ (ai.refl _) (.int _)
     rw [gR] at xE
     have y9 : Dv H1 (.ref q1) (.list ((cs.map fun c => c.2.2.2).map PyData.int)) := by rw [List.map_map]; exact xE.dv
     have hb := nU aL.w1
     repeat' (walk_at "rd1")
     exact q _ _ (by walk_at "same") (by omega) (by omega)
   . exact q _ _ (ai.refl _) (by omega) (by omega)
theorem oZ (T : Txt K mg a) : m9 P w K mg base 1 a.aW ["_law_claims_here", "_law_cell"] [] g5 :=
 ⟨⟨_, _, pU T, T.dG.binds fun _ _ _ _ _ _ => .all fun us hl => match us, hl with | [_, _], _ => rfl, .nil⟩⟩
abbrev j2 (H : Hp) (P : Addr) : Prop := bY H P iT
def ki (P : Addr) : Sp := fun vs H Q _ => ∃ p c, ∃ cs : List C4, vs = [.ref p, .int c] /\ bJ H p (cs.map fF) /\ cs.length <= 26 /\ j2 H P /\ ∀ q H', ∀ EC : List C4, Mv [P] H H' -> j2 H' P -> H q = none -> EC.Perm cs -> bJ H' q (EC.map fF) -> Q (.ref q) H'
theorem rF (T : Txt K mg a) (hB : Bs K mg base) : bQ P w K mg base gO 8 a.aR a.de ["_law_claims_here", "_law_cell"] (ki a.ak) := by
 refine T.dP.Fw iL (fun vs H Q E h => ?_) (fun A outer s H vs Q E hr h => ?_)
 . obtain ⟨_, _, _, rfl, _⟩ := h; rfl
 . obtain ⟨p, c, cs, rfl, hp, hl, ht, q⟩ := h
   have EY := hp.dv
   refine ⟨_, (ah (d0 (bR (eB hr.vd) (ag av (pv 1) ae) ae (cQ _))
    (ay (bh (jf gq rfl T.eE PyProof.Rows.boot_list (af (pv 0) ao))))
    bP)
    (ah (d0 (bR (eB hr.vd) (ag av (pv 1) ae) ae (cQ _))
     (ay (bh (lL (pv 0) rfl rfl T.eE rfl T.c6)))
     bP)
    (ah (d0 (bR (eB hr.vd) (ag av (pv 1) ae) ae (cQ _))
     (ay (bh (je (k := 4) (rK ⟨rfl, rfl, rfl, by decide +kernel, rfl, rfl, by decide +kernel⟩ ⟨a.bw, T.aT.e, PySem.W.codeHd_of_K hB.k T.aT.cd⟩ hB.b rfl (fun _ _ _ _ _ _ _ _ => rfl) rfl) (hr.mono (by decide)) rfl T.b8 (af (pv 0) ao) (fun _ _ _ _ _ _ hr => (gL (af (aP (dZ (K := K) rfl) (pv 0) ae (fun _ _ => rfl)) (af (aP (dZ (K := K) rfl) (pv 0) ae (fun _ _ => rfl)) ao)))))))
     bP)
    (ay (bh (je (k := 4) (rK ⟨rfl, rfl, rfl, by decide +kernel, rfl, rfl, by decide +kernel⟩ ⟨a.bw, T.aT.e, PySem.W.codeHd_of_K hB.k T.aT.cd⟩ hB.b rfl (fun _ _ _ _ _ _ _ _ => rfl) rfl) (hr.mono (by decide)) rfl T.b8 (af (pv 0) ao) (fun _ _ _ _ _ _ hr => (gL (af (ag fh ae (aP (dZ (K := K) rfl) (pv 0) ae (fun _ _ => rfl))) (af (aP (dZ (K := K) rfl) (pv 0) ae (fun _ _ => rfl)) ao)))))))))), ?_⟩
   repeat' (walk_at "rd1")
   . rename_i p1 H1 oj sr vA
     exact q p1 H1 cs oj.mv (ht.keeps oj) sr (List.Perm.refl _) vA
   . rename_i p1 H1 oj sr vA
     exact q p1 H1 cs.reverse oj.mv (ht.keeps oj) sr (List.reverse_perm _) (by rw [List.map_reverse]; exact vA)
   . refine ji ?_
     repeat' (walk_at "rd1")
     refine ⟨ht, fun H2 yj t2 => ?_⟩
     have Av := ht.yR hp yj
     refine jC (cs := cs) fF (fun c => (c.2.1, c.1)) jV (fun c c' h => by rw [jH h]) Av.dv (by omega) (fun c v' H' hc qX hd => ?_) (fun sq H7 ls lz A7 cC fD zB => ?_)
     . have Bu : Dv H' v' (.tuple [.str c.1, .int c.2.1, .int c.2.2.1, .int c.2.2.2]) := hd
       refine nG ?_
       repeat' (walk_at "rd1")
       exact ⟨by walk_at "same", by walk_at "dat"⟩
     . exact q sq H7 ls (yj.eR lz) (t2.keeps lz) (yj.none A7) cC zB
   . refine ji ?_
     repeat' (walk_at "rd1")
     refine ⟨ht, fun H2 yj t2 => ?_⟩
     have Av := ht.yR hp yj
     refine jC (cs := cs) fF (fun c => (0 - c.2.2.2, c.1)) jV (fun c c' h => by rw [jH h]) Av.dv (by omega) (fun c v' H' hc qX hd => ?_) (fun sq H7 ls lz A7 cC fD zB => ?_)
     . have Bu : Dv H' v' (.tuple [.str c.1, .int c.2.1, .int c.2.2.1, .int c.2.2.2]) := hd
       refine nG ?_
       repeat' (walk_at "rd1")
       exact ⟨by walk_at "same", by walk_at "dat"⟩
     . exact q sq H7 ls (yj.eR lz) (t2.keeps lz) (yj.none A7) cC zB
theorem oz (T : Txt K mg a) (hB : Bs K mg base) : m9 P w K mg base 8 a.aR ["_law_claims_here", "_law_cell"] [] (ki a.ak) :=
 ⟨⟨_, _, rF T hB, T.dP.binds fun _ _ _ _ _ _ => .all fun us hl => match us, hl with | [_, _], _ => rfl, .nil⟩⟩
theorem xC {H : Hp} {Q : VK} {v : V} {x y : Int} (hp : Dv H v (.list [.int x, .int y])) (h : Q (.int x) H) : iF K v (.int 0) H Q := jg (.inr hp) (dQ (j := 0) rfl) (fQ h)
theorem wK {H : Hp} {Q : VK} {v : V} {x y : Int} (hp : Dv H v (.list [.int x, .int y])) (h : Q (.int y) H) : iF K v (.int 1) H Q := jg (.inr hp) (dQ (j := 1) rfl) (fQ h)
local macro_rules | `(tactic| walk_at "rd1") => `(tactic| first
 | ((with_reducible refine' xC ?e1 ?_); (case e1 => assumption))
 | ((with_reducible refine' wK ?e1 ?_); (case e1 => assumption))
 | fail)
def pk (r : Int) (d : C4) (ld : C4 -> Int) (cs : List C4) (i : Nat) : List (Int × Int) := cs.mapIdx fun k c => (c.2.2.1, ld c + if k < i /\ con c.2.2.1 d = true then r else 0)
theorem p9 {r : Int} {d : C4} {ld : C4 -> Int} {cs : List C4} : pk r d ld cs 0 = cs.map fun c => (c.2.2.1, ld c) := by
 unfold pk
 refine List.ext_getElem (by simp) fun i h1 h2 => ?_
 simp
theorem yi {r : Int} {d : C4} {ld : C4 -> Int} {cs : List C4} {i : Nat} {c : C4} (h : cs[i]? = some c) : (pk r d ld cs i)[i]? = some (c.2.2.1, ld c) := by
 unfold pk
 rw [List.getElem?_mapIdx, h]
 simp
theorem uj {r : Int} {d : C4} {ld : C4 -> Int} {cs : List C4} {i : Nat} {c : C4} (h : cs[i]? = some c) (hc : con c.2.2.1 d = true) : (pk r d ld cs i).set i (c.2.2.1, ld c + r) = pk r d ld cs (i + 1) := by
 unfold pk
 refine List.ext_getElem? fun k => ?_
 rw [List.getElem?_set]
 by_cases hk : i = k
 . subst hk
   have bZ := (List.getElem?_eq_some_iff.mp h).1
   simp only [List.length_mapIdx, bZ, if_true, List.getElem?_mapIdx, h, Option.map_some]
   simp [hc]
 . rw [if_neg hk, List.getElem?_mapIdx, List.getElem?_mapIdx]
   congr 1
   funext e
   have : (k < i) = (k < i + 1) := by apply propext; omega
   simp only [this]
theorem qY {r : Int} {d : C4} {ld : C4 -> Int} {cs : List C4} {i : Nat} {c : C4} (h : cs[i]? = some c) (hc : ¬ con c.2.2.1 d = true) : pk r d ld cs i = pk r d ld cs (i + 1) := by
 unfold pk
 refine List.ext_getElem? fun k => ?_
 rw [List.getElem?_mapIdx, List.getElem?_mapIdx]
 by_cases hk : i = k
 . subst hk
   rw [h]
   simp [hc]
 . congr 1
   funext e
   have : (k < i) = (k < i + 1) := by apply propext; omega
   simp only [this]
theorem tO {r : Int} {d : C4} {ld : C4 -> Int} {cs : List C4} {n : Nat} (h : cs.length <= n) : pk r d ld cs n = cs.map fun c => (c.2.2.1, ld c + if con c.2.2.1 d = true then r else 0) := by
 unfold pk
 refine List.ext_getElem (by simp) fun i h1 h2 => ?_
 have : i < n := by simp at h1; omega
 simp [this]
def nV (P : Addr) : Sp := fun vs H Q _ => ∃ p pr c, ∃ cs : List C4, vs = [.ref p, .int pr, .int c] /\ bJ H p (cs.map fF) /\ lG cs /\ cs.length <= 26 /\ 0 <= pr /\ j2 H P /\ ∀ (g : Str -> Int) H', Mv [P] H H' -> j2 H' P -> (∀ c ∈ cs, 0 <= g c.1 /\ g c.1 <= c.2.2.2) -> (∀ c ∈ cs, load g cs c.2.2.1 <= pr) -> Q (.int (cs.map fun c => g c.1).sum) H'
theorem uJ (T : Txt K mg a) (hB : Bs K mg base) : bQ P w K mg base gO 10 a.aG a.cY ["_law_claims_here", "_law_price_here", "_law_cell"] (nV a.ak) := by
 have j1 := oz (P := P) (w := w) (base := base) T hB
 have bD := fR (P := P) (w := w) (base := base) T
 refine T.cf.ok aB (fun vs H Q E h => ?_) (fun du A outer s H vs Q E hr h => ?_)
 . obtain ⟨_, _, _, _, rfl, _⟩ := h; rfl
 . obtain ⟨p, pr, c, cs, rfl, hp, aL, hl, h0, ht, q⟩ := h
   refine ⟨_, (ah (uQ (i := 3) aB.nd rfl (Or.inl rfl) (T := ["_law_one"]) (M := ["_law_claims_here", "_law_price_here", "_law_cell", "_law_load", "_law_total", "05", "_law_room", "_law_pair"]) (xh (aq bj) ["_law_claims_here", "_law_price_here", "_law_cell", "_law_load", "_law_total", "_law_one", "_law_room", "_law_pair"] rfl rfl (by decide +kernel)) rfl (bT (pv 0)) (fun _ _ _ _ _ => (aF (i := 0) (show List.Nodup (["_law_one", "_law_claims_here", "_law_price_here", "_law_cell", "_law_load", "_law_total", "05", "_law_room", "_law_pair"] : List Str) by decide +kernel) rfl (Or.inl rfl))) (dr (by decide)) (fun _ _ _ _ _ => fx) (fun _ _ _ _ _ => (cH (af (aP (dZ (K := K) rfl) (pv 0) ae (fun _ _ => rfl)) (af ae ao)))) rfl)
    (ah (aE (i := 4) aB.nd rfl (Or.inl rfl) ae)
    (ah (eD PassesOwn.never rfl (bT (aQ j1 (hr.mono (by decide)) rfl T.eM T.eN (af (pv 0) (af (pv 2) ao)))) (aF (i := 5) aB.nd rfl (Or.inr rfl))
     (ah (aE (i := 6) aB.nd rfl (Or.inl rfl) (cA (pB rfl) rfl T.iD PyProof.Rows.boot_min (af (ag xP (kr (T := ["_law_pair"]) (M := ["_law_claims_here", "_law_price_here", "_law_cell", "_law_load", "_law_total", "_law_one", "_law_room", "07"]) (xh (aq bj) ["_law_claims_here", "_law_price_here", "_law_cell", "_law_load", "_law_total", "_law_one", "_law_room", "_law_pair"] rfl rfl (by decide +kernel)) rfl (bT (pv 3)) (fun _ _ _ _ _ => (aF (i := 0) (show List.Nodup (["_law_pair", "_law_claims_here", "_law_price_here", "_law_cell", "_law_load", "_law_total", "_law_one", "_law_room", "07"] : List Str) by decide +kernel) rfl (Or.inl rfl))) (dr (by decide)) (fun _ _ _ _ _ => (nu (g8 fL fL (aP (dZ (K := K) rfl) (pv 6) ae (fun _ _ => rfl)) (aP (dZ (K := K) rfl) (pv 0) ae (fun _ _ => rfl)) (aP (dZ (K := K) rfl) (pv 6) ae (fun _ _ => rfl))))) (fun _ _ _ _ _ => (ag fh (pv 2) (aP (dZ (K := K) rfl) (pv 0) ae (fun _ _ => rfl))))) (cH (af (aP cU (pv 5) ae (fun _ _ => rfl)) ao))) ao)))
     (ah (aE (i := 2) aB.nd rfl (Or.inl rfl) (aQ bD (hr.mono (by decide)) rfl T.bI T.bH (af (pv 2) ao)))
     (kQ (d0 (bR (eB hr.vd) (ag av (ag aD (pv 2) ae) ae) ae (cQ _))
      (ay (aE (i := 6) aB.nd rfl (Or.inl rfl) (ag av (ag aD (pv 2) ae) (ag aU (pv 6) ae))))
      bP)
     (ah (aE (i := 4) aB.nd rfl (Or.inl rfl) (ag aU (pv 4) (pv 6)))
     (ay (eD PassesOwn.never rfl (bT (pv 3)) (aF (i := 7) aB.nd rfl (Or.inl rfl))
      (ay (d0 (g8 fL fL (aP cU (pv 5) ae (fun _ _ => rfl)) (aP cU (pv 7) ae (fun _ _ => rfl)) (aP cU (pv 5) ae (fun _ _ => rfl)))
       (ay (qq (ag aU (aP cU (pv 7) ae (fun _ _ => rfl)) (pv 6)) (qj (pv 7) ae set_list)))
       bP)))))))))
    (ay (bh (pv 4)))))), ?_⟩
   repeat' (walk_at "rd1")
   obtain ⟨xs, ex, EB, _⟩ := id hp
   have zq : xs.length = cs.length := by rw [EB.length, List.length_map]
   refine A1 (bF.of ex) (by omega) (fun i acc H' => ∃ as : List Addr, acc = as.map V.ref /\ ai H H' /\ as.Nodup /\ (∀ b ∈ as, H b = none /\ ∃ u, H' b = some u) /\ as.length = i /\ ∀ (j : Nat) b c, as[j]? = some b -> cs[j]? = some c -> bJ H' b [.int c.2.2.1, .int 0]) ⟨[], rfl, ai.refl _, .nil, fun b hb => by simp at hb, rfl, fun j b c h => by simp at h⟩ (fun i acc H' hi ⟨as, e1, sm, _, _, e2, _⟩ => ⟨ai.seq sm (bF.of ex), by rw [e1, List.length_map]; omega⟩) (fun i x acc H' N hx ⟨as, e1, sm, qD, jm, e2, n0⟩ yes no => ?_) (fun acc H' ql ⟨as, e1, sm, qD, jm, e2, n0⟩ yD => ?_)
   . have yd : i < cs.length := by have := (List.getElem?_eq_some_iff.mp hx).1; omega
     have xx : cs[i]? = some cs[i] := List.getElem?_eq_getElem yd
     obtain ⟨x2, A4, hd⟩ := EB.get (i := i) (d := fF cs[i]) (by rw [List.getElem?_map, xx]; rfl)
     rw [hx] at A4
     cases A4
     have iI : Dv H' x (.tuple [.str cs[i].1, .int cs[i].2.1, .int cs[i].2.2.1, .int cs[i].2.2.2]) := hd.keeps sm
     repeat' (walk_at "rd1")
     refine fz (fun hb => ?_) (fun hb => by cases hb)
     repeat' (walk_at "rd1")
     rename_i b H4 Ak E5 sA
     have BI : b ∉ as := fun hh => by
      obtain ⟨_, u, hu⟩ := jm b hh
      rw [E5] at hu; cases hu
     refine yes _ _ ⟨as ++ [b], by rw [e1, List.map_append]; rfl, sm.trans Ak, ?_, fun b' sd => ?_, by rw [List.length_append, e2]; rfl, fun j b' c' h1 h2 => ?_⟩
     . rw [List.nodup_append]
       exact ⟨qD, by simp, fun x hx y hy e => BI (by rw [<- List.mem_singleton.mp hy, <- e]; exact hx)⟩
     . rcases List.mem_append.mp sd with sd | sd
       . obtain ⟨g1, u, g2⟩ := jm b' sd
         exact ⟨g1, u, Ak _ _ g2⟩
       . rw [List.mem_singleton.mp sd]
         obtain ⟨ys, ey, _⟩ := sA
         exact ⟨sm.none E5, _, ey⟩
     . by_cases hj : j < as.length
       . rw [List.getElem?_append_left hj] at h1
         exact (n0 j b' c' h1 h2).keeps Ak
       . have Ei : j = as.length := by
          have := (List.getElem?_eq_some_iff.mp h1).1
          rw [List.length_append, List.length_singleton] at this
          omega
         rw [Ei, e2, xx] at h2
         rw [Ei] at h1
         have : b = b' := by simpa using h1
         subst this
         cases h2
         exact sA
   . subst e1
     have Ex : ai H' (upd H' ql (.lst (as.map V.ref))) := aY yD
     have yM : LL (upd H' ql (.lst (as.map V.ref))) ql as (cs.map fun c => (c.2.2.1, load (fun _ => 0) ([] : List C4) c.2.2.1)) := by
      refine ⟨aw, qD, fun hh => ?_, by rw [List.length_map, e2, zq], fun j b r h1 h2 => ?_⟩
      . obtain ⟨_, u, hu⟩ := jm ql hh
        rw [yD] at hu; cases hu
      . rw [List.getElem?_map] at h2
        obtain ⟨c', pJ, rfl⟩ := Option.map_eq_some_iff.mp h2
        exact (n0 j b c' h1 pJ).keeps Ex
     have Bx : H ql = none := sm.none yD
     have zx := sm.trans Ex
     have CJ : ∀ b ∈ as, H b = none := fun b hb => (jm b hb).1
     generalize upd H' ql (.lst (as.map V.ref)) = H2 at *
     repeat' (walk_at "rd1")
     refine ⟨p, c, cs, rfl, hp.keeps zx, hl, ht.keeps zx, fun po H3 od CB t3 uS cC Ge => ?_⟩
     have x5 : LL H3 ql as (cs.map fun c => (c.2.2.1, load (fun _ => 0) ([] : List C4) c.2.2.1)) := yM.mv CB (by simpa using (ht.keeps zx).ne yM.at' (by intro _ z; cases z)) (fun b hb => by
      obtain ⟨i, hi, e⟩ := List.getElem_of_mem hb
      have hr : (cs.map fun c => (c.2.2.1, load (fun _ => 0) ([] : List C4) c.2.2.1))[i]? = some _ := List.getElem?_eq_getElem (by rw [<- yM.len]; exact hi)
      have sA := yM.row i b _ (by rw [List.getElem?_eq_getElem hi, e]) hr
      simpa using (ht.keeps zx).yK sA)
     have HZ : od.length = cs.length := cC.length_eq
     have DG : (od.map (·.1)).Nodup := (cC.map _).nodup_iff.mpr aL.nd
     have FT : po ∉ as := fun hh => by
      obtain ⟨i, hi, e⟩ := List.getElem_of_mem hh
      have hr : (cs.map fun c => (c.2.2.1, load (fun _ => 0) ([] : List C4) c.2.2.1))[i]? = some _ := List.getElem?_eq_getElem (by rw [<- yM.len]; exact hi)
      obtain ⟨_, e2, _⟩ := yM.row i po _ (by rw [List.getElem?_eq_getElem hi, e]) hr
      rw [uS] at e2; cases e2
     repeat' (walk_at "rd1")
     refine nK (Hb := H3) (cs := od) (gd := fF) Ge.dv (fun j σ' H' => ∃ z z6 z7, ∃ (ce : Int) (g : Str -> Int), σ' = [some (.ref p), some (.int pr), some (.int ce), some (.ref ql), some (.int ((od.take j).map fun c => g c.1).sum), z, z6, z7] /\ Mv as H3 H' /\ LL H' ql as (cs.map fun c => (c.2.2.1, load g (od.take j) c.2.2.1)) /\ (∀ c ∈ od.take j, 0 <= g c.1 /\ g c.1 <= c.2.2.2) /\ (∀ c ∈ cs, load g (od.take j) c.2.2.1 <= pr)) ⟨_, _, _, c, fun _ => 0, rfl, Mv.refl, x5, fun c hc => by simp at hc, fun c _ => h0⟩ (fun i σ' H' _ ⟨_, _, _, _, _, _, mv, _⟩ a' xs e hx => by cases e; exact mv.sq FT hx) ?_ ?_
     . rintro j d v' σ' H4 hj ⟨z, z6, z7, ce, g, rfl, pM, v8, BD, qL⟩ hI hS
       have Fc : Dv H4 v' (.tuple [.str d.1, .int d.2.1, .int d.2.2.1, .int d.2.2.2]) := hI rfl (fun b xs e => pM.tp b xs e)
       have Fx : d ∈ cs := cC.mem_iff.mp (List.mem_of_getElem? hj)
       have hw := aL.w1 d Fx
       have De : Dv H4 (.ref ql) (.list (cs.map fun c => uE (c.2.2.1, load g (od.take j) c.2.2.1))) := by have := v8.dv; rw [List.map_map] at this; exact this
       repeat' (walk_at "rd1")
       refine qy (cs := cs) (gd := fun c => uE (c.2.2.1, load g (od.take j) c.2.2.1)) (fun c => con c.2.2.1 d) (fun c => .int (pr - load g (od.take j) c.2.2.1)) De (by omega) (fun _ => rfl) (fun x e H5 N he pj hx yes no => ?_) (fun q5 H5 pj AU Bp => ?_)
       . have iV : Dv H5 x (.list [.int e.2.2.1, .int (load g (od.take j) e.2.2.1)]) := hx
         have Ft := Fc.keeps pj
         repeat' (walk_at "rd1")
         . rename_i h1
           refine fz (fun hb => ?_) (fun hb => no (by simp [con, h1, of_decide_eq_false hb]) _ (ai.refl _))
           repeat' (walk_at "rd1")
           exact yes (by simp [con, h1, of_decide_eq_true hb]) _ _ (ai.refl _) (.int _)
         . rename_i h1
           exact fz (fun hb => by cases hb) (fun _ => no (by simp [con, h1]) _ (ai.refl _))
       have DH : bJ H5 q5 (((cs.filter fun c => con c.2.2.1 d).map fun c => pr - load g (od.take j) c.2.2.1).map PyData.int) := by rw [List.map_map]; exact Bp
       have Ft := Fc.keeps pj
       have CO := v8.keeps pj
       repeat' (walk_at "rd1")
       rename_i q6 H6 qw BH D1
       refine rj (DH.keeps qw) D1 (by
        rw [List.length_map, List.length_map]
        have := List.length_filter_le (fun c : C4 => con c.2.2.1 d) cs
        simp
        omega) (fun q7 H7 lz A7 D4 => ?_)
       have CU : bJ H7 q7 ((((cs.filter fun c => con c.2.2.1 d).map fun c => pr - load g (od.take j) c.2.2.1) ++ [d.2.2.2]).map PyData.int) := by rw [List.map_append]; exact D4
       repeat' (walk_at "rd1")
       refine wc CU.dv (by simp) (fun mn y6 hle => ?_)
       have m1 : mn <= d.2.2.2 := hle _ (by simp)
       have m2 : ∀ c ∈ cs, con c.2.2.1 d = true -> mn <= pr - load g (od.take j) c.2.2.1 := fun c hc nY => hle _ (List.mem_append_left _ (List.mem_map.mpr ⟨c, List.mem_filter.mpr ⟨hc, nY⟩, rfl⟩))
       have m0 : 0 <= mn := by
        rcases List.mem_append.mp y6 with h | h
        . obtain ⟨c, hc, rfl⟩ := List.mem_map.mp h
          have := qL c (List.mem_filter.mp hc).1
          omega
        . have : mn = d.2.2.2 := by simpa using h
          omega
       have wx := (CO.keeps qw).keeps lz
       have Gj := (Ft.keeps qw).keeps lz
       have DS : Mv as H3 H7 := ((pM.eR pj).eR qw).eR lz
       repeat' (walk_at "rd1")
       refine rJ (fun σ' H' => H' = H7 /\ ∃ (ce r : Int), σ' = [some (.ref p), some (.int pr), some (.int ce), some (.ref ql), some (.int ((od.take j).map fun c => g c.1).sum), some v', some (.int r), z7] /\ 0 <= r /\ r <= mn) ?_ ?_
       . repeat' (walk_at "rd1")
         all_goals exact ⟨rfl, _, _, rfl, by omega, by omega⟩
       rintro σ' H' ⟨rfl, Fq, r, rfl, r0, r1⟩
       have Dj : d.1 ∉ (od.take j).map (·.1) := jL DG hj
       have kc := take_snoc hj
       repeat' (walk_at "rd1")
       refine forL (xs := as.map V.ref) (bF.of wx.at') (fun i σ' H8 => ∃ z, σ' = [some (.ref p), some (.int pr), some (.int Fq), some (.ref ql), some (.int (((od.take j).map fun c => g c.1).sum + r)), some v', some (.int r), z] /\ Mv as H' H8 /\ LL H8 ql as (pk r d (fun c => load g (od.take j) c.2.2.1) cs i)) ⟨_, rfl, Mv.refl, by rw [p9]; exact wx⟩ (fun i σ' H8 _ ⟨_, _, rQ, sX⟩ => bF.of sX.at') ?_ ?_
       . rintro i x σ' H8 hx ⟨z, rfl, rQ, sX⟩
         rw [List.getElem?_map] at hx
         obtain ⟨b, hb, rfl⟩ := Option.map_eq_some_iff.mp hx
         have yd : i < as.length := (List.getElem?_eq_some_iff.mp hb).1
         have F7 : i < cs.length := by omega
         have xx : cs[i]? = some cs[i] := List.getElem?_eq_getElem F7
         have n0 := yi (r := r) (d := d) (ld := fun c => load g (od.take j) c.2.2.1) xx
         have sA := sX.row i b _ hb n0
         have FW := sA.dv
         have HL : Dv H8 v' (.tuple [.str d.1, .int d.2.1, .int d.2.2.1, .int d.2.2.2]) := rQ.dat rfl Gj
         repeat' (walk_at "rd1")
         . rename_i AJ j4 H9 uv DA
           have Du : con cs[i].2.2.1 d = true := aO.mpr ⟨AJ, j4⟩
           have Cq : bJ H9 b [.int cs[i].2.2.1, .int (load g (od.take j) cs[i].2.2.1 + r)] := DA
           have Gd := sX.set hb n0 uv Cq
           refine ⟨_, rfl, rQ.step uv (fun b' sd => .inl (by rw [List.mem_singleton.mp sd]; exact List.mem_of_getElem? hb)), ?_⟩
           rw [<- uj (r := r) (ld := fun c => load g (od.take j) c.2.2.1) xx Du]
           exact Gd
         . exact ⟨_, rfl, rQ, by rw [<- qY xx (fun zz => by have := aO.mp zz; omega)]; exact sX⟩
         . exact ⟨_, rfl, rQ, by rw [<- qY xx (fun zz => by have := aO.mp zz; omega)]; exact sX⟩
       . rintro σ' H8 ⟨z, rfl, rQ, sX⟩
         rw [List.length_map, wx.len, List.length_map, tO (Nat.le_refl _)] at sX
         have old : ∀ c ∈ od.take j, bS g d.1 r c.1 = g c.1 := fun c hc => by
          have : c.1 ≠ d.1 := fun zz => Dj (zz ▸ List.mem_map_of_mem (f := (·.1)) hc)
          simp only [bS, if_neg this]
         have new : bS g d.1 r d.1 = r := by simp only [bS, if_true]
         have Dc : ((od.take (j + 1)).map fun c => bS g d.1 r c.1).sum = ((od.take j).map fun c => g c.1).sum + r := by
          rw [kc, List.map_append, nQ, List.map_congr_left old]
          simp [new]
         refine ⟨_, _, _, Fq, bS g d.1 r, by rw [Dc], DS.trans rQ, ?_, fun c hc => ?_, fun c hc => ?_⟩
         . have e : (cs.map fun c => (c.2.2.1, load (bS g d.1 r) (od.take (j + 1)) c.2.2.1)) = cs.map fun c => (c.2.2.1, load g (od.take j) c.2.2.1 + if con c.2.2.1 d = true then r else 0) := List.map_congr_left fun c _ => by rw [kc, fq Dj]
           rw [e]; exact sX
         . rw [kc] at hc
           rcases List.mem_append.mp hc with hc | hc
           . rw [old c hc]; exact BD c hc
           . have : c = d := by simpa using hc
             subst this
             rw [new]; omega
         . rw [kc, fq Dj]
           have h1 := qL c hc
           by_cases nY : con c.2.2.1 d = true
           . rw [if_pos nY]
             have := m2 c hc nY
             omega
           . rw [if_neg nY]; omega
     . rintro σ' H4 ⟨z, z6, z7, ce, g, rfl, pM, v8, BD, qL⟩
       rw [List.take_length] at BD qL
       repeat' (walk_at "rd1")
       rw [List.take_length]
       have es : (od.map fun c => g c.1).sum = (cs.map fun c => g c.1).sum := fB (cC.map _)
       rw [es]
       refine q g H4 ((zx.mv.trans CB).step pM (fun b hb => .inr (CJ b hb))) (t3.mv pM (fun b hb => ?_)) (fun c hc => BD c (cC.mem_iff.mpr hc)) (fun c hc => ?_)
       . obtain ⟨i, hi, e⟩ := List.getElem_of_mem hb
         have hr : (cs.map fun c => (c.2.2.1, load (fun _ => 0) ([] : List C4) c.2.2.1))[i]? = some _ := List.getElem?_eq_getElem (by rw [<- x5.len]; exact hi)
         have sA := x5.row i b _ (by rw [List.getElem?_eq_getElem hi, e]) hr
         exact ⟨t3.yK sA, fun φ zz => by obtain ⟨_, e2, _⟩ := sA; rw [e2] at zz; cases zz⟩
       . have := qL c hc
         unfold load at this ⊢
         rwa [jX cC] at this
theorem qR (T : Txt K mg a) (hB : Bs K mg base) : m9 P w K mg base 10 a.aG ["_law_claims_here", "_law_price_here", "_law_cell"] [] (nV a.ak) :=
 ⟨⟨_, _, uJ T hB, T.cf.binds fun _ _ _ _ _ _ => .all fun us hl => match us, hl with | [_, _, _], _ => rfl, .nil⟩⟩
theorem lC {f : Str -> Int} {cs : List C4} {pr : Int} (h0 : 0 <= pr) (hf : ∀ c ∈ cs, 0 <= f c.1) (hl : ∀ c ∈ cs, load f cs c.2.2.1 <= pr) (t : Int) : load f cs t <= pr := by
 by_cases h : cs.filter (con t) = []
 . rw [oo h]; exact h0
 . obtain ⟨c, hc, hm⟩ := kP _ h
   obtain ⟨By, B6⟩ := List.mem_filter.mp hc
   refine Int.le_trans (jj (fun d hd hp => ⟨?_, Int.le_refl _⟩) (fun d hd _ => hf d hd)) (hl c By)
   have h1 := hm d (List.mem_filter.mpr ⟨hd, hp⟩)
   have h2 := aO.mp hp
   have h3 := aO.mp B6
   exact aO.mpr ⟨by omega, h1⟩
def At (pr : Int) (cs : List C4) (s : Int) : Prop := ∃ f, wy pr cs f /\ Exact pr cs f /\ s = (cs.map fun c => f c.1).sum
theorem At.jY {pr s : Int} {cs : List C4} (h : At pr cs s) : ∃ W : List Int, W.length <= cs.length /\ s = W.length * pr + gE W cs := by
 obtain ⟨f, h1, h2, rfl⟩ := h
 exact ug h1 h2
theorem At.weak {pr s : Int} {cs : List C4} (h0 : 0 <= pr) (h : At pr cs s) (W : List Int) : s <= W.length * pr + gE W cs := by
 obtain ⟨f, h1, h2, rfl⟩ := h
 exact jn (g := fun c => f c.1) h1.nn h1.le (fun t => kB h0 h1.nn h1.ld t) W
theorem qO {pr s0 s1 s2 : Int} {cs : List C4} (h0 : 0 <= pr) (a0 : At pr cs s0) (a1 : At (pr + 1) cs s1) (a2 : At (pr + 2) cs s2) : 0 <= s2 - s1 /\ s2 - s1 <= s1 - s0 /\ s1 - s0 <= cs.length := by
 obtain ⟨W0, l0, e0⟩ := a0.jY
 obtain ⟨W1, l1, e1⟩ := a1.jY
 obtain ⟨W2, l2, e2⟩ := a2.jY
 have w1 := a1.weak (by omega) W2
 have w2 := a2.weak (by omega) W1
 have w3 := a0.weak h0 W1
 have w4 := a1.weak (by omega) W0
 have x2 : (W2.length : Int) * (pr + 2) = W2.length * (pr + 1) + W2.length := by rw [Int.mul_add, Int.mul_add]; omega
 have x1 : (W1.length : Int) * (pr + 2) = W1.length * (pr + 1) + W1.length := by rw [Int.mul_add, Int.mul_add]; omega
 have x3 : (W1.length : Int) * (pr + 1) = W1.length * pr + W1.length := by rw [Int.mul_add]; omega
 have x4 : (W0.length : Int) * (pr + 1) = W0.length * pr + W0.length := by rw [Int.mul_add]; omega
 omega
def lA (ts : List Addr) (K : PySem.W.Frag) : Sp := fun vs H Q _ => ∃ (l : Addr) (ns : List Int), vs = [.ref l] /\ bF K H l (ns.map V.int) /\ ns.length <= 63 /\ (∀ b ∈ ts, H b = some (.eO #[])) /\ ∀ H', Q (.bl true) H'
theorem wD (T : Txt K mg a) (hB : Bs K mg base) : bQ P w K mg base gO 12 a.i6 a.jB ["_law_script"] (lA a.tabs K) := by
 have aH := cB (P := P) (w := w) (base := base) T
 have iS := kW (P := P) (w := w) (base := base) T
 have j0 := oZ (P := P) (w := w) (base := base) T
 have f6 := qR (P := P) (w := w) (base := base) T hB
 have k9 := mE (P := P) (w := w) (base := base) T
 refine T.qP.ok eC (fun vs H Q E h => ?_) (fun du A outer s H vs Q E hr h => ?_)
 . obtain ⟨_, _, rfl, _⟩ := h; rfl
 . obtain ⟨l, ns, rfl, hl, hn, hT, q⟩ := h
   have t0 : j2 H a.ak := .nil (hT _ T.ck)
   refine ⟨_, (ah (aE (i := 1) eC.nd rfl (Or.inl rfl) (ag av (aQ aH (hr.mono (by decide)) rfl T.aJ T.aK (af (pv 0) (af ae ao))) ae))
    (kQ (d0 (bR (eB hr.vd) (ag av (ag aD (aQ aH (hr.mono (by decide)) rfl T.aJ T.aK (af (pv 0) (af ae ao))) ae) ae) ae (cQ _))
     (ay (aE (i := 1) eC.nd rfl (Or.inl rfl) (ag aU ae (ag av (ag aD (aQ aH (hr.mono (by decide)) rfl T.aJ T.aK (af (pv 0) (af ae ao))) ae) ae))))
     bP)
    (ah (aE (i := 2) eC.nd rfl (Or.inl rfl) (aQ iS (hr.mono (by decide)) rfl T.et T.d8 (af (pv 0) (af (pv 1) ao))))
    (ah (aE (i := 3) eC.nd rfl (Or.inl rfl) (aQ j0 (hr.mono (by decide)) rfl T.eS T.eQ (af (pv 2) (af (aQ aH (hr.mono (by decide)) rfl T.aJ T.aK (af (pv 0) (af ae ao))) ao))))
    (ah (aE (i := 4) eC.nd rfl (Or.inl rfl) (cH ao))
    (ah (eD PassesOwn.never rfl (f9 rfl T.dt (af ae ao)) (aF (i := 5) eC.nd rfl (Or.inl rfl))
     (ay (jW (rq PySem.F.plainAttrs_list PySem.F.slot_list_append PySem.F.type_list_append fX (pv 4) (af (tK (aQ k9 (hr.mono (by decide)) rfl T.fO T.fw (af (ag aU (pv 3) (pv 5)) (af (jf gq rfl T.eE PyProof.Rows.boot_list (af (pv 2) ao)) ao))) rfl rfl T.hO) ao)))))
    (ah (eD PassesOwn.never rfl (f9 rfl T.dt (af ae ao)) (aF (i := 5) eC.nd rfl (Or.inl rfl))
     (ay (d0 (bR z0 (aQ f6 (hr.mono (by decide)) rfl T.c5 T.cZ (af (pv 2) (af (pv 3) (af (ag aU (aQ aH (hr.mono (by decide)) rfl T.aJ T.aK (af (pv 0) (af ae ao))) (pv 5)) ao)))) (aP cU (pv 4) ae (fun _ _ => rfl)) (cQ _))
      (ay (bh vJ))
      bP)))
    (ay (bh (og fL fL fL ae (ag fh (aP cU (pv 4) ae (fun _ _ => rfl)) (aP cU (pv 4) ae (fun _ _ => rfl))) (ag fh (aP cU (pv 4) ae (fun _ _ => rfl)) (aP cU (pv 4) ae (fun _ _ => rfl))) (pv 1))))))))))), ?_⟩
   repeat' (walk_at "rd1")
   refine rJ (fun σ' H' => H = H' /\ ∃ m, σ' = [some (.ref l), some (.int m), none, none, none, none] /\ 0 <= m /\ m <= 26) ?_ ?_
   . repeat' (walk_at "rd1")
     . exact ⟨rfl, _, rfl, by omega, by omega⟩
     . exact ⟨rfl, _, rfl, by omega, by omega⟩
   rintro σ' H' ⟨rfl, m, rfl, m0, m1⟩
   repeat' (walk_at "rd1")
   refine oM hl m0 m1 (fun pc H1 cs oj sr gH aL Ci => ?_)
   have lX : cs.length <= 26 := by omega
   have vA : bF K H1 l (ns.map V.int) := by walk_at "sql"
   repeat' (walk_at "rd1")
   refine tm Ci.dv aL lX (fun H2 pr fy p0 p1 => ?_)
   have xF := Ci.keeps fy
   repeat' (walk_at "rd1")
   rename_i ql H3 sm3 uS yD
   have zV := xF.keeps sm3
   refine gg (fun j σ' H' => ∃ z, ∃ ss : List Int, σ' = [some (.ref l), some (.int m), some (.ref pc), some (.int pr), some (.ref ql), z] /\ Mv [ql] H3 H' /\ bJ H' ql (ss.map PyData.int) /\ ss.length = j /\ ∀ k s, ss[k]? = some s -> At (pr + (k : Nat)) cs s) ⟨_, [], rfl, Mv.refl, yD, rfl, fun k s h => by simp at h⟩ ?_ ?_
   . rintro j σ' H4 hj ⟨z, ss, rfl, pM, yF, wZ, Ar⟩
     have zD := zV.mv pM (by simpa using xF.ne uS)
     have Ih : j < 3 := by simpa using hj
     have Ec : (ss.map PyData.int).length <= 3 := by rw [List.length_map]; omega
     repeat' (walk_at "rd1")
     rename_i p5 H5 pj AU El
     refine qz El.dv aL lX (by omega) (fun pd H6 f qw BH DU BG hex => ?_)
     refine vW (ns := cs.map fun c => f c.1) DU (by unfold iG; rw [List.map_map, List.map_map]; rfl) ?_
     have D1 := (yF.keeps pj).keeps qw
     repeat' (walk_at "rd1")
     rename_i H7 DS D4
     refine ⟨_, ss ++ [(cs.map fun c => f c.1).sum], rfl, ((pM.eR pj).eR qw).trans DS, by rw [List.map_append]; exact D4, by rw [List.length_append, wZ]; rfl, fun k s' hk => ?_⟩
     by_cases GX : k < ss.length
     . rw [List.getElem?_append_left GX] at hk
       exact Ar k s' hk
     . have FG : k = ss.length := by
        have := (List.getElem?_eq_some_iff.mp hk).1
        rw [List.length_append, List.length_singleton] at this
        omega
       subst FG
       have : (cs.map fun c => f c.1).sum = s' := by simpa using hk
       subst this
       rw [Int.zero_add] at BG hex
       rw [wZ]
       exact ⟨f, BG, hex, rfl⟩
   . rintro σ' H4 ⟨z, ss, rfl, pM, yF, wZ, Ar⟩
     obtain ⟨s0, s1, s2, rfl⟩ : ∃ s0 s1 s2, ss = [s0, s1, s2] := by
      match ss, wZ with
      | [a, b, c], _ => exact ⟨a, b, c, rfl⟩
     have a0 : At pr cs s0 := by have := Ar 0 s0 rfl; simpa using this
     have a1 : At (pr + 1) cs s1 := Ar 1 s1 rfl
     have a2 : At (pr + 2) cs s2 := Ar 2 s2 rfl
     have o6 := qO p0 a0 a1 a2
     have t3 : j2 H3 a.ak := ((t0.keeps oj).keeps fy).keeps sm3
     have t4 : j2 H4 a.ak := t3.FY yD pM
     have zD := zV.mv pM (by simpa using xF.ne uS)
     have Eu : bF K H4 l (ns.map V.int) := ai.seq (uM (fy.trans sm3) pM (fun b hb => by rw [List.mem_singleton.mp hb]; exact fy.none uS)) vA
     have Ce : ∀ {H' : Hp}, j2 H' a.ak -> bF K H' l (ns.map V.int) -> l ≠ a.ak := fun t h => by
      rcases h with (h | ⟨o, h⟩) | ⟨o, au, n, h, _⟩
      . exact t.ne h (by intro _ z; cases z)
      . exact t.ne h (by intro _ z; cases z)
      . intro z; rw [z, T.aT.no] at h; cases h
     repeat' (walk_at "rd1")
     refine gg (fun j σ' H' => ∃ z, σ' = [some (.ref l), some (.int m), some (.ref pc), some (.int pr), some (.ref ql), z] /\ Mv [a.ak] H4 H' /\ j2 H' a.ak) ⟨_, rfl, Mv.refl, t4⟩ ?_ ?_
     . rintro j σ' H5 hj ⟨z, rfl, v7, t5⟩
       have Dk := t4.yR zD v7
       have Bp := t4.yR yF v7
       have El := v7.sq (by simpa using Ce t4 Eu) Eu
       repeat' (walk_at "rd1")
       refine ⟨pc, pr, _, cs, rfl, Dk, aL, lX, p0, t5, fun g H6 Ew t6 hg sO => ?_⟩
       have D1 := t5.yR Bp Ew
       obtain ⟨W, _, eW⟩ := a0.jY
       have hle := jn (g := fun c => g c.1) (fun c hc => (hg c hc).1) (fun c hc => (hg c hc).2) (fun t => lC p0 (fun c hc => (hg c hc).1) sO t) W
       rw [<- eW] at hle
       repeat' (walk_at "rd1")
       . rename_i hb
         have sd : s0 < (cs.map fun c => g c.1).sum := hb
         omega
       . exact ⟨_, rfl, v7.trans Ew, t6⟩
     . rintro σ' H5 ⟨z, rfl, v7, t5⟩
       have Bp := t4.yR yF v7
       repeat' (walk_at "rd1")
       refine qi ?_
       repeat' (walk_at "rd1")
       . have h3 : s1 - s0 <= m := by omega
         rw [show decide ([s0, s1, s2].getD (Int.toNat 1) default - [s0, s1, s2].getD (Int.toNat 0) default <= m) = true from decide_eq_true h3]
         exact q _
       . rename_i h
         exact absurd o6.2.1 h
       . rename_i h
         exact absurd o6.1 h
end
end My
open PySem PySem.W PyProof.Rows
local macro_rules | `(tactic| walk_at "k_dg") => `(tactic| (refine' ⟨?a, ⟨_, L2.tU ?l ?c⟩, ?k⟩; (case a => k_is); (case l => k_is); (case c => k_is); (case k => k_is)))
local macro_rules | `(tactic| walk_at "k_lm") => `(tactic| (refine' L2.tR ?l ?e ?lc ?ev ?cd ?no; (case l => k_is); (case e => exact rfl); (case lc => k_is); (case ev => exact rfl); (case cd => kernel_rfl); (case no => kernel_rfl)))
theorem My.B3 {K : Frag} {mg : Str -> Option Value} {h : Heap} {fa : Addr} {ts : List Addr} {w : World} (X : K.In h) (wm : mg "law" = some (.ref fa)) (T : ∃ a : My.Ad, a.tabs = ts /\ My.Txt K mg a) :
 ∃ fd : FuncData, (∀ (s : Shared) (u : Value), BindsTo s fd ⟨[u], []⟩ [("_law_script", u)]) /\ (∀ b ∈ ts, K.lookup b = none /\ ∃ c, CodeHd h c b) /\
   ∀ base : Heap, K.In base -> base.Ns mainGlobals mg -> L2.BM mg base -> L2.bQ PySem.Challenge.rw_wakefew_k46_whole_no_shares_are_more.prog w K mg base L2.gO 14 fa fd ["_law_script"] (My.lA ts K) := by
 obtain ⟨a, rfl, T⟩ := T
 have e0 := wm.symm.trans T.qt
 cases e0
 refine ⟨a.jB, fun s u => My.oD T s u, fun b hb => ?_, fun base kb nb bm => (My.wD T ⟨kb, bm⟩).mono (by decide)⟩
 rcases T.tX b hb with rfl
 exact ⟨T.aT.no, _, codeHd_of_K X T.aT.cd⟩
theorem PySem.W.Fast.tw5872465671890293373 : True := trivial
theorem PySem.W.Fast.tw8064536247389088565 : True := trivial
theorem PySem.W.Fast.tw13098991726195960280 : True := trivial
theorem PySem.W.Fast.tw1698826699476002364 : True := trivial
theorem PySem.W.Fast.tw14617655462101007219 : True := trivial
set_option maxRecDepth 100000 in
set_option maxHeartbeats 0 in
theorem PySem.Challenge.cw_wakefew_k46_whole_no_shares_are_more_holds : PySem.Challenge.rw_wakefew_k46_whole_no_shares_are_more.Holds := by
 w_on; o_law; k_head; (case hw => w_witness2)
 k_fill
 refine L2.rP (l := PySem.Challenge.rw_wakefew_k46_whole_no_shares_are_more) (n := 63) (k := 14) (x := "_law_script") (CX := L2.gO) (sp := My.lA) rfl (by decide) rfl ⟨rfl, by decide, by decide⟩ (fun w h Y => ⟨PySem.W.km_in_of Y, PySem.W.km_tabs_of Y⟩) ?F ?S ?C
 case F =>
  intro w mg fa h KX G wm
  refine My.B3 KX wm ?_
  try dsimp only
  refine' My.wU KX G ?h2 ?h3 ?h4 ?h5 ?h6 ?h7 ?h8 ?h9 ?h10 ?h11 ?h12 ?h13 ?h14 ?h15 ?h16 ?h17 ?h18 ?h19 ?h20 ?h21 ?h22 ?h23 ?h24 ?h25 ?h26
  (case h2 => walk_at "k_dg")
  (case h3 => walk_at "k_dg")
  (case h4 => walk_at "k_dg")
  (case h5 => walk_at "k_dg")
  (case h6 => walk_at "k_dg")
  (case h7 => walk_at "k_dg")
  (case h8 => walk_at "k_dg")
  (case h9 => walk_at "k_dg")
  (case h10 => walk_at "k_dg")
  (case h11 => walk_at "k_dg")
  (case h12 => walk_at "k_lm")
  (case h13 => decide)
  (case h14 => walk_at "k_dg")
  (case h15 => walk_at "k_dg")
  (case h16 => decide)
  (case h17 => k_is)
  (case h18 => k_is)
  (case h19 => k_is)
  (case h20 => k_is)
  (case h21 => k_is)
  (case h22 => k_is)
  (case h23 => k_is)
  (case h24 => k_is)
  (case h25 => k_is)
  (case h26 => k_is)
 case S => exact fun K H l ns hl hS hT => ⟨l, ns, rfl, hS, hl, hT, fun _ => rfl⟩
 case C => exact fun H s e s' h => h
