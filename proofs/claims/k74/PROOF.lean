import PyProof.Rows.All
import Wide.All
import OpenK.AllK
import Wide.FinOn
import Lean
import PyProof.EqAt
import PyProof.EqKinds
import PyProof.TupleCall
import PyProof.StrLawsRepr
import PySem.Challenge.RW_wakefew_k74_words_that_are_no_rule
set_option compiler.extract_closed false
set_option Elab.async false
set_option linter.all false
set_option maxRecDepth 100000
namespace L2
open PySem PySem.Spec PyProof.Rows
abbrev Key := Sum Int Str
def kC : Key -> Value -> Bool
 | .inl k, v => Value.isInt k v
 | .inr x, v => Value.isStrOf x v
def KI (w : World) : Key -> Int
 | .inl k => hashInt k
 | .inr x => hashStr w x
theorem bO : ∀ {k : Key} {v : Value}, kC k v = true -> (∃ i t, k = Sum.inl i /\ v = Value.int i t) \/ (∃ x t, k = Sum.inr x /\ v = Value.str x t)
 | .inl i, v, h => by
   obtain ⟨t, e⟩ := Value.isInt_shape (k := i) (v := v) h
   exact .inl ⟨i, t, rfl, e⟩
 | .inr x, v, h => by
   obtain ⟨t, e⟩ := Value.isStrOf_shape (x := x) (v := v) h
   exact .inr ⟨x, t, rfl, e⟩
theorem zb (i : Int) (t : Tok) : kC (.inl i) (.int i t) = true := by simp [kC, Value.isInt]
theorem yC (x : Str) (t : Tok) : kC (.inr x) (.str x t) = true := by simp [kC, Value.isStrOf]
theorem GX (a b : Int) : decide ((Sum.inl a : Key) = Sum.inl b) = (a == b) := by
 by_cases e : a = b
 . subst e; simp
 . have h : ¬ (Sum.inl a : Key) = Sum.inl b := fun q => e (Sum.inl.inj q)
   rw [decide_eq_false h]
   exact (beq_eq_false_iff_ne.mpr e).symm
theorem Gw (a b : Str) : decide ((Sum.inr a : Key) = Sum.inr b) = decide (a = b) := by
 by_cases e : a = b
 . subst e; simp
 . have h : ¬ (Sum.inr a : Key) = Sum.inr b := fun q => e (Sum.inr.inj q)
   rw [decide_eq_false h, decide_eq_false e]
theorem Fx (a : Int) (b : Str) : decide ((Sum.inl a : Key) = Sum.inr b) = false := decide_eq_false (fun q => nomatch q)
theorem Fl (a : Str) (b : Int) : decide ((Sum.inr a : Key) = Sum.inl b) = false := decide_eq_false (fun q => nomatch q)
def eE (prog : Program) (w : World) : PySem.KeyKind prog w Key where
 is := kC
 hash := KI w
 inj := fun v a b ha hb => by
  rcases bO ha with ⟨i, t, rfl, rfl⟩ | ⟨x, t, rfl, rfl⟩
  . rcases bO hb with ⟨j, u, rfl, e⟩ | ⟨y, u, rfl, e⟩
    . injection e with e1 _; rw [e1]
    . exact nomatch e
  . rcases bO hb with ⟨j, u, rfl, e⟩ | ⟨y, u, rfl, e⟩
    . exact nomatch e
    . injection e with e1 _; rw [e1]
 byValue := fun k v h => by
  rcases bO h with ⟨i, t, rfl, rfl⟩ | ⟨x, t, rfl, rfl⟩ <;> rfl
 pyHash := fun hv h => by
  rcases bO hv with ⟨i, t, rfl, rfl⟩ | ⟨x, t, rfl, rfl⟩
  . exact wpAny_pyHash_int h
  . exact wpAny_pyHash_str h
 eqBool := fun hu hv h => by
  rcases bO hu with ⟨i, t, rfl, rfl⟩ | ⟨x, t, rfl, rfl⟩
  . rcases bO hv with ⟨j, u, rfl, rfl⟩ | ⟨y, u, rfl, rfl⟩
    . rw [GX] at h; exact wpAny_eqBool_int h
    . rw [Fx] at h; exact SeqAt.EqAt.int_str i t y u _ _ _ _ h
  . rcases bO hv with ⟨j, u, rfl, rfl⟩ | ⟨y, u, rfl, rfl⟩
    . rw [Fl] at h; exact SeqAt.EqAt.str_int x t j u _ _ _ _ h
    . rw [Gw] at h; exact wpAny_eqBool_str h
 «strs» := fun k x t v h => by
  rcases bO h with ⟨i, u, rfl, e⟩ | ⟨y, u, rfl, e⟩
  . exact nomatch e
  . injection e with e1 _
    subst e1
    cases v <;> rfl
theorem tW (prog : Program) (w : World) (i : Int) (t : Tok) : (eE prog w).is (.inl i) (.int i t) = true := zb i t
theorem t4 (prog : Program) (w : World) (x : Str) (t : Tok) : (eE prog w).is (.inr x) (.str x t) = true := yC x t
inductive V where
 | cj | bl (b : Bool) | int (i : Int) | str (x : Str) | w6 (b : Array UInt8) | Ha (b : UInt64) | ref (a : Addr) | ty (n : String)
 deriving DecidableEq
def RelV : V -> Value -> Prop
 | .cj, u => u = Value.none
 | .bl b, u => u = Value.bool b
 | .int i, u => ∃ t, u = Value.int i t
 | .str x, u => ∃ t, u = Value.str x t
 | .w6 b, u => ∃ t, u = Value.bytes b t
 | .Ha b, u => ∃ t, u = Value.float b t
 | .ref a, u => u = Value.ref a
 | .ty n, u => u = Value.type n
abbrev Vals : List V -> List Value -> Prop := Paired RelV
theorem Vals.length {xs : List V} {us : List Value} (r : Vals xs us) : xs.length = us.length := Paired.length r
theorem Vals.get : ∀ {xs : List V} {us : List Value} {i : Nat} {x : V}, Vals xs us -> xs[i]? = some x -> ∃ u, us[i]? = some u /\ RelV x u
 | _, _, _, _, .nil, e => by simp at e
 | _, _, 0, _, .cons r _, e => by simp at e; subst e; exact ⟨_, rfl, r⟩
 | _, _, i + 1, x, .cons _ t, e => by
   obtain ⟨u, h1, h2⟩ := Vals.get (i := i) (x := x) t (by simpa using e)
   exact ⟨u, by simpa using h1, h2⟩
theorem Vals.set {x : V} {u : Value} (r : RelV x u) : ∀ {xs : List V} {us : List Value} (i : Nat), Vals xs us -> Vals (xs.set i x) (us.set i u)
 | _, _, _, .nil => .nil
 | _, _, 0, .cons _ t => .cons r t
 | _, _, i + 1, .cons q t => .cons q (Vals.set r i t)
theorem Vals.append : ∀ {xs ys : List V} {us ws : List Value}, Vals xs us -> Vals ys ws -> Vals (xs ++ ys) (us ++ ws)
 | _, _, _, _, .nil, s => s
 | _, _, _, _, .cons r t, s => .cons r (Vals.append t s)
theorem Vals.take : ∀ {xs : List V} {us : List Value} (n : Nat), Vals xs us -> Vals (xs.take n) (us.take n)
 | _, _, 0, _ => .nil
 | _, _, _ + 1, .nil => .nil
 | _, _, n + 1, .cons r t => .cons r (Vals.take n t)
theorem Vals.drop : ∀ {xs : List V} {us : List Value} (n : Nat), Vals xs us -> Vals (xs.drop n) (us.drop n)
 | _, _, 0, r => r
 | _, _, _ + 1, .nil => .nil
 | _, _, n + 1, .cons _ t => Vals.drop n t
def nE : Option V -> Option Value -> Prop
 | some v, some u => RelV v u
 | none, none => True
 | _, _ => False
def KV {κ : Type} : List (κ × V) -> List (κ × Value) -> Prop := Paired fun (p : κ × V) (q : κ × Value) => p.1 = q.1 /\ RelV p.2 q.2
def kV : Key -> V
 | .inl i => .int i
 | .inr x => .str x
inductive HO where
 | lst (xs : List V)
 | tup (xs : List V)
 | dK (dW : List (Key × V)) | dT (dW : List (List Key × V))
 | set (S : Int -> Bool) (n : Nat)
 | ins (C dx : Addr) (fs : List (Str × V))
 | own (x : Addr)
 | xd (fs : List (Str × V))
 | met (f x : Addr)
 | Ks (lo hi : Int)
 | u5 (o : Obj) (u : HO)
 | Ep (ps : Array Value)
 | ext (φ : Heap -> Prop)
abbrev Hp := Addr -> Option HO
def upd (H : Hp) (a : Addr) (o : HO) : Hp := fun b => if b = a then some o else H b
theorem aN {H : Hp} {a : Addr} {o : HO} : upd H a o a = some o := by unfold upd; rw [if_pos rfl]
theorem aJ {H : Hp} {a b : Addr} {o : HO} (h : b ≠ a) : upd H a o b = H b := by unfold upd; rw [if_neg h]
theorem pM {H : Hp} {a : Addr} {o u : HO} : upd (upd H a o) a u = upd H a u := by
 funext b; unfold upd; split <;> rfl
theorem bX {H : Hp} {a b : Addr} {o : HO} (h : H a = some o) (h' : H b = none) : a ≠ b := by
 intro e; subst e; rw [h] at h'; cases h'
section
variable (P : Program) (w : World)
def cW (H : Hp) (h : Heap) (a : Addr) : HO -> Prop
 | .lst xs => xs.length <= sizeLine /\ ∃ (aU : List Value) (n : Nat), Vals xs aU /\ h.get? a = some { cls := .type "list", data := .seq aU.toArray n }
 | .tup xs => xs.length <= sizeLine /\ ∃ aU : List Value, Vals xs aU /\ IsTup h a aU.toArray
 | .dK dW => dW.length <= sizeLine /\ (a == sysModules) = false /\ ∃ vs, KV dW vs /\ h.DictOf (eE P w) a vs
 | .dT dW => dW.length <= sizeLine /\ (a == sysModules) = false /\ ∃ xs : List (List Key × Addr × Value),
  Paired (fun (p : List Key × V) (q : List Key × Addr × Value) => p.1 = q.1 /\ H q.2.1 = some (.tup (p.1.map kV)) /\ RelV p.2 q.2.2) dW xs /\
  ∃ o es ep, h.get? a = some o /\ o.ExactDict /\ o.data = .dict es ep /\ es.toList = xs.map (entryOfKey (tupleKind (eE P w))) /\ (xs.map (·.1)).Nodup
 | .set S n => h.SetOf (intKind P w) a S n
 | .ins C dx fs => H dx = some (.own a) /\ fs.length <= 1000 /\ dx ≠ a /\ h.get? a = some (PySem.W.instObj C dx) /\
  ∃ mA, h.Ns1 dx mA /\ (∀ f, nE (fs.lookup f) (mA f)) /\ PySem.Within mA (fs.map (·.1))
 | .own _ => ∃ o, h.get? a = some o
 | .xd fs => ∃ mA, h.Ns1 a mA /\ ∀ f, nE (fs.lookup f) (mA f)
 | .Ks lo hi => ∃ t u v, h.get? a = some { cls := .type "range", data := .fields #[.int lo t, .int hi u, .int 1 v] }
 | .u5 o u => h.get? a = some o /\ cW H h a u
 | .Ep ps => h.get? a = some { cls := .none, data := .fields ps }
 | .met f x => h.get? a = some (PySem.W.methodObj (.ref f) (.ref x))
 | .ext φ => φ h /\ (∃ o, h.get? a = some o) /\ ∀ h1 h2 : Heap, φ h1 -> (∀ o, h1.get? a = some o -> h2.get? a = some o) -> φ h2
def lY (H : Hp) (h : Heap) : Prop := ∀ a o, H a = some o -> cW P w H h a o
end
section
variable {P : Program} {w : World} {H H' : Hp} {h h' : Heap} {a : Addr} {o : HO}
theorem cW.lt (x : cW P w H h a o) : a < h.objs.size := by
 cases o with
 | lst xs => obtain ⟨_, _, _, _, e⟩ := x; exact Heap.lt_size e
 | tup xs => obtain ⟨_, _, _, p⟩ := x; exact p.lt
 | dK dW => obtain ⟨_, _, _, _, o, _, _, e, _⟩ := x; exact Heap.lt_size e
 | dT dW => obtain ⟨_, _, _, _, o, _, _, e, _⟩ := x; exact Heap.lt_size e
 | set S n => obtain ⟨o, _, _, _, e, _⟩ := x; exact Heap.lt_size e
 | ins C dx fs => obtain ⟨_, _, _, e, _⟩ := x; exact Heap.lt_size e
 | own y => obtain ⟨_, e⟩ := x; exact Heap.lt_size e
 | xd fs => obtain ⟨_, ⟨_, _, _, e, _⟩, _⟩ := x; exact Heap.lt_size e
 | Ks lo hi => obtain ⟨_, _, _, e⟩ := x; exact Heap.lt_size e
 | u5 ob u => obtain ⟨e, _⟩ := x; exact Heap.lt_size e
 | Ep ps => exact Heap.lt_size (show h.get? a = some _ from x)
 | met f y => exact Heap.lt_size (show h.get? a = some _ from x)
 | ext φ => obtain ⟨_, ⟨_, e⟩, _⟩ := x; exact Heap.lt_size e
theorem Paired.II {α β : Type} {F G : α -> β -> Prop} : ∀ {l₁ : List α} {l₂ : List β}, Paired F l₁ l₂ -> (∀ a b, F a b -> G a b) -> Paired G l₁ l₂
 | _, _, .nil, _ => .nil
 | _, _, .cons r t, f => .cons (f _ _ r) (Paired.II t f)
theorem cW.pF (x : cW P w H h a o) (k : ∀ b u, (b = a \/ H b = some (.own a)) -> h.get? b = some u -> h'.get? b = some u)
 (ho : ∀ b, H b = some (.own a) -> H' b = some (.own a)) (ht : ∀ b xs, H b = some (.tup xs) -> H' b = some (.tup xs)) : cW P w H' h' a o := by
 induction o with
 | lst xs => obtain ⟨z, aU, n, r, e⟩ := x; exact ⟨z, aU, n, r, k _ _ (.inl rfl) e⟩
 | tup xs => obtain ⟨z, aU, r, ob, e, c⟩ := x; exact ⟨z, aU, r, ob, k _ _ (.inl rfl) e, c⟩
 | dK dW => obtain ⟨z, y, vs, r, ob, es, ep, e, c⟩ := x; exact ⟨z, y, vs, r, ob, es, ep, k _ _ (.inl rfl) e, c⟩
 | dT dW =>
   obtain ⟨z, y, xs, r, ob, es, ep, e, c⟩ := x
   exact ⟨z, y, xs, Paired.II r fun p q z => ⟨z.1, ht _ _ z.2.1, z.2.2⟩, ob, es, ep, k _ _ (.inl rfl) e, c⟩
 | set S n => obtain ⟨ob, es, ep, t, e, c⟩ := x; exact ⟨ob, es, ep, t, k _ _ (.inl rfl) e, c⟩
 | ins C dx fs =>
   obtain ⟨d, z, ne, e, mA, ⟨od, es, ep, e2, c⟩, r⟩ := x
   exact ⟨ho _ d, z, ne, k _ _ (.inl rfl) e, mA, ⟨od, es, ep, k _ _ (.inr d) e2, c⟩, r⟩
 | own y => obtain ⟨ob, e⟩ := x; exact ⟨ob, k _ _ (.inl rfl) e⟩
 | xd fs => obtain ⟨mA, ⟨od, es, ep, e, c⟩, r⟩ := x; exact ⟨mA, ⟨od, es, ep, k _ _ (.inl rfl) e, c⟩, r⟩
 | Ks lo hi => obtain ⟨t, u, v, e⟩ := x; exact ⟨t, u, v, k _ _ (.inl rfl) e⟩
 | u5 ob u ih => obtain ⟨e, q⟩ := x; exact ⟨k _ _ (.inl rfl) e, ih q⟩
 | Ep ps =>
   have e : h.get? a = some { cls := .none, data := .fields ps } := x
   show h'.get? a = some { cls := .none, data := .fields ps }
   exact k a _ (.inl rfl) e
 | met f y =>
   have e : h.get? a = some (PySem.W.methodObj (.ref f) (.ref y)) := x
   show h'.get? a = some (PySem.W.methodObj (.ref f) (.ref y))
   exact k a _ (.inl rfl) e
 | ext φ => obtain ⟨p, ⟨o, e⟩, st⟩ := x; exact ⟨st _ _ p fun o q => k _ _ (.inl rfl) q, ⟨o, k _ _ (.inl rfl) e⟩, st⟩
theorem lY.lt (x : lY P w H h) (e : H a = some o) : a < h.objs.size := (x a o e).lt
theorem lY.fresh (x : lY P w H h) (e : h.objs.size <= a) : H a = none := by
 cases q : H a with
 | none => rfl
 | some u => exact absurd (Nat.lt_of_lt_of_le (x.lt q) e) (Nat.lt_irrefl _)
theorem lY.kept (x : lY P w H h) (k : ∀ b u, h.get? b = some u -> h'.get? b = some u) : lY P w H h' := fun a o e =>
 (x a o e).pF (fun b u _ q => k b u q) (fun _ q => q) fun _ _ q => q
theorem lY.laid (x : lY P w H h) (k : ∀ b u, h.get? b = some u -> h'.get? b = some u) (hp : h.objs.size <= a) (new : cW P w (upd H a o) h' a o) : lY P w (upd H a o) h' := fun b u e => by
 have hn := x.fresh hp
 by_cases hb : b = a
 . subst hb; rw [aN] at e; cases e; exact new
 . rw [aJ hb] at e
   exact (x b u e).pF (fun c v _ q => k c v q) (fun c q => by rw [aJ (bX q hn)]; exact q) fun c xs q => by rw [aJ (bX q hn)]; exact q
end
def Rd (H : Hp) (a : Addr) (u : HO) : Prop := H a = some u \/ ∃ o, H a = some (.u5 o u)
theorem Rd.of {H : Hp} {a : Addr} {u : HO} (h : H a = some u) : Rd H a u := .inl h
theorem Rd.ok {P : Program} {w : World} {H : Hp} {h : Heap} {a : Addr} {u : HO} (r : Rd H a u) (x : lY P w H h) : cW P w H h a u := by
 rcases r with r | ⟨o, r⟩
 . exact x a u r
 . obtain ⟨_, q⟩ := x a _ r
   exact q
def Kc : Option HO -> Prop
 | some (.lst _) => True
 | some (.dK _) => True
 | some (.dT _) => True
 | some (.set _ _) => True
 | some (.ins _ _ _) => True
 | some (.ext _) => True
 | _ => False
section
variable {P : Program} {w : World} {H : Hp} {h h' : Heap} {x e : Addr} {o' : HO}
theorem lY.write (ok : lY P w H h) (mu : Kc (H x)) (he : e = x \/ H e = some (.own x)) (k : ∀ b u, b ≠ e -> h.get? b = some u -> h'.get? b = some u) (Hj : ∃ u, h'.get? e = some u)
 (new : cW P w (upd H x o') h' x o') : lY P w (upd H x o') h' := fun b u q => by
 have HR : ∀ c y, H c = some (.own y) -> c ≠ x := fun c y r z => by subst z; rw [r] at mu; exact mu
 have KW : ∀ c xs, H c = some (.tup xs) -> c ≠ x := fun c xs r z => by subst z; rw [r] at mu; exact mu
 by_cases hb : b = x
 . subst hb; rw [aN] at q; cases q; exact new
 . rw [aJ hb] at q
   by_cases Fb : b = e
   . have q' : H b = some (.own x) := by
      rcases he with z | z
      . exact absurd (Fb.trans z) hb
      . rw [Fb]; exact z
     rw [q] at q'; cases q'
     obtain ⟨v, hv⟩ := Hj
     exact ⟨v, by rw [Fb]; exact hv⟩
   . refine (ok b u q).pF (fun c v hc r => k c v ?_ r) (fun c r => by rw [aJ (HR c b r)]; exact r) fun c xs r => by rw [aJ (KW c xs r)]; exact r
     rcases hc with rfl | hc
     . exact Fb
     . rintro rfl
       rcases he with z | z
       . exact HR c b hc z
       . rw [hc] at z; cases z; exact hb rfl
end
structure Un (fs ex : List Addr) (H H' : Hp) (h h' : Heap) : Prop where
 keep : ∀ b o, h.get? b = some o -> H b = none -> b ∉ fs -> b ∉ ex -> h'.get? b = some o
 slot : ∀ b o, h.get? b = some o -> H b = none -> b ∈ fs -> b ∉ ex -> ∃ sl, h'.get? b = some { o with slots := sl }
 free : ∀ b o, h.get? b = some o -> H b = none -> b ∉ ex -> H' b = none
 there : ∀ b o, h.get? b = some o -> b ∉ ex -> ∃ o', h'.get? b = some o'
 ke : ∀ b xs, H b = some (.tup xs) -> H' b = some (.tup xs)
 jE : ∀ b o u, H b = some (.u5 o u) -> H' b = some (.u5 o u)
 lI : ∀ b ps, H b = some (.Ep ps) -> ∃ more, H' b = some (.Ep (ps ++ more))
section
variable {fs Kf ex Qb : List Addr} {H H1 H2 : Hp} {h h1 h2 h' : Heap} {a x e : Addr} {o : HO}
theorem Un.any (u : Un fs ex H H1 h h1) {b : Addr} {ob : Obj} (q : h.get? b = some ob) (n : H b = none) (hx : b ∉ ex) : ∃ sl, h1.get? b = some { ob with slots := sl } := by
 by_cases hb : b ∈ fs
 . exact u.slot b ob q n hb hx
 . exact ⟨ob.slots, u.keep b ob q n hb hx⟩
theorem Un.kept (k : ∀ b u, h.get? b = some u -> h'.get? b = some u) : Un fs ex H H h h' :=
 ⟨fun b ob q _ _ _ => k b ob q, fun b ob q _ _ _ => ⟨ob.slots, k b ob q⟩, fun _ _ _ n _ => n, fun b ob q _ => ⟨ob, k b ob q⟩, fun _ _ q => q, fun _ _ _ q => q, fun _ ps q => ⟨#[], by rw [q]; simp⟩⟩
theorem Un.refl : Un fs ex H H h h := Un.kept fun _ _ q => q
theorem Un.laid (k : ∀ b u, h.get? b = some u -> h'.get? b = some u) (hp : h.objs.size <= a) (hn : H a = none) : Un fs ex H (upd H a o) h h' where
 keep := fun b u q _ _ _ => k b u q
 slot := fun b u q _ _ _ => ⟨u.slots, k b u q⟩
 free := fun b u q n _ => by rw [aJ (Nat.ne_of_lt (Nat.lt_of_lt_of_le (Heap.lt_size q) hp))]; exact n
 there := fun b u q _ => ⟨u, k b u q⟩
 ke := fun b xs q => by rw [aJ (bX q hn)]; exact q
 jE := fun b u xs q => by rw [aJ (bX q hn)]; exact q
 lI := fun b ps q => ⟨#[], by rw [aJ (bX q hn), q]; simp⟩
theorem Un.write (mu : Kc (H x)) (he : e = x \/ H e = some (.own x)) (k : ∀ b u, b ≠ e -> h.get? b = some u -> h'.get? b = some u) (Hj : ∃ u, h'.get? e = some u) : Un fs ex H (upd H x o) h h' := by
 have hx : ∀ b, H b = none -> b ≠ x := fun b n z => by subst z; rw [n] at mu; exact mu
 have hb : ∀ b, H b = none -> b ≠ e := fun b n z => by
  subst z
  rcases he with r | r
  . exact hx b n r
  . rw [n] at r; cases r
 have hm : ∀ b u, H b = some u -> ¬ Kc (some u) -> b ≠ x := fun b u q nm z => by subst z; rw [q] at mu; exact nm mu
 refine ⟨fun b u q n _ _ => k b u (hb b n) q, fun b u q n _ _ => ⟨u.slots, k b u (hb b n) q⟩, fun b u q n _ => by rw [aJ (hx b n)]; exact n, fun b u q _ => ?_,
  fun b xs q => by rw [aJ (hm b _ q fun z => z)]; exact q, fun b u xs q => by rw [aJ (hm b _ q fun z => z)]; exact q, fun b ps q => ⟨#[], by rw [aJ (hm b _ q fun z => z), q]; simp⟩⟩
 by_cases Fb : b = e
 . subst Fb; exact Hj
 . exact ⟨u, k b u Fb q⟩
end
def KG (h : Heap) (H : Hp) : List Addr := (List.range h.objs.size).filter fun a => (H a).isSome
def tG (h : Heap) (H : Hp) : Heap := PySem.W.hideAll h (KG h H)
theorem yA (h : Heap) (H : Hp) : (tG h H).objs.size = h.objs.size := PySem.W.hideAll_size _ _
theorem Ab {h : Heap} {H : Hp} {b : Addr} {o : Obj} (e : h.get? b = some o) (n : H b = none) : (tG h H).get? b = some o :=
 PySem.W.hideAll_get _ e fun hm => by
  have q : (H b).isSome = true := (List.mem_filter.mp hm).2
  rw [n] at q; simp at q
theorem Ce {h : Heap} {H : Hp} {b : Addr} {o : Obj} (e : (tG h H).get? b = some o) : h.get? b = some o /\ H b = none := by
 have e' : h.get? b = some o := PySem.W.of_hideAll (KG h H) e
 refine ⟨e', ?_⟩
 cases q : H b with
 | none => rfl
 | some x =>
   have hm : b ∈ KG h H := List.mem_filter.mpr ⟨List.mem_range.mpr (Heap.lt_size e'), by simp [q]⟩
   have z : (tG h H).get? b = none := PySem.W.hideAll_none (KG h H) hm
   rw [z] at e; cases e
def BJ (g h : Heap) (L : Addr) : List (Addr × Obj) := (List.range h.objs.size).filterMap fun a => if a = L \/ (g.get? a).isSome = true then none else (h.get? a).map fun o => (a, o)
def rest (g h : Heap) (L d : Addr) : List (Addr × Obj) := (BJ g h L).filter fun p => decide (p.1 ≠ d)
structure Mod (K : PySem.W.Frag) (mg : Str -> Option Value) (base : Heap) : Prop where
 BD : K.In base
 glob : base.Ns mainGlobals mg
 blt : ∃ mb, base.Ns builtinsNs mb /\ ∀ x : Str, x ≠ "__name__" -> mb x = bootBuiltins x
 nolimit : base.NoLimit
structure Cx where
 prog : Program
 w : World
 K : PySem.W.Frag
 mg : Str -> Option Value
 base : Heap
 A : Around
 N : List Str
 cJ : Shared
 Bn : Hp
 env : Env
 outer : List Env
 stack : List Env
 ex : List Addr
 fn : Str -> Bool
 calm : Bool
 pn : List (Addr × Obj)
 xe : Value -> Shared -> Prop
def kc (l : List Env) : List Addr := l.filterMap (·.frame)
abbrev Cx.fs (X : Cx) : List Addr := kc X.outer
def E4 (sc : Scope) (x : Str) : Prop := sc.names.lookup x = some .local \/ sc.names.lookup x = some .cell \/ sc.names.lookup x = some .free
def Loc (sc : Scope) (x : Str) : Prop := sc.names.lookup x = some .local \/ sc.names.lookup x = some .cell
def Look (env : Env) (h : Heap) (m : Str -> Option Value) (x : Str) (u : Value) : Prop :=
 (env.kindOf x = some .local /\ m x = some u) \/ ((env.kindOf x = some .cell \/ env.kindOf x = some .free) /\ ∃ c, env.cells.lookup x = some c /\ h.IsCell c (some u))
structure Cx.Ok (X : Cx) : Prop where
 mod : Mod X.K X.mg X.base
 kind : X.env.scope.kind = .function
 glob : X.env.globals = mainGlobals
 blt : X.env.builtins = builtinsNs
 above : X.cJ.heap.objs.size <= X.env.locals
 inj : ∀ x y c, X.env.cells.lookup x = some c -> X.env.cells.lookup y = some c -> x = y
 has : ∀ x, (X.env.kindOf x = some .cell \/ X.env.kindOf x = some .free) -> ∃ c, X.env.cells.lookup x = some c
 B3 : ∀ x c, X.fn x = true -> X.env.cells.lookup x = some c -> X.cJ.heap.objs.size <= c
 hd : X.calm = true -> X.A.handled = none
 frames : X.A.frames = some X.stack
 EE : X.stack = X.outer \/ (X.stack = X.env :: X.outer /\ X.env.frame = some X.env.locals)
 BE : ∀ b ∈ X.ex, b ≠ X.env.locals /\ ∀ x c, X.env.cells.lookup x = some c -> c ≠ b
 bs : ∀ b o, X.base.get? b = some o -> X.cJ.heap.get? b = some o /\ X.Bn b = none
 wZ : X.base.objs.size <= X.cJ.heap.objs.size
 tE : ∀ b o, X.base.get? b = some o -> b ∉ X.ex
 rD : ∀ b ∈ X.ex, b ∉ X.fs
 ki : X.cJ.heap.FunFrames X.base X.outer
 zV : ∀ b ∈ X.fs, X.Bn b = none
structure Inv (X : Cx) (pins : List (Addr × Obj)) (σ : List (Option V)) (H : Hp) (s : Shared) : Prop where
 ok : X.Ok
 os : s.os = X.cJ.os
 bare : AllBare s.gens
 base : Un X.fs X.ex X.Bn H X.cJ.heap s.heap
 loc : ∃ m, s.heap.Ns X.env.locals m /\ ∀ (i : Nat) (x : Str) (v : V), X.N[i]? = some x -> σ[i]? = some (some v) -> E4 X.env.scope x -> ∃ u, RelV v u /\ Look X.env s.heap m x u
 cell : ∀ x c, X.env.cells.lookup x = some c -> ∃ v, s.heap.IsCell c v
 free : H X.env.locals = none
 eh : ∀ x c, X.env.cells.lookup x = some c -> H c = none
 pin : ∀ p ∈ X.pn ++ pins, s.heap.get? p.1 = some p.2 /\ H p.1 = none /\ p.1 ≠ X.env.locals /\ p.1 ∉ X.fs /\ ∀ v, p.2.data ≠ .cell v
 a9 : lY X.prog X.w H s.heap
 len : σ.length = X.N.length
section
variable {X : Cx} {pins : List (Addr × Obj)} {σ : List (Option V)} {H H' : Hp} {s : Shared} {h' : Heap}
theorem Cx.Ok.KO (ok : X.Ok) {b : Addr} {o : Obj} (e : X.base.get? b = some o) : b ∉ X.fs := fun hb => by
 have := (ok.ki.mem hb).1
 rw [e] at this; cases this
theorem Inv.bs (I : Inv X pins σ H s) : ∀ b o, X.base.get? b = some o -> s.heap.get? b = some o /\ H b = none := fun b o e =>
 ⟨I.base.keep b o (I.ok.bs b o e).1 (I.ok.bs b o e).2 (I.ok.KO e) (I.ok.tE b o e), I.base.free b o (I.ok.bs b o e).1 (I.ok.bs b o e).2 (I.ok.tE b o e)⟩
theorem Inv.bk (I : Inv X pins σ H s) : ∀ b o, X.base.get? b = some o -> s.heap.get? b = some o := fun b o e => (I.bs b o e).1
theorem Inv.mod (I : Inv X pins σ H s) : Mod X.K X.mg X.base := I.ok.mod
theorem Inv.jf (I : Inv X pins σ H s) : X.K.In s.heap := I.ok.mod.BD.keeps I.bk
theorem Inv.fr (I : Inv X pins σ H s) : ∃ m, Fr X.base X.env.locals s.heap m :=
 let ⟨m, hn, _⟩ := I.loc
 ⟨m, hn, I.bk, Nat.le_trans I.ok.wZ I.ok.above⟩
theorem Inv.lt (I : Inv X pins σ H s) : X.env.locals < s.heap.objs.size := let ⟨_, hn, _⟩ := I.loc; hn.lt
theorem Inv.sz (I : Inv X pins σ H s) : X.cJ.heap.objs.size <= s.heap.objs.size := Nat.le_trans I.ok.above (Nat.le_of_lt I.lt)
theorem Inv.LA (I : Inv X pins σ H s) {a : Addr} (h : s.heap.objs.size <= a) : a ∉ X.fs := fun hb => by
 obtain ⟨_, o, ho, _⟩ := I.ok.ki.mem hb
 exact absurd (Nat.lt_of_lt_of_le (Heap.lt_size ho) (Nat.le_trans I.sz h)) (Nat.lt_irrefl _)
theorem Inv.DM (I : Inv X pins σ H s) : ∀ x c, X.env.cells.lookup x = some c -> c ≠ X.env.locals := fun x c e z => by
 obtain ⟨v, o, ho, hd⟩ := I.cell x c e
 obtain ⟨m, ⟨o', es, ep, pC, vb, _⟩, _⟩ := I.loc
 rw [z, pC] at ho; cases ho; rw [vb] at hd; cases hd
theorem Inv.ki (I : Inv X pins σ H s) : s.heap.FunFrames X.base X.outer := by
 have all : ∀ (l : List Env), (∀ b ∈ kc l, b ∈ X.fs) -> X.cJ.heap.FunFrames X.base l -> s.heap.FunFrames X.base l := by
  intro l
  induction l with
  | nil => intro _ _; trivial
  | cons env r ih =>
    intro hs hl
    obtain ⟨hk, ⟨L, o, hf, hn, ho, hd⟩, hr⟩ := hl
    have hL : L ∈ X.fs := hs L (by unfold kc; rw [List.filterMap_cons, hf]; exact List.mem_cons_self)
    obtain ⟨sl, e⟩ := I.base.slot L o ho (I.ok.zV L hL) hL fun z => I.ok.rD L z hL
    exact ⟨hk, ⟨L, _, hf, hn, e, hd⟩, ih (fun b hb => hs b (by unfold kc; rw [List.filterMap_cons, hf]; exact List.mem_cons_of_mem _ hb)) hr⟩
 exact all X.outer (fun _ hb => hb) I.ok.ki
theorem Inv.stack (I : Inv X pins σ H s) : s.heap.FunFrames X.base X.stack := by
 rcases I.ok.EE with e | ⟨e, hf⟩
 . rw [e]; exact I.ki
 . rw [e]
   obtain ⟨m, hn, _⟩ := I.loc
   refine .cons (by rw [I.ok.kind]; decide) hf hn ?_ I.ki
   exact Heap.get?_none_of_le (Nat.le_trans I.ok.wZ I.ok.above)
theorem Inv.sZ (I : Inv X pins σ H s) : ∀ b ∈ kc X.stack, b ∈ X.env.locals :: X.fs := fun b hb => by
 rcases I.ok.EE with e | ⟨e, hf⟩
 . rw [e] at hb; exact List.mem_cons_of_mem _ hb
 . rw [e] at hb
   unfold kc at hb
   rw [List.filterMap_cons, hf] at hb
   exact hb
theorem Inv.nQ (I : Inv X pins σ H s) : ∀ b ∈ kc X.stack, H b = none := fun b hb => by
 rcases List.mem_cons.mp (I.sZ b hb) with e | hb
 . rw [e]; exact I.free
 . obtain ⟨_, o, ho, _⟩ := I.ok.ki.mem hb
   exact I.base.free b o ho (I.ok.zV b hb) fun z => I.ok.rD b z hb
theorem Inv.step {g' : Array GenState} {t' : Nat} {d' : Drawn} {ch : List Addr} (I : Inv X pins σ H s)
 (Bx : ∀ b ∈ ch, (b ∈ X.ex \/ X.cJ.heap.objs.size <= b) /\ b ≠ X.env.locals /\ (∀ x c, X.env.cells.lookup x = some c -> c ≠ b) /\ ∀ p ∈ X.pn ++ pins, p.1 ≠ b)
 (keep : ∀ b o, b ≠ X.env.locals -> b ∉ X.fs -> b ∉ ch -> s.heap.get? b = some o -> H b = none -> h'.get? b = some o)
 (slot : ∀ b o, b ≠ X.env.locals -> b ∈ X.fs -> b ∉ ch -> s.heap.get? b = some o -> H b = none -> ∃ sl, h'.get? b = some { o with slots := sl }) (free : ∀ b o, b ∉ ch -> s.heap.get? b = some o -> H b = none -> H' b = none)
 (there : ∀ b o, b ∉ ch -> s.heap.get? b = some o -> ∃ o', h'.get? b = some o')
 (ke : ∀ b xs, H b = some (.tup xs) -> H' b = some (.tup xs)) (jE : ∀ b o u, H b = some (.u5 o u) -> H' b = some (.u5 o u)) (lI : ∀ b ps, H b = some (.Ep ps) -> ∃ more, H' b = some (.Ep (ps ++ more)))
 (ns : ∀ m, s.heap.Ns X.env.locals m -> h'.Ns X.env.locals m) (a9 : lY X.prog X.w H' h') (hg : AllBare g') :
 Inv X pins σ H' { s with heap := h', gens := g', drawn := d', toks := t' } := by
 have M7 : ∀ b o, X.cJ.heap.get? b = some o -> b ≠ X.env.locals := fun b o e => Nat.ne_of_lt (Nat.lt_of_lt_of_le (Heap.lt_size e) I.ok.above)
 have HM : ∀ b o, X.cJ.heap.get? b = some o -> b ∉ X.ex -> b ∉ ch := fun b o e hx hb => by
  rcases (Bx b hb).1 with z | z
  . exact hx z
  . exact absurd (Nat.lt_of_lt_of_le (Heap.lt_size e) z) (Nat.lt_irrefl _)
 have cellK : ∀ x c, X.env.cells.lookup x = some c -> ∀ v, s.heap.IsCell c v -> h'.IsCell c v := fun x c e v ⟨o, ho, hd⟩ => by
  have Jv : c ∉ ch := fun z => (Bx c z).2.2.1 x c e rfl
  by_cases hc : c ∈ X.fs
  . obtain ⟨sl, q⟩ := slot c o (I.DM x c e) hc Jv ho (I.eh x c e)
    exact ⟨_, q, hd⟩
  . exact ⟨o, keep c o (I.DM x c e) hc Jv ho (I.eh x c e), hd⟩
 refine ⟨I.ok, I.os, hg, ⟨fun b o e n hb hx => ?_, fun b o e n hb hx => ?_, fun b o e n hx => ?_, fun b o e hx => ?_, fun b xs e => ke b xs (I.base.ke b xs e), fun b o xs e => jE b o xs (I.base.jE b o xs e), fun b ps e => ?_⟩, ?_, fun x c e => ?_, ?_, fun x c e => ?_, fun p hp => ?_, a9, I.len⟩
 . exact keep b o (M7 b o e) hb (HM b o e hx) (I.base.keep b o e n hb hx) (I.base.free b o e n hx)
 . obtain ⟨sl, e1⟩ := I.base.slot b o e n hb hx
   obtain ⟨Mq, e2⟩ := slot b _ (M7 b o e) hb (HM b o e hx) e1 (I.base.free b o e n hx)
   exact ⟨Mq, e2⟩
 . obtain ⟨o', e1⟩ := I.base.there b o e hx
   exact free b o' (HM b o e hx) e1 (I.base.free b o e n hx)
 . obtain ⟨o', e1⟩ := I.base.there b o e hx
   exact there b o' (HM b o e hx) e1
 . obtain ⟨m1, e1⟩ := I.base.lI b ps e
   obtain ⟨m2, e2⟩ := lI b _ e1
   exact ⟨m1 ++ m2, by rw [e2, Array.append_assoc]⟩
 . obtain ⟨m, hn, hl⟩ := I.loc
   refine ⟨m, ns m hn, fun i x v e1 e2 e3 => ?_⟩
   obtain ⟨u, r, l⟩ := hl i x v e1 e2 e3
   refine ⟨u, r, ?_⟩
   rcases l with l | ⟨k, c, e, z⟩
   . exact .inl l
   . exact .inr ⟨k, c, e, cellK x c e _ z⟩
 . obtain ⟨v, z⟩ := I.cell x c e
   exact ⟨v, cellK x c e v z⟩
 . obtain ⟨m, ⟨o, _, _, ho, _⟩, _⟩ := I.loc
   exact free _ o (fun z => (Bx _ z).2.1 rfl) ho I.free
 . obtain ⟨v, o, ho, hd⟩ := I.cell x c e
   exact free c o (fun z => (Bx c z).2.2.1 x c e rfl) ho (I.eh x c e)
 . obtain ⟨e, n, ne, nf, d⟩ := I.pin p hp
   have Jv : p.1 ∉ ch := fun z => (Bx p.1 z).2.2.2 p hp rfl
   exact ⟨keep p.1 p.2 ne nf Jv e n, free p.1 p.2 Jv e n, ne, nf, d⟩
theorem Inv.un {t' : Nat} (I : Inv X pins σ H s) (u : Un X.fs [] H H' s.heap h') (a9 : lY X.prog X.w H' h') : Inv X pins σ H' { s with heap := h', toks := t' } := by
 obtain ⟨m, ⟨o, es, ep, ho, r⟩, _⟩ := id I.loc
 obtain ⟨sl, hL⟩ := u.any ho I.free (by simp)
 exact I.step (g' := s.gens) (d' := s.drawn) (ch := []) (fun _ z => nomatch z) (fun b o _ hb _ e n => u.keep b o e n hb (by simp)) (fun b o _ hb _ e n => u.slot b o e n hb (by simp)) (fun b o _ e n => u.free b o e n (by simp)) (fun b o _ e => u.there b o e (by simp)) u.ke u.jE u.lI (fun m' hm => by
  obtain ⟨o', LJ, LD, pC, r'⟩ := hm
  rw [ho] at pC; cases pC
  exact ⟨_, LJ, LD, hL, r'⟩) a9 I.bare
theorem Inv.call {g' : Array GenState} {t' : Nat} {d' : Drawn} {ch : List Addr} (I : Inv X pins σ H s) (u : Un (kc X.stack) ch H H' s.heap h') (a9 : lY X.prog X.w H' h') (hg : AllBare g')
 (Bx : ∀ b ∈ ch, (b ∈ X.ex \/ X.cJ.heap.objs.size <= b) /\ b ≠ X.env.locals /\ (∀ x c, X.env.cells.lookup x = some c -> c ≠ b) /\ ∀ p ∈ X.pn ++ pins, p.1 ≠ b) :
 Inv X pins σ H' { s with heap := h', gens := g', drawn := d', toks := t' } := by
 obtain ⟨m, ⟨o, es, ep, ho, r⟩, _⟩ := id I.loc
 obtain ⟨sl, hL⟩ := u.any ho I.free fun z => (Bx _ z).2.1 rfl
 exact I.step (ch := ch) Bx (fun b o hL hb hc e n => u.keep b o e n (fun z => (List.mem_cons.mp (I.sZ b z)).elim hL hb) hc) (fun b o _ _ hc e n => u.any e n hc) (fun b o hc e n => u.free b o e n hc) (fun b o hc e => u.there b o e hc) u.ke u.jE u.lI (fun m' hm => by
  obtain ⟨o', LJ, LD, pC, r'⟩ := hm
  rw [ho] at pC; cases pC
  exact ⟨_, LJ, LD, hL, r'⟩) a9 hg
theorem Inv.turned {t' : Nat} {it : Addr} (I : Inv X pins σ H s) (k : ∀ b o, b ≠ it -> s.heap.get? b = some o -> h'.get? b = some o) (hn : H it = none) (hL : it ≠ X.env.locals)
 (h1 : it ∈ X.ex \/ X.cJ.heap.objs.size <= it) (h2 : ∀ x c, X.env.cells.lookup x = some c -> c ≠ it) (h3 : ∀ p ∈ X.pn ++ pins, p.1 ≠ it) : Inv X pins σ H { s with heap := h', toks := t' } := by
 have MM : ∀ b u, H b = some u -> b ≠ it := fun b u e z => by rw [z, hn] at e; cases e
 refine I.step (g' := s.gens) (d' := s.drawn) (ch := [it]) (fun b hb => ?_) (fun b o _ _ hc e _ => k b o (fun z => hc (by simp [z])) e) (fun b o _ _ hc e _ => ⟨o.slots, k b o (fun z => hc (by simp [z])) e⟩) (fun _ _ _ _ n => n)
  (fun b o hc e => ⟨o, k b o (fun z => hc (by simp [z])) e⟩) (fun _ _ e => e) (fun _ _ _ e => e) (fun b ps e => ⟨#[], by rw [e]; simp⟩) (fun m hm => ?_) (fun b u e => ?_) I.bare
 . have e : b = it := by simpa using hb
   subst e
   exact ⟨h1, hL, h2, h3⟩
 . obtain ⟨o, es, ep, ho, r⟩ := hm
   exact ⟨o, es, ep, k _ o (Ne.symm hL) ho, r⟩
 . refine (I.a9 b u e).pF (fun c v hc q => k c v ?_ q) (fun _ q => q) fun _ _ q => q
   rcases hc with z | z
   . rw [z]; exact MM b u e
   . exact MM c _ z
theorem Inv.tok (I : Inv X pins σ H s) (t : Nat) : Inv X pins σ H { s with toks := t } := I.un (h' := s.heap) (t' := t) Un.refl I.a9
theorem Inv.kept {t' : Nat} (I : Inv X pins σ H s) (k : ∀ b u, s.heap.get? b = some u -> h'.get? b = some u) : Inv X pins σ H { s with heap := h', toks := t' } := I.un (Un.kept k) (I.a9.kept k)
theorem Inv.laid {a : Addr} {o : HO} {t' : Nat} (I : Inv X pins σ H s) (k : ∀ b u, s.heap.get? b = some u -> h'.get? b = some u) (hp : s.heap.objs.size <= a) (new : cW X.prog X.w (upd H a o) h' a o) :
 Inv X pins σ (upd H a o) { s with heap := h', toks := t' } := I.un (Un.laid k hp (I.a9.fresh hp)) (I.a9.laid k hp new)
theorem Inv.write {x e : Addr} {o : HO} {t' : Nat} (I : Inv X pins σ H s) (mu : Kc (H x)) (he : e = x \/ H e = some (.own x)) (k : ∀ b u, b ≠ e -> s.heap.get? b = some u -> h'.get? b = some u) (Hj : ∃ u, h'.get? e = some u)
 (new : cW X.prog X.w (upd H x o) h' x o) : Inv X pins σ (upd H x o) { s with heap := h', toks := t' } := I.un (Un.write mu he k Hj) (I.a9.write mu he k Hj new)
theorem Inv.weak {σ' : List (Option V)} (I : Inv X pins σ H s) (hl : σ'.length = σ.length) (w : ∀ (i : Nat) v, σ'[i]? = some (some v) -> σ[i]? = some (some v)) : Inv X pins σ' H s :=
 ⟨I.ok, I.os, I.bare, I.base, let ⟨m, hn, De⟩ := I.loc; ⟨m, hn, fun i x v e1 e2 e3 => De i x v e1 (w i v e2) e3⟩, I.cell, I.free, I.eh, I.pin, I.a9, hl.trans I.len⟩
theorem Inv.gB {qS : List (Addr × Obj)} (I : Inv X pins σ H s) (h : ∀ p ∈ qS, s.heap.get? p.1 = some p.2 /\ H p.1 = none /\ p.1 ≠ X.env.locals /\ p.1 ∉ X.fs /\ ∀ v, p.2.data ≠ .cell v) : Inv X qS σ H s :=
 ⟨I.ok, I.os, I.bare, I.base, I.loc, I.cell, I.free, I.eh, fun p hp => (List.mem_append.mp hp).elim (fun z => I.pin p (List.mem_append_left _ z)) (h p), I.a9, I.len⟩
theorem qA {N : List Str} (hN : N.Nodup) {i j : Nat} {x : Str} (a : N[i]? = some x) (b : N[j]? = some x) : i = j := by
 obtain ⟨h1, e1⟩ := List.getElem?_eq_some_iff.mp a
 obtain ⟨h2, e2⟩ := List.getElem?_eq_some_iff.mp b
 exact (List.getElem_inj hN).mp (e1.trans e2.symm)
theorem rX {M : Model} {A : Around} {E : Value -> Shared -> Prop} {i : Nat} {x : Str} {v : V} {u : Value} {Q : Unit -> Shared -> Prop} (I : Inv X pins σ H s) (hN : X.N.Nodup) (hi : X.N[i]? = some x) (hx : Loc X.env.scope x) (r : RelV v u)
 (h : ∀ s', Inv X pins (σ.set i (some v)) H s' -> (∃ a, Heap.SameBut a s.heap s'.heap /\ (a = X.env.locals \/ X.env.cells.lookup x = some a)) -> Q () s') (hf : X.fn x = true \/ X.env.scope.names.lookup x = some .local := by first | exact .inl rfl | exact .inr rfl | assumption) : wpAny M A (storeName X.env x u) Q E s := by
 obtain ⟨m, hn, hl⟩ := id I.loc
 have Dk : (X.env.scope.kind == .class || (X.env.scope.kind == .module && X.env.locals != X.env.globals)) = false := by rw [I.ok.kind]; rfl
 have IJ : i < σ.length := by rw [I.len]; exact (List.getElem?_eq_some_iff.mp hi).1
 have DM := I.DM
 have tracked : ∀ {a : Addr} {h' : Heap}, (∃ o, s.heap.get? a = some o /\ H a = none) -> Heap.SameBut a s.heap h' -> lY X.prog X.w H h' := fun {a h'} ha hs b ob e => by
  obtain ⟨_, _, Er⟩ := ha
  refine (I.a9 b ob e).pF (fun c w' hc q => (hs.2 c ?_).trans q) (fun _ q => q) fun _ _ q => q
  rintro rfl
  rcases hc with rfl | hc
  . rw [Er] at e; cases e
  . rw [Er] at hc; cases hc
 rcases hx with hk | hk
 . refine wpAny_storeName_local hk hn (fun h' NV hs => ?_) Dk
   obtain ⟨oL, _, _, O0, _⟩ := id hn
   refine h _ ⟨I.ok, I.os, I.bare, ⟨fun b o e n hb hx => ?_, fun b o e n hb hx => ?_, I.base.free, fun b o e hx => ?_, I.base.ke, I.base.jE, I.base.lI⟩, ⟨_, NV, fun j y v' e1 e2 e3 => ?_⟩, fun y c e => ?_, I.free, I.eh, fun p hp => ?_, tracked ⟨oL, O0, I.free⟩ hs, by simpa using I.len⟩ ⟨_, hs, .inl rfl⟩
   . exact (hs.2 b (Nat.ne_of_lt (Nat.lt_of_lt_of_le (Heap.lt_size e) I.ok.above))).trans (I.base.keep b o e n hb hx)
   . obtain ⟨sl, e1⟩ := I.base.slot b o e n hb hx
     exact ⟨sl, (hs.2 b (Nat.ne_of_lt (Nat.lt_of_lt_of_le (Heap.lt_size e) I.ok.above))).trans e1⟩
   . obtain ⟨o', e1⟩ := I.base.there b o e hx
     exact ⟨o', (hs.2 b (Nat.ne_of_lt (Nat.lt_of_lt_of_le (Heap.lt_size e) I.ok.above))).trans e1⟩
   . by_cases hj : j = i
     . subst hj
       rw [hi] at e1; cases e1
       rw [List.getElem?_set_self IJ] at e2
       cases e2
       exact ⟨u, r, .inl ⟨hk, by simp⟩⟩
     . rw [List.getElem?_set_ne (Ne.symm hj)] at e2
       obtain ⟨u', r', q⟩ := hl j y v' e1 e2 e3
       refine ⟨u', r', ?_⟩
       rcases q with ⟨k, e⟩ | ⟨k, c, e, z⟩
       . refine .inl ⟨k, ?_⟩
         have : y ≠ x := fun e => hj (qA hN e1 (e ▸ hi))
         simp [this, e]
       . exact .inr ⟨k, c, e, z.sameBut hs (DM y c e)⟩
   . obtain ⟨w', z⟩ := I.cell y c e
     exact ⟨w', z.sameBut hs (DM y c e)⟩
   . obtain ⟨e, n, ne, nf, d⟩ := I.pin p hp
     exact ⟨(hs.2 p.1 ne).trans e, n, ne, nf, d⟩
 . have KY : X.fn x = true := by
    rcases hf with z | z
    . exact z
    . rw [z] at hk; cases hk
   obtain ⟨c, hc⟩ := I.ok.has x (.inl hk)
   obtain ⟨w', z⟩ := I.cell x c hc
   refine wpAny_storeName_cell I.ok.kind hk hc z (fun h' sO hs => ?_)
   obtain ⟨oc, Nw, K8⟩ := id z
   refine h { s with heap := h' } ⟨I.ok, I.os, I.bare, ⟨fun b o e n hb hx => ?_, fun b o e n hb hx => ?_, I.base.free, fun b o e hx => ?_, I.base.ke, I.base.jE, I.base.lI⟩, ⟨m, hn.sameBut hs (Ne.symm (DM x c hc)), fun j y v' e1 e2 e3 => ?_⟩, fun y c' e => ?_, I.free, I.eh, fun p hp => ?_, tracked ⟨oc, Nw, I.eh x c hc⟩ hs, by simpa using I.len⟩ ⟨c, hs, .inr hc⟩
   . exact (hs.2 b (Nat.ne_of_lt (Nat.lt_of_lt_of_le (Heap.lt_size e) (I.ok.B3 x c KY hc)))).trans (I.base.keep b o e n hb hx)
   . obtain ⟨sl, e1⟩ := I.base.slot b o e n hb hx
     exact ⟨sl, (hs.2 b (Nat.ne_of_lt (Nat.lt_of_lt_of_le (Heap.lt_size e) (I.ok.B3 x c KY hc)))).trans e1⟩
   . obtain ⟨o', e1⟩ := I.base.there b o e hx
     exact ⟨o', (hs.2 b (Nat.ne_of_lt (Nat.lt_of_lt_of_le (Heap.lt_size e) (I.ok.B3 x c KY hc)))).trans e1⟩
   . by_cases hj : j = i
     . subst hj
       rw [hi] at e1; cases e1
       rw [List.getElem?_set_self IJ] at e2
       cases e2
       exact ⟨u, r, .inr ⟨.inl hk, c, hc, sO⟩⟩
     . rw [List.getElem?_set_ne (Ne.symm hj)] at e2
       obtain ⟨u', r', q⟩ := hl j y v' e1 e2 e3
       refine ⟨u', r', ?_⟩
       rcases q with q | ⟨k, c', e, z'⟩
       . exact .inl q
       . refine .inr ⟨k, c', e, z'.sameBut hs ?_⟩
         rintro rfl
         exact hj (qA hN e1 (I.ok.inj _ _ _ e hc ▸ hi))
   . by_cases Kk : c' = c
     . subst Kk; exact ⟨_, sO⟩
     . obtain ⟨w2, z2⟩ := I.cell y c' e
       exact ⟨w2, z2.sameBut hs Kk⟩
   . obtain ⟨e, n, ne, nf, d⟩ := I.pin p hp
     refine ⟨(hs.2 p.1 ?_).trans e, n, ne, nf, d⟩
     intro q
     rw [q, Nw] at e
     have q' : oc = p.2 := Option.some.inj e
     exact d w' (by rw [<- q']; exact K8)
theorem qL {M : Model} {A : Around} {E : Value -> Shared -> Prop} {i : Nat} {x : Str} {v : V} {u : Value} {Q : Unit -> Shared -> Prop} (I : Inv X pins σ H s) (hN : X.N.Nodup) (hi : X.N[i]? = some x) (hx : Loc X.env.scope x) (r : RelV v u)
 (h : ∀ s', Inv X pins (σ.set i (some v)) H s' -> Q () s') (hf : X.fn x = true \/ X.env.scope.names.lookup x = some .local := by first | exact .inl rfl | exact .inr rfl | assumption) : wpAny M A (storeName X.env x u) Q E s :=
 rX I hN hi hx r (fun s' I' _ => h s' I') hf
theorem Inv.p0 {s' : Shared} {ch : List Addr} (I : Inv X pins σ H s) (ho : s'.os = s.os) (u : Un (kc X.stack) ch H H' s.heap s'.heap) (a9 : lY X.prog X.w H' s'.heap) (hg : AllBare s'.gens)
 (Bx : ∀ b ∈ ch, (b ∈ X.ex \/ X.cJ.heap.objs.size <= b) /\ b ≠ X.env.locals /\ (∀ x c, X.env.cells.lookup x = some c -> c ≠ b) /\ ∀ p ∈ X.pn ++ pins, p.1 ≠ b) : Inv X pins σ H' s' := by
 obtain ⟨h', g', d', t', o'⟩ := s'
 have e : o' = s.os := ho
 subst e
 exact I.call (g' := g') (t' := t') (d' := d') u a9 hg Bx
end
abbrev XK := Value -> Option Addr -> Hp -> Prop
abbrev St := List (Option V)
abbrev VK := V -> Hp -> Prop
abbrev TE := St -> Hp -> VK -> Prop
abbrev TT := St -> Hp -> (Bool -> Hp -> Prop) -> Prop
abbrev TA := St -> Hp -> (List V -> Hp -> Prop) -> Prop
structure Ends where
 nx : St -> Hp -> Prop
 rt : VK
 bk : St -> Hp -> Prop := fun _ _ => False
 ct : St -> Hp -> Prop := fun _ _ => False
abbrev TS := Ends -> St -> Hp -> Prop
def EP (X : Cx) (pins : List (Addr × Obj)) (σ : St) (Q : VK) (u : Value) (s' : Shared) : Prop := ∃ v H', Inv X pins σ H' s' /\ RelV v u /\ Q v H'
def TP (X : Cx) (pins : List (Addr × Obj)) (σ : St) (Q : Bool -> Hp -> Prop) (b : Bool) (s' : Shared) : Prop := ∃ H', Inv X pins σ H' s' /\ Q b H'
def AP (X : Cx) (pins : List (Addr × Obj)) (σ : St) (Q : List V -> Hp -> Prop) (us : List Value) (s' : Shared) : Prop := ∃ vs H', Inv X pins σ H' s' /\ Vals vs us /\ Q vs H'
def SP (X : Cx) (pins : List (Addr × Obj)) (D : Ends) (f : Flow) (s' : Shared) : Prop :=
 match f with
 | .next => ∃ σ' H', Inv X pins σ' H' s' /\ D.nx σ' H'
 | .brk => ∃ σ' H', Inv X pins σ' H' s' /\ D.bk σ' H'
 | .cont => ∃ σ' H', Inv X pins σ' H' s' /\ D.ct σ' H'
 | .ret u => ∃ v σ' H', Inv X pins σ' H' s' /\ RelV v u /\ D.rt v H'
def PE (X : Cx) (e : Expr) (t : TE) : Prop :=
 ∀ (pins : List (Addr × Obj)) (s : Shared) (σ : St) (H : Hp) (Q : VK), Inv X pins σ H s -> t σ H Q -> wpAny (model X.prog X.w) X.A (eval e X.env) (EP X pins σ Q) X.xe s
def PT (X : Cx) (e : Expr) (t : TT) : Prop :=
 ∀ (pins : List (Addr × Obj)) (s : Shared) (σ : St) (H : Hp) (Q : Bool -> Hp -> Prop), Inv X pins σ H s -> t σ H Q -> wpAny (model X.prog X.w) X.A (isTrue e X.env (eval e X.env)) (TP X pins σ Q) X.xe s
def PW (X : Cx) (e : Expr) (t : TT) : Prop :=
 ∀ (whole : Sem Value) (pins : List (Addr × Obj)) (s : Shared) (σ : St) (H : Hp) (Q : Bool -> Hp -> Prop), Inv X pins σ H s -> t σ H Q -> wpAny (model X.prog X.w) X.A (isTrue e X.env whole) (TP X pins σ Q) X.xe s
theorem PW.pt {X : Cx} {e : Expr} {t : TT} (h : PW X e t) : PT X e t := h _
def PA (X : Cx) (es : List Expr) (t : TA) : Prop :=
 ∀ (pos : Pos) (pins : List (Addr × Obj)) (s : Shared) (σ : St) (H : Hp) (Q : List V -> Hp -> Prop), Inv X pins σ H s -> t σ H Q -> wpAny (model X.prog X.w) X.A (spliced (backTo pos (starEach es X.env))) (AP X pins σ Q) X.xe s
def PS (X : Cx) (st : Stmt) (t : TS) : Prop :=
 ∀ (pins : List (Addr × Obj)) (s : Shared) (σ : St) (H : Hp) (D : Ends), Inv X pins σ H s -> t D σ H -> wpAny (model X.prog X.w) X.A (exec st X.env) (SP X pins D) X.xe s
def qM (X : Cx) (st : List Stmt) (t : TS) : Prop :=
 ∀ (pins : List (Addr × Obj)) (s : Shared) (σ : St) (H : Hp) (D : Ends), Inv X pins σ H s -> t D σ H -> wpAny (model X.prog X.w) X.A (execs st X.env) (SP X pins D) X.xe s
theorem bK {α : Type} {t : Sem α} {Q Q' : α -> Shared -> Prop} {M : Model} {A : Around} {E : Value -> Shared -> Prop} {s : Shared} (h : wpAny M A t Q E s) (hQ : ∀ a s, Q a s -> Q' a s) : wpAny M A t Q' E s := wpAny_mono h hQ fun _ _ x => x
section
variable {X : Cx}
def DA (i : Nat) : TE := fun σ H Q => ∃ v, σ[i]? = some (some v) /\ Q v H
def tC (v : V) : TE := fun _ H Q => Q v H
theorem E1 {i : Nat} {x : Str} {pos : Pos} (hN : X.N[i]? = some x) (hv : E4 X.env.scope x) (hd : (x == ("__debug__" : Str)) = false := by decide) (tQ : (x == ("__classdict__" : Str)) = false := by decide) : PE X (.Name x pos) (DA i) := by
 intro pins s σ H Q I h
 obtain ⟨v, e, h⟩ := h
 obtain ⟨m, hn, hl⟩ := I.loc
 obtain ⟨u, r, l⟩ := hl i x v hN e hv
 have fin : EP X pins σ Q u s := ⟨v, H, I, r, h⟩
 rcases l with ⟨hk, hm⟩ | ⟨hk, c, hc, r6⟩
 . exact wpAny_Name (wpAny_loadName_local I.ok.kind hk hn hm fin) hd
 . rcases hk with hk | hk
   . exact wpAny_Name (wpAny_loadName_cell I.ok.kind hk hc r6 fin) hd
   . exact wpAny_Name (wpAny_loadName_free I.ok.kind hk hc r6 fin tQ) hd
theorem ah {i j pos} : PE X (.Constant (.int i) j pos) (tC (.int i)) := fun _ _ _ H _ I h => wpAny_Constant_int ⟨.int i, H, I.tok _, ⟨_, rfl⟩, h⟩
theorem ql {b j pos} : PE X (.Constant (.bool b) j pos) (tC (.bl b)) := fun _ _ _ H _ I h => Constant_bool ⟨.bl b, H, I, rfl, h⟩
theorem oy {j pos} : PE X (.Constant .none j pos) (tC .cj) := fun _ _ _ H _ I h => Constant_none ⟨.cj, H, I, rfl, h⟩
theorem ax {x j pos} : PE X (.Constant (.str x) j pos) (tC (.str x)) := fun _ _ _ H _ I h => Calls.Constant_str ⟨.str x, H, I.tok _, ⟨_, rfl⟩, h⟩
def Gl (X : Cx) (x : Str) : Prop := X.env.kindOf x = some .globalImplicit
theorem eD {E : Value -> Shared -> Prop} {pins : List (Addr × Obj)} {s : Shared} {σ : St} {H : Hp} {x : Str} {u : Value} {pos : Pos} {Q : Value -> Shared -> Prop} (I : Inv X pins σ H s) (hg : Gl X x) (hm : X.mg x = some u) (h : Q u s)
 (hd : (x == ("__debug__" : Str)) = false := by decide) : wpAny (model X.prog X.w) X.A (eval (.Name x pos) X.env) Q E s :=
 Calls.Name_function_global I.ok.kind hg (Calls.loadGlobal_global (by rw [I.ok.glob]; exact I.mod.glob.keeps I.bk) hm h) hd
theorem vV {E : Value -> Shared -> Prop} {pins : List (Addr × Obj)} {s : Shared} {σ : St} {H : Hp} {x : Str} {u : Value} {pos : Pos} {Q : Value -> Shared -> Prop} (I : Inv X pins σ H s) (hg : Gl X x) (hm : X.mg x = none) (hv : bootBuiltins x = some u) (h : Q u s)
 (hn : x ≠ "__name__" := by decide) (hd : (x == ("__debug__" : Str)) = false := by decide) : wpAny (model X.prog X.w) X.A (eval (.Name x pos) X.env) Q E s := by
 obtain ⟨mb, h1, h2⟩ := I.mod.blt
 exact Calls.Name_function_global I.ok.kind hg (Calls.loadGlobal_builtin (by rw [I.ok.glob]; exact I.mod.glob.keeps I.bk) hm (by rw [I.ok.blt]; exact h1.keeps I.bk) ((h2 x hn).trans hv) h) hd
theorem iJ {x : Str} {v : V} {u : Value} {pos : Pos} (hg : Gl X x) (hm : X.mg x = some u) (r : RelV v u) (hd : (x == ("__debug__" : Str)) = false := by decide) : PE X (.Name x pos) (tC v) :=
 fun _ _ _ H _ I h => eD I hg hm ⟨v, H, I, r, h⟩ hd
theorem pV {x : Str} {v : V} {u : Value} {pos : Pos} (hg : Gl X x) (hm : X.mg x = none) (hv : bootBuiltins x = some u) (r : RelV v u) (hn : x ≠ "__name__" := by decide) (hd : (x == ("__debug__" : Str)) = false := by decide) : PE X (.Name x pos) (tC v) :=
 fun _ _ _ H _ I h => vV I hg hm hv ⟨v, H, I, r, h⟩ hn hd
variable {a b : Expr} {ta tb : TE} {pos : Pos}
def PC (X : Cx) (op : CmpOp) (a b : Expr) (t : TE) : Prop :=
 ∀ (pins : List (Addr × Obj)) (s : Shared) (σ : St) (H : Hp) (Q : VK), Inv X pins σ H s -> t σ H Q ->
   wpAny (model X.prog X.w) X.A (eval a X.env) (fun v s₁ => wpAny (model X.prog X.w) X.A (eval b X.env) (fun u s₂ => wpAny (model X.prog X.w) X.A (compareOp op v u) (EP X pins σ Q) X.xe s₂) X.xe s₁) X.xe s
theorem Gv {op : CmpOp} {t : TE} (h : PC X op a b t) (h1 : behindInMarks op b = false := by first | exact Je _ (by decide) (by decide) | rfl) : PE X (.Compare a [op] [b] pos) t := fun pins s σ H Q I hw => wpAny_Compare1 (h pins s σ H Q I hw) h1
variable {tA KC : TT} {rest : List Expr}
def Jo (t u : TT) : TT := fun σ H Q => t σ H fun c H1 => if c = true then u σ H1 Q else Q false H1
def MO (t u : TT) : TT := fun σ H Q => t σ H fun c H1 => if c = true then Q true H1 else u σ H1 Q
def IL (t : TT) : TT := fun σ H Q => t σ H fun c H1 => Q (!c) H1
theorem sj (ha : PT X a tA) : PW X (.BoolOp .And [a] pos) tA := by
 intro wh pins s σ H Q I h
 refine isTrue_and (bK (ha pins s σ H Q I h) fun c s1 e => ?_)
 cases c with
 | true => exact isTrue_and_nil e
 | false => exact e
theorem qf (ha : PT X a tA) : PW X (.BoolOp .Or [a] pos) tA := by
 intro wh pins s σ H Q I h
 refine isTrue_or (bK (ha pins s σ H Q I h) fun c s1 e => ?_)
 cases c with
 | false => exact isTrue_or_nil e
 | true => exact e
theorem vU (ha : PT X a tA) (hb : PW X (.BoolOp .And (b :: rest) pos) KC) : PW X (.BoolOp .And (a :: b :: rest) pos) (Jo tA KC) := by
 intro wh pins s σ H Q I h
 refine isTrue_and (bK (ha pins s σ H _ I h) fun c s1 ⟨H1, I1, q1⟩ => ?_)
 cases c with
 | true => exact hb wh pins s1 σ H1 Q I1 q1
 | false => exact ⟨H1, I1, q1⟩
theorem qc (ha : PT X a tA) (hb : PW X (.BoolOp .Or (b :: rest) pos) KC) : PW X (.BoolOp .Or (a :: b :: rest) pos) (MO tA KC) := by
 intro wh pins s σ H Q I h
 refine isTrue_or (bK (ha pins s σ H _ I h) fun c s1 ⟨H1, I1, q1⟩ => ?_)
 cases c with
 | true => exact ⟨H1, I1, q1⟩
 | false => exact hb wh pins s1 σ H1 Q I1 q1
theorem n6 (ha : PT X a tA) : PT X (.UnaryOp .Not a pos) (IL tA) := by
 intro pins s σ H Q I h
 exact isTrue_not (ha pins s σ H (fun c H1 => Q (!c) H1) I h)
def D1 (ta tb : TE) : TE := fun σ H Q => ta σ H fun x H1 => ∃ c, x = .bl c /\ if c = true then tb σ H1 Q else Q (.bl false) H1
def HF (ta tb : TE) : TE := fun σ H Q => ta σ H fun x H1 => ∃ c, x = .bl c /\ if c = true then Q (.bl true) H1 else tb σ H1 Q
def ER (ta : TE) : TE := fun σ H Q => ta σ H fun x H1 => ∃ c, x = .bl c /\ Q (.bl (!c)) H1
theorem jZ {op} {t : TE} (h : PE X a t) : PE X (.BoolOp op [a] pos) t := fun pins s σ H Q I hw => BoolOp_one (h pins s σ H Q I hw)
theorem jJ (ha : PE X a ta) (hb : PE X (.BoolOp .And (b :: rest) pos) tb) : PE X (.BoolOp .And (a :: b :: rest) pos) (D1 ta tb) := by
 intro pins s σ H Q I h
 refine BoolOp_and (bK (ha pins s σ H _ I h) fun v s1 ⟨x, H1, I1, r1, q1⟩ => ?_)
 obtain ⟨c, rfl, q1⟩ := q1
 cases r1
 refine wpAny_truthy_bool ?_
 cases c with
 | true => exact hb pins s1 σ H1 Q I1 q1
 | false => exact ⟨.bl false, H1, I1, rfl, q1⟩
theorem HG (ha : PE X a ta) (hb : PE X (.BoolOp .Or (b :: rest) pos) tb) : PE X (.BoolOp .Or (a :: b :: rest) pos) (HF ta tb) := by
 intro pins s σ H Q I h
 refine BoolOp_or (bK (ha pins s σ H _ I h) fun v s1 ⟨x, H1, I1, r1, q1⟩ => ?_)
 obtain ⟨c, rfl, q1⟩ := q1
 cases r1
 refine wpAny_truthy_bool ?_
 cases c with
 | false => exact hb pins s1 σ H1 Q I1 q1
 | true => exact ⟨.bl true, H1, I1, rfl, q1⟩
theorem F5 (ha : PE X a ta) : PE X (.UnaryOp .Not a pos) (ER ta) := by
 intro pins s σ H Q I h
 refine UnaryOp_ (bK (ha pins s σ H _ I h) fun v s1 ⟨x, H1, I1, r1, q1⟩ => ?_)
 obtain ⟨c, rfl, q1⟩ := q1
 cases r1
 exact not_of (wpAny_truthy_bool ⟨.bl (!c), H1, I1, rfl, q1⟩)
def Np (t : TT) (ta tb : TE) : TE := fun σ H Q => t σ H fun c H1 => if c = true then ta σ H1 Q else tb σ H1 Q
theorem nB {c : Expr} (hc : PT X c tA) (ha : PE X a ta) (hb : PE X b tb) : PE X (.IfExp c a b pos) (Np tA ta tb) := by
 intro pins s σ H Q I h
 refine wpAny_IfExp (bK (hc pins s σ H _ I h) fun d s1 ⟨H1, I1, q1⟩ => ?_)
 cases d with
 | true => exact ha pins s1 σ H1 Q I1 q1
 | false => exact hb pins s1 σ H1 Q I1 q1
end
def fW (K : PySem.W.Frag) (H : Hp) (a : Addr) (xs : List V) : Prop :=
 Rd H a (.lst xs) \/
  ∃ (o : Obj) (aU : Array Value) (n : Nat), K.lookup a = some o /\ o.cls = .type "list" /\ o.dict = none /\ o.data = .seq aU n /\ aU.size <= sizeLine /\ Vals xs aU.toList
def x8 (K : PySem.W.Frag) (H : Hp) (a : Addr) (xs : List V) : Prop :=
 Rd H a (.tup xs) \/
  ∃ (o : Obj) (aU : Array Value) (n : Nat), K.lookup a = some o /\ o.cls = .type "tuple" /\ o.data = .seq aU n /\ aU.size <= sizeLine /\ Vals xs aU.toList
def Lb : Value -> Option V
 | .none => some .cj
 | .bool b => some (.bl b)
 | .int i _ => some (.int i)
 | .str x _ => some (.str x)
 | .bytes b _ => some (.w6 b)
 | .float b _ => some (.Ha b)
 | .ref a => some (.ref a)
 | .type n => some (.ty n)
 | _ => none
theorem RelV.abs {x : V} {u : Value} (r : RelV x u) : Lb u = some x := by
 cases x with
 | cj => cases r; rfl
 | bl _ => cases r; rfl
 | int _ => obtain ⟨t, rfl⟩ := r; rfl
 | str _ => obtain ⟨t, rfl⟩ := r; rfl
 | w6 _ => obtain ⟨t, rfl⟩ := r; rfl
 | Ha _ => obtain ⟨t, rfl⟩ := r; rfl
 | ref _ => cases r; rfl
 | ty _ => cases r; rfl
theorem RelV.inj {x y : V} {u : Value} (r : RelV x u) (q : RelV y u) : x = y := Option.some.inj (r.abs.symm.trans q.abs)
theorem Vals.inj : ∀ {xs ys : List V} {us : List Value}, Vals xs us -> Vals ys us -> xs = ys
 | _, _, _, .nil, .nil => rfl
 | _, _, _, .cons r t, .cons r' t' => by rw [r.inj r', Vals.inj t t']
section
variable {X : Cx} {pins : List (Addr × Obj)} {σ : St} {H : Hp} {s : Shared} {a : Addr} {xs ys : List V}
theorem fW.of {K : PySem.W.Frag} (h : H a = some (.lst xs)) : fW K H a xs := .inl (.inl h)
theorem x8.of {K : PySem.W.Frag} (h : H a = some (.tup xs)) : x8 K H a xs := .inl (.inl h)
theorem Inv.list (I : Inv X pins σ H s) (h : fW X.K H a xs) : ∃ aU : List Value, Vals xs aU /\ PlainL s.heap a aU.toArray /\ xs.length <= sizeLine := by
 rcases h with h | ⟨o, aU, n, hk, hc, hd, hs, hz, r⟩
 . obtain ⟨z, aU, n, r, e⟩ := h.ok I.a9
   exact ⟨aU, r, ⟨_, n, e, rfl, rfl, rfl⟩, z⟩
 . refine ⟨aU.toList, r, ⟨o, n, I.jf a o hk, hc, hd, by simpa using hs⟩, ?_⟩
   have e := r.length
   simp only [Array.length_toList] at e
   omega
theorem Inv.tuple (I : Inv X pins σ H s) (h : x8 X.K H a xs) : ∃ aU : List Value, Vals xs aU /\ IsTup s.heap a aU.toArray /\ xs.length <= sizeLine := by
 rcases h with h | ⟨o, aU, n, hk, hc, hs, hz, r⟩
 . obtain ⟨z, aU, r, p⟩ := h.ok I.a9
   exact ⟨aU, r, p, z⟩
 . refine ⟨aU.toList, r, ⟨o, I.jf a o hk, hc, n, by simpa using hs⟩, ?_⟩
   have e := r.length
   simp only [Array.length_toList] at e
   omega
theorem Inv.Bg (I : Inv X pins σ H s) (h : fW X.K H a xs) (h' : fW X.K H a ys) : xs = ys := by
 obtain ⟨aU, r, ⟨o, n, e, _, _, d⟩, _⟩ := I.list h
 obtain ⟨its', r', ⟨o', n', e', _, _, d'⟩, _⟩ := I.list h'
 rw [e] at e'; cases e'
 rw [d] at d'
 injection d' with d1 _
 have : aU = its' := by simpa using congrArg Array.toList d1
 subst this
 exact r.inj r'
end
abbrev Cx.rz (X : Cx) (E : Value -> Shared -> Prop) : Cx := { X with xe := E }
abbrev Cx.Kx (X : Cx) : Cx := X.rz fun _ _ => False
theorem Cx.Ok.rz {X : Cx} (ok : X.Ok) (E : Value -> Shared -> Prop) : (X.rz E).Ok :=
 ⟨ok.mod, ok.kind, ok.glob, ok.blt, ok.above, ok.inj, ok.has, ok.B3, ok.hd, ok.frames, ok.EE, ok.BE, ok.bs, ok.wZ, ok.tE, ok.rD, ok.ki, ok.zV⟩
theorem Cx.Ok.jG {X : Cx} {E : Value -> Shared -> Prop} (ok : (X.rz E).Ok) : X.Ok :=
 ⟨ok.mod, ok.kind, ok.glob, ok.blt, ok.above, ok.inj, ok.has, ok.B3, ok.hd, ok.frames, ok.EE, ok.BE, ok.bs, ok.wZ, ok.tE, ok.rD, ok.ki, ok.zV⟩
section
variable {X : Cx} {pins : List (Addr × Obj)} {σ : St} {H : Hp} {s : Shared} {E : Value -> Shared -> Prop}
theorem Inv.rz (I : Inv X pins σ H s) (E : Value -> Shared -> Prop) : Inv (X.rz E) pins σ H s := ⟨I.ok.rz E, I.os, I.bare, I.base, I.loc, I.cell, I.free, I.eh, I.pin, I.a9, I.len⟩
theorem Inv.jG (I : Inv (X.rz E) pins σ H s) : Inv X pins σ H s := ⟨I.ok.jG, I.os, I.bare, I.base, I.loc, I.cell, I.free, I.eh, I.pin, I.a9, I.len⟩
theorem SP.jG {D : Ends} {f : Flow} {s' : Shared} (h : SP (X.rz E) pins D f s') : SP X pins D f s' := by
 cases f with
 | next => obtain ⟨σ', H', I, q⟩ := h; exact ⟨σ', H', I.jG, q⟩
 | brk => obtain ⟨σ', H', I, q⟩ := h; exact ⟨σ', H', I.jG, q⟩
 | cont => obtain ⟨σ', H', I, q⟩ := h; exact ⟨σ', H', I.jG, q⟩
 | ret u => obtain ⟨v, σ', H', I, r, q⟩ := h; exact ⟨v, σ', H', I.jG, r, q⟩
theorem qM.Kx {st : List Stmt} {t : TS} (h : qM X.Kx st t) : qM X st t := fun pins s σ H D I hw =>
 wpAny_mono (h pins s σ H D (I.rz _) hw) (fun _ _ q => q.jG) fun _ _ z => False.elim z
end
section
variable {X : Cx} {st : Stmt} {rest : List Stmt} {t u : TS} {e : Expr} {te : TE} {pos : Pos}
def AX : TS := fun D σ H => D.nx σ H
theorem aI : qM X [] AX := fun _ _ σ H _ I h => wpAny_execs_nil ⟨σ, H, I, h⟩
theorem aj (h1 : PS X st t) : qM X [st] t := by
 intro pins s σ H D I h
 refine wpAny_execs_cons (bK (h1 pins s σ H D I h) fun f s1 q => ?_)
 cases f with
 | next => exact wpAny_execs_nil q
 | ret v => exact q
 | brk => exact q
 | cont => exact q
theorem Inv.quiet {pins : List (Addr × Obj)} {σ : St} {H : Hp} {s : Shared} (I : Inv X pins σ H s) : interactive X.env = false := by simp [interactive, I.ok.kind]
def Ej (te : TE) : TS := fun D σ H => te σ H fun _ H1 => D.nx σ H1
theorem bq (he : PE X e te) (hs : swapsWith e none pos.line X.env = pure false := by rfl) : PS X (.Expr e pos) (Ej te) := by
 intro pins s σ H D I h
 exact wpAny_Expr_any (bK (he pins s σ H _ I h) fun v s1 ⟨x, H1, I1, r1, q1⟩ => ⟨σ, H1, I1, q1⟩) I.quiet hs
def E5 (te : TE) : TS := fun D σ H => te σ H D.rt
theorem aE (he : PE X e te) : PS X (.Return (some e) pos) (E5 te) := by
 intro pins s σ H D I h
 exact wpAny_Return_some (bK (he pins s σ H _ I h) fun v s1 ⟨x, H1, I1, r1, q1⟩ => ⟨x, σ, H1, I1, r1, q1⟩)
def Gk (c : TT) (t u : TS) : TS := fun D σ H => c σ H fun b H1 => if b = true then t D σ H1 else u D σ H1
theorem bN {c : Expr} {a b : List Stmt} {tc : TT} (hc : PT X c tc) (ha : qM X a t) (hb : qM X b u) : PS X (.If c a b pos) (Gk tc t u) := by
 intro pins s σ H D I h
 refine wpAny_If (bK (hc pins s σ H _ I h) fun d s1 ⟨H1, I1, q1⟩ => ?_)
 cases d with
 | true => exact ha pins s1 σ H1 D I1 q1
 | false => exact hb pins s1 σ H1 D I1 q1
def Fh : TS := fun _ _ _ => False
theorem uv : PS X st Fh := fun _ _ _ _ _ _ h => h.elim
end
abbrev TG := V -> St -> Hp -> (St -> Hp -> Prop) -> Prop
abbrev F6 := List V -> St -> Hp -> (St -> Hp -> Prop) -> Prop
def PG (X : Cx) (target : Expr) (t : TG) : Prop :=
 ∀ (pins : List (Addr × Obj)) (s : Shared) (σ : St) (H : Hp) (v : V) (u : Value) (Q : St -> Hp -> Prop), Inv X pins σ H s -> RelV v u -> t v σ H Q ->
   wpAny (model X.prog X.w) X.A (assign target X.env u) (fun _ s' => ∃ σ' H', Inv X pins σ' H' s' /\ Q σ' H') X.xe s
def Kg (X : Cx) (ts : List Expr) (t : F6) : Prop :=
 ∀ (pins : List (Addr × Obj)) (s : Shared) (σ : St) (H : Hp) (vs : List V) (us : List Value) (Q : St -> Hp -> Prop), Inv X pins σ H s -> Vals vs us -> t vs σ H Q ->
   wpAny (model X.prog X.w) X.A (assignInOrder ((assignEach ts X.env).map (·.2)) us) (fun _ s' => ∃ σ' H', Inv X pins σ' H' s' /\ Q σ' H') X.xe s
abbrev BU := V -> V -> V -> Hp -> (Hp -> Prop) -> Prop
def JZ (X : Cx) (t : BU) : Prop :=
 ∀ (pins : List (Addr × Obj)) (s : Shared) (σ : St) (H : Hp) (o i v : V) (ov iv u : Value) (Q : Hp -> Prop), Inv X pins σ H s -> RelV o ov -> RelV i iv -> RelV v u -> t o i v H Q ->
   wpAny (model X.prog X.w) X.A (setItem ov iv u) (fun _ s' => ∃ H', Inv X pins σ H' s' /\ Q H') X.xe s
section
variable {X : Cx} {pos : Pos}
def ig (i : Nat) : TG := fun v σ H Q => Q (σ.set i (some v)) H
theorem gq {i : Nat} {x : Str} (hN : X.N.Nodup) (hi : X.N[i]? = some x) (hx : Loc X.env.scope x) (hf : X.fn x = true \/ X.env.scope.names.lookup x = some .local := by first | exact .inl rfl | exact .inr rfl | assumption) : PG X (.Name x pos) (ig i) := by
 intro pins s σ H v u Q I r h
 exact wpAny_assign_Name (qL I hN hi hx r (fun s' I' => ⟨_, H, I', h⟩) hf)
def DE : F6 := fun vs σ H Q => vs = [] /\ Q σ H
def qV (t : TG) (u : F6) : F6 := fun vs σ H Q => ∃ v r, vs = v :: r /\ t v σ H fun σ' H' => u r σ' H' Q
theorem Dd : Kg X [] DE := by
 intro pins s σ H vs us Q I r h
 obtain ⟨e, h⟩ := h
 subst e
 cases r
 exact assignInOrder_nil ⟨σ, H, I, h⟩
theorem ur {e : Expr} {es : List Expr} {t : TG} {u : F6} (h1 : PG X e t) (h2 : Kg X es u)
 (hs : (assignEach (e :: es) X.env).map (·.2) = assign e X.env :: (assignEach es X.env).map (·.2) := by rfl) : Kg X (e :: es) (qV t u) := by
 intro pins s σ H vs us Q I r h
 obtain ⟨v, vr, e1, h⟩ := h
 subst e1
 cases r with
 | cons r rr =>
   rw [hs]
   refine assignInOrder_cons (bK (h1 pins s σ H _ _ _ I r h) fun _ s1 ⟨σ1, H1, I1, q1⟩ => ?_)
   exact h2 pins s1 σ1 H1 _ _ Q I1 rr q1
def Dg (K : PySem.W.Frag) (n : Nat) (t : F6) : TG := fun v σ H Q => ∃ a xs, v = .ref a /\ x8 K H a xs /\ xs.length = n /\ t xs σ H Q
theorem Ga {es : List Expr} {k : Nat} {t : F6} {n : Nat} (hc : X.calm = true) (h : Kg X es t)
 (hn : (assignEach es X.env).length = n := by rfl) (tR : (assignEach es X.env).findIdx? (·.1) = none := by rfl) : PG X (.Tuple es k pos) (Dg X.K n t) := by
 intro pins s σ H v u Q I r hw
 obtain ⟨a, xs, e1, hq, hl, hw⟩ := hw
 subst e1
 cases r
 obtain ⟨aU, rv, ht, hz⟩ := I.tuple hq
 refine assign_Tuple_tuple (I.ok.hd hc) ht (by simp [hn, <- hl, rv.length]) tR fun h' hx => ?_
 have I1 : Inv X pins σ H { s with heap := h' } := I.kept (t' := s.toks) fun b o e => hx b o (Nat.ne_of_lt (Heap.lt_size e)) e
 exact h pins _ σ H xs _ Q I1 (by simpa using rv) hw
def HN (to ti : TE) (t : BU) : TG := fun v σ H Q => to σ H fun o H1 => ti σ H1 fun i H2 => t o i v H2 fun H3 => Q σ H3
theorem Gn {o i : Expr} {to ti : TE} {t : BU} (ho : PE X o to) (hi : PE X i ti) (hs : JZ X t)
 (ha : ∀ v, assign (.Subscript o i pos) X.env v = (do
  let ov <- holding [v] (eval o X.env)
  let iv <- holding [v, ov] (eval i X.env)
  standAt pos
  holding [v, ov, iv] (setItem ov iv v)
  release [v, ov, iv] []) := by intro _; rfl) : PG X (.Subscript o i pos) (HN to ti t) := by
 intro pins s σ H v u Q I r h
 rw [ha]
 refine wpAny_bind (wpAny_holding (bK (ho pins s σ H _ I h) fun ov s1 ⟨x, H1, I1, r1, q1⟩ => ?_))
 refine wpAny_bind (wpAny_holding (bK (hi pins s1 σ H1 _ I1 q1) fun iv s2 ⟨y, H2, I2, r2, q2⟩ => ?_))
 refine wpAny_bind (wpAny_standAt (wpAny_bind (wpAny_holding (bK (hs pins s2 σ H2 x y v ov iv u _ I2 r1 r2 r q2) fun _ s3 ⟨H3, I3, q3⟩ => ?_))))
 exact wpAny_release ⟨σ, H3, I3, q3⟩
def vm (te : TE) (g : TG) : TS := fun D σ H => te σ H fun x H1 => g x σ H1 D.nx
theorem zm {tg e : Expr} {te : TE} {g : TG} (he : PE X e te) (hg : PG X tg g) (hs : swapsWithSole [tg] e pos.line X.env = pure false := by rfl) (hw : swappedStores [tg] e X.env = pure none := by rfl)
 (h1 : (assignEach [tg] X.env).map (·.2) = [assign tg X.env] := by rfl) : PS X (.Assign [tg] e pos) (vm te g) := by
 intro pins s σ H D I h
 refine wpAny_Assign_stores (bK (he pins s σ H _ I h) fun v s1 ⟨x, H1, I1, r1, q1⟩ => ?_) hs hw
 rw [h1]
 exact bK (hg pins s1 σ H1 x v _ I1 r1 q1) fun _ s2 q => q
theorem cT {i : Nat} {x : Str} {e : Expr} {te : TE} {pos' : Pos} (hN : X.N.Nodup) (hi : X.N[i]? = some x) (hx : Loc X.env.scope x) (he : PE X e te) (hs : swapsWith e (some (.Name x pos')) pos.line X.env = pure false := by rfl) (hf : X.fn x = true \/ X.env.scope.names.lookup x = some .local := by first | exact .inl rfl | exact .inr rfl | assumption) :
 PS X (.Assign [.Name x pos'] e pos) (vm te (ig i)) := by
 intro pins s σ H D I h
 refine wpAny_Assign_Name (bK (he pins s σ H _ I h) fun v s1 ⟨y, H1, I1, r1, q1⟩ => ?_) hs
 exact qL I1 hN hi hx r1 (fun s2 I2 => ⟨_, H1, I2, q1⟩) hf
end
section
variable {X : Cx} {pos : Pos}
def z6 (c : TT) (tb : TS) : TS := fun D σ H => ∃ W : Nat -> St -> Hp -> Prop, (∃ m, W m σ H) /\ ∀ m σ H, W m σ H ->
 c σ H fun b H1 => if b = true then ∃ N : St -> Hp -> Prop, (∀ σ' H', N σ' H' -> ∃ m', m' < m /\ W m' σ' H') /\ tb { D with nx := N, ct := N, bk := D.nx } σ H1 else D.nx σ H1
theorem Bb {c : Expr} {body : List Stmt} {tc : TT} {tb : TS} (hp : PassesOwn (model X.prog X.w) X.A X.env X.xe) (hc : PT X c tc) (hb : qM X body tb) : PS X (.While c body [] pos) (z6 tc tb) := by
 intro pins s σ H D I h
 obtain ⟨W, ⟨m0, w0⟩, turn⟩ := h
 refine wpAny_While (codeAny_whileLoop (fun n s' => ∃ σ' H', Inv X pins σ' H' s' /\ W n σ' H') ?_ m0 ⟨σ, H, I, w0⟩)
 rintro n s1 ⟨σ1, H1, I1, w1⟩
 refine wpAny_passesOwn hp (bK (hc pins s1 σ1 H1 _ I1 (turn n σ1 H1 w1)) fun b s2 ⟨H2, I2, q2⟩ => ?_)
 cases b with
 | true =>
   obtain ⟨N, hN, q2⟩ := q2
   rw [if_pos rfl]
   refine wpAny_passesOwn hp (bK (hb pins s2 σ1 H2 _ I2 q2) fun f s3 q3 => ?_)
   cases f with
   | next =>
     obtain ⟨σ3, H3, I3, n3⟩ := q3
     obtain ⟨m', hm, w3⟩ := hN σ3 H3 n3
     exact ⟨m', hm, σ3, H3, I3, w3⟩
   | cont =>
     obtain ⟨σ3, H3, I3, n3⟩ := q3
     obtain ⟨m', hm, w3⟩ := hN σ3 H3 n3
     exact ⟨m', hm, σ3, H3, I3, w3⟩
   | brk => exact q3
   | ret v => exact q3
 | false =>
   rw [if_neg Bool.false_ne_true]
   exact wpAny_execs_nil ⟨σ1, H2, I2, q2⟩
end
structure It where
 go : Nat -> Hp -> Prop
 Kw : Nat -> Hp -> V -> Hp -> Prop
 stop : Nat -> Hp -> Prop
def kj (X : Cx) (pins : List (Addr × Obj)) (H : Hp) (b : Addr) : Prop :=
 H b = none /\ b ≠ X.env.locals /\ b ∉ X.fs /\ (b ∈ X.ex \/ X.cJ.heap.objs.size <= b) /\ (∀ x c, X.env.cells.lookup x = some c -> c ≠ b) /\ ∀ p ∈ X.pn ++ pins, p.1 ≠ b
theorem Inv.B1 {X : Cx} {pins : List (Addr × Obj)} {σ : St} {H H' : Hp} {s : Shared} {b : Addr} (I : Inv X pins σ H s) (hb : s.heap.objs.size <= b) (hn : H' b = none) : kj X pins H' b := by
 refine ⟨hn, Nat.ne_of_gt (Nat.lt_of_lt_of_le I.lt hb), I.LA hb, .inr (Nat.le_trans I.sz hb), fun x c e z => ?_, fun p hp z => ?_⟩
 . obtain ⟨v, q⟩ := I.cell x c e
   exact absurd (Nat.lt_of_lt_of_le q.lt (by rw [z]; exact hb)) (Nat.lt_irrefl _)
 . exact absurd (Nat.lt_of_lt_of_le (Heap.lt_size (I.pin p hp).1) (by rw [z]; exact hb)) (Nat.lt_irrefl _)
structure Turn (P : Program) (w : World) (K : PySem.W.Frag) (tg : Expr) (J : It) (fp : List Addr) (it : Addr) (tn : Nat -> Heap -> Prop) : Prop where
 mem : it ∈ fp
 obj : ∀ i h, tn i h -> ∀ b ∈ fp, ∃ o, h.get? b = some o /\ ∀ v, o.data ≠ .cell v
 keep : ∀ i h h', tn i h -> (∀ b ∈ fp, ∀ o, h.get? b = some o -> h'.get? b = some o) -> tn i h'
 item : ∀ (X : Cx), X.prog = P -> X.w = w -> X.K = K -> X.calm = true -> ∀ (i : Nat) (pins : List (Addr × Obj)) (s : Shared) (σ : St) (H : Hp) (E : Value -> Shared -> Prop), Inv X pins σ H s -> (∀ b ∈ fp, kj X pins H b) -> tn i s.heap -> J.go i H ->
  wpAny (model P w) X.A (pyNext (.ref it)) (fun r s1 => ∃ u, r = some u /\
   wpAny (model P w) X.A (letOwnedTupleGo tg (.ref it) u) (fun _ s2 => ∃ x H', Inv X pins σ H' s2 /\ RelV x u /\ J.Kw i H x H' /\ tn (i + 1) s2.heap /\ ∀ b ∈ fp, H' b = none) E s1) E s
 done : ∀ (X : Cx), X.prog = P -> X.w = w -> X.K = K -> X.calm = true -> ∀ (i : Nat) (pins : List (Addr × Obj)) (s : Shared) (σ : St) (H : Hp) (E : Value -> Shared -> Prop), Inv X pins σ H s -> (∀ b ∈ fp, kj X pins H b) -> tn i s.heap -> J.stop i H ->
  wpAny (model P w) X.A (pyNext (.ref it)) (fun r s1 => r = none /\ Inv X pins σ H s1) E s
 self : ∀ (A : Around) (i : Nat) (s : Shared) (Q : Value -> Shared -> Prop) (E : Value -> Shared -> Prop), tn i s.heap -> Q (.ref it) s -> wpAny (model P w) A (pyIter (.ref it)) Q E s
abbrev TI := St -> Hp -> (It -> Hp -> Prop) -> Prop
def O2 (X : Cx) (pins : List (Addr × Obj)) (σ : St) (tg : Expr) (R : It -> Hp -> Prop) (IG : Value) (s2 : Shared) : Prop :=
 ∃ (it : Addr) (fp : List Addr) (tn : Nat -> Heap -> Prop) (J : It) (H' : Hp), IG = .ref it /\ Inv X pins σ H' s2 /\ Turn X.prog X.w X.K tg J fp it tn /\ tn 0 s2.heap /\ (∀ b ∈ fp, kj X pins H' b) /\ R J H'
def PI (X : Cx) (tg iter : Expr) (wi : TI) : Prop :=
 ∀ (pins : List (Addr × Obj)) (s : Shared) (σ : St) (H : Hp) (R : It -> Hp -> Prop), Inv X pins σ H s -> wi σ H R ->
   wpAny (model X.prog X.w) X.A (eval iter X.env) (fun v s1 => wpAny (model X.prog X.w) X.A (pyIter v) (O2 X pins σ tg R) X.xe s1) X.xe s
theorem EK {M : Model} {A : Around} {E : Value -> Shared -> Prop} {s : Shared} {tg : Expr} {it : Addr} {u : Value} {o : Obj} {n : String} {vs : Array Value} {Q : Unit -> Shared -> Prop} (ho : s.heap.get? it = some o) (hc : o.cls = .type n) (hd : o.data = .fields vs)
 (hn : ["enumerate", "zip", "dict_itemiterator", "dict_reverseitemiterator", "odict_iterator", "itertools.zip_longest", "itertools.pairwise"].contains n = false) (hQ : Q () s) : wpAny M A (letOwnedTupleGo tg (.ref it) u) Q E s := by
 unfold letOwnedTupleGo
 cases tg <;> first
  | exact wpAny_pure hQ
  | (cases u <;> first
   | exact wpAny_pure hQ
   | (refine wpAny_bind (wpAny_load ho ?_)
      rw [hc, hd]
      show wpAny M A (if (["enumerate", "zip", "dict_itemiterator", "dict_reverseitemiterator", "odict_iterator", "itertools.zip_longest", "itertools.pairwise"].contains n && vs[0]? == some (rawInt _)) = true then _ else _) Q E s
      rw [if_neg (by intro h; rw [hn, Bool.false_and] at h; cases h)]
      exact wpAny_pure hQ))
def Jy (K : PySem.W.Frag) (a : Addr) : It :=
 ⟨fun i H => ∃ xs x, fW K H a xs /\ xs[i]? = some x, fun i H x H' => H' = H /\ ∀ xs, fW K H a xs -> xs[i]? = some x, fun i H => ∃ xs, fW K H a xs /\ xs.length <= i⟩
theorem yR {P : Program} {w : World} {K : PySem.W.Frag} {tg : Expr} (a it : Addr) : Turn P w K tg (Jy K a) [it] it (fun i h => h.IsListIter it a i) where
 mem := by simp
 obj := fun i h st b hb => by
  have e : b = it := by simpa using hb
  subst e
  obtain ⟨o, e, c, d⟩ := st
  exact ⟨o, e, fun v z => by rw [d] at z; cases z⟩
 keep := fun i h h' st k => st.at fun o e => k it (by simp) o e
 item := by
  intro X hP hw hK hc i pins s σ H E I hf st hg
  subst hP hw hK
  obtain ⟨xs, x, hq, hx⟩ := hg
  obtain ⟨aU, rv, p, hz⟩ := I.list hq
  obtain ⟨u, hu, ru⟩ := rv.get hx
  obtain ⟨f0, f1, f2, f3, f4, f5⟩ := hf it (by simp)
  refine wpAny_pyNext_list_item st p.isList (x := u) (by simpa using hu) fun h' IE sb => ?_
  have I1 : Inv X pins σ H { s with heap := h' } := I.turned (t' := s.toks) (fun b o hb e => (sb.2 b hb).trans e) f0 f1 f3 f4 f5
  obtain ⟨o, e, c, d⟩ := id IE
  exact ⟨u, rfl, EK (s := { s with heap := h' }) e c d (by decide) ⟨x, H, I1, ru, ⟨rfl, fun ys hy => by rw [I.Bg hy hq]; exact hx⟩, IE, fun b hb => (hf b hb).1⟩⟩
 done := by
  intro X hP hw hK hc i pins s σ H E I hf st hg
  subst hP hw hK
  obtain ⟨xs, hq, hx⟩ := hg
  obtain ⟨aU, rv, p, hz⟩ := I.list hq
  obtain ⟨f0, f1, f2, f3, f4, f5⟩ := hf it (by simp)
  have hl := rv.length
  exact wpAny_pyNext_list_end (I.ok.hd hc) st p.isList (by simp; omega) fun h' eb => ⟨rfl, I.turned (t' := s.toks) (fun b o hb e => eb b o hb e) f0 f1 f3 f4 f5⟩
 self := fun _ _ _ _ _ st h => wpAny_pyIter_listiter st h
section
variable {X : Cx} {tg : Expr}
def D3 (K : PySem.W.Frag) (tl : TE) : TI := fun σ H R => tl σ H fun x H1 => ∃ a, x = .ref a /\ (∃ xs, fW K H1 a xs) /\ R (Jy K a) H1
theorem pP {l : Expr} {tl : TE} (hl : PE X l tl) : PI X tg l (D3 X.K tl) := by
 intro pins s σ H R I h
 refine bK (hl pins s σ H _ I h) fun v s1 ⟨x, H1, I1, r1, q1⟩ => ?_
 obtain ⟨a, e, ⟨xs, hq⟩, q⟩ := q1
 subst e
 cases r1
 obtain ⟨aU, rv, p, hz⟩ := I1.list hq
 refine wpAny_pyIter_list p.isList ?_
 refine ⟨s1.heap.objs.size, [s1.heap.objs.size], _, _, H1, rfl, I1.kept (t' := s1.toks) fun b o e => Heap.get?_push_of_some _ e, yR a _, ⟨_, Heap.get?_push_size _ rfl, rfl, rfl⟩, fun b hb => ?_, q⟩
 have e : b = s1.heap.objs.size := by simpa using hb
 subst e
 exact I1.B1 (Nat.le_refl _) (I1.a9.fresh (Nat.le_refl _))
def JE (wi : TI) (g : TG) (tb : TS) : TS := fun D σ H => wi σ H fun J H1 => ∃ W : Nat -> Nat -> St -> Hp -> Prop, (∃ m, W 0 m σ H1) /\ ∀ i m σ H, W i m σ H ->
 (J.stop i H /\ D.nx σ H) \/ (J.go i H /\ ∃ N : St -> Hp -> Prop, (∀ σ' H', N σ' H' -> ∃ m', m' < m /\ W (i + 1) m' σ' H') /\ ∀ x H', J.Kw i H x H' -> g x σ H' fun σ2 H2 => tb { D with nx := N, ct := N, bk := D.nx } σ2 H2)
def lH (fp : List Addr) (h : Heap) : List (Addr × Obj) := fp.filterMap fun b => (h.get? b).map fun o => (b, o)
theorem dI {fp : List Addr} {h : Heap} {b : Addr} {o : Obj} (hb : b ∈ fp) (e : h.get? b = some o) : (b, o) ∈ lH fp h := List.mem_filterMap.mpr ⟨b, hb, by rw [e]; rfl⟩
theorem yu {fp : List Addr} {h : Heap} {p : Addr × Obj} (hp : p ∈ lH fp h) : p.1 ∈ fp /\ h.get? p.1 = some p.2 := by
 obtain ⟨b, hb, e⟩ := List.mem_filterMap.mp hp
 cases q : h.get? b with
 | none => rw [q] at e; cases e
 | some o =>
   rw [q] at e
   have e' : (b, o) = p := Option.some.inj e
   subst e'
   exact ⟨hb, q⟩
theorem Inv.pinned {pins : List (Addr × Obj)} {σ : St} {H : Hp} {s : Shared} {fp : List Addr} (I : Inv X pins σ H s) (hf : ∀ b ∈ fp, kj X pins H b) (ho : ∀ b ∈ fp, ∃ o, s.heap.get? b = some o /\ ∀ v, o.data ≠ .cell v) : Inv X (pins ++ lH fp s.heap) σ H s :=
 I.gB fun p hp => (List.mem_append.mp hp).elim (fun z => I.pin p (List.mem_append_right _ z)) fun z => by
  obtain ⟨hb, e⟩ := yu z
  obtain ⟨f0, f1, f2, _⟩ := hf p.1 hb
  obtain ⟨o, e', d⟩ := ho p.1 hb
  rw [e] at e'; cases e'
  exact ⟨e, f0, f1, f2, d⟩
theorem Inv.qE {pins pl : List (Addr × Obj)} {σ : St} {H : Hp} {s : Shared} (I : Inv X (pins ++ pl) σ H s) : Inv X pins σ H s := I.gB fun p hp => I.pin p (List.mem_append_right _ (List.mem_append_left _ hp))
theorem EY {iter : Expr} {body : List Stmt} {wi : TI} {g : TG} {tb : TS} {pos : Pos} (hp : PassesOwn (model X.prog X.w) X.A X.env X.xe) (hc : X.calm = true) (hi : PI X tg iter wi) (hg : PG X tg g) (hb : qM X body tb)
 (hs : ∀ x, foldedSetIterable iter X.env x = pure x := by intro _; rfl) : PS X (.For tg iter body [] pos) (JE wi g tb) := by
 intro pins s σ H D I h
 refine wpAny_For (bK (hi pins s σ H _ I h) fun v s1 h1 => bK h1 fun IG s2 h2 => ?_) hs
 obtain ⟨it, fp, tn, J, H2, e, I2, T, NQ, f2, W, ⟨m0, w0⟩, turn⟩ := h2
 subst e
 have stat : ∀ {H' : Hp}, (∀ b ∈ fp, H' b = none) -> ∀ b ∈ fp, kj X pins H' b := fun hn b hb => ⟨hn b hb, (f2 b hb).2⟩
 refine codeAny_forLoop_any (fun n s' => ∃ i σ' H', Inv X pins σ' H' s' /\ tn i s'.heap /\ (∀ b ∈ fp, H' b = none) /\ W i n σ' H') ?_ m0 ⟨0, σ, H2, I2, NQ, fun b hb => (f2 b hb).1, w0⟩
 rintro n s3 ⟨i, σ3, H3, I3, Eu, Ec, w3⟩
 rcases turn i n σ3 H3 w3 with ⟨stop, qn⟩ | ⟨go, N, hN, step⟩
 . refine wpAny_passesOwn hp (bK (T.done X rfl rfl rfl hc i pins s3 σ3 H3 X.xe I3 (stat Ec) Eu stop) fun r s4 ⟨hr, I4⟩ => ?_)
   subst hr
   exact wpAny_execs_nil ⟨σ3, H3, I4, qn⟩
 . refine wpAny_passesOwn hp (bK (T.item X rfl rfl rfl hc i pins s3 σ3 H3 X.xe I3 (stat Ec) Eu go) fun r s4 ⟨u, hr, h4⟩ => ?_)
   subst hr
   refine wpAny_passesOwn hp (bK h4 fun _ s5 ⟨x, H5, I5, r5, y5, zf, HJ⟩ => ?_)
   have HK := I5.pinned (stat HJ) (T.obj _ _ zf)
   refine wpAny_passesOwn hp (bK (hg _ s5 σ3 H5 x u _ HK r5 (step x H5 y5)) fun _ s6 ⟨σ6, H6, I6, q6⟩ => ?_)
   refine wpAny_passesOwn hp (bK (hb _ s6 σ6 H6 _ I6 q6) fun f s7 q7 => ?_)
   have again : ∀ {σ7 : St} {H7 : Hp}, Inv X (pins ++ lH fp s5.heap) σ7 H7 s7 -> N σ7 H7 -> ∃ m, m < n /\ ∃ i σ' H', Inv X pins σ' H' s7 /\ tn i s7.heap /\ (∀ b ∈ fp, H' b = none) /\ W i m σ' H' := fun {σ7 H7} I7 n7 => by
    obtain ⟨m', hm, w7⟩ := hN σ7 H7 n7
    refine ⟨m', hm, i + 1, σ7, H7, I7.qE, T.keep _ _ _ zf fun b hb o e => (I7.pin (b, o) (List.mem_append_right _ (List.mem_append_right _ (dI hb e)))).1, fun b hb => ?_, w7⟩
    obtain ⟨o, e, d⟩ := T.obj _ _ zf b hb
    exact (I7.pin (b, o) (List.mem_append_right _ (List.mem_append_right _ (dI hb e)))).2.1
   cases f with
   | next => obtain ⟨σ7, H7, I7, n7⟩ := q7; exact again I7 n7
   | cont => obtain ⟨σ7, H7, I7, n7⟩ := q7; exact again I7 n7
   | brk => obtain ⟨σ7, H7, I7, q7⟩ := q7; exact ⟨σ7, H7, I7.qE, q7⟩
   | ret v => obtain ⟨x7, σ7, H7, I7, r7, q7⟩ := q7; exact ⟨x7, σ7, H7, I7.qE, r7, q7⟩
end
abbrev R2 := V -> V -> Hp -> VK -> Prop
def jn (X : Cx) (f : Value -> Value -> Sem Value) (r : R2) : Prop :=
 ∀ (pins : List (Addr × Obj)) (s : Shared) (σ : St) (H : Hp) (x y : V) (v u : Value) (Q : VK), Inv X pins σ H s -> RelV x v -> RelV y u -> r x y H Q ->
   wpAny (model X.prog X.w) X.A (f v u) (EP X pins σ Q) X.xe s
def Kq (X : Cx) (f : Value -> Sem Value) (r : V -> Hp -> VK -> Prop) : Prop :=
 ∀ (pins : List (Addr × Obj)) (s : Shared) (σ : St) (H : Hp) (x : V) (v : Value) (Q : VK), Inv X pins σ H s -> RelV x v -> r x H Q ->
   wpAny (model X.prog X.w) X.A (f v) (EP X pins σ Q) X.xe s
def fH (X : Cx) (f : Value) (r : List V -> Hp -> VK -> Prop) : Prop :=
 ∀ (pins : List (Addr × Obj)) (s : Shared) (σ : St) (H : Hp) (xs : List V) (us : List Value) (Q : VK), Inv X pins σ H s -> Vals xs us -> r xs H Q ->
   wpAny (model X.prog X.w) X.A (call f us) (EP X pins σ Q) X.xe s
def Le (X : Cx) (r : V -> Hp -> (Bool -> Hp -> Prop) -> Prop) : Prop :=
 ∀ (pins : List (Addr × Obj)) (s : Shared) (σ : St) (H : Hp) (x : V) (v : Value) (Q : Bool -> Hp -> Prop), Inv X pins σ H s -> RelV x v -> r x H Q ->
   wpAny (model X.prog X.w) X.A (truthy v) (TP X pins σ Q) X.xe s
def El (r : R2) (ta tb : TE) : TE := fun σ H Q => ta σ H fun x H1 => tb σ H1 fun y H2 => r x y H2 Q
def Mf (r : V -> Hp -> VK -> Prop) (ta : TE) : TE := fun σ H Q => ta σ H fun x H1 => r x H1 Q
def rI (C : Int -> Int -> Prop) (g : Int -> Int -> V) : R2 := fun x y H Q => ∃ i j, x = .int i /\ y = .int j /\ C i j /\ Q (g i j) H
def Cm (g : Int -> Int -> V) : R2 := fun x y H Q => ∃ i j, x = .int i /\ y = .int j /\ Q (g i j) H
def rU (g : Int -> V) : V -> Hp -> VK -> Prop := fun x H Q => ∃ i, x = .int i /\ Q (g i) H
section
variable {X : Cx} {a b c : Expr} {ta tb tc : TE} {pos : Pos}
theorem Fc (ha : PE X a ta) (hb : PE X b tb) {pins : List (Addr × Obj)} {s : Shared} {σ : St} {H : Hp} {R : V -> V -> Hp -> Prop} (I : Inv X pins σ H s)
 (h : ta σ H fun x H1 => tb σ H1 fun y H2 => R x y H2) {Q : Value -> Shared -> Prop} {f : Value -> Value -> Sem Value}
 (hf : ∀ v u s2 x y H2, Inv X pins σ H2 s2 -> RelV x v -> RelV y u -> R x y H2 -> wpAny (model X.prog X.w) X.A (f v u) Q X.xe s2) :
 wpAny (model X.prog X.w) X.A (eval a X.env) (fun v s₁ => wpAny (model X.prog X.w) X.A (eval b X.env) (fun u s₂ => wpAny (model X.prog X.w) X.A (f v u) Q X.xe s₂) X.xe s₁) X.xe s := by
 refine bK (ha pins s σ H _ I h) fun v s1 ⟨x, H1, I1, r1, q1⟩ => ?_
 refine bK (hb pins s1 σ H1 _ I1 q1) fun u s2 ⟨y, H2, I2, r2, q2⟩ => ?_
 exact hf v u s2 x y H2 I2 r1 r2 q2
theorem cb {op : Operator} {r : R2} (ho : jn X (binaryOp op) r) (ha : PE X a ta) (hb : PE X b tb) : PE X (.BinOp a op b pos) (El r ta tb) := by
 intro pins s σ H Q I h
 exact wpAny_BinOp (Fc ha hb I h fun v u s2 x y H2 I2 rx ry q => ho pins s2 σ H2 x y v u Q I2 rx ry q)
theorem rY {op : UnaryOp} {r : V -> Hp -> VK -> Prop} (ho : Kq X (unaryOp op) r) (ha : PE X a ta) : PE X (.UnaryOp op a pos) (Mf r ta) := by
 intro pins s σ H Q I h
 exact UnaryOp_ (bK (ha pins s σ H _ I h) fun v s1 ⟨x, H1, I1, r1, q1⟩ => ho pins s1 σ H1 x v Q I1 r1 q1)
theorem Mw {f : Value -> Value -> Sem Value} {C : Int -> Int -> Prop} {g : Int -> Int -> Int}
 (rule : ∀ (i j : Int) (t u : Tok) (s : Shared) (Q : Value -> Shared -> Prop) (E : Value -> Shared -> Prop), C i j -> Q (.int (g i j) s.toks) { s with toks := s.toks + 1 } -> wpAny (model X.prog X.w) X.A (f (.int i t) (.int j u)) Q E s) :
 jn X f (rI C fun i j => .int (g i j)) := by
 intro pins s σ H x y v u Q I rx ry h
 obtain ⟨i, j, rfl, rfl, hc, q⟩ := h
 obtain ⟨t, rfl⟩ := rx
 obtain ⟨t', rfl⟩ := ry
 exact rule i j t t' s _ _ hc ⟨.int (g i j), H, I.tok _, ⟨_, rfl⟩, q⟩
theorem HE {f : Value -> Value -> Sem Value} {g : Int -> Int -> Int}
 (rule : ∀ (i j : Int) (t u : Tok) (s : Shared) (Q : Value -> Shared -> Prop) (E : Value -> Shared -> Prop), Q (.int (g i j) s.toks) { s with toks := s.toks + 1 } -> wpAny (model X.prog X.w) X.A (f (.int i t) (.int j u)) Q E s) :
 jn X f (Cm fun i j => .int (g i j)) := by
 intro pins s σ H x y v u Q I rx ry h
 obtain ⟨i, j, rfl, rfl, q⟩ := h
 obtain ⟨t, rfl⟩ := rx
 obtain ⟨t', rfl⟩ := ry
 exact rule i j t t' s _ _ ⟨.int (g i j), H, I.tok _, ⟨_, rfl⟩, q⟩
theorem CL {f : Value -> Value -> Sem Value} {g : Int -> Int -> Bool}
 (rule : ∀ (i j : Int) (t u : Tok) (s : Shared) (Q : Value -> Shared -> Prop) (E : Value -> Shared -> Prop), Q (.bool (g i j)) s -> wpAny (model X.prog X.w) X.A (f (.int i t) (.int j u)) Q E s) :
 jn X f (Cm fun i j => .bl (g i j)) := by
 intro pins s σ H x y v u Q I rx ry h
 obtain ⟨i, j, rfl, rfl, q⟩ := h
 obtain ⟨t, rfl⟩ := rx
 obtain ⟨t', rfl⟩ := ry
 exact rule i j t t' s _ _ ⟨.bl (g i j), H, I, rfl, q⟩
def GF (i j : Int) : Prop := 0 <= j /\ j <= 1000000 /\ i.natAbs < 2 ^ 64
theorem lG : jn X (binaryOp .Add) (Cm fun i j => .int (i + j)) := HE fun _ _ _ _ _ _ _ q => add_int q
theorem Bh : jn X (binaryOp .Sub) (Cm fun i j => .int (i - j)) := HE fun _ _ _ _ _ _ _ q => sub_int q
theorem Fj : jn X (binaryOp .Mod) (rI (fun _ j => 0 < j) fun i j => .int (i % j)) := Mw fun i j _ _ _ _ _ hc q => by
 have h1 : (0 : Int) < j := hc
 exact mod_int' (by omega) (by rw [Int.fmod_eq_emod_of_nonneg i (by omega)]; exact q)
theorem zM : jn X (binaryOp .Pow) (rI GF fun i j => .int (i ^ j.toNat)) := Mw fun _ _ _ _ _ _ _ hc q => pow_int_small hc.1 hc.2.1 hc.2.2 q
theorem Ov {f : Value -> Sem Value} {g : Int -> Int}
 (rule : ∀ (i : Int) (t : Tok) (s : Shared) (Q : Value -> Shared -> Prop) (E : Value -> Shared -> Prop), Q (.int (g i) s.toks) { s with toks := s.toks + 1 } -> wpAny (model X.prog X.w) X.A (f (.int i t)) Q E s) :
 Kq X f (rU fun i => .int (g i)) := by
 intro pins s σ H x v Q I rx h
 obtain ⟨i, rfl, q⟩ := h
 obtain ⟨t, rfl⟩ := rx
 exact rule i t s _ _ ⟨.int (g i), H, I.tok _, ⟨_, rfl⟩, q⟩
theorem lR : Kq X (unaryOp .USub) (rU fun i => .int (-i)) := Ov fun _ _ _ _ _ q => neg_int q
end
def Di : V -> V -> Bool
 | .cj, .cj => true | .cj, .int _ => true | .int _, .cj => true | .cj, .bl _ => true | .bl _, .cj => true | .cj, .str _ => true | .str _, .cj => true
 | .int _, .int _ => true | .bl _, .bl _ => true | .str _, .str _ => true | .w6 _, .w6 _ => true
 | .int _, .str _ => true | .str _, .int _ => true | .bl _, .str _ => true | .str _, .bl _ => true
 | _, _ => false
def Oj : R2 := fun x y H Q => Di x y = true /\ Q (.bl (decide (x = y))) H
def Oi : R2 := fun x y H Q => Di x y = true /\ Q (.bl (!decide (x = y))) H
theorem wQ {i j : Int} : decide (V.int i = V.int j) = (i == j) := by
 rw [Bool.eq_iff_iff]
 simp
theorem zN {i j : Bool} : decide (V.bl i = V.bl j) = (i == j) := by
 rw [Bool.eq_iff_iff]
 simp
theorem xM {i j : Str} : decide (V.str i = V.str j) = (i == j) := by
 rw [Bool.eq_iff_iff]
 simp
theorem wO {i j : Array UInt8} : decide (V.w6 i = V.w6 j) = (i.toList == j.toList) := by
 rw [Bool.eq_iff_iff]
 cases i
 cases j
 simp
section
variable {X : Cx} {a b c : Expr} {ta tb tc : TE} {pos : Pos}
theorem aM {pins : List (Addr × Obj)} {σ : St} {H : Hp} {s : Shared} {Q : VK} {k k' : Bool} (I : Inv X pins σ H s) (q : Q (.bl k) H) (e : k = k') : EP X pins σ Q (.bool k') s := by
 subst e
 exact ⟨.bl k, H, I, rfl, q⟩
theorem Ik : jn X (compareOp .Eq) Oj := by
 intro pins s σ H x y v u Q I rx ry h
 obtain ⟨hs, q⟩ := h
 cases x with
 | cj =>
   cases rx
   cases y with
   | cj => cases ry; exact PySem.EqNone.eq_none_none (aM I q (by simp))
   | bl j => cases ry; exact PySem.EqNone.eq_none_bool (aM I q (by simp))
   | int j => obtain ⟨t', rfl⟩ := ry; exact PySem.EqNone.eq_none_int (aM I q (by simp))
   | str j => obtain ⟨t', rfl⟩ := ry; exact PySem.EqNone.eq_none_str (aM I q (by simp))
   | _ => exact absurd (show false = true from hs) Bool.false_ne_true
 | bl i =>
   cases rx
   cases y with
   | cj => cases ry; exact PySem.EqNone.eq_bool_none (aM I q (by simp))
   | bl j => cases ry; exact eq_bool (aM I q zN)
   | str j => obtain ⟨t', rfl⟩ := ry; exact PySem.EqMixed.eq_bool_str (aM I q (by simp))
   | _ => exact absurd (show false = true from hs) Bool.false_ne_true
 | int i =>
   obtain ⟨t, rfl⟩ := rx
   cases y with
   | cj => cases ry; exact PySem.EqNone.eq_int_none (aM I q (by simp))
   | int j => obtain ⟨t', rfl⟩ := ry; exact eq_int (aM I q wQ)
   | str j => obtain ⟨t', rfl⟩ := ry; exact PySem.EqMixed.eq_int_str (aM I q (by simp))
   | _ => exact absurd (show false = true from hs) Bool.false_ne_true
 | str i =>
   obtain ⟨t, rfl⟩ := rx
   cases y with
   | cj => cases ry; exact PySem.EqNone.eq_str_none (aM I q (by simp))
   | bl j => cases ry; exact PySem.EqMixed.eq_str_bool (aM I q (by simp))
   | int j => obtain ⟨t', rfl⟩ := ry; exact PySem.EqMixed.eq_str_int (aM I q (by simp))
   | str j => obtain ⟨t', rfl⟩ := ry; exact eq_str (aM I q xM)
   | _ => exact absurd (show false = true from hs) Bool.false_ne_true
 | w6 i =>
   obtain ⟨t, rfl⟩ := rx
   cases y with
   | w6 j => obtain ⟨t', rfl⟩ := ry; exact PySem.W.eq_bytes (aM I q wO)
   | _ => exact absurd (show false = true from hs) Bool.false_ne_true
 | _ => cases y <;> exact absurd (show false = true from hs) Bool.false_ne_true
theorem Jn : jn X (compareOp .NotEq) Oi := by
 intro pins s σ H x y v u Q I rx ry h
 obtain ⟨hs, q⟩ := h
 cases x with
 | cj =>
   cases rx
   cases y with
   | cj => cases ry; exact PySem.EqNone.ne_none_none (aM I q (by simp))
   | bl j => cases ry; exact PySem.EqNone.ne_none_bool (aM I q (by simp))
   | int j => obtain ⟨t', rfl⟩ := ry; exact PySem.EqNone.ne_none_int (aM I q (by simp))
   | str j => obtain ⟨t', rfl⟩ := ry; exact PySem.EqNone.ne_none_str (aM I q (by simp))
   | _ => exact absurd (show false = true from hs) Bool.false_ne_true
 | bl i =>
   cases rx
   cases y with
   | cj => cases ry; exact PySem.EqNone.ne_bool_none (aM I q (by simp))
   | bl j => cases ry; exact ne_bool (aM I q (congrArg not zN))
   | str j => obtain ⟨t', rfl⟩ := ry; exact PySem.EqMixed.ne_bool_str (aM I q (by simp))
   | _ => exact absurd (show false = true from hs) Bool.false_ne_true
 | int i =>
   obtain ⟨t, rfl⟩ := rx
   cases y with
   | cj => cases ry; exact PySem.EqNone.ne_int_none (aM I q (by simp))
   | int j => obtain ⟨t', rfl⟩ := ry; exact ne_int (aM I q (congrArg not wQ))
   | str j => obtain ⟨t', rfl⟩ := ry; exact PySem.EqMixed.ne_int_str (aM I q (by simp))
   | _ => exact absurd (show false = true from hs) Bool.false_ne_true
 | str i =>
   obtain ⟨t, rfl⟩ := rx
   cases y with
   | cj => cases ry; exact PySem.EqNone.ne_str_none (aM I q (by simp))
   | bl j => cases ry; exact PySem.EqMixed.ne_str_bool (aM I q (by simp))
   | int j => obtain ⟨t', rfl⟩ := ry; exact PySem.EqMixed.ne_str_int (aM I q (by simp))
   | str j => obtain ⟨t', rfl⟩ := ry; exact ne_str (aM I q (congrArg not xM))
   | _ => exact absurd (show false = true from hs) Bool.false_ne_true
 | w6 i =>
   obtain ⟨t, rfl⟩ := rx
   cases y with
   | w6 j => obtain ⟨t', rfl⟩ := ry; exact PySem.W.ne_bytes (aM I q (congrArg not wO))
   | _ => exact absurd (show false = true from hs) Bool.false_ne_true
 | _ => cases y <;> exact absurd (show false = true from hs) Bool.false_ne_true
theorem qq : jn X (compareOp .Lt) (Cm fun i j => .bl (decide (i < j))) := CL fun _ _ _ _ _ _ _ q => lt_int q
theorem rK : jn X (compareOp .LtE) (Cm fun i j => .bl (decide (i <= j))) := CL fun _ _ _ _ _ _ _ q => le_int q
theorem xF : jn X (compareOp .Gt) (Cm fun i j => .bl (decide (j < i))) := CL fun _ _ _ _ _ _ _ q => gt_int q
theorem Ek : jn X (compareOp .GtE) (Cm fun i j => .bl (decide (j <= i))) := CL fun _ _ _ _ _ _ _ q => ge_int q
theorem yK : jn X (compareOp .In) (fun x y H Q => ∃ i j, x = .str i /\ y = .str j /\ Q (.bl (!(Builtin.Str.occurrences j i 0 j.length 1).isEmpty)) H) := by
 intro pins s σ H x y v u Q I rx ry h
 obtain ⟨i, j, rfl, rfl, q⟩ := h
 obtain ⟨t, rfl⟩ := rx
 obtain ⟨t', rfl⟩ := ry
 exact in_str (aM I q rfl)
theorem Ai : jn X (compareOp .Is) (fun x y H Q => y = .cj /\ Q (.bl (decide (x = .cj))) H) := by
 intro pins s σ H x y v u Q I rx ry h
 obtain ⟨rfl, q⟩ := h
 cases ry
 refine is_none_gen (aM I q ?_)
 cases x <;> first
  | (cases rx; rfl)
  | (obtain ⟨t, rfl⟩ := rx; rfl)
theorem DB : jn X (compareOp .IsNot) (fun x y H Q => y = .cj /\ Q (.bl (!decide (x = .cj))) H) := by
 intro pins s σ H x y v u Q I rx ry h
 obtain ⟨rfl, q⟩ := h
 cases ry
 refine isnot_none_gen (aM I q ?_)
 cases x <;> first
  | (cases rx; rfl)
  | (obtain ⟨t, rfl⟩ := rx; rfl)
theorem tK : jn X (compareOp .NotIn) (fun x y H Q => ∃ i j, x = .str i /\ y = .str j /\ Q (.bl (!(!(Builtin.Str.occurrences j i 0 j.length 1).isEmpty))) H) := by
 intro pins s σ H x y v u Q I rx ry h
 obtain ⟨i, j, rfl, rfl, q⟩ := h
 obtain ⟨t, rfl⟩ := rx
 obtain ⟨t', rfl⟩ := ry
 exact notIn_str (aM I q rfl)
theorem aw (b : Expr) {op : CmpOp} (h : op ≠ .In := by decide) (h2 : op ≠ .NotIn := by decide) : behindInMarks op b = false := by
 have e1 : (op == CmpOp.In) = false := by cases op <;> first | rfl | exact absurd rfl h
 have e2 : (op == CmpOp.NotIn) = false := by cases op <;> first | rfl | exact absurd rfl h2
 cases b <;> simp [behindInMarks, e1, e2]
theorem dA {op : CmpOp} {r : R2} (ho : jn X (compareOp op) r) (ha : PE X a ta) (hb : PE X b tb) (hm : behindInMarks op b = false) : PE X (.Compare a [op] [b] pos) (El r ta tb) := by
 intro pins s σ H Q I h
 exact wpAny_Compare1 (Fc ha hb I h fun v u s2 x y H2 I2 rx ry q => ho pins s2 σ H2 x y v u Q I2 rx ry q) hm
def xQ (t : TE) : TT := fun σ H Q => t σ H fun x H' => ∃ k, x = .bl k /\ Q k H'
theorem aA {op : CmpOp} {r : R2} (ho : jn X (compareOp op) r) (ha : PE X a ta) (hb : PE X b tb) (hm : behindInMarks op b = false) : PT X (.Compare a [op] [b] pos) (xQ (El r ta tb)) := by
 intro pins s σ H Q I h
 refine wpAny_isTrue_Compare1 (bK (ha pins s σ H _ I h) fun v s1 ⟨x, H1, I1, r1, q1⟩ => bK (hb pins s1 σ H1 _ I1 q1) fun u s2 ⟨y, H2, I2, r2, q2⟩ =>
  bK (ho pins s2 σ H2 x y v u _ I2 r1 r2 q2) fun c s3 ⟨z, H3, I3, r3, k, e, q3⟩ => ?_) hm
 subst e
 cases r3
 exact wpAny_truthy_bool ⟨H3, I3, q3⟩
def ve (r r' : R2) (ta tb tc : TE) : TE := fun σ H Q => ta σ H fun x H1 => tb σ H1 fun y H2 => r x y H2 fun z H3 => ∃ k, z = .bl k /\
 (if k = true then tc σ H3 fun w' H4 => r' y w' H4 Q else Q (.bl false) H3)
theorem uT {op Fw : CmpOp} {r r' : R2} (ho : jn X (compareOp op) r) (pC : jn X (compareOp Fw) r') (ha : PE X a ta) (hb : PE X b tb) (hc : PE X c tc)
 (hm : lastMarks [op, Fw] [b, c] = false := by with_unfolding_all rfl) : PE X (.Compare a [op, Fw] [b, c] pos) (ve r r' ta tb tc) := by
 intro pins s σ H Q I h
 refine Compare_chain (bK (ha pins s σ H _ I h) fun v s1 ⟨x, H1, I1, r1, q1⟩ => chain_link (bK (hb pins s1 σ H1 _ I1 q1) fun u s2 ⟨y, H2, I2, r2, q2⟩ =>
  bK (ho pins s2 σ H2 x y v u _ I2 r1 r2 q2) fun d s3 ⟨z, H3, I3, r3, k, e, q3⟩ => ?_)) hm
 subst e
 cases r3
 refine wpAny_truthy_bool ?_
 cases k with
 | false => exact ite_ff ⟨.bl false, H3, I3, rfl, q3⟩
 | true => exact ite_tt (chain_last (bK (hc pins s3 σ H3 _ I3 q3) fun w' s4 ⟨z', H4, I4, r4, q4⟩ => pC pins s4 σ H4 y z' u w' Q I4 r2 r4 q4))
theorem zK {op Fw : CmpOp} {r r' : R2} (ho : jn X (compareOp op) r) (pC : jn X (compareOp Fw) r') (ha : PE X a ta) (hb : PE X b tb) (hc : PE X c tc)
 (hm : lastMarks [op, Fw] [b, c] = false := by with_unfolding_all rfl) : PT X (.Compare a [op, Fw] [b, c] pos) (xQ (ve r r' ta tb tc)) := by
 intro pins s σ H Q I h
 refine isTrue_chain (bK (ha pins s σ H _ I h) fun v s1 ⟨x, H1, I1, r1, q1⟩ => test_link (bK (hb pins s1 σ H1 _ I1 q1) fun u s2 ⟨y, H2, I2, r2, q2⟩ =>
  bK (ho pins s2 σ H2 x y v u _ I2 r1 r2 q2) fun d s3 ⟨z, H3, I3, r3, k, e, q3⟩ => ?_)) hm
 subst e
 cases r3
 refine wpAny_truthy_bool ?_
 cases k with
 | false =>
   obtain ⟨k', e', q'⟩ := q3
   cases e'
   exact ite_ff ⟨H3, I3, q'⟩
 | true =>
   refine ite_tt (test_last (bK (hc pins s3 σ H3 _ I3 q3) fun w' s4 ⟨z', H4, I4, r4, q4⟩ => bK (pC pins s4 σ H4 y z' u w' _ I4 r2 r4 q4) fun d' s5 ⟨z2, H5, I5, r5, k2, e2, q5⟩ => ?_))
   subst e2
   cases r5
   exact wpAny_truthy_bool ⟨H5, I5, q5⟩
def y0 (K : PySem.W.Frag) (x : V) (H : Hp) (k : Bool) : Prop :=
 match x with
 | .cj => k = false
 | .bl b => k = b
 | .int i => k = (i != 0)
 | .str y => y.length <= sizeLine /\ k = ((y.length : Int) != 0)
 | .w6 y => y.size <= sizeLine /\ k = ((y.size : Int) != 0)
 | .ref p => (∃ xs, fW K H p xs /\ k = !xs.isEmpty) \/ (∃ xs, x8 K H p xs /\ k = !xs.isEmpty) \/ ∃ dW, H p = some (.dK dW) /\ k = !dW.isEmpty
 | _ => False
theorem vD {κ : Type} {dW : List (κ × V)} {vs : List (κ × Value)} (r : KV dW vs) : (!vs.isEmpty) = !dW.isEmpty := by
 cases r <;> rfl
theorem qm {xs : List V} {aU : List Value} (r : Vals xs aU) : (!aU.toArray.isEmpty) = !xs.isEmpty := by
 cases r <;> simp
theorem lQ : (sizeLine : Nat) < 2 ^ 63 := by rw [sizeLine_eq]; decide
theorem Gd : Le X (fun x H Q => ∃ k, y0 X.K x H k /\ Q k H) := by
 intro pins s σ H x v Q I rx h
 obtain ⟨k, e, q⟩ := h
 have hl := lQ
 have hs : sizeLine = 16777216 := sizeLine_eq
 cases x with
 | cj =>
   cases rx
   have e' : k = false := e
   subst e'
   exact truthy_none ⟨H, I, q⟩
 | bl b =>
   cases rx
   have e' : k = b := e
   subst e'
   exact wpAny_truthy_bool ⟨H, I, q⟩
 | int i =>
   obtain ⟨t, rfl⟩ := rx
   have e' : k = (i != 0) := e
   subst e'
   exact PySem.P.truthy_int ⟨H, I, q⟩
 | str y =>
   obtain ⟨t, rfl⟩ := rx
   obtain ⟨hy, e'⟩ : y.length <= sizeLine /\ k = ((y.length : Int) != 0) := e
   subst e'
   exact PySem.P.truthy_str (by omega) ⟨H, I.tok _, q⟩
 | w6 y =>
   obtain ⟨t, rfl⟩ := rx
   obtain ⟨hy, e'⟩ : y.size <= sizeLine /\ k = ((y.size : Int) != 0) := e
   subst e'
   exact PySem.W.truthy_bytes (by omega) ⟨H, I.tok _, q⟩
 | ref p =>
   cases rx
   have e' : (∃ xs, fW X.K H p xs /\ k = !xs.isEmpty) \/ (∃ xs, x8 X.K H p xs /\ k = !xs.isEmpty) \/ ∃ dW, H p = some (.dK dW) /\ k = !dW.isEmpty := e
   rcases e' with ⟨xs, hx, e'⟩ | ⟨xs, hx, e'⟩ | ⟨dW, hx, e'⟩
   . subst e'
     obtain ⟨aU, r, pl, hz⟩ := I.list hx
     have hlen := r.length
     exact wpAny_truthy_list pl.isList (by simp only [List.size_toArray]; omega) ⟨H, I.tok _, by rw [qm r]; exact q⟩
   . subst e'
     obtain ⟨aU, r, pl, hz⟩ := I.tuple hx
     have hlen := r.length
     exact truthy_tuple pl (by simp only [List.size_toArray]; omega) ⟨H, I.tok _, by rw [qm r]; exact q⟩
   . subst e'
     obtain ⟨hz, hS, vs, r, m⟩ : dW.length <= sizeLine /\ (p == sysModules) = false /\ ∃ vs, KV dW vs /\ s.heap.DictOf (eE X.prog X.w) p vs := I.a9 p _ hx
     have hlen : dW.length = vs.length := Paired.length r
     exact wpAny_truthy_dict hS m (by omega) ⟨H, I.tok _, by rw [vD r]; exact q⟩
 | _ => exact (show False from e).elim
theorem eK (ha : PE X a ta) (he : ∀ whole, isTrue a X.env whole = (do let v <- whole; standAt a.pos; holding [v] (truthy v))) :
 PT X a (fun σ H Q => ta σ H fun x H' => ∃ k, y0 X.K x H' k /\ Q k H') := by
 intro pins s σ H Q I h
 exact isTrue_plain (bK (ha pins s σ H _ I h) fun v s1 ⟨x, H1, I1, r1, q1⟩ => Gd pins s1 σ H1 x v Q I1 r1 q1) (he _)
theorem vals1 {x : V} {us : List Value} (r : Vals [x] us) : ∃ u, us = [u] /\ RelV x u := by
 cases r with
 | cons r1 r2 => cases r2; exact ⟨_, rfl, r1⟩
theorem vals2 {x y : V} {us : List Value} (r : Vals [x, y] us) : ∃ u w', us = [u, w'] /\ RelV x u /\ RelV y w' := by
 cases r with
 | cons r1 r2 =>
   cases r2 with
   | cons r3 r4 => cases r4; exact ⟨_, _, rfl, r1, r3⟩
theorem sN : fH X (.type "str") (fun xs H Q => ∃ i, xs = [.int i] /\ i.natAbs.log2 < 1920 /\ Q (.str (toString i)) H) := by
 intro pins s σ H xs us Q I r h
 obtain ⟨i, rfl, hz, q⟩ := h
 obtain ⟨u, rfl, t, rfl⟩ := vals1 r
 exact PySem.P.str_of_int hz ⟨.str _, H, I.tok _, ⟨_, rfl⟩, q⟩
end
structure vN (h : Heap) (x dx C : Addr) (mA : Str -> Option Value) : Prop where
 obj : h.get? x = some (PySem.W.instObj C dx)
 ns : h.Ns1 dx mA
 ne : dx ≠ x
theorem yz {h : Heap} {dx : Addr} {mA : Str -> Option Value} (n : h.Ns1 dx mA) : ∃ od, h.get? dx = some od /\ ∀ name, PySem.W.lookIn name od = some (mA name) := by
 obtain ⟨o, es, ep, ho, hd, hk, _, hm⟩ := n
 refine ⟨o, ho, fun name => ?_⟩
 have e := hm name
 unfold nsFind findBy at e
 rw [<- Array.find?_toList] at e
 unfold PySem.W.lookIn
 rw [hd]
 dsimp only
 split
 . rename_i y q
   rw [q] at e
   exact congrArg some e
 . rename_i q
   rw [q] at e
   have a : es.toList.any (·.refKey) = false := by
    rw [List.any_eq_false]
    intro y hy
    obtain ⟨z, t, K6⟩ := hk y (Array.mem_toList_iff.mp hy)
    simp [DictEntry.refKey, K6]
   have a' : ¬ es.toList.any (·.refKey) = true := by rw [a]; exact Bool.false_ne_true
   rw [if_neg a']
   exact congrArg some e
theorem vN.look {h : Heap} {x dx C : Addr} {mA : Str -> Option Value} (I : vN h x dx C mA) : ∃ od, PySem.W.InstAt h x (PySem.W.instObj C dx) C (some od) /\ ∀ name, PySem.W.lookIn name od = some (mA name) :=
 let ⟨od, ho, hl⟩ := yz I.ns
 ⟨od, ⟨I.obj, rfl, rfl, ho⟩, hl⟩
section
variable {prog : Program} {w : World} {A : Around} {E : Value -> Shared -> Prop} {s : Shared} {K : PySem.W.Frag} {x dx C f : Addr} {mA : Str -> Option Value} {name : Str} {v : Value}
theorem get_map {expr : Bool} {Q : Value -> Shared -> Prop} (X : K.In s.heap) (I : vN s.heap x dx C mA) (hg : PySem.W.plainGet K C name = true) (hh : PySem.W.hasDictIn K C = true)
 (ha : PySem.W.findIn K (.ref C) name = some none) (hv : mA name = some v) (Ph : PySem.W.handedIn v = true) (h : Q v { s with toks := s.toks + 1 }) :
 wpAny (model prog w) A (getAttr (.ref x) name expr) Q E s := by
 obtain ⟨od, J, hl⟩ := I.look
 exact PySem.W.get_value X J (PySem.W.plainGet_of hg).1 (PySem.W.findObj_own hh ha rfl (by rw [hl, hv])) Ph h
theorem Af {pl : Sem Bool} {Q : Value × List Value -> Shared -> Prop} (X : K.In s.heap) (I : vN s.heap x dx C mA) (hg : PySem.W.plainGet K C name = true)
 (hf : PySem.W.findIn K (.ref C) name = some (some (.ref f))) (ht : PySem.W.isFn K (.ref f) = true) (hv : mA name = none) (h : Q (.ref f, [.ref x]) s) :
 wpAny (model prog w) A (getMethod (.ref x) name pl) Q E s := by
 obtain ⟨od, J, hl⟩ := I.look
 exact PySem.W.method_fn X J (PySem.W.plainGet_of hg).1 (PySem.W.plainGet_of hg).2 hf (beq_iff_eq.mp ht) (by show (PySem.W.lookIn name od).map (·.isSome) = some false; rw [hl, hv]; rfl) h
theorem Cu {ns : List Str} {Q : Unit -> Shared -> Prop} (X : K.In s.heap) (I : vN s.heap x dx C mA)
 (hs : PySem.W.findIn K (.ref C) "__setattr__" = some (some (.builtin "object.__setattr__"))) (hp : PySem.W.plainOver K C = true) (ht : PySem.W.takerIn K C name = some none) (hh : PySem.W.hasDictIn K C = true)
 (hw : PySem.Within mA ns) (hsz : ns.length <= sizeLine)
 (h : ∀ h', vN h' x dx C (fun y => if y = name then some v else mA y) -> Heap.SameBut dx s.heap h' -> Q () { s with heap := h', toks := s.toks + 2 }) :
 wpAny (model prog w) A (setAttr (.ref x) name v) Q E s := by
 obtain ⟨od, J, hl⟩ := I.look
 refine PySem.W.set_plain X J hs (PySem.W.osa_open (s := { s with toks := s.toks + 1 }) (r := none) X J hp ht fun b => ?_)
 obtain ⟨cd, hc, vb⟩ := PySem.W.any_some hh
 have hx : s.heap.get? x = some ⟨.ref C, some dx, .plain, #[]⟩ := I.obj
 refine wpAny_bind (wpAny_pure (wpAny_bind (wpAny_bind (wpAny_loadPart hx (wpAny_bind (PySem.W.Looks.here (s := { s with toks := s.toks + 1 }) (PySem.W.looks_clsIn X hc) ?_))))))
 rw [vb]
 refine wpAny_pure (a := some dx) (wpAny_bind (wpAny_pure (wpAny_bind ?_)))
 refine wpAny_nsSet1 (s := { s with toks := s.toks + 1 }) I.ns fun h' Hs Kh => ?_
 obtain ⟨oD, Px, Qd, Ou, OQ, Cv⟩ := Hs.count (PySem.Within.cons name v hw)
 refine wpAny_bind (wpAny_lookBehind Ou (by rw [OQ]; exact pastItsLine_dict (Nat.le_trans Cv (by rw [List.length_cons]; omega))) ?_)
 exact wpAny_pure (h _ ⟨(Kh.2 _ (Ne.symm I.ne)).trans I.obj, Hs, I.ne⟩ Kh)
theorem Br {R : Result -> Shared -> Prop} {vs : List Value} {kw : List (Str × Value)} (X : K.In s.heap) (hm : PySem.W.makesIn K C = true)
 (hi : PySem.W.findIn K (.ref C) "__init__" = some (some (.ref f))) (hf : PySem.W.typeIn K (.ref f) = some (.type "function"))
 (h : codeAny (model prog w) (A.under (.builtin "type.__call__" ⟨.ref C :: vs, kw⟩)) (.call (.ref f) ⟨.ref (s.heap.objs.size + 1) :: vs, kw⟩) (PySem.W.InitBack (s.heap.objs.size + 1) R)
  { s with heap := (s.heap.push PySem.W.emptyDict).push (PySem.W.instObj C s.heap.objs.size) }) :
 codeAny (model prog w) A (.call (.ref C) ⟨vs, kw⟩) R s := by
 obtain ⟨hh, g, d, t, os⟩ := s
 exact PySem.W.make_core (PySem.W.makes_of X hm) (PySem.W.looks_findIn X hi) (fun self => PySem.W.bind_fn X self hf) (.inl rfl) h
end
def g7 (f : Str) (v : V) : List (Str × V) -> List (Str × V)
 | [] => [(f, v)]
 | (g, x) :: r => if g = f then (g, v) :: r else (g, x) :: g7 f v r
theorem oS (f g : Str) (v : V) : ∀ fs : List (Str × V), (g7 f v fs).lookup g = if g = f then some v else fs.lookup g
 | [] => by
   show List.lookup g [(f, v)] = _
   by_cases h : g = f
   . have hb : (g == f) = true := beq_iff_eq.mpr h
     simp only [List.lookup, hb, if_pos h]
   . have hb : (g == f) = false := beq_eq_false_iff_ne.mpr h
     simp only [List.lookup, hb, if_neg h]
 | (k, x) :: r => by
   have ih := oS f g v r
   rw [show g7 f v ((k, x) :: r) = (if k = f then (k, v) :: r else (k, x) :: g7 f v r) from rfl]
   by_cases hk : k = f
   . rw [if_pos hk]
     by_cases h : g = k
     . have hb : (g == k) = true := beq_iff_eq.mpr h
       simp only [List.lookup, hb, if_pos (h.trans hk)]
     . have hb : (g == k) = false := beq_eq_false_iff_ne.mpr h
       simp only [List.lookup, hb, if_neg (fun e : g = f => h (e.trans hk.symm))]
   . rw [if_neg hk]
     by_cases h : g = k
     . have hb : (g == k) = true := beq_iff_eq.mpr h
       simp only [List.lookup, hb, if_neg (fun e : g = f => hk (h.symm.trans e))]
     . have hb : (g == k) = false := beq_eq_false_iff_ne.mpr h
       simp only [List.lookup, hb]
       exact ih
theorem oE (f : Str) (v : V) : ∀ fs : List (Str × V), f ∈ (g7 f v fs).map (·.1) /\ ∀ g, g ∈ fs.map (·.1) -> g ∈ (g7 f v fs).map (·.1)
 | [] => ⟨by simp [g7], fun g h => by simp at h⟩
 | (k, x) :: r => by
   obtain ⟨i1, i2⟩ := oE f v r
   rw [show g7 f v ((k, x) :: r) = (if k = f then (k, v) :: r else (k, x) :: g7 f v r) from rfl]
   by_cases hk : k = f
   . rw [if_pos hk]
     subst hk
     exact ⟨by simp, fun g h => by simpa using h⟩
   . rw [if_neg hk]
     refine ⟨?_, fun g h => ?_⟩
     . rw [List.map_cons]
       exact List.mem_cons_of_mem _ i1
     . rw [List.map_cons] at h ⊢
       rcases List.mem_cons.mp h with e | e
       . exact List.mem_cons.mpr (.inl e)
       . exact List.mem_cons_of_mem _ (i2 g e)
theorem ph (f : Str) (v : V) : ∀ fs : List (Str × V), (g7 f v fs).length <= fs.length + 1
 | [] => by simp [g7]
 | (k, x) :: r => by
   have ih := ph f v r
   rw [show g7 f v ((k, x) :: r) = (if k = f then (k, v) :: r else (k, x) :: g7 f v r) from rfl]
   by_cases hk : k = f
   . rw [if_pos hk, List.length_cons, List.length_cons]; omega
   . rw [if_neg hk, List.length_cons, List.length_cons]; omega
theorem nE.some_of {v : V} {o : Option Value} (r : nE (some v) o) : ∃ u, o = some u /\ RelV v u := by
 cases o with
 | none => exact (show False from r).elim
 | some u => exact ⟨u, rfl, r⟩
theorem nE.none_of {o : Option Value} (r : nE none o) : o = none := by
 cases o with
 | none => rfl
 | some u => exact (show False from r).elim
theorem yT {v : V} {u : Value} (r : RelV v u) : PySem.W.handedIn u = true := by
 cases v with
 | cj => cases (show u = Value.none from r); rfl
 | bl b => cases (show u = Value.bool b from r); rfl
 | int i => obtain ⟨t, e⟩ := (show ∃ t, u = Value.int i t from r); cases e; rfl
 | str x => obtain ⟨t, e⟩ := (show ∃ t, u = Value.str x t from r); cases e; rfl
 | w6 b => obtain ⟨t, e⟩ := (show ∃ t, u = Value.bytes b t from r); cases e; rfl
 | Ha b => obtain ⟨t, e⟩ := (show ∃ t, u = Value.float b t from r); cases e; rfl
 | ref a => cases (show u = Value.ref a from r); rfl
 | ty n => cases (show u = Value.type n from r); rfl
section
variable {P : Program} {w : World} {H H' : Hp} {h h' : Heap} {a C dx : Addr} {fs Kf : List (Str × V)}
theorem pU (a9 : lY P w H h) (e : H a = some (.ins C dx fs)) : ∃ mA, vN h a dx C mA /\ (∀ f, nE (fs.lookup f) (mA f)) /\ PySem.Within mA (fs.map (·.1)) /\ fs.length <= 1000 /\ H dx = some (.own a) := by
 obtain ⟨d, z, ne, ob, mA, n, r, q⟩ := (show cW P w H h a (.ins C dx fs) from a9 a _ e)
 exact ⟨mA, ⟨ob, n, ne⟩, r, q, z, d⟩
end
structure pz (K : PySem.W.Frag) (C : Addr) : Prop where
 pg : PySem.W.plainGet K C Str.empty = true
 hd : PySem.W.hasDictIn K C = true
 po : PySem.W.plainOver K C = true
 sa : PySem.W.findIn K (.ref C) "__setattr__" = some (some (.builtin "object.__setattr__"))
theorem pz.get {K : PySem.W.Frag} {C : Addr} (c : pz K C) (f : Str) : PySem.W.plainGet K C f = true := c.pg
def aK (K : PySem.W.Frag) (C : Addr) (f : Str) : Prop := PySem.W.findIn K (.ref C) f = some none
theorem aK.JS {K : PySem.W.Frag} {C : Addr} {f : Str} (n : aK K C f) : PySem.W.takerIn K C f = some none := by
 unfold PySem.W.takerIn
 rw [show PySem.W.findIn K (.ref C) f = some none from n]
 rfl
structure PH (K : PySem.W.Frag) (C : Addr) (f : Str) (v : V) (u : Value) : Prop where
 at_ : PySem.W.findIn K (.ref C) f = some (some u)
 rel : RelV v u
 get : PySem.W.specialIn K u "__get__" = some none
 cp : PySem.W.copiedNames.contains f = false
structure Meth (K : PySem.W.Frag) (C : Addr) (m : Str) (f : Addr) : Prop where
 at_ : PySem.W.findIn K (.ref C) m = some (some (.ref f))
 fn : PySem.W.isFn K (.ref f) = true
 kp : PySem.W.keepIn K (.ref f) = true
section
variable {X : Cx} {pins : List (Addr × Obj)} {σ : St} {H : Hp} {s : Shared} {a C dx : Addr} {fs : List (Str × V)} {f : Str} {v : V} {A : Around} {E : Value -> Shared -> Prop}
theorem v7 {b : Bool} {Q : Value -> Shared -> Prop} (I : Inv X pins σ H s) (e : H a = some (.ins C dx fs)) (c : pz X.K C) (n : aK X.K C f) (l : fs.lookup f = some v)
 (h : ∀ u s', Inv X pins σ H s' -> RelV v u -> Q u s') : wpAny (model X.prog X.w) A (getAttr (.ref a) f b) Q E s := by
 obtain ⟨mA, O, r, _, _, _⟩ := pU I.a9 e
 obtain ⟨u, hu, ru⟩ := nE.some_of (v := v) (o := mA f) (by rw [<- l]; exact r f)
 exact get_map I.jf O (c.get f) c.hd n hu (yT ru) (h u _ (I.tok _) ru)
theorem vO {m : Str} {g : Addr} {pl : Sem Bool} {Q : Value × List Value -> Shared -> Prop} (I : Inv X pins σ H s) (e : H a = some (.ins C dx fs)) (c : pz X.K C) (k : Meth X.K C m g) (l : fs.lookup m = none)
 (h : Q (.ref g, [.ref a]) s) : wpAny (model X.prog X.w) A (getMethod (.ref a) m pl) Q E s := by
 obtain ⟨mA, O, r, _, _, _⟩ := pU I.a9 e
 have hn : mA m = none := nE.none_of (by rw [<- l]; exact r m)
 exact Af I.jf O (c.get m) k.at_ k.fn hn h
theorem vL {y : V} {u : Value} {Q : Unit -> Shared -> Prop} (I : Inv X pins σ H s) (e : H a = some (.ins C dx fs)) (c : pz X.K C) (n : aK X.K C f) (hl : fs.length < 1000) (ry : RelV y u)
 (h : ∀ s', Inv X pins σ (upd H a (.ins C dx (g7 f y fs))) s' -> Q () s') : wpAny (model X.prog X.w) A (setAttr (.ref a) f u) Q E s := by
 obtain ⟨mA, O, r, wi, _, ho⟩ := pU I.a9 e
 have hz : (fs.map (·.1)).length <= sizeLine := by rw [List.length_map, sizeLine_eq]; omega
 refine Cu I.jf O c.sa c.po n.JS c.hd wi hz fun h' O' sb => h _ ?_
 have hd : ∃ o, h'.get? dx = some o := let ⟨o, _, _, e', _⟩ := O'.ns; ⟨o, e'⟩
 refine I.write (x := a) (e := dx) (by rw [e]; exact True.intro) (.inr ho) (fun b q hb z => (sb.2 b hb).trans z) hd ?_
 refine ⟨by rw [aJ O.ne]; exact ho, ?_, O.ne, O'.obj, _, O'.ns, fun g => ?_, fun g hg => ?_⟩
 . have := ph f y fs; omega
 . show nE ((g7 f y fs).lookup g) (if g = f then some u else mA g)
   rw [oS]
   by_cases q : g = f
   . rw [if_pos q, if_pos q]; exact ry
   . rw [if_neg q, if_neg q]; exact r g
 . by_cases q : g = f
   . rw [q]; exact (oE f y fs).1
   . refine (oE f y fs).2 g (wi g fun z => hg ?_)
     show (if g = f then some u else mA g) = none
     rw [if_neg q]; exact z
theorem Inv.made (I : Inv X pins σ H s) : Inv X pins σ (upd (upd H s.heap.objs.size (.own (s.heap.objs.size + 1))) (s.heap.objs.size + 1) (.ins C s.heap.objs.size []))
 { s with heap := (s.heap.push PySem.W.emptyDict).push (PySem.W.instObj C s.heap.objs.size) } := by
 have e1 : (s.heap.push PySem.W.emptyDict).get? s.heap.objs.size = some PySem.W.emptyDict := Heap.get?_push_size s.heap rfl
 have e2 : ((s.heap.push PySem.W.emptyDict).push (PySem.W.instObj C s.heap.objs.size)).get? (s.heap.objs.size + 1) = some (PySem.W.instObj C s.heap.objs.size) := by
  have := Heap.get?_push_size (s.heap.push PySem.W.emptyDict) (o := PySem.W.instObj C s.heap.objs.size) rfl
  rwa [Heap.size_push] at this
 have e3 : (s.heap.push PySem.W.emptyDict).Ns s.heap.objs.size (fun _ => none) := ⟨PySem.W.emptyDict, #[], _, e1, rfl, (fun e he => absurd he (by simp)), fun _ => rfl⟩
 have I1 := I.laid (a := s.heap.objs.size) (o := .own (s.heap.objs.size + 1)) (h' := s.heap.push PySem.W.emptyDict) (t' := s.toks) (fun b u q => Heap.get?_push_of_some _ q) (Nat.le_refl _) ⟨_, e1⟩
 refine I1.laid (a := s.heap.objs.size + 1) (o := .ins C s.heap.objs.size []) (t' := s.toks) (fun b u q => Heap.get?_push_of_some _ q) (Nat.le_of_eq (Heap.size_push _ _)) ?_
 have ne : s.heap.objs.size ≠ s.heap.objs.size + 1 := Nat.ne_of_lt (Nat.lt_succ_self _)
 refine ⟨by rw [aJ ne, aN], Nat.zero_le _, ne, e2, fun _ => none, (Heap.Ns1.of_empty e3).at fun o q => Heap.get?_push_of_some _ q, fun _ => True.intro, fun y hy => absurd rfl hy⟩
theorem DL {prog : Program} {w : World} {env : Env} {e : Expr} {f : Str} {pos : Pos} {s : Shared} {Q : Value -> Shared -> Prop} (hb : attributeBase e f env (eval e env) = eval e env)
 (h : wpAny (model prog w) A (eval e env) (fun o s₁ => wpAny (model prog w) A (getAttr o f true) Q E s₁) E s) : wpAny (model prog w) A (eval (.Attribute e f pos) env) Q E s :=
 Attribute_any_ h (by rw [arm_eval_Attribute, hb])
end
def HQ (K : PySem.W.Frag) (ta : TE) (f : Str) : TE := fun σ H Q => ta σ H fun x H1 => ∃ a C dx fs v, x = .ref a /\ H1 a = some (.ins C dx fs) /\ pz K C /\ aK K C f /\ fs.lookup f = some v /\ Q v H1
def J2 (K : PySem.W.Frag) (ta tv : TE) (f : Str) : TS := fun D σ H => tv σ H fun y H1 => ta σ H1 fun x H2 => ∃ a C dx fs, x = .ref a /\ H2 a = some (.ins C dx fs) /\ pz K C /\ aK K C f /\ fs.length < 1000 /\
 D.nx σ (upd H2 a (.ins C dx (g7 f y fs)))
section
variable {X : Cx} {o e value : Expr} {f : Str} {pos pos' Lx : Pos} {ta tv : TE}
theorem dF (he : PE X e ta) (hb : attributeBase e f X.env (eval e X.env) = eval e X.env) : PE X (.Attribute e f pos) (HQ X.K ta f) := by
 intro pins s σ H Q I h
 refine DL hb (bK (he pins s σ H _ I h) fun u s1 ⟨x, H1, I1, rx, a, C, dx, fs, v, ex, ea, c, n, l, q⟩ => ?_)
 subst ex
 obtain rfl : u = Value.ref a := rx
 exact v7 I1 ea c n l fun u' s2 I2 ru => ⟨v, H1, I2, ru, q⟩
theorem gH (ha : PE X o ta) (hv : PE X value tv) (hs : swapsWith value (some (.Attribute o f pos')) pos.line X.env = pure false) : PS X (.Assign [.Attribute o f pos'] value pos) (J2 X.K ta tv f) := by
 intro pins s σ H D I h
 refine plainObj_wpAny_Assign_Attribute (bK (hv pins s σ H _ I h) fun u s1 ⟨y, H1, I1, ry, q⟩ => bK (ha pins s1 σ H1 _ I1 q) fun ov s2 ⟨x, H2, I2, rx, a, C, dx, fs, ex, ea, c, n, l, q2⟩ => ?_) hs
 subst ex
 obtain rfl : ov = Value.ref a := rx
 exact vL I2 ea c n l ry fun s3 I3 => ⟨σ, _, I3, q2⟩
end
section
variable {X : Cx} {pins : List (Addr × Obj)} {σ : St} {H : Hp} {s : Shared} {A : Around} {E : Value -> Shared -> Prop} {Q : Value -> Shared -> Prop} {c : Value} {b : Bool}
inductive mP (K : PySem.W.Frag) (H : Hp) : V -> Value -> Prop where
 | cj : mP K H .cj (.type "NoneType")
 | bl (x : Bool) : mP K H (.bl x) (.type "bool")
 | int (i : Int) : mP K H (.int i) (.type "int")
 | str (x : Str) : mP K H (.str x) (.type "str")
 | Ha (x : UInt64) : mP K H (.Ha x) (.type "float")
 | lst {a : Addr} {xs : List V} (e : H a = some (.lst xs)) : mP K H (.ref a) (.type "list")
 | u5 {a : Addr} {o : Obj} {xs : List V} (e : H a = some (.u5 o (.lst xs))) : mP K H (.ref a) (.type "list")
 | tup {a : Addr} {xs : List V} (e : H a = some (.tup xs)) : mP K H (.ref a) (.type "tuple")
 | dK {a : Addr} {dW : List (Key × V)} (e : H a = some (.dK dW)) : mP K H (.ref a) (.type "dict")
 | dT {a : Addr} {dW : List (List Key × V)} (e : H a = some (.dT dW)) : mP K H (.ref a) (.type "dict")
 | ins {a C dx : Addr} {fs : List (Str × V)} (e : H a = some (.ins C dx fs)) (cl : pz K C) (ha : PySem.W.findIn K (.ref C) "__class__" = some (some (.builtin "object.__class__")))
  (hn : PySem.W.specialIn K (.builtin "object.__class__") "__get__" = some (some (.builtin "getset_descriptor.__get__"))) (EG : PySem.W.takesIn K (.builtin "object.__class__") = some true)
  (hm : PySem.W.mroIn K C (.type "object") = some true) : mP K H (.ref a) (.ref C)
theorem x3 {x : V} {u t : Value} (I : Inv X pins σ H s) (rx : RelV x u) (ty : mP X.K H x t) (e : PySem.W.kitOne X.K t c = some b) (h : ∀ tk, Q (.bool b) { s with toks := tk }) :
 wpAny (model X.prog X.w) A (call (.builtin "isinstance") [u, c]) Q E s := by
 cases ty with
 | cj => cases (show u = Value.none from rx); exact PySem.W.kia_one PySem.W.kitx_none I.jf True.intro e (fun z => nomatch z) h
 | bl y => cases (show u = Value.bool y from rx); exact PySem.W.kia_one PySem.W.kitx_bool I.jf True.intro e (fun z => nomatch z) h
 | int i => obtain ⟨t, q⟩ := (show ∃ t, u = Value.int i t from rx); cases q; exact PySem.W.kia_one PySem.W.kitx_int I.jf True.intro e (fun z => nomatch z) h
 | str y => obtain ⟨t, q⟩ := (show ∃ t, u = Value.str y t from rx); cases q; exact PySem.W.kia_one PySem.W.kitx_str I.jf True.intro e (fun z => nomatch z) h
 | Ha y => obtain ⟨t, q⟩ := (show ∃ t, u = Value.float y t from rx); cases q; exact PySem.W.kia_one PySem.W.kitx_float I.jf True.intro e (fun z => nomatch z) h
 | @lst a xs ea =>
   cases (show u = Value.ref a from rx)
   obtain ⟨_, _, n, _, h1⟩ := (show cW X.prog X.w H s.heap a (.lst xs) from I.a9 a _ ea)
   exact PySem.W.kia_one PySem.W.kitx_list I.jf ⟨_, h1, rfl⟩ e (fun z => nomatch z) h
 | @u5 a ob xs ea =>
   cases (show u = Value.ref a from rx)
   obtain ⟨_, _, _, n, _, h1⟩ := (show cW X.prog X.w H s.heap a (.u5 ob (.lst xs)) from I.a9 a _ ea)
   exact PySem.W.kia_one PySem.W.kitx_list I.jf ⟨_, h1, rfl⟩ e (fun z => nomatch z) h
 | @tup a xs ea =>
   cases (show u = Value.ref a from rx)
   obtain ⟨_, _, _, p⟩ := (show cW X.prog X.w H s.heap a (.tup xs) from I.a9 a _ ea)
   obtain ⟨o, h1, h2, _⟩ := p
   exact PySem.W.kia_one PySem.W.kitx_tuple I.jf ⟨o, h1, h2⟩ e (fun z => nomatch z) h
 | @dK a dW ea =>
   cases (show u = Value.ref a from rx)
   obtain ⟨_, _, vs, _, p⟩ := (show cW X.prog X.w H s.heap a (.dK dW) from I.a9 a _ ea)
   obtain ⟨o, es, ep, h1, h2, _⟩ := p
   exact PySem.W.kia_one PySem.W.kitx_dict I.jf ⟨o, h1, h2.1⟩ e (fun z => nomatch z) h
 | @dT a dW ea =>
   cases (show u = Value.ref a from rx)
   obtain ⟨_, _, xs, _, o, es, ep, h1, h2, _⟩ := (show cW X.prog X.w H s.heap a (.dT dW) from I.a9 a _ ea)
   exact PySem.W.kia_one PySem.W.kitx_dict I.jf ⟨o, h1, h2.1⟩ e (fun z => nomatch z) h
 | @ins a C dx fs ea cl ha hn EG hm =>
   cases (show u = Value.ref a from rx)
   obtain ⟨mA, O, _⟩ := pU I.a9 ea
   obtain ⟨od, J, _⟩ := O.look
   exact PySem.W.kia_one (PySem.W.kitx_own (cl.get _) cl.hd ha hn EG hm) I.jf J e (fun z => nomatch z) h
end
structure cX (k : Nat) (A : Around) : Prop where
 hd : A.handled = none
 dp : A.depth + 3 * k + 5 < recursionLimit
 un : A.units + 16 * k + 200 < cLine
theorem cX.mono {j k : Nat} {A : Around} (r : cX k A) (h : j <= k) : cX j A := ⟨r.hd, by have := r.dp; omega, by have := r.un; omega⟩
theorem cX.deeper {k : Nat} {A : Around} (r : cX (k + 1) A) (env : Env) : cX k (A.deeper env) :=
 ⟨r.hd, by have := r.dp; show A.depth + 1 + 3 * k + 5 < _; omega, by have := r.un; show A.units + 3 + 16 * k + 200 < _; omega⟩
theorem vI {A : Around} {C : Addr} {us : List Value} {kw : List (Str × Value)} : (A.under (.builtin "type.__call__" ⟨.ref C :: us, kw⟩)).depth = A.depth + 1 := by
 first | rfl | simp [Around.under, Code.weight, Code.isCreation, Code.isGuard, Code.isCaller, Code.frames, Code.isFrame, guardIds]
theorem vG {A : Around} {C : Addr} {us : List Value} {kw : List (Str × Value)} : (A.under (.builtin "type.__call__" ⟨.ref C :: us, kw⟩)).units = A.units + 1 := by
 first | rfl | simp [Around.under, Code.cUnits, Code.frames, Code.isFrame]
theorem cX.make {k : Nat} {A : Around} (r : cX (k + 1) A) (C : Addr) (us : List Value) (kw : List (Str × Value)) : cX k (A.under (.builtin "type.__call__" ⟨.ref C :: us, kw⟩)) :=
 ⟨r.hd, by have := r.dp; rw [vI]; omega, by have := r.un; rw [vG]; omega⟩
theorem cX.depth {k : Nat} {A : Around} (r : cX k A) : A.depth < recursionLimit := by have := r.dp; omega
theorem cX.units {k : Nat} {A : Around} (r : cX k A) : A.units + 64 < cLine := by have := r.un; omega
def y6 : TA := fun _ H Q => Q [] H
def zG (ta : TE) (tr : TA) : TA := fun σ H Q => ta σ H fun x H1 => tr σ H1 fun xs H2 => Q (x :: xs) H2
section
variable {X : Cx} {e : Expr} {es : List Expr} {te : TE} {t : TA} {pos : Pos}
theorem ag : PA X [] y6 := fun _ _ _ _ H Q I h => Calls.spliced_nil ⟨[], H, I, .nil, h⟩
theorem af (ha : PE X e te) (hr : PA X es t) (hs : starEach (e :: es) X.env = (false, eval e X.env) :: starEach es X.env := by rfl) : PA X (e :: es) (zG te t) := by
 intro pos pins s σ H Q I h
 rw [hs]
 show wpAny _ _ (spliced ((false, eval e X.env) :: backTo pos (starEach es X.env))) _ _ s
 refine Calls.spliced_cons (bK (ha pins s σ H _ I h) fun u s1 ⟨x, H1, I1, r1, q1⟩ => ?_)
 exact bK (hr pos pins s1 σ H1 _ I1 q1) fun us s2 ⟨xs, H2, I2, r2, q2⟩ => ⟨x :: xs, H2, I2, .cons r1 r2, q2⟩
def MA (t : TA) : TE := fun σ H Q => t σ H fun xs H1 => xs.length <= sizeLine /\ ∀ p, H1 p = none -> Q (.ref p) (upd H1 p (.tup xs))
def Lf (t : TA) : TE := fun σ H Q => t σ H fun xs H1 => xs.length <= sizeLine /\ ∀ p, H1 p = none -> Q (.ref p) (upd H1 p (.lst xs))
theorem GU {x1} (h : PA X es t) : PE X (.Tuple es x1 pos) (MA t) := by
 intro pins s σ H Q I hq
 refine wpAny_Tuple_spliced (bK (h pos pins s σ H _ I hq) fun us s1 ⟨xs, H1, I1, r, z, q⟩ => ⟨by rw [<- r.length]; exact z, ?_⟩)
 have hf : H1 s1.heap.objs.size = none := I1.a9.fresh (Nat.le_refl _)
 refine ⟨.ref s1.heap.objs.size, upd H1 s1.heap.objs.size (.tup xs), I1.laid (t' := s1.toks) (fun b u e => Heap.get?_push_of_some _ e) (Nat.le_refl _) ?_, rfl, q _ hf⟩
 exact ⟨z, us, r, ⟨_, Heap.get?_push_size _ rfl, rfl, _, rfl⟩⟩
theorem Fm (h : PA X es t) : PE X (.List es pos) (Lf t) := by
 intro pins s σ H Q I hq
 refine wpAny_List_spliced (bK (h pos pins s σ H _ I hq) fun us s1 ⟨xs, H1, I1, r, z, q⟩ => ⟨by rw [<- r.length]; exact z, ?_⟩)
 have hf : H1 s1.heap.objs.size = none := I1.a9.fresh (Nat.le_refl _)
 refine ⟨.ref s1.heap.objs.size, upd H1 s1.heap.objs.size (.lst xs), I1.laid (t' := s1.toks) (fun b u e => Heap.get?_push_of_some _ e) (Nat.le_refl _) ?_, rfl, q _ hf⟩
 exact ⟨z, us, 0, r, Heap.get?_push_size _ rfl⟩
end
abbrev Sp := List V -> Hp -> VK -> XK -> Prop
abbrev qT := List Env -> Hp -> Shared -> XK -> Value -> Shared -> Prop
structure vn (P : Program) (w : World) (K : PySem.W.Frag) (mg : Str -> Option Value) (base : Heap) (A : Around) (outer : List Env) (s : Shared) (H : Hp) : Prop where
 frames : A.frames = some outer
 mod : Mod K mg base
 bs : ∀ b o, base.get? b = some o -> s.heap.get? b = some o /\ H b = none
 wZ : base.objs.size <= s.heap.objs.size
 ki : s.heap.FunFrames base outer
 zV : ∀ b ∈ kc outer, H b = none
 a9 : lY P w H s.heap
 bare : AllBare s.gens
def CE (outer : List Env) (P : Program) (w : World) (H : Hp) (s : Shared) (Q : VK) (u : Value) (s' : Shared) : Prop :=
 ∃ v H', s'.os = s.os /\ AllBare s'.gens /\ Un (kc outer) [] H H' s.heap s'.heap /\ lY P w H' s'.heap /\ RelV v u /\ Q v H'
def CR (CX : qT) (outer : List Env) (P : Program) (w : World) (H : Hp) (s : Shared) (Q : VK) (E : XK) (r : Result) (s' : Shared) : Prop :=
 match r with
 | .ok (.ret u) => CE outer P w H s Q u s'
 | .ok _ => False
 | .error e => CX outer H s E e s'
structure bf (P : Program) (w : World) (K : PySem.W.Frag) (mg : Str -> Option Value) (base : Heap) (CX : qT) (k : Nat) (f : Addr) (fd : FuncData) (ps : List Str) (sp : Sp) : Prop where
 len : ∀ vs H Q E, sp vs H Q E -> vs.length = ps.length
 run : ∀ (A : Around) (outer : List Env) (s : Shared) (H : Hp) (args : Args) (us : List Value) (vs : List V) (Q : VK) (E : XK), cX k A -> vn P w K mg base A outer s H -> BindsTo s fd args (ps.zip us) -> Vals vs us -> sp vs H Q E ->
  codeAny (model P w) A (.call (.ref f) args) (CR CX outer P w H s Q E) s
theorem bf.mono {P : Program} {w : World} {K : PySem.W.Frag} {mg : Str -> Option Value} {base : Heap} {CX : qT} {j k : Nat} {f : Addr} {fd : FuncData} {ps : List Str} {sp : Sp} (F : bf P w K mg base CX j f fd ps sp) (h : j <= k) :
 bf P w K mg base CX k f fd ps sp := ⟨F.len, fun A outer s H args us vs Q E hr => F.run A outer s H args us vs Q E (hr.mono h)⟩
theorem vn.make {P : Program} {w : World} {K : PySem.W.Frag} {mg : Str -> Option Value} {base : Heap} {A : Around} {outer : List Env} {s : Shared} {H : Hp} (e : vn P w K mg base A outer s H) (C : Addr) (us : List Value) (kw : List (Str × Value)) :
 vn P w K mg base (A.under (.builtin "type.__call__" ⟨.ref C :: us, kw⟩)) outer s H := ⟨by first | exact e.frames | (simpa [Around.under, Code.envs, Code.isFrame, pushEnvs] using e.frames), e.mod, e.bs, e.wZ, e.ki, e.zV, e.a9, e.bare⟩
section
variable {X : Cx} {pins : List (Addr × Obj)} {σ : St} {H : Hp} {s s' : Shared}
theorem Inv.Gf (I : Inv X pins σ H s) : vn X.prog X.w X.K X.mg X.base X.A X.stack s H :=
 ⟨I.ok.frames, I.ok.mod, I.bs, Nat.le_trans I.ok.wZ I.sz, I.stack, I.nQ, I.a9, I.bare⟩
theorem Inv.after {Q : VK} {u : Value} (I : Inv X pins σ H s) (h : CE X.stack X.prog X.w H s Q u s') : EP X pins σ Q u s' := by
 obtain ⟨v, H', os, bare, un, a9, r, q⟩ := h
 obtain ⟨hh, g, d, t, Oo⟩ := s'
 obtain rfl : Oo = s.os := os
 exact ⟨v, H', I.call (h' := hh) (g' := g) (d' := d) (t' := t) (ch := []) un a9 bare (fun b z => absurd z (by simp)), r, q⟩
end
def xX (sp : Sp) (cU : List V) (E : XK) (t : TA) : TE := fun σ H Q => t σ H fun vs H1 => sp (vs ++ cU) H1 Q E
def xC (C : Addr) (m : Str) (sp : Sp) (cU : List V) (E : XK) (ta : TE) (t : TA) : TE := fun σ H Q => ta σ H fun x H1 => ∃ a dx fs, x = .ref a /\ H1 a = some (.ins C dx fs) /\ fs.lookup m = none /\
 t σ H1 fun vs H2 => sp (x :: (vs ++ cU)) H2 Q E
def Binds (K : PySem.W.Frag) (fd : FuncData) (ps : List Str) (ds : List Value) : Prop :=
 ∀ (s : Shared) (us : List Value), K.In s.heap -> (us ++ ds).length = ps.length -> BindsTo s fd ⟨us, []⟩ (ps.zip (us ++ ds))
theorem Binds.all {K : PySem.W.Frag} {fd : FuncData} {ps : List Str} (h : ∀ us : List Value, us.length = ps.length -> bindArgs fd ⟨us, []⟩ = pure (ps.zip us)) : Binds K fd ps [] := fun s us _ hl => by
 rw [List.append_nil] at hl ⊢
 exact .of_eq (h us hl)
def Passes (CX : qT) (X : Cx) (E : XK) : Prop := ∀ (pins : List (Addr × Obj)) (σ : St) (H : Hp) (s : Shared) (e : Value) (s' : Shared), Inv X pins σ H s -> CX X.stack H s E e s' -> X.xe e s'
section
variable {X : Cx} {CX : qT} {k : Nat} {f C : Addr} {fd : FuncData} {ps : List Str} {sp : Sp} {cU : List V} {ds : List Value} {E : XK} {x m : Str} {p pos apos : Pos} {e o : Expr} {es : List Expr} {ta : TE} {t : TA}
theorem zR {pins : List (Addr × Obj)} {σ : St} {H : Hp} {s : Shared} {Q : VK} {us : List Value} {vs : List V} (F : bf X.prog X.w X.K X.mg X.base CX k f fd ps sp) (hr : cX k X.A) (hb : Binds X.K fd ps ds) (hd : Vals cU ds) (hx : Passes CX X E)
 (I : Inv X pins σ H s) (r : Vals vs us) (h : sp (vs ++ cU) H Q E) : wpAny (model X.prog X.w) X.A (call (.ref f) us) (EP X pins σ Q) X.xe s := by
 have r2 : Vals (vs ++ cU) (us ++ ds) := r.append hd
 have hl : (us ++ ds).length = ps.length := by rw [<- r2.length]; exact F.len _ _ _ _ h
 refine wpAny_call (codeAny_mono (F.run X.A X.stack s H ⟨us, []⟩ (us ++ ds) (vs ++ cU) Q E hr I.Gf (hb s us I.jf hl) r2 h) fun r s' hq => ?_)
 cases r with
 | error e => exact hx pins σ H s e s' I hq
 | ok fl =>
   cases fl with
   | ret u => exact I.after hq
   | next => exact False.elim hq
   | brk => exact False.elim hq
   | cont => exact False.elim hq
theorem Ci (F : bf X.prog X.w X.K X.mg X.base CX k f fd ps sp) (hr : cX k X.A) (hg : Gl X x) (hm : X.mg x = some (.ref f)) (hk : PySem.W.keepIn X.K (.ref f) = true) (hb : Binds X.K fd ps ds) (hd : Vals cU ds) (hx : Passes CX X E)
 (ha : PA X (e :: es) t) (oj : (x == ("__debug__" : Str)) = false := by decide) (he : starEach (e :: es) X.env = (false, eval e X.env) :: starEach es X.env := by rfl) (j1 : (backTo pos (starEach es X.env)).any (·.1) = false := by rfl) :
 PE X (.Call (.Name x p) (e :: es) [] pos) (xX sp cU E t) := by
 intro pins s σ H Q I h
 refine wpAny_Call_Name_kw (eD I hg hm ?_ oj)
 refine PySem.W.callWith_K (h₀ := X.base) I.ok.mod.BD hk (bK (ha pos pins s σ H _ I h) fun us s1 ⟨vs, H1, I1, r, q⟩ => ⟨I1.jf, ?_⟩) he j1
 exact zR F hr hb hd hx I1 r q
theorem Aj {pl : Sem Bool} (he : PE X o ta) (c : pz X.K C) (hm : Meth X.K C m f) (F : bf X.prog X.w X.K X.mg X.base CX k f fd ps sp) (hr : cX k X.A) (hb : Binds X.K fd ps ds) (hd : Vals cU ds) (hx : Passes CX X E)
 (ht : eval (.Call (.Attribute o m apos) [] [] pos) X.env = (do
  let ov <- eval o X.env
  standAt apos.atName
  let (f, first) <- holding [ov] (getMethod ov m pl)
  callWith pos f first (backTo pos (starEach [] X.env)) (backToKw pos (keywordEach [] X.env))) := by rfl) :
 PE X (.Call (.Attribute o m apos) [] [] pos) (xC C m sp cU E ta y6) := by
 intro pins s σ H Q I h
 refine PySem.W.methodCall_KW (pl := pl) (bK (he pins s σ H _ I h) fun u s1 ⟨x, H1, I1, rx, a, dx, fs, ex, ea, l, q⟩ => ?_) ht
 subst ex
 obtain rfl : u = Value.ref a := rx
 refine vO I1 ea c hm l ?_
 exact PySem.W.callWith_K0 (first := [.ref a]) I1.jf hm.kp (zR (us := [.ref a]) (vs := [.ref a]) F hr hb hd hx I1 (.cons rfl .nil) q)
structure Mk (K : PySem.W.Frag) (C f : Addr) : Prop where
 makes : PySem.W.makesIn K C = true
 init : PySem.W.findIn K (.ref C) "__init__" = some (some (.ref f))
 fn : PySem.W.isFn K (.ref f) = true
 kp : PySem.W.keepIn K (.ref C) = true
end
section
variable {X : Cx} {CX : qT} {k : Nat} {f C : Addr} {fd : FuncData} {ps ks : List Str} {sp : Sp} {E : XK} {x m : Str} {p pos apos MH : Pos} {e o : Expr} {es : List Expr} {PN : List Keyword} {te ta : TE} {t tk : TA} {nm : Option Str}
structure Mb (K : PySem.W.Frag) (fd : FuncData) (ps ks : List Str) (g : List Value -> List Value -> List Value) (gV : List V -> List V -> List V) : Prop where
 to : ∀ (s : Shared) (us ws : List Value), K.In s.heap -> (g us ws).length = ps.length -> BindsTo s fd ⟨us, ks.zip ws⟩ (ps.zip (g us ws))
 rel : ∀ {vs : List V} {us : List Value} {zs : List V} {ws : List Value}, Vals vs us -> Vals zs ws -> Vals (gV vs zs) (g us ws)
variable {g : List Value -> List Value -> List Value} {gV : List V -> List V -> List V}
end
structure aG (N P : List Str) (sc : Scope) : Prop where
 kind : sc.kind = .function
 co : sc.isCoroutine = false
 gen : sc.isGenerator = false
 nd : N.Nodup
 pre : N.take P.length = P
 par : ∀ x ∈ P, sc.names.lookup x = some .local \/ sc.names.lookup x = some .cell
 F8 : ∀ y ∈ sc.names, y.2 ≠ .free
theorem sd {kindOf : Str -> Option NameKind} {x : Str} : ∀ {binds : List (Str × Value)} {m : Str -> Option Value}, (∀ v, (x, v) ∉ binds) -> bindL kindOf binds m x = m x
 | [], _, _ => rfl
 | (n, v) :: r, m, h => by
   unfold bindL
   rw [sd fun w hw => h w (List.mem_cons_of_mem _ hw)]
   split
   . have : x ≠ n := by rintro rfl; exact h v List.mem_cons_self
     simp [this]
   . rfl
theorem rL {kindOf : Str -> Option NameKind} {x : Str} : ∀ {binds : List (Str × Value)} {m : Str -> Option Value}, (∀ v, (x, v) ∉ binds) -> bindC kindOf binds m x = m x
 | [], _, _ => rfl
 | (n, v) :: r, m, h => by
   unfold bindC
   rw [rL fun w hw => h w (List.mem_cons_of_mem _ hw)]
   split
   . rfl
   . have : x ≠ n := by rintro rfl; exact h v List.mem_cons_self
     simp [this]
theorem rN {kindOf : Str -> Option NameKind} {x : Str} {v : Value} : ∀ {P : List Str} {vs : List Value} {i : Nat} {m : Str -> Option Value}, P.Nodup -> P[i]? = some x -> vs[i]? = some v -> kindOf x = some .local ->
 bindL kindOf (P.zip vs) m x = some v
 | [], _, _, _, _, h, _, _ => by simp at h
 | _ :: _, [], _, _, _, _, h, _ => by simp at h
 | p :: P, w :: vs, 0, m, nd, h1, h2, hk => by
   simp at h1 h2; subst h1; subst h2
   show bindL kindOf ((p, w) :: P.zip vs) m p = _
   unfold bindL
   rw [sd fun v hv => (List.nodup_cons.mp nd).1 (List.of_mem_zip hv).1, if_pos hk]
   simp
 | p :: P, w :: vs, i + 1, m, nd, h1, h2, hk => by
   show bindL kindOf ((p, w) :: P.zip vs) m x = _
   unfold bindL
   exact rN (i := i) (List.nodup_cons.mp nd).2 (by simpa using h1) (by simpa using h2) hk
theorem r0 {kindOf : Str -> Option NameKind} {x : Str} {v : Value} : ∀ {P : List Str} {vs : List Value} {i : Nat} {m : Str -> Option Value}, P.Nodup -> P[i]? = some x -> vs[i]? = some v -> kindOf x ≠ some .local ->
 bindC kindOf (P.zip vs) m x = some v
 | [], _, _, _, _, h, _, _ => by simp at h
 | _ :: _, [], _, _, _, _, h, _ => by simp at h
 | p :: P, w :: vs, 0, m, nd, h1, h2, hk => by
   simp at h1 h2; subst h1; subst h2
   show bindC kindOf ((p, w) :: P.zip vs) m p = _
   unfold bindC
   rw [rL fun v hv => (List.nodup_cons.mp nd).1 (List.of_mem_zip hv).1, if_neg hk]
   simp
 | p :: P, w :: vs, i + 1, m, nd, h1, h2, hk => by
   show bindC kindOf ((p, w) :: P.zip vs) m x = _
   unfold bindC
   exact r0 (i := i) (List.nodup_cons.mp nd).2 (by simpa using h1) (by simpa using h2) hk
def start (N : List Str) (vs : List V) : St := vs.map some ++ List.replicate (N.length - vs.length) none
def gE (CX : qT) (P : Program) (w : World) (K : PySem.W.Frag) (mg : Str -> Option Value) (base : Heap) (N : List Str) (qual : Str) (scope : Scope) (f : Addr) (cd : Value) (A : Around) (outer : List Env) (s : Shared) (H : Hp) (E : XK) : Cx where
 prog := P
 w := w
 K := K
 mg := mg
 base := base
 A := A.deeper (envOfC qual scope s.heap.objs.size f cd)
 N := N
 cJ := s
 Bn := H
 env := envOfC qual scope s.heap.objs.size f cd
 outer := outer
 stack := envOfC qual scope s.heap.objs.size f cd :: outer
 ex := []
 calm := true
 fn := fun _ => true
 pn := []
 xe := fun e s' => wpAny (model P w) (A.deeper (envOfC qual scope s.heap.objs.size f cd)) (leaving (envOfC qual scope s.heap.objs.size f cd) e) (fun _ MG => CX outer H s E e MG) (fun e' MG => CX outer H s E e' MG) s'
theorem uQ {sc : Scope} {n : Nat} {x : Str} (h : sc.names.lookup x = some .cell) : ∃ c, (cellsFrom n sc.names []).lookup x = some c := by
 have q := PySem.W.cellsFrom_some sc.names n [] (.inl h)
 exact Option.isSome_iff_exists.mp q
theorem za {CX : qT} {P : Program} {w : World} {K : PySem.W.Frag} {mg : Str -> Option Value} {base : Heap} {N ps : List Str} {qual : Str} {scope : Scope} {f : Addr} {cd : Value} {A : Around} {outer : List Env} {s s1 : Shared} {H : Hp} {E : XK} {us : List Value} {vs : List V}
 (S : aG N ps scope) (hd : A.handled = none) (e0 : vn P w K mg base A outer s H) (hl : vs.length = ps.length) (r : Vals vs us)
 (x : InCallC s s.heap.objs.size (bindL (envOfC qual scope s.heap.objs.size f cd).kindOf (ps.zip us) fun _ => none) (cellsFrom (s.heap.objs.size + 1) scope.names []) (bindC (envOfC qual scope s.heap.objs.size f cd).kindOf (ps.zip us) fun _ => none) s1) :
 Inv (gE CX P w K mg base N qual scope f cd A outer s H E) [] (start N vs) H s1 := by
 have j1 : ps.length <= N.length := by have := congrArg List.length S.pre; rw [List.length_take] at this; omega
 obtain ⟨h1, tk, rfl, hk⟩ := x.done
 have Ii : ∀ b : Addr, b ∉ (gE CX P w K mg base N qual scope f cd A outer s H E).ex := fun b z => absurd (show b ∈ ([] : List Addr) from z) (by simp)
 refine ⟨⟨e0.mod, S.kind, rfl, rfl, Nat.le_refl _, fun y z c h1 h2 => ?_, fun y hy => ?_, fun y c _ h => ?_, fun _ => hd, Around.frames_deeper e0.frames, .inr ⟨rfl, rfl⟩, fun b z => absurd z (Ii b), e0.bs, e0.wZ, fun b _ _ => Ii b, fun b z => absurd z (Ii b), e0.ki, e0.zV⟩,
  rfl, e0.bare, Un.kept hk, ⟨_, x.toInCall.ns, fun i y v h1 h2 h3 => ?_⟩, fun y c h => ⟨_, x.cell y c h⟩, e0.a9.fresh (Nat.le_refl _), fun y c h => ?_, fun p hp => absurd (show p ∈ ([] : List (Addr × Obj)) from hp) (by simp), e0.a9.kept hk, ?_⟩
 . exact name_of_addr x.apart (PySem.mem_of_lookup h1) (PySem.mem_of_lookup h2)
 . have hy : scope.names.lookup y = some .cell \/ scope.names.lookup y = some .free := hy
   rcases hy with hy | hy
   . exact uQ hy
   . exact absurd rfl (S.F8 _ (PySem.mem_of_lookup hy))
 . exact Nat.le_of_lt (x.above y c (PySem.mem_of_lookup h))
 . have hi : i < vs.length := by
    unfold start at h2
    by_cases hi : i < vs.length
    . exact hi
    . rw [List.getElem?_append_right (by simpa using hi)] at h2
      rw [List.getElem?_replicate] at h2
      split at h2 <;> cases h2
   have ha : vs[i]? = some v := by
    unfold start at h2
    rw [List.getElem?_append_left (by simpa using hi), List.getElem?_map] at h2
    cases e : vs[i]? with
    | none => rw [e] at h2; cases h2
    | some a => rw [e] at h2; cases h2; rfl
   obtain ⟨u, hu, rv⟩ := r.get ha
   have hp : ps[i]? = some y := by
    rw [<- S.pre, List.getElem?_take_of_lt (by omega)]; exact h1
   have M8 : ps.Nodup := by rw [<- S.pre]; exact S.nd.sublist (List.take_sublist _ _)
   refine ⟨u, rv, ?_⟩
   rcases S.par y (List.mem_of_getElem? hp) with k | k
   . exact .inl ⟨k, rN M8 hp hu k⟩
   . obtain ⟨c, e⟩ := uQ (n := s.heap.objs.size + 1) k
     refine .inr ⟨.inl k, c, e, ?_⟩
     have q := x.cell y c e
     rw [r0 M8 hp hu (by show scope.names.lookup y ≠ _; rw [k]; decide)] at q
     exact q
 . exact e0.a9.fresh (Nat.le_of_lt (x.above y c (PySem.mem_of_lookup h)))
 . unfold start
   show _ = N.length
   rw [List.length_append, List.length_map, List.length_replicate]
   omega
theorem Bi {CX : qT} {P : Program} {w : World} {K : PySem.W.Frag} {mg : Str -> Option Value} {base : Heap} {k : Nat} {f : Addr} {name qual : Str} {params : Arguments} {body : List Stmt} {scope : Scope} {dV kV doc pm dn ct oc : Value} {an od : Option Addr}
 {yc : Array (Option Value)} {N ps : List Str} {sp : Sp} (lk : K.lookup f = some ⟨oc, od, .func (PySem.W.fnOf name qual params body scope dV kV doc pm an dn ct), yc⟩) (tQ : PySem.W.codeIn K dn qual = true) (S : aG N ps scope)
 (len : ∀ vs H Q E, sp vs H Q E -> vs.length = ps.length)
 (qe : ∀ (A : Around) (outer : List Env) (s : Shared) (H : Hp) (vs : List V) (Q : VK) (E : XK), cX k (A.deeper (envOfC qual scope s.heap.objs.size f dn)) -> sp vs H Q E ->
  ∃ t, qM (gE CX P w K mg base N qual scope f dn A outer s H E) body t /\ t { nx := fun _ H' => Q .cj H', rt := Q } (start N vs) H) :
 bf P w K mg base CX (k + 1) f (PySem.W.fnOf name qual params body scope dV kV doc pm an dn ct) ps sp := by
 refine ⟨len, fun A outer s H args us vs Q E hr e0 hb r qi => ?_⟩
 have hl := len _ _ _ _ qi
 have KX : K.In s.heap := e0.mod.BD.keeps fun b o e => (e0.bs b o e).1
 have lim : s.heap.NoLimit := e0.mod.nolimit.keeps fun b o e => (e0.bs b o e).1
 have Ji : ∀ y ∈ ps.zip us, scope.names.lookup y.1 = some .local \/ (scope.names.lookup y.1 = some .cell /\ ((cellsFrom (s.heap.objs.size + 1) scope.names []).lookup y.1).isSome = true) := fun ⟨n, v⟩ hy => by
  rcases S.par n (List.of_mem_zip hy).1 with q | q
  . exact .inl q
  . exact .inr ⟨q, PySem.W.cellsFrom_some _ _ _ (.inl q)⟩
 refine codeAny_call_function hr.depth (KX _ _ lk) rfl S.co S.gen rfl (PySem.W.codeRec_of KX tQ) (hb _ _ _ _ ?_)
 refine wpAny_newFunctionEnv_cells S.kind Ji fun env he s1 x => ?_
 subst he
 refine ⟨lim.keeps x.toInCall.keep, codeAny_func ?_⟩
 obtain ⟨t, ht, hq⟩ := qe A outer s H vs Q E (hr.deeper _) qi
 have I : Inv (gE CX P w K mg base N qual scope f dn A outer s H E) [] (start N vs) H s1 := za S hr.hd e0 hl r x
 refine wpAny_mono (ht [] s1 (start N vs) H _ I hq) (fun fl s' hs => ?_) fun e s' hs => hs
 have fin : ∀ {σ' : St} {H' : Hp} {v : V} {u : Value}, Inv (gE CX P w K mg base N qual scope f dn A outer s H E) [] σ' H' s' -> RelV v u -> Q v H' -> CE outer P w H s Q u s' :=
  fun {σ' H' v u} J rv q => ⟨v, H', J.os, J.bare, J.base, J.a9, rv, q⟩
 cases fl with
 | ret u =>
   obtain ⟨v, σ', H', J, rv, q⟩ := hs
   exact fin J rv q
 | next =>
   obtain ⟨σ', H', J, q⟩ := hs
   exact fin (v := V.cj) (u := Value.none) J rfl q
 | brk =>
   obtain ⟨_, _, _, q⟩ := hs
   exact False.elim q
 | cont =>
   obtain ⟨_, _, _, q⟩ := hs
   exact False.elim q
section
variable {X : Cx} {x : Str} {p pos : Pos} {e : Expr} {es : List Expr} {t : TA} {id T : String} {r : List V -> Hp -> VK -> Prop}
def Ky (r : List V -> Hp -> VK -> Prop) (t : TA) : TE := fun σ H Q => t σ H fun vs H1 => r vs H1 Q
theorem aT (hc : fH X (.builtin id) r) (hg : Gl X x) (hm : X.mg x = none) (hv : bootBuiltins x = some (.builtin id)) (ha : PA X (e :: es) t) (hn : x ≠ "__name__" := by decide) (oj : (x == ("__debug__" : Str)) = false := by decide)
 (he : starEach (e :: es) X.env = (false, eval e X.env) :: starEach es X.env := by rfl) (j1 : (backTo pos (starEach es X.env)).any (·.1) = false := by rfl) : PE X (.Call (.Name x p) (e :: es) [] pos) (Ky r t) := by
 intro pins s σ H Q I h
 refine wpAny_Call_Name_kw (vV I hg hm hv ?_ hn oj)
 exact PyProof.Rows.callWith_builtin1 (bK (ha pos pins s σ H _ I h) fun us s1 ⟨vs, H1, I1, r1, q1⟩ => hc pins s1 σ H1 vs us Q I1 r1 q1) he j1
theorem aZ (hc : fH X (.type T) r) (hg : Gl X x) (hm : X.mg x = none) (hv : bootBuiltins x = some (.type T)) (ha : PA X (e :: es) t) (hn : x ≠ "__name__" := by decide) (oj : (x == ("__debug__" : Str)) = false := by decide)
 (he : starEach (e :: es) X.env = (false, eval e X.env) :: starEach es X.env := by rfl) (j1 : (backTo pos (starEach es X.env)).any (·.1) = false := by rfl) : PE X (.Call (.Name x p) (e :: es) [] pos) (Ky r t) := by
 intro pins s σ H Q I h
 refine wpAny_Call_Name_kw (vV I hg hm hv ?_ hn oj)
 exact PyProof.Rows.callWith_type1 (bK (ha pos pins s σ H _ I h) fun us s1 ⟨vs, H1, I1, r1, q1⟩ => hc pins s1 σ H1 vs us Q I1 r1 q1) he j1
end
end L2
namespace HT
open PySem PyProof.Rows
section
open PySem.SeqAt
open PySem.AutoSeq1 (wpAny_loadPart')
open PySem.MeetsSeq PySem.MeetsSeq2 PySem.MeetsSeq3
end
section
variable {prog : Program} {w : World} {A : Around} {E : Value -> Shared -> Prop} {s : Shared}
def fR (n d : Nat) : Option Int -> Nat
 | none => d
 | some v => if v < 0 then (v + (n : Int)).toNat else min v.toNat n
end
end HT
namespace L2
open PySem PySem.Spec PyProof.Rows
abbrev TO := St -> Hp -> (Option Int -> Hp -> Prop) -> Prop
def PO (X : Cx) (e : Option Expr) (t : TO) : Prop :=
 ∀ (pins : List (Addr × Obj)) (s : Shared) (σ : St) (H : Hp) (Q : Option Int -> Hp -> Prop), Inv X pins σ H s -> t σ H Q ->
   wpAny (model X.prog X.w) X.A (evalPart e X.env) (fun u s' => ∃ o H', Inv X pins σ H' s' /\ IsPart u o /\ Q o H') X.xe s
def sQ : TO := fun _ H Q => Q none H
def AB (t : TE) : TO := fun σ H Q => t σ H fun x H1 => ∃ i, x = .int i /\ Q (some i) H1
section
variable {X : Cx} {e : Expr} {te : TE} {lo hi : Option Expr} {tl th : TO} {pos p2 : Pos}
theorem pK : PO X none sQ := by
 intro pins s σ H Q I h
 rw [evalPart_none]
 exact wpAny_pure ⟨none, H, I, .none, h⟩
theorem j9 (h : PE X e te) : PO X (some e) (AB te) := by
 intro pins s σ H Q I hw
 rw [evalPart_some]
 refine bK (h pins s σ H _ I hw) fun u s1 ⟨x, H1, I1, r1, q1⟩ => ?_
 obtain ⟨i, rfl, q⟩ := q1
 obtain ⟨t, rfl⟩ := r1
 exact ⟨some i, H1, I1, .int i t, q⟩
def Kj (X : Cx) (r : V -> Option Int -> Option Int -> Hp -> VK -> Prop) : Prop :=
 ∀ (pins : List (Addr × Obj)) (s : Shared) (σ : St) (H : Hp) (x : V) (v vl vu : Value) (lo hi : Option Int) (sl : Addr) (Q : VK), Inv X pins σ H s -> RelV x v -> s.heap.IsSliceOf sl vl vu .none -> IsPart vl lo -> IsPart vu hi -> r x lo hi H Q ->
   ∃ T id, typeLookup (.type T) "__getitem__" = pure (some (.builtin id)) /\ s.TypeIs v T /\ wpAny (model X.prog X.w) X.A (getItem v (.ref sl)) (EP X pins σ Q) X.xe s
def KJ (r : V -> Option Int -> Option Int -> Hp -> VK -> Prop) (te : TE) (tl th : TO) : TE := fun σ H Q => te σ H fun x H1 => tl σ H1 fun l H2 => th σ H2 fun u H3 => r x l u H3 Q
theorem jO {r : V -> Option Int -> Option Int -> Hp -> VK -> Prop} (hr : Kj X r) (he : PE X e te) (hl : PO X lo tl) (hu : PO X hi th) : PE X (.Subscript e (.Slice lo hi none p2) pos) (KJ r te tl th) := by
 intro pins s σ H Q I h
 refine Subscript_ (bK (he pins s σ H _ I h) fun v s1 ⟨x, H1, I1, r1, q1⟩ => ?_)
 refine wpAny_Slice (bK (hl pins s1 σ H1 _ I1 q1) fun vl s2 ⟨l, H2, I2, pl, q2⟩ => bK (hu pins s2 σ H2 _ I2 q2) fun vu s3 ⟨u, H3, I3, pu, q3⟩ => ?_)
 rw [evalPart_none]
 refine wpAny_pure ?_
 have I4 : Inv X pins σ H3 { s3 with heap := s3.heap.push { cls := .type "slice", data := .fields #[vl, vu, .none] } } := I3.kept (t' := s3.toks) fun b ob q => Heap.get?_push_of_some _ q
 obtain ⟨T, id, hT, ht, hg⟩ := hr pins { s3 with heap := s3.heap.push { cls := .type "slice", data := .fields #[vl, vu, .none] } } σ H3 x v vl vu l u s3.heap.objs.size Q I4 r1 (Heap.IsSliceOf.new ..) pl pu q3
 show wpAny (model X.prog X.w) X.A (subscriptTail e (.Slice lo hi none p2) v (.ref s3.heap.objs.size)) (EP X pins σ Q) X.xe { s3 with heap := s3.heap.push { cls := .type "slice", data := .fields #[vl, vu, .none] } }
 exact tail_any (ops := [.ref s3.heap.objs.size, v]) ht hT hg (by with_unfolding_all rfl)
def tI (xs : List V) (lo hi : Option Int) : List V := (xs.drop (HT.fR xs.length 0 lo)).take (HT.fR xs.length xs.length hi - HT.fR xs.length 0 lo)
theorem tS (xs : List V) (lo hi : Option Int) : (tI xs lo hi).length <= xs.length := by
 unfold tI
 rw [List.length_take, List.length_drop]
 omega
end
def yi (n : Nat) (i : Int) : Option Nat := if 0 <= i then (if i < n then some i.toNat else none) else if -(n : Int) <= i then some (i + n).toNat else none
def o7 {α : Type} (xs : List α) (i : Int) : Option α := (yi xs.length i).bind fun j => xs[j]?
theorem xl {n : Nat} {i : Int} {j : Nat} (h : yi n i = some j) : seqIndex? i n = some j /\ j < n /\ -(n : Int) <= i /\ i < n := by
 unfold yi at h
 by_cases h0 : 0 <= i
 . rw [if_pos h0] at h
   by_cases h1 : i < n
   . rw [if_pos h1] at h
     have e : i.toNat = j := Option.some.inj h
     exact ⟨by rw [seqIndex_of h0 h1, e], by omega, by omega, h1⟩
   . rw [if_neg h1] at h; cases h
 . rw [if_neg h0] at h
   by_cases h1 : -(n : Int) <= i
   . rw [if_pos h1] at h
     have e : (i + n).toNat = j := Option.some.inj h
     exact ⟨by rw [seqIndex_neg (by omega) h1, e], by omega, h1, by omega⟩
   . rw [if_neg h1] at h; cases h
theorem sV {α : Type} {xs : List α} {i : Int} {v : α} (h : o7 xs i = some v) : ∃ j, seqIndex? i xs.length = some j /\ xs[j]? = some v /\ j < xs.length /\ -(xs.length : Int) <= i /\ i < xs.length := by
 unfold o7 at h
 cases e : yi xs.length i with
 | none => rw [e] at h; cases h
 | some j =>
   rw [e] at h
   obtain ⟨h1, h2, h3, h4⟩ := xl e
   exact ⟨j, h1, h, h2, h3, h4⟩
theorem j7 {α : Type} {xs : List α} {j : Nat} {v : α} (h : xs[j]? = some v) : o7 xs (j : Int) = some v := by
 have hj : j < xs.length := (List.getElem?_eq_some_iff.mp h).1
 have e : yi xs.length (j : Int) = some j := by
  unfold yi
  rw [if_pos (by omega), if_pos (by omega)]; simp
 unfold o7; rw [e]; exact h
theorem Bl {α : Type} (xs : List α) (v : α) : o7 (xs ++ [v]) (-1) = some v := by
 have hl : (xs ++ [v]).length = xs.length + 1 := by simp
 have e : yi (xs ++ [v]).length (-1) = some xs.length := by
  unfold yi
  rw [hl, if_neg (by decide), if_pos (by omega)]
  congr 1
  omega
 unfold o7
 rw [e]
 show (xs ++ [v])[xs.length]? = some v
 simp
def xK (b : Expr) : Prop := ∀ o i, subscripted b false o i = operate [o, i] (getItem o i)
def zc (X : Cx) (r : R2) : Prop :=
 ∀ (value slice : Expr) (pins : List (Addr × Obj)) (s : Shared) (σ : St) (H : Hp) (x y : V) (v u : Value) (Q : VK), Inv X pins σ H s -> RelV x v -> RelV y u -> r x y H Q ->
   subscripted slice false v u = operate [v, u] (getItem v u) -> wpAny (model X.prog X.w) X.A (subscriptTail value slice v u) (EP X pins σ Q) X.xe s
def JD (X : Cx) (id : String) (r : V -> List V -> Hp -> VK -> Prop) : Prop :=
 ∀ (pins : List (Addr × Obj)) (s : Shared) (σ : St) (H : Hp) (x : V) (xs : List V) (v : Value) (us : List Value) (Q : VK), Inv X pins σ H s -> RelV x v -> Vals xs us -> r x xs H Q ->
   wpAny (model X.prog X.w) X.A (call (.builtin id) (v :: us)) (EP X pins σ Q) X.xe s
section
variable {X : Cx} {a b : Expr} {ta tb : TE} {pos : Pos}
theorem zc.or {r r' : R2} (h : zc X r) (h' : zc X r') : zc X (fun x y H Q => r x y H Q \/ r' x y H Q) := by
 intro value slice pins s σ H x y v u Q I rx ry q hs
 rcases q with q | q
 . exact h value slice pins s σ H x y v u Q I rx ry q hs
 . exact h' value slice pins s σ H x y v u Q I rx ry q hs
theorem bb {r : R2} (hr : zc X r) (ha : PE X a ta) (hb : PE X b tb) (hs : xK b) : PE X (.Subscript a b pos) (El r ta tb) := by
 intro pins s σ H Q I h
 exact Subscript_ (Fc ha hb I h fun v u s2 x y H2 I2 rx ry q => hr a b pins s2 σ H2 x y v u Q I2 rx ry q (hs _ _))
def Fo (K : PySem.W.Frag) : R2 := fun x y H Q => ∃ p xs i v, x = .ref p /\ y = .int i /\ fW K H p xs /\ o7 xs i = some v /\ Q v H
def J9 (K : PySem.W.Frag) : R2 := fun x y H Q => ∃ p xs i v, x = .ref p /\ y = .int i /\ x8 K H p xs /\ o7 xs i = some v /\ Q v H
def Fg : R2 := fun x y H Q => ∃ z i c, x = .str z /\ y = .int i /\ z.length <= sizeLine /\ o7 z.cps.toList i = some c /\ Q (.str ⟨#[c]⟩) H
theorem xU : zc X (Fo X.K) := by
 intro value slice pins s σ H x y v u Q I rx ry h hs
 obtain ⟨p, xs, i, z, rfl, rfl, hq, he, q⟩ := h
 cases rx
 obtain ⟨t, rfl⟩ := ry
 obtain ⟨aU, r, pl, hz⟩ := I.list hq
 obtain ⟨j, h1, h2, h3, h4, h5⟩ := sV he
 obtain ⟨w, ew, Hx⟩ := r.get h2
 have hl := r.length
 have hn := lQ
 have fin : EP X pins σ Q w s := ⟨z, H, I, Hx, q⟩
 by_cases h0 : 0 <= i
 . have hj : i.toNat = j := by
    rw [seqIndex_of h0 h5] at h1
    exact Option.some.inj h1
   exact item_listR pl.isList h0 (by omega) (by rw [hj]; simpa using ew) fin hs
 . have hj : (i + (aU.toArray.size : Int)).toNat = j := by
    rw [seqIndex_neg (by omega) h4] at h1
    rw [List.size_toArray, <- hl]
    exact Option.some.inj h1
   exact subscriptTail_builtinR (x := w) pl.isList.typeIs slot_list_getitem.lookup
    (wpAny_getItem_list_neg (Q := fun r s' => r = w /\ EP X pins σ Q r s') pl.isList (by omega) (by rw [List.size_toArray] <;> omega) (by omega) (by rw [hj]; simpa using ew) ⟨rfl, fin⟩) hs
theorem FW : zc X (J9 X.K) := by
 intro value slice pins s σ H x y v u Q I rx ry h hs
 obtain ⟨p, xs, i, z, rfl, rfl, hq, he, q⟩ := h
 cases rx
 obtain ⟨t, rfl⟩ := ry
 obtain ⟨aU, r, pl, hz⟩ := I.tuple hq
 obtain ⟨j, h1, h2, h3, h4, h5⟩ := sV he
 obtain ⟨w, ew, Hx⟩ := r.get h2
 have hl := r.length
 have hn := lQ
 have fin : EP X pins σ Q w s := ⟨z, H, I, Hx, q⟩
 exact subscriptTail_builtinR (x := w) pl.typeIs slot_tuple_getitem.lookup
  (getItem_tuple (j := j) (Q := fun r s' => r = w /\ EP X pins σ Q r s') pl (by omega) (by omega) (by rw [List.size_toArray, <- hl]; exact h1) (by simpa using ew) ⟨rfl, fin⟩) hs
theorem Gb : zc X Fg := by
 intro value slice pins s σ H x y v u Q I rx ry h hs
 obtain ⟨z, i, c, rfl, rfl, hz, he, q⟩ := h
 obtain ⟨t, rfl⟩ := rx
 obtain ⟨t', rfl⟩ := ry
 obtain ⟨j, h1, h2, h3, h4, h5⟩ := sV he
 have hl : z.cps.toList.length = z.length := by simp [Str.length]
 rw [hl] at h1 h4 h5
 have hn := lQ
 exact tail_any (typeIs_str s z t) slot_str_getitem.lookup (getItem_str (c := c) (by
  have e1 : decide (i < -(2 ^ 63 : Int)) = false := decide_eq_false (by omega)
  have e2 : decide (i ≥ 2 ^ 63) = false := decide_eq_false (by omega)
  rw [e1, e2, Bool.or_false]) (by rw [h1]; simpa using h2) ⟨.str ⟨#[c]⟩, H, I.tok _, ⟨_, rfl⟩, q⟩) hs
def Ny (K : PySem.W.Frag) : R2 := fun x y H Q => Fo K x y H Q \/ J9 K x y H Q \/ Fg x y H Q
theorem Fy : zc X (Ny X.K) := xU.or (FW.or Gb)
theorem vC (aU : List Value) (n j : Nat) (u : Value) : Obj.mapSeq (·.setIfInBounds j u) { cls := .type "list", data := .seq aU.toArray n } = { cls := .type "list", data := .seq (aU.set j u).toArray n } := by
 simp [Obj.mapSeq]
theorem Inv.lst {pins : List (Addr × Obj)} {σ : St} {H : Hp} {s : Shared} {p : Addr} {xs : List V} (I : Inv X pins σ H s) (h : H p = some (.lst xs)) :
 ∃ (aU : List Value) (n : Nat), Vals xs aU /\ s.heap.get? p = some { cls := .type "list", data := .seq aU.toArray n } /\ xs.length <= sizeLine := by
 obtain ⟨z, aU, n, r, e⟩ := I.a9 p _ h
 exact ⟨aU, n, r, e, z⟩
theorem Inv.EW {pins : List (Addr × Obj)} {σ : St} {H : Hp} {s : Shared} {p : Addr} {xs ys : List V} {aU its' : List Value} {n n' : Nat} {f : Obj -> Obj} (I : Inv X pins σ H s) (h : H p = some (.lst xs))
 (ho : s.heap.get? p = some { cls := .type "list", data := .seq aU.toArray n }) (hf : f { cls := .type "list", data := .seq aU.toArray n } = { cls := .type "list", data := .seq its'.toArray n' }) (r : Vals ys its') (hz : ys.length <= sizeLine) (t : Nat) :
 Inv X pins σ (upd H p (.lst ys)) { s with heap := s.heap.update p f, toks := t } := by
 have e : (s.heap.update p f).get? p = some { cls := .type "list", data := .seq its'.toArray n' } := by
  rw [Heap.get?_update_self f ho (by rw [hf] <;> rfl), hf]
 refine I.write (x := p) (e := p) (by rw [h]; trivial) (.inl rfl) (fun b u hb q => (Heap.get?_update_other _ _ (Ne.symm hb)).trans q) ⟨_, e⟩ ?_
 exact ⟨hz, its', n', r, e⟩
def D4 : V -> V -> V -> Hp -> (Hp -> Prop) -> Prop := fun o i v H Q => ∃ p xs k j, o = .ref p /\ i = .int k /\ H p = some (.lst xs) /\ yi xs.length k = some j /\ Q (upd H p (.lst (xs.set j v)))
theorem set_list : JZ X D4 := by
 intro pins s σ H o i v ov iv u Q I ro ri rv h
 obtain ⟨p, xs, k, j, rfl, rfl, hp, hj, q⟩ := h
 cases ro
 obtain ⟨t, rfl⟩ := ri
 obtain ⟨aU, n, r, ho, hz⟩ := I.lst hp
 obtain ⟨h1, h2, h3, h4⟩ := xl hj
 have hl := r.length
 have hn := lQ
 have I' : Inv X pins σ (upd H p (.lst (xs.set j v))) { s with heap := s.heap.update p (Obj.mapSeq (·.setIfInBounds j u)) } :=
  I.EW hp ho (vC aU n j u) (r.set rv j) (by rw [List.length_set]; exact hz) s.toks
 by_cases h0 : 0 <= k
 . have hk : k.toNat = j := by
    rw [seqIndex_of h0 h4] at h1
    exact Option.some.inj h1
   exact PySem.W.ki_setAt ho h0 (by omega) (by rw [List.size_toArray, <- hl]; exact h4) (by rw [hk]; exact ⟨_, I', q⟩)
 . have hk : (k + (aU.toArray.size : Int)).toNat = j := by
    rw [seqIndex_neg (by omega) h3] at h1
    rw [List.size_toArray, <- hl]
    exact Option.some.inj h1
   exact PySem.W.ki_setBack ho (by omega) (by rw [List.size_toArray, <- hl]; exact h3) (by omega) (by rw [hk]; exact ⟨_, I', q⟩)
theorem sM (lo hi : Option Int) (n : Nat) : (sliceBounds lo hi none n).1 = ((HT.fR n 0 lo : Nat) : Int) /\ (sliceBounds lo hi none n).2.1 = ((HT.fR n n hi : Nat) : Int) /\ (sliceBounds lo hi none n).2.2 = 1 := by
 refine ⟨?_, ?_, rfl⟩
 . cases lo with
   | none => simp [sliceBounds, HT.fR]
   | some i =>
     simp only [sliceBounds, HT.fR, Option.getD_none, show (1 : Int) > 0 by decide, if_true]
     by_cases h : i < 0
     . simp only [h, if_true] <;> omega
     . simp only [h, if_false] <;> omega
 . cases hi with
   | none => simp [sliceBounds, HT.fR]
   | some i =>
     simp only [sliceBounds, HT.fR, Option.getD_none, show (1 : Int) > 0 by decide, if_true]
     by_cases h : i < 0
     . simp only [h, if_true] <;> omega
     . simp only [h, if_false] <;> omega
theorem rq (aU : List Value) (lo hi : Option Int) : slicePick aU.toArray lo hi none = ((aU.drop (HT.fR aU.length 0 lo)).take (HT.fR aU.length aU.length hi - HT.fR aU.length 0 lo)).toArray := by
 obtain ⟨h1, h2, h3⟩ := sM lo hi aU.toArray.size
 unfold slicePick
 rw [h1, h2, h3]
 simp only [sliceRange_one, pick_run, List.size_toArray] <;> rfl
def uz (K : PySem.W.Frag) : V -> Option Int -> Option Int -> Hp -> VK -> Prop := fun x lo hi H Q => ∃ a xs, x = .ref a /\ fW K H a xs /\ ∀ p, H p = none -> Q (.ref p) (upd H p (.lst (tI xs lo hi)))
theorem cm : Kj X (uz X.K) := by
 intro pins s σ H x v vl vu lo hi sl Q I rx hs pl pu h
 obtain ⟨a, xs, rfl, hx, q⟩ := h
 cases rx
 obtain ⟨aU, r, ht, hz⟩ := I.list hx
 have hlen := r.length
 refine ⟨"list", _, slot_list_getitem.lookup, ht.isList.typeIs, ?_⟩
 refine wpAny_getItem_list_slice ht.isList hs pl pu .none (by simp) ?_ (by rw [List.size_toArray] <;> omega)
 rw [rq, <- hlen]
 refine ⟨.ref s.heap.objs.size, _, I.laid (t' := s.toks) (o := .lst (tI xs lo hi)) (fun b ob q => Heap.get?_push_of_some _ q) (Nat.le_refl _) ?_, rfl, q _ (I.a9.fresh (Nat.le_refl _))⟩
 exact ⟨Nat.le_trans (tS xs lo hi) hz, _, 0, (r.drop (HT.fR xs.length 0 lo)).take (HT.fR xs.length xs.length hi - HT.fR xs.length 0 lo), Heap.get?_push_size _ rfl⟩
theorem iV : fH X (.builtin "len") (fun xs H Q => ∃ p ys, xs = [.ref p] /\ (fW X.K H p ys \/ x8 X.K H p ys) /\ Q (.int ys.length) H) := by
 intro pins s σ H xs us Q I r h
 obtain ⟨p, ys, rfl, hq, q⟩ := h
 obtain ⟨u, rfl, rx⟩ := vals1 r
 cases rx
 have hn := lQ
 rcases hq with hq | hq
 . obtain ⟨aU, r', pl, hz⟩ := I.list hq
   have hlen := r'.length
   exact Calls.call_len_list pl.isList (by simp only [List.size_toArray] <;> omega) ⟨.int ys.length, H, I.tok _, ⟨s.toks + 1, by rw [List.size_toArray, hlen]⟩, q⟩
 . obtain ⟨aU, r', pl, hz⟩ := I.tuple hq
   have hlen := r'.length
   exact len_tuple pl (by simp only [List.size_toArray] <;> omega) ⟨.int ys.length, H, I.tok _, ⟨s.toks + 1, by rw [List.size_toArray, hlen]⟩, q⟩
theorem tu : fH X (.builtin "len") (fun xs H Q => ∃ z, xs = [.str z] /\ z.length <= sizeLine /\ Q (.int z.length) H) := by
 intro pins s σ H xs us Q I r h
 obtain ⟨z, rfl, hz, q⟩ := h
 obtain ⟨u, rfl, t, rfl⟩ := vals1 r
 have hn := lQ
 exact len_str (by omega) ⟨.int z.length, H, I.tok _, ⟨_, rfl⟩, q⟩
def Gr (K : PySem.W.Frag) (T : String) (x : V) (H : Hp) : Prop := match x with
 | .str _ => T = "str"
 | .int _ => T = "int"
 | .ref p => (T = "list" /\ ∃ xs, fW K H p xs) \/ (T = "tuple" /\ ∃ o, K.lookup p = some o /\ o.cls = .type "tuple" /\ o.dict = none) \/
  (T = "dict" /\ ((∃ dW, H p = some (.dK dW)) \/ ∃ dW, H p = some (.dT dW))) \/ (T = "set" /\ ∃ S n, H p = some (.set S n))
 | _ => False
theorem Ba {pins : List (Addr × Obj)} {σ : St} {H : Hp} {s : Shared} {T : String} {x : V} {v : Value} (I : Inv X pins σ H s) (r : RelV x v) (ty : Gr X.K T x H) :
 s.TypeIs v T /\ ∀ a, v = .ref a -> ∃ ob, s.heap.get? a = some ob /\ ob.dict = none := by
 cases x with
 | str z =>
   obtain ⟨t, rfl⟩ := r
   cases (show T = "str" from ty)
   exact ⟨typeIs_str s z t, fun _ e => nomatch e⟩
 | int i =>
   obtain ⟨t, rfl⟩ := r
   cases (show T = "int" from ty)
   exact ⟨typeIs_int s i t, fun _ e => nomatch e⟩
 | ref p =>
   cases r
   rcases ty with ⟨rfl, xs, hq⟩ | ⟨rfl, o, hk, hc, hd⟩ | ⟨rfl, hk⟩ | ⟨rfl, S, n, hk⟩
   . obtain ⟨aU, _, pl, _⟩ := I.list hq
     refine ⟨pl.isList.typeIs, fun a e => ?_⟩
     cases e
     obtain ⟨o, n, e, c, hd, _⟩ := pl
     exact ⟨o, e, hd⟩
   . refine ⟨⟨o, I.jf p o hk, hc⟩, fun a e => ?_⟩
     cases e
     exact ⟨o, I.jf _ o hk, hd⟩
   . have z : ∃ o, s.heap.get? p = some o /\ o.ExactDict := by
      rcases hk with ⟨dW, hk⟩ | ⟨dW, hk⟩
      . obtain ⟨_, _, _, _, o, _, _, e, ex, _⟩ := I.a9 p _ hk
        exact ⟨o, e, ex⟩
      . obtain ⟨_, _, _, _, o, _, _, e, ex, _⟩ := I.a9 p _ hk
        exact ⟨o, e, ex⟩
     obtain ⟨o, e, ex⟩ := z
     refine ⟨⟨o, e, ex.1⟩, fun a e2 => ?_⟩
     cases e2
     exact ⟨o, e, ex.2.1⟩
   . obtain ⟨o, _, _, _, e, ex, _⟩ := I.a9 p _ hk
     refine ⟨⟨o, e, ex.1⟩, fun a e2 => ?_⟩
     cases e2
     exact ⟨o, e, ex.2.1⟩
 | _ => exact False.elim ty
def Jp (K : PySem.W.Frag) (T : String) (r : V -> List V -> Hp -> VK -> Prop) (to : TE) : TE := fun σ H Q => to σ H fun x H1 => Gr K T x H1 /\ r x [] H1 Q
def Nb (K : PySem.W.Frag) (T : String) (r : V -> List V -> Hp -> VK -> Prop) (to : TE) (t : TA) : TE := fun σ H Q => to σ H fun x H1 => Gr K T x H1 /\ t σ H1 fun xs H2 => r x xs H2 Q
variable {o e : Expr} {es : List Expr} {to : TE} {t : TA} {name : Str} {apos dc : Pos} {T id : String} {r : V -> List V -> Hp -> VK -> Prop}
theorem G7 (pa : PlainAttrs T) (slot : Slot T name id) (LU : typeOf (.builtin id) = pure (.type "method_descriptor")) (hm : JD X id r) (ho : PE X o to)
 (qk : attributeBase o name X.env (eval o X.env) = eval o X.env := by rfl) (hline : (apos.endLine == dc.line) = true := by rfl) : PE X (.Call (.Attribute o name apos) [] [] dc) (Jp X.K T r to) := by
 intro pins s σ H Q I h
 refine wpAny_Call_method0_late qk hline (bK (ho pins s σ H _ I h) fun v s1 ⟨x, H1, I1, r1, ty, q1⟩ => ?_)
 obtain ⟨h1, h2⟩ := Ba I1 r1 ty
 exact ⟨T, id, pa, slot, LU, h1, h2, Calls.callWith_builtin rfl (PySem.evalArgs_none (hm pins s1 σ H1 x [] v [] Q I1 r1 .nil q1))⟩
theorem qh (pa : PlainAttrs T) (slot : Slot T name id) (LU : typeOf (.builtin id) = pure (.type "method_descriptor")) (hm : JD X id r) (ho : PE X o to) (ha : PA X (e :: es) t)
 (qk : attributeBase o name X.env (eval o X.env) = eval o X.env := by rfl)
 (Lp : ((backTo dc (starEach (e :: es) X.env)).all (fun x => !x.1) && (backToKw dc (keywordEach [] X.env)).all (fun x => x.1.isSome)
  && decide ((e :: es).length + ([] : List Keyword).length + (if ([] : List Keyword).isEmpty then 0 else 1) < 30)) = true := by rfl)
 (hline : (apos.endLine == dc.line) = true := by rfl) (hs : starEach (e :: es) X.env = (false, eval e X.env) :: starEach es X.env := by rfl) (lN : (backTo dc (starEach es X.env)).any (·.1) = false := by rfl) :
 PE X (.Call (.Attribute o name apos) (e :: es) [] dc) (Nb X.K T r to t) := by
 intro pins s σ H Q I h
 refine wpAny_Call_method_late qk Lp hline rfl (bK (ho pins s σ H _ I h) fun v s1 ⟨x, H1, I1, r1, ty, q1⟩ => ?_)
 obtain ⟨h1, h2⟩ := Ba I1 r1 ty
 refine ⟨T, id, pa, slot, LU, h1, h2, ?_⟩
 have hA := ha dc pins s1 σ H1 _ I1 q1
 rw [hs] at hA ⊢
 refine Calls.callWith_builtin (by show (false || (backTo dc (starEach es X.env)).any (·.1)) = false; rw [lN] <;> rfl) (Calls.evalArgs_plain ?_)
 exact bK hA fun us s2 ⟨vs, H2, I2, r2, q2⟩ => hm pins s2 σ H2 x vs v us Q I2 r1 r2 q2
end
def Nq (X : Cx) (id : String) (r : V -> List V -> Hp -> VK -> Prop) : Prop :=
 ∀ (pins : List (Addr × Obj)) (s : Shared) (σ : St) (H : Hp) (x : V) (xs : List V) (v : Value) (us : List Value) (Q : VK), Inv X pins σ H s -> RelV x v -> Vals xs us -> r x xs H Q ->
   wpAny (model X.prog X.w) X.A (call (.builtin id) (v :: us)) (EP X pins σ Q) X.xe s
theorem Vals.one : ∀ {x : V} {us : List Value}, Vals [x] us -> ∃ u, us = [u] /\ RelV x u
 | _, _, .cons r .nil => ⟨_, rfl, r⟩
theorem Vals.zero : ∀ {us : List Value}, Vals [] us -> us = []
 | _, .nil => rfl
theorem Vals.dropLast {xs : List V} {us : List Value} (h : Vals xs us) : Vals xs.dropLast us.dropLast := by
 induction h with
 | nil => exact .nil
 | cons r t ih =>
   cases t with
   | nil => exact .nil
   | cons q t' => exact .cons r ih
theorem Vals.reverse {xs : List V} {us : List Value} (h : Vals xs us) : Vals xs.reverse us.reverse := by
 induction h with
 | nil => exact .nil
 | cons r t ih => rw [List.reverse_cons, List.reverse_cons]; exact Vals.append ih (.cons r .nil)
section
variable {X : Cx} {pins : List (Addr × Obj)} {σ : St} {H : Hp} {s : Shared} {l b : Addr} {xs ys zs : List V}
theorem Inv.Il {aU its' : List Value} {n : Nat} {f : Array Value -> Array Value} {t' : Nat} (I : Inv X pins σ H s) (hH : H l = some (.lst xs))
 (e : s.heap.get? l = some { cls := .type "list", data := .seq aU.toArray n }) (hf : f aU.toArray = its'.toArray) (hv : Vals ys its') (hz : ys.length <= sizeLine) :
 Inv X pins σ (upd H l (.lst ys)) { s with heap := s.heap.update l (Obj.mapSeq f), toks := t' } := by
 have q := PySem.IsL.update e f
 rw [hf] at q
 refine I.write (x := l) (e := l) (by rw [hH]; exact trivial) (.inl rfl) (fun b' u hb hu => (Heap.get?_update_other s.heap (Obj.mapSeq f) (Ne.symm hb)).trans hu) ⟨_, q⟩ ?_
 exact ⟨hz, its', _, hv, q⟩
theorem Inv.ML {aU : List Value} {t' : Nat} (I : Inv X pins σ H s) (hv : Vals ys aU) (hz : ys.length <= sizeLine) :
 Inv X pins σ (upd H s.heap.objs.size (.lst ys)) { s with heap := s.heap.push { cls := .type "list", data := .seq aU.toArray }, toks := t' } :=
 I.laid (fun _ _ q => Heap.get?_push_of_some _ q) (Nat.le_refl _) ⟨hz, aU, 0, hv, Heap.get?_push_size _ rfl⟩
theorem Inv.fresh (I : Inv X pins σ H s) : H s.heap.objs.size = none := I.a9.fresh (Nat.le_refl _)
theorem Inv.DN (I : Inv X pins σ H s) (hH : H l = some (.lst xs)) : xs.length <= sizeLine /\ ∃ (aU : List Value) (n : Nat), Vals xs aU /\ xs.length = aU.length /\ s.heap.get? l = some { cls := .type "list", data := .seq aU.toArray n } := by
 obtain ⟨z, aU, n, r, e⟩ := I.a9 l _ hH
 exact ⟨z, aU, n, r, r.length, e⟩
end
section
variable {X : Cx}
def xG : V -> List V -> Hp -> VK -> Prop := fun x vs H Q => ∃ l xs y, x = .ref l /\ vs = [y] /\ H l = some (.lst xs) /\ xs.length < sizeLine /\ Q .cj (upd H l (.lst (xs ++ [y])))
theorem yM : Nq X "list.append" xG := by
 intro pins s σ H x vs v us Q I rx rv h
 obtain ⟨l, xs, y, rfl, rfl, hH, hz, q⟩ := h
 cases rx
 obtain ⟨u, rfl, ru⟩ := rv.one
 obtain ⟨z, aU, n, r, hl, e⟩ := I.DN hH
 refine call_meets F.slot_list_append ⟨_, e, rfl⟩ F.entry_list_append (F.args_list_append_2 _ _) (PySem.list_append l aU.toArray n u (by rw [List.size_toArray]; omega)) ⟨e, ?_⟩
 refine ⟨.cj, _, I.Il (its' := aU ++ [u]) hH e (by simp) (r.append (.cons ru .nil)) ?_, rfl, q⟩
 rw [List.length_append, List.length_singleton]
 omega
def uS : V -> List V -> Hp -> VK -> Prop := fun x vs H Q => ∃ l xs, x = .ref l /\ vs = [] /\ H l = some (.lst xs) /\ Q .cj (upd H l (.lst xs.reverse))
theorem vR : Nq X "list.reverse" uS := by
 intro pins s σ H x vs v us Q I rx rv h
 obtain ⟨l, xs, rfl, rfl, hH, q⟩ := h
 cases rx
 have Om := rv.zero
 subst Om
 obtain ⟨z, aU, n, r, hl, e⟩ := I.DN hH
 refine call_meets F.slot_list_reverse ⟨_, e, rfl⟩ F.entry_list_reverse (F.args_list_reverse_1 _) (AutoSeq1.list_reverse_list_0 l aU.toArray n (by rw [List.size_toArray]; omega)) ⟨e, ?_⟩
 refine ⟨.cj, _, I.Il (its' := aU.reverse) hH e (by simp) r.reverse ?_, rfl, q⟩
 rw [List.length_reverse]
 omega
def FD : R2 := fun x y H Q => ∃ l b xs zs, x = .ref l /\ y = .ref b /\ H l = some (.lst xs) /\ H b = some (.lst zs) /\ xs.length + zs.length <= sizeLine /\ ∀ p, H p = none -> Q (.ref p) (upd H p (.lst (xs ++ zs)))
theorem eN : jn X (binaryOp .Add) FD := by
 intro pins s σ H x y v u Q I rx ry h
 obtain ⟨l, b, xs, zs, rfl, rfl, hH, hB, hz, q⟩ := h
 cases rx
 cases ry
 obtain ⟨z, aU, n, r, hl, e⟩ := I.DN hH
 obtain ⟨z2, JX, n2, r2, Mr, e2⟩ := I.DN hB
 refine PySem.P.add_list e e2 ?_ (by rw [List.size_toArray, List.size_toArray]; omega)
 have ea : aU.toArray ++ JX.toArray = (aU ++ JX).toArray := by simp
 rw [ea]
 exact ⟨.ref _, _, I.ML (t' := s.toks) (r.append r2) (by rw [List.length_append]; omega), rfl, q _ I.fresh⟩
end
section
variable {prog : Program} {w : World} {A : Around} {E : Value -> Shared -> Prop} {s : Shared}
set_option maxRecDepth 100000 in
end
section
variable {X : Cx}
end
section
variable {κ : Type} [DecidableEq κ]
def t7 (dW : List (κ × V)) (k : κ) : Option V := (dW.find? fun kv => decide (kv.1 = k)).map (·.2)
theorem zL {p : κ × V} {r : List (κ × V)} {k : κ} (e : p.1 = k) : t7 (p :: r) k = some p.2 := by simp [t7, List.find?_cons, e]
theorem zY {p : κ × V} {r : List (κ × V)} {k : κ} (e : ¬ p.1 = k) : t7 (p :: r) k = t7 r k := by simp [t7, List.find?_cons, e]
theorem nE.yd {o : Option V} {u : Option Value} (r : nE o u) : o.isSome = u.isSome := by
 cases o with
 | none => cases u with
   | none => rfl
   | some _ => exact (show False from r).elim
 | some _ => cases u with
   | none => exact (show False from r).elim
   | some _ => rfl
theorem KV.val {dW : List (κ × V)} {vs : List (κ × Value)} (r : KV dW vs) (k : κ) : nE (t7 dW k) (valueAt vs k) := by
 unfold KV at r
 induction r with
 | nil => exact True.intro
 | @cons p q ps qs h t ih =>
   obtain ⟨h1, h2⟩ := h
   by_cases e : p.1 = k
   . have e' : q.1 = k := h1.symm.trans e
     have b : valueAt (q :: qs) k = some q.2 := by simp [valueAt, List.find?_cons, e']
     rw [zL e, b]; exact h2
   . have e' : ¬ q.1 = k := fun z => e (h1.trans z)
     have b : valueAt (q :: qs) k = valueAt qs k := by simp [valueAt, List.find?_cons, e']
     rw [zY e, b]; exact ih
end
theorem Ew {P : Program} {w : World} {k : Key} {u : Value} (r : RelV (kV k) u) : (eE P w).is k u = true := by
 cases k with
 | inl i => obtain ⟨t, e⟩ := (show ∃ t, u = Value.int i t from r); subst e; exact tW P w i t
 | inr x => obtain ⟨t, e⟩ := (show ∃ t, u = Value.str x t from r); subst e; exact t4 P w x t
section
variable {P : Program} {w : World} {H : Hp} {h : Heap} {a : Addr}
end
section
variable {X : Cx} {pins : List (Addr × Obj)} {σ : St} {H : Hp} {s : Shared} {a : Addr} {y v : V} {u r : Value} {o : Option V} {A : Around} {E : Value -> Shared -> Prop}
end
section
variable {X : Cx} {pins : List (Addr × Obj)} {σ : St} {H : Hp} {s : Shared} {a : Addr} {dW : List (Key × V)} {k : Key} {u : Value} {A : Around} {E : Value -> Shared -> Prop}
end
def HD (i : Expr) : Prop := ∀ ov iv, subscripted i false ov iv = operate [ov, iv] (getItem ov iv)
theorem C5 {prog : Program} {w : World} {A : Around} {E : Value -> Shared -> Prop} {s : Shared} {env : Env} {value slice : Expr} {pos : Pos} {T id : String} {Q : Value -> Shared -> Prop}
 (hl : typeLookup (.type T) "__getitem__" = pure (some (.builtin id))) (hs : HD slice)
 (h : wpAny (model prog w) A (eval value env) (fun o s₁ => wpAny (model prog w) A (eval slice env) (fun i s₂ => s₂.TypeIs o T /\ wpAny (model prog w) A (getItem o i) Q E s₂) E s₁) E s) :
 wpAny (model prog w) A (eval (.Subscript value slice pos) env) Q E s := by
 refine Subscript_ (wpAny_mono h (fun o s₁ h₁ => wpAny_mono h₁ (fun i s₂ h₂ => ?_) fun _ _ x => x) fun _ _ x => x)
 obtain ⟨hT, h₂⟩ := h₂
 unfold subscriptTail
 refine wpAny_bind ?_
 rw [getitemInPython_of_ne hT.not_modules]
 refine wpAny_bind (wpAny_specialOf hT hl ?_)
 have fin : wpAny (model prog w) A (subscripted slice false o i) (fun r s₃ => wpAny (model prog w) A (letTemporaryGo value o r >>= fun _ => pure r) Q E s₃) E s₂ := by
  rw [hs o i]
  exact wpAny_operating (wpAny_mono h₂ (fun r s₃ h₃ => wpAny_bind (wpAny_letTemporaryGo (wpAny_pure h₃))) fun _ _ x => x)
 first
  | exact wpAny_pure (wpAny_bind fin)
  | exact wpAny_bind (wpAny_pure (wpAny_bind fin))
  | exact wpAny_bind fin
section
variable {X : Cx} {o i e value : Expr} {pos pos' Lx : Pos} {td ty tv : TE}
end
section
variable {X : Cx} {pos : Pos}
end
structure M1 (X : Cx) (o : Expr) (m : Str) (apos : Pos) (e : Expr) (dc : Pos) : Prop where
 base : attributeBase o m X.env (eval o X.env) = eval o X.env
 few : ((backTo dc (starEach [e] X.env)).all (fun x => !x.1) && (backToKw dc (keywordEach [] X.env)).all (fun x => x.1.isSome)
  && decide (([e] : List Expr).length + ([] : List Keyword).length + (if ([] : List Keyword).isEmpty then 0 else 1) < 30)) = true
 line : (apos.endLine == dc.line) = true
 trees : backTo dc (starEach [e] X.env) = [(false, eval e X.env)]
structure M2 (X : Cx) (o : Expr) (m : Str) (apos : Pos) (e f : Expr) (dc : Pos) : Prop where
 base : attributeBase o m X.env (eval o X.env) = eval o X.env
 few : ((backTo dc (starEach [e, f] X.env)).all (fun x => !x.1) && (backToKw dc (keywordEach [] X.env)).all (fun x => x.1.isSome)
  && decide (([e, f] : List Expr).length + ([] : List Keyword).length + (if ([] : List Keyword).isEmpty then 0 else 1) < 30)) = true
 line : (apos.endLine == dc.line) = true
 trees : backTo dc (starEach [e, f] X.env) = [(false, eval e X.env), (false, eval f X.env)]
section
variable {X : Cx} {pins : List (Addr × Obj)} {σ : St} {H : Hp} {s : Shared} {a : Addr} {y d : V} {u r : Value} {o : Option V} {A : Around} {E : Value -> Shared -> Prop}
end
section
variable {X : Cx} {o e f : Expr} {apos dc : Pos} {td ty tx : TE}
end
section
variable {X : Cx} {pins : List (Addr × Obj)} {σ : St} {H : Hp} {s : Shared} {a : Addr} {dW : List (Key × V)} {A : Around} {E : Value -> Shared -> Prop}
end
section
variable {X : Cx} {pins : List (Addr × Obj)} {σ : St} {H : Hp} {s : Shared} {a : Addr} {y : V} {u : Value} {A : Around} {E : Value -> Shared -> Prop}
end
end L2
namespace M3
open PySem PySem.W PySem.Calls PyProof.Rows
theorem pA {P : Params} {h : Heap} : ∀ (ns : List Int) (vs : List Value), WellAll P h vs (ns.map WData.int) -> IntsAre vs ns := by
 intro ns
 induction ns with
 | nil =>
   intro vs w
   rw [List.map_nil] at w
   cases w
   exact .nil
 | cons n ns ih =>
   intro vs w
   rw [List.map_cons] at w
   cases w with
   | cons a b =>
     cases a
     exact .cons _ _ (ih _ b)
theorem yW {l : OpenLaw} {n : Nat} (hn : l.most = some n) {P : Params} {h : Heap} {args : List WData} {vals : List Value}
 (Dm : l.row.toRowW.claim.pre args = true) (GI : WellAll P h vals args) :
 ∃ a vs ns, vals = [Value.ref a] /\ args = [WData.list (ns.map WData.int)] /\ h.get? a = some { cls := .type "list", data := .seq vs.toArray } /\ IntsAre vs ns /\ ns.length <= n := by
 have OO : WShape.hasAll [] args [.list .int] = true := (pre_splitW Dm).1
 have hc : l.pre.holds [] { args := args } = true := (pre_splitW Dm).2
 obtain ⟨d, r, rfl, h1, h2⟩ := hasAllW_cons OO
 obtain rfl := hasAllW_nil h2
 obtain ⟨xs, rfl, h3⟩ := hasW_list h1
 obtain ⟨ns, rfl⟩ := items_int h3
 have hlen : ns.length <= n := by
  unfold OpenLaw.pre at hc
  have h4 : (WTm.not (.lt (.lit (.int (n : Int))) (.len (.arg 0)))).holds [] { args := [.list (ns.map .int)] } = true := by
   have h4 := (holds_andW hc).1
   rw [hn] at h4
   exact h4
  have h5 := condW_of h4 (w_not (w_lt w_lit (w_len_list (w_arg rfl))))
  rw [List.length_map] at h5
  refine Nat.le_of_not_lt fun q => ?_
  have q' : (n : Int) < ((ns.length : Nat) : Int) := by omega
  first
   | (rw [decide_eq_true q'] at h5; exact absurd h5 (by decide))
   | (simp at h5; omega)
 cases GI with
 | cons w1 w2 =>
   cases w2
   cases w1 with
   | list ho gJ => exact ⟨_, _, ns, rfl, rfl, ho, pA ns _ gJ, hlen⟩
theorem yL (l : OpenLaw) (args : List WData) : l.row.toRowW.claim.post args (.bool true) args = true :=
 postW_of (r := l.row.toRowW) (X := (true == true))
  (show WShape.has [] (.bool true) .bool = true by first | rfl | decide | simp [WShape.has, WShape.arms, WShape.armsAll])
  (show (WTm.eq .res (.lit (.bool true))).value [] { args := args, res := some (.bool true), after := args } = some (.bool (true == true)) from w_eq_bool (w_res rfl) w_lit) rfl
theorem uW {l : OpenLaw} {n : Nat} {q : Program} {loose : List Str} {XP : (Str -> Option Value) -> Heap -> Prop} {YP : World -> Heap -> Prop} {d : DefRec}
 (hn : l.most = some n) (JN : d.params.defaults = [])
 (call : ∀ (w : World) (cJ s₁ : Shared) (mg mb : Str -> Option Value) (fa : Addr) (o : Obj) (pm cd doc : Value) (a : Addr) (vs : List Value) (ns : List Int),
  Ground q loose [] XP w cJ mg mb s₁.heap -> YP w s₁.heap ->
  s₁.heap.get? fa = some o -> o.data = .func (docDef d.name d.params d.body d.scope pm cd doc) -> s₁.heap.CodeRec cd d.name -> mg d.name = some (.ref fa) ->
  s₁.heap.get? a = some { cls := .type "list", data := .seq vs.toArray } -> IntsAre vs ns -> ns.length <= n -> s₁.gens = #[] ->
  codeAny (model l.prog w) callerA (.call (.ref fa) ⟨[.ref a], []⟩) (fun r s' => r = .ok (.ret (.bool true)) /\ OldK s₁.heap s'.heap /\ s'.os = s₁.os /\ AllBare s'.gens) s₁) :
 WalkO q loose XP YP l.row.toRowW d [] (fun f vs => PySem.call f vs) := by
 intro w cJ s₁ mg mb G Y fa o pm cd doc dV kV ho hd tQ hD JK hg args vals as Dm OS PK GI P2
 obtain rfl : dV = .none := Dflts.none hD JN
 obtain rfl : kV = .none := Dflts.noKw hD
 obtain ⟨a, vs, ns, rfl, rfl, E6, hints, hlen⟩ := yW hn Dm GI
 refine enter_call (codeAny_mono (call w cJ s₁ mg mb fa o pm cd doc a vs ns G Y ho (fd_plain hd) tQ JK E6 hints hlen hg) fun r s' hq => ?_)
 obtain ⟨rfl, h2, h3, h4⟩ := hq
 exact ⟨.inl ⟨.bool true, .bool true, [], rfl, fun _ => rfl, .bool true, yL l _, fun _ => ⟨List.Pairwise.nil, fun _ hm => (nomatch hm)⟩⟩, h2, h3, h4⟩
section
variable {prog : Program} {w : World} {A : Around} {E : Value -> Shared -> Prop} {s : Shared} {K : Frag}
end
end M3
namespace L2
open PySem PySem.Spec PyProof.Rows
theorem rR : ∀ {vs : List Value} {ns : List Int}, IntsAre vs ns -> Vals (ns.map V.int) vs
 | _, _, .nil => .nil
 | _, _, .cons n t h => .cons ⟨t, rfl⟩ (rR h)
def C0 (H : Hp) : Prop := ∀ b, H b = none \/ ∃ o xs, H b = some (.u5 o (.lst xs))
theorem zq {P : Program} {w : World} {K : PySem.W.Frag} {mg mb : Str -> Option Value} {CX : qT} {k : Nat} {fa a : Addr} {fd : FuncData} {x : Str} {sp : Sp} {s₁ : Shared} {vs : List Value} {ns : List Int}
 (KX : K.In s₁.heap) (FU : s₁.heap.Ns mainGlobals mg) (hb : s₁.heap.Ns builtinsNs mb) (N2 : ∀ x : Str, x ≠ "__name__" -> mb x = bootBuiltins x) (Ld : s₁.heap.NoLimit) (hg : s₁.gens = #[])
 (ha : s₁.heap.get? a = some { cls := .type "list", data := .seq vs.toArray }) (hi : IntsAre vs ns) (hl : ns.length <= sizeLine) (hr : cX k callerA)
 (F : ∀ base : Heap, K.In base -> base.Ns mainGlobals mg -> bf P w K mg base CX k fa fd [x] sp) (JY : ∀ (s : Shared) (u : Value), BindsTo s fd ⟨[u], []⟩ [(x, u)])
 (qi : ∀ H : Hp, C0 H -> fW K H a (ns.map V.int) -> sp [.ref a] H (fun v _ => v = .bl true) fun _ _ _ => False)
 (JR : ∀ H e s', CX [] H s₁ (fun _ _ _ => False) e s' -> False) :
 codeAny (model P w) callerA (.call (.ref fa) ⟨[.ref a], []⟩) (fun r s' => r = .ok (.ret (.bool true)) /\ OldK s₁.heap s'.heap /\ s'.os = s₁.os /\ AllBare s'.gens) s₁ := by
 have rv := rR hi
 have MF := hi.length
 have core : ∀ H : Hp, C0 H -> fW K H a (ns.map V.int) -> lY P w H s₁.heap -> (∀ b, H b ≠ none -> b = a) -> (H a ≠ none -> K.lookup a = none) ->
  codeAny (model P w) callerA (.call (.ref fa) ⟨[.ref a], []⟩) (fun r s' => r = .ok (.ret (.bool true)) /\ OldK s₁.heap s'.heap /\ s'.os = s₁.os /\ AllBare s'.gens) s₁ := by
  intro H hO hS a9 hA hK
  have xW : ∀ {b : Addr} {o : Obj}, s₁.heap.get? b = some o -> H b = none -> (tG s₁.heap H).get? b = some o := fun e n => Ab e n
  have Ii : ∀ {b : Addr} {o : Obj} {es : Array DictEntry} {ep : Nat}, s₁.heap.get? b = some o -> o.data = .dict es ep -> H b = none := fun {b o es ep} e d => by
   cases q : H b with
   | none => rfl
   | some u =>
     have e' : b = a := hA b (by rw [q]; simp)
     subst e'
     rw [ha] at e; cases e
     have d' : Data.seq vs.toArray _ = Data.dict es ep := d
     cases d'
  have Ki : ∀ {b : Addr} {m : Str -> Option Value}, s₁.heap.Ns b m -> (tG s₁.heap H).Ns b m := fun {b m} ⟨o, es, ep, e, d, r⟩ => ⟨o, es, ep, xW e (Ii e d), d, r⟩
  have Nz : K.In (tG s₁.heap H) := fun b o e => xW (KX b o e) (by
   cases q : H b with
   | none => rfl
   | some u =>
     have e' : b = a := hA b (by rw [q]; simp)
     subst e'
     rw [hK (by rw [q]; simp)] at e; cases e)
  have hM : Mod K mg (tG s₁.heap H) := ⟨Nz, Ki FU, ⟨mb, Ki hb, N2⟩, let ⟨mc, h1, h2⟩ := Ld; ⟨mc, Ki h1, h2⟩⟩
  have e0 : vn P w K mg (tG s₁.heap H) callerA [] s₁ H := ⟨rfl, hM, fun b o e => Ce e, Nat.le_of_eq (yA _ _), trivial, fun b hb => absurd (show b ∈ ([] : List Addr) from hb) (by simp), a9, .of_eq hg⟩
  refine codeAny_mono ((F _ Nz (Ki FU)).run callerA [] s₁ H ⟨[.ref a], []⟩ [.ref a] [.ref a] _ _ hr e0 (JY s₁ (.ref a)) (.cons rfl .nil) (qi H hO hS)) fun r s' h => ?_
  cases r with
  | error e => exact (JR H e s' h).elim
  | ok fl =>
    cases fl with
    | next => exact False.elim h
    | brk => exact False.elim h
    | cont => exact False.elim h
    | ret u =>
      obtain ⟨v, H', os, bare, un, Mt, r', q⟩ := h
      have q' : v = .bl true := q
      subst q'
      obtain rfl : u = Value.bool true := r'
      refine ⟨rfl, OldK.of_keep fun b o e => ?_, os, bare⟩
      cases q : H b with
      | none => exact un.keep b o e q (by intro z; exact absurd (show b ∈ ([] : List Addr) from z) (by simp)) (by simp)
      | some u =>
        rcases hO b with z | ⟨ob, xs, z⟩
        . rw [q] at z; cases z
        . have z2 := un.jE b ob _ z
          obtain ⟨e1, _⟩ := a9 b _ z
          obtain ⟨e2, _⟩ := Mt b _ z2
          rw [e] at e1; cases e1
          exact e2
 cases hk : K.lookup a with
 | some o =>
   have e := KX a o hk
   rw [ha] at e
   cases e
   refine core (fun _ => none) (fun _ => .inl rfl) (.inr ⟨_, vs.toArray, _, hk, rfl, rfl, rfl, by rw [List.size_toArray, MF]; exact hl, by simpa using rv⟩) (fun b u z => by have z' : (none : Option HO) = some u := z; cases z') (fun b z => absurd rfl z) fun z => absurd rfl z
 | none =>
   refine core (fun b => if b = a then some (.u5 { cls := .type "list", data := .seq vs.toArray } (.lst (ns.map V.int))) else none) (fun b => ?_) (.inl (.inr ⟨{ cls := .type "list", data := .seq vs.toArray }, if_pos rfl⟩)) (fun b u z => ?_) (fun b z => ?_) fun _ => hk
   . by_cases hb : b = a
     . exact .inr ⟨_, _, if_pos hb⟩
     . exact .inl (if_neg hb)
   . by_cases hb : b = a
     . have z' := (if_pos hb).symm.trans z
       cases z'
       subst hb
       exact ⟨ha, by rw [List.length_map]; exact hl, vs, _, rv, ha⟩
     . have z' := (if_neg hb).symm.trans z
       cases z'
   . by_cases hb : b = a
     . exact hb
     . exact absurd (if_neg hb) z
abbrev Kn {K : PySem.W.Frag} {h : Heap} (_ : K.In h) : PySem.W.Frag := K
theorem C9 {l : PySem.W.OpenLaw} {n k : Nat} {q : Program} {loose : List Str} {XP : (Str -> Option Value) -> Heap -> Prop} {YP : World -> Heap -> Prop} {d : DefRec} {K : Params -> PySem.W.Frag} {CX : World -> qT} {sp : World -> Sp} {x : Str}
 (hn : l.most = some n) (Hs : n <= sizeLine) (JN : d.params.defaults = []) (hr : cX k callerA)
 (hY : ∀ (w : World) (h : Heap), YP w h -> (K w.params).In h)
 (F : ∀ (w : World) (mg : Str -> Option Value) (fa : Addr) (h : Heap), (K w.params).In h -> h.Ns mainGlobals mg -> mg d.name = some (.ref fa) ->
  ∃ fd : FuncData, (∀ (s : Shared) (u : Value), BindsTo s fd ⟨[u], []⟩ [(x, u)]) /\
    ∀ base : Heap, (K w.params).In base -> base.Ns mainGlobals mg -> bf l.prog w (K w.params) mg base (CX w) k fa fd [x] (sp w))
 (qi : ∀ (w : World) (H : Hp) (a : Addr) (ns : List Int), ns.length <= n -> C0 H -> fW (K w.params) H a (ns.map V.int) -> sp w [.ref a] H (fun v _ => v = .bl true) fun _ _ _ => False)
 (JR : ∀ (w : World) (H : Hp) (s : Shared) (e : Value) (s' : Shared), CX w [] H s (fun _ _ _ => False) e s' -> False) :
 PySem.W.WalkO q loose XP YP l.row.toRowW d [] (fun f vs => PySem.call f vs) := by
 refine M3.uW hn JN fun w cJ s₁ mg mb fa o pm cd doc a vs ns G Y ho hd tQ JK E6 hints hlen hg => ?_
 have KX := hY w _ Y
 obtain ⟨fd, hb, hF⟩ := F w mg fa _ KX G.T.g JK
 exact zq KX G.T.g G.T.b G.T.builtins G.T.nolimit hg E6 hints (Nat.le_trans hlen Hs) hr hF hb (fun H hO hS => qi w H a ns hlen hO hS) fun H e s' => JR w H s₁ e s'
theorem Az {l : PySem.W.OpenLaw} {n k : Nat} {q : Program} {loose : List Str} {XP : (Str -> Option Value) -> Heap -> Prop} {YP : World -> Heap -> Prop} {d : DefRec} {K : Params -> PySem.W.Frag} {CX : qT} {sp : PySem.W.Frag -> Sp} {x : Str}
 (hn : l.most = some n) (Hs : n <= sizeLine) (JN : d.params.defaults = []) (hr : cX k callerA)
 (hY : ∀ (w : World) (h : Heap), YP w h -> (K w.params).In h)
 (F : ∀ (w : World) (mg : Str -> Option Value) (fa : Addr) (h : Heap), (K w.params).In h -> h.Ns mainGlobals mg -> mg d.name = some (.ref fa) ->
  ∃ fd : FuncData, (∀ (s : Shared) (u : Value), BindsTo s fd ⟨[u], []⟩ [(x, u)]) /\
    ∀ base : Heap, (K w.params).In base -> base.Ns mainGlobals mg -> bf l.prog w (K w.params) mg base CX k fa fd [x] (sp (K w.params)))
 (qi : ∀ (K : PySem.W.Frag) (H : Hp) (a : Addr) (ns : List Int), ns.length <= n -> C0 H -> fW K H a (ns.map V.int) -> sp K [.ref a] H (fun v _ => v = .bl true) fun _ _ _ => False)
 (JR : ∀ (H : Hp) (s : Shared) (e : Value) (s' : Shared), CX [] H s (fun _ _ _ => False) e s' -> False) :
 PySem.W.WalkO q loose XP YP l.row.toRowW d [] (fun f vs => PySem.call f vs) :=
 C9 (K := K) (CX := fun _ => CX) (sp := fun w => sp (K w.params)) hn Hs JN hr hY F (fun w H a ns h1 h2 h3 => qi (K w.params) H a ns h1 h2 h3) fun _ H s e s' => JR H s e s'
def inClass (s : Stmt) (j : Nat) : Stmt := match s with
 | .ClassDef _ _ _ body _ _ _ _ _ _ _ => body.getD j (.Pass ⟨0, 0, 0, 0⟩)
 | _ => .Pass ⟨0, 0, 0, 0⟩
def nK (s : Stmt) : Arguments := match s with
 | .FunctionDef _ a _ _ _ _ _ _ _ _ => a
 | _ => { posonlyargs := [], args := [], vararg := none, kwonlyargs := [], kw_defaults := [], kwarg := none, defaults := [] }
def fS (s : Stmt) : List Stmt := match s with
 | .FunctionDef _ _ b _ _ _ _ _ _ _ => b
 | _ => []
def ak (s : Stmt) : Scope := match s with
 | .FunctionDef _ _ _ _ _ _ sc _ _ _ => sc
 | _ => { kind := .function, names := [], isGenerator := false, isCoroutine := false }
abbrev q9 : qT := fun _ _ _ _ _ _ => False
abbrev E0 : XK := fun _ _ _ => False
theorem DZ {X : Cx} : Passes q9 X E0 := fun _ _ _ _ _ _ _ h => h.elim
structure PV (K : PySem.W.Frag) (x qual : Str) (st : Stmt) (f : Addr) (fd : FuncData) : Prop where
 ex : ∃ (oc : Value) (od : Option Addr) (kV doc pm : Value) (an : Option Addr) (dn ct : Value) (yc : Array (Option Value)),
  fd = PySem.W.fnOf x qual (nK st) (fS st) (ak st) .none kV doc pm an dn ct /\ K.lookup f = some ⟨oc, od, .func fd, yc⟩ /\ PySem.W.codeIn K dn qual = true
 kp : PySem.W.keepIn K (.ref f) = true
section
variable {P : Program} {w : World} {K : PySem.W.Frag} {mg : Str -> Option Value} {base : Heap}
end
section
variable {X : Cx}
theorem pv (i : Nat) {x : Str} {pos : Pos} (hN : X.N[i]? = some x := by rfl) (hv : E4 X.env.scope x := by first | exact Or.inl rfl | exact Or.inr (Or.inl rfl) | exact Or.inr (Or.inr rfl)) (hd : (x == ("__debug__" : Str)) = false := by decide)
 (tQ : (x == ("__classdict__" : Str)) = false := by decide) : PE X (.Name x pos) (DA i) := E1 hN hv hd tQ
end
theorem LC {A B : Prop} (h : B) : if false = true then A else B := by
 rw [if_neg Bool.false_ne_true]
 exact h
theorem K9 {A B : Prop} (h : A) : if true = true then A else B := by
 rw [if_pos rfl]
 exact h
def ao (H H' : Hp) : Prop := ∀ b o, H b = some o -> H' b = some o
theorem ao.refl (H : Hp) : ao H H := fun _ _ h => h
theorem ao.trans {H H1 H2 : Hp} (a : ao H H1) (b : ao H1 H2) : ao H H2 := fun c o h => b c o (a c o h)
theorem ao.seq {K : PySem.W.Frag} {H H' : Hp} {a : Addr} {xs : List V} (e : ao H H') (h : fW K H a xs) : fW K H' a xs := by
 rcases h with (h | ⟨o, h⟩) | h
 . exact .inl (.inl (e _ _ h))
 . exact .inl (.inr ⟨o, e _ _ h⟩)
 . exact .inr h
section
variable {κ : Type} [DecidableEq κ]
end
section
variable {X : Cx}
def D2 (_ j : Int) : Prop := 0 < j /\ j.natAbs < 2 ^ 2000
theorem fA : jn X (binaryOp .FloorDiv) (rI D2 fun i j => .int (i / j)) := Mw fun i j _ _ _ _ _ hc q => by
 have e : i.fdiv j = i / j := Int.fdiv_eq_ediv_of_nonneg _ (Int.le_of_lt hc.1)
 have hl : j.natAbs.log2 < 9000 := by
  have h0 : j.natAbs ≠ 0 := by have := hc.1; omega
  have h2 : j.natAbs.log2 < 2000 := (Nat.log2_lt h0).mpr hc.2
  omega
 refine floordiv_int (by have := hc.1; omega) ?_ (.inl (PyProof.noPylong_of_log2 hl))
 rw [e]; exact q
inductive B7 : V -> Value -> Prop where
 | ty (n : String) : B7 (.ty n) (.type n)
 | ref (C : Addr) : B7 (.ref C) (.ref C)
def z0 (K : PySem.W.Frag) : List V -> Hp -> VK -> Prop := fun xs H Q => ∃ x c cv t b, xs = [x, c] /\ B7 c cv /\ mP K H x t /\ PySem.W.kitOne K t cv = some b /\ Q (.bl b) H
theorem mW : fH X (.builtin "isinstance") (z0 X.K) := by
 intro pins s σ H xs us Q I r h
 obtain ⟨x, c, cv, t, b, rfl, hc, ty, e, q⟩ := h
 obtain ⟨u, w', rfl, r1, r2⟩ := vals2 r
 have ew : w' = cv := by cases hc <;> exact r2
 subst ew
 exact x3 I r1 ty e fun tk => ⟨.bl b, H, I.tok tk, rfl, q⟩
structure zy (K : PySem.W.Frag) (C : Addr) (m : Str) (f : Addr) : Prop where
 ga : PySem.W.specialIn K (.ref C) "__getattribute__" = some (some (.builtin "type.__getattribute__"))
 rd : PySem.W.readsIn K C (.type "type") = true
 fd : PySem.W.findCls K (.ref C) (.type "type") m = some (.val (.ref f))
 kp : PySem.W.keepIn K (.ref f) = true
end
mutual
inductive jx (K : PySem.W.Frag) (H : Hp) : V -> PyData -> Prop where
 | cj : jx K H .cj .none
 | bl (b : Bool) : jx K H (.bl b) (.bool b)
 | int (i : Int) : jx K H (.int i) (.int i)
 | str (x : Str) : jx K H (.str x) (.str x)
 | tup {a : Addr} {xs : List V} {ds : List PyData} (h : x8 K H a xs) (r : eI K H xs ds) : jx K H (.ref a) (.tuple ds)
 | lst {a : Addr} {xs : List V} {ds : List PyData} (h : fW K H a xs) (r : eI K H xs ds) : jx K H (.ref a) (.list ds)
inductive eI (K : PySem.W.Frag) (H : Hp) : List V -> List PyData -> Prop where
 | nil : eI K H [] []
 | cons {x : V} {d : PyData} {xs : List V} {ds : List PyData} (h : jx K H x d) (r : eI K H xs ds) : eI K H (x :: xs) (d :: ds)
end
theorem x8.keeps {K : PySem.W.Frag} {H H' : Hp} {a : Addr} {xs : List V} (e : ao H H') (h : x8 K H a xs) : x8 K H' a xs := by
 rcases h with (h | ⟨o, h⟩) | h
 . exact .inl (.inl (e _ _ h))
 . exact .inl (.inr ⟨o, e _ _ h⟩)
 . exact .inr h
mutual
theorem jx.keeps {K : PySem.W.Frag} {H H' : Hp} (e : ao H H') : ∀ {v : V} {d : PyData}, jx K H v d -> jx K H' v d
 | _, _, .cj => .cj
 | _, _, .bl b => .bl b
 | _, _, .int i => .int i
 | _, _, .str x => .str x
 | _, _, .tup h r => .tup (x8.keeps e h) (eI.keeps e r)
 | _, _, .lst h r => .lst (ao.seq e h) (eI.keeps e r)
theorem eI.keeps {K : PySem.W.Frag} {H H' : Hp} (e : ao H H') : ∀ {vs : List V} {ds : List PyData}, eI K H vs ds -> eI K H' vs ds
 | _, _, .nil => .nil
 | _, _, .cons h r => .cons (jx.keeps e h) (eI.keeps e r)
end
section
variable {X : Cx} {pins : List (Addr × Obj)} {σ : St} {H : Hp} {s : Shared}
mutual
theorem jx.reads (I : Inv X pins σ H s) : ∀ {v : V} {d : PyData} {u : Value}, jx X.K H v d -> RelV v u -> ∃ as, Reads s.heap u d as
 | _, _, _, .cj, r => by cases r; exact ⟨_, .none⟩
 | _, _, _, .bl b, r => by cases r; exact ⟨_, .bool b⟩
 | _, _, _, .int i, r => by obtain ⟨t, rfl⟩ := r; exact ⟨_, .int i t⟩
 | _, _, _, .str x, r => by obtain ⟨t, rfl⟩ := r; exact ⟨_, .str x t⟩
 | _, _, _, .tup h q, r => by
   cases r
   obtain ⟨aU, rv, ⟨o, h1, h2, n, h3⟩, _⟩ := I.tuple h
   obtain ⟨as, ra⟩ := eI.reads I q rv
   exact ⟨_, .tuple h1 h2 h3 (by simpa using ra)⟩
 | _, _, _, .lst h q, r => by
   cases r
   obtain ⟨aU, rv, ⟨o, n, h1, h2, _, h3⟩, _⟩ := I.list h
   obtain ⟨as, ra⟩ := eI.reads I q rv
   exact ⟨_, .list h1 h2 h3 (by simpa using ra)⟩
theorem eI.reads (I : Inv X pins σ H s) : ∀ {vs : List V} {ds : List PyData} {us : List Value}, eI X.K H vs ds -> Vals vs us -> ∃ as, ReadsAll s.heap us ds as
 | _, _, _, .nil, r => by cases r; exact ⟨_, .nil⟩
 | _, _, _, .cons h q, r => by
   cases r with
   | cons r1 r2 =>
     obtain ⟨as, ra⟩ := jx.reads I h r1
     obtain ⟨bs, rb⟩ := eI.reads I q r2
     exact ⟨_, .cons ra rb⟩
end
end
section
variable {X : Cx}
def HX (K : PySem.W.Frag) (f : Bool -> Bool) : R2 := fun x y H Q => ∃ d e, jx K H x d /\ jx K H y e /\ d.canLay0 = true /\ e.canLay0 = true /\ d.depth <= 8 /\ Q (.bl (f (PyData.eqv d e))) H
theorem GY (hu : X.A.units + 8 < cLine) : jn X (compareOp .Eq) (HX X.K id) := by
 intro pins s σ H x y v u Q I rx ry h
 obtain ⟨d, e, hd, he, c1, c2, hn, q⟩ := h
 obtain ⟨as, ra⟩ := hd.reads I rx
 obtain ⟨bs, rb⟩ := he.reads I ry
 exact SeqAt.compareEq_reads ra rb c1 c2 (by have := Nat.min_le_left d.depth e.depth; omega) ⟨.bl _, H, I, rfl, q⟩
theorem FC (hu : X.A.units + 8 < cLine) : jn X (compareOp .NotEq) (HX X.K not) := by
 intro pins s σ H x y v u Q I rx ry h
 obtain ⟨d, e, hd, he, c1, c2, hn, q⟩ := h
 obtain ⟨as, ra⟩ := hd.reads I rx
 obtain ⟨bs, rb⟩ := he.reads I ry
 exact SeqAt.compareNe_reads ra rb c1 c2 (by have := Nat.min_le_left d.depth e.depth; omega) ⟨.bl _, H, I, rfl, q⟩
end
structure rn (P : Program) (w : World) (K : PySem.W.Frag) (mg : Str -> Option Value) (base : Heap) (k : Nat) (f : Addr) (ps : List Str) (cU : List V) (sp : Sp) : Prop where
 ex : ∃ (fd : FuncData) (ds : List Value), bf P w K mg base q9 k f fd ps sp /\ Binds K fd ps ds /\ Vals cU ds
section
variable {X : Cx} {k : Nat} {f C : Addr} {ps : List Str} {sp : Sp} {cU : List V} {x m : Str} {p pos apos : Pos} {e o : Expr} {es : List Expr} {ta : TE} {t : TA}
theorem Cq (c : rn X.prog X.w X.K X.mg X.base k f ps cU sp) (hr : cX k X.A) (hg : Gl X x) (hm : X.mg x = some (.ref f)) (hk : PySem.W.keepIn X.K (.ref f) = true)
 (ha : PA X (e :: es) t) (oj : (x == ("__debug__" : Str)) = false := by decide) (he : starEach (e :: es) X.env = (false, eval e X.env) :: starEach es X.env := by rfl) (j1 : (backTo pos (starEach es X.env)).any (·.1) = false := by rfl) :
 PE X (.Call (.Name x p) (e :: es) [] pos) (xX sp cU E0 t) := by
 obtain ⟨fd, ds, F, hb, hd⟩ := c.ex
 exact Ci F hr hg hm hk hb hd DZ ha oj he j1
theorem Au {pl : Sem Bool} (he : PE X o ta) (c : pz X.K C) (hm : Meth X.K C m f) (F : rn X.prog X.w X.K X.mg X.base k f ps cU sp) (hr : cX k X.A)
 (ht : eval (.Call (.Attribute o m apos) [] [] pos) X.env = (do
  let ov <- eval o X.env
  standAt apos.atName
  let (f, first) <- holding [ov] (getMethod ov m pl)
  callWith pos f first (backTo pos (starEach [] X.env)) (backToKw pos (keywordEach [] X.env))) := by rfl) :
 PE X (.Call (.Attribute o m apos) [] [] pos) (xC C m sp cU E0 ta y6) := by
 obtain ⟨fd, ds, F, hb, hd⟩ := F.ex
 exact Aj he c hm F hr hb hd DZ ht
end
structure cw (K : PySem.W.Frag) (x qual : Str) (st : Stmt) (f : Addr) (dV : Value) (fd : FuncData) : Prop where
 ex : ∃ (oc : Value) (od : Option Addr) (kV doc pm : Value) (an : Option Addr) (dn ct : Value) (yc : Array (Option Value)),
  fd = PySem.W.fnOf x qual (nK st) (fS st) (ak st) dV kV doc pm an dn ct /\ K.lookup f = some ⟨oc, od, .func fd, yc⟩ /\ PySem.W.codeIn K dn qual = true
theorem wR {K : PySem.W.Frag} {x qual : Str} {st : Stmt} {f : Addr} {oc : Value} {od an : Option Addr} {yc : Array (Option Value)} {dV kV doc pm dn ct : Value} (l : K.lookup f = some ⟨oc, od, .func (PySem.W.fnOf x qual (nK st) (fS st) (ak st) dV kV doc pm an dn ct), yc⟩)
 (c : PySem.W.codeIn K dn qual = true) : cw K x qual st f dV (PySem.W.fnOf x qual (nK st) (fS st) (ak st) dV kV doc pm an dn ct) := ⟨⟨oc, od, kV, doc, pm, an, dn, ct, yc, rfl, l, c⟩⟩
section
variable {P : Program} {w : World} {K : PySem.W.Frag} {mg : Str -> Option Value} {base : Heap}
theorem cw.ok {x qual : Str} {st : Stmt} {f : Addr} {dV : Value} {fd : FuncData} {N ps : List Str} {k : Nat} {sp : Sp} (F : cw K x qual st f dV fd) (S : aG N ps (ak st)) (len : ∀ vs H Q E, sp vs H Q E -> vs.length = ps.length)
 (qe : ∀ (dn : Value) (A : Around) (outer : List Env) (s : Shared) (H : Hp) (vs : List V) (Q : VK) (E : XK), cX k (A.deeper (envOfC qual (ak st) s.heap.objs.size f dn)) -> sp vs H Q E ->
  ∃ t, qM (gE q9 P w K mg base N qual (ak st) f dn A outer s H E).Kx (fS st) t /\ t { nx := fun _ H' => Q .cj H', rt := Q } (start N vs) H) : bf P w K mg base q9 (k + 1) f fd ps sp := by
 obtain ⟨oc, od, kV, doc, pm, an, dn, ct, yc, rfl, lk, tQ⟩ := F.ex
 refine Bi lk tQ S len fun A outer s H vs Q E hr qi => ?_
 obtain ⟨t, h, q⟩ := qe dn A outer s H vs Q E hr qi
 exact ⟨t, h.Kx, q⟩
theorem cw.binds {x qual : Str} {st : Stmt} {f : Addr} {dV : Value} {fd : FuncData} {ps : List Str} {ds : List Value} (F : cw K x qual st f dV fd)
 (h : ∀ (kV doc pm : Value) (an : Option Addr) (dn ct : Value), Binds K (PySem.W.fnOf x qual (nK st) (fS st) (ak st) dV kV doc pm an dn ct) ps ds) : Binds K fd ps ds := by
 obtain ⟨oc, od, kV, doc, pm, an, dn, ct, yc, rfl, lk, tQ⟩ := F.ex
 exact h kV doc pm an dn ct
end
structure sD (K : PySem.W.Frag) (T : Addr) (items : Array Value) : Prop where
 ex : ∃ (o : Obj) (n : Nat), K.lookup T = some o /\ o.data = .seq items n
structure Iu (K : PySem.W.Frag) (C : Addr) : Prop where
 ha : PySem.W.findIn K (.ref C) "__class__" = some (some (.builtin "object.__class__"))
 hn : PySem.W.specialIn K (.builtin "object.__class__") "__get__" = some (some (.builtin "getset_descriptor.__get__"))
 ht : PySem.W.takesIn K (.builtin "object.__class__") = some true
 hm : PySem.W.mroIn K C (.type "object") = some true
section
variable {σ : St} {H : Hp} {Q : VK} {D : Ends} {K : PySem.W.Frag}
theorem G0 (h : D.nx σ H) : AX D σ H := h
theorem IC {te : TE} (h : te σ H D.rt) : E5 te D σ H := h
theorem Gh {te : TE} (h : te σ H fun _ H1 => D.nx σ H1) : Ej te D σ H := h
theorem Ir {c : TT} {t u : TS} (h : c σ H fun b H1 => if b = true then t D σ H1 else u D σ H1) : Gk c t u D σ H := h
theorem Iw {te : TE} {i : Nat} (h : te σ H fun x H1 => D.nx (σ.set i (some x)) H1) : vm te (ig i) D σ H := h
theorem DX {i : Nat} {v : V} (e : σ[i]? = some (some v)) (h : Q v H) : DA i σ H Q := ⟨v, e, h⟩
theorem ND {v : V} (h : Q v H) : tC v σ H Q := h
theorem Mx {r : R2} {ta tb : TE} (h : ta σ H fun x H1 => tb σ H1 fun y H2 => r x y H2 Q) : El r ta tb σ H Q := h
theorem LX {r : V -> Hp -> VK -> Prop} {ta : TE} (h : ta σ H fun x H1 => r x H1 Q) : Mf r ta σ H Q := h
theorem K5 {g : Int -> Int -> V} {i j : Int} (h : Q (g i j) H) : Cm g (.int i) (.int j) H Q := ⟨i, j, rfl, rfl, h⟩
theorem Oh {C : Int -> Int -> Prop} {g : Int -> Int -> V} {i j : Int} (c : C i j) (h : Q (g i j) H) : rI C g (.int i) (.int j) H Q := ⟨i, j, rfl, rfl, c, h⟩
theorem Od {g : Int -> V} {i : Int} (h : Q (g i) H) : rU g (.int i) H Q := ⟨i, rfl, h⟩
theorem GC {t : TE} {Q : Bool -> Hp -> Prop} (h : t σ H fun x H' => ∃ k, x = .bl k /\ Q k H') : xQ t σ H Q := h
theorem JM {t u : TT} {Q : Bool -> Hp -> Prop} (h : t σ H fun c H1 => if c = true then u σ H1 Q else Q false H1) : Jo t u σ H Q := h
theorem K2 {t u : TT} {Q : Bool -> Hp -> Prop} (h : t σ H fun c H1 => if c = true then Q true H1 else u σ H1 Q) : MO t u σ H Q := h
theorem JO {t : TT} {Q : Bool -> Hp -> Prop} (h : t σ H fun c H1 => Q (!c) H1) : IL t σ H Q := h
theorem GJ {ta tb : TE} (h : ta σ H fun x H1 => ∃ c, x = .bl c /\ if c = true then tb σ H1 Q else Q (.bl false) H1) : D1 ta tb σ H Q := h
theorem IW {ta tb : TE} (h : ta σ H fun x H1 => ∃ c, x = .bl c /\ if c = true then Q (.bl true) H1 else tb σ H1 Q) : HF ta tb σ H Q := h
theorem Gj {ta : TE} (h : ta σ H fun x H1 => ∃ c, x = .bl c /\ Q (.bl (!c)) H1) : ER ta σ H Q := h
theorem Jt {t : TT} {ta tb : TE} (h : t σ H fun c H1 => if c = true then ta σ H1 Q else tb σ H1 Q) : Np t ta tb σ H Q := h
theorem Mz {b : Bool} {R : Bool -> Prop} (h : R b) : ∃ k, V.bl b = .bl k /\ R k := ⟨b, rfl, h⟩
theorem JV {Q : List V -> Hp -> Prop} (h : Q [] H) : y6 σ H Q := h
theorem G5 {ta : TE} {tr : TA} {Q : List V -> Hp -> Prop} (h : ta σ H fun x H1 => tr σ H1 fun xs H2 => Q (x :: xs) H2) : zG ta tr σ H Q := h
theorem K1 {r : List V -> Hp -> VK -> Prop} {t : TA} (h : t σ H fun vs H1 => r vs H1 Q) : Ky r t σ H Q := h
theorem IH {ta : TE} {f : Str} (h : ta σ H fun x H1 => ∃ a C dx fs v, x = .ref a /\ H1 a = some (.ins C dx fs) /\ pz K C /\ aK K C f /\ fs.lookup f = some v /\ Q v H1) : HQ K ta f σ H Q := h
theorem zO {A B : Prop} (h : A) : if true = true then A else B := by rw [if_pos rfl]; exact h
theorem yD {A B : Prop} (h : B) : if false = true then A else B := by rw [if_neg Bool.false_ne_true]; exact h
end
section
variable {X : Cx} {e : Expr} {es : List Expr}
theorem PE.or {t u : TE} (h1 : PE X e t) (h2 : PE X e u) : PE X e (fun σ H Q => t σ H Q \/ u σ H Q) := fun pins s σ H Q I h => h.elim (h1 pins s σ H Q I) (h2 pins s σ H Q I)
theorem PE.weak {t u : TE} (h1 : PE X e t) (h : ∀ σ H Q, u σ H Q -> t σ H Q) : PE X e u := fun pins s σ H Q I q => h1 pins s σ H Q I (h σ H Q q)
def mA (t : TA) : TA := fun σ H Q => ∃ Q' : List V -> Hp -> Prop, t σ H Q' /\ ∀ v H', Q' v H' -> Q v H'
theorem PA.m {t : TA} (h : PA X es t) : PA X es (mA t) := fun pos pins s σ H Q I ⟨Q', q, m⟩ => bK (h pos pins s σ H Q' I q) fun _ _ ⟨v, H', I', r, z⟩ => ⟨v, H', I', r, m v H' z⟩
end
def KH : Key -> PyData
 | .inl i => .int i
 | .inr x => .str x
mutual
inductive Dv (H : Hp) : V -> PyData -> Prop where
 | cj : Dv H .cj .none
 | bl (b : Bool) : Dv H (.bl b) (.bool b)
 | int (i : Int) : Dv H (.int i) (.int i)
 | str (x : Str) : Dv H (.str x) (.str x)
 | tup {a : Addr} {xs : List V} {ds : List PyData} (h : H a = some (.tup xs)) (r : cf H xs ds) : Dv H (.ref a) (.tuple ds)
 | lst {a : Addr} {xs : List V} {ds : List PyData} (h : Rd H a (.lst xs)) (r : cf H xs ds) : Dv H (.ref a) (.list ds)
 | dct {a : Addr} {dW : List (Key × V)} {ds : List (PyData × PyData)} (h : H a = some (.dK dW)) (r : Cw H dW ds) : Dv H (.ref a) (.dict ds)
inductive Cw (H : Hp) : List (Key × V) -> List (PyData × PyData) -> Prop where
 | nil : Cw H [] []
 | cons {k : Key} {x : V} {d : PyData} {xs : List (Key × V)} {ds : List (PyData × PyData)} (h : Dv H x d) (r : Cw H xs ds) : Cw H ((k, x) :: xs) ((KH k, d) :: ds)
inductive cf (H : Hp) : List V -> List PyData -> Prop where
 | nil : cf H [] []
 | cons {x : V} {d : PyData} {xs : List V} {ds : List PyData} (h : Dv H x d) (r : cf H xs ds) : cf H (x :: xs) (d :: ds)
end
mutual
theorem Dv.has {K : PySem.W.Frag} {H : Hp} : ∀ {v : V} {d : PyData}, Dv H v d -> d.canLay0 = true -> jx K H v d
 | _, _, .cj, _ => .cj
 | _, _, .bl b, _ => .bl b
 | _, _, .int i, _ => .int i
 | _, _, .str x, _ => .str x
 | _, _, .tup h r, c => .tup (.of h) (cf.has r (by simpa [PyData.canLay0] using c))
 | _, _, .lst h r, c => .lst (.inl h) (cf.has r (by simpa [PyData.canLay0] using c))
 | _, _, .dct h r, c => by simp [PyData.canLay0] at c
theorem cf.has {K : PySem.W.Frag} {H : Hp} : ∀ {v : List V} {d : List PyData}, cf H v d -> PyData.canLayAll0 d = true -> eI K H v d
 | _, _, .nil, _ => .nil
 | _, _, .cons h r, c => by
   have c' := c
   simp only [PyData.canLayAll0, Bool.and_eq_true] at c'
   exact .cons (Dv.has h c'.1) (cf.has r c'.2)
end
theorem ao.rd {H H' : Hp} {a : Addr} {u : HO} (e : ao H H') (h : Rd H a u) : Rd H' a u := by
 rcases h with h | ⟨o, h⟩
 . exact .inl (e _ _ h)
 . exact .inr ⟨o, e _ _ h⟩
mutual
theorem Dv.keeps {H H' : Hp} (e : ao H H') : ∀ {v : V} {d : PyData}, Dv H v d -> Dv H' v d
 | _, _, .cj => .cj
 | _, _, .bl b => .bl b
 | _, _, .int i => .int i
 | _, _, .str x => .str x
 | _, _, .tup h r => .tup (e _ _ h) (cf.keeps e r)
 | _, _, .lst h r => .lst (e.rd h) (cf.keeps e r)
 | _, _, .dct h r => .dct (e _ _ h) (Cw.keeps e r)
theorem Cw.keeps {H H' : Hp} (e : ao H H') : ∀ {v : List (Key × V)} {d : List (PyData × PyData)}, Cw H v d -> Cw H' v d
 | _, _, .nil => .nil
 | _, _, .cons h r => .cons (Dv.keeps e h) (Cw.keeps e r)
theorem cf.keeps {H H' : Hp} (e : ao H H') : ∀ {v : List V} {d : List PyData}, cf H v d -> cf H' v d
 | _, _, .nil => .nil
 | _, _, .cons h r => .cons (Dv.keeps e h) (cf.keeps e r)
end
theorem cf.length {H : Hp} : ∀ {xs : List V} {ds : List PyData}, cf H xs ds -> xs.length = ds.length
 | _, _, .nil => rfl
 | _, _, .cons _ r => by simp [cf.length r]
theorem cf.get {H : Hp} : ∀ {xs : List V} {ds : List PyData} {i : Nat} {d : PyData}, cf H xs ds -> ds[i]? = some d -> ∃ x, xs[i]? = some x /\ Dv H x d
 | _, _, _, _, .nil, e => by simp at e
 | _, _, 0, _, .cons h _, e => by simp at e; subst e; exact ⟨_, rfl, h⟩
 | _, _, i + 1, x, .cons _ r, e => by
   obtain ⟨d, h1, h2⟩ := cf.get (i := i) (d := x) r (by simpa using e)
   exact ⟨d, by simpa using h1, h2⟩
theorem cf.append {H : Hp} : ∀ {xs ys : List V} {ds es : List PyData}, cf H xs ds -> cf H ys es -> cf H (xs ++ ys) (ds ++ es)
 | _, _, _, _, .nil, s => s
 | _, _, _, _, .cons r t, s => .cons r (cf.append t s)
theorem Dv.str_inv {H : Hp} {v : V} {i : Str} (h : Dv H v (.str i)) : v = .str i := by cases h; rfl
def sF (H : Hp) (d : PyData) (Q : VK) : Prop := match d with
 | .none => Q .cj H
 | .bool b => Q (.bl b) H
 | .int i => Q (.int i) H
 | .str x => Q (.str x) H
 | d => ∀ v, Dv H v d -> Q v H
theorem sF.use {H : Hp} {d : PyData} {Q : VK} (g : sF H d Q) {v : V} (h : Dv H v d) : Q v H := by
 cases h with
 | cj => exact g
 | bl b => exact g
 | int i => exact g
 | str x => exact g
 | tup h r => exact g _ (.tup h r)
 | lst h r => exact g _ (.lst h r)
 | dct h r => exact g _ (.dct h r)
theorem xk {H : Hp} {xs : List V} {ds : List PyData} {i : Int} {d : PyData} (r : cf H xs ds) (h : o7 ds i = some d) : ∃ x, o7 xs i = some x /\ Dv H x d := by
 unfold o7 at h ⊢
 rw [r.length]
 cases e : yi ds.length i with
 | none => rw [e] at h; simp at h
 | some j =>
   rw [e] at h
   have h' : ds[j]? = some d := by simpa using h
   obtain ⟨x, h1, h2⟩ := r.get h'
   exact ⟨x, by simpa using h1, h2⟩
def rJ (H : Hp) (v : V) (ds : List PyData) : Prop := Dv H v (.tuple ds) \/ Dv H v (.list ds)
def HV : R2 := fun x y H Q => ∃ ds i d, y = .int i /\ rJ H x ds /\ o7 ds i = some d /\ sF H d Q
theorem CG {K : PySem.W.Frag} {x y : V} {H : Hp} {Q : VK} (h : HV x y H Q) : Ny K x y H Q := by
 obtain ⟨ds, i, d, rfl, hs, hi, g⟩ := h
 rcases hs with hs | hs
 . cases hs with
   | tup h r =>
     obtain ⟨v, h1, h2⟩ := xk r hi
     exact .inr (.inl ⟨_, _, i, v, rfl, rfl, .of h, h1, g.use h2⟩)
 . cases hs with
   | lst h r =>
     obtain ⟨v, h1, h2⟩ := xk r hi
     exact .inl ⟨_, _, i, v, rfl, rfl, .inl h, h1, g.use h2⟩
section
variable {X : Cx}
def FV : R2 := fun x y H Q => HV x y H Q \/ Fg x y H Q
theorem Lw : zc X FV := fun value slice pins s σ H x y v u Q I r1 r2 h => Fy value slice pins s σ H x y v u Q I r1 r2 (h.elim CG fun z => .inr (.inr z))
def zj : List V -> Hp -> VK -> Prop := fun xs H Q => (∃ v ds, xs = [v] /\ rJ H v ds /\ Q (.int (ds.length : Nat)) H) \/ ∃ z, xs = [.str z] /\ z.length <= sizeLine /\ Q (.int (z.length : Nat)) H
theorem x6 : fH X (.builtin "len") zj := fun pins s σ H xs us Q I r h => by
 rcases h with ⟨v, ds, rfl, hs, q⟩ | h
 . rcases hs with hs | hs
   . cases hs with
     | tup h t => exact iV pins s σ H _ us Q I r ⟨_, _, rfl, .inr (.of h), by rw [t.length]; exact q⟩
   . cases hs with
     | lst h t => exact iV pins s σ H _ us Q I r ⟨_, _, rfl, .inl (.inl h), by rw [t.length]; exact q⟩
 . exact tu pins s σ H _ us Q I r h
def Km : PyData -> String
 | .none => "NoneType" | .bool _ => "bool" | .int _ => "int" | .str _ => "str" | .list _ => "list" | .tuple _ => "tuple" | .dict _ => "dict"
def zF (t n : String) : Option Bool := if ((Value.type t) == (Value.type n)) = true then some true else if PySem.W.kitMeta n = true then (PySem.fastBuiltinMro t).map (·.contains (.type n)) else none
theorem zI {K : PySem.W.Frag} {t n : String} {b : Bool} (h : zF t n = some b) : PySem.W.kitOne K (.type t) (.type n) = some b := h
def Fn (t n : String) : Bool := t == n || (t == "bool" && n == "int")
theorem x5 : (["NoneType", "bool", "int", "str", "list", "tuple", "dict"].all fun t => ["int", "bool", "str", "list", "tuple", "dict"].all fun n => zF t n == some (Fn t n)) = true := by decide +kernel
theorem Bc {t n : String} (ht : t ∈ ["NoneType", "bool", "int", "str", "list", "tuple", "dict"]) (hn : n ∈ ["int", "bool", "str", "list", "tuple", "dict"]) : zF t n = some (Fn t n) := by
 have h := List.all_eq_true.mp (List.all_eq_true.mp x5 t ht) n hn
 exact beq_iff_eq.mp h
theorem Dt (d : PyData) : Km d ∈ ["NoneType", "bool", "int", "str", "list", "tuple", "dict"] := by
 cases d <;> simp [Km]
theorem Dv.ty {K : PySem.W.Frag} {H : Hp} {v : V} {d : PyData} (h : Dv H v d) : mP K H v (.type (Km d)) := by
 cases h with
 | cj => exact .cj
 | bl b => exact .bl b
 | int i => exact .int i
 | str x => exact .str x
 | tup h r => exact .tup h
 | lst h r =>
   rcases h with h | ⟨o, h⟩
   . exact .lst h
   . exact .u5 h
 | dct h r => exact .dK h
theorem wm {K : PySem.W.Frag} {H : Hp} {v : V} {d : PyData} {n : String} {Q : VK} (h : Dv H v d) (hn : n ∈ ["int", "bool", "str", "list", "tuple", "dict"]) (q : Q (.bl (Fn (Km d) n)) H) : z0 K [v, .ty n] H Q :=
 ⟨v, .ty n, .type n, _, _, rfl, .ty n, h.ty, zI (Bc (Dt d) hn), q⟩
def Bs (K : PySem.W.Frag) (f : Bool -> Bool) : R2 := fun x y H Q => (Di x y = true /\ Q (.bl (f (decide (x = y)))) H) \/ ∃ d e, Dv H x d /\ Dv H y e /\ d.canLay0 = true /\ e.canLay0 = true /\ d.depth <= 8 /\ Q (.bl (f (PyData.eqv d e))) H
theorem aX (hu : X.A.units + 8 < cLine) : jn X (compareOp .Eq) (Bs X.K id) := fun pins s σ H x y v u Q I rx ry h => by
 rcases h with h | ⟨d, e, h1, h2, h3, h4, h5, h6⟩
 . exact Ik pins s σ H x y v u Q I rx ry h
 . exact GY hu pins s σ H x y v u Q I rx ry ⟨d, e, h1.has h3, h2.has h4, h3, h4, h5, h6⟩
theorem vS (hu : X.A.units + 8 < cLine) : jn X (compareOp .NotEq) (Bs X.K not) := fun pins s σ H x y v u Q I rx ry h => by
 rcases h with h | ⟨d, e, h1, h2, h3, h4, h5, h6⟩
 . exact Jn pins s σ H x y v u Q I rx ry h
 . exact FC hu pins s σ H x y v u Q I rx ry ⟨d, e, h1.has h3, h2.has h4, h3, h4, h5, h6⟩
variable {es : List Expr} {t : TA} {pos : Pos}
def F0 (xs : List V) (H1 : Hp) (Q : VK) : Prop := xs.length <= sizeLine /\ ∃ ds, cf H1 xs ds /\ ∀ p H2, ao H1 H2 -> H1 p = none -> H2 p = some (.tup xs) -> Dv H2 (.ref p) (.tuple ds) -> Q (.ref p) H2
def AQ (xs : List V) (H1 : Hp) (Q : VK) : Prop := xs.length <= sizeLine /\ ∃ ds, cf H1 xs ds /\ ∀ p H2, ao H1 H2 -> H1 p = none -> H2 p = some (.lst xs) -> cf H2 xs ds -> Dv H2 (.ref p) (.list ds) -> Q (.ref p) H2
def En (t : TA) : TE := fun σ H Q => t σ H fun xs H1 => F0 xs H1 Q
theorem wU {x1} (h : PA X es t) : PE X (.Tuple es x1 pos) (En t) := PE.weak (GU h.m) fun σ H Q q => ⟨_, q, fun xs H1 ⟨hl, ds, hd, k⟩ => ⟨hl, fun p hp => by
 have sm : ao H1 (upd H1 p (.tup xs)) := fun b u e => by rw [aJ (bX e hp)]; exact e
 exact k p _ sm hp aN (.tup aN (hd.keeps sm))⟩⟩
def zJ (t : TA) : TE := fun σ H Q => t σ H fun xs H1 => AQ xs H1 Q
theorem ck (h : PA X es t) : PE X (.List es pos) (zJ t) := PE.weak (Fm h.m) fun σ H Q q => ⟨_, q, fun xs H1 ⟨hl, ds, hd, k⟩ => ⟨hl, fun p hp => by
 have sm : ao H1 (upd H1 p (.lst xs)) := fun b u e => by rw [aJ (bX e hp)]; exact e
 exact k p _ sm hp aN (hd.keeps sm) (.lst (.of aN) (hd.keeps sm))⟩⟩
variable {st : Stmt} {rest : List Stmt}
def BK (t u : TS) : TS := fun D σ H => ∃ R : St -> Hp -> Prop, t { D with nx := R } σ H /\ ∀ σ' H', R σ' H' -> u D σ' H'
theorem ai {t u : TS} (h1 : PS X st t) (h2 : qM X rest u) : qM X (st :: rest) (BK t u) := by
 intro pins s σ H D I ⟨R, h, k⟩
 refine wpAny_execs_cons (bK (h1 pins s σ H { D with nx := R } I h) fun f s1 q => ?_)
 cases f with
 | next =>
   obtain ⟨σ', H', I', q⟩ := q
   exact h2 pins s1 σ' H' D I' (k _ _ q)
 | ret v => exact q
 | brk => exact q
 | cont => exact q
end
section
variable {σ : St} {H : Hp} {Q : VK} {D : Ends} {K : PySem.W.Frag}
theorem Ff {t u : TS} (h : t { D with nx := u D } σ H) : BK t u D σ H := ⟨u D, h, fun _ _ z => z⟩
theorem F2 {t : TA} (h : t σ H fun xs H1 => F0 xs H1 Q) : En t σ H Q := h
theorem GA {xs : List V} {ds : List PyData} (hl : xs.length <= sizeLine) (hd : cf H xs ds) (k : ∀ v H2, ao H H2 -> Dv H2 v (.tuple ds) -> Q v H2) : F0 xs H Q := ⟨hl, ds, hd, fun p H2 s _ _ d => k (.ref p) H2 s d⟩
theorem Gp {t : TA} (h : t σ H fun xs H1 => AQ xs H1 Q) : zJ t σ H Q := h
theorem HI {f : Bool -> Bool} {x y : V} (e : Di x y = true) (h : Q (.bl (f (decide (x = y)))) H) : Bs K f x y H Q := .inl ⟨e, h⟩
theorem EF {f : Bool -> Bool} {x y : V} {d e : PyData} (h1 : Dv H x d) (h2 : Dv H y e) (h3 : d.canLay0 = true) (h4 : e.canLay0 = true) (h5 : d.depth <= 8) (h : Q (.bl (f (PyData.eqv d e))) H) : Bs K f x y H Q := .inr ⟨d, e, h1, h2, h3, h4, h5, h⟩
theorem Jx {x : V} {ds : List PyData} {i : Int} {d : PyData} (hs : rJ H x ds) (hi : o7 ds i = some d) (g : sF H d Q) : FV x (.int i) H Q := .inl ⟨ds, i, d, rfl, hs, hi, g⟩
theorem Gm {v : V} {ds : List PyData} (hs : rJ H v ds) (h : Q (.int (ds.length : Nat)) H) : zj [v] H Q := .inl ⟨v, ds, rfl, hs, h⟩
theorem DG {i : Int} (h : Q (.int i) H) : sF H (.int i) Q := h
theorem BO (h : Q .cj H) : sF H .none Q := h
theorem DU {i : Str} (h : Q (.str i) H) : sF H (.str i) Q := h
theorem JP {b : Bool} {A B : Prop} (h1 : b = true -> A) (h2 : b = false -> B) : if b = true then A else B := by
 cases b
 . exact LC (h2 rfl)
 . exact K9 (h1 rfl)
end
theorem cX.lx {k : Nat} {A : Around} (r : cX k A) : A.units + 8 < cLine := Nat.lt_of_le_of_lt (by omega) r.units
theorem bA {H : Hp} {t : Addr} {o : HO} (h : H t = none) : ao H (upd H t o) := fun b u e => by rw [aJ (bX e h)]; exact e
section
variable {σ : St} {H : Hp} {Q : VK} {D : Ends} {K : PySem.W.Frag}
theorem IV {v : V} {R : St -> Hp -> Prop} {rt : VK} {bk ct : St -> Hp -> Prop} (h : rt v H) : (Ends.mk R rt bk ct).rt v H := h
end
theorem vW {K : PySem.W.Frag} {C : Addr} {b : Value} {r : Bool} (h : PySem.W.mroIn K C b = some r) : (PySem.W.clsIn K C).isSome = true := by
 obtain ⟨cd, e, _⟩ := Option.bind_eq_some_iff.mp h
 rw [e]; rfl
theorem xg {K : PySem.W.Frag} {C D : Addr} {b : Bool} (h2 : PySem.W.mroIn K D (.type "object") = some true) (h3 : PySem.W.typeIn K (.ref D) = some (.type "type")) (h : PySem.W.mroIn K C (.ref D) = some b) (hb : C = D -> b = true := by intro _; rfl) : PySem.W.kitOne K (.ref C) (.ref D) = some b := by
 unfold PySem.W.kitOne
 split
 . rename_i e
   have : C = D := by
    have := beq_iff_eq.mp e
    cases this; rfl
   rw [hb this]
 . show (if ((PySem.W.clsIn K D).isSome && PySem.W.typeIn K (.ref D) == some (.type "type")) = true then PySem.W.subIn K (.ref C) (.ref D) else none) = some b
   rw [vW h2, h3]
   rw [if_pos (by decide +kernel)]
   exact h
def isInt : PyData -> Bool | .int _ => true | .bool _ => true | _ => false
def isBool : PyData -> Bool | .bool _ => true | _ => false
def isStr : PyData -> Bool | .str _ => true | _ => false
def IX : PyData -> Bool | .list _ => true | _ => false
def isTup : PyData -> Bool | .tuple _ => true | _ => false
def IK : PyData -> Bool | .dict _ => true | _ => false
section
variable {K : PySem.W.Frag} {H : Hp} {v : V} {d : PyData} {Q : VK}
theorem yl (h : Dv H v d) (q : Q (.bl (isInt d)) H) : z0 K [v, .ty "int"] H Q := wm h (by decide) (by cases d <;> exact q)
theorem vx (h : Dv H v d) (q : Q (.bl (isBool d)) H) : z0 K [v, .ty "bool"] H Q := wm h (by decide) (by cases d <;> exact q)
theorem yg (h : Dv H v d) (q : Q (.bl (isStr d)) H) : z0 K [v, .ty "str"] H Q := wm h (by decide) (by cases d <;> exact q)
def tP (H : Hp) (v : V) (C : Addr) (fs : List (Str × V)) : Prop := ∃ p dx, v = .ref p /\ H p = some (.ins C dx fs)
theorem Fv {R : V -> Prop} {C : Addr} {fs : List (Str × V)} {f : Str} {x : V} (hp : tP H v C fs) (c : pz K C) (n : aK K C f) (l : fs.lookup f = some x) (h : R x) :
 ∃ a C dx fs x, v = .ref a /\ H a = some (.ins C dx fs) /\ pz K C /\ aK K C f /\ fs.lookup f = some x /\ R x := by
 obtain ⟨p, dx, rfl, e⟩ := hp
 exact ⟨p, C, dx, fs, x, rfl, e, c, n, l, h⟩
theorem xP {C : Addr} {m : Str} {fs : List (Str × V)} {R : Prop} (hp : tP H v C fs) (hl : fs.lookup m = none) (h : R) : ∃ a dx fs, v = .ref a /\ H a = some (.ins C dx fs) /\ fs.lookup m = none /\ R := by
 obtain ⟨p, dx, rfl, e⟩ := hp
 exact ⟨p, dx, fs, rfl, e, hl, h⟩
end
def look (f : Str) : List (Str × V) -> Option V
 | [] => none
 | (g, v) :: r => if f = g then some v else look f r
theorem oP (f : Str) : ∀ fs : List (Str × V), fs.lookup f = look f fs
 | [] => rfl
 | (g, v) :: r => by
   show (match f == g with | true => some v | false => r.lookup f) = if f = g then some v else look f r
   by_cases h : f = g
   . subst h; rw [if_pos rfl, beq_self_eq_true]
   . rw [if_neg h, beq_eq_false_iff_ne.mpr h]; exact oP f r
section
variable {X : Cx}
def AY (K : PySem.W.Frag) : R2 := fun x y H Q => FV x y H Q \/ Fo K x y H Q
theorem cS : zc X (AY X.K) := fun value slice pins s σ H x y v u Q I r1 r2 h => h.elim (Lw value slice pins s σ H x y v u Q I r1 r2) (xU value slice pins s σ H x y v u Q I r1 r2)
def uM (K : PySem.W.Frag) : List V -> Hp -> VK -> Prop := fun xs H Q => zj xs H Q \/ ∃ p ys, xs = [.ref p] /\ fW K H p ys /\ Q (.int ys.length) H
theorem cn : fH X (.builtin "len") (uM X.K) := fun pins s σ H xs us Q I r h => by
 rcases h with h | ⟨p, ys, e, hl, q⟩
 . exact x6 pins s σ H xs us Q I r h
 . exact iV pins s σ H xs us Q I r ⟨p, ys, e, .inl hl, q⟩
end
section
variable {σ : St} {H : Hp} {Q : VK} {D : Ends} {K : PySem.W.Frag}
theorem kP {x : V} {ds : List PyData} {i : Int} {d : PyData} (hs : rJ H x ds) (hi : o7 ds i = some d) (g : sF H d Q) : AY K x (.int i) H Q := .inl (Jx hs hi g)
theorem Ja {p : Addr} {xs : List V} {i : Int} {v : V} (hs : fW K H p xs) (hi : o7 xs i = some v) (g : Q v H) : AY K (.ref p) (.int i) H Q := .inr ⟨p, xs, i, v, rfl, rfl, hs, hi, g⟩
theorem Ar {v : V} {ds : List PyData} (hs : rJ H v ds) (h : Q (.int (ds.length : Nat)) H) : uM K [v] H Q := .inl (Gm hs h)
theorem Gg {p : Addr} {xs : List V} (hs : fW K H p xs) (h : Q (.int xs.length) H) : uM K [.ref p] H Q := .inr ⟨p, xs, rfl, hs, h⟩
theorem FI {ta tv : TE} {f : Str} (h : tv σ H fun y H1 => ta σ H1 fun x H2 => ∃ a C dx fs, x = .ref a /\ H2 a = some (.ins C dx fs) /\ pz K C /\ aK K C f /\ fs.length < 1000 /\ D.nx σ (upd H2 a (.ins C dx (g7 f y fs)))) : J2 K ta tv f D σ H := h
theorem CQ {p C dx : Addr} {fs Kf : List (Str × V)} {f : Str} {y : V} (hp : H p = some (.ins C dx fs)) (c : pz K C) (n : aK K C f) (hl : fs.length < 1000) (e : g7 f y fs = Kf) (h : D.nx σ (upd H p (.ins C dx Kf))) :
 ∃ a C dx fs, V.ref p = .ref a /\ H a = some (.ins C dx fs) /\ pz K C /\ aK K C f /\ fs.length < 1000 /\ D.nx σ (upd H a (.ins C dx (g7 f y fs))) := ⟨p, C, dx, fs, rfl, hp, c, n, hl, by rw [e]; exact h⟩
theorem MC {R : Prop} (h : R) : V.cj = V.cj /\ R := ⟨rfl, h⟩
end
theorem bg {i : Int} (h1 : -(10 ^ 200) < i) (h2 : i < 10 ^ 200) : i.natAbs < 2 ^ 2000 := by
 have : (10 : Nat) ^ 200 < 2 ^ 2000 := by decide +kernel
 have h3 : i.natAbs < 10 ^ 200 := by
  have e : ((10 : Nat) ^ 200 : Nat) = ((10 : Int) ^ 200).toNat := by decide +kernel
  rw [e]
  generalize (10 : Int) ^ 200 = m at h1 h2 ⊢
  omega
 exact Nat.lt_trans h3 this
theorem Jr {i j : Int} (h1 : 0 < j) (h2 : j < 10 ^ 200) : D2 i j := ⟨h1, bg (Int.lt_trans (by decide) h1) h2⟩
def cell (ns : List Int) (k : Nat) : Int := ns.getD k 0
def wz (K : PySem.W.Frag) : Sp := fun vs H Q _ => ∃ l ns k, vs = [.ref l, .int k] /\ fW K H l (ns.map V.int) /\ 0 <= k /\ Q (.int (cell ns k.toNat)) H
theorem Fd {K : PySem.W.Frag} {H : Hp} {Q : VK} {E : XK} {l : Addr} {ns : List Int} {k : Int} (h : fW K H l (ns.map V.int)) (hk : 0 <= k) (q : Q (.int (cell ns k.toNat)) H) : wz K [.ref l, .int k] H Q E := ⟨l, ns, k, rfl, h, hk, q⟩
theorem Dc {ns : List Int} {k : Int} (h0 : 0 <= k) (h : k < (ns.map V.int).length) : o7 (ns.map V.int) k = some (.int (cell ns k.toNat)) := by
 obtain ⟨n, rfl⟩ := Int.eq_ofNat_of_zero_le h0
 refine j7 ?_
 have hn : n < ns.length := by simpa using h
 simp [cell, hn, List.getD_eq_getElem?_getD]
theorem B6 {ns : List Int} {k : Int} (h0 : 0 <= k) (h : ¬ k < (ns.map V.int).length) : cell ns k.toNat = 0 := by
 have : ns.length <= k.toNat := by simp at h; omega
 simp [cell, List.getD_eq_getElem?_getD, this]
def gv (sp : Sp) (vs : List V) (H : Hp) (Q : VK) (E : XK) : Prop := ∃ ws, vs = ws /\ sp ws H Q E
theorem uo (sp : Sp) (vs : List V) (H : Hp) (Q : VK) (E : XK) : gv sp vs H Q E = sp vs H Q E := propext ⟨fun ⟨_, e, h⟩ => e ▸ h, fun h => ⟨vs, rfl, h⟩⟩
def sT (sp : Sp) (cU : List V) (E : XK) (t : TA) : TE := fun σ H Q => t σ H fun vs H1 => gv sp (vs ++ cU) H1 Q E
theorem yS (sp : Sp) (cU : List V) (E : XK) (t : TA) : sT sp cU E t = xX sp cU E t := by
 funext σ H Q; unfold sT xX; congr 1; funext vs H1; exact uo _ _ _ _ _
def sJ (C : Addr) (m : Str) (sp : Sp) (cU : List V) (E : XK) (ta : TE) (t : TA) : TE := fun σ H Q => ta σ H fun x H1 => ∃ a dx fs, x = .ref a /\ H1 a = some (.ins C dx fs) /\ fs.lookup m = none /\
 t σ H1 fun vs H2 => gv sp (x :: (vs ++ cU)) H2 Q E
theorem yB (C : Addr) (m : Str) (sp : Sp) (cU : List V) (E : XK) (ta : TE) (t : TA) : sJ C m sp cU E ta t = xC C m sp cU E ta t := by
 funext σ H Q; unfold sJ xC; congr 1; funext x H1
 have : ∀ H2 : Hp, (fun vs H2 => gv sp (x :: (vs ++ cU)) H2 Q E) = fun vs H2 => sp (x :: (vs ++ cU)) H2 Q E := fun _ => by funext vs H2; exact uo _ _ _ _ _
 rw [this H1]
def xf (C : Addr) (sp : Sp) (vs : List V) (H1 : Hp) (Q : VK) (E : XK) : Prop := ∃ ws, vs = ws /\ ∀ x dx, H1 x = none -> H1 dx = none -> dx ≠ x ->
 sp (.ref x :: ws) (upd (upd H1 dx (.own x)) x (.ins C dx [])) (fun v H2 => v = .cj /\ Q (.ref x) H2) E
section
variable {X : Cx} {k : Nat} {f C : Addr} {ps : List Str} {sp : Sp} {cU : List V} {x m : Str} {p pos apos : Pos} {e o : Expr} {es : List Expr} {ta : TE} {t : TA}
theorem aF (c : rn X.prog X.w X.K X.mg X.base k f ps cU sp) (hr : cX k X.A) (hg : Gl X x) (hm : X.mg x = some (.ref f)) (hk : PySem.W.keepIn X.K (.ref f) = true)
 (ha : PA X (e :: es) t) (oj : (x == ("__debug__" : Str)) = false := by decide) (he : starEach (e :: es) X.env = (false, eval e X.env) :: starEach es X.env := by rfl) (j1 : (backTo pos (starEach es X.env)).any (·.1) = false := by rfl) :
 PE X (.Call (.Name x p) (e :: es) [] pos) (sT sp cU E0 t) := by rw [yS]; exact Cq c hr hg hm hk ha oj he j1
theorem nO {pl : Sem Bool} (he : PE X o ta) (c : pz X.K C) (hm : Meth X.K C m f) (F : rn X.prog X.w X.K X.mg X.base k f ps cU sp) (hr : cX k X.A)
 (ht : eval (.Call (.Attribute o m apos) [] [] pos) X.env = (do
  let ov <- eval o X.env
  standAt apos.atName
  let (f, first) <- holding [ov] (getMethod ov m pl)
  callWith pos f first (backTo pos (starEach [] X.env)) (backToKw pos (keywordEach [] X.env))) := by rfl) :
 PE X (.Call (.Attribute o m apos) [] [] pos) (sJ C m sp cU E0 ta y6) := by rw [yB]; exact Au he c hm F hr ht
end
section
variable {σ : St} {H : Hp} {Q : VK} {D : Ends} {K : PySem.W.Frag}
theorem C4 {sp : Sp} {cU : List V} {E : XK} {t : TA} (h : t σ H fun vs H1 => gv sp (vs ++ cU) H1 Q E) : sT sp cU E t σ H Q := h
theorem vZ {sp : Sp} {vs ws : List V} {E : XK} (e : vs = ws) (h : sp ws H Q E) : gv sp vs H Q E := ⟨ws, e, h⟩
theorem xD {C : Addr} {m : Str} {sp : Sp} {cU : List V} {E : XK} {ta : TE} {t : TA} (h : ta σ H fun x H1 => ∃ a dx fs, x = .ref a /\ H1 a = some (.ins C dx fs) /\ fs.lookup m = none /\ t σ H1 fun vs H2 => gv sp (x :: (vs ++ cU)) H2 Q E) : sJ C m sp cU E ta t σ H Q := h
theorem Gy {b : Bool} {R : Bool -> Prop} (h : R b) : ∃ k, y0 K (.bl b) H k /\ R k := ⟨b, rfl, h⟩
end
theorem uD {n : Nat} (h : Nat.ble n 64 = true) : n <= sizeLine := Nat.le_trans (Nat.le_of_ble_eq_true h) (by decide)
theorem xh {H : Hp} {d : PyData} {Q : VK} (h : ∀ v, Dv H v d -> Q v H) : sF H d Q := by
 cases d with
 | none => exact h _ .cj
 | bool b => exact h _ (.bl b)
 | int i => exact h _ (.int i)
 | str x => exact h _ (.str x)
 | list l => exact h
 | tuple l => exact h
 | dict l => exact h
section
variable {X : Cx} {st : Stmt} {rest : List Stmt}
def Eh (t u : TS) : TS := BK t u
theorem mw {t u : TS} (h1 : PS X st t) (h2 : qM X rest u) : qM X (st :: rest) (Eh t u) := ai h1 h2
end
section
variable {σ : St} {H : Hp} {Q : VK} {D : Ends} {K : PySem.W.Frag}
theorem tD {t u : TS} (R : St -> Hp -> Prop) (h : t { D with nx := R } σ H) (k : ∀ σ' H', R σ' H' -> u D σ' H') : Eh t u D σ H := ⟨R, h, k⟩
theorem Fq {xs : List V} {ds : List PyData} (hl : xs.length <= sizeLine) (hd : cf H xs ds) (k : ∀ p H2, ao H H2 -> H p = none -> H2 p = some (.lst xs) -> cf H2 xs ds -> Dv H2 (.ref p) (.list ds) -> Q (.ref p) H2) : AQ xs H Q := ⟨hl, ds, hd, k⟩
end
section
variable {X : Cx}
def Ea : R2 := fun x y H Q => ∃ i j, x = .int i /\ y = .int j /\ 0 < j /\ (0 <= i % j -> i % j < j -> Q (.int (i % j)) H)
theorem bQ : jn X (binaryOp .Mod) Ea := fun pins s σ H x y v u Q I rx ry ⟨i, j, e1, e2, hj, h⟩ => Fj pins s σ H x y v u Q I rx ry ⟨i, j, e1, e2, hj, h (Int.emod_nonneg _ (by omega)) (Int.emod_lt_of_pos _ hj)⟩
end
section
variable {σ : St} {H : Hp} {Q : VK} {D : Ends} {K : PySem.W.Frag}
theorem E2 {i j : Int} (hj : 0 < j) (h : 0 <= i % j -> i % j < j -> Q (.int (i % j)) H) : Ea (.int i) (.int j) H Q := ⟨i, j, rfl, rfl, hj, h⟩
end
theorem bf.ex {ι : Type} {P : Program} {w : World} {K : PySem.W.Frag} {mg : Str -> Option Value} {base : Heap} {CX : qT} {k : Nat} {f : Addr} {fd : FuncData} {ps : List Str} {sp : ι -> Sp} (h : ∀ i, bf P w K mg base CX k f fd ps (sp i)) :
 bf P w K mg base CX k f fd ps (fun vs H Q E => ∃ i, sp i vs H Q E) :=
 ⟨fun vs H Q E ⟨i, q⟩ => (h i).len vs H Q E q, fun A outer s H args us vs Q E hr he hb hv ⟨i, q⟩ => (h i).run A outer s H args us vs Q E hr he hb hv q⟩
section
variable {σ : St} {H : Hp} {Q : VK} {D : Ends} {K : PySem.W.Frag}
def HS (Pv : Nat -> St -> Hp -> Prop) (m : Nat) (tb : TS) (D : Ends) (σ : St) (H1 : Hp) : Prop := ∃ N : St -> Hp -> Prop, (∀ σ' H', N σ' H' -> ∃ m', m' < m /\ Pv m' σ' H') /\ tb { D with nx := N, ct := N, bk := D.nx } σ H1
theorem CH {c : TT} {tb : TS} (Pv : Nat -> St -> Hp -> Prop) (h0 : ∃ m, Pv m σ H) (hs : ∀ m σ H, Pv m σ H -> c σ H fun b H1 => if b = true then HS Pv m tb D σ H1 else D.nx σ H1) : z6 c tb D σ H := ⟨Pv, h0, hs⟩
end
end L2
namespace L2
theorem BL {n : Nat} (h : Nat.blt n 1000 = true) : n < 1000 := by
 unfold Nat.blt at h
 exact Nat.le_of_ble_eq_true h
end L2
namespace L2
open PySem PySem.Spec PyProof.Rows
section
variable {X : Cx}
def Eo : List V -> Hp -> VK -> Prop := fun xs H Q => ∃ i, xs = [.int i] /\ i.natAbs.log2 < 1920 /\ Q (.str (toString i)) H
theorem bu : fH X (.type "str") Eo := fun pins s σ H xs us Q I r h => sN pins s σ H xs us Q I r h
end
theorem CW {i : Int} (h1 : -(10 ^ 200) < i) (h2 : i < 10 ^ 200) : i.natAbs.log2 < 1920 := by
 by_cases h0 : i.natAbs = 0
 . rw [h0]; decide
 . refine (Nat.log2_lt h0).mpr ?_
   have h3 : i.natAbs < 10 ^ 200 := by
    have e : ((10 : Nat) ^ 200 : Nat) = ((10 : Int) ^ 200).toNat := by decide +kernel
    rw [e]
    generalize (10 : Int) ^ 200 = m at h1 h2 ⊢
    omega
   exact Nat.lt_trans h3 (by decide +kernel)
section
variable {σ : St} {H : Hp} {Q : VK} {D : Ends} {K : PySem.W.Frag}
theorem Ge {i : Int} (h1 : -(10 ^ 200) < i) (h2 : i < 10 ^ 200) (h : Q (.str (toString i)) H) : Eo [.int i] H Q := ⟨i, rfl, CW h1 h2, h⟩
end
theorem GH {H : Hp} {Q : VK} {i j p : Int} (c : GF i j) (e : i ^ j.toNat = p) (h : Q (.int p) H) : rI GF (fun i j => .int (i ^ j.toNat)) (.int i) (.int j) H Q := ⟨i, j, rfl, rfl, c, by show Q (.int (i ^ j.toNat)) H; rw [e]; exact h⟩
section
variable {X : Cx} {e : Expr}
def Hd (t u : TE) : TE := fun σ H Q => t σ H Q \/ u σ H Q
theorem vY {t u : TE} (h1 : PE X e t) (h2 : PE X e u) : PE X e (Hd t u) := PE.or h1 h2
end
section
variable {σ : St} {H : Hp} {Q : VK} {D : Ends} {K : PySem.W.Frag}
theorem xH {t u : TE} (h : t σ H Q) : Hd t u σ H Q := .inl h
theorem oZ {t u : TE} (h : u σ H Q) : Hd t u σ H Q := .inr h
def KS (K : PySem.W.Frag) (x : V) (i j : Nat) (D : Ends) (σ : St) (H : Hp) : Prop := Dg K 2 (qV (ig i) (qV (ig j) DE)) x σ H D.nx
theorem FY {te : TE} {i j : Nat} (h : te σ H fun x H1 => KS K x i j D σ H1) : vm te (Dg K 2 (qV (ig i) (qV (ig j) DE))) D σ H := h
end
end L2
namespace L2
end L2
namespace L2
open PySem PySem.Spec PyProof.Rows PySem.W
structure NI (lt : Nat -> Nat -> Bool) : Prop where
 P4 : ∀ a, lt a a = false
 PX : ∀ a b, lt a b = true -> lt b a = false
 PF : ∀ a b c, lt a b = false -> lt b c = false -> lt a c = false
section
variable {lt : Nat -> Nat -> Bool} {n : Nat} {S : Shared -> Prop} {cmp : Nat -> Nat -> (Bool -> Shared -> Prop) -> Shared -> Prop}
structure Ix (n : Nat) (p : Array Nat) : Prop where
 sz : p.size = n
 pm : p.toList.Perm (List.range n)
def Md (n : Nat) (lt : Nat -> Nat -> Bool) (S : Shared -> Prop) (cmp : Nat -> Nat -> (Bool -> Shared -> Prop) -> Shared -> Prop) : Prop :=
 ∀ i j C s, i < n -> j < n -> S s -> (∀ s', S s' -> C (lt i j) s') -> cmp i j C s
variable (w : NI lt) (ha : Md n lt S cmp)
include w ha
end
section
variable {X : Cx} {pins : List (Addr × Obj)} {σ : St} {H H' : Hp} {s : Shared} {a : Addr}
end
section
variable {prog : Program} {w : World} {A : Around} {E : Value -> Shared -> Prop} {s : Shared}
end
section
variable {X : Cx} {pins : List (Addr × Obj)} {σ : St} {H : Hp} {s : Shared} {k : Nat} {f : Addr} {fd : FuncData} {ps : List Str} {sp : Sp} {kf : V -> Int × Str} {A : Around}
structure OC (X : Cx) (pins : List (Addr × Obj)) (σ : St) (H : Hp) (kf : V -> Int × Str) (a kS : Addr) (oa : Obj) (xs : List V) (s' : Shared) : Prop where
 mk ::
 ex : ∃ H' us e ys, Inv X pins σ H' s' /\ ao H H' /\ H' a = none /\ H' kS = none /\ s'.heap.get? a = some oa /\ s'.heap.get? kS = some (seqObj "list" (List.toArray us) e) /\ Vals ys us /\ cf H' ys (xs.map fun v => .tuple [.int (kf v).1, .str (kf v).2])
end
section
variable {X : Cx} {pins : List (Addr × Obj)} {σ : St} {H : Hp} {s : Shared} {k : Nat} {f : Addr} {fd : FuncData} {ps : List Str} {sp : Sp} {kf : V -> Int × Str} {A : Around}
end
section
variable {X : Cx} {k : Nat} {f : Addr} {ps : List Str} {sp : Sp} {e : Expr} {t : TA} {x : Str} {p p2 pos MH : Pos}
end
end L2
namespace L2
open PySem PySem.Spec PyProof.Rows
theorem lD {scope : Scope} {env : Env} (h : ∀ x ∈ scope.names, x.2 = .free -> ∃ c, env.cells.lookup x.1 = some c) :
 ∃ cl, closureFor scope env = pure cl /\ (∀ x c, cl.lookup x = some c -> env.cells.lookup x = some c) /\ ∀ x ∈ scope.names, x.2 = .free -> ∃ c, cl.lookup x.1 = some c := by
 have key : ∀ (l : List (Str × NameKind)) (acc : List (Str × Addr)), (∀ x ∈ l, x.2 = .free -> ∃ c, env.cells.lookup x.1 = some c) -> (∀ x c, acc.lookup x = some c -> env.cells.lookup x = some c) ->
  ∃ cl, (forIn l acc (fun (x : Str × NameKind) (r : List (Str × Addr)) => (match x with
    | (name, kind) => if (kind == NameKind.free) = true then (do let c <- cellOf env name; pure (ForInStep.yield ((name, c) :: r))) else pure (ForInStep.yield r) : Sem (ForInStep (List (Str × Addr))))) : Sem _) = pure cl /\
    (∀ x c, cl.lookup x = some c -> env.cells.lookup x = some c) /\ (∀ x ∈ l, x.2 = .free -> ∃ c, cl.lookup x.1 = some c) /\ ∀ x, (∃ c, acc.lookup x = some c) -> ∃ c, cl.lookup x = some c := by
  intro l
  induction l with
  | nil => intro acc _ ha; exact ⟨acc, rfl, ha, fun _ z => (nomatch z), fun _ z => z⟩
  | cons p r ih =>
    intro acc hl ha
    obtain ⟨n, k⟩ := p
    rw [List.forIn_cons]
    by_cases hk : k = .free
    . subst hk
      obtain ⟨c, hc⟩ := hl (n, .free) List.mem_cons_self rfl
      have r6 : cellOf env n = pure c := by unfold cellOf; rw [hc]
      obtain ⟨cl, e, h1, h2, h3⟩ := ih ((n, c) :: acc) (fun x hx => hl x (List.mem_cons_of_mem _ hx)) (fun x d hd => by
       rw [List.lookup_cons] at hd
       by_cases hx : x = n
       . subst hx; rw [beq_self_eq_true] at hd; cases hd; exact hc
       . rw [beq_eq_false_iff_ne.mpr hx] at hd; exact ha x d hd)
      refine ⟨cl, ?_, h1, fun x hx hf => ?_, fun x ⟨d, hd⟩ => h3 x ?_⟩
      . simp only [beq_self_eq_true, if_true, r6]
        exact e
      . rcases List.mem_cons.mp hx with rfl | hx
        . exact h3 n ⟨c, by rw [List.lookup_cons, beq_self_eq_true]⟩
        . exact h2 x hx hf
      . rw [List.lookup_cons]
        by_cases hx : x = n
        . subst hx; rw [beq_self_eq_true]; exact ⟨c, rfl⟩
        . rw [beq_eq_false_iff_ne.mpr hx]; exact ⟨d, hd⟩
    . obtain ⟨cl, e, h1, h2, h3⟩ := ih acc (fun x hx => hl x (List.mem_cons_of_mem _ hx)) ha
      refine ⟨cl, ?_, h1, fun x hx hf => ?_, h3⟩
      . have : (k == NameKind.free) = false := by simpa using hk
        simp only [this, Bool.false_eq_true, if_false]
        exact e
      . rcases List.mem_cons.mp hx with rfl | hx
        . exact absurd hf hk
        . exact h2 x hx hf
 obtain ⟨cl, e, h1, h2, _⟩ := key scope.names [] h (fun _ _ z => by simp at z)
 refine ⟨cl, ?_, h1, h2⟩
 unfold closureFor
 show (forIn scope.names [] _ >>= fun cs => pure cs) = _
 refine Eq.trans (congrArg (· >>= _) e) rfl
theorem iz {env : Env} {scope : Scope} {x : Str} : (relabel scope env).names.lookup x = (scope.names.lookup x).map fun k => if (k == NameKind.free && env.scope.kind == .function && env.kindOf x == some .cell) = true then .cell else k := by
 unfold relabel
 show List.lookup x (List.map _ scope.names) = _
 generalize scope.names = l
 induction l with
 | nil => rfl
 | cons p r ih =>
   obtain ⟨n, k⟩ := p
   rw [List.map_cons]
   dsimp only
   by_cases hx : x = n
   . subst hx
     by_cases hc : (k == NameKind.free && env.scope.kind == .function && env.kindOf x == some .cell) = true
     . rw [if_pos hc, List.lookup_cons, List.lookup_cons, beq_self_eq_true]; simp only [Option.map_some, if_pos hc]
     . rw [if_neg hc, List.lookup_cons, List.lookup_cons, beq_self_eq_true]; simp only [Option.map_some, if_neg hc]
   . have hb : (x == n) = false := beq_eq_false_iff_ne.mpr hx
     by_cases hc : (k == NameKind.free && env.scope.kind == .function && env.kindOf n == some .cell) = true
     . rw [if_pos hc, List.lookup_cons, List.lookup_cons, hb]; exact ih
     . rw [if_neg hc, List.lookup_cons, List.lookup_cons, hb]; exact ih
theorem mem_lookup {α : Type} {x : Str} {k : α} : ∀ {l : List (Str × α)}, l.lookup x = some k -> (x, k) ∈ l
 | [], h => by simp at h
 | (n, j) :: r, h => by
   rw [List.lookup_cons] at h
   by_cases hx : x = n
   . subst hx; rw [beq_self_eq_true] at h; cases h; exact List.mem_cons_self
   . rw [beq_eq_false_iff_ne.mpr hx] at h; exact List.mem_cons_of_mem _ (mem_lookup h)
def cg (X : Cx) (N : List Str) (scope : Scope) (cl : List (Str × Addr)) (C : Addr) (s : Shared) (H : Hp) (fp : List Addr) : Cx :=
 { X with N := N, cJ := s, Bn := H, env := compEnvC scope cl C X.env, outer := X.stack, stack := X.stack, ex := fp, fn := fun _ => false, pn := [], xe := fun _ _ => False }
structure fY (X : Cx) (T M : List Str) (scope : Scope) : Prop where
 kind : scope.kind = .function
 cell : ∀ y ∈ scope.names, y.2 ≠ .cell
 names : ∀ y ∈ scope.names, y.2 = .local -> scope.names.lookup y.1 = some .local
 free : ∀ y ∈ scope.names, y.2 = .free -> X.env.scope.names.lookup y.1 = some .cell \/ X.env.scope.names.lookup y.1 = some .free
 len : M.length = X.N.length
 old : ∀ (i : Nat) x, M[i]? = some x -> X.N[i]? = some x /\ scope.names.lookup x = some .free \/ scope.names.lookup x = none
section
variable {X : Cx} {pins : List (Addr × Obj)} {σ : St} {H : Hp} {s : Shared} {T M : List Str} {scope : Scope} {cl : List (Str × Addr)} {fp : List Addr}
theorem IZ {C : Addr} (I : Inv X pins σ H s) (hN : fY X T M scope) (h1 : ∀ x c, cl.lookup x = some c -> X.env.cells.lookup x = some c) (h2 : ∀ x ∈ scope.names, x.2 = .free -> ∃ c, cl.lookup x.1 = some c)
 (hC : s.heap.objs.size <= C) (hf : ∀ b ∈ fp, kj X pins H b) (C2 : ∀ b ∈ fp, b < s.heap.objs.size) : (cg X (T ++ M) scope cl C s H fp).Ok where
 mod := I.ok.mod
 kind := hN.kind
 glob := I.ok.glob
 blt := I.ok.blt
 above := hC
 inj := fun x y c e1 e2 => I.ok.inj x y c (h1 x c e1) (h1 y c e2)
 has := fun x hx => by
  have tV : (relabel scope X.env).names.lookup x = some .cell \/ (relabel scope X.env).names.lookup x = some .free := hx
  rw [iz] at tV
  cases e : scope.names.lookup x with
  | none => rw [e] at tV; simp at tV
  | some k =>
    have hm := mem_lookup e
    have hk : k = .free := by
     rw [e] at tV
     simp only [Option.map_some, Option.some.injEq] at tV
     by_cases hf : k = .free
     . exact hf
     . have : (k == NameKind.free) = false := by simpa using hf
       simp only [this, Bool.false_and, Bool.false_eq_true, if_false] at tV
       rcases tV with tV | tV
       . exact absurd tV (hN.cell _ hm)
       . exact tV
    exact h2 (x, k) hm hk
 B3 := fun _ _ z => by cases z
 hd := I.ok.hd
 frames := I.ok.frames
 EE := .inl rfl
 BE := fun b hb => ⟨Nat.ne_of_lt (Nat.lt_of_lt_of_le (C2 b hb) hC), fun x c e => (hf b hb).2.2.2.2.1 x c (h1 x c e)⟩
 bs := I.bs
 wZ := Nat.le_trans I.ok.wZ I.sz
 tE := fun b o e hb => by
  rcases (hf b hb).2.2.2.1 with z | z
  . exact I.ok.tE b o e z
  . exact absurd (Nat.lt_of_lt_of_le (Heap.lt_size e) (Nat.le_trans I.ok.wZ z)) (Nat.lt_irrefl _)
 rD := fun b hb z => by
  rcases List.mem_cons.mp (I.sZ b z) with e | e
  . exact (hf b hb).2.1 e
  . exact (hf b hb).2.2.1 e
 ki := I.stack
 zV := I.nQ
theorem uq {C : Addr} {h₁ : Heap} {tk : Nat} (I : Inv X pins σ H s) (hN : fY X T M scope) (h1 : ∀ x c, cl.lookup x = some c -> X.env.cells.lookup x = some c) (h2 : ∀ x ∈ scope.names, x.2 = .free -> ∃ c, cl.lookup x.1 = some c)
 (hC : s.heap.objs.size <= C) (hf : ∀ b ∈ fp, kj X pins H b) (C2 : ∀ b ∈ fp, b < s.heap.objs.size)
 {m : Str -> Option Value} (hn : h₁.Ns C m) (old : ∀ b o, s.heap.get? b = some o -> h₁.get? b = some o) :
 Inv (cg X (T ++ M) scope cl C s H fp) [] (List.replicate T.length none ++ σ) H { s with heap := h₁, toks := tk } where
 ok := IZ I hN h1 h2 hC hf C2
 os := rfl
 bare := I.bare
 base := Un.kept old
 loc := by
  refine ⟨m, hn, fun i x v e1 e2 e3 => ?_⟩
  have M9 : (T ++ M)[i]? = some x := e1
  by_cases hi : i < T.length
  . rw [List.getElem?_append_left (by simpa using hi), List.getElem?_replicate, if_pos hi] at e2
    cases e2
  . have Kr : T.length <= i := Nat.le_of_not_lt hi
    rw [List.getElem?_append_right Kr] at M9
    rw [List.getElem?_append_right (by simpa using Kr), List.length_replicate] at e2
    have Ml : E4 (relabel scope X.env) x := e3
    rcases hN.old _ x M9 with ⟨hx, og⟩ | MI
    . obtain ⟨m0, PD, Gx⟩ := I.loc
      have hk := hN.free _ (mem_lookup og) rfl
      have Ln : X.env.scope.names.lookup x = some .cell \/ X.env.scope.names.lookup x = some .free := hk
      obtain ⟨u, r, l⟩ := Gx _ x v hx e2 (.inr Ln)
      refine ⟨u, r, .inr ?_⟩
      rcases l with ⟨z, _⟩ | ⟨_, c, hc, r6⟩
      . have z' : X.env.scope.names.lookup x = some .local := z
        rw [z'] at Ln; rcases Ln with q | q <;> cases q
      . obtain ⟨c', sO⟩ := h2 _ (mem_lookup og) rfl
        have : c' = c := by have := h1 _ _ sO; rw [hc] at this; exact (Option.some.inj this).symm
        subst this
        refine ⟨?_, c', sO, ?_⟩
        . show (relabel scope X.env).names.lookup x = some .cell \/ (relabel scope X.env).names.lookup x = some .free
          rw [iz, og]
          simp only [Option.map_some, Option.some.injEq]
          by_cases hc : (NameKind.free == NameKind.free && X.env.scope.kind == .function && X.env.kindOf x == some .cell) = true
          . left; rw [if_pos hc]
          . right; rw [if_neg hc]
        . obtain ⟨o, ho, hd⟩ := r6
          exact ⟨o, old _ _ ho, hd⟩
    . unfold E4 at Ml
      rw [iz, MI] at Ml
      simp at Ml
 cell := fun x c e => by
  obtain ⟨v, o, ho, hd⟩ := I.cell x c (h1 x c e)
  exact ⟨v, o, old _ _ ho, hd⟩
 free := I.a9.fresh hC
 eh := fun x c e => I.eh x c (h1 x c e)
 pin := fun p hp => nomatch hp
 a9 := I.a9.kept old
 len := by
  show (List.replicate T.length none ++ σ).length = (T ++ M).length
  rw [List.length_append, List.length_append, List.length_replicate, hN.len, I.len]
theorem w9 {C D : Addr} {s' : Shared} {σ' : St} {H' : Hp} {acc : List V} {aU : List Value} {n : Nat} (I : Inv X pins σ H s) (I' : Inv (cg X (T ++ M) scope cl C s H fp) [] σ' H' s')
 (hf : ∀ b ∈ fp, kj X pins H b) (hD : s.heap.objs.size <= D) (hn : H' D = none) (hl : acc.length <= sizeLine) (r : Vals acc aU) (hd : s'.heap.get? D = some { cls := .type "list", data := .seq aU.toArray n }) :
 Inv X pins σ (upd H' D (.lst acc)) s' := by
 have U : Un (kc X.stack) fp H H' s.heap s'.heap := I'.base
 have N6 : ∀ b o, s.heap.get? b = some o -> b ≠ D := fun b o e => Nat.ne_of_lt (Nat.lt_of_lt_of_le (Heap.lt_size e) hD)
 have neT : ∀ b u, H' b = some u -> b ≠ D := fun b u e => bX e hn
 refine I.p0 (ch := fp) I'.os ⟨U.keep, U.slot, fun b o e1 e2 e3 => ?_, U.there, fun b xs e => ?_, fun b o u e => ?_, fun b ps e => ?_⟩ (fun b u e => ?_) I'.bare (fun b hb => ⟨(hf b hb).2.2.2.1, (hf b hb).2.1, (hf b hb).2.2.2.2.1, (hf b hb).2.2.2.2.2⟩)
 . rw [aJ (N6 b o e1)]; exact U.free b o e1 e2 e3
 . rw [aJ (neT b _ (U.ke b xs e))]; exact U.ke b xs e
 . rw [aJ (neT b _ (U.jE b o u e))]; exact U.jE b o u e
 . obtain ⟨more, q⟩ := U.lI b ps e
   exact ⟨more, by rw [aJ (neT b _ q)]; exact q⟩
 . by_cases hb : b = D
   . subst hb
     rw [aN] at e
     cases e
     exact ⟨hl, aU, n, r, hd⟩
   . rw [aJ hb] at e
     exact (I'.a9 b u e).pF (fun c v _ q => q) (fun c q => by rw [aJ (neT c _ q)]; exact q) fun c xs q => by rw [aJ (neT c _ q)]; exact q
end
theorem vy {prog : Program} {w : World} {A : Around} {R : Result -> Shared -> Prop} {s : Shared} {elt target iter : Expr} {ifs : List Expr} {scope : Scope} {pos : Pos} {it acc : Value} {env : Env} (I : Nat -> Shared -> Prop)
 (turn : ∀ n s, I n s -> wpAny (model prog w) A (pyNext it) (fun r s₁ => match r with
  | none => R (.ok .next) s₁
  | some v => wpAny (model prog w) A (letOwnedTupleGo target it v) (fun _ um => wpAny (model prog w) A (assign target env v) (fun _ s₂ =>
   wpAny (model prog w) A (forIn ifs true fun c r => if r = true then do let ok <- isTrue c env (eval c env); pure (ForInStep.yield ok) else pure (ForInStep.yield r)) (fun ok s₃ =>
    if ok = true then wpAny (model prog w) A (eval elt env) (fun x s₄ =>
     wpAny (model prog w) A (call (.builtin "list.append") [acc, x]) (fun _ s₅ => ∃ m, m < n /\ I m s₅) (fun _ _ => False) s₄) (fun _ _ => False) s₃
    else ∃ m, m < n /\ I m s₃) (fun _ _ => False) s₂) (fun _ _ => False) um) (fun _ _ => False) s₁) (fun _ _ => False) s)
 (n : Nat) (h : I n s) :
 codeAny (model prog w) A (.compLoop (.ListComp elt [⟨target, iter, ifs, 0⟩] scope pos) 0 it acc env) R s := by
 refine codeAny_loop rfl I (fun n s hI => ?_) n h
 show wpAny _ A ((compTurn (.ListComp elt [⟨target, iter, ifs, 0⟩] scope pos) 0 it acc env).onRaise (fun x => do noteFrame x env; theTreesLotGoes x)) _ _ s
 refine wpAny_noted ?_
 rw [compTurn_list]
 refine wpAny_bind (wpAny_standAt (wpAny_bind (wpAny_mono (turn n s hI) (fun r s₁ h₁ => ?_) fun _ _ h' => h'.elim)))
 cases r with
 | none => exact wpAny_pure h₁
 | some v =>
   refine wpAny_bind (wpAny_mono h₁ (fun _ um Ag => ?_) fun _ _ h' => h'.elim)
   refine wpAny_bind (wpAny_mono Ag (fun _ s₂ h₂ => wpAny_bind (wpAny_mono h₂ (fun ok s₃ h₃ => ?_) fun _ _ h' => h'.elim)) fun _ _ h' => h'.elim)
   cases ok with
   | false => exact wpAny_pure ⟨rfl, h₃⟩
   | true =>
     exact wpAny_bind (wpAny_bind (wpAny_mono h₃ (fun x s₄ h₄ => wpAny_bind (wpAny_mono h₄ (fun _ s₅ h₅ => wpAny_pure (wpAny_pure ⟨rfl, h₅⟩)) fun _ _ h' => h'.elim)) fun _ _ h' => h'.elim))
def Hh (X : Cx) (ifs : List Expr) (t : TT) : Prop :=
 ∀ (pins : List (Addr × Obj)) (s : Shared) (σ : St) (H : Hp) (Q : Bool -> Hp -> Prop), Inv X pins σ H s -> t σ H Q ->
   wpAny (model X.prog X.w) X.A (forIn ifs true fun c r => if r = true then do let ok <- isTrue c X.env (eval c X.env); pure (ForInStep.yield ok) else pure (ForInStep.yield r)) (TP X pins σ Q) X.xe s
def LR : TT := fun _ H Q => Q true H
theorem nU {X : Cx} : Hh X [] LR := fun _ _ _ H _ I h => wpAny_tests_nil ⟨H, I, h⟩
def Ei (k : Nat) (g : TG) (tc : TT) (te : TE) (Fin : List V -> Hp -> Prop) (σ : St) (J : It) (H1 : Hp) : Prop :=
 ∃ W : Nat -> Nat -> List V -> Hp -> Prop, (∃ m, W 0 m [] H1) /\ ∀ i m acc H, W i m acc H ->
   (J.stop i H /\ Fin acc H) \/ (J.go i H /\ acc.length < sizeLine /\ ∀ x H', J.Kw i H x H' -> g x (List.replicate k none ++ σ) H' fun σ2 H2 => tc σ2 H2 fun b H3 =>
    if b = true then te σ2 H3 fun y H4 => ∃ m', m' < m /\ W (i + 1) m' (acc ++ [y]) H4 else ∃ m', m' < m /\ W (i + 1) m' acc H3)
section
variable {X : Cx} {pins : List (Addr × Obj)} {σ : St} {H : Hp} {s : Shared} {T M : List Str} {scope : Scope} {cl : List (Str × Addr)} {fp : List Addr} {g : TG} {tc : TT} {te : TE} {tg elt iter : Expr} {ifs : List Expr} {pos : Pos}
theorem Inv.forget {X : Cx} {pins : List (Addr × Obj)} {σ σ' : St} {H : Hp} {s : Shared} (I : Inv X pins σ' H s) (k : Nat) (hk : k + σ.length = σ'.length) (h : σ'.drop k = σ) : Inv X pins (List.replicate k none ++ σ) H s := by
 refine I.weak (by simp [hk]) (fun i v e => ?_)
 by_cases hi : i < k
 . rw [List.getElem?_append_left (by simpa using hi), List.getElem?_replicate, if_pos hi] at e; cases e
 . rw [List.getElem?_append_right (by simpa using hi), List.length_replicate, <- h, List.getElem?_drop] at e
   have : k + (i - k) = i := by omega
   rw [this] at e; exact e
theorem Bq {it : Addr} {tn : Nat -> Heap -> Prop} {J : It} {RR : Value -> Addr -> Result -> Shared -> Prop} {Fin : List V -> Hp -> Prop} {E : Value -> Shared -> Prop}
 (hN : fY X T M scope) (jX : X.calm = true) (h1 : ∀ x c, cl.lookup x = some c -> X.env.cells.lookup x = some c) (h2 : ∀ x ∈ scope.names, x.2 = .free -> ∃ c, cl.lookup x.1 = some c)
 (hg : ∀ cl C s H fp, PG (cg X (T ++ M) scope cl C s H fp) tg g) (L8 : ∀ v H Q, g v (List.replicate T.length none ++ σ) H Q -> g v (List.replicate T.length none ++ σ) H fun σ2 H2 => Q σ2 H2 /\ T.length + σ.length = σ2.length /\ σ2.drop T.length = σ)
 (hc : ∀ cl C s H fp, Hh (cg X (T ++ M) scope cl C s H fp) ifs tc) (he : ∀ cl C s H fp, PE (cg X (T ++ M) scope cl C s H fp) elt te)
 (I : Inv X pins σ H s) (Tn : Turn X.prog X.w X.K tg J fp it tn) (st : tn 0 s.heap) (hf : ∀ b ∈ fp, kj X pins H b) (hW : Ei T.length g tc te Fin σ J H)
 (hR : ∀ D C s' H' acc m, s.heap.objs.size <= D -> s.heap.objs.size <= C -> C ≠ D -> s'.heap.Ns C m -> H' C = none -> H' D = none -> Inv X pins σ (upd H' D (.lst acc)) s' -> Fin acc H' -> RR (.ref D) C (.ok .next) s') :
 wpAny (model X.prog X.w) X.A (newList []) (fun acc s₃ => wpAny (model X.prog X.w) X.A (newFunctionEnv scope X.env.globals cl [] X.env.qual none .none (some X.env)) (fun qI s₄ =>
  codeAny (model X.prog X.w) X.A (.compStart (.ListComp elt [⟨tg, iter, ifs, 0⟩] scope pos) 0 (.ref it) acc { qI with scope := relabel scope X.env }) (RR acc qI.locals) s₄) E s₃) E s := by
 refine wpAny_newObj_type (wpAny_newFunctionEnv hN.cell (by intro y hy; simp at hy) (fun h₁ lF iw => ?_) hN.kind)
 dsimp only at lF iw ⊢
 generalize Gu : s.heap.push { cls := .type "list", dict := none, data := .seq ([] : List Value).toArray } = H2 at lF iw ⊢
 have hC : H2.objs.size = s.heap.objs.size + 1 := by rw [<- Gu, Heap.size_push]
 have Ca : s.heap.objs.size ≠ H2.objs.size := by rw [hC]; exact Nat.ne_of_lt (Nat.lt_succ_self _)
 have ux : s.heap.objs.size <= H2.objs.size := by rw [hC]; exact Nat.le_succ _
 have C2 : ∀ b ∈ fp, b < s.heap.objs.size := fun b hb => by obtain ⟨o, ho, _⟩ := Tn.obj _ _ st b hb; exact Heap.lt_size ho
 have old : ∀ b o, s.heap.get? b = some o -> h₁.get? b = some o := fun b o e => iw.extBut b o (Nat.ne_of_lt (Nat.lt_of_lt_of_le (Heap.lt_size e) ux)) (Heap.get?_push_of_some _ (Gu ▸ Heap.get?_push_of_some _ e))
 have iU : h₁.PlainList s.heap.objs.size #[] := ⟨_, iw.extBut _ _ Ca (Heap.get?_push_of_some _ (Gu ▸ Heap.get?_push_size _ rfl))⟩
 generalize wI : s.heap.objs.size = D at *
 generalize HL : H2.objs.size = C at *
 have I0 : Inv (cg X (T ++ M) scope cl C s H fp) [] (List.replicate T.length none ++ σ) H { s with heap := h₁, toks := s.toks + ([] : List (Str × Value)).length } :=
  uq I hN h1 h2 (by rw [wI]; exact ux) hf (by rw [wI]; exact C2) lF old
 have Ka : tn 0 h₁ := Tn.keep _ _ _ st fun b _ o e => old b o e
 obtain ⟨W, ⟨m0, w0⟩, turn⟩ := hW
 have Io : ∀ b ∈ fp, b ≠ D := fun b hb => Nat.ne_of_lt (C2 b hb)
 have stat : ∀ {H' : Hp} {pl : List (Addr × Obj)}, (∀ b ∈ fp, H' b = none) -> (∀ p ∈ pl, p.1 = D) -> ∀ b ∈ fp, kj (cg X (T ++ M) scope cl C s H fp) pl H' b := fun {H' pl} hn hp b hb => by
  have ok := I0.ok
  refine ⟨hn b hb, (ok.BE b hb).1, ok.rD b hb, .inl hb, (ok.BE b hb).2, fun p hq => ?_⟩
  have BQ : p ∈ pl := hq
  rw [hp p BQ]; exact Ne.symm (Io b hb)
 have loop : codeAny (model X.prog X.w) X.A (.compLoop (.ListComp elt [⟨tg, iter, ifs, 0⟩] scope pos) 0 (.ref it) (.ref D) (compEnvC scope cl C X.env)) (RR (.ref D) C) { s with heap := h₁, toks := s.toks + ([] : List (Str × Value)).length } := by
  refine vy (fun n s' => ∃ i acc H' aU, Inv (cg X (T ++ M) scope cl C s H fp) [] (List.replicate T.length none ++ σ) H' s' /\ tn i s'.heap /\ (∀ b ∈ fp, H' b = none) /\ s'.heap.PlainList D aU /\ H' D = none /\ Vals acc aU.toList /\ acc.length <= sizeLine /\ W i n acc H') ?_ m0
   ⟨0, [], H, #[], I0, Ka, fun b hb => (hf b hb).1, iU, I.a9.fresh (by rw [wI]; exact Nat.le_refl _), .nil, Nat.zero_le _, w0⟩
  rintro n s3 ⟨i, acc, H3, aU, I3, Eu, Ec, ⟨nn, ho⟩, GR, hv, hlen, w3⟩
  have Gs : ∀ {H'} {s'} {σ'} {o : Obj}, Inv (cg X (T ++ M) scope cl C s H fp) [] σ' H' s' -> s'.heap.get? D = some o -> (∀ v, o.data ≠ .cell v) -> H' D = none -> Inv (cg X (T ++ M) scope cl C s H fp) [(D, o)] σ' H' s' := fun {H' s' σ' o} I' e d hn => by
   refine I'.gB fun p hp => ?_
   have e' : p = (D, o) := by simpa using hp
   subst e'
   refine ⟨e, hn, Ca, fun z => ?_, d⟩
   have z' : D ∈ kc X.stack := z
   obtain ⟨_, o', pC, _⟩ := I.stack.mem z'
   exact absurd (Heap.lt_size pC) (by rw [wI]; exact Nat.lt_irrefl _)
  have JB := Gs I3 ho (fun v z => by cases z) GR
  rcases turn i n acc H3 w3 with ⟨stop, fin⟩ | ⟨go, hl, step⟩
  . refine bK (Tn.done (cg X (T ++ M) scope cl C s H fp) rfl rfl rfl jX i _ s3 _ H3 _ JB (stat Ec (by simp)) Eu stop) fun r s4 ⟨hr, I4⟩ => ?_
    subst hr
    have e4 := (I4.pin (D, _) (List.mem_append_right _ List.mem_cons_self)).1
    have F1 : Inv (cg X (T ++ M) scope cl C s H fp) [] (List.replicate T.length none ++ σ) H3 s4 := I4.gB fun p hp => nomatch hp
    obtain ⟨m4, n4, _⟩ := F1.loc
    exact hR D C s4 H3 acc m4 (Nat.le_refl _) ux (Ne.symm Ca) n4 F1.free GR (w9 I F1 hf (by rw [wI]; exact Nat.le_refl _) GR hlen hv (by simpa using e4)) fin
  . refine bK (Tn.item (cg X (T ++ M) scope cl C s H fp) rfl rfl rfl jX i _ s3 _ H3 _ JB (stat Ec (by simp)) Eu go) fun r s4 ⟨u, hr, h4⟩ => ?_
    subst hr
    refine bK h4 fun _ s5 ⟨x, H5, I5, r5, y5, zf, HJ⟩ => ?_
    have HK := I5.pinned (stat HJ (by simp)) (Tn.obj _ _ zf)
    refine bK (hg _ _ _ _ _ _ s5 _ H5 x u _ HK r5 (L8 _ _ _ (step x H5 y5))) fun _ s6 ⟨σ6, H6, I6, q6, MD, K3⟩ => ?_
    refine bK (hc _ _ _ _ _ _ s6 σ6 H6 _ I6 q6) fun b s7 ⟨H7, I7, q7⟩ => ?_
    have rest : ∀ {s8 : Shared} {H8 : Hp}, Inv (cg X (T ++ M) scope cl C s H fp) ([(D, _)] ++ lH fp s5.heap) σ6 H8 s8 -> tn (i + 1) s8.heap /\ (∀ b ∈ fp, H8 b = none) /\ s8.heap.PlainList D aU /\ H8 D = none /\ Inv (cg X (T ++ M) scope cl C s H fp) [] (List.replicate T.length none ++ σ) H8 s8 := fun {s8 H8} I8 => by
     refine ⟨Tn.keep _ _ _ zf fun b hb o e => (I8.pin (b, o) (List.mem_append_right _ (List.mem_append_right _ (dI hb e)))).1, fun b hb => ?_, ⟨nn, (I8.pin (D, _) (List.mem_append_right _ (List.mem_append_left _ List.mem_cons_self))).1⟩, (I8.pin (D, _) (List.mem_append_right _ (List.mem_append_left _ List.mem_cons_self))).2.1, (I8.forget T.length MD K3).gB fun p hp => nomatch hp⟩
     obtain ⟨o, e, d⟩ := Tn.obj _ _ zf b hb
     exact (I8.pin (b, o) (List.mem_append_right _ (List.mem_append_right _ (dI hb e)))).2.1
    cases b with
    | false =>
      obtain ⟨m', hm, w7⟩ := q7
      obtain ⟨a1, a2, a3, a4, a5⟩ := rest I7
      exact ⟨m', hm, i + 1, acc, H7, aU, a5, a1, a2, a3, a4, hv, hlen, w7⟩
    | true =>
      refine bK (he _ _ _ _ _ _ s7 σ6 H7 _ I7 q7) fun y s8 ⟨yv, H8, I8, r8, m', hm, w8⟩ => ?_
      obtain ⟨a1, a2, a3, a4, a5⟩ := rest I8
      have hsz : aU.size <= sizeLine := by have := hv.length; simp at this; omega
      refine wpAny_list_append_plain (hsz := hsz) a3 fun h9 Mg Hy => ?_
      refine ⟨m', hm, i + 1, acc ++ [yv], H8, aU.push y, ?_, ?_, a2, Mg, a4, ?_, by simp; omega, w8⟩
      . exact a5.turned (t' := s8.toks) (it := D) (fun b o hb e => (Hy.2 b hb).trans e) a4 Ca (.inr (by show s.heap.objs.size <= D; rw [wI]; exact Nat.le_refl _)) (fun x c e z => by
         obtain ⟨v, o, ho, _⟩ := I.cell x c (h1 x c e)
         exact absurd (Heap.lt_size ho) (by rw [wI, z]; exact Nat.lt_irrefl _)) (fun p hp => nomatch hp)
      . exact Tn.keep _ _ _ a1 fun b hb o e => (Hy.2 b (Io b hb)).trans e
      . simpa using Vals.append hv (.cons r8 .nil)
 exact codeAny_compStart_list loop (Tn.self _ _ _ _ _ Ka loop)
end
def Cb (k : Nat) (g : TG) : Prop := ∀ v (τ σ : St) H Q, τ.length = k -> g v (τ ++ σ) H Q -> g v (τ ++ σ) H fun σ2 H2 => Q σ2 H2 /\ ∃ τ', τ'.length = k /\ σ2 = τ' ++ σ
theorem gO {k i : Nat} (h : i < k) : Cb k (ig i) := fun v τ σ H Q hl q => by
 have e : (τ ++ σ).set i (some v) = τ.set i (some v) ++ σ := List.set_append_left _ _ (by omega)
 exact ⟨q, τ.set i (some v), by simp [hl], e⟩
def rW (Q : VK) (acc : List V) (H : Hp) : Prop := ∀ p, H p = none -> Q (.ref p) (upd H p (.lst acc))
def He (k : Nat) (wi : TI) (g : TG) (tc : TT) (te : TE) : TE := fun σ H Q => wi σ H fun J H1 => Ei k g tc te (rW Q) σ J H1
section
variable {X : Cx} {T M : List Str} {scope : Scope} {g : TG} {tc : TT} {te : TE} {wi : TI} {tg elt iter : Expr} {ifs : List Expr} {pos : Pos}
theorem DW (hN : fY X T M scope) (jX : X.calm = true) (hi : PI X tg iter wi) (hg : ∀ cl C s H fp, PG (cg X (T ++ M) scope cl C s H fp) tg g) (HB : Cb T.length g)
 (hc : ∀ cl C s H fp, Hh (cg X (T ++ M) scope cl C s H fp) ifs tc) (he : ∀ cl C s H fp, PE (cg X (T ++ M) scope cl C s H fp) elt te)
 (hs : ∀ x, foldedSetIterable iter X.env x = pure x := by intro _; rfl) : PE X (.ListComp elt [⟨tg, iter, ifs, 0⟩] scope pos) (He T.length wi g tc te) := by
 intro pins s σ H Q I h
 obtain ⟨cl, EL, h1, h2⟩ := lD (scope := scope) (env := X.env) fun x hx hf => I.ok.has x.1 (hN.free x hx hf)
 rw [eval_ListComp]
 refine wpAny_comprehension_free (use := none) rfl hs EL hN.kind hN.names (bK (hi pins s σ H _ I h) fun xv s1 HA => bK HA fun IG s2 JC => ?_)
 obtain ⟨it, fp, tn, J, H2, e, I2, Tn, st, hf, hW⟩ := JC
 subst e
 refine Bq (RR := fun acc C => compPost (model X.prog X.w) X.A X.xe none (EP X pins σ Q) acc C) hN jX h1 h2 hg (fun v H Q q => ?_) hc he I2 Tn st hf hW ?_
 . have := HB v (List.replicate T.length none) σ H Q (by simp) q
   refine (by
    have e : (fun (σ2 : St) (H2 : Hp) => Q σ2 H2 /\ T.length + σ.length = σ2.length /\ σ2.drop T.length = σ) = fun σ2 H2 => Q σ2 H2 /\ ∃ τ' : St, τ'.length = T.length /\ σ2 = τ' ++ σ := by
     funext σ2 H2
     refine propext ⟨fun ⟨a, b, c⟩ => ⟨a, σ2.take T.length, by rw [List.length_take]; omega, by rw [<- c, List.take_append_drop]⟩, fun ⟨a, τ', b, c⟩ => ⟨a, by rw [c, List.length_append, b], by rw [c, <- b, List.drop_left]⟩⟩
    rw [e]; exact this)
 . intro D C s' H' acc m hD hC kh hn IB HH Ib fin
   refine ⟨m, hn, fun h' DT => ⟨.ref D, _, ?_, rfl, fin D HH⟩⟩
   exact Ib.turned (t' := s'.toks) (it := C) (fun b o hb e => (DT.2 b hb).trans e) (by rw [aJ kh]; exact IB) (Nat.ne_of_gt (Nat.lt_of_lt_of_le I2.lt hC)) (.inr (Nat.le_trans I2.sz hC)) (fun x c e z => by
    obtain ⟨v, q⟩ := I2.cell x c e
    exact absurd (Nat.lt_of_lt_of_le q.lt (by rw [z]; exact hC)) (Nat.lt_irrefl _)) (fun p hp z => absurd (Nat.lt_of_lt_of_le (Heap.lt_size (I2.pin p hp).1) (by rw [z]; exact hC)) (Nat.lt_irrefl _))
theorem JW {i : Nat} {y : Str} {py Js : Pos} (Ob : X.N.Nodup) (Kr : X.N[i]? = some y) (hy : Loc X.env.scope y) (hN : fY X T M scope) (jX : X.calm = true) (hi : PI X tg iter wi) (hg : ∀ cl C s H fp, PG (cg X (T ++ M) scope cl C s H fp) tg g) (HB : Cb T.length g)
 (hc : ∀ cl C s H fp, Hh (cg X (T ++ M) scope cl C s H fp) ifs tc) (he : ∀ cl C s H fp, PE (cg X (T ++ M) scope cl C s H fp) elt te)
 (Pj : swapsWith (.ListComp elt [⟨tg, iter, ifs, 0⟩] scope pos) (some (.Name y py)) Js.line X.env = pure true)
 (hs : ∀ x, foldedSetIterable iter X.env x = pure x := by intro _; rfl) (N5 : X.fn y = true \/ X.env.scope.names.lookup y = some .local := by first | exact .inl rfl | exact .inr rfl | assumption) :
 PS X (.Assign [.Name y py] (.ListComp elt [⟨tg, iter, ifs, 0⟩] scope pos) Js) (vm (He T.length wi g tc te) (ig i)) := by
 intro pins s σ H D' I h
 have h : He T.length wi g tc te σ H fun x H1 => D'.nx (σ.set i (some x)) H1 := h
 obtain ⟨cl, EL, h1, h2⟩ := lD (scope := scope) (env := X.env) fun x hx hf => I.ok.has x.1 (hN.free x hx hf)
 rw [exec_Assign_Name_used _ _ _ _ Pj]
 refine wpAny_bind (wpAny_standAt (wpAny_bind ?_))
 show wpAny _ X.A (do let _ <- comprehension (.ListComp elt [⟨tg, iter, ifs, 0⟩] scope pos) scope X.env _ (newList []) false (eval iter X.env) (some (assign (.Name y py) X.env))) _ _ s
 refine wpAny_bind (wpAny_mono (wpAny_comprehension_free (use := some (assign (.Name y py) X.env)) (Q := fun _ s' => SP X pins D' .next s') rfl hs EL hN.kind hN.names
  (bK (hi pins s σ H _ I h) fun xv s1 HA => bK HA fun IG s2 JC => ?_)) (fun _ s' hq => wpAny_pure (wpAny_pure hq)) fun _ _ e => e)
 obtain ⟨it, fp, tn, J, H2, e, I2, Tn, st, hf, hW⟩ := JC
 subst e
 refine Bq (RR := fun acc C => compPost (model X.prog X.w) X.A X.xe (some (assign (.Name y py) X.env)) (fun _ s' => SP X pins D' .next s') acc C) hN jX h1 h2 hg (fun v H Q q => ?_) hc he I2 Tn st hf hW ?_
 . have := HB v (List.replicate T.length none) σ H Q (by simp) q
   refine (by
    have e : (fun (σ2 : St) (H2 : Hp) => Q σ2 H2 /\ T.length + σ.length = σ2.length /\ σ2.drop T.length = σ) = fun σ2 H2 => Q σ2 H2 /\ ∃ τ' : St, τ'.length = T.length /\ σ2 = τ' ++ σ := by
     funext σ2 H2
     refine propext ⟨fun ⟨a, b, c⟩ => ⟨a, σ2.take T.length, by rw [List.length_take]; omega, by rw [<- c, List.take_append_drop]⟩, fun ⟨a, τ', b, c⟩ => ⟨a, by rw [c, List.length_append, b], by rw [c, <- b, List.drop_left]⟩⟩
    rw [e]; exact this)
 . intro D C s' H' acc m hD hC kh hn IB HH Ib fin
   show wpAny _ X.A (assign (.Name y py) X.env (.ref D)) _ _ _
   refine wpAny_assign_Name (rX Ib Ob Kr hy (v := .ref D) rfl (fun s3 I3 ⟨a, sb, ha⟩ => ?_) N5)
   have Nm : C ≠ X.env.locals := Nat.ne_of_gt (Nat.lt_of_lt_of_le I2.lt hC)
   have Nn : ∀ x c, X.env.cells.lookup x = some c -> c ≠ C := fun x c e z => by
    obtain ⟨v, q⟩ := I2.cell x c e
    exact absurd (Nat.lt_of_lt_of_le q.lt (by rw [z]; exact hC)) (Nat.lt_irrefl _)
   have O8 : C ≠ a := by
    rcases ha with rfl | ha
    . exact Nm
    . exact Ne.symm (Nn _ _ ha)
   refine ⟨m, hn.sameBut sb O8, fun h' DT => ⟨_, _, ?_, fin D HH⟩⟩
   exact I3.turned (t' := s3.toks) (it := C) (fun b o hb e => (DT.2 b hb).trans e) (by rw [aJ kh]; exact IB) Nm (.inr (Nat.le_trans I2.sz hC)) Nn (fun p hp z => absurd (Nat.lt_of_lt_of_le (Heap.lt_size (I2.pin p hp).1) (by rw [z]; exact hC)) (Nat.lt_irrefl _))
end
end L2
namespace L2
open PySem PySem.Spec PyProof.Rows PySem.W
mutual
def sE : PyData -> Bool
 | .none => true
 | .bool _ => true
 | .int _ => true
 | .str _ => true
 | .tuple ds => aQ ds
 | .list _ => false
 | .dict _ => false
def aQ : List PyData -> Bool
 | [] => true
 | d :: ds => sE d && aQ ds
end
theorem c5 : ∀ {ds : List PyData}, aQ ds = true ↔ ∀ d ∈ ds, sE d = true
 | [] => by simp [aQ]
 | d :: ds => by simp [aQ, c5 (ds := ds)]
theorem gG {ds es : List PyData} (h1 : aQ ds = true) (h2 : aQ es = true) : aQ (ds ++ es) = true := by
 rw [c5] at *
 intro d hd
 rcases List.mem_append.mp hd with h | h
 . exact h1 d h
 . exact h2 d h
theorem lS {α : Type} {f : α -> PyData} (h : ∀ x, sE (f x) = true) (xs : List α) : aQ (xs.map f) = true := by
 rw [c5]
 intro d hd
 obtain ⟨x, _, rfl⟩ := List.mem_map.mp hd
 exact h x
structure Mv (S : List Addr) (H H' : Hp) : Prop where
 kp : ∀ a o, a ∉ S -> H a = some o -> H' a = some o
 tp : ∀ a xs, H a = some (.tup xs) -> H' a = some (.tup xs)
 dm : ∀ a, H' a = none -> H a = none
theorem ao.mv {S : List Addr} {H H' : Hp} (s : ao H H') : Mv S H H' := ⟨fun a o _ h => s a o h, fun a xs h => s a _ h, fun a h => by
 cases e : H a with
 | none => rfl
 | some o => rw [s a o e] at h; cases h⟩
theorem Mv.at {S : List Addr} {H H' : Hp} {a : Addr} {o : HO} (m : Mv S H H') (n : a ∉ S) (h : H a = some o) : H' a = some o := m.kp a o n h
theorem ao.none {H H' : Hp} {a : Addr} (m : ao H H') (h : H' a = none) : H a = none := (m.mv (S := [])).dm a h
theorem Mv.wx {H : Hp} {p : Addr} {o u : HO} (h : H p = some u) (nt : ∀ xs, u ≠ .tup xs) : Mv [p] H (upd H p o) := ⟨fun a v n e => by
 rw [aJ (fun z => n (by simp [z]))]; exact e, fun a xs e => by
 rw [aJ (fun z => by subst z; rw [h] at e; exact nt xs (Option.some.inj e))]; exact e, fun a e => by
 by_cases z : a = p
 . subst z; rw [aN] at e; cases e
 . rw [aJ z] at e; exact e⟩
mutual
theorem Dv.Hm {H H' : Hp} (t : ∀ a xs, H a = some (.tup xs) -> H' a = some (.tup xs)) : ∀ {v : V} {d : PyData}, Dv H v d -> sE d = true -> Dv H' v d
 | _, _, .cj, _ => .cj
 | _, _, .bl b, _ => .bl b
 | _, _, .int i, _ => .int i
 | _, _, .str x, _ => .str x
 | _, _, .tup h r, c => .tup (t _ _ h) (cf.Hm t r (by simpa [sE] using c))
 | _, _, .lst h r, c => by simp [sE] at c
 | _, _, .dct h r, c => by simp [sE] at c
theorem cf.Hm {H H' : Hp} (t : ∀ a xs, H a = some (.tup xs) -> H' a = some (.tup xs)) : ∀ {v : List V} {d : List PyData}, cf H v d -> aQ d = true -> cf H' v d
 | _, _, .nil, _ => .nil
 | _, _, .cons h r, c => by
   have c' := c
   simp only [aQ, Bool.and_eq_true] at c'
   exact .cons (Dv.Hm t h c'.1) (cf.Hm t r c'.2)
end
theorem Mv.Ao {S : List Addr} {H H' : Hp} {v : List V} {d : List PyData} (m : Mv S H H') (i : aQ d = true) (h : cf H v d) : cf H' v d := h.Hm m.tp i
def dq (H : Hp) (p : Addr) (ds : List PyData) : Prop := ∃ xs, H p = some (.lst xs) /\ cf H xs ds /\ aQ ds = true
theorem dq.dv {H : Hp} {p : Addr} {ds : List PyData} (h : dq H p ds) : Dv H (.ref p) (.list ds) := let ⟨_, e, d, _⟩ := h; .lst (.of e) d
theorem dq.keeps {H H' : Hp} {p : Addr} {ds : List PyData} (s : ao H H') (h : dq H p ds) : dq H' p ds := let ⟨xs, e, d, i⟩ := h; ⟨xs, s _ _ e, d.keeps s, i⟩
theorem dq.mv {S : List Addr} {H H' : Hp} {p : Addr} {ds : List PyData} (m : Mv S H H') (n : p ∉ S) (h : dq H p ds) : dq H' p ds := let ⟨xs, e, d, i⟩ := h; ⟨xs, m.at n e, m.Ao i d, i⟩
theorem ik {H : Hp} {p : Addr} {xs : List V} {ds : List PyData} (hn : H p = none) (d : cf H xs ds) (i : aQ ds = true) : dq (upd H p (.lst xs)) p ds := ⟨xs, aN, d.keeps (bA hn), i⟩
theorem An {p q : Addr} (h : p ≠ q) : p ∉ [q] := by simpa using h
theorem small {n m : Nat} (h : n <= m) (hm : m <= 4000 := by decide) : n <= sizeLine := Nat.le_trans h (Nat.le_trans hm (by decide))
theorem fZ {n : Nat} (h : n <= 4000) : n < sizeLine := Nat.lt_of_le_of_lt h (by decide)
section
variable {σ : St} {H : Hp} {Q : VK} {D : Ends} {K : PySem.W.Frag} {p : Addr} {ds : List PyData}
theorem Lz {T : String} {r : V -> List V -> Hp -> VK -> Prop} {to : TE} {t : TA} (h : to σ H fun x H1 => Gr K T x H1 /\ t σ H1 fun xs H2 => r x xs H2 Q) : Nb K T r to t σ H Q := h
theorem JT {T : String} {r : V -> List V -> Hp -> VK -> Prop} {to : TE} (h : to σ H fun x H1 => Gr K T x H1 /\ r x [] H1 Q) : Jp K T r to σ H Q := h
theorem Ie {R : Prop} (hp : dq H p ds) (h : R) : Gr K "list" (.ref p) H /\ R := let ⟨xs, e, _, _⟩ := hp; ⟨.inl ⟨rfl, xs, fW.of e⟩, h⟩
theorem Jh {y : V} {d : PyData} (hp : dq H p ds) (hl : ds.length <= 4000) (hy : Dv H y d) (hi : sE d = true) (h : ∀ H2, Mv [p] H H2 -> dq H2 p (ds ++ [d]) -> Q .cj H2) : xG (.ref p) [y] H Q := by
 obtain ⟨xs, e, dv, i⟩ := hp
 have m : Mv [p] H (upd H p (.lst (xs ++ [y]))) := .wx e (by intro _ z; cases z)
 refine ⟨p, xs, y, rfl, rfl, e, by rw [dv.length]; exact fZ hl, h _ m ⟨_, aN, m.Ao (gG i (by simp [aQ, hi])) (dv.append (.cons hy .nil)), gG i (by simp [aQ, hi])⟩⟩
theorem vT {xs : List V} (hl : xs.length <= sizeLine) (hd : cf H xs ds) (hi : aQ ds = true) (k : ∀ p H2, ao H H2 -> H p = none -> dq H2 p ds -> Q (.ref p) H2) : AQ xs H Q :=
 ⟨hl, ds, hd, fun p H2 s n e d _ => k p H2 s n ⟨xs, e, d, hi⟩⟩
end
mutual
theorem Dv.fn {H : Hp} : ∀ {v : V} {d e : PyData}, Dv H v d -> Dv H v e -> sE d = true -> d = e
 | _, _, _, .cj, h, _ => by cases h; rfl
 | _, _, _, .bl b, h, _ => by cases h; rfl
 | _, _, _, .int i, h, _ => by cases h; rfl
 | _, _, _, .str x, h, _ => by cases h; rfl
 | _, _, _, .tup h r, h2, c => by
   cases h2 with
   | tup h' r' =>
     have c' := (by simpa [sE] using c : aQ _ = true)
     rw [h] at h'
     cases h'
     rw [cf.fn r r' c']
   | lst h' r' =>
     rcases h' with h' | ⟨o, h'⟩ <;> rw [h] at h' <;> cases h'
   | dct h' r' => rw [h] at h'; cases h'
 | _, _, _, .lst h r, _, c => by simp [sE] at c
 | _, _, _, .dct h r, _, c => by simp [sE] at c
theorem cf.fn {H : Hp} : ∀ {v : List V} {d e : List PyData}, cf H v d -> cf H v e -> aQ d = true -> d = e
 | _, _, _, .nil, h, _ => by cases h; rfl
 | _, _, _, .cons h r, h2, c => by
   have c' := c
   simp only [aQ, Bool.and_eq_true] at c'
   cases h2 with
   | cons h' r' => rw [Dv.fn h h' c'.1, cf.fn r r' c'.2]
end
theorem Dv.lst_inv {H : Hp} {v : V} {ds : List PyData} (h : Dv H v (.list ds)) : ∃ a xs, v = .ref a /\ (∀ K : PySem.W.Frag, fW K H a xs) /\ cf H xs ds := by
 cases h with
 | lst h r => exact ⟨_, _, rfl, fun _ => .inl h, r⟩
section
variable {σ : St} {H : Hp} {Q : VK} {D : Ends} {K : PySem.W.Frag} {p : Addr} {v : V} {ds : List PyData}
def Hw (te : TE) (N : Option V -> Hp -> Prop) (σ2 : St) (b : Bool) (H3 : Hp) : Prop := if b = true then te σ2 H3 (fun y H4 => N (some y) H4) else N none H3
theorem Jc {k : Nat} {tl : TE} {g : TG} {tc : TT} {te : TE} (h : tl σ H fun x H1 => ∃ a, x = .ref a /\ (∃ xs, fW K H1 a xs) /\ Ei k g tc te (rW Q) σ (Jy K a) H1) : He k (D3 K tl) g tc te σ H Q := h
theorem IP {k : Nat} {g : TG} {tc : TT} {te : TE} {α : Type} {cs : List α} {gd : α -> PyData} (pf : α -> Bool) (fd : α -> PyData) (hl : Dv H v (.list (cs.map gd))) (hlen : cs.length <= 4000) (hi : ∀ c, sE (fd c) = true)
 (turn : ∀ x c H' (N : Option V -> Hp -> Prop), c ∈ cs -> ao H H' -> Dv H' x (gd c) -> (pf c = true -> ∀ y H4, ao H' H4 -> Dv H4 y (fd c) -> N (some y) H4) -> (pf c = false -> ∀ H3, ao H' H3 -> N none H3) ->
  g x (List.replicate k none ++ σ) H' fun σ2 H2 => tc σ2 H2 fun b H3 => Hw te N σ2 b H3)
 (kk : ∀ q H', ao H H' -> H q = none -> dq H' q ((cs.filter pf).map fd) -> Q (.ref q) H') : ∃ a, v = .ref a /\ (∃ xs, fW K H a xs) /\ Ei k g tc te (rW Q) σ (Jy K a) H := by
 obtain ⟨p, xs, rfl, e, dv⟩ := hl.lst_inv
 have Gx : fW K H p xs := e K
 have Ht : xs.length = cs.length := by rw [dv.length, List.length_map]
 refine ⟨p, rfl, ⟨xs, Gx⟩, fun i m acc H' => i <= cs.length /\ m = cs.length - i /\ ao H H' /\ cf H' acc (((cs.take i).filter pf).map fd), ⟨cs.length, Nat.zero_le _, rfl, ao.refl _, by simpa using cf.nil⟩, ?_⟩
 rintro i m acc H' ⟨NA, hm, sm, iU⟩
 have De : fW K H' p xs := ao.seq sm Gx
 have Ft : acc.length <= cs.length := by
  rw [iU.length, List.length_map]
  exact Nat.le_trans (List.length_filter_le _ _) (by rw [List.length_take]; omega)
 by_cases hc : i = cs.length
 . left
   refine ⟨⟨xs, De, by omega⟩, fun q hq => ?_⟩
   rw [hc, List.take_length] at iU
   have NC : ao H (upd H' q (.lst acc)) := sm.trans (bA hq)
   exact kk q _ NC (sm.none hq) ⟨acc, aN, iU.keeps (bA hq), lS hi _⟩
 . right
   have rQ : i < cs.length := by omega
   have JA : i < xs.length := by omega
   refine ⟨⟨xs, xs[i], De, List.getElem?_eq_getElem JA⟩, fZ (by omega), fun x H2 hy => ?_⟩
   obtain ⟨rfl, hy⟩ := hy
   have hx := hy xs De
   have Jg : cs[i]? = some cs[i] := List.getElem?_eq_getElem rQ
   obtain ⟨x', tV, hd⟩ := dv.get (i := i) (d := gd cs[i]) (by rw [List.getElem?_map, Jg]; rfl)
   rw [hx] at tV
   cases tV
   have EG : cs.take (i + 1) = cs.take i ++ [cs[i]] := by rw [List.take_add_one, Jg]; rfl
   exact turn x cs[i] H2 (fun o H4 => match o with | some y => ∃ m', m' < m /\ i + 1 <= cs.length /\ m' = cs.length - (i + 1) /\ ao H H4 /\ cf H4 (acc ++ [y]) (((cs.take (i + 1)).filter pf).map fd) | none => ∃ m', m' < m /\ i + 1 <= cs.length /\ m' = cs.length - (i + 1) /\ ao H H4 /\ cf H4 acc (((cs.take (i + 1)).filter pf).map fd))
    (List.getElem_mem rQ) sm (hd.keeps sm)
    (fun hp y H4 s4 d4 => ⟨cs.length - (i + 1), by omega, rQ, rfl, sm.trans s4, by
     rw [EG, List.filter_append, List.map_append]
     simp only [List.filter_cons, hp, if_true, List.filter_nil, List.map_cons, List.map_nil]
     exact cf.append (iU.keeps s4) (.cons d4 .nil)⟩)
    (fun hp H3 s3 => ⟨cs.length - (i + 1), by omega, rQ, rfl, sm.trans s3, by
     rw [EG, List.filter_append, List.map_append]
     simp only [List.filter_cons, hp, Bool.false_eq_true, if_false, List.filter_nil, List.map_nil, List.append_nil]
     exact iU.keeps s3⟩)
end
def xJ (scope sc : Scope) (N M : List Str) : Bool :=
 (scope.kind == .function) && scope.names.all (fun y => y.2 != .cell) && scope.names.all (fun y => y.2 != .local || scope.names.lookup y.1 == some .local) &&
  scope.names.all (fun y => y.2 != .free || (sc.names.lookup y.1 == some .cell || sc.names.lookup y.1 == some .free)) && (M.length == N.length) &&
  (M.zip N).all fun p => (p.1 == p.2 && scope.names.lookup p.1 == some .free) || scope.names.lookup p.1 == none
theorem Jl {X : Cx} {T M : List Str} {scope : Scope} (sc : Scope) (N : List Str) (hs : X.env.scope = sc) (hN : X.N = N) (h : xJ scope sc N M = true) : fY X T M scope := by
 unfold xJ at h
 simp only [Bool.and_eq_true, List.all_eq_true, Bool.or_eq_true, bne_iff_ne, beq_iff_eq, ne_eq] at h
 obtain ⟨⟨⟨⟨⟨h1, h2⟩, h3⟩, h4⟩, h5⟩, h6⟩ := h
 refine ⟨h1, h2, fun y hy e => ?_, fun y hy e => ?_, by rw [hN]; exact h5, fun i x hx => ?_⟩
 . rcases h3 y hy with z | z
   . exact absurd e z
   . exact z
 . rw [hs]
   rcases h4 y hy with z | z
   . exact absurd e z
   . exact z
 . have hi : i < M.length := (List.getElem?_eq_some_iff.mp hx).1
   have Nx : i < N.length := by omega
   have hz : (M.zip N)[i]? = some (x, N[i]) := by
    rw [List.getElem?_zip_eq_some]
    exact ⟨hx, List.getElem?_eq_getElem Nx⟩
   rcases h6 _ (List.mem_of_getElem? hz) with ⟨a, b⟩ | a
   . left
     refine ⟨?_, b⟩
     rw [hN, List.getElem?_eq_getElem Nx]
     have a' : x = N[i] := a
     rw [a']
   . exact .inr a
section
variable {σ : St} {H : Hp} {Q : VK} {D : Ends} {K : PySem.W.Frag} {p : Addr} {v : V} {ds : List PyData}
theorem A6 {z : Str} {i : Int} {c : Nat} (hl : z.length <= sizeLine) (hi : o7 z.cps.toList i = some c) (h : Q (.str ⟨#[c]⟩) H) : AY K (.str z) (.int i) H Q := .inl (.inr ⟨z, i, c, rfl, rfl, hl, hi, h⟩)
theorem Aw {R : Bool -> Prop} (hp : Dv H v (.list ds)) (h : R (!ds.isEmpty)) : ∃ k, y0 K v H k /\ R k := by
 obtain ⟨p, xs, rfl, e, dv⟩ := hp.lst_inv
 refine ⟨_, .inl ⟨xs, e K, rfl⟩, ?_⟩
 have : xs.isEmpty = ds.isEmpty := by cases dv <;> rfl
 rw [this]; exact h
theorem Lr {te : TE} {tl th : TO} {r : V -> Option Int -> Option Int -> Hp -> VK -> Prop} (h : te σ H fun x H1 => tl σ H1 fun l H2 => th σ H2 fun u H3 => r x l u H3 Q) : KJ r te tl th σ H Q := h
theorem FK {t : TE} {R : Option Int -> Hp -> Prop} (h : t σ H fun x H1 => ∃ i, x = .int i /\ R (some i) H1) : AB t σ H R := h
theorem zA {R : Option Int -> Hp -> Prop} (h : R none H) : sQ σ H R := h
theorem C6 {i : Int} {R : Int -> Prop} (h : R i) : ∃ j, V.int i = .int j /\ R j := ⟨i, rfl, h⟩
end
end L2
namespace L2
theorem zH {H H1 H2 : Hp} (a : ∀ x, H1 x = none -> H x = none) (b : ∀ x, H2 x = none -> H1 x = none) : ∀ x, H2 x = none -> H x = none := fun x h => a x (b x h)
theorem G8 {H H' : Hp} {p : PySem.Addr} (s : ∀ x, H' x = none -> H x = none) (h : H' p = none) : H p = none := s p h
theorem ao.NF {H H' : Hp} (s : ao H H') : ∀ x, H' x = Option.none -> H x = Option.none := (s.mv (S := [])).dm
end L2
namespace L2
open PySem
theorem A5 {α β : Type} [Inhabited α] {f : α -> β} {xs : List α} {i : Int} (h0 : 0 <= i) (h1 : i < xs.length) : o7 (xs.map f) i = some (f (xs.getD i.toNat default)) := by
 obtain ⟨m, rfl⟩ := Int.eq_ofNat_of_zero_le h0
 have hm : m < xs.length := by omega
 refine j7 ?_
 rw [List.getElem?_map, List.getElem?_eq_getElem hm]
 simp [hm]
theorem EV {α : Type} {g : α -> PyData} {xs : List α} {K : PySem.W.Frag} {H : Hp} {Q : VK} {v : V} (hs : Dv H v (.list (xs.map g))) (h : Q (.int (xs.length : Nat)) H) : uM K [v] H Q := Ar (.inr hs) (by rw [List.length_map]; exact h)
theorem B5 {i : Nat} {v : V} {σ : St} {H : Hp} {R : St -> Hp -> Prop} (h : R (σ.set i (some v)) H) : ig i v σ H R := h
theorem Mv.Ey {p : Addr} {H H1 H2 : Hp} (s : ao H H1) (m : Mv [p] H1 H2) (n : H p = Option.none) : ao H H2 := fun a o e => m.kp a o (An (bX e n)) (s a o e)
theorem G1 {K : PySem.W.Frag} {H : Hp} {v : V} {ds : List PyData} {R : Bool -> Prop} (hp : Dv H v (.list ds)) (hn : ds ≠ []) (h : R true) : ∃ k, y0 K v H k /\ R k := Aw hp (by
 cases ds with
 | nil => exact absurd rfl hn
 | cons d ds => exact h)
theorem qB {te : TE} {N : Option V -> Hp -> Prop} {σ2 : St} {b : Bool} {H3 : Hp} (h1 : b = true -> te σ2 H3 (fun y H4 => N (some y) H4)) (h2 : b = false -> N none H3) : Hw te N σ2 b H3 := by
 unfold Hw
 cases b with
 | true => rw [if_pos rfl]; exact h1 rfl
 | false => rw [if_neg (by simp)]; exact h2 rfl
end L2
namespace L2
open PySem PySem.Spec PyProof.Rows
section
variable {X : Cx} {K : PySem.W.Frag} {a b e : Expr} {es : List Expr} {ta : TE} {pos : Pos}
theorem rV (h : X.K = K) (ha : PE X a ta) (he : ∀ whole, isTrue a X.env whole = (do let v <- whole; standAt a.pos; holding [v] (truthy v))) : PT X a (fun σ H Q => ta σ H fun x H' => ∃ k, y0 K x H' k /\ Q k H') := by rw [<- h]; exact eK ha he
end
end L2
namespace L2
open PySem PySem.Spec PyProof.Rows PySem.W
inductive KA (H : Hp) : List (Key × V) -> List (Str × PyData) -> Prop where
 | nil : KA H [] []
 | cons {k : Str} {v : V} {d : PyData} {dW : List (Key × V)} {m : List (Str × PyData)} (h : Dv H v d) (i : sE d = true) (r : KA H dW m) : KA H ((.inr k, v) :: dW) ((k, d) :: m)
def Ku (H : Hp) (p : Addr) (m : List (Str × PyData)) : Prop := ∃ dW, H p = some (.dK dW) /\ KA H dW m
section
variable {σ : St} {H : Hp} {Q : VK} {D : Ends} {K : PySem.W.Frag} {p : Addr} {m : List (Str × PyData)} {k : Str}
theorem BV {r r' : R2} {ta tb tc : TE} (h : ta σ H fun x H1 => tb σ H1 fun y H2 => r x y H2 fun z H3 => ∃ k, z = .bl k /\ if k = true then tc σ H3 fun u H4 => r' y u H4 Q else Q (.bl false) H3) : ve r r' ta tb tc σ H Q := h
end
end L2
namespace L2
end L2
namespace L2
open PySem
end L2
namespace L2
open PySem PySem.Spec PyProof.Rows PySem.W
def Fs (x : Str) : It := ⟨fun i _ => i < x.cps.size, fun i H v H' => H' = H /\ ∃ c, x.cps[i]? = some c /\ v = .str ⟨#[c]⟩, fun i _ => i = x.cps.size⟩
theorem uI {P : Program} {w : World} {K : PySem.W.Frag} {tg : Expr} {it : Addr} {x : Str} {t : Tok} {T : String} (hT : ["enumerate", "zip", "dict_itemiterator", "dict_reverseitemiterator", "odict_iterator", "itertools.zip_longest", "itertools.pairwise"].contains T = false)
 (W : ∀ A : Around, A.handled = none -> Walks P w A it [it] [it] x.cps.size (SignAt x) (fun i h => h.IsStrIter it T x t i))
 (self : ∀ (A : Around) (i : Nat) (s : Shared) (Q : Value -> Shared -> Prop) (E : Value -> Shared -> Prop), s.heap.IsStrIter it T x t i -> Q (.ref it) s -> wpAny (model P w) A (pyIter (.ref it)) Q E s) :
 Turn P w K tg (Fs x) [it] it (fun i h => h.IsStrIter it T x t i) where
 mem := by simp
 obj := fun i h st b hb => by
  have e : b = it := by simpa using hb
  subst e
  obtain ⟨o, e, c, d⟩ := st
  exact ⟨o, e, fun v z => by rw [d] at z; cases z⟩
 keep := fun i h h' st k => let ⟨o, e, r⟩ := st; ⟨o, k it (by simp) o e, r⟩
 item := by
  intro X hP hw hK hc i pins s σ H E I hf st hg
  subst hP hw hK
  obtain ⟨f0, f1, f2, f3, f4, f5⟩ := hf it (by simp)
  refine (W X.A (I.ok.hd hc)).item i s _ _ hg st fun v h' tk hv IE kk => ?_
  obtain ⟨c, u, Pm, rfl⟩ := hv
  have I1 : Inv X pins σ H { s with heap := h', toks := tk } := I.turned (fun b o hb e => kk b o (by simpa using hb) e) f0 f1 f3 f4 f5
  obtain ⟨o, e, cl, d⟩ := id IE
  exact ⟨_, rfl, EK (s := { s with heap := h', toks := tk }) e cl d hT ⟨.str ⟨#[c]⟩, H, I1, ⟨u, rfl⟩, ⟨rfl, c, Pm, rfl⟩, IE, fun b hb => (hf b hb).1⟩⟩
 done := by
  intro X hP hw hK hc i pins s σ H E I hf st hg
  subst hP hw hK
  obtain ⟨f0, f1, f2, f3, f4, f5⟩ := hf it (by simp)
  have NS : i = x.cps.size := hg
  subst NS
  exact (W X.A (I.ok.hd hc)).done s _ _ st fun h' tk kk => ⟨rfl, I.turned (fun b o hb e => kk b o (by simpa using hb) e) f0 f1 f3 f4 f5⟩
 self := self
def FG (tl : TE) : TI := fun σ H R => tl σ H fun v H1 => ∃ x, v = .str x /\ R (Fs x) H1
section
variable {X : Cx} {tg : Expr}
theorem Ap {l : Expr} {tl : TE} (hl : PE X l tl) : PI X tg l (FG tl) := by
 intro pins s σ H R I h
 refine bK (hl pins s σ H _ I h) fun v s1 ⟨y, H1, I1, r1, q1⟩ => ?_
 obtain ⟨x, e, q⟩ := q1
 subst e
 obtain ⟨t, rfl⟩ := r1
 have fin : ∀ b, b ∈ [s1.heap.objs.size] -> kj X pins H1 b := fun b hb => by
  have e : b = s1.heap.objs.size := by simpa using hb
  subst e
  exact I1.B1 (Nat.le_refl _) (I1.a9.fresh (Nat.le_refl _))
 cases ha : x.cps.all (· < 128)
 . refine wpAny_pyIter_wide ha ?_
   exact ⟨s1.heap.objs.size, [s1.heap.objs.size], _, _, H1, rfl, I1.kept (t' := s1.toks) fun b o e => Heap.get?_push_of_some _ e, uI (t := t) (by decide) (fun A hA => Walks.strWide hA _ x t) (fun A i s Q E st q => wpAny_pyIter_striter_wide st q), ⟨_, Heap.get?_push_size _ rfl, rfl, rfl⟩, fin, q⟩
 . refine wpAny_pyIter_ascii ha ?_
   exact ⟨s1.heap.objs.size, [s1.heap.objs.size], _, _, H1, rfl, I1.kept (t' := s1.toks) fun b o e => Heap.get?_push_of_some _ e, uI (t := t) (by decide) (fun A hA => Walks.strAscii hA _ x t) (fun A i s Q E st q => wpAny_pyIter_striter_ascii st q), ⟨_, Heap.get?_push_size _ rfl, rfl, rfl⟩, fin, q⟩
def JI : List V -> Hp -> VK -> Prop := fun xs H Q => ∃ (v : V) (bs : List Bool), xs = [v] /\ Dv H v (.list (bs.map PyData.bool)) /\ Q (.bl (bs.all id)) H
theorem uf {H : Hp} : ∀ {xs : List V} {bs : List Bool} {us : List Value}, cf H xs (bs.map PyData.bool) -> Vals xs us -> us = bs.map Value.bool
 | _, [], _, .nil, .nil => rfl
 | _, b :: bs, _, .cons h r, .cons q t => by
   cases h
   cases q
   rw [uf r t]; rfl
theorem vv {H : Hp} {pins : List (Addr × Obj)} {σ : St} {s : Shared} {v : V} {u : Value} {bs : List Bool} {A : Around} {E : Value -> Shared -> Prop} {Q : (Nat -> Bool) -> Shared -> Prop} (hA : A.handled = none) (I : Inv X pins σ H s) (rv : RelV v u) (hd : Dv H v (.list (bs.map PyData.bool)))
 (fin : ∀ h' tk, Inv X pins σ H { s with heap := h', toks := tk } -> Q (fun i => bs.getD i false) { s with heap := h', toks := tk }) :
 wpAny (model X.prog X.w) A (pyIter u) (fun it s2 => ∃ J fp wr n P St tr, it = .ref J /\ Walks X.prog X.w A J fp wr n P St /\ St 0 s2.heap /\ TruthOf X.prog X.w A P tr /\ n = bs.length /\ (tr = fun i => bs.getD i false) /\
  ∀ h' tk, (∀ b o, b ∉ wr -> s2.heap.get? b = some o -> h'.get? b = some o) -> Q tr { s2 with heap := h', toks := tk }) E s := by
 obtain ⟨p, xs, rfl, e, dv⟩ := hd.lst_inv
 obtain ⟨aU, Ip, pl, _⟩ := I.list (e X.K)
 have hits := uf dv Ip
 have hu : u = .ref p := rv
 subst hu
 refine wpAny_pyIter_list pl.isList ?_
 have rQ : p < s.heap.objs.size := by obtain ⟨o, n, e1, _⟩ := pl; exact Heap.lt_size e1
 refine ⟨s.heap.objs.size, _, _, _, _, _, fun i => bs.getD i false, rfl, Walks.list hA _ p (Nat.ne_of_lt rQ) aU.toArray, ⟨⟨_, Heap.get?_push_size _ rfl, rfl, rfl⟩, pl.isList.at fun o e => Heap.get?_push_of_some _ e⟩, ?_, ?_, rfl, fun h' tk kk => ?_⟩
 . intro i w' s3 Q3 E3 hP q
   subst hits
   have hi : (bs.map Value.bool)[i]? = some w' := by simpa using hP
   rw [List.getElem?_map] at hi
   cases hb : bs[i]? with
   | none => rw [hb] at hi; cases hi
   | some b =>
     rw [hb] at hi
     have : w' = .bool b := (Option.some.inj hi).symm
     subst this
     refine wpAny_truthy_bool ?_
     have : bs.getD i false = b := by simp [hb]
     have q' : Q3 (bs.getD i false) s3 := q
     rw [this] at q'
     exact q'
 . subst hits; simp
 . have I1 := I.kept (t' := s.toks) (h' := s.heap.push { cls := Value.type "list_iterator", data := Data.fields #[Value.ref p, Value.int 0 0] }) fun b o e => Heap.get?_push_of_some _ e
   have fp := I.B1 (H' := H) (Nat.le_refl _) (I.a9.fresh (Nat.le_refl _))
   have I2 := I1.turned (t' := tk) (h' := h') (it := s.heap.objs.size) (fun b o hb e => kk b o (by simpa using hb) e) fp.1 fp.2.1 fp.2.2.2.1 fp.2.2.2.2.1 fp.2.2.2.2.2
   exact fin h' tk I2
theorem range_all (bs : List Bool) : (List.range bs.length).all (fun i => bs.getD i false) = bs.all id := by
 rw [Bool.eq_iff_iff]
 simp only [List.all_eq_true, List.mem_range, id]
 constructor
 . intro h b hb
   obtain ⟨i, hi, e⟩ := List.getElem_of_mem hb
   have := h i hi
   simp [hi] at this
   rw [<- e]; exact this
 . intro h i hi
   simp [hi]
   exact h _ (List.getElem_mem hi)
theorem yp (hc : X.calm = true) : fH X (.builtin "all") JI := by
 intro pins s σ H xs us Q I r h
 obtain ⟨v, bs, rfl, hd, q⟩ := h
 obtain ⟨u, rfl, ru⟩ := vals1 r
 refine call_all_walk (bK (vv (Q := fun g s' => EP X pins σ Q (.bool ((List.range bs.length).all g)) s') (show X.A.in1.handled = none from I.ok.hd hc) I ru hd (fun h' tk I' => ⟨.bl _, H, I', rfl, ?_⟩)) fun it s2 hq => ?_)
 . rw [range_all]; exact q
 . obtain ⟨J, fp, wr, n, P, St, tr, e1, W, st, tt, hn, PL, k⟩ := hq
   subst hn
   exact ⟨J, fp, wr, _, P, St, tr, e1, W, st, tt, k⟩
section
variable {σ : St} {H : Hp} {Q : VK} {D : Ends} {K : PySem.W.Frag}
theorem Jb {v : V} {bs : List Bool} (hd : Dv H v (.list (bs.map PyData.bool))) (h : Q (.bl (bs.all id)) H) : JI [v] H Q := ⟨v, bs, rfl, hd, h⟩
def Ij (x : V) (g : TG) (tb : TS) (D : Ends) (σ : St) (H1 : Hp) : Prop := ∃ z, x = .str z /\ ∃ W : Nat -> Nat -> St -> Hp -> Prop, (∃ m, W 0 m σ H1) /\ ∀ i m σ H, W i m σ H ->
 ((Fs z).stop i H /\ D.nx σ H) \/ ((Fs z).go i H /\ ∃ N : St -> Hp -> Prop, (∀ σ' H', N σ' H' -> ∃ m', m' < m /\ W (i + 1) m' σ' H') /\ ∀ x H', (Fs z).Kw i H x H' -> g x σ H' fun σ2 H2 => tb { D with nx := N, ct := N, bk := D.nx } σ2 H2)
theorem G3 {tl : TE} {g : TG} {tb : TS} (h : tl σ H fun x H1 => Ij x g tb D σ H1) : JE (FG tl) g tb D σ H := h
theorem K0 {z : Str} {g : TG} {tb : TS} (Pv : Nat -> St -> Hp -> Prop) (h0 : Pv 0 σ H)
 (hs : ∀ i c σ H, z.cps[i]? = some c -> Pv i σ H -> g (.str ⟨#[c]⟩) σ H fun σ2 H2 => tb { D with nx := Pv (i + 1), ct := Pv (i + 1), bk := D.nx } σ2 H2) (hd : ∀ σ H, Pv z.cps.size σ H -> D.nx σ H) : Ij (.str z) g tb D σ H := by
 refine ⟨z, rfl, fun i m σ H => i <= z.cps.size /\ m = z.cps.size - i /\ Pv i σ H, ⟨_, Nat.zero_le _, rfl, h0⟩, ?_⟩
 rintro i m σ H ⟨hi, rfl, hp⟩
 by_cases h : i = z.cps.size
 . left
   subst h
   exact ⟨rfl, hd σ H hp⟩
 . right
   have rQ : i < z.cps.size := by omega
   refine ⟨rQ, Pv (i + 1), fun σ' H' q => ⟨z.cps.size - (i + 1), by omega, by omega, rfl, q⟩, ?_⟩
   rintro x H' ⟨rfl, c, hc, rfl⟩
   exact hs i c σ _ hc hp
theorem GO {k : Nat} {tl : TE} {g : TG} {tc : TT} {te : TE} (h : tl σ H fun x H1 => ∃ z, x = .str z /\ Ei k g tc te (rW Q) σ (Fs z) H1) : He k (FG tl) g tc te σ H Q := h
theorem JG {k : Nat} {g : TG} {tc : TT} {te : TE} {z : Str} (pf : Nat -> Bool) (fd : Nat -> PyData) (hlen : z.cps.size <= 4000) (hi : ∀ c, sE (fd c) = true)
 (turn : ∀ c H' (N : Option V -> Hp -> Prop), c ∈ z.cps.toList -> ao H H' -> (pf c = true -> ∀ y H4, ao H' H4 -> Dv H4 y (fd c) -> N (some y) H4) -> (pf c = false -> ∀ H3, ao H' H3 -> N none H3) ->
  g (.str ⟨#[c]⟩) (List.replicate k none ++ σ) H' fun σ2 H2 => tc σ2 H2 fun b H3 => Hw te N σ2 b H3)
 (kk : ∀ q H', ao H H' -> H q = none -> dq H' q ((z.cps.toList.filter pf).map fd) -> Q (.ref q) H') : ∃ w, V.str z = .str w /\ Ei k g tc te (rW Q) σ (Fs w) H := by
 refine ⟨z, rfl, fun i m acc H' => i <= z.cps.size /\ m = z.cps.size - i /\ ao H H' /\ cf H' acc (((z.cps.toList.take i).filter pf).map fd), ⟨_, Nat.zero_le _, rfl, ao.refl _, by simpa using cf.nil⟩, ?_⟩
 rintro i m acc H' ⟨NA, hm, sm, iU⟩
 have Ft : acc.length <= z.cps.size := by
  rw [iU.length, List.length_map]
  exact Nat.le_trans (List.length_filter_le _ _) (by rw [List.length_take]; simp; omega)
 by_cases hc : i = z.cps.size
 . left
   refine ⟨hc, fun q hq => ?_⟩
   have e : z.cps.toList.take i = z.cps.toList := List.take_of_length_le (by rw [hc]; simp)
   rw [e] at iU
   exact kk q _ (sm.trans (bA hq)) (sm.none hq) ⟨acc, aN, iU.keeps (bA hq), lS hi _⟩
 . right
   have rQ : i < z.cps.size := by omega
   refine ⟨rQ, fZ (by omega), fun x H2 hy => ?_⟩
   obtain ⟨rfl, c, Kk, rfl⟩ := hy
   have EL : z.cps.toList[i]? = some c := by rw [Array.getElem?_toList]; exact Kk
   have EG : z.cps.toList.take (i + 1) = z.cps.toList.take i ++ [c] := by rw [List.take_add_one, EL]; rfl
   exact turn c H2 (fun o H4 => match o with | some y => ∃ m', m' < m /\ i + 1 <= z.cps.size /\ m' = z.cps.size - (i + 1) /\ ao H H4 /\ cf H4 (acc ++ [y]) (((z.cps.toList.take (i + 1)).filter pf).map fd) | none => ∃ m', m' < m /\ i + 1 <= z.cps.size /\ m' = z.cps.size - (i + 1) /\ ao H H4 /\ cf H4 acc (((z.cps.toList.take (i + 1)).filter pf).map fd))
    (List.mem_of_getElem? EL) sm
    (fun hp y H4 s4 d4 => ⟨z.cps.size - (i + 1), by omega, rQ, rfl, sm.trans s4, by
     rw [EG, List.filter_append, List.map_append]
     simp only [List.filter_cons, hp, if_true, List.filter_nil, List.map_cons, List.map_nil]
     exact cf.append (iU.keeps s4) (.cons d4 .nil)⟩)
    (fun hp H3 s3 => ⟨z.cps.size - (i + 1), by omega, rQ, rfl, sm.trans s3, by
     rw [EG, List.filter_append, List.map_append]
     simp only [List.filter_cons, hp, Bool.false_eq_true, if_false, List.filter_nil, List.map_nil, List.append_nil]
     exact iU.keeps s3⟩)
end
end
end L2
namespace L2
open PySem
section
variable {H : Hp} {Q : VK} {K : PySem.W.Frag}
theorem Du {z : Str} (hl : z.length <= 4000) (h : Q (.int (z.length : Nat)) H) : uM K [.str z] H Q := .inl (.inr ⟨z, rfl, small hl, h⟩)
def Es : R2 := fun x y H Q => ∃ i j, x = .str i /\ y = .str j /\ Q (.bl (!(!(Builtin.Str.occurrences j i 0 j.length 1).isEmpty))) H
theorem Bm {X : Cx} : jn X (compareOp .NotIn) Es := tK
theorem Dj {i j : Str} (h : Q (.bl (!(!(Builtin.Str.occurrences j i 0 j.length 1).isEmpty))) H) : Es (.str i) (.str j) H Q := ⟨i, j, rfl, rfl, h⟩
def D6 : R2 := fun x y H Q => ∃ i j, x = .str i /\ y = .str j /\ Q (.bl (!(Builtin.Str.occurrences j i 0 j.length 1).isEmpty)) H
theorem DH {X : Cx} : jn X (compareOp .In) D6 := yK
theorem F3 {i j : Str} (h : Q (.bl (!(Builtin.Str.occurrences j i 0 j.length 1).isEmpty)) H) : D6 (.str i) (.str j) H Q := ⟨i, j, rfl, rfl, h⟩
end
end L2
namespace L2
open PySem PySem.Spec PyProof.Rows PySem.W
section
variable {X : Cx}
theorem wV {H : Hp} : ∀ {xs : List V} {ss : List Str} {us : List Value}, cf H xs (ss.map PyData.str) -> Vals xs us -> StrsAre us ss
 | _, [], _, .nil, .nil => .nil
 | _, b :: bs, _, .cons h r, .cons q t => by
   cases h
   obtain ⟨tk, rfl⟩ := q
   exact .cons _ _ (wV r t)
def rJoin : V -> List V -> Hp -> VK -> Prop := fun x vs H Q => ∃ (sep : Str) (v : V) (ss : List Str), x = .str sep /\ vs = [v] /\ Dv H v (.list (ss.map PyData.str)) /\ (ss.map (·.length)).sum + ss.length * sep.length <= 16777216 /\ Q (.str (Txt.join sep ss)) H
theorem sW : JD X "str.join" rJoin := by
 intro pins s σ H x vs v us Q I rx rv h
 obtain ⟨sep, y, ss, rfl, rfl, hd, hz, q⟩ := h
 obtain ⟨t, rfl⟩ := rx
 obtain ⟨u, rfl, ru⟩ := rv.one
 obtain ⟨p, xs, rfl, e, dv⟩ := hd.lst_inv
 obtain ⟨aU, Ip, pl, _⟩ := I.list (e X.K)
 have hu : u = .ref p := ru
 subst hu
 have hs := wV dv Ip
 refine join_list pl.isList (by simpa using hs) hz fun t' k => ?_
 exact ⟨.str _, H, I.tok _, ⟨_, rfl⟩, q⟩
end
section
variable {σ : St} {H : Hp} {Q : VK} {D : Ends} {K : PySem.W.Frag} {p : Addr} {ds : List PyData}
theorem sx {sep : Str} {v : V} {ss : List Str} (hd : Dv H v (.list (ss.map PyData.str))) (hz : (ss.map (·.length)).sum + ss.length * sep.length <= 16777216) (h : Q (.str (Txt.join sep ss)) H) : rJoin (.str sep) [v] H Q := ⟨sep, v, ss, rfl, rfl, hd, hz, h⟩
theorem HU {z : Str} {R : Prop} (h : R) : Gr K "str" (.str z) H /\ R := ⟨rfl, h⟩
theorem cf.rev {H : Hp} {xs : List V} {ds : List PyData} (h : cf H xs ds) : cf H xs.reverse ds.reverse := by
 induction xs generalizing ds with
 | nil => cases h; exact .nil
 | cons x xs ih =>
   cases h with
   | cons h r => rw [List.reverse_cons, List.reverse_cons]; exact (ih r).append (.cons h .nil)
theorem qa {ds : List PyData} (h : aQ ds = true) : aQ ds.reverse = true := by
 rw [c5] at *
 intro d hd
 exact h d (List.mem_reverse.mp hd)
theorem IM (hp : dq H p ds) (h : ∀ H2, Mv [p] H H2 -> dq H2 p ds.reverse -> Q .cj H2) : uS (.ref p) [] H Q := by
 obtain ⟨xs, e, dv, i⟩ := hp
 have m : Mv [p] H (upd H p (.lst xs.reverse)) := .wx e (by intro _ z; cases z)
 exact ⟨p, xs, rfl, rfl, e, h _ m ⟨_, aN, m.Ao (qa i) dv.rev, qa i⟩⟩
theorem cf.drop {H : Hp} : ∀ {xs : List V} {ds : List PyData} (n : Nat), cf H xs ds -> cf H (xs.drop n) (ds.drop n)
 | _, _, 0, h => h
 | _, _, _ + 1, .nil => .nil
 | _, _, n + 1, .cons _ r => cf.drop n r
theorem cf.take {H : Hp} : ∀ {xs : List V} {ds : List PyData} (n : Nat), cf H xs ds -> cf H (xs.take n) (ds.take n)
 | _, _, 0, _ => .nil
 | _, _, _ + 1, .nil => .nil
 | _, _, n + 1, .cons h r => .cons h (cf.take n r)
theorem jH {ds : List PyData} (n : Nat) (h : aQ ds = true) : aQ (ds.drop n) = true := by
 rw [c5] at *
 exact fun d hd => h d (List.mem_of_mem_drop hd)
theorem jI {ds : List PyData} (n : Nat) (h : aQ ds = true) : aQ (ds.take n) = true := by
 rw [c5] at *
 exact fun d hd => h d (List.mem_of_mem_take hd)
theorem Ah (xs : List V) (i : Nat) : tI xs (some (i : Int)) none = xs.drop i := by
 have h1 : HT.fR xs.length 0 (some (i : Int)) = min i xs.length := by
  simp only [HT.fR]
  rw [if_neg (by omega)]
  omega
 have h2 : HT.fR xs.length xs.length none = xs.length := rfl
 show (xs.drop (HT.fR xs.length 0 (some (i : Int)))).take (HT.fR xs.length xs.length none - HT.fR xs.length 0 (some (i : Int))) = _
 rw [h1, h2]
 by_cases h : i <= xs.length
 . rw [Nat.min_eq_left h, List.take_of_length_le (by rw [List.length_drop]; omega)]
 . rw [List.drop_of_length_le (show xs.length <= min i xs.length by omega), List.drop_of_length_le (show xs.length <= i by omega), List.take_nil]
theorem GQ (xs : List V) (j : Nat) : tI xs none (some (j : Int)) = xs.take j := by
 have h1 : HT.fR xs.length xs.length (some (j : Int)) = min j xs.length := by
  simp only [HT.fR]
  rw [if_neg (by omega)]
  omega
 have h2 : HT.fR xs.length 0 none = 0 := rfl
 show (xs.drop (HT.fR xs.length 0 none)).take (HT.fR xs.length xs.length (some (j : Int)) - HT.fR xs.length 0 none) = _
 rw [h1, h2, List.drop_zero, Nat.sub_zero]
 by_cases h : j <= xs.length
 . rw [Nat.min_eq_left h]
 . rw [List.take_of_length_le (show xs.length <= min j xs.length by omega), List.take_of_length_le (show xs.length <= j by omega)]
theorem sU (i : Nat) (hp : dq H p ds) (k : ∀ q H', ao H H' -> H q = none -> dq H' q (ds.drop i) -> Q (.ref q) H') : uz K (.ref p) (some (i : Int)) none H Q := by
 obtain ⟨xs, e, dv, im⟩ := hp
 refine ⟨p, xs, rfl, fW.of e, fun q hq => ?_⟩
 rw [Ah]
 exact k q _ (bA hq) hq (ik hq (dv.drop i) (jH i im))
theorem As (j : Nat) (hp : dq H p ds) (k : ∀ q H', ao H H' -> H q = none -> dq H' q (ds.take j) -> Q (.ref q) H') : uz K (.ref p) none (some (j : Int)) H Q := by
 obtain ⟨xs, e, dv, im⟩ := hp
 refine ⟨p, xs, rfl, fW.of e, fun q hq => ?_⟩
 rw [GQ]
 exact k q _ (bA hq) hq (ik hq (dv.take j) (jI j im))
theorem zB {q : Addr} {es : List PyData} (hp : dq H p ds) (hq : dq H q es) (hl : ds.length + es.length <= 4000) (k : ∀ r H', ao H H' -> H r = none -> dq H' r (ds ++ es) -> Q (.ref r) H') : FD (.ref p) (.ref q) H Q := by
 obtain ⟨xs, e, dv, im⟩ := hp
 obtain ⟨zs, e2, M6, NP⟩ := hq
 refine ⟨p, q, xs, zs, rfl, rfl, e, e2, by rw [dv.length, M6.length]; exact small hl, fun r hr => ?_⟩
 exact k r _ (bA hr) hr (ik hr (dv.append M6) (gG im NP))
end
end L2
namespace L2
open PySem PySem.Calls PyProof.Rows
section
variable {X : Cx} {e k : Expr} {te tk : TE} {pos p2 : Pos}
end
section
variable {X : Cx}
end
section
variable {K : PySem.W.Frag} {σ : St} {H : Hp} {Q : VK} {p : Addr} {ds : List PyData}
end
end L2
namespace L2
open PySem PySem.Spec PyProof.Rows PySem.W
theorem Df (lo hi : Option Int) (n : Nat) : (Builtin.Str.strSliceIndices lo hi 1 n).length <= n := by
 unfold Builtin.Str.strSliceIndices sliceRange
 simp only [List.length_map, List.length_range, Int.ediv_one, show (1 : Int) > 0 by decide, if_true]
 cases lo <;> cases hi <;> simp only [] <;> (repeat' split) <;> omega
section
variable {X : Cx}
theorem se : ∀ {us : List Value} {ss : List Str}, StrsAre us ss -> Vals (ss.map V.str) us
 | _, _, .nil => .nil
 | _, _, .cons _ t r => .cons ⟨t, rfl⟩ (se r)
theorem uE {H : Hp} : ∀ (ss : List Str), cf H (ss.map V.str) (ss.map PyData.str)
 | [] => .nil
 | x :: r => .cons (.str x) (uE r)
theorem xR {H : Hp} : ∀ {xs : List V} {ns : List Int} {us : List Value}, cf H xs (ns.map PyData.int) -> Vals xs us -> IntsAre us ns
 | _, [], _, .nil, .nil => .nil
 | _, _ :: _, _, .cons h r, .cons q t => by
   cases h
   obtain ⟨tk, rfl⟩ := q
   exact .cons _ _ (xR r t)
end
section
variable {prog : Program} {w : World} {A : Around} {E : Value -> Shared -> Prop} {s : Shared} {it l : Addr} {aU : Array Value}
end
section
variable {X : Cx} {e : Expr} {te : TE} {p p2 pos KP : Pos}
end
section
variable {K : PySem.W.Frag} {σ : St} {H : Hp} {Q : VK} {p : Addr} {ds : List PyData} {v : V}
end
section
variable {P : Program} {w : World} {H : Hp} {h : Heap} {d : Addr} {o : Obj} {dW : List (Key × V)}
end
section
variable {X : Cx} {pins : List (Addr × Obj)} {σ : St} {H : Hp} {s : Shared} {d : Addr} {o : Obj} {dW : List (Key × V)}
end
section
variable {σ : St} {H : Hp} {Q : VK} {K : PySem.W.Frag} {p : Addr} {m : List (Str × PyData)} {k : Str}
end
section
variable {X : Cx}
end
section
variable {σ : St} {H : Hp} {Q : VK} {K : PySem.W.Frag} {p : Addr} {m : List (Str × PyData)} {k : Str}
end
section
variable {σ : St} {H : Hp} {Q : VK} {K : PySem.W.Frag} {p : Addr}
end
section
variable {X : Cx}
end
section
variable {prog : Program} {w : World} {K : Type} [DecidableEq K] {knd : KeyKind prog w K} {A : Around} {E : Value -> Shared -> Prop} {s : Shared} {d : Addr} {dW : List (K × Value)} {ep : Nat}
end
section
variable {X : Cx}
end
section
variable {σ : St} {H : Hp} {Q : VK} {p : Addr} {m : List (Str × PyData)}
theorem oU : ∀ ss : List Str, aQ (ss.map PyData.str) = true
 | [] => rfl
 | _ :: r => by rw [List.map_cons, aQ, oU r]; rfl
end
section
variable {σ : St} {H : Hp} {D : Ends} {p : Addr} {m : List (Str × PyData)} {g : TG} {tb : TS}
end
section
variable {σ : St} {H : Hp} {K : PySem.W.Frag}
theorem Fu {x : V} {i j : Nat} {d1 d2 : PyData} {R : St -> Hp -> Prop} (hd : Dv H x (.tuple [d1, d2])) (h : ∀ v1 v2, Dv H v1 d1 -> Dv H v2 d2 -> R ((σ.set i (some v1)).set j (some v2)) H) :
 Dg K 2 (qV (ig i) (qV (ig j) DE)) x σ H R := by
 cases hd with
 | tup ha r =>
   cases r with
   | cons h1 r =>
     cases r with
     | cons h2 r =>
       cases r
       exact ⟨_, _, rfl, .of ha, rfl, _, _, rfl, _, _, rfl, rfl, h _ _ h1 h2⟩
end
end L2
namespace L2
open PySem
def Pp (xs : Array Nat) : Prop := ∀ i j, (hi : i < xs.size) -> (hj : j < xs.size) -> i < j -> xs[i] < xs[j]
structure Good (t : SetTable) : Prop where
 up : Pp t.place
 nd : t.dummies = #[]
section
variable {prog : Program} {w : World} {A : Around} {E : Value -> Shared -> Prop} {s : Shared}
end
section
variable {prog : Program} {w : World} {A : Around} {E : Value -> Shared -> Prop} {s : Shared}
end
set_option maxRecDepth 100000
section
variable {prog : Program} {w : World} {A : Around} {E : Value -> Shared -> Prop} {s : Shared} {it a : Addr} {o : Obj} {es : Array (Int × Value)} {ep : Nat} {t : SetTable}
end
section
variable {prog : Program} {w : World} {A : Around} {E : Value -> Shared -> Prop} {s : Shared} {it a : Addr} {o : Obj} {es : Array (Int × Value)} {ep : Nat} {t : SetTable}
end
section
variable {prog : Program} {w : World} {A : Around} {E : Value -> Shared -> Prop} {s : Shared} {it a : Addr} {o : Obj} {es : Array (Int × Value)} {ep : Nat} {t : SetTable}
end
end L2
namespace L2
open PySem PySem.Spec PyProof.Rows
section
variable {prog : Program} {w : World} {A : Around} {R : Result -> Shared -> Prop} {it y : Addr} {fp wr : List Addr} {G : Array GenState -> Array GenState -> Prop} {n : Nat} {Pv : Nat -> Value -> Prop} {St : Nat -> Shared -> Prop}
end
section
variable {prog : Program} {w : World} {A : Around} {E : Value -> Shared -> Prop} {s : Shared}
set_option maxRecDepth 100000 in
set_option maxHeartbeats 3200000 in
end
section
variable {prog : Program} {w : World} {A : Around} {E : Value -> Shared -> Prop} {s : Shared} {a : Addr} {S : Int -> Bool} {n : Nat}
end
end L2
namespace L2
open PySem PySem.Spec PyProof.Rows PySem.W
section
variable {X : Cx} {e : Expr} {te : TE} {p p2 pos KP : Pos}
end
section
variable {σ : St} {H : Hp} {Q : VK} {v : V}
end
section
variable {X : Cx}
end
section
variable {σ : St} {H : Hp} {Q : VK} {K : PySem.W.Frag} {p : Addr} {m : List (Str × PyData)}
end
def Tr (h : Heap) (a T : Addr) (c : Value) : Prop := ∃ oe vs oT ts, h.get? a = some oe /\ oe.cls = c /\ oe.dict = none /\ oe.data = .fields vs /\ vs[1]? = some (.ref T) /\ T ≠ a /\ h.get? T = some oT /\ oT.data = .fields ts /\ ts[3]? = some .none /\ vs[2]? = some .none
structure Lv (l : List Env) (S : List Addr) (h h' : Heap) : Prop where
 keep : ∀ b o, b ∉ kc l -> b ∉ S -> h.get? b = some o -> h'.get? b = some o
 slot : ∀ b o, b ∈ kc l -> h.get? b = some o -> ∃ sl, h'.get? b = some { o with slots := sl }
section
variable {M : Model} {A : Around} {E : Value -> Shared -> Prop} {s : Shared} {env : Env} {outer : List Env} {L a T : Addr} {c : Value} {base : Heap} {Q : Unit -> Shared -> Prop}
end
theorem cW.live {P : Program} {w : World} {H : Hp} {h : Heap} {a : Addr} {o : HO} (x : cW P w H h a o) : ∃ ob, h.get? a = some ob := by
 induction o with
 | lst xs => obtain ⟨_, _, _, _, e⟩ := x; exact ⟨_, e⟩
 | tup xs => obtain ⟨_, _, _, ob, e, _⟩ := x; exact ⟨_, e⟩
 | dK dW => obtain ⟨_, _, _, _, o, _, _, e, _⟩ := x; exact ⟨_, e⟩
 | dT dW => obtain ⟨_, _, _, _, o, _, _, e, _⟩ := x; exact ⟨_, e⟩
 | set S n => obtain ⟨o, _, _, _, e, _⟩ := x; exact ⟨_, e⟩
 | ins C dx fs => obtain ⟨_, _, _, e, _⟩ := x; exact ⟨_, e⟩
 | own y => exact x
 | xd fs => obtain ⟨_, ⟨_, _, _, e, _⟩, _⟩ := x; exact ⟨_, e⟩
 | Ks lo hi => obtain ⟨_, _, _, e⟩ := x; exact ⟨_, e⟩
 | u5 ob u _ => exact ⟨_, x.1⟩
 | Ep ps => exact ⟨_, x⟩
 | met f y => exact ⟨_, x⟩
 | ext φ => exact x.2.1
theorem lY.dead {P : Program} {w : World} {H : Hp} {h : Heap} {a : Addr} (ok : lY P w H h) (n : h.get? a = none) : H a = none := by
 cases e : H a with
 | none => rfl
 | some u =>
   obtain ⟨o, z⟩ := (ok a u e).live
   rw [n] at z
   cases z
def NK (P : Program) (w : World) : qT := fun outer H s E e s' => ∃ a T C H', e = .ref a /\ s'.os = s.os /\ AllBare s'.gens /\ Un (kc outer) [] H H' s.heap s'.heap /\ lY P w H' s'.heap /\ Tr s'.heap a T (.ref C) /\ s.heap.get? a = none /\ s.heap.get? T = none /\ H' a = none /\ H' T = none /\ E (.ref C) none H'
section
variable {P : Program} {w : World} {K : PySem.W.Frag} {mg : Str -> Option Value} {base : Heap} {N : List Str} {qual : Str} {scope : Scope} {f : Addr} {cd : Value} {A : Around} {outer : List Env} {s0 : Shared} {H0 : Hp} {E : XK} {CX : qT} {pins : List (Addr × Obj)} {σ : St} {H : Hp} {s : Shared}
end
section
variable {K : PySem.W.Frag} {h : Heap} {C : Addr} {CK : List Value} {newId : String}
def FE (h : Heap) (C : Addr) (CK : List Value) (newId : String) : Prop := ∃ (bm : List Value) (N : Addr) (nm q : Str) (bs : List Value) (hd : Bool) (sn : List Str) (sub : List Value) (ab : Bool) (col : Option Bool) (dd : Option Addr) (k0 k1 k2 k3 k5 : Option Value) (mN : Str -> Option Value),
 h.get? C = some (excClassObj nm q C N bs bm hd sn sub ab col dd k0 k1 k2 k3 k5 newId) /\ h.Ns N mN /\ mN "__init__" = none /\ OwnTail h CK bm
theorem v9 (X : K.In h) (q : excIn K C CK newId = true) : FE h C CK newId := by
 unfold excIn at q
 split at q
 . rename_i dd cd sl ho
   split at q
   . rename_i C' bm k0 k1 k2 k3 n k5 hm hs
     simp only [Bool.and_eq_true, beq_iff_eq, Bool.not_eq_true'] at q
     obtain ⟨⟨⟨⟨⟨rfl, rfl⟩, HP⟩, ht⟩, a9⟩, Ee⟩ := q
     obtain ⟨nm, bs, mro, ns, qn, hd, sn, sub, ab, col, del⟩ := cd
     dsimp only at hm HP a9 Ee
     subst hm HP
     obtain ⟨l⟩ := sl
     dsimp only at hs
     subst hs
     exact ⟨bm, ns, nm, qn, bs, hd, sn, sub, ab, col, dd, k0, k1, k2, k3, k5, _, X _ _ ho, .of_isNs (isNs_of_in X a9), nsMap_none_of_in X a9 Ee, tail_of_in X ht⟩
   . cases q
 . cases q
end
abbrev LZ : List Value := [.type "ValueError", .type "Exception", .type "BaseException", .type "object"]
def p7 (K : PySem.W.Frag) (C : Addr) : Prop := excIn K C LZ "ValueError.__new__" = true
section
variable {X : Cx} {pins : List (Addr × Obj)} {σ : St} {H : Hp} {s : Shared}
theorem Inv.lv {S : List Addr} {h' : Heap} {t' : Nat} (I : Inv X pins σ H s) (lv : Lv X.stack S s.heap h') (hS : ∀ b ∈ S, H b = none /\ X.cJ.heap.get? b = none /\ b ≠ X.env.locals /\ (∀ x c, X.env.cells.lookup x = some c -> c ≠ b) /\ ∀ p ∈ X.pn ++ pins, p.1 ≠ b) : Inv X pins σ H { s with heap := h', toks := t' } := by
 have old : ∀ b o, X.cJ.heap.get? b = some o -> b ∉ S /\ b ≠ X.env.locals := fun b o e => ⟨fun z => (by rw [(hS b z).2.1] at e; cases e), Nat.ne_of_lt (Nat.lt_of_lt_of_le (Heap.lt_size e) I.ok.above)⟩
 have one : ∀ b o, b ∉ S -> s.heap.get? b = some o -> ∃ sl, h'.get? b = some { o with slots := sl } := fun b o n e => by
  by_cases m : b ∈ kc X.stack
  . exact lv.slot b o m e
  . exact ⟨o.slots, lv.keep b o m n e⟩
 have nL : X.env.locals ∉ S := fun z => (hS _ z).2.2.1 rfl
 have cellK : ∀ x c, X.env.cells.lookup x = some c -> ∀ v, s.heap.IsCell c v -> h'.IsCell c v := fun x c e v ⟨o, ho, hd⟩ => by
  obtain ⟨sl, q⟩ := one c o (fun z => (hS c z).2.2.2.1 x c e rfl) ho
  exact ⟨_, q, hd⟩
 have Nc : ∀ b, b ∉ X.fs -> b ≠ X.env.locals -> b ∉ kc X.stack := fun b n1 n2 m => by
  rcases List.mem_cons.mp (I.sZ b m) with z | z
  . exact n2 z
  . exact n1 z
 refine ⟨I.ok, I.os, I.bare, ⟨fun b o e n hb hx => ?_, fun b o e n hb hx => ?_, fun b o e n hx => I.base.free b o e n hx, fun b o e hx => ?_, I.base.ke, I.base.jE, I.base.lI⟩, ?_, fun x c e => ?_, I.free, I.eh, fun p hp => ?_, fun b u e => ?_, I.len⟩
 . exact lv.keep b o (Nc b hb (old b o e).2) (old b o e).1 (I.base.keep b o e n hb hx)
 . obtain ⟨sl, z⟩ := I.base.slot b o e n hb hx
   obtain ⟨EI, z2⟩ := one b _ (old b o e).1 z
   exact ⟨EI, z2⟩
 . obtain ⟨o2, z⟩ := I.base.there b o e hx
   obtain ⟨EI, z2⟩ := one b _ (old b o e).1 z
   exact ⟨_, z2⟩
 . obtain ⟨m, ⟨o, es, ep, ho, r⟩, hl⟩ := I.loc
   obtain ⟨sl, z⟩ := one _ o nL ho
   refine ⟨m, ⟨_, es, ep, z, r⟩, fun i x v e1 e2 e3 => ?_⟩
   obtain ⟨u, ru, l⟩ := hl i x v e1 e2 e3
   refine ⟨u, ru, ?_⟩
   rcases l with l | ⟨k, c, e, z⟩
   . exact .inl l
   . exact .inr ⟨k, c, e, cellK x c e _ z⟩
 . obtain ⟨v, z⟩ := I.cell x c e
   exact ⟨v, cellK x c e v z⟩
 . obtain ⟨e, n, ne, nf, d⟩ := I.pin p hp
   exact ⟨lv.keep p.1 p.2 (Nc p.1 nf ne) (fun z => (hS p.1 z).2.2.2.2 p hp rfl) e, n, ne, nf, d⟩
 . refine (I.a9 b u e).pF (fun c v hc q => ?_) (fun _ q => q) fun _ _ q => q
   have sO : H c ≠ none := by
    rcases hc with rfl | hc
    . rw [e]; intro z; cases z
    . rw [hc]; intro z; cases z
   exact lv.keep c v (fun m => sO (I.nQ c m)) (fun m => sO (hS c m).1) q
theorem Inv.Bj {a : Addr} {φ : Heap -> Prop} (I : Inv X pins σ H s) (ha : H a = none) (hs : X.cJ.heap.get? a = none) (hL : a ≠ X.env.locals) (hc : ∀ x c, X.env.cells.lookup x = some c -> c ≠ a) (hp : ∀ p ∈ X.pn ++ pins, p.1 ≠ a)
 (new : φ s.heap /\ (∃ o, s.heap.get? a = some o) /\ ∀ h1 h2 : Heap, φ h1 -> (∀ o, h1.get? a = some o -> h2.get? a = some o) -> φ h2) : Inv X pins σ (upd H a (.ext φ)) s := by
 have kp : ∀ b u, H b = some u -> upd H a (.ext φ) b = some u := fun b u e => by rw [aJ (fun z => by rw [z, ha] at e; cases e)]; exact e
 have fr : ∀ b, b ≠ a -> H b = none -> upd H a (.ext φ) b = none := fun b n e => by rw [aJ n]; exact e
 refine ⟨I.ok, I.os, I.bare, ⟨I.base.keep, I.base.slot, fun b o e n hx => fr b (fun z => by rw [z, hs] at e; cases e) (I.base.free b o e n hx), I.base.there, fun b xs e => kp _ _ (I.base.ke b xs e), fun b o u e => kp _ _ (I.base.jE b o u e), fun b ps e => ?_⟩, I.loc, I.cell, fr _ (Ne.symm hL) I.free, fun x c e => fr _ (hc x c e) (I.eh x c e), fun p MN => ?_, fun b u e => ?_, I.len⟩
 . obtain ⟨m, z⟩ := I.base.lI b ps e
   exact ⟨m, kp _ _ z⟩
 . obtain ⟨e1, e2, e3⟩ := I.pin p MN
   exact ⟨e1, fr _ (hp p MN) e2, e3⟩
 . by_cases z : b = a
   . subst z
     rw [aN] at e
     cases e
     exact new
   . rw [aJ z] at e
     exact (I.a9 b u e).pF (fun _ _ _ q => q) (fun c q => kp _ _ q) fun c xs q => kp _ _ q
abbrev Cx.pw (X : Cx) (f : Value -> Shared -> Prop) (pn : List (Addr × Obj)) : Cx := { X with xe := f, pn := pn }
abbrev Cx.hand (X : Cx) (a : Addr) : Cx := { X with A := X.A.mark (some (.ref a)), calm := false, xe := fun _ _ => False }
theorem Inv.AI {f : Value -> Shared -> Prop} (I : Inv X pins σ H s) : Inv (X.pw f (X.pn ++ pins)) [] σ H s :=
 ⟨⟨I.ok.mod, I.ok.kind, I.ok.glob, I.ok.blt, I.ok.above, I.ok.inj, I.ok.has, I.ok.B3, I.ok.hd, I.ok.frames, I.ok.EE, I.ok.BE, I.ok.bs, I.ok.wZ, I.ok.tE, I.ok.rD, I.ok.ki, I.ok.zV⟩, I.os, I.bare, I.base, I.loc, I.cell, I.free, I.eh, fun p hp => I.pin p (by simpa using hp), I.a9, I.len⟩
theorem Inv.gL {f : Value -> Shared -> Prop} {qS : List (Addr × Obj)} (I : Inv (X.pw f (X.pn ++ pins)) qS σ H s) : Inv X pins σ H s :=
 ⟨⟨I.ok.mod, I.ok.kind, I.ok.glob, I.ok.blt, I.ok.above, I.ok.inj, I.ok.has, I.ok.B3, I.ok.hd, I.ok.frames, I.ok.EE, I.ok.BE, I.ok.bs, I.ok.wZ, I.ok.tE, I.ok.rD, I.ok.ki, I.ok.zV⟩, I.os, I.bare, I.base, I.loc, I.cell, I.free, I.eh, fun p hp => I.pin p (List.mem_append_left _ hp), I.a9, I.len⟩
theorem Inv.oz {a : Addr} (I : Inv X pins σ H s) : Inv (X.hand a) pins σ H s :=
 ⟨⟨I.ok.mod, I.ok.kind, I.ok.glob, I.ok.blt, I.ok.above, I.ok.inj, I.ok.has, I.ok.B3, (fun z => nomatch z), I.ok.frames, I.ok.EE, I.ok.BE, I.ok.bs, I.ok.wZ, I.ok.tE, I.ok.rD, I.ok.ki, I.ok.zV⟩, I.os, I.bare, I.base, I.loc, I.cell, I.free, I.eh, I.pin, I.a9, I.len⟩
theorem Inv.oG {a : Addr} (I : Inv (X.hand a) pins σ H s) (ok : X.Ok) : Inv X pins σ H s :=
 ⟨ok, I.os, I.bare, I.base, I.loc, I.cell, I.free, I.eh, I.pin, I.a9, I.len⟩
end
section
variable {M : Model} {A : Around} {E : Value -> Shared -> Prop}
end
structure Hg (K : PySem.W.Frag) (C : Addr) : Prop where
 ga : PySem.W.findIn K (.ref C) "__getattribute__" = some (some (.builtin "BaseException.__getattribute__"))
 gn : PySem.W.findIn K (.ref C) "__getattr__" = some none
 mb : PySem.W.mroIn K C (.type "BaseException") = some true
 hd : PySem.W.hasDictIn K C = true
 ty : Iu K C
section
variable {X : Cx}
end
section
variable {P : Program} {w : World} {K : PySem.W.Frag} {mg : Str -> Option Value} {base : Heap}
structure N3 (P : Program) (w : World) (K : PySem.W.Frag) (mg : Str -> Option Value) (base : Heap) (k : Nat) (f : Addr) (ps : List Str) (cU : List V) (sp : Sp) : Prop where
 ex : ∃ (fd : FuncData) (ds : List Value), bf P w K mg base (NK P w) k f fd ps sp /\ Binds K fd ps ds /\ Vals cU ds
end
section
variable {X : Cx} {k : Nat} {f : Addr} {ps : List Str} {sp : Sp} {cU : List V} {E : XK} {x : Str} {p pos : Pos} {e : Expr} {es : List Expr} {t : TA}
end
section
variable {σ : St} {H : Hp} {Q : VK} {D : Ends} {K : PySem.W.Frag} {E : XK} {C : Addr} {ta : TA}
theorem zl {x : V} (h : E (.ref C) none H) : [x].length <= sizeLine /\ E (.ref C) none H := ⟨by rw [sizeLine_eq]; simp, h⟩
end
def lW (z : Str) (lo hi : Option Int) : Str := ⟨((Builtin.Str.strSliceIndices lo hi 1 z.length).filterMap (z.cps[·]?)).toArray⟩
def Iq : V -> Option Int -> Option Int -> Hp -> VK -> Prop := fun x lo hi H Q => ∃ z : Str, x = .str z /\ z.length <= 4000 /\ Q (.str (lW z lo hi)) H
theorem DV {lo hi : Option Int} {n : Nat} (h : (Builtin.Str.strSliceIndices lo hi 1 n).length = n) : Builtin.Str.strSliceIndices lo hi 1 n = List.range n := by
 have key : ∀ a b : Int, 0 <= a -> b <= n -> (sliceRange a b 1).length = n -> sliceRange a b 1 = List.range n := by
  intro a b ha hb hl
  unfold sliceRange at hl ⊢
  simp only [List.length_map, List.length_range, Int.ediv_one, show (1 : Int) > 0 by decide, if_true] at hl ⊢
  rw [hl]
  by_cases hn : n = 0
  . subst hn; rfl
  . have : a = 0 := by
     split at hl <;> omega
    subst this
    rw [show (fun k : Nat => ((0 : Int) + 1 * (k : Int)).toNat) = id from funext fun k => by simp, List.map_id]
 unfold Builtin.Str.strSliceIndices at h ⊢
 simp only [show (1 : Int) > 0 by decide, if_true] at h ⊢
 refine key _ _ ?_ ?_ h
 . cases lo <;> simp only [] <;> omega
 . cases hi <;> simp only [] <;> omega
theorem lM : ∀ (l : List Nat), (List.range l.length).filterMap (fun i => l[i]?) = l
 | [] => rfl
 | c :: r => by
   rw [List.length_cons, List.range_succ_eq_map, List.filterMap_cons]
   simp only [List.getElem?_cons_zero, List.filterMap_map]
   have : ((fun i => (c :: r)[i]?) ∘ Nat.succ) = fun i => r[i]? := funext fun i => by simp
   rw [this, lM r]
theorem yo {z : Str} {lo hi : Option Int} (h : (Builtin.Str.strSliceIndices lo hi 1 z.length).length = z.length) : lW z lo hi = z := by
 unfold lW
 rw [DV h]
 obtain ⟨⟨l⟩⟩ := z
 show (⟨((List.range l.length).filterMap fun i => (⟨l⟩ : Array Nat)[i]?).toArray⟩ : Str) = _
 have : (fun i => (⟨l⟩ : Array Nat)[i]?) = fun i => l[i]? := funext fun i => (Array.getElem?_toList (xs := ⟨l⟩)).symm
 rw [this, lM l]
theorem wg (z : Str) : lW z (some 1) none = ⟨(z.cps.toList.drop 1).toArray⟩ := by
 obtain ⟨⟨l⟩⟩ := z
 unfold lW Builtin.Str.strSliceIndices
 have e0 : (fun i => (⟨l⟩ : Array Nat)[i]?) = fun i => l[i]? := funext fun i => (Array.getElem?_toList (xs := ⟨l⟩)).symm
 show (⟨(List.filterMap (fun i => (⟨l⟩ : Array Nat)[i]?) _).toArray⟩ : Str) = ⟨(l.drop 1).toArray⟩
 rw [e0]
 have el : Str.length ⟨⟨l⟩⟩ = l.length := rfl
 rw [el]
 cases l with
 | nil => rfl
 | cons c r =>
   have e1 : sliceRange (max 0 (min 1 ((r.length + 1 : Nat) : Int))) ((r.length + 1 : Nat) : Int) 1 = (List.range r.length).map (· + 1) := by
    unfold sliceRange
    simp only [Int.ediv_one, show (1 : Int) > 0 by decide, if_true]
    rw [show max (0 : Int) (min 1 ((r.length + 1 : Nat) : Int)) = 1 by omega]
    have e2 : (if (1 : Int) < ((r.length + 1 : Nat) : Int) then ((r.length + 1 : Nat) : Int) - 1 + 1 - 1 else 0).toNat = r.length := by split <;> omega
    rw [e2]
    exact List.map_congr_left fun k _ => by omega
   have e3 : (Builtin.Str.strSliceIndices (some 1) none 1 (c :: r).length) = (List.range r.length).map (· + 1) := e1
   show (⟨(List.filterMap (fun i => (c :: r)[i]?) (Builtin.Str.strSliceIndices (some 1) none 1 (c :: r).length)).toArray⟩ : Str) = _
   rw [e3, List.filterMap_map]
   have : ((fun i => (c :: r)[i]?) ∘ (· + 1)) = fun i => r[i]? := funext fun i => by simp
   rw [this, lM r]
   rfl
section
variable {X : Cx}
theorem CI : Kj X Iq := by
 intro pins s σ H x v vl vu lo hi sl Q I rx hs pl pu h
 obtain ⟨z, rfl, hz, q⟩ := h
 obtain ⟨t, rfl⟩ := rx
 obtain ⟨l, rfl, e1⟩ : ∃ l : Option (Int × Tok), vl = partValue l /\ l.map (·.1) = lo := by
  cases pl with
  | none => exact ⟨none, rfl, rfl⟩
  | int i t => exact ⟨some (i, t), rfl, rfl⟩
 obtain ⟨u, rfl, e2⟩ : ∃ u : Option (Int × Tok), vu = partValue u /\ u.map (·.1) = hi := by
  cases pu with
  | none => exact ⟨none, rfl, rfl⟩
  | int i t => exact ⟨some (i, t), rfl, rfl⟩
 refine ⟨"str", _, F.slot_str_getitem.lookup, typeIs_str _ _ _, ?_⟩
 refine wpAny_getItem_str_slice (l := l) (u := u) (st := none) hs rfl ?_
 have ep : slicePicked z l u none = Builtin.Str.strSliceIndices lo hi 1 z.length := by unfold slicePicked; rw [e1, e2]; rfl
 unfold sliceMade
 rw [ep]
 split
 . rename_i c
   rw [Bool.and_eq_true] at c
   have := yo (z := z) (lo := lo) (hi := hi) (by simpa using c.2)
   rw [this] at q
   exact ⟨.str z, H, I, ⟨t, rfl⟩, q⟩
 . have hn : (List.filterMap (fun i => z.cps[i]?) (Builtin.Str.strSliceIndices lo hi 1 z.length)).length <= z.length := by
    refine Nat.le_trans (List.length_filterMap_le _ _) ?_
    exact Df _ _ _
   have hl : (Str.mk (List.filterMap (fun i => z.cps[i]?) (Builtin.Str.strSliceIndices lo hi 1 z.length)).toArray).length <= z.length := by
    show (List.filterMap (fun i => z.cps[i]?) (Builtin.Str.strSliceIndices lo hi 1 z.length)).toArray.size <= _
    rw [List.size_toArray]; exact hn
   exact ⟨Nat.le_trans hl (Nat.le_of_lt (fZ hz)), .str _, H, I.tok _, ⟨_, rfl⟩, q⟩
def xx : V -> List V -> Hp -> VK -> Prop := fun x vs H Q => ∃ z y : Str, x = .str z /\ vs = [.str y] /\ Q (.bl (Txt.startswith z y)) H
theorem yZ : JD X "str.startswith" xx := by
 intro pins s σ H x vs v us Q I rx rv h
 obtain ⟨z, y, rfl, rfl, q⟩ := h
 obtain ⟨t, rfl⟩ := rx
 obtain ⟨u, rfl, ru⟩ := rv.one
 obtain ⟨t', rfl⟩ := ru
 exact call_gives F.slot_str_startswith (typeIs_str _ _ _) F.entry_str_startswith (F.args_str_startswith_2 _ _) (gives_str_startswith z y t t') ⟨.bl _, H, I, rfl, q⟩
theorem qx (z : Str) (c : Nat) : Txt.startswith z ⟨#[c]⟩ = (z.cps.toList.head? == some c) := by
 obtain ⟨⟨l⟩⟩ := z
 unfold Txt.startswith Builtin.Str.subAt
 cases l with
 | nil => rfl
 | cons d r =>
   have e : (⟨⟨d :: r⟩⟩ : Str).cps.extract 0 (0 + (⟨#[c]⟩ : Str).length) = #[d] := by
    show (⟨d :: r⟩ : Array Nat).extract 0 1 = #[d]
    rw [List.extract_toArray]
    rfl
   rw [e]
   show (decide (0 + 1 <= r.length + 1) && ((#[d] : Array Nat) == #[c])) = (some d == some c)
   rw [decide_eq_true (by omega), Bool.true_and]
   rw [Bool.eq_iff_iff]
   simp
def D0 : List V -> Hp -> VK -> Prop := fun xs H Q => ∃ (x : Str) (n : Int), xs = [.str x] /\ PySem.intText? x = some n /\ x.length <= 640 /\ Q (.int n) H
theorem sf : fH X (.type "int") D0 := by
 intro pins s σ H xs us Q I r h
 obtain ⟨x, n, rfl, hn, hl, q⟩ := h
 obtain ⟨u, rfl, ru⟩ := vals1 r
 obtain ⟨t, rfl⟩ := ru
 exact KIN.call_text hn hl ⟨.int n, H, I.tok _, ⟨_, rfl⟩, q⟩
def Ez : R2 := fun x y H Q => ∃ (z : Str) (n : Int), x = .str z /\ y = .int n /\ z.length = 1 /\ 0 <= n /\ n <= 1000 /\ ∀ t : Str, t.length = n.toNat -> (∀ c ∈ t.cps.toList, c ∈ z.cps.toList) -> Q (.str t) H
theorem ud (c : Nat) : ∀ (n : Nat) (a : Array Nat), ((List.replicate n #[c]).foldl (· ++ ·) a) = a ++ (Array.replicate n c)
 | 0, a => by simp
 | n + 1, a => by
   rw [List.replicate_succ, List.foldl_cons, ud c n, Array.append_assoc]
   congr 1
   apply Array.toList_inj.mp
   simp [List.replicate_succ]
theorem CO : jn X (binaryOp .Mult) Ez := by
 intro pins s σ H x y v u Q I rx ry h
 obtain ⟨z, n, rfl, rfl, hz, h0, h1, q⟩ := h
 obtain ⟨t, rfl⟩ := rx
 obtain ⟨t', rfl⟩ := ry
 refine PySem.P.mul_str (by simp; omega) (fun a _ => ?_) (fun a _ => ?_) ?_
 . rw [hz]
   intro OW
   have h2 : (1 : Int) <= (2 ^ 63 - 1) / n := Int.le_ediv_of_mul_le (by omega) (by omega)
   exact absurd h2 (Int.not_le.mpr OW)
 . have : z.length * n.toNat <= 1000 := by rw [hz]; omega
   exact decide_eq_false (Nat.not_lt.mpr (Nat.le_trans this (Nat.le_of_lt (fZ (by decide)))))
 . split
   . rename_i c
     have : n = 0 := by omega
     subst this
     exact ⟨Nat.le_of_lt (fZ (by decide)), .str _, H, I.tok _, ⟨_, rfl⟩, q Str.empty rfl (fun c hc => by cases hc)⟩
   . split
     . rename_i c c2
       have : n = 1 := by
        rw [hz] at c2
        simpa using c2
       subst this
       exact ⟨.str _, H, I, ⟨_, rfl⟩, q z hz (fun c hc => hc)⟩
     . obtain ⟨⟨l⟩⟩ := z
       match l, hz with
       | [d], _ =>
         have e : (List.replicate n.toNat (⟨⟨[d]⟩⟩ : Str).cps).foldl (· ++ ·) #[] = Array.replicate n.toNat d := by
          have := ud d n.toNat #[]
          simpa using this
         have hl : (⟨Array.replicate n.toNat d⟩ : Str).length = n.toNat := by show (Array.replicate n.toNat d).size = _; simp
         show Made.post (Made.str ⟨_⟩) _ _
         rw [e]
         exact ⟨by rw [hl]; exact Nat.le_of_lt (fZ (by omega)), .str _, H, I.tok _, ⟨_, rfl⟩, q _ hl (fun c hc => by
          have : c ∈ List.replicate n.toNat d := by simpa using hc
          have := List.eq_of_mem_replicate this
          subst this
          simp)⟩
end
theorem xi {K : PySem.W.Frag} {C D : Addr} (h2 : PySem.W.mroIn K D (.type "object") = some true) (h3 : PySem.W.typeIn K (.ref D) = some (.type "type")) (h : PySem.W.mroIn K C (.ref D) = some false) (hb : (C == D) = false) : PySem.W.kitOne K (.ref C) (.ref D) = some false :=
 xg h2 h3 h fun e => by rw [e] at hb; simp at hb
section
variable {σ : St} {H : Hp} {Q : VK} {D : Ends} {K : PySem.W.Frag}
theorem IU {z : Str} {lo hi : Option Int} (hl : z.length <= 4000) (h : Q (.str (lW z lo hi)) H) : Iq (.str z) lo hi H Q := ⟨z, rfl, hl, h⟩
theorem z8 {z y : Str} (h : Q (.bl (Txt.startswith z y)) H) : xx (.str z) [.str y] H Q := ⟨z, y, rfl, rfl, h⟩
theorem E7 {x : Str} {n : Int} (hn : PySem.intText? x = some n) (hl : x.length <= 640) (h : Q (.int n) H) : D0 [.str x] H Q := ⟨x, n, rfl, hn, hl, h⟩
theorem Gq {z : Str} {n : Int} (hz : z.length = 1) (h0 : 0 <= n) (h1 : n <= 1000) (h : ∀ t : Str, t.length = n.toNat -> (∀ c ∈ t.cps.toList, c ∈ z.cps.toList) -> Q (.str t) H) : Ez (.str z) (.int n) H Q := ⟨z, n, rfl, rfl, hz, h0, h1, h⟩
end
section
variable {X : Cx} {pins : List (Addr × Obj)} {σ : St} {H : Hp} {s : Shared} {h' : Heap}
end
section
variable {X : Cx}
end
section
variable {σ : St} {H : Hp} {Q : VK}
end
section
variable {σ : St} {H : Hp} {Q : VK} {K : PySem.W.Frag} {v : V}
end
end L2
namespace L2
open PySem
section
variable {H : Hp} {Q : VK} {K : PySem.W.Frag}
end
end L2
namespace L2
open PySem PySem.Spec PyProof.Rows PySem.W
theorem wW (num : Nat -> Int) : ∀ k, argBest (fun i j => decide (num i < num j)) k <= k /\ ∀ j, j <= k -> num (argBest (fun i j => decide (num i < num j)) k) <= num j
 | 0 => ⟨Nat.le_refl _, fun j hj => by have : j = 0 := by omega
                                       subst this; exact Int.le_refl _⟩
 | k + 1 => by
   obtain ⟨h1, h2⟩ := wW num k
   unfold argBest
   by_cases h : num (k + 1) < num (argBest (fun i j => decide (num i < num j)) k)
   . rw [if_pos (decide_eq_true h)]
     refine ⟨Nat.le_refl _, fun j hj => ?_⟩
     by_cases hk : j = k + 1
     . subst hk; exact Int.le_refl _
     . exact Int.le_trans (Int.le_of_lt h) (h2 j (by omega))
   . rw [if_neg (by simpa using h)]
     refine ⟨by omega, fun j hj => ?_⟩
     by_cases hk : j = k + 1
     . subst hk; omega
     . exact h2 j (by omega)
section
variable {X : Cx}
end
section
variable {σ : St} {H : Hp} {Q : VK}
end
section
variable {X : Cx} {pins : List (Addr × Obj)} {σ : St} {H : Hp} {s : Shared}
end
section
variable {σ : St} {H : Hp} {Q : VK}
end
section
variable {σ : St} {H : Hp} {Q : VK} {K : PySem.W.Frag} {p : Addr} {m : List (Str × PyData)} {k : Str}
end
def u9 (h : Heap) (a T : Addr) (c : Value) (od : Option Addr) : Prop := ∃ oe vs oT ts, h.get? a = some oe /\ oe.cls = c /\ oe.dict = od /\ oe.data = .fields vs /\ vs[1]? = some (.ref T) /\ T ≠ a /\ h.get? T = some oT /\ oT.data = .fields ts /\ ts[3]? = some .none /\ vs[2]? = some .none
section
variable {M : Model} {A : Around} {E : Value -> Shared -> Prop} {s : Shared} {env : Env} {outer : List Env} {L a T : Addr} {c : Value} {od : Option Addr} {base : Heap} {Q : Unit -> Shared -> Prop}
theorem ot {oe : Obj} {vs : Array Value} {head : Value} {GV : Bool} (og : A.frames = some (env :: outer)) (hl : s.heap.FunFrames base (env :: outer)) (hf : env.frame = some L) (he : s.heap.get? a = some oe) (A4 : oe.dict = od) (hd : oe.data = .fields vs) (hsz : 1 < vs.size) (DJ : vs[2]? = some .none)
 (h : ∀ h' T', u9 h' a T' oe.cls od -> s.heap.get? T' = none -> Lv (env :: outer) [a] s.heap h' -> Q () { s with heap := h' }) :
 wpAny M A (do let x <- frameOf env; let pl <- entryPlaceOf L GV; let b <- EntryCells.newEntry head x .none (rawInt L) .none pl; setField (.ref a) 1 b) (fun _ s' => wpAny M A (setFlight (.ref a) none) Q E s') E s := by
 have vh : a ∉ kc (env :: outer) := fun m => by
  obtain ⟨_, o, ho, hn⟩ := hl.mem m
  rw [he] at ho
  cases ho
  exact hn vs hd
 refine wpAny_bind (wpAny_frameOf_fun og hl hf fun h1 s1 => ?_)
 refine wpAny_bind (wpAny_entryPlaceOf fun pl j1 => ?_)
 unfold EntryCells.newEntry newFields
 refine wpAny_bind (wpAny_newObj_type ?_ (j1.sizeOk5 _ _ _ _ _))
 have e1 : h1.get? a = some oe := (s1.2.1 a vh).trans he
 let tb : Obj := { cls := .type "traceback", dict := none, data := .fields ([head, .ref L, .none, rawInt L, .none] ++ (if pl.isEmpty then List.replicate 6 Value.none else pl)).toArray }
 have e2 : (h1.push tb).get? a = some oe := Heap.get?_push_of_some _ e1
 refine wpAny_setField e2 hd hsz ?_
 have yV : h1.objs.size ≠ a := Ne.symm (Nat.ne_of_lt (Heap.lt_size e1))
 have d3 := Obj.data_mapFields hd (·.setIfInBounds 1 (Value.ref h1.objs.size))
 have e3 := Heap.get?_update_self (Obj.mapFields (·.setIfInBounds 1 (Value.ref h1.objs.size))) e2 (Obj.isFreed_of_fields d3)
 have t3 : ((h1.push tb).update a (Obj.mapFields (·.setIfInBounds 1 (Value.ref h1.objs.size)))).get? h1.objs.size = some tb := (Heap.get?_update_other _ _ (Ne.symm yV)).trans (Heap.get?_push_size h1 rfl)
 unfold setFlight
 refine wpAny_bind (wpAny_field e3 d3 (x := .ref h1.objs.size) (by simp [hsz]) ?_)
 rw [if_pos (show (Value.ref h1.objs.size != Value.none) = true from by simp)]
 refine wpAny_setField t3 rfl (by simp only [List.size_toArray, List.length_append, List.length_cons, List.length_nil] <;> omega) (h _ h1.objs.size ?_ ?_ ?_)
 . refine ⟨_, _, _, _, (Heap.get?_update_other _ _ yV).trans e3, Obj.cls_mapFields _ _, ?_, d3, by simp [hsz], yV, Heap.get?_update_self _ t3 (Obj.isFreed_of_fields (Obj.data_mapFields rfl _)), Obj.data_mapFields rfl _, by first | (simp; done) | (rcases j1 with rfl | ⟨_, _, _, _, _, _, _, rfl⟩ <;> simp), by rw [Array.getElem?_setIfInBounds_ne (by decide)]; exact DJ⟩
   obtain ⟨c0, d0, Fe, MJ⟩ := oe
   cases Fe <;> first | exact A4 | (cases hd)
 . cases q : s.heap.get? h1.objs.size with
   | none => rfl
   | some o =>
     obtain ⟨sl, z⟩ := s1.2.2 _ o q
     exact absurd (Heap.lt_size z) (Nat.lt_irrefl _)
 . have kp : ∀ b o, b ≠ a -> h1.get? b = some o -> (((h1.push tb).update a (Obj.mapFields (·.setIfInBounds 1 (Value.ref h1.objs.size)))).update h1.objs.size (Obj.mapFields (·.setIfInBounds 3 ((none : Option Addr).elim Value.none fun f => rawInt f)))).get? b = some o := fun b o hb q => by
    rw [Heap.get?_update_other _ _ (Ne.symm (Nat.ne_of_lt (Heap.lt_size q))), Heap.get?_update_other _ _ (Ne.symm hb)]
    exact Heap.get?_push_of_some _ q
   refine ⟨fun b o n1 n2 q => kp b o (by simpa using n2) ((s1.2.1 b n1).trans q), fun b o m q => ?_⟩
   obtain ⟨sl, z⟩ := s1.2.2 b o q
   exact ⟨sl, kp b _ (fun z => vh (z ▸ m)) z⟩
theorem uh {oe : Obj} {vs : Array Value} (og : A.frames = some (env :: outer)) (hl : s.heap.FunFrames base (env :: outer)) (hf : env.frame = some L) (he : s.heap.get? a = some oe) (A4 : oe.dict = od) (hd : oe.data = .fields vs) (h1 : vs[1]? = some .none) (DJ : vs[2]? = some .none)
 (h : ∀ h' T', u9 h' a T' oe.cls od -> s.heap.get? T' = none -> Lv (env :: outer) [a] s.heap h' -> Q () { s with heap := h' }) : wpAny M A (noteFrame (.ref a) env) (fun _ s' => wpAny M A (setFlight (.ref a) none) Q E s') E s := by
 unfold noteFrame
 simp only [hf]
 refine wpAny_bind (wpAny_field he hd h1 ?_)
 rw [if_neg (by decide)]
 exact ot og hl hf he A4 hd (Array.getElem?_eq_some_iff.mp h1).1 DJ h
theorem lT (og : A.frames = some (env :: outer)) (hl : s.heap.FunFrames base (env :: outer)) (hf : env.frame = some L) (ht : u9 s.heap a T c od)
 (h : ∀ h' T', u9 h' a T' c od -> (T' = T \/ s.heap.get? T' = none) -> Lv (env :: outer) [a, T] s.heap h' -> Q () { s with heap := h' }) : wpAny M A (noteFrame (.ref a) env) (fun _ s' => wpAny M A (setFlight (.ref a) none) Q E s') E s := by
 obtain ⟨oe, vs, oT, ts, e1, rfl, e3, e4, e5, e6, e7, e8, e9, rl⟩ := ht
 unfold noteFrame
 simp only [hf]
 refine wpAny_bind (wpAny_field e1 e4 e5 ?_)
 rw [if_pos (show (Value.ref T != Value.none) = true from by simp)]
 refine wpAny_bind (wpAny_field e7 e8 e9 ?_)
 rw [if_neg (show ¬ ((Value.none == rawInt L) = true) from by simp [rawInt])]
 refine wpAny_bind (wpAny_setField e7 e8 (Array.getElem?_eq_some_iff.mp e9).1 ?_)
 have la : ∀ b, b ≠ T -> (s.heap.update T (Obj.mapFields (·.setIfInBounds 3 Value.none))).get? b = s.heap.get? b := fun b hb => Heap.get?_update_other _ _ (Ne.symm hb)
 have nT : ∀ b o, s.heap.get? b = some o -> (∀ vs, o.data ≠ .fields vs) -> b ≠ T := fun b o hb hn z => by
  rw [z, e7] at hb
  cases hb
  exact hn ts e8
 refine ot (s := { s with heap := s.heap.update T (Obj.mapFields (·.setIfInBounds 3 Value.none)) }) og (hl.of_keeps fun b o hb hn => ⟨o, (la b (nT b o hb hn)).trans hb, rfl⟩) hf ((la a (Ne.symm e6)).trans e1) e3 e4 (Array.getElem?_eq_some_iff.mp e5).1 rl fun h' T' t1 t2 lv => h h' T' t1 ?_ ⟨fun b o n1 n2 q => ?_, fun b o m q => ?_⟩
 . by_cases z : T' = T
   . exact .inl z
   . exact .inr ((la T' z).symm.trans t2)
 . have : b ≠ a /\ b ≠ T := by simpa using n2
   exact lv.keep b o n1 (by simpa using this.1) ((la b this.2).trans q)
 . obtain ⟨_, o', q', hn⟩ := hl.mem m
   rw [q] at q'
   cases q'
   exact lv.slot b o m ((la b (nT b o q hn)).trans q)
theorem rg (ht : u9 s.heap a T c od) (h : ∀ h', u9 h' a T c od -> (∀ b o, b ≠ T -> s.heap.get? b = some o -> h'.get? b = some o) -> Q () { s with heap := h' }) : wpAny M A (setFlight (.ref a) none) Q E s := by
 obtain ⟨oe, vs, oT, ts, e1, rfl, e3, e4, e5, e6, e7, e8, e9, rl⟩ := ht
 have hz := (Array.getElem?_eq_some_iff.mp e9).1
 refine wpAny_setFlight_none e1 e4 e5 e7 e8 hz (h _ ⟨oe, vs, _, _, (Heap.get?_update_other _ _ e6).trans e1, rfl, e3, e4, e5, e6, Heap.get?_update_self _ e7 (Obj.isFreed_of_fields (Obj.data_mapFields e8 _)), Obj.data_mapFields e8 _, by simp [hz], rl⟩ fun b o hb q => (Heap.get?_update_other _ _ (Ne.symm hb)).trans q)
end
def nX (P : Program) (w : World) : qT := fun outer H s E e s' => ∃ a T C od H', e = .ref a /\ s'.os = s.os /\ AllBare s'.gens /\ Un (kc outer) [] H H' s.heap s'.heap /\ lY P w H' s'.heap /\ u9 s'.heap a T (.ref C) od /\ s.heap.get? a = none /\ s.heap.get? T = none /\ H' a = none /\ H' T = none /\ E (.ref C) od H'
section
variable {P : Program} {w : World} {K : PySem.W.Frag} {mg : Str -> Option Value} {base : Heap} {N : List Str} {qual : Str} {scope : Scope} {f : Addr} {cd : Value} {A : Around} {outer : List Env} {s0 : Shared} {H0 : Hp} {E : XK} {CX : qT} {pins : List (Addr × Obj)} {σ : St} {H : Hp} {s : Shared}
theorem qy {a T C : Addr} {od : Option Addr} {S : List Addr} {h' : Heap} (I : Inv (gE CX P w K mg base N qual scope f cd A outer s0 H0 E) pins σ H s) (lv : Lv (gE CX P w K mg base N qual scope f cd A outer s0 H0 E).stack S s.heap h') (hS : ∀ b ∈ S, H b = none /\ s0.heap.get? b = none)
 (tr : u9 h' a T (.ref C) od) (ha : H a = none) (hT : H T = none) (na : s0.heap.get? a = none) (nT : s0.heap.get? T = none) (hE : E (.ref C) od H) : nX P w outer H0 s0 E (.ref a) { s with heap := h' } := by
 have eL : kc (gE CX P w K mg base N qual scope f cd A outer s0 H0 E).stack = s0.heap.objs.size :: kc outer := rfl
 have old : ∀ b o, s0.heap.get? b = some o -> b ∉ S /\ b ≠ s0.heap.objs.size := fun b o e => ⟨fun z => (by rw [(hS b z).2] at e; cases e), Nat.ne_of_lt (Heap.lt_size e)⟩
 refine ⟨a, T, C, od, H, rfl, I.os, I.bare, ⟨fun b o e n hb hx => ?_, fun b o e n hb hx => ?_, fun b o e n hx => I.base.free b o e n hx, fun b o e hx => ?_, I.base.ke, I.base.jE, I.base.lI⟩, fun b u e => ?_, tr, na, nT, ha, hT, hE⟩
 . have z := I.base.keep b o e n hb hx
   exact lv.keep b o (by rw [eL]; simp [(old b o e).2, hb]) (old b o e).1 z
 . obtain ⟨sl, z⟩ := I.base.slot b o e n hb hx
   obtain ⟨EI, z2⟩ := lv.slot b _ (by rw [eL]; exact List.mem_cons_of_mem _ hb) z
   exact ⟨EI, z2⟩
 . obtain ⟨o2, z⟩ := I.base.there b o e hx
   by_cases m : b ∈ kc (gE CX P w K mg base N qual scope f cd A outer s0 H0 E).stack
   . obtain ⟨EI, z2⟩ := lv.slot b _ m z
     exact ⟨_, z2⟩
   . exact ⟨_, lv.keep b o2 m (old b o e).1 z⟩
 . refine (I.a9 b u e).pF (fun c v hc q => ?_) (fun _ q => q) fun _ _ q => q
   have sO : H c ≠ none := by
    rcases hc with rfl | hc
    . rw [e]; intro z; cases z
    . rw [hc]; intro z; cases z
   exact lv.keep c v (fun m => sO (I.nQ c m)) (fun m => sO (hS c m).1) q
def cV (CX : qT) (X : Cx) (E : St -> XK) : Prop := ∀ (pins : List (Addr × Obj)) (σ : St) (H : Hp) (s : Shared) (e : Value) (s' : Shared), Inv X pins σ H s -> CX X.stack H s (E σ) e s' -> X.xe e s'
theorem di : cV (nX P w) (gE (nX P w) P w K mg base N qual scope f cd A outer s0 H0 E) (fun _ => E) := by
 intro pins σ H s e s' I ⟨a, T, C, od, H', he, os, bare, un, a9, tr, na, nT, ha, hT, hE⟩
 subst he
 have I' := I.p0 (ch := []) os un a9 bare (fun b z => nomatch z)
 have dead : ∀ b, s.heap.get? b = none -> s0.heap.get? b = none := fun b z => by
  cases q : s0.heap.get? b with
  | none => rfl
  | some o =>
    obtain ⟨o2, z2⟩ := I.base.there b o q (by intro y; cases y)
    rw [z] at z2
    cases z2
 show wpAny _ _ (leaving _ (.ref a)) _ _ s'
 refine wpAny_bind (lT (base := base) I'.ok.frames I'.stack rfl tr fun h2 T2 BA wN lv => ?_)
 have d' : s'.heap.get? T2 = none -> s0.heap.get? T2 = none := fun z => by
  cases q : s0.heap.get? T2 with
  | none => rfl
  | some o =>
    obtain ⟨o2, z2⟩ := I'.base.there T2 o q (by intro y; cases y)
    rw [z] at z2
    cases z2
 refine qy I' lv (fun b hb => ?_) BA ha ?_ (dead a na) ?_ hE
 . have : b = a \/ b = T := by simpa using hb
   rcases this with rfl | rfl
   . exact ⟨ha, dead _ na⟩
   . exact ⟨hT, dead _ nT⟩
 . rcases wN with rfl | z
   . exact hT
   . exact I'.a9.dead z
 . rcases wN with rfl | z
   . exact dead _ nT
   . exact d' z
def tY (X : Cx) (E : St -> XK) : Prop := ∀ (pins : List (Addr × Obj)) (σ : St) (H : Hp) (s : Shared) (a C : Addr) (od : Option Addr) (oe : Obj) (vs : Array Value), Inv X pins σ H s -> s.heap.get? a = some oe -> oe.cls = .ref C -> oe.dict = od -> oe.data = .fields vs -> vs[1]? = some .none -> vs[2]? = some .none ->
 H a = none -> X.cJ.heap.get? a = none -> E σ (.ref C) od H -> X.xe (.ref a) s
theorem vo : tY (gE (nX P w) P w K mg base N qual scope f cd A outer s0 H0 E) (fun _ => E) := by
 intro pins σ H s a C od oe vs I e1 e2 e3 e4 v1 v2 ha na hE
 show wpAny _ _ (leaving _ (.ref a)) _ _ s
 refine wpAny_bind (uh (base := base) I.ok.frames I.stack rfl e1 e3 e4 v1 v2 fun h2 T2 BA wN lv => ?_)
 rw [e2] at BA
 refine qy I lv (fun b hb => ?_) BA ha (I.a9.dead wN) na ?_ hE
 . have : b = a := by simpa using hb
   subst this
   exact ⟨ha, na⟩
 . cases q : s0.heap.get? T2 with
   | none => rfl
   | some o =>
     obtain ⟨o2, z2⟩ := I.base.there T2 o q (by intro y; cases y)
     rw [wN] at z2
     cases z2
end
structure lV (P : Program) (w : World) (K : PySem.W.Frag) (mg : Str -> Option Value) (base : Heap) (k : Nat) (f : Addr) (ps : List Str) (cU : List V) (sp : Sp) : Prop where
 ex : ∃ (fd : FuncData) (ds : List Value), bf P w K mg base (nX P w) k f fd ps sp /\ Binds K fd ps ds /\ Vals cU ds
theorem gv.out {sp : Sp} {vs : List V} {H : Hp} {Q : VK} {E : XK} (h : gv sp vs H Q E) : sp vs H Q E := let ⟨_, e, h⟩ := h; e ▸ h
def su (sp : Sp) (cU : List V) (E : St -> XK) (t : TA) : TE := fun σ H Q => t σ H fun vs H1 => gv sp (vs ++ cU) H1 Q (E σ)
def Ac (C : Addr) (sp : Sp) (cU : List V) (E : St -> XK) (t : TA) : TE := fun σ H Q => t σ H fun vs H1 => xf C sp (vs ++ cU) H1 Q (E σ)
section
variable {X : Cx} {CX : qT} {k : Nat} {f C : Addr} {fd : FuncData} {ps : List Str} {sp : Sp} {cU : List V} {ds : List Value} {E : St -> XK} {x m : Str} {p pos apos : Pos} {e o : Expr} {es : List Expr} {ta : TE} {t : TA}
theorem sY {pins : List (Addr × Obj)} {σ : St} {H : Hp} {s : Shared} {Q : VK} {us : List Value} {vs : List V} (F : bf X.prog X.w X.K X.mg X.base CX k f fd ps sp) (hr : cX k X.A) (hb : Binds X.K fd ps ds) (hd : Vals cU ds) (hx : cV CX X E)
 (I : Inv X pins σ H s) (r : Vals vs us) (h : sp (vs ++ cU) H Q (E σ)) : wpAny (model X.prog X.w) X.A (call (.ref f) us) (EP X pins σ Q) X.xe s := by
 have r2 : Vals (vs ++ cU) (us ++ ds) := r.append hd
 have hl : (us ++ ds).length = ps.length := by rw [<- r2.length]; exact F.len _ _ _ _ h
 refine wpAny_call (codeAny_mono (F.run X.A X.stack s H ⟨us, []⟩ (us ++ ds) (vs ++ cU) Q (E σ) hr I.Gf (hb s us I.jf hl) r2 h) fun r s' hq => ?_)
 cases r with
 | error e => exact hx pins σ H s e s' I hq
 | ok fl =>
   cases fl with
   | ret u => exact I.after hq
   | next => exact False.elim hq
   | brk => exact False.elim hq
   | cont => exact False.elim hq
theorem bC (c : lV X.prog X.w X.K X.mg X.base k f ps cU sp) (hr : cX k X.A) (hg : Gl X x) (hm : X.mg x = some (.ref f)) (hk : PySem.W.keepIn X.K (.ref f) = true) (hx : cV (nX X.prog X.w) X E)
 (ha : PA X (e :: es) t) (oj : (x == ("__debug__" : Str)) = false := by decide) (he : starEach (e :: es) X.env = (false, eval e X.env) :: starEach es X.env := by rfl) (j1 : (backTo pos (starEach es X.env)).any (·.1) = false := by rfl) :
 PE X (.Call (.Name x p) (e :: es) [] pos) (su sp cU E t) := by
 obtain ⟨fd, ds, F, hb, hd⟩ := c.ex
 intro pins s σ H Q I h
 refine wpAny_Call_Name_kw (eD I hg hm ?_ oj)
 refine PySem.W.callWith_K (h₀ := X.base) I.ok.mod.BD hk (bK (ha pos pins s σ H _ I h) fun us s1 ⟨vs, H1, I1, r, q⟩ => ⟨I1.jf, ?_⟩) he j1
 exact sY F hr hb hd hx I1 r (gv.out q)
theorem pS (M : Mk X.K C f) (F : lV X.prog X.w X.K X.mg X.base k f ps cU sp) (hr : cX (k + 1) X.A) (hg : Gl X x) (hm : X.mg x = some (.ref C)) (hx : cV (nX X.prog X.w) X E)
 (ha : PA X (e :: es) t) (oj : (x == ("__debug__" : Str)) = false := by decide) (he : starEach (e :: es) X.env = (false, eval e X.env) :: starEach es X.env := by rfl) (j1 : (backTo pos (starEach es X.env)).any (·.1) = false := by rfl) :
 PE X (.Call (.Name x p) (e :: es) [] pos) (Ac C sp cU E t) := by
 obtain ⟨fd, ds, F, hb, hd⟩ := F.ex
 intro pins s σ H Q I h
 refine wpAny_Call_Name_kw (eD I hg hm ?_ oj)
 refine PySem.W.callWith_K (h₀ := X.base) I.ok.mod.BD M.kp (bK (ha pos pins s σ H _ I h) fun us s1 ⟨vs, H1, I1, r, q⟩ => ⟨I1.jf, ?_⟩) he j1
 unfold xf at q
 obtain ⟨ws, ew, q⟩ := q
 have q := ew ▸ q
 have hq := q (s1.heap.objs.size + 1) s1.heap.objs.size (I1.a9.fresh (Nat.le_succ _)) (I1.a9.fresh (Nat.le_refl _)) (Nat.ne_of_lt (Nat.lt_succ_self _))
 have I2 := Inv.made (C := C) I1
 have r2 : Vals (V.ref (s1.heap.objs.size + 1) :: (vs ++ cU)) (Value.ref (s1.heap.objs.size + 1) :: (us ++ ds)) := .cons rfl (r.append hd)
 have hl : (Value.ref (s1.heap.objs.size + 1) :: us ++ ds).length = ps.length := by
  have e := r2.length
  rw [F.len _ _ _ _ hq] at e
  exact e.symm
 refine wpAny_call (Br (f := f) I1.jf M.makes M.init (beq_iff_eq.mp M.fn) (codeAny_mono (F.run _ X.stack _ _ ⟨Value.ref (s1.heap.objs.size + 1) :: us, []⟩ (Value.ref (s1.heap.objs.size + 1) :: (us ++ ds)) _ _ (E σ) (hr.make C us [])
  (I2.Gf.make C us []) (hb _ (Value.ref (s1.heap.objs.size + 1) :: us) I2.jf hl) r2 hq) fun r s' BQ => ?_))
 cases r with
 | error e => exact hx pins σ _ _ e s' I2 BQ
 | ok fl =>
   cases fl with
   | ret u =>
     obtain ⟨v, H', I3, rv, ev, q3⟩ := I2.after BQ
     subst ev
     exact ⟨rv, ⟨V.ref (s1.heap.objs.size + 1), H', I3, rfl, q3⟩⟩
   | next => exact False.elim BQ
   | brk => exact False.elim BQ
   | cont => exact False.elim BQ
end
section
variable {P : Program} {w : World} {K : PySem.W.Frag} {mg : Str -> Option Value} {base : Heap}
theorem cw.zo {x qual : Str} {st : Stmt} {f : Addr} {dV : Value} {fd : FuncData} {N ps : List Str} {k : Nat} {sp : Sp} (F : cw K x qual st f dV fd) (S : aG N ps (ak st)) (len : ∀ vs H Q E, sp vs H Q E -> vs.length = ps.length)
 (qe : ∀ (dn : Value) (A : Around) (outer : List Env) (s : Shared) (H : Hp) (vs : List V) (Q : VK) (E : XK), cX k (A.deeper (envOfC qual (ak st) s.heap.objs.size f dn)) -> sp vs H Q E ->
  ∃ t, qM (gE (nX P w) P w K mg base N qual (ak st) f dn A outer s H E) (fS st) t /\ t { nx := fun _ H' => Q .cj H', rt := Q } (start N vs) H) : bf P w K mg base (nX P w) (k + 1) f fd ps sp := by
 obtain ⟨oc, od, kV, doc, pm, an, dn, ct, yc, rfl, lk, tQ⟩ := F.ex
 exact Bi lk tQ S len fun A outer s H vs Q E hr qi => qe dn A outer s H vs Q E hr qi
end
section
variable {prog : Program} {w : World} {A : Around} {E : Value -> Shared -> Prop} {s : Shared} {K : PySem.W.Frag} {x C : Addr} {ox : Obj} {name : Str} {v : Value} {cd : ClassData}
open Builtin.ObjectAttr in
open Builtin.ObjectAttr in
end
def vp (a C : Addr) (od : Option Addr) : Heap -> Prop := fun h => ∃ o vs, h.get? a = some o /\ o.cls = .ref C /\ o.dict = od /\ o.data = .fields vs /\ vs[2]? = some .none
theorem vp.ext {h : Heap} {a C : Addr} {od : Option Addr} (m : vp a C od h) : vp a C od h /\ (∃ o, h.get? a = some o) /\ ∀ h1 h2 : Heap, vp a C od h1 -> (∀ o, h1.get? a = some o -> h2.get? a = some o) -> vp a C od h2 :=
 ⟨m, let ⟨o, _, e, _⟩ := m; ⟨o, e⟩, fun _ _ ⟨o, vs, e, r⟩ k => ⟨o, vs, k o e, r⟩⟩
structure Pw (K : PySem.W.Frag) (C W fI : Addr) : Prop where
 cls : ∃ (nm q : Str) (N : Addr) (bs : List Value) (sn : List Str) (sub : List Value) (ab : Bool) (col : Option Bool) (dd : Option Addr) (k0 k1 k2 k3 k5 : Option Value), K.lookup C = some (excClassObj nm q C N bs (.ref W :: LZ) true sn sub ab col dd k0 k1 k2 k3 k5 "ValueError.__new__")
 up : p7 K W
 init : PySem.W.findIn K (.ref C) "__init__" = some (some (.ref fI))
 fn : PySem.W.isFn K (.ref fI) = true
 te : Hg K C
 sa : PySem.W.findIn K (.ref C) "__setattr__" = some (some (.builtin "object.__setattr__"))
 tk : PySem.W.takerIn K C "name" = some none
 nm : PySem.W.findIn K (.ref C) "name" = some none
def vj (K : PySem.W.Frag) (C : Addr) : Prop := ∀ h : Heap, K.In h -> ∃ (bm : List Value) (N : Addr) (nm q : Str) (bs : List Value) (hd : Bool) (sn : List Str) (sub : List Value) (ab : Bool) (col : Option Bool) (dd : Option Addr) (k0 k1 k2 k3 k5 : Option Value),
 h.get? C = some (excClassObj nm q C N bs bm hd sn sub ab col dd k0 k1 k2 k3 k5 "ValueError.__new__") /\ OwnTail h LZ bm
theorem p7.o {K : PySem.W.Frag} {C : Addr} (h : p7 K C) : vj K C := fun hp X => by
 obtain ⟨bm, N, nm, q, bs, hd, sn, sub, ab, col, dd, k0, k1, k2, k3, k5, mN, hC, _, _, T⟩ := v9 X h
 exact ⟨bm, N, nm, q, bs, hd, sn, sub, ab, col, dd, k0, k1, k2, k3, k5, hC, T⟩
section
variable {prog : Program} {w : World} {A : Around} {E : Value -> Shared -> Prop} {h : Heap} {g : Array GenState} {d : Drawn} {t : Nat} {os : OsState}
variable {nm q : Str} {C N : Addr} {bs bm CK : List Value} {hdct : Bool} {sn : List Str} {sub : List Value} {ab : Bool} {col : Option Bool} {dd : Option Addr} {k0 k1 k2 k3 k5 : Option Value} {B newId zi : String}
end
structure Nt (K : PySem.W.Frag) (W : Addr) : Prop where
 ga : PySem.W.specialIn K (.ref W) "__getattribute__" = some (some (.builtin "type.__getattribute__"))
 rd : PySem.W.readsIn K W (.type "type") = true
 fd : PySem.W.findCls K (.ref W) (.type "type") "__init__" = some (.val (.builtin "ValueError.__init__"))
section
variable {X : Cx} {W : Addr} {x : Str} {p pos apos : Pos} {e : Expr} {es : List Expr} {t : TA} {pl : Sem Bool}
end
def del (H : Hp) (a : Addr) : Hp := fun b => if b = a then none else H b
section
variable {prog : Program} {w : World} {A : Around} {E : Value -> Shared -> Prop} {s : Shared} {env : Env}
variable {nm q : Str} {C N : Addr} {bs bm CK : List Value} {hdct : Bool} {sn : List Str} {sub : List Value} {ab : Bool} {col : Option Bool} {dd : Option Addr} {k0 k1 k2 k3 k5 : Option Value} {newId : String}
end
def xI (C : Addr) (E : St -> XK) (ta : TA) : TS := fun _ σ H => ta σ H fun vs H1 => vs.length <= sizeLine /\ E σ (.ref C) none H1
theorem oK {X : Cx} {E : St -> XK} {C : Addr} {x : Str} {np dc pos : Pos} {e : Expr} {ta : TA} (hX : tY X E) (hc : X.calm = true) (ha : PA X [e] ta) (hg : Gl X x) (hm : X.mg x = some (.ref C)) (hq : p7 X.K C) (hex : X.ex = [])
 (hs : starEach [e] X.env = (false, eval e X.env) :: starEach [] X.env := by rfl) (lN : (backTo dc (starEach [e] X.env)).any (·.1) = false := by rfl) (oj : (x == ("__debug__" : Str)) = false := by decide) :
 PS X (.Raise (some (.Call (.Name x np) [e] [] dc)) none pos) (xI C E ta) := by
 intro pins s σ H D I h
 obtain ⟨bm, N, nm, q, bs, hd, sn, sub, ab, col, dd, k0, k1, k2, k3, k5, mN, hC, hN, Ee, T⟩ := v9 I.mod.BD hq
 refine wpAny_Raise_call_subT (C := C) (nm := nm) (q := q) (N := N) (bs := bs) (bm := bm) (hdct := hd) (sn := sn) (sub := sub) (ab := ab) (col := col) (dd := dd) (k0 := k0) (k1 := k1) (k2 := k2) (k3 := k3) (k5 := k5) (mN := mN) PySem.F.excBase_ValueError (T.hasType (by decide)) (I.ok.hd hc) lN Ee (eD I hg hm ⟨rfl, ?_⟩ oj)
 have hA := ha dc pins s σ H _ I h
 rw [hs] at hA ⊢
 refine Calls.evalArgs_plain (bK hA fun us s1 ⟨vs, H1, I1, r1, M5, q1⟩ => ?_)
 rw [r1.length] at M5
 refine ⟨rfl, M5, I1.bk _ _ hC, hN.at' fun o e => I1.bk _ _ e, T.keeps I1.bk, fun h2 a m => ?_⟩
 obtain ⟨t0, e1, _, _⟩ := m.there
 have I2 : Inv X pins σ H1 { s1 with heap := h2 } := I1.kept (t' := s1.toks) fun b u z => m.keeps b u z
 have dead : X.cJ.heap.get? a = none := by
  cases q' : X.cJ.heap.get? a with
  | none => rfl
  | some o =>
    obtain ⟨o2, z2⟩ := I1.base.there a o q' (by rw [hex]; intro y; cases y)
    rw [m.new] at z2
    cases z2
 exact hX pins σ H1 _ a C none _ _ I2 e1 rfl rfl rfl rfl rfl (I1.a9.dead m.new) dead q1
theorem q0 {M : Model} {A : Around} {E : Value -> Shared -> Prop} {h : Heap} {g : Array GenState} {d : Drawn} {t : Nat} {os : OsState} {a C D N N' : Addr} {oe : Obj} {nm q KN q' : Str} {bs bm LK Ic sub G4 : List Value} {hdct Jw ab LI : Bool} {sn K7 : List Str} {col GD : Option Bool} {dd LO : Option Addr} {k0 k1 k2 k3 k5 l0 l1 l2 l3 l5 : Option Value} {newId G6 : String} {Q : Bool -> Shared -> Prop} {b : Bool}
 (hC : h.get? C = some (excClassObj nm q C N bs bm hdct sn sub ab col dd k0 k1 k2 k3 k5 newId)) (hD : h.get? D = some (excClassObj KN q' D N' LK Ic Jw K7 G4 LI GD LO l0 l1 l2 l3 l5 G6)) (he : h.get? a = some oe) (Dk : oe.cls = .ref C) (hb : Ic.contains (.type "BaseException") = true)
 (hit : (Value.ref C :: bm).contains (.ref D) = b) (hq : Q b ⟨h, g, d, t, os⟩) : wpAny M A (excMatches (.ref a) (.ref D)) Q E ⟨h, g, d, t, os⟩ := by
 have c1 : (Value.ref D :: Ic).contains (.type "BaseException") = true := by rw [List.contains_cons, hb, Bool.or_true]
 have f := tc_notTuple
 unfold excMatches
 cases b
 . repeat (first | (with_reducible refine wpAny_loadPart_at he ?_; rw [Dk]) | with_reducible refine wpAny_loadPart_at hD ?_ | (with_reducible refine wpAny_isSubtype_exc hD ?_; rw [c1]) | (with_reducible refine wpAny_isSubtype_exc hC ?_; rw [hit]) | wp_step)
   all_goals exact hq
 . repeat (first | (with_reducible refine wpAny_loadPart_at he ?_; rw [Dk]) | with_reducible refine wpAny_loadPart_at hD ?_ | (with_reducible refine wpAny_isSubtype_exc hD ?_; rw [c1]) | (with_reducible refine wpAny_isSubtype_exc hC ?_; rw [hit]) | wp_step)
   all_goals exact hq
theorem xE {K : PySem.W.Frag} {h : Heap} {C D N : Addr} {nm q : Str} {bs bm sub : List Value} {hdct ab : Bool} {sn : List Str} {col : Option Bool} {dd : Option Addr} {k0 k1 k2 k3 k5 : Option Value} {newId : String} {b : Bool} (X : K.In h) (hC : h.get? C = some (excClassObj nm q C N bs bm hdct sn sub ab col dd k0 k1 k2 k3 k5 newId)) (hm : PySem.W.mroIn K C (.ref D) = some b) : (Value.ref C :: bm).contains (.ref D) = b := by
 unfold PySem.W.mroIn PySem.W.clsIn at hm
 split at hm
 . rename_i c' d' cd sl ho
   have z := X _ _ ho
   rw [hC] at z
   cases z
   simpa using hm
 . cases hm
theorem u9.keeps {h h' : Heap} {a T : Addr} {c : Value} {od : Option Addr} (t : u9 h a T c od) (k : ∀ b o, h.get? b = some o -> h'.get? b = some o) : u9 h' a T c od := by
 obtain ⟨oe, vs, oT, ts, e1, e2, e3, e4, e5, e6, e7, e8⟩ := t
 exact ⟨oe, vs, oT, ts, k _ _ e1, e2, e3, e4, e5, e6, k _ _ e7, e8⟩
def Lg (X : Cx) (cl : Expr) (hit : Addr -> Bool -> Prop) : Prop := ∀ (a C T : Addr) (od : Option Addr) (pins : List (Addr × Obj)) (σ : St) (H : Hp) (s : Shared) (Q : Bool -> Shared -> Prop) (E : Value -> Shared -> Prop) (b : Bool), Inv X pins σ H s -> u9 s.heap a T (.ref C) od -> hit C b ->
 (∀ h', (∀ b o, s.heap.get? b = some o -> h'.get? b = some o) -> Q b { s with heap := h' }) ->
 wpAny (model X.prog X.w) (X.hand a).A (eval cl X.env) (fun c s1 => wpAny (model X.prog X.w) (X.hand a).A (excMatches (.ref a) c) Q E s1) E s
def Dy (K : PySem.W.Frag) (D C : Addr) (b : Bool) : Prop := vj K C /\ PySem.W.mroIn K C (.ref D) = some b
theorem BX {X : Cx} {x : Str} {np : Pos} {D : Addr} (hg : Gl X x) (hm : X.mg x = some (.ref D)) (hD : vj X.K D) (oj : (x == ("__debug__" : Str)) = false := by decide) : Lg X (.Name x np) (Dy X.K D) := by
 intro a C T od pins σ H s Q E b I tr hit k
 refine eD (X := { X with xe := E }.hand a) (E := E) I.oz hg hm ?_ oj
 obtain ⟨bm, N, nm, q, bs, hd, sn, sub, ab, col, dd, k0, k1, k2, k3, k5, hC, _⟩ := hit.1 _ I.jf
 obtain ⟨Ic, N', KN, q', LK, vb, K7, G4, LI, GD, LO, l0, l1, l2, l3, l5, L6, T'⟩ := hD _ I.jf
 obtain ⟨oe, vs, oT, Oz, e1, e2, e3, e4, e5⟩ := id tr
 exact q0 hC L6 e1 e2 (T'.hasType (by decide)) (xE I.jf hC hit.2) (k _ fun _ _ z => z)
structure DS where
 hit : Addr -> Bool -> Prop
 i : Option Nat
 ts : Addr -> TS
def DI (σ : St) (i : Option Nat) (v : Option V) : St := match i with
 | some i => σ.set i v
 | none => σ
def Aq (X : Cx) : Option Str -> Option Nat -> Prop
 | some n, some i => X.N[i]? = some n /\ X.env.scope.names.lookup n = some .local
 | none, none => True
 | _, _ => False
inductive zx (X : Cx) : List ExceptHandler -> List DS -> Prop
 | nil : zx X [] []
 | cons {cl : Expr} {n : Option Str} {b0 : Stmt} {r9 : List Stmt} {pos : Pos} {hs : List ExceptHandler} {hit : Addr -> Bool -> Prop} {i : Option Nat} {ts : Addr -> TS} {rs : List DS} (hc : Lg X cl hit) (hb : ∀ a, qM (X.hand a) (b0 :: r9) (ts a)) (hn : Aq X n i) (r : zx X hs rs) :
  zx X (.ExceptHandler (some cl) n (b0 :: r9) pos :: hs) (⟨hit, i, ts⟩ :: rs)
def GN (D : Ends) (i : Option Nat) : Ends := { nx := fun σ H => D.nx (DI σ i none) H, rt := D.rt, bk := fun σ H => D.bk (DI σ i none) H, ct := fun σ H => D.ct (DI σ i none) H }
theorem Inv.gone {X : Cx} {pins : List (Addr × Obj)} {σ : St} {H : Hp} {s : Shared} {h' : Heap} {m : Str -> Option Value} {n : Str} {v : Option Value} {i : Nat} {t' : Nat} (I : Inv X pins σ H s) (hN : X.N.Nodup) (hi : X.N[i]? = some n)
 (loc : ∀ (j : Nat) (x : Str) (v : V), X.N[j]? = some x -> σ[j]? = some (some v) -> E4 X.env.scope x -> ∃ u, RelV v u /\ Look X.env s.heap m x u) (ns : h'.Ns X.env.locals (fun x => if x = n then v else m x)) (sb : Heap.SameBut X.env.locals s.heap h') : Inv X pins (σ.set i none) H { s with heap := h', toks := t' } := by
 have old : ∀ b o, X.cJ.heap.get? b = some o -> b ≠ X.env.locals := fun b o e => Nat.ne_of_lt (Nat.lt_of_lt_of_le (Heap.lt_size e) I.ok.above)
 refine ⟨I.ok, I.os, I.bare, ⟨fun b o e n hb hx => (sb.2 b (old b o e)).trans (I.base.keep b o e n hb hx), fun b o e n hb hx => ?_, fun b o e n hx => I.base.free b o e n hx, fun b o e hx => ?_, I.base.ke, I.base.jE, I.base.lI⟩, ⟨_, ns, fun j x w e1 e2 e3 => ?_⟩, fun x c e => ?_, I.free, I.eh, fun p hp => ?_, fun b u e => ?_, by rw [List.length_set]; exact I.len⟩
 . obtain ⟨sl, z⟩ := I.base.slot b o e n hb hx
   exact ⟨sl, (sb.2 b (old b o e)).trans z⟩
 . obtain ⟨o2, z⟩ := I.base.there b o e hx
   exact ⟨o2, (sb.2 b (old b o e)).trans z⟩
 . have MQ : i ≠ j := fun y => by
    subst y
    rw [List.getElem?_set_self' ] at e2
    cases q : σ[i]? <;> rw [q] at e2 <;> cases e2
   rw [List.getElem?_set_ne MQ] at e2
   obtain ⟨u, ru, l⟩ := loc j x w e1 e2 e3
   refine ⟨u, ru, ?_⟩
   have Oe : x ≠ n := fun y => MQ (qA hN hi (y ▸ e1))
   rcases l with ⟨k, l⟩ | ⟨k, c, e, o, ho, hd⟩
   . exact .inl ⟨k, by show (if x = n then v else m x) = _; rw [if_neg Oe]; exact l⟩
   . exact .inr ⟨k, c, e, o, (sb.2 c (I.DM x c e)).trans ho, hd⟩
 . obtain ⟨v, o, ho, hd⟩ := I.cell x c e
   exact ⟨v, o, (sb.2 c (I.DM x c e)).trans ho, hd⟩
 . obtain ⟨e, n, ne, nf, d⟩ := I.pin p hp
   exact ⟨(sb.2 p.1 ne).trans e, n, ne, nf, d⟩
 . refine (I.a9 b u e).pF (fun c v hc q => (sb.2 c fun z => ?_).trans q) (fun _ q => q) fun _ _ q => q
   have sO : H c ≠ none := by
    rcases hc with rfl | hc
    . rw [e]; intro z; cases z
    . rw [hc]; intro z; cases z
   exact sO (z ▸ I.free)
section
variable {X : Cx} {pins : List (Addr × Obj)} {σ : St} {H : Hp} {a C : Addr} {od : Option Addr} {Dn : Ends}
def Ho (X : Cx) (pins : List (Addr × Obj)) (b : Addr) : Prop := X.cJ.heap.get? b = none /\ b ≠ X.env.locals /\ (∀ x c, X.env.cells.lookup x = some c -> c ≠ b) /\ ∀ p ∈ X.pn ++ pins, p.1 ≠ b
end
theorem vd {prog : Program} {w : World} {A : Around} {E : Value -> Shared -> Prop} {s : Shared} {K : PySem.W.Frag} {x D : Addr} {ox : Obj} {Ia : Option Obj} {Q : Option Value -> Shared -> Prop} (t : Hg K D) (X : K.In s.heap) (I : InstAt s.heap x ox D Ia) (h : Q (some (.ref D)) { s with toks := s.toks + 1 }) : wpAny (model prog w) A (getAttr? (.ref x) "__class__") Q E s := by
 have hf : findObj K D Ia "__class__" = some (.bind (.builtin "getset_descriptor.__get__") (.builtin "object.__class__")) := by
  obtain ⟨cd, hc, _⟩ := any_some t.hd
  unfold findObj
  rw [hc, t.ty.ha]
  simp only [Option.bind_some, t.ty.hn, t.ty.ht]
 obtain ⟨hh, g, d, tk, os⟩ := s
 have L0 := I.type (M := model prog w)
 have L1 := looks_findIn (M := model prog w) X t.ga
 have L2 := looks_findIn (M := model prog w) X t.gn
 have L3 := looks_find (M := model prog w) X I hf
 have L4 := looks_mroIn (M := model prog w) X t.mb
 have hk : builtinKind "BaseException.__getattribute__" = some .slot := by decide +kernel
 have hsplit : splitId "BaseException.__getattribute__" = some ("BaseException", "__getattribute__") := by decide +kernel
 unfold getAttr? getAttrBy? getAttrBy
 refine wpAny_bind (wpAny_mkText (wpAny_bind (wpAny_attempt (wpAny_holding (wpAny_bind (L0.at (wpAny_bind (L1.at ?_))))))))
 dsimp only
 rw [if_neg (show ¬ ((onTheHeap (Value.ref D) && Value.builtin "BaseException.__getattribute__" == Value.builtin "object.__getattribute__") = true) by rw [show (Value.builtin "BaseException.__getattribute__" == Value.builtin "object.__getattribute__") = false from by decide +kernel, Bool.and_false]; decide)]
 unfold getAttrByItsOwn
 refine wpAny_bind (show wpAny _ _ (typeLookup (.ref D) "__getattr__") _ _ _ from L2.at ?_)
 refine wpAny_bind (wpAny_attempt (wpAny_holding ?_))
 show wpAny _ _ (boundAndCalled _ _ _) _ _ _
 unfold boundAndCalled
 rw [PySem.F.attr_ValueError.ga.bind]
 refine wpAny_bind (wpAny_pure ?_)
 refine wpAny_call (codeAny_call_builtin PySem.F.attr_ValueError.ga.plain PySem.F.entry_bexc_ga ?_)
 simp only [checkBuiltinCall, hk, hsplit]
 have ha := PySem.F.args_bexc_ga (.ref x) (.str "__class__" tk)
 dsimp only at L0 L1 L2 L3 L4 X I h
 refine wpAny_bind ?_
 unfold isInstance
 refine wpAny_bind (L0.at (L4.at ?_))
 rw [if_neg (by decide)]
 repeat (any_goals (first | assumption | with_reducible refine L0.at ?_ | with_reducible refine L3.at ?_ | wp_step))
 exact class_get (s := ⟨hh, g, d, tk + 1, os⟩) (ox := ox) (od := Ia) X I t.ty.hm (wpAny_pure (handed_on rfl (wpAny_pure h)))
theorem Bk {K : PySem.W.Frag} {x D : Addr} {ox : Obj} {Ia : Option Obj} (t : Hg K D) : KitX K (.ref x) (.ref D) (fun h => InstAt h x ox D Ia) where
 ty := fun _ _ _ I => I.type
 it := fun _ _ X _ => by
  obtain ⟨O4, Cv, _⟩ := any_some t.hd
  unfold clsIn at Cv
  split at Cv
  . rename_i c' d' O7 Mq ho
    intro A' Q' E' s' k q
    unfold isType loadHead
    exact wpAny_bind (wpAny_loadPart (k _ _ (X _ _ ho)) (wpAny_pure q))
  . cases Cv
 ne := fun h tp dd aU n sl X NY => by
  obtain ⟨O4, Cv, _⟩ := any_some t.hd
  refine Bool.eq_false_iff.mpr fun q => ?_
  have e : D = tp := Value.ref.inj (beq_iff_eq.mp q)
  subst e
  unfold clsIn at Cv
  split at Cv
  . rename_i c' d' O7 Mq ho
    have z := (X _ _ ho).symm.trans NY
    cases z
  . cases Cv
 ca := fun X I k => vd t X I k
section
variable {X : Cx} {e : Expr} {te : TE} {y y2 : Str} {k k2 : Nat} {p1 p2 p3 pos : Pos}
end
section
variable {σ : St} {H : Hp} {Q : VK} {D : Ends} {K : PySem.W.Frag} {C : Addr} {E : St -> XK}
theorem CU {sp : Sp} {cU : List V} {t : TA} (h : t σ H fun vs H1 => gv sp (vs ++ cU) H1 Q (E σ)) : su sp cU E t σ H Q := h
theorem DC {sp : Sp} {cU : List V} {t : TA} (h : t σ H fun vs H1 => xf C sp (vs ++ cU) H1 Q (E σ)) : Ac C sp cU E t σ H Q := h
theorem zT {ta : TA} (h : ta σ H fun vs H1 => vs.length <= sizeLine /\ E σ (.ref C) none H1) : xI C E ta D σ H := h
end
section
variable {prog : Program} {w : World} {A : Around} {R : Result -> Shared -> Prop} {I S : Addr} {fp wr : List Addr} {n : Nat} {P : Nat -> Value -> Prop} {St : Nat -> Heap -> Prop} {bt : Nat -> Nat -> Bool}
end
section
variable {prog : Program} {w : World} {A : Around} {E : Value -> Shared -> Prop} {s : Shared}
end
section
variable {X : Cx}
end
section
variable {σ : St} {H : Hp} {Q : VK} {D : Ends} {K : PySem.W.Frag}
end
def FA : Expr -> Option V
 | .Constant (.int i) _ _ => some (.int i)
 | .Constant (.str x) _ _ => some (.str x)
 | .Constant (.bool b) _ _ => some (.bl b)
 | .Constant .none _ _ => some .cj
 | _ => none
def xu : List Expr -> Option (List V)
 | [] => some []
 | e :: es => match FA e, xu es with
   | some v, some vs => some (v :: vs)
   | _, _ => none
def AG (vs : List V) : TA := fun _ H Q => Q vs H
theorem xN {X : Cx} {e : Expr} {v : V} (h : FA e = some v) : PE X e (tC v) /\ ∀ es : List Expr, starEach (e :: es) X.env = (false, eval e X.env) :: starEach es X.env := by
 unfold FA at h
 split at h <;> cases h <;> refine ⟨?_, fun _ => rfl⟩
 . exact ah
 . exact ax
 . exact ql
 . exact oy
theorem wX {X : Cx} : ∀ {es : List Expr} {vs : List V}, xu es = some vs -> PA X es (AG vs)
 | [], vs, h => by cases h; exact ag
 | e :: es, vs, h => by
   unfold xu at h
   split at h
   . rename_i v P6 h1 h2
     cases h
     exact af (xN h1).1 (wX h2) ((xN h1).2 es)
   . cases h
theorem FT {σ : St} {H : Hp} {vs : List V} {Q : List V -> Hp -> Prop} (h : Q vs H) : AG vs σ H Q := h
section
variable {X : Cx}
end
section
open PySem.SeqAt
open PySem.AutoSeq1 (wpAny_loadPart')
open PySem.MeetsSeq PySem.MeetsSeq2 PySem.MeetsSeq3
end
section
variable {X : Cx}
end
section
variable {σ : St} {H : Hp} {Q : VK} {D : Ends} {K : PySem.W.Frag}
theorem sX {k : Nat} {v : V} {g : TG} {tc : TT} {te : TE} {α : Type} {cs : List α} {gd : α -> PyData} (Pd : α -> PyData -> Prop) (hl : Dv H v (.list (cs.map gd))) (hlen : cs.length <= 4000) (hi : ∀ c d, Pd c d -> sE d = true)
 (turn : ∀ x c H' (N : Option V -> Hp -> Prop), c ∈ cs -> ao H H' -> Dv H' x (gd c) -> (∀ y d H4, ao H' H4 -> Pd c d -> Dv H4 y d -> N (some y) H4) ->
  g x (List.replicate k none ++ σ) H' fun σ2 H2 => tc σ2 H2 fun b H3 => Hw te N σ2 b H3)
 (kk : ∀ q H' ds, ao H H' -> H q = none -> dq H' q ds -> ds.length = cs.length -> (∀ (i : Nat) c d, cs[i]? = some c -> ds[i]? = some d -> Pd c d) -> Q (.ref q) H') : ∃ a, v = .ref a /\ (∃ xs, fW K H a xs) /\ Ei k g tc te (rW Q) σ (Jy K a) H := by
 obtain ⟨p, xs, rfl, e, dv⟩ := hl.lst_inv
 have Gx : fW K H p xs := e K
 have Ht : xs.length = cs.length := by rw [dv.length, List.length_map]
 refine ⟨p, rfl, ⟨xs, Gx⟩, fun i m acc H' => i <= cs.length /\ m = cs.length - i /\ ao H H' /\ ∃ ds, cf H' acc ds /\ ds.length = i /\ ∀ (j : Nat) c d, cs[j]? = some c -> ds[j]? = some d -> Pd c d, ⟨cs.length, Nat.zero_le _, rfl, ao.refl _, [], .nil, rfl, fun j c d _ h => by simp at h⟩, ?_⟩
 rintro i m acc H' ⟨NA, hm, sm, ds, iU, zP, A9⟩
 have De : fW K H' p xs := ao.seq sm Gx
 have Ft : acc.length = i := by rw [iU.length, zP]
 have KQ : aQ ds = true := c5.mpr fun d hd => by
  obtain ⟨j, hj⟩ := List.getElem?_of_mem hd
  have OH : j < cs.length := by have := (List.getElem?_eq_some_iff.mp hj).1; omega
  exact hi _ d (A9 j _ d (List.getElem?_eq_getElem OH) hj)
 by_cases hc : i = cs.length
 . left
   refine ⟨⟨xs, De, by omega⟩, fun q hq => ?_⟩
   exact kk q _ ds (sm.trans (bA hq)) (sm.none hq) ⟨acc, aN, iU.keeps (bA hq), KQ⟩ (by omega) A9
 . right
   have rQ : i < cs.length := by omega
   have JA : i < xs.length := by omega
   refine ⟨⟨xs, xs[i], De, List.getElem?_eq_getElem JA⟩, fZ (by omega), fun x H2 hy => ?_⟩
   obtain ⟨rfl, hy⟩ := hy
   have hx := hy xs De
   have Jg : cs[i]? = some cs[i] := List.getElem?_eq_getElem rQ
   obtain ⟨x', tV, hd⟩ := dv.get (i := i) (d := gd cs[i]) (by rw [List.getElem?_map, Jg]; rfl)
   rw [hx] at tV
   cases tV
   refine turn x cs[i] H2 (fun o H4 => match o with | some y => ∃ m', m' < m /\ i + 1 <= cs.length /\ m' = cs.length - (i + 1) /\ ao H H4 /\ ∃ ds, cf H4 (acc ++ [y]) ds /\ ds.length = i + 1 /\ ∀ (j : Nat) c d, cs[j]? = some c -> ds[j]? = some d -> Pd c d | none => ∃ m', m' < m /\ i + 1 <= cs.length /\ m' = cs.length - (i + 1) /\ ao H H4 /\ ∃ ds, cf H4 acc ds /\ ds.length = i + 1 /\ ∀ (j : Nat) c d, cs[j]? = some c -> ds[j]? = some d -> Pd c d)
    (List.getElem_mem rQ) sm (hd.keeps sm) (fun y d H4 s4 hp d4 => ?_)
   refine ⟨cs.length - (i + 1), by omega, rQ, rfl, sm.trans s4, ds ++ [d], cf.append (iU.keeps s4) (.cons d4 .nil), by simp [zP], fun j c e hc he => ?_⟩
   rw [List.getElem?_append] at he
   split at he
   . exact A9 j c e hc he
   . rename_i hj
     by_cases e0 : j = ds.length
     . rw [e0] at he
       have : d = e := by simpa using he
       rw [e0, zP, Jg] at hc
       cases hc
       exact this ▸ hp
     . rw [List.getElem?_eq_none (by simp; omega)] at he; cases he
end
section
variable {X : Cx}
def Et : List V -> Hp -> VK -> Prop := fun xs H Q => ∃ (v : V) (ns : List Int), xs = [v] /\ Dv H v (.list (ns.map PyData.int)) /\ 0 < ns.length /\ ∀ m ∈ ns, (∀ k ∈ ns, m <= k) -> Q (.int m) H
theorem yy (hc : X.calm = true) : fH X (.builtin "min") Et := by
 intro pins s σ H xs us Q I r h
 obtain ⟨v, ns, rfl, hd, sI, q⟩ := h
 obtain ⟨u, rfl, ru⟩ := vals1 r
 obtain ⟨p, ys, rfl, e, dv⟩ := hd.lst_inv
 obtain ⟨aU, Ip, pl, _⟩ := I.list (e X.K)
 cases ru
 have hI := xR dv Ip
 have hn : aU.toArray.size = ns.length := by rw [List.size_toArray, hI.length]
 have rQ : p < s.heap.objs.size := by obtain ⟨o, n, e1, _⟩ := pl; exact Heap.lt_size e1
 have hA : X.A.in1.handled = none := I.ok.hd hc
 refine call_min_walk (wpAny_pyIter_list pl.isList ?_)
 refine ⟨s.heap.objs.size, _, _, _, _, _, fun i j => decide (ns.getD i 0 < ns.getD j 0), rfl, Walks.list hA _ p (Nat.ne_of_lt rQ) aU.toArray, ⟨⟨_, Heap.get?_push_size _ rfl, rfl, rfl⟩, pl.isList.at fun o e => Heap.get?_push_of_some _ e⟩, ?_, by omega, CmpOf.ints_lt (fun i => ns.getD i 0) ?_, ?_⟩
 . intro b hb
   rw [Heap.size_push]
   have : b = s.heap.objs.size \/ b = p := by simpa using hb
   rcases this with rfl | rfl
   . exact Nat.lt_succ_self _
   . exact Nat.lt_succ_of_lt rQ
 . intro i v hv
   exact hI.int_at i v (by simpa using hv)
 . intro v h' tk hP hk
   have b := wW (fun i => ns.getD i 0) (aU.toArray.size - 1)
   generalize argBest (fun i j => decide (ns.getD i 0 < ns.getD j 0)) (aU.toArray.size - 1) = ix at b hP
   obtain ⟨b1, b2⟩ := b
   obtain ⟨t, rfl⟩ := hI.int_at ix v (by simpa using hP)
   have I1 := I.kept (t' := s.toks) (h' := s.heap.push { cls := Value.type "list_iterator", data := Data.fields #[Value.ref p, Value.int 0 0] }) fun b o e => Heap.get?_push_of_some _ e
   have fp := I.B1 (H' := H) (Nat.le_refl _) (I.a9.fresh (Nat.le_refl _))
   have I2 := I1.turned (t' := tk) (h' := h') (it := s.heap.objs.size) (fun b o hb e => hk b o (by simpa using hb) e) fp.1 fp.2.1 fp.2.2.2.1 fp.2.2.2.2.1 fp.2.2.2.2.2
   have hb : ix < ns.length := by omega
   refine ⟨.int _, H, I2, ⟨t, rfl⟩, q _ ?_ ?_⟩
   . rw [List.getD_eq_getElem?_getD, List.getElem?_eq_getElem hb]; exact List.getElem_mem hb
   . intro k hk
     obtain ⟨j, hj, rfl⟩ := List.getElem_of_mem hk
     have := b2 j (by omega)
     rwa [List.getD_eq_getElem?_getD (i := j), List.getElem?_eq_getElem hj] at this
theorem FX {H : Hp} {Q : VK} {v : V} {ns : List Int} (hp : Dv H v (.list (ns.map PyData.int))) (h0 : 0 < ns.length) (h : ∀ m ∈ ns, (∀ k ∈ ns, m <= k) -> Q (.int m) H) : Et [v] H Q := ⟨v, ns, rfl, hp, h0, h⟩
end
structure LL (H : Hp) (p : Addr) (as : List Addr) (rs : List (Int × Int)) : Prop where
 at' : H p = some (.lst (as.map V.ref))
 nd : as.Nodup
 ne : p ∉ as
 len : as.length = rs.length
 row : ∀ (i : Nat) (b : Addr) (r : Int × Int), as[i]? = some b -> rs[i]? = some r -> dq H b [.int r.1, .int r.2]
section
variable {H H' : Hp} {p : Addr} {as : List Addr} {rs : List (Int × Int)}
end
theorem mR : ∀ (ss : List Str) (n : Nat), StrsAre (strsFrom n ss) ss
 | [], _ => .nil
 | _ :: r, n => .cons _ _ (mR r (n + 1))
def z7 : V -> List V -> Hp -> VK -> Prop := fun x vs H Q => ∃ z y : Str, x = .str z /\ vs = [.str y] /\ y.length ≠ 0 /\ z.length <= 3990 /\ ∀ p, H p = none -> Q (.ref p) (upd H p (.lst ((Txt.split z y).map V.str)))
theorem sr (z y : Str) (h : 1 <= y.length) : (Txt.split z y).length <= z.length + 1 := by
 have := split_weight z y h
 omega
section
variable {X : Cx}
theorem uc : JD X "str.split" z7 := by
 intro pins s σ H x vs v us Q I rx rv h
 obtain ⟨z, y, rfl, rfl, hy, hz, q⟩ := h
 obtain ⟨t, rfl⟩ := rx
 obtain ⟨u, rfl, ru⟩ := rv.one
 obtain ⟨t', rfl⟩ := ru
 have hl := sr z y (by omega)
 have hb : (Txt.split z y).length <= sizeLine := Nat.le_trans hl (Nat.le_trans (show z.length + 1 <= 4000 by omega) (by decide))
 have fin : ∀ (us : List Value) (tk : Nat), StrsAre us (Txt.split z y) -> EP X pins σ Q (.ref s.heap.objs.size) { s with heap := s.heap.push { cls := .type "list", data := .seq us.toArray }, toks := tk } := fun us tk hs =>
  ⟨.ref s.heap.objs.size, _, I.laid (t' := tk) (o := .lst ((Txt.split z y).map V.str)) (fun b u e => Heap.get?_push_of_some _ e) (Nat.le_refl _)
   ⟨by rw [List.length_map]; exact hb, us, _, se hs, Heap.get?_push_size _ rfl⟩, rfl, q _ (I.a9.fresh (Nat.le_refl _))⟩
 unfold Txt.split at fin hb
 split at fin
 . rename_i c
   exact call_meets F.slot_str_split (typeIs_str _ _ _) F.entry_str_split (F.args_str_split_2 _ _) (meets_str_split_cannot_occur z y t t' c) (fin [.str z t] s.toks (.cons _ _ .nil))
 . rename_i c
   rw [if_neg c] at hb
   split at fin
   . rename_i c2
     exact call_meets F.slot_str_split (typeIs_str _ _ _) F.entry_str_split (F.args_str_split_2 _ _) (meets_str_split_not_found z y t t' (by simpa using c) (by simpa using hy) c2) (fin [.str z t] s.toks (.cons _ _ .nil))
   . rename_i c2
     rw [if_neg c2] at hb
     exact call_meets F.slot_str_split (typeIs_str _ _ _) F.entry_str_split (F.args_str_split_2 _ _) (meets_str_split_sep z y t t' (by simpa using c) (by simpa using hy) (by simpa using c2) (Nat.le_trans hz (by decide)) hb) (fin _ _ (mR _ _))
end
section
variable {σ : St} {H : Hp} {Q : VK}
theorem xS {z y : Str} (hy : y.length ≠ 0) (hz : z.length <= 3990) (k : ∀ p H', ao H H' -> H p = none -> dq H' p ((Txt.split z y).map PyData.str) -> Q (.ref p) H') : z7 (.str z) [.str y] H Q :=
 ⟨z, y, rfl, rfl, hy, hz, fun p hp => k p _ (bA hp) hp (ik hp (uE _) (oU _))⟩
end
theorem ny (sep : Str) : ∀ (x : Str) (r : List Str), (Txt.join sep (x :: r)).cps.toList = x.cps.toList ++ r.flatMap fun p => sep.cps.toList ++ p.cps.toList
 | x, [] => by show x.cps.toList = _; simp
 | x, y :: r => by
   have e : (Txt.join sep (x :: y :: r)) = Txt.join sep ((⟨x.cps ++ sep.cps ++ y.cps⟩ : Str) :: r) := rfl
   rw [e, ny sep _ r]
   show (x.cps ++ sep.cps ++ y.cps).toList ++ _ = _
   simp
inductive mQ (w : World) : List DictEntry -> List (Str × Int) -> Prop
 | nil : mQ w [] []
 | cons {es : List DictEntry} {m : List (Str × Int)} (k : Str) (t : Tok) (n : Int) (u : Tok) (r : mQ w es m) : mQ w (⟨PyData.keyHash w.params k, .str k t, .int n u⟩ :: es) ((k, n) :: m)
def gZ (w : World) (K : PySem.W.Frag) (A : Addr) (m : List (Str × Int)) : Prop := ∃ es ep, List.lookup A K = some ⟨.type "dict", none, .dict es ep, #[]⟩ /\ (A == sysModules) = false /\ mQ w es.toList m /\ (m.map (·.1)).Nodup
def yr (m : List (Str × Int)) (k : Str) : Option Int := (m.find? fun p => decide (p.1 = k)).map (·.2)
theorem mQ.keys {P : Program} {w : World} : ∀ {es : List DictEntry} {m : List (Str × Int)}, mQ w es m -> ∀ e ∈ es, ∃ k, (eE P w).is k e.key = true /\ e.hash = (eE P w).hash k
 | _, _, .cons k t n u r, e, he => by
   rcases List.mem_cons.mp he with rfl | he
   . exact ⟨.inr k, by show kC (.inr k) (.str k t) = true; simp [kC, Value.isStrOf], rfl⟩
   . exact r.keys e he
theorem mQ.pairs {P : Program} {w : World} : ∀ {es : List DictEntry} {m : List (Str × Int)}, mQ w es m -> ∃ vs : List (Key × Value), Pairs (eE P w) es vs /\ vs.map (·.1) = m.map (fun p => Sum.inr p.1) /\ KV (m.map fun p => ((Sum.inr p.1 : Key), V.int p.2)) vs
 | _, _, .nil => ⟨[], .nil, rfl, .nil⟩
 | _, _, .cons k t n u r => by
   obtain ⟨vs, a, b, c⟩ := r.pairs (P := P)
   exact ⟨(.inr k, .int n u) :: vs, .cons (by show kC (.inr k) (.str k t) = true; simp [kC, Value.isStrOf]) rfl a, by simp [b], .cons ⟨rfl, u, rfl⟩ c⟩
theorem t6 (m : List (Str × Int)) (k : Str) : t7 (m.map fun p => ((Sum.inr p.1 : Key), V.int p.2)) (.inr k) = (yr m k).map V.int := by
 induction m with
 | nil => rfl
 | cons p m ih =>
   unfold yr t7 at *
   rw [List.map_cons, List.find?_cons, List.find?_cons]
   by_cases e : p.1 = k
   . simp [e]
   . have e2 : ¬ (Sum.inr p.1 : Key) = Sum.inr k := fun z => e (by injection z)
     rw [decide_eq_false e, decide_eq_false e2]
     exact ih
theorem gZ.at {X : Cx} {pins : List (Addr × Obj)} {σ : St} {H : Hp} {s : Shared} {A : Addr} {m : List (Str × Int)} (g : gZ X.w X.K A m) (I : Inv X pins σ H s) : (A == sysModules) = false /\ ∃ vs, KV (m.map fun p => ((Sum.inr p.1 : Key), V.int p.2)) vs /\ s.heap.DictOf (eE X.prog X.w) A vs := by
 obtain ⟨es, ep, e1, e2, e3, e4⟩ := g
 obtain ⟨vs, a, b, c⟩ := e3.pairs (P := X.prog)
 refine ⟨e2, vs, c, _, es, ep, I.bk _ _ (I.mod.BD _ _ e1), ⟨rfl, rfl, rfl⟩, rfl, fun e he => e3.keys e (by simpa using he), a, ?_⟩
 have : vs.map (fun x => x.1) = (m.map (·.1)).map Sum.inr := by rw [b, List.map_map]; rfl
 rw [this]
 exact List.Pairwise.map _ (fun _ _ z y => z (by injection y)) e4
def CD (A : Addr) (m : List (Str × Int)) (x y : V) (H : Hp) (Q : VK) : Prop := ∃ k, x = .ref A /\ y = .str k /\ Q (.bl (yr m k).isSome) H
def Al (A : Addr) (m : List (Str × Int)) (x y : V) (H : Hp) (Q : VK) : Prop := ∃ k n, x = .ref A /\ y = .str k /\ yr m k = some n /\ Q (.int n) H
def Jm (A : Addr) (m : List (Str × Int)) (ty td : TE) : TE := fun σ H Q => ty σ H fun y H1 => td σ H1 fun x H2 => CD A m x y H2 Q
def DY (A : Addr) (m : List (Str × Int)) (td ty : TE) : TE := fun σ H Q => td σ H fun x H1 => ty σ H1 fun y H2 => Al A m x y H2 Q
section
variable {X : Cx} {o i : Expr} {pos : Pos} {td ty : TE} {A : Addr} {m : List (Str × Int)}
theorem GZ (hG : gZ X.w X.K A m) (hi : PE X i ty) (ho : PE X o td) : PC X .In i o (Jm A m ty td) := by
 intro pins s σ H Q I h
 refine bK (hi pins s σ H _ I h) fun iv s1 ⟨y, H1, I1, ry, q1⟩ => bK (ho pins s1 σ H1 _ I1 q1) fun u s2 ⟨x, H2, I2, rx, k, ex, ey, q2⟩ => ?_
 subst ex
 subst ey
 obtain rfl : u = Value.ref A := rx
 obtain ⟨hd, vs, rel, dd⟩ := hG.at I2
 refine wpAny_in_of (Ew (k := .inr k) ry) hd dd.mapOf ?_
 rw [<- (rel.val (.inr k)).yd, t6, Option.isSome_map]
 exact ⟨.bl _, H2, I2.tok _, rfl, q2⟩
theorem Cd (hG : gZ X.w X.K A m) (ho : PE X o td) (hi : PE X i ty) (hs : HD i) : PE X (.Subscript o i pos) (DY A m td ty) := by
 intro pins s σ H Q I h
 refine C5 PySem.F.slot_dict_getitem.lookup hs (bK (ho pins s σ H _ I h) fun u s1 ⟨x, H1, I1, rx, q1⟩ => bK (hi pins s1 σ H1 _ I1 q1) fun iv s2 ⟨y, H2, I2, ry, k, n, ex, ey, l, q2⟩ => ?_)
 subst ex
 subst ey
 obtain rfl : u = Value.ref A := rx
 obtain ⟨hd, vs, rel, dd⟩ := hG.at I2
 obtain ⟨w', hw, Hx⟩ := nE.some_of (v := .int n) (o := valueAt vs (.inr k)) (by
  have z := rel.val (.inr k)
  rw [t6, l] at z
  exact z)
 exact ⟨dd.typeIs, wpAny_getItem_of (Ew (k := .inr k) ry) dd.mapOf hw ⟨.int n, H2, I2.tok _, Hx, q2⟩⟩
end
section
variable {σ : St} {H : Hp} {Q : VK} {A : Addr} {m : List (Str × Int)}
theorem F7 {ty td : TE} (h : ty σ H fun y H1 => td σ H1 fun x H2 => CD A m x y H2 Q) : Jm A m ty td σ H Q := h
theorem Dx {ty td : TE} (h : td σ H fun x H1 => ty σ H1 fun y H2 => Al A m x y H2 Q) : DY A m td ty σ H Q := h
theorem HY {k : Str} {n : Int} (hk : yr m k = some n) (h : Q (.bl true) H) : CD A m (.ref A) (.str k) H Q := ⟨k, rfl, rfl, by rw [hk]; exact h⟩
theorem FH {k : Str} (hk : yr m k = none) (h : Q (.bl false) H) : CD A m (.ref A) (.str k) H Q := ⟨k, rfl, rfl, by rw [hk]; exact h⟩
theorem Fz {k : Str} {n : Int} (hk : yr m k = some n) (h : Q (.int n) H) : Al A m (.ref A) (.str k) H Q := ⟨k, n, rfl, rfl, hk, h⟩
end
theorem Jd {w : World} {K : PySem.W.Frag} {h : Heap} {mg : Str -> Option Value} {A : Addr} {es : Array DictEntry} {ep : Nat} {m : List (Str × Int)} {x : Str} (X : K.In h) (G : h.Ns mainGlobals mg) (h0 : PySem.W.nsIn K mainGlobals x = some (some (.ref A)))
 (h1 : List.lookup A K = some ⟨.type "dict", none, .dict es ep, #[]⟩) (h2 : (A == sysModules) = false) (h3 : mQ w es.toList m) (h4 : (m.map (·.1)).Nodup) : ∃ A, mg x = some (.ref A) /\ gZ w K A m := ⟨A, PySem.W.mg_of X G h0, es, ep, h1, h2, h3, h4⟩
section
variable {H : Hp} {Q : VK} {K : PySem.W.Frag} {p : Addr} {ds : List PyData}
theorem F4 (xs : List V) (h : 1 <= xs.length) : tI xs (some 1) (some (-1)) = (xs.drop 1).take (xs.length - 2) := by
 have h1 : HT.fR xs.length 0 (some 1) = 1 := by
  simp only [HT.fR]
  rw [if_neg (by omega)]
  omega
 have h2 : HT.fR xs.length xs.length (some (-1)) = xs.length - 1 := by
  simp only [HT.fR]
  rw [if_pos (by omega)]
  omega
 show (xs.drop (HT.fR xs.length 0 (some 1))).take (HT.fR xs.length xs.length (some (-1)) - HT.fR xs.length 0 (some 1)) = _
 rw [h1, h2]
 congr 1
theorem wj (hp : dq H p ds) (h1 : 1 <= ds.length) (k : ∀ q H', ao H H' -> H q = none -> dq H' q ((ds.drop 1).take (ds.length - 2)) -> Q (.ref q) H') : uz K (.ref p) (some 1) (some (-1)) H Q := by
 obtain ⟨xs, e, dv, im⟩ := hp
 refine ⟨p, xs, rfl, fW.of e, fun q hq => ?_⟩
 have hl := dv.length
 rw [F4 xs (by omega), hl]
 exact k q _ (bA hq) hq (ik hq ((dv.drop 1).take _) (jI _ (jH 1 im)))
end
def E8 (h : Heap) (a T : Addr) (c : Value) (od : Option Addr) : Prop := ∃ oe vs oT ts v, h.get? a = some oe /\ oe.cls = c /\ oe.dict = od /\ oe.data = .fields vs /\ vs[1]? = some (.ref T) /\ T ≠ a /\ h.get? T = some oT /\ oT.data = .fields ts /\ ts[3]? = some v /\ vs[2]? = some .none
section
variable {M : Model} {A : Around} {E : Value -> Shared -> Prop} {s : Shared} {env : Env} {outer : List Env} {L a T : Addr} {c : Value} {od : Option Addr} {base : Heap} {Q : Unit -> Shared -> Prop}
theorem yJ {oe : Obj} {vs : Array Value} {head : Value} {GV : Bool} (og : A.frames = some (env :: outer)) (hl : s.heap.FunFrames base (env :: outer)) (hf : env.frame = some L) (he : s.heap.get? a = some oe) (A4 : oe.dict = od) (hd : oe.data = .fields vs) (hsz : 1 < vs.size) (DJ : vs[2]? = some .none)
 (h : ∀ h' T', E8 h' a T' oe.cls od -> s.heap.get? T' = none -> Lv (env :: outer) [a] s.heap h' -> Q () { s with heap := h' }) :
 wpAny M A (do let x <- frameOf env; let pl <- entryPlaceOf L GV; let b <- EntryCells.newEntry head x .none (rawInt L) .none pl; setField (.ref a) 1 b) Q E s := by
 have vh : a ∉ kc (env :: outer) := fun m => by
  obtain ⟨_, o, ho, hn⟩ := hl.mem m
  rw [he] at ho
  cases ho
  exact hn vs hd
 refine wpAny_bind (wpAny_frameOf_fun og hl hf fun h1 s1 => ?_)
 refine wpAny_bind (wpAny_entryPlaceOf fun pl j1 => ?_)
 unfold EntryCells.newEntry newFields
 refine wpAny_bind (wpAny_newObj_type ?_ (j1.sizeOk5 _ _ _ _ _))
 have e1 : h1.get? a = some oe := (s1.2.1 a vh).trans he
 let tb : Obj := { cls := .type "traceback", dict := none, data := .fields ([head, .ref L, .none, rawInt L, .none] ++ (if pl.isEmpty then List.replicate 6 Value.none else pl)).toArray }
 have e2 : (h1.push tb).get? a = some oe := Heap.get?_push_of_some _ e1
 refine wpAny_setField e2 hd hsz ?_
 have yV : h1.objs.size ≠ a := Ne.symm (Nat.ne_of_lt (Heap.lt_size e1))
 have d3 := Obj.data_mapFields hd (·.setIfInBounds 1 (Value.ref h1.objs.size))
 have e3 := Heap.get?_update_self (Obj.mapFields (·.setIfInBounds 1 (Value.ref h1.objs.size))) e2 (Obj.isFreed_of_fields d3)
 have t3 : ((h1.push tb).update a (Obj.mapFields (·.setIfInBounds 1 (Value.ref h1.objs.size)))).get? h1.objs.size = some tb := (Heap.get?_update_other _ _ (Ne.symm yV)).trans (Heap.get?_push_size h1 rfl)
 refine h _ h1.objs.size ?_ ?_ ?_
 . refine ⟨_, _, _, _, rawInt L, e3, Obj.cls_mapFields _ _, ?_, d3, by simp [hsz], yV, t3, rfl, by simp, by rw [Array.getElem?_setIfInBounds_ne (by decide)]; exact DJ⟩
   obtain ⟨c0, d0, Fe, MJ⟩ := oe
   cases Fe <;> first | exact A4 | (cases hd)
 . cases q : s.heap.get? h1.objs.size with
   | none => rfl
   | some o =>
     obtain ⟨sl, z⟩ := s1.2.2 _ o q
     exact absurd (Heap.lt_size z) (Nat.lt_irrefl _)
 . have kp : ∀ b o, b ≠ a -> h1.get? b = some o -> ((h1.push tb).update a (Obj.mapFields (·.setIfInBounds 1 (Value.ref h1.objs.size)))).get? b = some o := fun b o hb q => by
    rw [Heap.get?_update_other _ _ (Ne.symm hb)]
    exact Heap.get?_push_of_some _ q
   refine ⟨fun b o n1 n2 q => kp b o (by simpa using n2) ((s1.2.1 b n1).trans q), fun b o m q => ?_⟩
   obtain ⟨sl, z⟩ := s1.2.2 b o q
   exact ⟨sl, kp b _ (fun z => vh (z ▸ m)) z⟩
theorem uk (og : A.frames = some (env :: outer)) (hl : s.heap.FunFrames base (env :: outer)) (hf : env.frame = some L) (ht : u9 s.heap a T c od)
 (h : ∀ h' T', E8 h' a T' c od -> (T' = T \/ s.heap.get? T' = none) -> Lv (env :: outer) [a, T] s.heap h' -> Q () { s with heap := h' }) : wpAny M A (noteFrame (.ref a) env) Q E s := by
 obtain ⟨oe, vs, oT, ts, e1, rfl, e3, e4, e5, e6, e7, e8, e9, rl⟩ := ht
 unfold noteFrame
 simp only [hf]
 refine wpAny_bind (wpAny_field e1 e4 e5 ?_)
 rw [if_pos (show (Value.ref T != Value.none) = true from by simp)]
 refine wpAny_bind (wpAny_field e7 e8 e9 ?_)
 rw [if_neg (show ¬ ((Value.none == rawInt L) = true) from by simp [rawInt])]
 refine wpAny_bind (wpAny_setField e7 e8 (Array.getElem?_eq_some_iff.mp e9).1 ?_)
 have la : ∀ b, b ≠ T -> (s.heap.update T (Obj.mapFields (·.setIfInBounds 3 Value.none))).get? b = s.heap.get? b := fun b hb => Heap.get?_update_other _ _ (Ne.symm hb)
 have nT : ∀ b o, s.heap.get? b = some o -> (∀ vs, o.data ≠ .fields vs) -> b ≠ T := fun b o hb hn z => by
  rw [z, e7] at hb
  cases hb
  exact hn ts e8
 refine yJ (s := { s with heap := s.heap.update T (Obj.mapFields (·.setIfInBounds 3 Value.none)) }) og (hl.of_keeps fun b o hb hn => ⟨o, (la b (nT b o hb hn)).trans hb, rfl⟩) hf ((la a (Ne.symm e6)).trans e1) e3 e4 (Array.getElem?_eq_some_iff.mp e5).1 rl fun h' T' t1 t2 lv => h h' T' t1 ?_ ⟨fun b o n1 n2 q => ?_, fun b o m q => ?_⟩
 . by_cases z : T' = T
   . exact .inl z
   . exact .inr ((la T' z).symm.trans t2)
 . have : b ≠ a /\ b ≠ T := by simpa using n2
   exact lv.keep b o n1 (by simpa using this.1) ((la b this.2).trans q)
 . obtain ⟨_, o', q', hn⟩ := hl.mem m
   rw [q] at q'
   cases q'
   exact lv.slot b o m ((la b (nT b o q hn)).trans q)
theorem wa (og : A.frames = some (env :: outer)) (hl : s.heap.FunFrames base (env :: outer)) (hf : env.frame = some L) (ht : E8 s.heap a T c od)
 (h : ∀ h' T', u9 h' a T' c od -> (T' = T \/ s.heap.get? T' = none) -> Lv (env :: outer) [a, T] s.heap h' -> Q () { s with heap := h' }) : wpAny M A (noteFrame (.ref a) env) (fun _ s' => wpAny M A (setFlight (.ref a) none) Q E s') E s := by
 obtain ⟨oe, vs, oT, ts, v, e1, rfl, e3, e4, e5, e6, e7, e8, e9, rl⟩ := ht
 unfold noteFrame
 simp only [hf]
 refine wpAny_bind (wpAny_field e1 e4 e5 ?_)
 rw [if_pos (show (Value.ref T != Value.none) = true from by simp)]
 refine wpAny_bind (wpAny_field e7 e8 e9 ?_)
 by_cases hv : (v == rawInt L) = true
 . rw [if_pos hv]
   have hz := (Array.getElem?_eq_some_iff.mp e9).1
   have tr : ∀ b, b ≠ T -> (s.heap.update T (Obj.mapFields (·.setIfInBounds 3 Value.none))).get? b = s.heap.get? b := fun b hb => Heap.get?_update_other _ _ (Ne.symm hb)
   refine wpAny_pure (wpAny_setFlight_none e1 e4 e5 e7 e8 hz (h _ T ⟨oe, vs, _, _, (tr a (Ne.symm e6)).trans e1, rfl, e3, e4, e5, e6, Heap.get?_update_self _ e7 (Obj.isFreed_of_fields (Obj.data_mapFields e8 _)), Obj.data_mapFields e8 _, by simp [hz], rl⟩ (.inl rfl) ⟨fun b o n1 n2 q => (tr b (by simp at n2; exact n2.2)).trans q, fun b o m q => ?_⟩))
   obtain ⟨_, o', q', hn⟩ := hl.mem m
   rw [q] at q'
   cases q'
   exact ⟨o.slots, (tr b (fun z => by rw [z, e7] at q; cases q; exact hn ts e8)).trans q⟩
 rw [if_neg hv]
 refine wpAny_bind (wpAny_setField e7 e8 (Array.getElem?_eq_some_iff.mp e9).1 ?_)
 have la : ∀ b, b ≠ T -> (s.heap.update T (Obj.mapFields (·.setIfInBounds 3 Value.none))).get? b = s.heap.get? b := fun b hb => Heap.get?_update_other _ _ (Ne.symm hb)
 have nT : ∀ b o, s.heap.get? b = some o -> (∀ vs, o.data ≠ .fields vs) -> b ≠ T := fun b o hb hn z => by
  rw [z, e7] at hb
  cases hb
  exact hn ts e8
 refine ot (s := { s with heap := s.heap.update T (Obj.mapFields (·.setIfInBounds 3 Value.none)) }) og (hl.of_keeps fun b o hb hn => ⟨o, (la b (nT b o hb hn)).trans hb, rfl⟩) hf ((la a (Ne.symm e6)).trans e1) e3 e4 (Array.getElem?_eq_some_iff.mp e5).1 rl fun h' T' t1 t2 lv => h h' T' t1 ?_ ⟨fun b o n1 n2 q => ?_, fun b o m q => ?_⟩
 . by_cases z : T' = T
   . exact .inl z
   . exact .inr ((la T' z).symm.trans t2)
 . have : b ≠ a /\ b ≠ T := by simpa using n2
   exact lv.keep b o n1 (by simpa using this.1) ((la b this.2).trans q)
 . obtain ⟨_, o', q', hn⟩ := hl.mem m
   rw [q] at q'
   cases q'
   exact lv.slot b o m ((la b (nT b o q hn)).trans q)
theorem Ae {α : Type} {qI : Env} {Mh : String} {R : α -> Shared -> Prop} (ht : E8 s.heap a T c od) (h : ∀ h', E8 h' a T c od -> (∀ b o, b ≠ T -> s.heap.get? b = some o -> h'.get? b = some o) -> E (.ref a) { s with heap := h' }) : wpAny M A (PySem.passOn Mh (.ref a) qI : Sem α) R E s := by
 obtain ⟨oe, vs, oT, ts, v, e1, rfl, e3, e4, e5, e6, e7, e8, e9, rl⟩ := ht
 have hz := (Array.getElem?_eq_some_iff.mp e9).1
 unfold PySem.passOn
 refine wpAny_bind (wpAny_field e1 e4 e5 ?_)
 rw [if_neg (show ¬ ((Value.ref T == Value.none) = true) from by simp)]
 refine wpAny_bind ?_
 unfold setFlight
 refine wpAny_bind (wpAny_field e1 e4 e5 ?_)
 rw [if_pos (show (Value.ref T != Value.none) = true from by simp)]
 refine wpAny_setField e7 e8 hz (wpAny_throw (h _ ⟨oe, vs, _, _, _, (Heap.get?_update_other _ _ e6).trans e1, rfl, e3, e4, e5, e6, Heap.get?_update_self _ e7 (Obj.isFreed_of_fields (Obj.data_mapFields e8 _)), Obj.data_mapFields e8 _, by simp [hz]; rfl, rl⟩ fun b o hb q => (Heap.get?_update_other _ _ (Ne.symm hb)).trans q))
end
theorem t8 {prog : Program} {w : World} {A : Around} {R : Result -> Shared -> Prop} {s : Shared} {elt target iter : Expr} {ifs : List Expr} {scope : Scope} {pos : Pos} {it acc : Value} {env : Env} (I : Nat -> Shared -> Prop)
 (turn : ∀ n s, I n s -> wpAny (model prog w) A (pyNext it) (fun r s₁ => match r with
  | none => R (.ok .next) s₁
  | some v => wpAny (model prog w) A (letOwnedTupleGo target it v) (fun _ um => wpAny (model prog w) A (assign target env v) (fun _ s₂ =>
   wpAny (model prog w) A (forIn ifs true fun c r => if r = true then do let ok <- isTrue c env (eval c env); pure (ForInStep.yield ok) else pure (ForInStep.yield r)) (fun ok s₃ =>
    if ok = true then wpAny (model prog w) A (eval elt env) (fun x s₄ =>
     wpAny (model prog w) A (call (.builtin "list.append") [acc, x]) (fun _ s₅ => ∃ m, m < n /\ I m s₅) (fun _ _ => False) s₄) (notedBy (model prog w) A env fun e s' => R (.error e) s') s₃
    else ∃ m, m < n /\ I m s₃) (fun _ _ => False) s₂) (fun _ _ => False) um) (fun _ _ => False) s₁) (fun _ _ => False) s)
 (n : Nat) (h : I n s) :
 codeAny (model prog w) A (.compLoop (.ListComp elt [⟨target, iter, ifs, 0⟩] scope pos) 0 it acc env) R s := by
 refine codeAny_loop rfl I (fun n s hI => ?_) n h
 show wpAny _ A ((compTurn (.ListComp elt [⟨target, iter, ifs, 0⟩] scope pos) 0 it acc env).onRaise (fun x => do noteFrame x env; theTreesLotGoes x)) _ _ s
 refine wpAny_noted ?_
 rw [compTurn_list]
 refine wpAny_bind (wpAny_standAt (wpAny_bind (wpAny_mono (turn n s hI) (fun r s₁ h₁ => ?_) fun _ _ h' => h'.elim)))
 cases r with
 | none => exact wpAny_pure h₁
 | some v =>
   refine wpAny_bind (wpAny_mono h₁ (fun _ um Ag => ?_) fun _ _ h' => h'.elim)
   refine wpAny_bind (wpAny_mono Ag (fun _ s₂ h₂ => wpAny_bind (wpAny_mono h₂ (fun ok s₃ h₃ => ?_) fun _ _ h' => h'.elim)) fun _ _ h' => h'.elim)
   cases ok with
   | false => exact wpAny_pure ⟨rfl, h₃⟩
   | true =>
     exact wpAny_bind (wpAny_bind (wpAny_mono h₃ (fun x s₄ h₄ => wpAny_bind (wpAny_mono h₄ (fun _ s₅ h₅ => wpAny_pure (wpAny_pure ⟨rfl, h₅⟩)) fun _ _ h' => h'.elim)) fun _ _ h' => h'))
def zC (X : Cx) (E : XK) : Prop := ∀ (pins : List (Addr × Obj)) (σ : St) (H : Hp) (s : Shared) (fp : List Addr) (a T C : Addr) (od : Option Addr) (H' : Hp) (s' : Shared), Inv X pins σ H s -> (∀ b ∈ fp, kj X pins H b) -> s'.os = s.os -> AllBare s'.gens ->
 Un (kc X.stack) fp H H' s.heap s'.heap -> lY X.prog X.w H' s'.heap -> E8 s'.heap a T (.ref C) od -> X.cJ.heap.get? a = none -> X.cJ.heap.get? T = none -> H' a = none -> H' T = none -> E (.ref C) od H' -> X.xe (.ref a) s'
section
variable {P : Program} {w : World} {K : PySem.W.Frag} {mg : Str -> Option Value} {base : Heap} {N : List Str} {qual : Str} {scope : Scope} {f : Addr} {cd : Value} {A : Around} {outer : List Env} {s0 : Shared} {H0 : Hp} {E : XK}
theorem EJ : zC (gE (nX P w) P w K mg base N qual scope f cd A outer s0 H0 E) E := by
 intro pins σ H s fp a T C od H' s' I hf os bare un a9 tr na nT ha hT hE
 have I' := I.p0 (ch := fp) os un a9 bare (fun b hb => ⟨(hf b hb).2.2.2.1, (hf b hb).2.1, (hf b hb).2.2.2.2.1, (hf b hb).2.2.2.2.2⟩)
 show wpAny _ _ (leaving _ (.ref a)) _ _ s'
 refine wpAny_bind (wa (base := base) I'.ok.frames I'.stack rfl tr fun h2 T2 BA wN lv => ?_)
 have d' : s'.heap.get? T2 = none -> s0.heap.get? T2 = none := fun z => by
  cases q : s0.heap.get? T2 with
  | none => rfl
  | some o =>
    obtain ⟨o2, z2⟩ := I'.base.there T2 o q (by intro y; cases y)
    rw [z] at z2
    cases z2
 refine qy I' lv (fun b hb => ?_) BA ha ?_ na ?_ hE
 . have : b = a \/ b = T := by simpa using hb
   rcases this with rfl | rfl
   . exact ⟨ha, na⟩
   . exact ⟨hT, nT⟩
 . rcases wN with rfl | z
   . exact hT
   . exact I'.a9.dead z
 . rcases wN with rfl | z
   . exact nT
   . exact d' z
end
section
variable {X : Cx} {pins : List (Addr × Obj)} {σ : St} {H : Hp} {s : Shared} {T M : List Str} {scope : Scope} {cl : List (Str × Addr)} {fp : List Addr} {g : TG} {tc : TT} {te : TE} {tg elt iter : Expr} {ifs : List Expr} {pos : Pos} {EX : XK} {wi : TI}
theorem Bd {C : Addr} {pn : List (Addr × Obj)} {N : List Str} {use : Option (Value -> Sem Unit)} {Q : Value -> Shared -> Prop} {acc : Value} (tR : X.stack = X.env :: X.outer /\ X.env.frame = some X.env.locals /\ X.ex = []) (hP : zC X EX) (I : Inv X pins σ H s) (hf : ∀ b ∈ fp, kj X pins H b) (hC : s.heap.objs.size <= C) (Lc : ∀ b ∈ fp, ∃ o, (b, o) ∈ pn)
 (h1 : ∀ x c, cl.lookup x = some c -> X.env.cells.lookup x = some c) :
 cV (nX X.prog X.w) ((cg X N scope cl C s H fp).pw (notedBy (model X.prog X.w) X.A (compEnvC scope cl C X.env) fun e s' => compPost (model X.prog X.w) X.A X.xe use Q acc C (.error e) s') pn) (fun _ => EX) := by
 intro qS σ' H1 s1 e s2 I1 ⟨a, T, Cc, od, H2, he, os, bare, un, a9, tr, na, nT, ha, hT, hE⟩
 subst he
 obtain ⟨LY, Kh, NR⟩ := tR
 have I2 := I1.p0 (ch := []) os un a9 bare (fun b z => nomatch z)
 have dead : ∀ b, s1.heap.get? b = none -> s.heap.get? b = none := fun b z => by
  cases q : s.heap.get? b with
  | none => rfl
  | some o =>
    by_cases hb : b ∈ fp
    . obtain ⟨o2, m⟩ := Lc b hb
      have := (I1.pin (b, o2) (List.mem_append_left _ m)).1
      rw [z] at this
      cases this
    . obtain ⟨o2, z2⟩ := I1.base.there b o q hb
      rw [z] at z2
      cases z2
 have ED : ∀ b, s.heap.get? b = none -> X.cJ.heap.get? b = none := fun b z => by
  cases q : X.cJ.heap.get? b with
  | none => rfl
  | some o =>
    obtain ⟨o2, z2⟩ := I.base.there b o q (by rw [NR]; intro y; cases y)
    rw [z] at z2
    cases z2
 have up : ∀ b o, s1.heap.get? b = some o -> ∃ o2, s2.heap.get? b = some o2 := fun b o e => un.there b o e (fun z => nomatch z)
 have LQ : s2.heap.FunFrames X.base (X.env :: X.outer) := by rw [<- LY]; exact I2.stack
 have og : X.A.frames = some (X.env :: X.outer) := by rw [<- LY]; exact I.ok.frames
 show wpAny (model X.prog X.w) X.A (noteFrame (.ref a) X.env) _ _ s2
 refine uk (base := X.base) og LQ Kh tr fun h3 T3 BH Hv lv => ?_
 have nC : ∀ b, s1.heap.get? b = none -> b ≠ C := fun b z e => by
  obtain ⟨m, ⟨o, es, ep, ho, _⟩, _⟩ := I1.loc
  have pC : s1.heap.get? C = some o := ho
  rw [e, pC] at z
  cases z
 have Oy : Lv X.stack [a, T] s2.heap h3 := by rw [LY]; exact lv
 have I3 := I2.lv (h' := h3) (t' := s2.toks) Oy (fun b hb => by
  have Nr : b = a \/ b = T := by simpa using hb
  have nb : s1.heap.get? b = none := by rcases Nr with rfl | rfl <;> assumption
  refine ⟨by rcases Nr with rfl | rfl <;> assumption, dead b nb, nC b nb, fun x c e z => ?_, fun p hp z => ?_⟩
  . obtain ⟨v, o, ho, _⟩ := I1.cell x c e
    rw [z, nb] at ho
    cases ho
  . have := (I1.pin p hp).1
    rw [z, nb] at this
    cases this)
 obtain ⟨m3, n3, _⟩ := I3.loc
 have Ko : H2 T3 = none /\ s.heap.get? T3 = none := by
  rcases Hv with rfl | z
  . exact ⟨hT, dead _ nT⟩
  . refine ⟨I2.a9.dead z, dead _ ?_⟩
    cases q : s1.heap.get? T3 with
    | none => rfl
    | some o =>
      obtain ⟨o2, z2⟩ := up _ _ q
      rw [z] at z2
      cases z2
 have aC : a ≠ C := nC a na
 have O1 : T3 ≠ C := by
  rcases Hv with rfl | z
  . exact nC _ nT
  . intro e
    obtain ⟨m, ⟨o, es, ep, ho, _⟩, _⟩ := I2.loc
    have pC : s2.heap.get? C = some o := ho
    rw [e, pC] at z
    cases z
 have main : ∀ h', Heap.SameBut C h3 h' -> ∀ qI : Env, qI.locals = C -> wpAny (model X.prog X.w) X.A (PySem.passOn "comprehension.variables-let-go" (.ref a) qI : Sem Value) (fun _ _ => False) X.xe { s2 with heap := h' } := fun h' DT qI _ => by
  have GP : E8 h' a T3 (.ref Cc) od := by
   obtain ⟨oe, vs, oT, ts, v, e1, e2, e3, e4, e5, e6, e7, e8, e9, rl⟩ := BH
   exact ⟨oe, vs, oT, ts, v, (DT.2 a aC).trans e1, e2, e3, e4, e5, e6, (DT.2 T3 O1).trans e7, e8, e9, rl⟩
  refine Ae (s := { s2 with heap := h' }) GP fun h5 KD kp => ?_
  have Kt : ∀ b o, b ≠ C -> b ≠ T3 -> h3.get? b = some o -> h5.get? b = some o := fun b o n1 n2 e => kp b o n2 ((DT.2 b n1).trans e)
  have old : ∀ b o, s.heap.get? b = some o -> b ≠ C /\ b ≠ T3 := fun b o e => ⟨Nat.ne_of_lt (Nat.lt_of_lt_of_le (Heap.lt_size e) hC), fun z => by rw [z, Ko.2] at e; cases e⟩
  have U : Un (kc X.stack) fp H H2 s.heap h3 := I3.base
  refine hP pins σ H s fp a T3 Cc od H2 _ I hf I3.os I3.bare ⟨fun b o e n hb hx => ?_, fun b o e n hb hx => ?_, U.free, fun b o e hx => ?_, U.ke, U.jE, U.lI⟩ (fun b u e => ?_) KD (ED _ (dead _ na)) (ED _ Ko.2) ha Ko.1 hE
  . exact Kt b o (old b o e).1 (old b o e).2 (U.keep b o e n hb hx)
  . obtain ⟨sl, z⟩ := U.slot b o e n hb hx
    exact ⟨sl, Kt b _ (old b o e).1 (old b o e).2 z⟩
  . obtain ⟨o2, z⟩ := U.there b o e hx
    exact ⟨o2, Kt b _ (old b o e).1 (old b o e).2 z⟩
  . refine (I3.a9 b u e).pF (fun c v hc q => ?_) (fun _ q => q) fun _ _ q => q
    have sO : H2 c ≠ none := by
     rcases hc with rfl | hc
     . rw [e]; intro z; cases z
     . rw [hc]; intro z; cases z
    exact Kt c v (fun z => sO (z ▸ I3.free)) (fun z => sO (z ▸ Ko.1)) q
 cases use <;> exact ⟨m3, n3, main⟩
theorem BM {it : Addr} {tn : Nat -> Heap -> Prop} {J : It} {RR : Value -> Addr -> Result -> Shared -> Prop} {Fin : List V -> Hp -> Prop} {E : Value -> Shared -> Prop} {EX : XK}
 (hN : fY X T M scope) (jX : X.calm = true) (h1 : ∀ x c, cl.lookup x = some c -> X.env.cells.lookup x = some c) (h2 : ∀ x ∈ scope.names, x.2 = .free -> ∃ c, cl.lookup x.1 = some c)
 (hg : ∀ cl C s H fp, PG (cg X (T ++ M) scope cl C s H fp) tg g) (L8 : ∀ v H Q, g v (List.replicate T.length none ++ σ) H Q -> g v (List.replicate T.length none ++ σ) H fun σ2 H2 => Q σ2 H2 /\ T.length + σ.length = σ2.length /\ σ2.drop T.length = σ)
 (hc : ∀ cl C s H fp, Hh (cg X (T ++ M) scope cl C s H fp) ifs tc) (he : ∀ cl C s H fp xe pn, cV (nX X.prog X.w) ((cg X (T ++ M) scope cl C s H fp).pw xe pn) (fun _ => EX) -> PE ((cg X (T ++ M) scope cl C s H fp).pw xe pn) elt te)
 (hX : ∀ D C pn, s.heap.objs.size <= C -> (∀ b ∈ fp, ∃ o, (b, o) ∈ pn) -> cV (nX X.prog X.w) ((cg X (T ++ M) scope cl C s H fp).pw (notedBy (model X.prog X.w) X.A (compEnvC scope cl C X.env) fun e s' => RR D C (.error e) s') pn) (fun _ => EX))
 (I : Inv X pins σ H s) (Tn : Turn X.prog X.w X.K tg J fp it tn) (st : tn 0 s.heap) (hf : ∀ b ∈ fp, kj X pins H b) (hW : Ei T.length g tc te Fin σ J H)
 (hR : ∀ D C s' H' acc m, s.heap.objs.size <= D -> s.heap.objs.size <= C -> C ≠ D -> s'.heap.Ns C m -> H' C = none -> H' D = none -> Inv X pins σ (upd H' D (.lst acc)) s' -> Fin acc H' -> RR (.ref D) C (.ok .next) s') :
 wpAny (model X.prog X.w) X.A (newList []) (fun acc s₃ => wpAny (model X.prog X.w) X.A (newFunctionEnv scope X.env.globals cl [] X.env.qual none .none (some X.env)) (fun qI s₄ =>
  codeAny (model X.prog X.w) X.A (.compStart (.ListComp elt [⟨tg, iter, ifs, 0⟩] scope pos) 0 (.ref it) acc { qI with scope := relabel scope X.env }) (RR acc qI.locals) s₄) E s₃) E s := by
 refine wpAny_newObj_type (wpAny_newFunctionEnv hN.cell (by intro y hy; simp at hy) (fun h₁ lF iw => ?_) hN.kind)
 dsimp only at lF iw ⊢
 generalize Gu : s.heap.push { cls := .type "list", dict := none, data := .seq ([] : List Value).toArray } = H2 at lF iw ⊢
 have hC : H2.objs.size = s.heap.objs.size + 1 := by rw [<- Gu, Heap.size_push]
 have Ca : s.heap.objs.size ≠ H2.objs.size := by rw [hC]; exact Nat.ne_of_lt (Nat.lt_succ_self _)
 have ux : s.heap.objs.size <= H2.objs.size := by rw [hC]; exact Nat.le_succ _
 have C2 : ∀ b ∈ fp, b < s.heap.objs.size := fun b hb => by obtain ⟨o, ho, _⟩ := Tn.obj _ _ st b hb; exact Heap.lt_size ho
 have old : ∀ b o, s.heap.get? b = some o -> h₁.get? b = some o := fun b o e => iw.extBut b o (Nat.ne_of_lt (Nat.lt_of_lt_of_le (Heap.lt_size e) ux)) (Heap.get?_push_of_some _ (Gu ▸ Heap.get?_push_of_some _ e))
 have iU : h₁.PlainList s.heap.objs.size #[] := ⟨_, iw.extBut _ _ Ca (Heap.get?_push_of_some _ (Gu ▸ Heap.get?_push_size _ rfl))⟩
 generalize wI : s.heap.objs.size = D at *
 generalize HL : H2.objs.size = C at *
 have I0 : Inv (cg X (T ++ M) scope cl C s H fp) [] (List.replicate T.length none ++ σ) H { s with heap := h₁, toks := s.toks + ([] : List (Str × Value)).length } :=
  uq I hN h1 h2 (by rw [wI]; exact ux) hf (by rw [wI]; exact C2) lF old
 have Ka : tn 0 h₁ := Tn.keep _ _ _ st fun b _ o e => old b o e
 obtain ⟨W, ⟨m0, w0⟩, turn⟩ := hW
 have Io : ∀ b ∈ fp, b ≠ D := fun b hb => Nat.ne_of_lt (C2 b hb)
 have stat : ∀ {H' : Hp} {pl : List (Addr × Obj)}, (∀ b ∈ fp, H' b = none) -> (∀ p ∈ pl, p.1 = D) -> ∀ b ∈ fp, kj (cg X (T ++ M) scope cl C s H fp) pl H' b := fun {H' pl} hn hp b hb => by
  have ok := I0.ok
  refine ⟨hn b hb, (ok.BE b hb).1, ok.rD b hb, .inl hb, (ok.BE b hb).2, fun p hq => ?_⟩
  have BQ : p ∈ pl := hq
  rw [hp p BQ]; exact Ne.symm (Io b hb)
 have loop : codeAny (model X.prog X.w) X.A (.compLoop (.ListComp elt [⟨tg, iter, ifs, 0⟩] scope pos) 0 (.ref it) (.ref D) (compEnvC scope cl C X.env)) (RR (.ref D) C) { s with heap := h₁, toks := s.toks + ([] : List (Str × Value)).length } := by
  refine t8 (fun n s' => ∃ i acc H' aU, Inv (cg X (T ++ M) scope cl C s H fp) [] (List.replicate T.length none ++ σ) H' s' /\ tn i s'.heap /\ (∀ b ∈ fp, H' b = none) /\ s'.heap.PlainList D aU /\ H' D = none /\ Vals acc aU.toList /\ acc.length <= sizeLine /\ W i n acc H') ?_ m0
   ⟨0, [], H, #[], I0, Ka, fun b hb => (hf b hb).1, iU, I.a9.fresh (by rw [wI]; exact Nat.le_refl _), .nil, Nat.zero_le _, w0⟩
  rintro n s3 ⟨i, acc, H3, aU, I3, Eu, Ec, ⟨nn, ho⟩, GR, hv, hlen, w3⟩
  have Gs : ∀ {H'} {s'} {σ'} {o : Obj}, Inv (cg X (T ++ M) scope cl C s H fp) [] σ' H' s' -> s'.heap.get? D = some o -> (∀ v, o.data ≠ .cell v) -> H' D = none -> Inv (cg X (T ++ M) scope cl C s H fp) [(D, o)] σ' H' s' := fun {H' s' σ' o} I' e d hn => by
   refine I'.gB fun p hp => ?_
   have e' : p = (D, o) := by simpa using hp
   subst e'
   refine ⟨e, hn, Ca, fun z => ?_, d⟩
   have z' : D ∈ kc X.stack := z
   obtain ⟨_, o', pC, _⟩ := I.stack.mem z'
   exact absurd (Heap.lt_size pC) (by rw [wI]; exact Nat.lt_irrefl _)
  have JB := Gs I3 ho (fun v z => by cases z) GR
  rcases turn i n acc H3 w3 with ⟨stop, fin⟩ | ⟨go, hl, step⟩
  . refine bK (Tn.done (cg X (T ++ M) scope cl C s H fp) rfl rfl rfl jX i _ s3 _ H3 _ JB (stat Ec (by simp)) Eu stop) fun r s4 ⟨hr, I4⟩ => ?_
    subst hr
    have e4 := (I4.pin (D, _) (List.mem_append_right _ List.mem_cons_self)).1
    have F1 : Inv (cg X (T ++ M) scope cl C s H fp) [] (List.replicate T.length none ++ σ) H3 s4 := I4.gB fun p hp => nomatch hp
    obtain ⟨m4, n4, _⟩ := F1.loc
    exact hR D C s4 H3 acc m4 (Nat.le_refl _) ux (Ne.symm Ca) n4 F1.free GR (w9 I F1 hf (by rw [wI]; exact Nat.le_refl _) GR hlen hv (by simpa using e4)) fin
  . refine bK (Tn.item (cg X (T ++ M) scope cl C s H fp) rfl rfl rfl jX i _ s3 _ H3 _ JB (stat Ec (by simp)) Eu go) fun r s4 ⟨u, hr, h4⟩ => ?_
    subst hr
    refine bK h4 fun _ s5 ⟨x, H5, I5, r5, y5, zf, HJ⟩ => ?_
    have HK := I5.pinned (stat HJ (by simp)) (Tn.obj _ _ zf)
    refine bK (hg _ _ _ _ _ _ s5 _ H5 x u _ HK r5 (L8 _ _ _ (step x H5 y5))) fun _ s6 ⟨σ6, H6, I6, q6, MD, K3⟩ => ?_
    refine bK (hc _ _ _ _ _ _ s6 σ6 H6 _ I6 q6) fun b s7 ⟨H7, I7, q7⟩ => ?_
    have rest : ∀ {s8 : Shared} {H8 : Hp}, Inv (cg X (T ++ M) scope cl C s H fp) ([(D, _)] ++ lH fp s5.heap) σ6 H8 s8 -> tn (i + 1) s8.heap /\ (∀ b ∈ fp, H8 b = none) /\ s8.heap.PlainList D aU /\ H8 D = none /\ Inv (cg X (T ++ M) scope cl C s H fp) [] (List.replicate T.length none ++ σ) H8 s8 := fun {s8 H8} I8 => by
     refine ⟨Tn.keep _ _ _ zf fun b hb o e => (I8.pin (b, o) (List.mem_append_right _ (List.mem_append_right _ (dI hb e)))).1, fun b hb => ?_, ⟨nn, (I8.pin (D, _) (List.mem_append_right _ (List.mem_append_left _ List.mem_cons_self))).1⟩, (I8.pin (D, _) (List.mem_append_right _ (List.mem_append_left _ List.mem_cons_self))).2.1, (I8.forget T.length MD K3).gB fun p hp => nomatch hp⟩
     obtain ⟨o, e, d⟩ := Tn.obj _ _ zf b hb
     exact (I8.pin (b, o) (List.mem_append_right _ (List.mem_append_right _ (dI hb e)))).2.1
    cases b with
    | false =>
      obtain ⟨m', hm, w7⟩ := q7
      obtain ⟨a1, a2, a3, a4, a5⟩ := rest I7
      exact ⟨m', hm, i + 1, acc, H7, aU, a5, a1, a2, a3, a4, hv, hlen, w7⟩
    | true =>
      refine bK (he _ _ _ _ _ _ _ (hX (.ref D) C ([(D, _)] ++ lH fp s5.heap) ux fun b hb => (Tn.obj _ _ zf b hb).elim fun o e => ⟨o, List.mem_append_right _ (dI hb e.1)⟩) [] s7 σ6 H7 _ I7.AI q7) fun y s8 ⟨yv, H8, OL, r8, m', hm, w8⟩ => ?_
      have I8 := OL.gL
      obtain ⟨a1, a2, a3, a4, a5⟩ := rest I8
      have hsz : aU.size <= sizeLine := by have := hv.length; simp at this; omega
      refine wpAny_list_append_plain (hsz := hsz) a3 fun h9 Mg Hy => ?_
      refine ⟨m', hm, i + 1, acc ++ [yv], H8, aU.push y, ?_, ?_, a2, Mg, a4, ?_, by simp; omega, w8⟩
      . exact a5.turned (t' := s8.toks) (it := D) (fun b o hb e => (Hy.2 b hb).trans e) a4 Ca (.inr (by show s.heap.objs.size <= D; rw [wI]; exact Nat.le_refl _)) (fun x c e z => by
         obtain ⟨v, o, ho, _⟩ := I.cell x c (h1 x c e)
         exact absurd (Heap.lt_size ho) (by rw [wI, z]; exact Nat.lt_irrefl _)) (fun p hp => nomatch hp)
      . exact Tn.keep _ _ _ a1 fun b hb o e => (Hy.2 b (Io b hb)).trans e
      . simpa using Vals.append hv (.cons r8 .nil)
 exact codeAny_compStart_list loop (Tn.self _ _ _ _ _ Ka loop)
theorem Be (hN : fY X T M scope) (jX : X.calm = true) (hi : PI X tg iter wi) (hg : ∀ cl C s H fp, PG (cg X (T ++ M) scope cl C s H fp) tg g) (HB : Cb T.length g)
 (hc : ∀ cl C s H fp, Hh (cg X (T ++ M) scope cl C s H fp) ifs tc) (tR : X.stack = X.env :: X.outer /\ X.env.frame = some X.env.locals /\ X.ex = []) (hP : zC X EX)
 (he : ∀ cl C s H fp xe pn, cV (nX X.prog X.w) ((cg X (T ++ M) scope cl C s H fp).pw xe pn) (fun _ => EX) -> PE ((cg X (T ++ M) scope cl C s H fp).pw xe pn) elt te)
 (hs : ∀ x, foldedSetIterable iter X.env x = pure x := by intro _; rfl) : PE X (.ListComp elt [⟨tg, iter, ifs, 0⟩] scope pos) (He T.length wi g tc te) := by
 intro pins s σ H Q I h
 obtain ⟨cl, EL, h1, h2⟩ := lD (scope := scope) (env := X.env) fun x hx hf => I.ok.has x.1 (hN.free x hx hf)
 rw [eval_ListComp]
 refine wpAny_comprehension_free (use := none) rfl hs EL hN.kind hN.names (bK (hi pins s σ H _ I h) fun xv s1 HA => bK HA fun IG s2 JC => ?_)
 obtain ⟨it, fp, tn, J, H2, e, I2, Tn, st, hf, hW⟩ := JC
 subst e
 refine BM (RR := fun acc C => compPost (model X.prog X.w) X.A X.xe none (EP X pins σ Q) acc C) hN jX h1 h2 hg (fun v H Q q => ?_) hc he (fun D C pn hC Lc => Bd tR hP I2 hf hC Lc h1) I2 Tn st hf hW ?_
 . have := HB v (List.replicate T.length none) σ H Q (by simp) q
   refine (by
    have e : (fun (σ2 : St) (H2 : Hp) => Q σ2 H2 /\ T.length + σ.length = σ2.length /\ σ2.drop T.length = σ) = fun σ2 H2 => Q σ2 H2 /\ ∃ τ' : St, τ'.length = T.length /\ σ2 = τ' ++ σ := by
     funext σ2 H2
     refine propext ⟨fun ⟨a, b, c⟩ => ⟨a, σ2.take T.length, by rw [List.length_take]; omega, by rw [<- c, List.take_append_drop]⟩, fun ⟨a, τ', b, c⟩ => ⟨a, by rw [c, List.length_append, b], by rw [c, <- b, List.drop_left]⟩⟩
    rw [e]; exact this)
 . intro D C s' H' acc m hD hC kh hn IB HH Ib fin
   refine ⟨m, hn, fun h' DT => ⟨.ref D, _, ?_, rfl, fin D HH⟩⟩
   exact Ib.turned (t' := s'.toks) (it := C) (fun b o hb e => (DT.2 b hb).trans e) (by rw [aJ kh]; exact IB) (Nat.ne_of_gt (Nat.lt_of_lt_of_le I2.lt hC)) (.inr (Nat.le_trans I2.sz hC)) (fun x c e z => by
    obtain ⟨v, q⟩ := I2.cell x c e
    exact absurd (Nat.lt_of_lt_of_le q.lt (by rw [z]; exact hC)) (Nat.lt_irrefl _)) (fun p hp z => absurd (Nat.lt_of_lt_of_le (Heap.lt_size (I2.pin p hp).1) (by rw [z]; exact hC)) (Nat.lt_irrefl _))
end
theorem qG : entryFor table "proto.unchain" = some Builtin.«proto.unchain» := entryFor_of_fast (by kernel_rfl)
section
variable {prog : Program} {w : World} {A : Around} {E : Value -> Shared -> Prop} {s : Shared} {env : Env}
variable {nm q : Str} {C N : Addr} {bs bm CK : List Value} {hdct : Bool} {sn : List Str} {sub : List Value} {ab : Bool} {col : Option Bool} {dd : Option Addr} {k0 k1 k2 k3 k5 : Option Value} {newId : String}
theorem yb {x : Sem Value} {Q : Flow -> Shared -> Prop} {hd : Addr} {pos : Pos} (qk : bm.contains (.type "BaseException") = true) (hh : A.handled = some (.ref hd))
 (h : wpAny (model prog w) A x (fun v s₁ => ∃ e t oh hs, v = .ref e /\ s₁.heap.get? C = some (excClassObj nm q C N bs bm hdct sn sub ab col dd k0 k1 k2 k3 k5 newId) /\ e ≠ hd /\ e ≠ C /\ s₁.heap.get? hd = some oh /\ oh.data = .fields hs /\ hs[2]? = some .none /\
  s₁.heap.get? e = some { cls := .ref C, data := .fields #[.ref t, .none, .none, .none, .bool false, .none] } /\ ∀ h', (∀ b o, b ≠ e -> s₁.heap.get? b = some o -> h'.get? b = some o) -> h'.get? e = some { cls := .ref C, data := .fields #[.ref t, .none, .ref hd, .none, .bool true, .none] } -> E (.ref e) { s₁ with heap := h' }) E s) :
 wpAny (model prog w) A (raiseStmt env (some x) (some (pure .none >>= fun v => standAt pos >>= fun _ => pure v))) Q E s := by
 have NZ : (Value.ref C :: bm).contains (.type "BaseException") = true := by rw [List.contains_cons, qk, Bool.or_true]
 unfold raiseStmt
 refine wpAny_bind (wpAny_mono h (fun v s₁ h₁ => ?_) fun _ _ x => x)
 obtain ⟨e, t, oh, hs, rfl, hC, ne, HM, e1, e2, e3, he, hE⟩ := h₁
 obtain ⟨hp, g, d, tk, os⟩ := s₁
 repeat (first | with_reducible refine wpAny_loadPart_at he ?_ | with_reducible refine wpAny_loadPart_at hC ?_ | (with_reducible refine wpAny_isSubtype_exc hC ?_; rw [NZ]) | wp_step)
 generalize hz : (hp.update e (Obj.mapFields fun x => x.setIfInBounds 3 Value.none)).update e (Obj.mapFields fun x => x.setIfInBounds 4 (Value.bool true)) = h2
 have la : ∀ b, b ≠ e -> h2.get? b = hp.get? b := fun b hb => by
  rw [<- hz, Heap.get?_update_other _ _ (Ne.symm hb), Heap.get?_update_other _ _ (Ne.symm hb)]
 have MU : h2.get? e = some { cls := .ref C, data := .fields #[.ref t, .none, .none, .none, .bool true, .none] } := by
  rw [<- hz, Heap.get?_update_self _ (Heap.get?_update_self _ he rfl) rfl]
  rfl
 simp only [raiseNew]
 refine wpAny_bind (wpAny_handled ?_)
 rw [hh]
 have kh : (Value.ref hd != Value.ref e) = true := by simpa using Ne.symm ne
 dsimp only
 rw [if_pos kh]
 refine wpAny_bind (wpAny_holding (wpAny_runValue (codeAny_builtin qG ?_)))
 show wpAny _ _ (field (.ref hd) 2 >>= _) _ _ _
 refine wpAny_bind (wpAny_field ((la hd (Ne.symm ne)).trans e1) e2 e3 ?_)
 rw [if_pos (by rfl)]
 refine wpAny_pure ?_
 refine wpAny_bind (show wpAny _ _ (setField (.ref e) 2 (.ref hd)) _ _ _ from wpAny_setField MU rfl (by simp) (wpAny_throw ?_))
 refine hE _ (fun b o hb z => (Heap.get?_update_other _ _ (Ne.symm hb)).trans ((la b hb).trans z)) ?_
 rw [Heap.get?_update_self _ MU rfl]
 rfl
theorem rp {B zi : String} (F : ExcBaseFacts B newId zi CK) {mN : Str -> Option Value} {x : Str} {np dc pos kp : Pos} {kx : Nat} {args : List Expr} {Q : Flow -> Shared -> Prop} {hd : Addr}
 (qk : bm.contains (.type "BaseException") = true) (hh : A.handled = some (.ref hd)) (lN : (backTo dc (starEach args env)).any (·.1) = false) (Ee : mN "__init__" = none)
 (h : wpAny (model prog w) A (eval (.Name x np) env) (fun f s₁ => f = .ref C /\ wpAny (model prog w) A (evalArgs (.ref C) true (backTo dc (starEach args env)) [])
  (fun a s₂ => a.kw = [] /\ a.pos.length <= sizeLine /\ s₂.heap.get? C = some (excClassObj nm q C N bs bm hdct sn sub ab col dd k0 k1 k2 k3 k5 newId) /\ s₂.heap.Ns N mN /\ OwnTail s₂.heap CK bm /\ (∃ oh hs, s₂.heap.get? hd = some oh /\ oh.data = .fields hs /\ hs[2]? = some .none) /\
   ∀ h' e t, s₂.heap.get? e = none -> (∀ b o, s₂.heap.get? b = some o -> h'.get? b = some o) -> h'.get? e = some { cls := .ref C, data := .fields #[.ref t, .none, .ref hd, .none, .bool true, .none] } -> E (.ref e) { s₂ with heap := h' }) E s₁) E s) :
 wpAny (model prog w) A (exec (.Raise (some (.Call (.Name x np) args [] dc)) (some (.Constant .none kx kp)) pos) env) Q E s := by
 rw [arm_exec_Raise]
 refine wpAny_bind (wpAny_standAt ?_)
 show wpAny _ _ (raiseStmt env (some (eval (.Call (.Name x np) args [] dc) env >>= fun v => standAt pos >>= fun _ => pure v)) (some (pure Value.none >>= fun v => standAt pos >>= fun _ => pure v))) _ _ _
 refine yb (C := C) (nm := nm) (q := q) (N := N) (bs := bs) (bm := bm) (hdct := hdct) (sn := sn) (sub := sub) (ab := ab) (col := col) (dd := dd) (k0 := k0) (k1 := k1) (k2 := k2) (k3 := k3) (k5 := k5) (newId := newId) qk hh (wpAny_bind (wpAny_mono (wpAny_Call_ofName (wpAny_mono h (fun f s₁ h₁ => ?_) fun _ _ x => x)) (fun v s₃ h₃ => wpAny_bind (wpAny_standAt (wpAny_pure h₃))) fun _ _ x => x))
 obtain ⟨rfl, h₁⟩ := h₁
 unfold callWith
 refine wpAny_bind (wpAny_holding (wpAny_mono h₁ (fun a s₂ h₂ => wpAny_bind (wpAny_standAt ?_)) fun _ _ x => x))
 obtain ⟨apos, OA⟩ := a
 obtain ⟨OG, hlen, hC, hn, T, ⟨oh, hs, y1, y2, y3⟩, h₂⟩ := h₂
 obtain rfl : OA = [] := OG
 obtain ⟨hp, g, d, tk, os⟩ := s₂
 simp only [lN]
 refine wpAny_bind (wpAny_keeperOf_exc hC ?_)
 refine wpAny_bind (wpAny_call_exc_subT (hrest := hlen) F T hC hn Ee fun h' e hm => wpAny_bind (wpAny_holding (wpAny_point (wpAny_pure ?_))))
 obtain ⟨t, ht, _, _⟩ := hm.there
 refine ⟨e, t, oh, hs, rfl, hm.keeps _ _ hC, fun z => ?_, fun z => ?_, hm.keeps _ _ y1, y2, y3, ht, fun h3 k3 e3 => h₂ h3 e t hm.new (fun b o z => k3 b o (fun y => ?_) (hm.keeps _ _ z)) e3⟩
 . have := hm.new
   rw [z, y1] at this
   cases this
 . have := hm.new
   rw [z, hC] at this
   cases this
 . have := hm.new
   rw [<- y, z] at this
   cases this
end
def vF (h : Heap) (a T : Addr) (c : Value) (od : Option Addr) : Prop := ∃ oe vs oT ts, h.get? a = some oe /\ oe.cls = c /\ oe.dict = od /\ oe.data = .fields vs /\ vs[1]? = some (.ref T) /\ T ≠ a /\ h.get? T = some oT /\ oT.data = .fields ts /\ ts[3]? = some .none /\ True
section
variable {M : Model} {A : Around} {E : Value -> Shared -> Prop} {s : Shared} {env : Env} {outer : List Env} {L a T : Addr} {c : Value} {od : Option Addr} {base : Heap} {Q : Unit -> Shared -> Prop}
theorem rF {oe : Obj} {vs : Array Value} {head : Value} {GV : Bool} (og : A.frames = some (env :: outer)) (hl : s.heap.FunFrames base (env :: outer)) (hf : env.frame = some L) (he : s.heap.get? a = some oe) (A4 : oe.dict = od) (hd : oe.data = .fields vs) (hsz : 1 < vs.size) (DJ : True)
 (h : ∀ h' T', vF h' a T' oe.cls od -> s.heap.get? T' = none -> Lv (env :: outer) [a] s.heap h' -> Q () { s with heap := h' }) :
 wpAny M A (do let x <- frameOf env; let pl <- entryPlaceOf L GV; let b <- EntryCells.newEntry head x .none (rawInt L) .none pl; setField (.ref a) 1 b) (fun _ s' => wpAny M A (setFlight (.ref a) none) Q E s') E s := by
 have vh : a ∉ kc (env :: outer) := fun m => by
  obtain ⟨_, o, ho, hn⟩ := hl.mem m
  rw [he] at ho
  cases ho
  exact hn vs hd
 refine wpAny_bind (wpAny_frameOf_fun og hl hf fun h1 s1 => ?_)
 refine wpAny_bind (wpAny_entryPlaceOf fun pl j1 => ?_)
 unfold EntryCells.newEntry newFields
 refine wpAny_bind (wpAny_newObj_type ?_ (j1.sizeOk5 _ _ _ _ _))
 have e1 : h1.get? a = some oe := (s1.2.1 a vh).trans he
 let tb : Obj := { cls := .type "traceback", dict := none, data := .fields ([head, .ref L, .none, rawInt L, .none] ++ (if pl.isEmpty then List.replicate 6 Value.none else pl)).toArray }
 have e2 : (h1.push tb).get? a = some oe := Heap.get?_push_of_some _ e1
 refine wpAny_setField e2 hd hsz ?_
 have yV : h1.objs.size ≠ a := Ne.symm (Nat.ne_of_lt (Heap.lt_size e1))
 have d3 := Obj.data_mapFields hd (·.setIfInBounds 1 (Value.ref h1.objs.size))
 have e3 := Heap.get?_update_self (Obj.mapFields (·.setIfInBounds 1 (Value.ref h1.objs.size))) e2 (Obj.isFreed_of_fields d3)
 have t3 : ((h1.push tb).update a (Obj.mapFields (·.setIfInBounds 1 (Value.ref h1.objs.size)))).get? h1.objs.size = some tb := (Heap.get?_update_other _ _ (Ne.symm yV)).trans (Heap.get?_push_size h1 rfl)
 unfold setFlight
 refine wpAny_bind (wpAny_field e3 d3 (x := .ref h1.objs.size) (by simp [hsz]) ?_)
 rw [if_pos (show (Value.ref h1.objs.size != Value.none) = true from by simp)]
 refine wpAny_setField t3 rfl (by simp only [List.size_toArray, List.length_append, List.length_cons, List.length_nil] <;> omega) (h _ h1.objs.size ?_ ?_ ?_)
 . refine ⟨_, _, _, _, (Heap.get?_update_other _ _ yV).trans e3, Obj.cls_mapFields _ _, ?_, d3, by simp [hsz], yV, Heap.get?_update_self _ t3 (Obj.isFreed_of_fields (Obj.data_mapFields rfl _)), Obj.data_mapFields rfl _, by first | (simp; done) | (rcases j1 with rfl | ⟨_, _, _, _, _, _, _, rfl⟩ <;> simp), trivial⟩
   obtain ⟨c0, d0, Fe, MJ⟩ := oe
   cases Fe <;> first | exact A4 | (cases hd)
 . cases q : s.heap.get? h1.objs.size with
   | none => rfl
   | some o =>
     obtain ⟨sl, z⟩ := s1.2.2 _ o q
     exact absurd (Heap.lt_size z) (Nat.lt_irrefl _)
 . have kp : ∀ b o, b ≠ a -> h1.get? b = some o -> (((h1.push tb).update a (Obj.mapFields (·.setIfInBounds 1 (Value.ref h1.objs.size)))).update h1.objs.size (Obj.mapFields (·.setIfInBounds 3 ((none : Option Addr).elim Value.none fun f => rawInt f)))).get? b = some o := fun b o hb q => by
    rw [Heap.get?_update_other _ _ (Ne.symm (Nat.ne_of_lt (Heap.lt_size q))), Heap.get?_update_other _ _ (Ne.symm hb)]
    exact Heap.get?_push_of_some _ q
   refine ⟨fun b o n1 n2 q => kp b o (by simpa using n2) ((s1.2.1 b n1).trans q), fun b o m q => ?_⟩
   obtain ⟨sl, z⟩ := s1.2.2 b o q
   exact ⟨sl, kp b _ (fun z => vh (z ▸ m)) z⟩
theorem vX (og : A.frames = some (env :: outer)) (hl : s.heap.FunFrames base (env :: outer)) (hf : env.frame = some L) (ht : vF s.heap a T c od)
 (h : ∀ h' T', vF h' a T' c od -> (T' = T \/ s.heap.get? T' = none) -> Lv (env :: outer) [a, T] s.heap h' -> Q () { s with heap := h' }) : wpAny M A (noteFrame (.ref a) env) (fun _ s' => wpAny M A (setFlight (.ref a) none) Q E s') E s := by
 obtain ⟨oe, vs, oT, ts, e1, rfl, e3, e4, e5, e6, e7, e8, e9, rl⟩ := ht
 unfold noteFrame
 simp only [hf]
 refine wpAny_bind (wpAny_field e1 e4 e5 ?_)
 rw [if_pos (show (Value.ref T != Value.none) = true from by simp)]
 refine wpAny_bind (wpAny_field e7 e8 e9 ?_)
 rw [if_neg (show ¬ ((Value.none == rawInt L) = true) from by simp [rawInt])]
 refine wpAny_bind (wpAny_setField e7 e8 (Array.getElem?_eq_some_iff.mp e9).1 ?_)
 have la : ∀ b, b ≠ T -> (s.heap.update T (Obj.mapFields (·.setIfInBounds 3 Value.none))).get? b = s.heap.get? b := fun b hb => Heap.get?_update_other _ _ (Ne.symm hb)
 have nT : ∀ b o, s.heap.get? b = some o -> (∀ vs, o.data ≠ .fields vs) -> b ≠ T := fun b o hb hn z => by
  rw [z, e7] at hb
  cases hb
  exact hn ts e8
 refine rF (s := { s with heap := s.heap.update T (Obj.mapFields (·.setIfInBounds 3 Value.none)) }) og (hl.of_keeps fun b o hb hn => ⟨o, (la b (nT b o hb hn)).trans hb, rfl⟩) hf ((la a (Ne.symm e6)).trans e1) e3 e4 (Array.getElem?_eq_some_iff.mp e5).1 rl fun h' T' t1 t2 lv => h h' T' t1 ?_ ⟨fun b o n1 n2 q => ?_, fun b o m q => ?_⟩
 . by_cases z : T' = T
   . exact .inl z
   . exact .inr ((la T' z).symm.trans t2)
 . have : b ≠ a /\ b ≠ T := by simpa using n2
   exact lv.keep b o n1 (by simpa using this.1) ((la b this.2).trans q)
 . obtain ⟨_, o', q', hn⟩ := hl.mem m
   rw [q] at q'
   cases q'
   exact lv.slot b o m ((la b (nT b o q hn)).trans q)
theorem kl (ht : vF s.heap a T c od) (h : ∀ h', vF h' a T c od -> (∀ b o, b ≠ T -> s.heap.get? b = some o -> h'.get? b = some o) -> Q () { s with heap := h' }) : wpAny M A (setFlight (.ref a) none) Q E s := by
 obtain ⟨oe, vs, oT, ts, e1, rfl, e3, e4, e5, e6, e7, e8, e9, rl⟩ := ht
 have hz := (Array.getElem?_eq_some_iff.mp e9).1
 refine wpAny_setFlight_none e1 e4 e5 e7 e8 hz (h _ ⟨oe, vs, _, _, (Heap.get?_update_other _ _ e6).trans e1, rfl, e3, e4, e5, e6, Heap.get?_update_self _ e7 (Obj.isFreed_of_fields (Obj.data_mapFields e8 _)), Obj.data_mapFields e8 _, by simp [hz], rl⟩ fun b o hb q => (Heap.get?_update_other _ _ (Ne.symm hb)).trans q)
end
def Bz (P : Program) (w : World) : qT := fun outer H s E e s' => ∃ a T C od H', e = .ref a /\ s'.os = s.os /\ AllBare s'.gens /\ Un (kc outer) [] H H' s.heap s'.heap /\ lY P w H' s'.heap /\ vF s'.heap a T (.ref C) od /\ s.heap.get? a = none /\ s.heap.get? T = none /\ H' a = none /\ H' T = none /\ E (.ref C) od H'
section
variable {P : Program} {w : World} {K : PySem.W.Frag} {mg : Str -> Option Value} {base : Heap} {N : List Str} {qual : Str} {scope : Scope} {f : Addr} {cd : Value} {A : Around} {outer : List Env} {s0 : Shared} {H0 : Hp} {E : XK} {CX : qT} {pins : List (Addr × Obj)} {σ : St} {H : Hp} {s : Shared}
theorem uj {a T C : Addr} {od : Option Addr} {S : List Addr} {h' : Heap} (I : Inv (gE CX P w K mg base N qual scope f cd A outer s0 H0 E) pins σ H s) (lv : Lv (gE CX P w K mg base N qual scope f cd A outer s0 H0 E).stack S s.heap h') (hS : ∀ b ∈ S, H b = none /\ s0.heap.get? b = none)
 (tr : vF h' a T (.ref C) od) (ha : H a = none) (hT : H T = none) (na : s0.heap.get? a = none) (nT : s0.heap.get? T = none) (hE : E (.ref C) od H) : Bz P w outer H0 s0 E (.ref a) { s with heap := h' } := by
 have eL : kc (gE CX P w K mg base N qual scope f cd A outer s0 H0 E).stack = s0.heap.objs.size :: kc outer := rfl
 have old : ∀ b o, s0.heap.get? b = some o -> b ∉ S /\ b ≠ s0.heap.objs.size := fun b o e => ⟨fun z => (by rw [(hS b z).2] at e; cases e), Nat.ne_of_lt (Heap.lt_size e)⟩
 refine ⟨a, T, C, od, H, rfl, I.os, I.bare, ⟨fun b o e n hb hx => ?_, fun b o e n hb hx => ?_, fun b o e n hx => I.base.free b o e n hx, fun b o e hx => ?_, I.base.ke, I.base.jE, I.base.lI⟩, fun b u e => ?_, tr, na, nT, ha, hT, hE⟩
 . have z := I.base.keep b o e n hb hx
   exact lv.keep b o (by rw [eL]; simp [(old b o e).2, hb]) (old b o e).1 z
 . obtain ⟨sl, z⟩ := I.base.slot b o e n hb hx
   obtain ⟨EI, z2⟩ := lv.slot b _ (by rw [eL]; exact List.mem_cons_of_mem _ hb) z
   exact ⟨EI, z2⟩
 . obtain ⟨o2, z⟩ := I.base.there b o e hx
   by_cases m : b ∈ kc (gE CX P w K mg base N qual scope f cd A outer s0 H0 E).stack
   . obtain ⟨EI, z2⟩ := lv.slot b _ m z
     exact ⟨_, z2⟩
   . exact ⟨_, lv.keep b o2 m (old b o e).1 z⟩
 . refine (I.a9 b u e).pF (fun c v hc q => ?_) (fun _ q => q) fun _ _ q => q
   have sO : H c ≠ none := by
    rcases hc with rfl | hc
    . rw [e]; intro z; cases z
    . rw [hc]; intro z; cases z
   exact lv.keep c v (fun m => sO (I.nQ c m)) (fun m => sO (hS c m).1) q
end
structure Iy (P : Program) (w : World) (K : PySem.W.Frag) (mg : Str -> Option Value) (base : Heap) (k : Nat) (f : Addr) (ps : List Str) (cU : List V) (sp : Sp) : Prop where
 ex : ∃ (fd : FuncData) (ds : List Value), bf P w K mg base (Bz P w) k f fd ps sp /\ Binds K fd ps ds /\ Vals cU ds
section
variable {X : Cx} {CX : qT} {k : Nat} {f C : Addr} {fd : FuncData} {ps : List Str} {sp : Sp} {cU : List V} {ds : List Value} {E : St -> XK} {x m : Str} {p pos apos : Pos} {e o : Expr} {es : List Expr} {ta : TE} {t : TA}
theorem nz (c : Iy X.prog X.w X.K X.mg X.base k f ps cU sp) (hr : cX k X.A) (hg : Gl X x) (hm : X.mg x = some (.ref f)) (hk : PySem.W.keepIn X.K (.ref f) = true) (hx : cV (Bz X.prog X.w) X E)
 (ha : PA X (e :: es) t) (oj : (x == ("__debug__" : Str)) = false := by decide) (he : starEach (e :: es) X.env = (false, eval e X.env) :: starEach es X.env := by rfl) (j1 : (backTo pos (starEach es X.env)).any (·.1) = false := by rfl) :
 PE X (.Call (.Name x p) (e :: es) [] pos) (su sp cU E t) := by
 obtain ⟨fd, ds, F, hb, hd⟩ := c.ex
 intro pins s σ H Q I h
 refine wpAny_Call_Name_kw (eD I hg hm ?_ oj)
 refine PySem.W.callWith_K (h₀ := X.base) I.ok.mod.BD hk (bK (ha pos pins s σ H _ I h) fun us s1 ⟨vs, H1, I1, r, q⟩ => ⟨I1.jf, ?_⟩) he j1
 exact sY F hr hb hd hx I1 r (gv.out q)
end
section
variable {P : Program} {w : World} {K : PySem.W.Frag} {mg : Str -> Option Value} {base : Heap}
theorem cw.Pk {x qual : Str} {st : Stmt} {f : Addr} {dV : Value} {fd : FuncData} {N ps : List Str} {k : Nat} {sp : Sp} (F : cw K x qual st f dV fd) (S : aG N ps (ak st)) (len : ∀ vs H Q E, sp vs H Q E -> vs.length = ps.length)
 (qe : ∀ (dn : Value) (A : Around) (outer : List Env) (s : Shared) (H : Hp) (vs : List V) (Q : VK) (E : XK), cX k (A.deeper (envOfC qual (ak st) s.heap.objs.size f dn)) -> sp vs H Q E ->
  ∃ t, qM (gE (Bz P w) P w K mg base N qual (ak st) f dn A outer s H E) (fS st) t /\ t { nx := fun _ H' => Q .cj H', rt := Q } (start N vs) H) : bf P w K mg base (Bz P w) (k + 1) f fd ps sp := by
 obtain ⟨oc, od, kV, doc, pm, an, dn, ct, yc, rfl, lk, tQ⟩ := F.ex
 exact Bi lk tQ S len fun A outer s H vs Q E hr qi => qe dn A outer s H vs Q E hr qi
end
section
variable {prog : Program} {w : World} {A : Around} {E : Value -> Shared -> Prop} {s : Shared} {K : PySem.W.Frag} {x C : Addr} {ox : Obj} {name : Str} {v : Value} {cd : ClassData}
end
def vA (a C : Addr) (od : Option Addr) : Heap -> Prop := fun h => ∃ o vs, h.get? a = some o /\ o.cls = .ref C /\ o.dict = od /\ o.data = .fields vs /\ True
theorem vA.ext {h : Heap} {a C : Addr} {od : Option Addr} (m : vA a C od h) : vA a C od h /\ (∃ o, h.get? a = some o) /\ ∀ h1 h2 : Heap, vA a C od h1 -> (∀ o, h1.get? a = some o -> h2.get? a = some o) -> vA a C od h2 :=
 ⟨m, let ⟨o, _, e, _⟩ := m; ⟨o, e⟩, fun _ _ ⟨o, vs, e, r⟩ k => ⟨o, vs, k o e, r⟩⟩
theorem vF.keeps {h h' : Heap} {a T : Addr} {c : Value} {od : Option Addr} (t : vF h a T c od) (k : ∀ b o, h.get? b = some o -> h'.get? b = some o) : vF h' a T c od := by
 obtain ⟨oe, vs, oT, ts, e1, e2, e3, e4, e5, e6, e7, e8⟩ := t
 exact ⟨oe, vs, oT, ts, k _ _ e1, e2, e3, e4, e5, e6, k _ _ e7, e8⟩
def NB (X : Cx) (cl : Expr) (hit : Addr -> Bool -> Prop) : Prop := ∀ (a C T : Addr) (od : Option Addr) (pins : List (Addr × Obj)) (σ : St) (H : Hp) (s : Shared) (Q : Bool -> Shared -> Prop) (E : Value -> Shared -> Prop) (b : Bool), Inv X pins σ H s -> vF s.heap a T (.ref C) od -> hit C b ->
 (∀ h', (∀ b o, s.heap.get? b = some o -> h'.get? b = some o) -> Q b { s with heap := h' }) ->
 wpAny (model X.prog X.w) (X.hand a).A (eval cl X.env) (fun c s1 => wpAny (model X.prog X.w) (X.hand a).A (excMatches (.ref a) c) Q E s1) E s
theorem B8 {X : Cx} {x : Str} {np : Pos} {D : Addr} (hg : Gl X x) (hm : X.mg x = some (.ref D)) (hD : vj X.K D) (oj : (x == ("__debug__" : Str)) = false := by decide) : NB X (.Name x np) (Dy X.K D) := by
 intro a C T od pins σ H s Q E b I tr hit k
 refine eD (X := { X with xe := E }.hand a) (E := E) I.oz hg hm ?_ oj
 obtain ⟨bm, N, nm, q, bs, hd, sn, sub, ab, col, dd, k0, k1, k2, k3, k5, hC, _⟩ := hit.1 _ I.jf
 obtain ⟨Ic, N', KN, q', LK, vb, K7, G4, LI, GD, LO, l0, l1, l2, l3, l5, L6, T'⟩ := hD _ I.jf
 obtain ⟨oe, vs, oT, Oz, e1, e2, e3, e4, e5⟩ := id tr
 exact q0 hC L6 e1 e2 (T'.hasType (by decide)) (xE I.jf hC hit.2) (k _ fun _ _ z => z)
inductive lP (X : Cx) : List ExceptHandler -> List DS -> Prop
 | nil : lP X [] []
 | cons {cl : Expr} {n : Option Str} {b0 : Stmt} {r9 : List Stmt} {pos : Pos} {hs : List ExceptHandler} {hit : Addr -> Bool -> Prop} {i : Option Nat} {ts : Addr -> TS} {rs : List DS} (hc : NB X cl hit) (hb : ∀ a, qM (X.hand a) (b0 :: r9) (ts a)) (hn : Aq X n i) (r : lP X hs rs) :
  lP X (.ExceptHandler (some cl) n (b0 :: r9) pos :: hs) (⟨hit, i, ts⟩ :: rs)
def Cz (D : Ends) (σ : St) (C : Addr) (od : Option Addr) (H' : Hp) : List DS -> Prop
 | [] => False
 | r :: rs => (r.hit C true /\ ∀ a, H' a = none -> r.ts a (GN D r.i) (DI σ r.i (some (.ref a))) (upd H' a (.ext (vA a C od)))) \/ (r.hit C false /\ Cz D σ C od H' rs)
def Ef (tb : (St -> XK) -> TS) (rs : List DS) (te : TS) : TS := fun D σ H =>
 tb (fun σ' c od H' => ∃ C, c = .ref C /\ Cz D σ' C od H' rs) { D with nx := fun σ' H' => te D σ' H' } σ H
section
variable {X : Cx} {pins : List (Addr × Obj)} {σ : St} {H : Hp} {a C : Addr} {od : Option Addr} {Dn : Ends}
theorem tB (hN : X.N.Nodup) (ha : H a = none) (fa : Ho X pins a) {hs : List ExceptHandler} {rs : List DS} (ok : lP X hs rs) : ∀ (s : Shared) (T : Addr), Inv X pins σ H s -> vF s.heap a T (.ref C) od -> H T = none -> Ho X pins T -> Cz Dn σ C od H rs ->
 wpAny (model X.prog X.w) X.A (handleBy (.ref a) X.env hs) (SP X pins Dn) X.xe s := by
 induction ok with
 | nil => intro s T _ _ _ _ h; exact h.elim
 | @cons cl n b0 r9 pos hs hit i ts rs hc hb hn r ih =>
   intro s T J tr hT fT h
   refine wpAny_handleBy_cons (codeAny_handlers_test ?_) (by intro q; cases q)
   rcases h with ⟨h1, Hr⟩ | ⟨h1, h2⟩
   . refine hc a C T od pins σ H s _ _ true J tr h1 fun h3 k3 => ?_
     have J3 : Inv X pins σ H { s with heap := h3 } := J.kept (t' := s.toks) fun b u e => k3 b u e
     have BH := tr.keeps k3
     have lay : ∀ h4, vF h4 a T (.ref C) od -> (∀ b o, b ≠ T -> h3.get? b = some o -> h4.get? b = some o) -> Inv X pins σ (upd H a (.ext (vA a C od))) { s with heap := h4 } := fun h4 GP k4 => by
      have J4 : Inv X pins σ H { s with heap := h4 } := J3.lv (S := [T]) (t' := s.toks) ⟨fun b o _ n2 z => k4 b o (by simpa using n2) z, fun b o m z => ⟨o.slots, k4 b o (fun y => ?_) z⟩⟩ fun b hb => by
       have : b = T := by simpa using hb
       subst this
       exact ⟨hT, fT⟩
      . obtain ⟨Oq, NX, P5, PU, f1, f2, f3, f4, _, _, _, _, _, f5⟩ := id GP
        exact J4.Bj ha fa.1 fa.2.1 fa.2.2.1 fa.2.2.2 (vA.ext ⟨Oq, NX, f1, f2, f3, f4, f5⟩)
      . subst y
        obtain ⟨_, _, _, _, _, _, _, _, _, _, f7, f8, _⟩ := id BH
        obtain ⟨_, o', z', hn⟩ := J3.stack.mem m
        rw [f7] at z'
        cases z'
        exact hn _ f8
     cases n with
     | none =>
       cases i with
       | some _ => exact hn.elim
       | none =>
       refine codeAny_handlers_suite ?_
       refine kl (s := { s with heap := h3 }) BH fun h4 GP k4 => ?_
       refine wpAny_mono (hb a pins _ _ _ _ (lay h4 GP k4).oz (Hr a ha)) (fun fl s7 q7 => ?_) (fun _ _ z => z.elim)
       cases fl with
       | next => obtain ⟨σ7, H7, J7, q8⟩ := q7; exact ⟨_, _, J7.oG J.ok, q8⟩
       | brk => obtain ⟨σ7, H7, J7, q8⟩ := q7; exact ⟨_, _, J7.oG J.ok, q8⟩
       | cont => obtain ⟨σ7, H7, J7, q8⟩ := q7; exact ⟨_, _, J7.oG J.ok, q8⟩
       | ret u => obtain ⟨v, σ7, H7, J7, r7, q8⟩ := q7; exact ⟨v, _, _, J7.oG J.ok, r7, q8⟩
     | some nn =>
       cases i with
       | none => exact hn.elim
       | some ii =>
       obtain ⟨hi, hk⟩ := hn
       refine codeAny_handlers_suite_as ?_
       refine kl (s := { s with heap := h3 }) BH fun h4 GP k4 => ?_
       refine qL (X := X.hand a) (v := .ref a) (i := ii) (lay h4 GP k4).oz hN hi (.inl hk) rfl (fun s6 J6 => ?_) (.inr hk)
       refine wpAny_mono (hb a pins s6 _ _ _ J6 (Hr a ha)) (fun fl s7 q7 => ?_) (fun _ _ z => z.elim)
       have core : ∀ {σ7 : St} {H7 : Hp}, Inv (X.hand a) pins σ7 H7 s7 -> (∀ s8, Inv X pins (σ7.set ii none) H7 s8 -> SP X pins Dn fl s8) -> wpAny (model X.prog X.w) X.A (do bindName X.env nn .none; unbindBehindTheSuite X.env nn pos) (fun _ s8 => SP X pins Dn fl s8) X.xe s7 := fun {σ7 H7} J7 fin => by
        have J8 := J7.oG J.ok
        obtain ⟨m, FU, KZ⟩ := J8.loc
        exact wpAny_nameGoes_keeps hk FU (by rw [J.ok.kind]; rfl) fun h8 v8 O3 sb => fin _ (J8.gone hN hi KZ O3 sb)
       cases fl with
       | next => obtain ⟨σ7, H7, J7, q8⟩ := q7; exact core J7 fun s8 J8 => ⟨_, _, J8, q8⟩
       | brk => obtain ⟨σ7, H7, J7, q8⟩ := q7; exact core J7 fun s8 J8 => ⟨_, _, J8, q8⟩
       | cont => obtain ⟨σ7, H7, J7, q8⟩ := q7; exact core J7 fun s8 J8 => ⟨_, _, J8, q8⟩
       | ret u => obtain ⟨v, σ7, H7, J7, r7, q8⟩ := q7; exact core J7 fun s8 J8 => ⟨v, _, _, J8, r7, q8⟩
   . refine hc a C T od pins σ H s _ _ false J tr h1 fun h3 k3 => ?_
     exact ih _ T (J.kept (t' := s.toks) fun b u e => k3 b u e) (tr.keeps k3) hT fT h2
end
theorem Dz {X : Cx} {body orelse : List Stmt} {h0 : ExceptHandler} {hs : List ExceptHandler} {rs : List DS} {pos : Pos} {tb : (St -> XK) -> TS} {te : TS}
 (hb : ∀ (f : Value -> Shared -> Prop) (pn : List (Addr × Obj)) (E' : St -> XK), cV (Bz X.prog X.w) (X.pw f pn) E' -> qM (X.pw f pn) body (tb E')) (ho : qM X orelse te) (hh : lP X (h0 :: hs) rs)
 (hN : X.N.Nodup) (tR : X.stack = X.env :: X.outer) (hf : X.env.frame = some X.env.locals) (hex : X.ex = []) :
 PS X (.Try body (h0 :: hs) orelse [] pos) (Ef tb rs te) := by
 intro pins s σ H Dn I h
 refine wpAny_Try_except ?_
 refine wpAny_mono (hb (fun e s1 => wpAny (model X.prog X.w) X.A (noteFrame e X.env) (fun _ s2 => wpAny (model X.prog X.w) X.A (setFlight e none) (fun _ s3 => wpAny (model X.prog X.w) X.A (handleBy e X.env (h0 :: hs)) (SP X pins Dn) X.xe s3) X.xe s2) X.xe s1) (X.pn ++ pins) _ ?_ [] s σ H _ I.AI h) ?_ (fun e s1 z => z)
 . intro qS σ' H1 s1 e s2 I1 ⟨a, T, C, od, H', he, os, bare, un, a9, tr, na, nT, ha, hT, C', HL, Hr⟩
   subst he
   cases HL
   have I2 := I1.p0 (ch := []) os un a9 bare (fun b z => nomatch z)
   have J := I2.gL (pins := pins)
   have JU := I1.gL (pins := pins)
   have iW : ∀ {s' : Shared} {Ak : St} {JQ : Hp}, Inv X pins Ak JQ s' -> ∀ b, s'.heap.get? b = none -> Ho X pins b := fun {s' Ak JQ} I b z => by
    refine ⟨?_, fun y => ?_, fun x c e y => ?_, fun p hp y => ?_⟩
    . cases q : X.cJ.heap.get? b with
      | none => rfl
      | some o =>
        obtain ⟨o2, z2⟩ := I.base.there b o q (by rw [hex]; intro y; cases y)
        rw [z] at z2
        cases z2
    . obtain ⟨m, ⟨o, _, _, ho, _⟩, _⟩ := I.loc
      rw [<- y, z] at ho
      cases ho
    . obtain ⟨v, o, ho, _⟩ := I.cell x c e
      rw [y, z] at ho
      cases ho
    . have ho := (I.pin p hp).1
      rw [y, z] at ho
      cases ho
   have fa := iW JU a na
   have fT := iW JU T nT
   show wpAny _ _ (noteFrame (.ref a) X.env) _ _ s2
   refine vX (base := X.base) (by rw [<- tR]; exact J.ok.frames) (by rw [<- tR]; exact J.stack) hf tr fun h3 T3 BH Hv lv => ?_
   have J3 : Inv X pins σ' H' { s2 with heap := h3 } := J.lv (S := [a, T]) (t' := s2.toks) (by rw [tR]; exact lv) fun b hb => by
    have : b = a \/ b = T := by simpa using hb
    rcases this with rfl | rfl
    . exact ⟨ha, fa⟩
    . exact ⟨hT, fT⟩
   have B4 : H' T3 = none /\ Ho X pins T3 := by
    rcases Hv with rfl | z
    . exact ⟨hT, fT⟩
    . exact ⟨J.a9.dead z, iW J _ z⟩
   exact tB hN ha fa hh _ T3 J3 BH B4.1 B4.2 Hr
 . intro f s1 q
   cases f with
   | next => obtain ⟨σ7, H7, J7, q8⟩ := q; exact ho pins s1 σ7 H7 Dn J7.gL q8
   | brk => obtain ⟨σ7, H7, J7, q8⟩ := q; exact ⟨σ7, H7, J7.gL, q8⟩
   | cont => obtain ⟨σ7, H7, J7, q8⟩ := q; exact ⟨σ7, H7, J7.gL, q8⟩
   | ret u => obtain ⟨v, σ7, H7, J7, r7, q8⟩ := q; exact ⟨v, σ7, H7, J7.gL, r7, q8⟩
def zu (K : PySem.W.Frag) : List V -> Hp -> VK -> Prop := fun xs H Q => ∃ a c cv C od b, xs = [.ref a, c] /\ B7 c cv /\ H a = some (.ext (vA a C od)) /\ (∀ d, od = some d -> ∃ fs, H d = some (.xd fs)) /\ Hg K C /\ PySem.W.kitOne K (.ref C) cv = some b /\ Q (.bl b) H
theorem yX {X : Cx} : fH X (.builtin "isinstance") (zu X.K) := by
 intro pins s σ H xs us Q I r h
 obtain ⟨a, c, cv, C, od, b, rfl, hc, hH, hd, ty, e, q⟩ := h
 obtain ⟨u, w', rfl, r1, r2⟩ := vals2 r
 have ew : w' = cv := by cases hc <;> exact r2
 subst ew
 cases r1
 obtain ⟨⟨o, vs, z1, z2, z3, z4, _⟩, _⟩ := (show cW X.prog X.w H s.heap a (.ext (vA a C od)) from I.a9 a _ hH)
 cases od with
 | none =>
   have J : InstAt s.heap a o C none := ⟨z1, z2, by unfold notCls; rw [z4], by rw [z3]; trivial⟩
   exact PySem.W.kia_one (Bk ty) I.jf J e (fun z => nomatch z) fun tk => ⟨.bl b, H, I.tok tk, rfl, q⟩
 | some d =>
   obtain ⟨fs, hf⟩ := hd d rfl
   obtain ⟨mA, ⟨o', es, ep, ho, _⟩, _⟩ := (show cW X.prog X.w H s.heap d (.xd fs) from I.a9 d _ hf)
   have J : InstAt s.heap a o C (some o') := ⟨z1, z2, by unfold notCls; rw [z4], by rw [z3]; exact ho⟩
   exact PySem.W.kia_one (Bk ty) I.jf J e (fun z => nomatch z) fun tk => ⟨.bl b, H, I.tok tk, rfl, q⟩
section
variable {σ : St} {H : Hp} {Q : VK} {D : Ends} {K : PySem.W.Frag} {C : Addr} {E : St -> XK}
theorem GW {tb : (St -> XK) -> TS} {rs : List DS} {te : TS} (h : tb (fun σ' c od H' => ∃ C, c = .ref C /\ Cz D σ' C od H' rs) { D with nx := fun σ' H' => te D σ' H' } σ H) : Ef tb rs te D σ H := h
theorem GL {a C' : Addr} {b : Bool} (h1 : H a = some (.ext (vA a C none))) (ty : Hg K C) (e : PySem.W.kitOne K (.ref C) (.ref C') = some b) (h : Q (.bl b) H) : zu K [.ref a, .ref C'] H Q := ⟨a, _, _, C, none, b, rfl, .ref _, h1, (fun _ z => by cases z), ty, e, h⟩
end
theorem lX {X : Cx} {K : PySem.W.Frag} (h : X.K = K) : fH X (.builtin "isinstance") (zu K) := h ▸ yX
theorem sR {X : Cx} : cV (Bz X.prog X.w) X (fun _ => E0) := fun _ _ _ _ _ _ _ ⟨_, _, _, _, _, _, _, _, _, _, _, _, _, _, _, h⟩ => h.elim
def Hk (h : Heap) (a T : Addr) (c : Value) (od : Option Addr) : Prop := ∃ oe vs oT ts v, h.get? a = some oe /\ oe.cls = c /\ oe.dict = od /\ oe.data = .fields vs /\ vs[1]? = some (.ref T) /\ T ≠ a /\ h.get? T = some oT /\ oT.data = .fields ts /\ ts[3]? = some v /\ True
section
variable {M : Model} {A : Around} {E : Value -> Shared -> Prop} {s : Shared} {env : Env} {outer : List Env} {L a T : Addr} {c : Value} {od : Option Addr} {base : Heap} {Q : Unit -> Shared -> Prop}
theorem yI {oe : Obj} {vs : Array Value} {head : Value} {GV : Bool} (og : A.frames = some (env :: outer)) (hl : s.heap.FunFrames base (env :: outer)) (hf : env.frame = some L) (he : s.heap.get? a = some oe) (A4 : oe.dict = od) (hd : oe.data = .fields vs) (hsz : 1 < vs.size) (DJ : True)
 (h : ∀ h' T', Hk h' a T' oe.cls od -> s.heap.get? T' = none -> Lv (env :: outer) [a] s.heap h' -> Q () { s with heap := h' }) :
 wpAny M A (do let x <- frameOf env; let pl <- entryPlaceOf L GV; let b <- EntryCells.newEntry head x .none (rawInt L) .none pl; setField (.ref a) 1 b) Q E s := by
 have vh : a ∉ kc (env :: outer) := fun m => by
  obtain ⟨_, o, ho, hn⟩ := hl.mem m
  rw [he] at ho
  cases ho
  exact hn vs hd
 refine wpAny_bind (wpAny_frameOf_fun og hl hf fun h1 s1 => ?_)
 refine wpAny_bind (wpAny_entryPlaceOf fun pl j1 => ?_)
 unfold EntryCells.newEntry newFields
 refine wpAny_bind (wpAny_newObj_type ?_ (j1.sizeOk5 _ _ _ _ _))
 have e1 : h1.get? a = some oe := (s1.2.1 a vh).trans he
 let tb : Obj := { cls := .type "traceback", dict := none, data := .fields ([head, .ref L, .none, rawInt L, .none] ++ (if pl.isEmpty then List.replicate 6 Value.none else pl)).toArray }
 have e2 : (h1.push tb).get? a = some oe := Heap.get?_push_of_some _ e1
 refine wpAny_setField e2 hd hsz ?_
 have yV : h1.objs.size ≠ a := Ne.symm (Nat.ne_of_lt (Heap.lt_size e1))
 have d3 := Obj.data_mapFields hd (·.setIfInBounds 1 (Value.ref h1.objs.size))
 have e3 := Heap.get?_update_self (Obj.mapFields (·.setIfInBounds 1 (Value.ref h1.objs.size))) e2 (Obj.isFreed_of_fields d3)
 have t3 : ((h1.push tb).update a (Obj.mapFields (·.setIfInBounds 1 (Value.ref h1.objs.size)))).get? h1.objs.size = some tb := (Heap.get?_update_other _ _ (Ne.symm yV)).trans (Heap.get?_push_size h1 rfl)
 refine h _ h1.objs.size ?_ ?_ ?_
 . refine ⟨_, _, _, _, rawInt L, e3, Obj.cls_mapFields _ _, ?_, d3, by simp [hsz], yV, t3, rfl, by simp, trivial⟩
   obtain ⟨c0, d0, Fe, MJ⟩ := oe
   cases Fe <;> first | exact A4 | (cases hd)
 . cases q : s.heap.get? h1.objs.size with
   | none => rfl
   | some o =>
     obtain ⟨sl, z⟩ := s1.2.2 _ o q
     exact absurd (Heap.lt_size z) (Nat.lt_irrefl _)
 . have kp : ∀ b o, b ≠ a -> h1.get? b = some o -> ((h1.push tb).update a (Obj.mapFields (·.setIfInBounds 1 (Value.ref h1.objs.size)))).get? b = some o := fun b o hb q => by
    rw [Heap.get?_update_other _ _ (Ne.symm hb)]
    exact Heap.get?_push_of_some _ q
   refine ⟨fun b o n1 n2 q => kp b o (by simpa using n2) ((s1.2.1 b n1).trans q), fun b o m q => ?_⟩
   obtain ⟨sl, z⟩ := s1.2.2 b o q
   exact ⟨sl, kp b _ (fun z => vh (z ▸ m)) z⟩
theorem wF (og : A.frames = some (env :: outer)) (hl : s.heap.FunFrames base (env :: outer)) (hf : env.frame = some L) (ht : Hk s.heap a T c od)
 (h : ∀ h' T', vF h' a T' c od -> (T' = T \/ s.heap.get? T' = none) -> Lv (env :: outer) [a, T] s.heap h' -> Q () { s with heap := h' }) : wpAny M A (noteFrame (.ref a) env) (fun _ s' => wpAny M A (setFlight (.ref a) none) Q E s') E s := by
 obtain ⟨oe, vs, oT, ts, v, e1, rfl, e3, e4, e5, e6, e7, e8, e9, rl⟩ := ht
 unfold noteFrame
 simp only [hf]
 refine wpAny_bind (wpAny_field e1 e4 e5 ?_)
 rw [if_pos (show (Value.ref T != Value.none) = true from by simp)]
 refine wpAny_bind (wpAny_field e7 e8 e9 ?_)
 by_cases hv : (v == rawInt L) = true
 . rw [if_pos hv]
   have hz := (Array.getElem?_eq_some_iff.mp e9).1
   have tr : ∀ b, b ≠ T -> (s.heap.update T (Obj.mapFields (·.setIfInBounds 3 Value.none))).get? b = s.heap.get? b := fun b hb => Heap.get?_update_other _ _ (Ne.symm hb)
   refine wpAny_pure (wpAny_setFlight_none e1 e4 e5 e7 e8 hz (h _ T ⟨oe, vs, _, _, (tr a (Ne.symm e6)).trans e1, rfl, e3, e4, e5, e6, Heap.get?_update_self _ e7 (Obj.isFreed_of_fields (Obj.data_mapFields e8 _)), Obj.data_mapFields e8 _, by simp [hz], rl⟩ (.inl rfl) ⟨fun b o n1 n2 q => (tr b (by simp at n2; exact n2.2)).trans q, fun b o m q => ?_⟩))
   obtain ⟨_, o', q', hn⟩ := hl.mem m
   rw [q] at q'
   cases q'
   exact ⟨o.slots, (tr b (fun z => by rw [z, e7] at q; cases q; exact hn ts e8)).trans q⟩
 rw [if_neg hv]
 refine wpAny_bind (wpAny_setField e7 e8 (Array.getElem?_eq_some_iff.mp e9).1 ?_)
 have la : ∀ b, b ≠ T -> (s.heap.update T (Obj.mapFields (·.setIfInBounds 3 Value.none))).get? b = s.heap.get? b := fun b hb => Heap.get?_update_other _ _ (Ne.symm hb)
 have nT : ∀ b o, s.heap.get? b = some o -> (∀ vs, o.data ≠ .fields vs) -> b ≠ T := fun b o hb hn z => by
  rw [z, e7] at hb
  cases hb
  exact hn ts e8
 refine rF (s := { s with heap := s.heap.update T (Obj.mapFields (·.setIfInBounds 3 Value.none)) }) og (hl.of_keeps fun b o hb hn => ⟨o, (la b (nT b o hb hn)).trans hb, rfl⟩) hf ((la a (Ne.symm e6)).trans e1) e3 e4 (Array.getElem?_eq_some_iff.mp e5).1 rl fun h' T' t1 t2 lv => h h' T' t1 ?_ ⟨fun b o n1 n2 q => ?_, fun b o m q => ?_⟩
 . by_cases z : T' = T
   . exact .inl z
   . exact .inr ((la T' z).symm.trans t2)
 . have : b ≠ a /\ b ≠ T := by simpa using n2
   exact lv.keep b o n1 (by simpa using this.1) ((la b this.2).trans q)
 . obtain ⟨_, o', q', hn⟩ := hl.mem m
   rw [q] at q'
   cases q'
   exact lv.slot b o m ((la b (nT b o q hn)).trans q)
theorem tX {oe : Obj} {vs : Array Value} (og : A.frames = some (env :: outer)) (hl : s.heap.FunFrames base (env :: outer)) (hf : env.frame = some L) (he : s.heap.get? a = some oe) (A4 : oe.dict = od) (hd : oe.data = .fields vs) (h1 : vs[1]? = some .none)
 (h : ∀ h' T', Hk h' a T' oe.cls od -> s.heap.get? T' = none -> Lv (env :: outer) [a] s.heap h' -> Q () { s with heap := h' }) : wpAny M A (noteFrame (.ref a) env) Q E s := by
 unfold noteFrame
 simp only [hf]
 refine wpAny_bind (wpAny_field he hd h1 ?_)
 rw [if_neg (by decide)]
 exact yI og hl hf he A4 hd (Array.getElem?_eq_some_iff.mp h1).1 trivial h
theorem J0 (ht : Hk s.heap a T c od) (h : ∀ h', Hk h' a T c od -> (∀ b o, b ≠ T -> s.heap.get? b = some o -> h'.get? b = some o) -> E (.ref a) { s with heap := h' }) : cameBackBy M A env E (.ref a) s := by
 obtain ⟨oe, vs, oT, ts, v, e1, rfl, e3, e4, e5, e6, e7, e8, e9, rl⟩ := ht
 have hz := (Array.getElem?_eq_some_iff.mp e9).1
 unfold cameBackBy
 refine wpAny_bind (wpAny_field e1 e4 e5 ?_)
 rw [if_neg (show ¬ ((Value.ref T == Value.none) = true) from by simp)]
 unfold setFlight
 refine wpAny_bind (wpAny_field e1 e4 e5 ?_)
 rw [if_pos (show (Value.ref T != Value.none) = true from by simp)]
 refine wpAny_setField e7 e8 hz (h _ ⟨oe, vs, _, _, _, (Heap.get?_update_other _ _ e6).trans e1, rfl, e3, e4, e5, e6, Heap.get?_update_self _ e7 (Obj.isFreed_of_fields (Obj.data_mapFields e8 _)), Obj.data_mapFields e8 _, by simp [hz]; rfl, rl⟩ fun b o hb q => (Heap.get?_update_other _ _ (Ne.symm hb)).trans q)
end
theorem u9.w {h : Heap} {a T : Addr} {c : Value} {od : Option Addr} (t : u9 h a T c od) : vF h a T c od := let ⟨oe, vs, oT, ts, e1, e2, e3, e4, e5, e6, e7, e8, e9, _⟩ := t; ⟨oe, vs, oT, ts, e1, e2, e3, e4, e5, e6, e7, e8, e9, trivial⟩
def EC (X : Cx) (E : XK) : Prop := ∀ (pins : List (Addr × Obj)) (σ : St) (H : Hp) (s : Shared) (a T C : Addr) (od : Option Addr), Inv X pins σ H s -> Hk s.heap a T (.ref C) od -> X.cJ.heap.get? a = none -> X.cJ.heap.get? T = none -> H a = none -> H T = none -> E (.ref C) od H -> X.xe (.ref a) s
section
variable {P : Program} {w : World} {K : PySem.W.Frag} {mg : Str -> Option Value} {base : Heap} {N : List Str} {qual : Str} {scope : Scope} {f : Addr} {cd : Value} {A : Around} {outer : List Env} {s0 : Shared} {H0 : Hp} {E : XK}
theorem Ig : EC (gE (Bz P w) P w K mg base N qual scope f cd A outer s0 H0 E) E := by
 intro pins σ H s a T C od I tr na nT ha hT hE
 show wpAny _ _ (leaving _ (.ref a)) _ _ s
 refine wpAny_bind (wF (base := base) I.ok.frames I.stack rfl tr fun h2 T2 BA wN lv => ?_)
 have d' : s.heap.get? T2 = none -> s0.heap.get? T2 = none := fun z => by
  cases q : s0.heap.get? T2 with
  | none => rfl
  | some o =>
    obtain ⟨o2, z2⟩ := I.base.there T2 o q (by intro y; cases y)
    rw [z] at z2
    cases z2
 refine uj I lv (fun b hb => ?_) BA ha ?_ na ?_ hE
 . have : b = a \/ b = T := by simpa using hb
   rcases this with rfl | rfl
   . exact ⟨ha, na⟩
   . exact ⟨hT, nT⟩
 . rcases wN with rfl | z
   . exact hT
   . exact I.a9.dead z
 . rcases wN with rfl | z
   . exact nT
   . exact d' z
theorem A0 : cV (nX P w) (gE (Bz P w) P w K mg base N qual scope f cd A outer s0 H0 E) (fun _ => E) := by
 intro pins σ H s e s' I ⟨a, T, C, od, H', he, os, bare, un, a9, tr, na, nT, ha, hT, hE⟩
 subst he
 have I' := I.p0 (ch := []) os un a9 bare (fun b z => nomatch z)
 have dead : ∀ b, s.heap.get? b = none -> s0.heap.get? b = none := fun b z => by
  cases q : s0.heap.get? b with
  | none => rfl
  | some o =>
    obtain ⟨o2, z2⟩ := I.base.there b o q (by intro y; cases y)
    rw [z] at z2
    cases z2
 show wpAny _ _ (leaving _ (.ref a)) _ _ s'
 refine wpAny_bind (lT (base := base) I'.ok.frames I'.stack rfl tr fun h2 T2 BA wN lv => ?_)
 have d' : s'.heap.get? T2 = none -> s0.heap.get? T2 = none := fun z => by
  cases q : s0.heap.get? T2 with
  | none => rfl
  | some o =>
    obtain ⟨o2, z2⟩ := I'.base.there T2 o q (by intro y; cases y)
    rw [z] at z2
    cases z2
 refine uj I' lv (fun b hb => ?_) BA.w ha ?_ (dead a na) ?_ hE
 . have : b = a \/ b = T := by simpa using hb
   rcases this with rfl | rfl
   . exact ⟨ha, dead _ na⟩
   . exact ⟨hT, dead _ nT⟩
 . rcases wN with rfl | z
   . exact hT
   . exact I'.a9.dead z
 . rcases wN with rfl | z
   . exact dead _ nT
   . exact d' z
end
def EB (tb : (St -> XK) -> TS) (hit : Addr -> Bool -> Prop) (ta : TA) (CN : Addr) (EX : XK) : TS := fun D σ H =>
 tb (fun σ' c od H' => ∃ C, c = .ref C /\ hit C true /\ ∀ a, H' a = none -> ta σ' (upd H' a (.ext (vp a C od))) fun vs H1 => vs.length <= sizeLine /\ H1 a = some (.ext (vp a C od)) /\ EX (.ref CN) none H1) D σ H
theorem Ck {X : Cx} {body : List Stmt} {cl ex : Expr} {x : Str} {kx : Nat} {np dc kp H9 sI pos : Pos} {hit : Addr -> Bool -> Prop} {tb : (St -> XK) -> TS} {ta : TA} {CN : Addr} {EX : XK}
 (hb : ∀ (f : Value -> Shared -> Prop) (pn : List (Addr × Obj)) (E' : St -> XK), cV (nX X.prog X.w) (X.pw f pn) E' -> qM (X.pw f pn) body (tb E')) (hc : Lg X cl hit) (N4 : ∀ a, PA (X.hand a) [ex] ta) (hP : EC X EX) (hg : Gl X x) (hm : X.mg x = some (.ref CN)) (hq : p7 X.K CN)
 (hN : X.N.Nodup) (tR : X.stack = X.env :: X.outer) (hf : X.env.frame = some X.env.locals) (hex : X.ex = [])
 (NM : starEach [ex] X.env = (false, eval ex X.env) :: starEach [] X.env := by rfl) (lN : (backTo dc (starEach [ex] X.env)).any (·.1) = false := by rfl) (oj : (x == ("__debug__" : Str)) = false := by decide) :
 PS X (.Try body [.ExceptHandler (some cl) none [.Raise (some (.Call (.Name x np) [ex] [] dc)) (some (.Constant .none kx kp)) H9] sI] [] [] pos) (EB tb hit ta CN EX) := by
 intro pins s σ H Dn I h
 refine wpAny_Try_except ?_
 refine wpAny_mono (hb (fun e s1 => wpAny (model X.prog X.w) X.A (noteFrame e X.env) (fun _ s2 => wpAny (model X.prog X.w) X.A (setFlight e none) (fun _ s3 => wpAny (model X.prog X.w) X.A (handleBy e X.env [.ExceptHandler (some cl) none [.Raise (some (.Call (.Name x np) [ex] [] dc)) (some (.Constant .none kx kp)) H9] sI]) (SP X pins Dn) X.xe s3) X.xe s2) X.xe s1) (X.pn ++ pins) _ ?_ [] s σ H _ I.AI h) ?_ (fun e s1 z => z)
 . intro qS σ' H1 s1 e s2 I1 ⟨a, T, C, od, H', he, os, bare, un, a9, tr, na, nT, ha, hT, C', HL, MK, Hr⟩
   subst he
   cases HL
   have I2 := I1.p0 (ch := []) os un a9 bare (fun b z => nomatch z)
   have J := I2.gL (pins := pins)
   have JU := I1.gL (pins := pins)
   have iW : ∀ {s' : Shared} {Ak : St} {JQ : Hp}, Inv X pins Ak JQ s' -> ∀ b, s'.heap.get? b = none -> Ho X pins b := fun {s' Ak JQ} I b z => by
    refine ⟨?_, fun y => ?_, fun x c e y => ?_, fun p hp y => ?_⟩
    . cases q : X.cJ.heap.get? b with
      | none => rfl
      | some o =>
        obtain ⟨o2, z2⟩ := I.base.there b o q (by rw [hex]; intro y; cases y)
        rw [z] at z2
        cases z2
    . obtain ⟨m, ⟨o, _, _, ho, _⟩, _⟩ := I.loc
      rw [<- y, z] at ho
      cases ho
    . obtain ⟨v, o, ho, _⟩ := I.cell x c e
      rw [y, z] at ho
      cases ho
    . have ho := (I.pin p hp).1
      rw [y, z] at ho
      cases ho
   have fa := iW JU a na
   have fT := iW JU T nT
   show wpAny _ _ (noteFrame (.ref a) X.env) _ _ s2
   refine lT (base := X.base) (by rw [<- tR]; exact J.ok.frames) (by rw [<- tR]; exact J.stack) hf tr fun h3 T3 BH Hv lv => ?_
   have J3 : Inv X pins σ' H' { s2 with heap := h3 } := J.lv (S := [a, T]) (t' := s2.toks) (by rw [tR]; exact lv) fun b hb => by
    have : b = a \/ b = T := by simpa using hb
    rcases this with rfl | rfl
    . exact ⟨ha, fa⟩
    . exact ⟨hT, fT⟩
   have B4 : H' T3 = none /\ Ho X pins T3 := by
    rcases Hv with rfl | z
    . exact ⟨hT, fT⟩
    . exact ⟨J.a9.dead z, iW J _ z⟩
   refine wpAny_handleBy_cons (codeAny_handlers_test ?_) (by intro q; cases q)
   refine hc a C T3 od pins σ' H' _ _ _ true J3 BH MK fun h5 k5 => ?_
   have J5 : Inv X pins σ' H' { s2 with heap := h5 } := J3.kept (t' := s2.toks) fun b u e => k5 b u e
   have KD := BH.keeps k5
   refine codeAny_handlers_suite ?_
   refine rg (s := { s2 with heap := h5 }) KD fun h6 OJ k6 => ?_
   have J6 : Inv X pins σ' H' { s2 with heap := h6 } := J5.lv (S := [T3]) (t' := s2.toks) ⟨fun b o _ n2 z => k6 b o (by simpa using n2) z, fun b o m z => ⟨o.slots, k6 b o (fun y => by
    subst y
    obtain ⟨_, _, _, _, _, _, _, _, _, _, f7, f8, _⟩ := id KD
    obtain ⟨_, o', z', hn⟩ := J5.stack.mem m
    rw [f7] at z'
    cases z'
    exact hn _ f8) z⟩⟩ fun b hb => by
    have : b = T3 := by simpa using hb
    subst this
    exact B4
   obtain ⟨O6, OI, Pt, PZ, f1, f2, f3, f4, _, _, _, _, _, f5⟩ := id OJ
   have J7 := J6.Bj ha fa.1 fa.2.1 fa.2.2.1 fa.2.2.2 (vp.ext ⟨O6, OI, f1, f2, f3, f4, f5⟩)
   refine wpAny_execs_cons ?_
   obtain ⟨bm, N, nm, q, bs, hd, sn, sub, ab, col, dd, k0, k1, k2, k3, Pg, mN, hC, N0, Ee, TT⟩ := v9 J7.mod.BD hq
   refine rp (C := CN) (nm := nm) (q := q) (N := N) (bs := bs) (bm := bm) (hdct := hd) (sn := sn) (sub := sub) (ab := ab) (col := col) (dd := dd) (k0 := k0) (k1 := k1) (k2 := k2) (k3 := k3) (k5 := Pg) (mN := mN) (hd := a) PySem.F.excBase_ValueError (TT.hasType (by decide)) rfl lN Ee ?_
   refine eD (X := X.hand a) J7.oz hg hm ?_ oj
   refine ⟨rfl, ?_⟩
   have hA := N4 a dc pins _ σ' _ _ J7.oz (Hr a ha)
   rw [NM] at hA ⊢
   refine Calls.evalArgs_plain (wpAny_mono hA (fun us s8 ⟨vs, H8, O9, r8, MT, Ow, OY⟩ => ?_) fun _ _ z => z.elim)
   have I8 := O9.oG J7.ok
   rw [r8.length] at MT
   obtain ⟨⟨oa, va, g1, g2, g3, g4, g5⟩, _⟩ := (show cW X.prog X.w H8 s8.heap a (.ext (vp a C od)) from I8.a9 a _ Ow)
   refine ⟨rfl, MT, I8.bk _ _ hC, N0.at' fun o e => I8.bk _ _ e, TT.keeps I8.bk, ⟨oa, va, g1, g4, g5⟩, fun h9 e9 t9 Fp k9 Pn => ?_⟩
   have I9 : Inv X pins σ' H8 { s8 with heap := h9 } := I8.kept (t' := s8.toks) fun b u e => k9 b u e
   show wpAny (model X.prog X.w) (X.A.mark (some (.ref a))) (noteFrame (.ref e9) X.env) (fun _ s => cameBackBy (model X.prog X.w) X.A X.env X.xe (.ref e9) s) _ _
   refine tX (base := X.base) (s := { s8 with heap := h9 }) (by rw [<- tR]; exact I9.ok.frames) (by rw [<- tR]; exact I9.stack) hf Pn rfl rfl rfl fun h10 Ke JH LN Mi => ?_
   have f9 := iW I8 e9 Fp
   have Nf : Inv X pins σ' H8 { s8 with heap := h10 } := I9.lv (S := [e9]) (t' := s8.toks) (by rw [tR]; exact Mi) fun b hb => by
    have : b = e9 := by simpa using hb
    subst this
    exact ⟨I8.a9.dead Fp, f9⟩
   have MP := iW I9 Ke LN
   refine J0 (s := { s8 with heap := h10 }) JH fun h11 Lq MR => ?_
   have OX : Inv X pins σ' H8 { s8 with heap := h11 } := Nf.lv (S := [Ke]) (t' := s8.toks) ⟨fun b o _ n2 z => MR b o (by simpa using n2) z, fun b o m z => ⟨o.slots, MR b o (fun y => by
    subst y
    obtain ⟨_, _, _, _, _, _, _, _, _, _, _, f7, f8, _⟩ := id JH
    obtain ⟨_, o', z', hn⟩ := Nf.stack.mem m
    rw [f7] at z'
    cases z'
    exact hn _ f8) z⟩⟩ fun b hb => by
    have : b = Ke := by simpa using hb
    subst this
    exact ⟨I9.a9.dead LN, MP⟩
   exact hP pins σ' H8 _ e9 Ke CN none OX Lq f9.1 MP.1 (I8.a9.dead Fp) (I9.a9.dead LN) OY
 . intro f s1 q
   cases f with
   | next => obtain ⟨σ7, H7, J7, q8⟩ := q; exact wpAny_execs_nil ⟨σ7, H7, J7.gL, q8⟩
   | brk => obtain ⟨σ7, H7, J7, q8⟩ := q; exact ⟨σ7, H7, J7.gL, q8⟩
   | cont => obtain ⟨σ7, H7, J7, q8⟩ := q; exact ⟨σ7, H7, J7.gL, q8⟩
   | ret u => obtain ⟨v, σ7, H7, J7, r7, q8⟩ := q; exact ⟨v, σ7, H7, J7.gL, r7, q8⟩
def FO (y : Str) : V -> Hp -> VK -> Prop := fun v H Q => ∃ x, v = .str x /\ x.length <= 1000 /\ y.length <= 1000 /\ ∀ z, Q (.str z) H
def IQ (te : TE) (y : Str) : TE := fun σ H Q => te σ H fun v H1 => FO y v H1 Q
theorem AH {X : Cx} {e : Expr} {te : TE} {y : Str} {k : Nat} {p1 p2 pos : Pos} (he : PE X e te) : PE X (.JoinedStr [.FormattedValue e (-1) none p1, .Constant (.str y) k p2] pos) (IQ te y) := by
 intro pins s σ H Q I h
 refine wpAny_JoinedStr ?_
 show wpAny _ _ (eval (.FormattedValue e (-1) none p1) X.env) _ _ s
 refine PySem.wpAny_FormattedValue_plain (bK (he pins s σ H _ I h) fun v s1 ⟨w, H1, I1, r1, x, e, hl, hy, q⟩ => ?_)
 subst e
 obtain ⟨t, rfl⟩ := r1
 have e0 : (Str.empty ++ x).length = x.length := by rw [strLen_append]; show 0 + _ = _; omega
 refine formatField_str (fun t' tk => ⟨x, t', rfl, small (m := 1000) (by rw [e0]; exact hl), ?_⟩) (small hl)
 show wpAny _ _ (eval (.Constant (.str y) k p2) X.env) _ _ _
 refine Calls.Constant_str ⟨y, _, rfl, ?_, ?_, ?_⟩
 . exact small (m := 2000) (by rw [strLen_append, e0]; omega)
 . exact small (m := 2000) (by rw [strLen_append, e0]; omega)
 . exact ⟨.str _, H1, (I1.tok _).tok _, ⟨_, rfl⟩, q _⟩
section
variable {σ : St} {H : Hp} {Q : VK}
theorem JL {te : TE} {y : Str} (h : te σ H fun v H1 => FO y v H1 Q) : IQ te y σ H Q := h
theorem Hb {x y : Str} (h1 : x.length <= 1000) (h2 : y.length <= 1000) (h : ∀ z, Q (.str z) H) : FO y (.str x) H Q := ⟨x, rfl, h1, h2, h⟩
end
theorem pN {X : Cx} {k : Nat} {f C : Addr} {ps : List Str} {sp : Sp} {cU : List V} {E : St -> XK} {x m : Str} {p pos apos : Pos} {e : Expr} {es : List Expr} {t : TA} {pl : Sem Bool}
 (hg : Gl X x) (hm : X.mg x = some (.ref C)) (B : zy X.K C m f) (c : lV X.prog X.w X.K X.mg X.base k f ps cU sp) (hr : cX k X.A) (hx : cV (nX X.prog X.w) X E) (ha : PA X (e :: es) t)
 (oj : (x == ("__debug__" : Str)) = false := by decide)
 (tR : starEach (e :: es) X.env = (false, eval e X.env) :: starEach es X.env := by rfl) (j1 : (backTo pos (starEach es X.env)).any (·.1) = false := by rfl)
 (ht : eval (.Call (.Attribute (.Name x p) m apos) (e :: es) [] pos) X.env = (do
  let ov <- eval (.Name x p) X.env
  standAt apos.atName
  let (f, first) <- holding [ov] (getMethod ov m pl)
  callWith pos f first (backTo pos (starEach (e :: es) X.env)) (backToKw pos (keywordEach [] X.env))) := by rfl) :
 PE X (.Call (.Attribute (.Name x p) m apos) (e :: es) [] pos) (su sp cU E t) := by
 obtain ⟨fd, ds, F, hb, hd⟩ := c.ex
 intro pins s σ H Q I h
 refine PySem.W.methodCall_KW (pl := pl) (eD I hg hm ?_ oj) ht
 refine PySem.W.method_cls I.jf B.ga ?_
 refine PySem.W.cls_value I.jf B.rd B.fd rfl ?_
 have I' : Inv X pins σ H { s with toks := s.toks + 1 } := I.tok _
 refine PySem.W.callWith_K (first := []) (h₀ := X.base) I.ok.mod.BD B.kp (bK (ha pos pins _ σ H _ I' h) fun us s2 ⟨vs, H2, I2, r, q2⟩ => ⟨I2.jf, ?_⟩) tR j1
 exact sY F hr hb hd hx I2 r (gv.out q2)
structure QE (X : Cx) (e : Expr) (t : TE) : Prop where
 h : PE X e t
structure QT (X : Cx) (e : Expr) (t : TT) : Prop where
 h : PT X e t
structure QA (X : Cx) (es : List Expr) (t : TA) : Prop where
 h : PA X es t
structure QO (X : Cx) (e : Option Expr) (t : TO) : Prop where
 h : PO X e t
structure QS (X : Cx) (st : Stmt) (t : TS) : Prop where
 h : PS X st t
structure Hu (X : Cx) (Oc : List Stmt) (t : TS) : Prop where
 h : qM X Oc t
section
variable {X : Cx} {a b e : Expr} {es : List Expr} {te ta tb : TE} {t : TA} {st : Stmt} {rest sa sb : List Stmt} {u v : TS} {pos p p2 : Pos}
theorem qv (i : Nat) {x : Str} {pos : Pos} (hN : X.N[i]? = some x := by rfl) (hv : E4 X.env.scope x := by first | exact Or.inl rfl | exact Or.inr (Or.inl rfl) | exact Or.inr (Or.inr rfl)) (hd : (x == ("__debug__" : Str)) = false := by decide) (tQ : (x == ("__classdict__" : Str)) = false := by decide) : QE X (.Name x pos) (DA i) := ⟨pv i hN hv hd tQ⟩
theorem dk {i j pos} : QE X (.Constant (.int i) j pos) (tC (.int i)) := ⟨ah⟩
theorem qP {x j pos} : QE X (.Constant (.str x) j pos) (tC (.str x)) := ⟨ax⟩
theorem du {op : Operator} {r : R2} (ho : jn X (binaryOp op) r) (ha : QE X a ta) (hb : QE X b tb) : QE X (.BinOp a op b pos) (El r ta tb) := ⟨cb ho ha.h hb.h⟩
theorem Em {op : UnaryOp} {r : V -> Hp -> VK -> Prop} (ho : Kq X (unaryOp op) r) (ha : QE X a ta) : QE X (.UnaryOp op a pos) (Mf r ta) := ⟨rY ho ha.h⟩
theorem mI (h : QA X es t) : QE X (.List es pos) (zJ t) := ⟨ck h.h⟩
theorem EA {r : R2} (hr : zc X r) (ha : QE X a ta) (hb : QE X b tb) (hs : xK b) : QE X (.Subscript a b pos) (El r ta tb) := ⟨bb hr ha.h hb.h hs⟩
theorem cu {r : V -> Option Int -> Option Int -> Hp -> VK -> Prop} {lo hi : Option Expr} {tl th : TO} (hr : Kj X r) (he : QE X e te) (hl : QO X lo tl) (hu : QO X hi th) : QE X (.Subscript e (.Slice lo hi none p2) pos) (KJ r te tl th) := ⟨jO hr he.h hl.h hu.h⟩
theorem c9 : QO X none sQ := ⟨pK⟩
theorem dh (h : QE X e te) : QO X (some e) (AB te) := ⟨j9 h.h⟩
theorem qH : QA X [] y6 := ⟨ag⟩
theorem fj (ha : QE X e te) (hr : QA X es t) (hs : starEach (e :: es) X.env = (false, eval e X.env) :: starEach es X.env := by rfl) : QA X (e :: es) (zG te t) := ⟨af ha.h hr.h hs⟩
theorem CB {vs : List V} (h : xu es = some vs) : QA X es (AG vs) := ⟨wX h⟩
theorem A8 {id : String} {r : List V -> Hp -> VK -> Prop} {x : Str} (hc : fH X (.builtin id) r) (hg : Gl X x) (hm : X.mg x = none) (hv : bootBuiltins x = some (.builtin id)) (ha : QA X (e :: es) t) (hn : x ≠ "__name__" := by decide) (oj : (x == ("__debug__" : Str)) = false := by decide)
 (he : starEach (e :: es) X.env = (false, eval e X.env) :: starEach es X.env := by rfl) (j1 : (backTo pos (starEach es X.env)).any (·.1) = false := by rfl) : QE X (.Call (.Name x p) (e :: es) [] pos) (Ky r t) := ⟨aT hc hg hm hv ha.h hn oj he j1⟩
theorem pT {op : CmpOp} {r : R2} (ho : jn X (compareOp op) r) (ha : QE X a ta) (hb : QE X b tb) (hm : behindInMarks op b = false) : QT X (.Compare a [op] [b] pos) (xQ (El r ta tb)) := ⟨aA ho ha.h hb.h hm⟩
theorem qR (he : QE X e te) : QS X (.Return (some e) pos) (E5 te) := ⟨aE he.h⟩
theorem xO {c : Expr} {tc : TT} (hc : QT X c tc) (ha : Hu X sa u) (hb : Hu X sb v) : QS X (.If c sa sb pos) (Gk tc u v) := ⟨bN hc.h ha.h hb.h⟩
theorem vt {i : Nat} {x : Str} {pos' : Pos} (hN : X.N.Nodup) (hi : X.N[i]? = some x) (hx : Loc X.env.scope x) (he : QE X e te) (hs : swapsWith e (some (.Name x pos')) pos.line X.env = pure false := by rfl) (hf : X.fn x = true \/ X.env.scope.names.lookup x = some .local := by first | exact .inl rfl | exact .inr rfl | assumption) : QS X (.Assign [.Name x pos'] e pos) (vm te (ig i)) := ⟨cT hN hi hx he.h hs hf⟩
theorem pJ : Hu X [] AX := ⟨aI⟩
theorem mM (h1 : QS X st u) : Hu X [st] u := ⟨aj h1.h⟩
theorem iu (h1 : QS X st u) (h2 : Hu X rest v) : Hu X (st :: rest) (BK u v) := ⟨ai h1.h h2.h⟩
end
end L2
set_option maxHeartbeats 4000000
namespace My
open PySem L2
def num (c : Int) : Int := if c % 3 = 0 then c / 3 % 7 else if c % 3 = 1 then c / 3 % 1000 else c / 3 % 10 ^ 39
def Lk (m : V) (n : Int) : Int := match m with
 | .int i => if i <= n then i else n
 | _ => n
def Ls (m : V) (n : Int) (d : PyData) : PyData := match m with
 | .int i => if i <= n then .none else d
 | _ => d
def place (m : V) (n : Int) (d : PyData) : PyData := .tuple [.int (Lk m n), Ls m n d]
def qC : List V -> List (Str × V)
 | [f, .cj] => [("many", .int 1), ("first", f), ("last", f)]
 | [f, l] => [("many", .int 1), ("first", f), ("last", l)]
 | _ => []
def qd : List V -> List (Str × V)
 | [st, sp, wd, m] => [("many", m), ("start", st), ("step", sp), ("wide", wd)]
 | _ => []
def gC : List V -> List (Str × V)
 | [st, gp, wd, m] => [("many", m), ("start", st), ("gap", gp), ("wide", wd)]
 | _ => []
def fM : List V -> List (Str × V)
 | [st, gp, mo, wd, m] => [("many", m), ("start", st), ("gap", gp), ("wide", wd), ("most", mo)]
 | _ => []
inductive Wk (R : Int -> Int -> Int × Int) (now : Int) : Int -> Int -> Int -> Int -> Int -> Int -> Prop where
 | here {num x y : Int} (h : now < y) : Wk R now num x y num x y
 | next {num x y k x' y' : Int} (h : y <= now) (w : Wk R now (num + 1) (R num y).1 (R num y).2 k x' y') : Wk R now num x y k x' y'
theorem Wk.inj {R : Int -> Int -> Int × Int} {now num x y k x' y' k2 x2 y2 : Int} (h : Wk R now num x y k x' y') (g : Wk R now num x y k2 x2 y2) : k = k2 /\ x' = x2 /\ y' = y2 := by
 induction h with
 | here h =>
   cases g with
   | here _ => exact ⟨rfl, rfl, rfl⟩
   | next h2 _ => omega
 | next h _ ih =>
   cases g with
   | here h2 => omega
   | next _ w => exact ih w
local macro_rules | `(tactic| walk_at "same") => `(tactic| first
 | exact ao.refl _
 | assumption
 | (refine' ao.trans ?m ?s; (case s => assumption); (case m => walk_at "same")))
local macro_rules | `(tactic| walk_at "at") => `(tactic| first
 | assumption
 | exact aN
 | (refine' ao.at ?s ?m; (case s => assumption); (case m => walk_at "at")))
local macro_rules | `(tactic| walk_at "dat") => `(tactic| first
 | exact Dv.int _
 | exact Dv.cj
 | exact Dv.bl _
 | exact Dv.str _
 | assumption
 | (refine' Dv.keeps ?s ?m; (case s => assumption); (case m => walk_at "dat")))
local macro_rules | `(tactic| walk_at "ins") => `(tactic| first
 | assumption
 | (refine' tP.keeps ?s ?m; (case s => assumption); (case m => walk_at "ins")))
local macro_rules | `(tactic| walk_at "dats") => `(tactic| first
 | exact cf.nil
 | (refine' cf.cons ?m ?s; (case m => walk_at "dat"); (case s => walk_at "dats"))
 | assumption
 | (refine' cf.keeps ?s ?m; (case s => assumption); (case m => walk_at "dats")))
local macro_rules | `(tactic| walk_at "sql") => `(tactic| first
 | assumption
 | (refine' ao.seq ?s ?m; (case s => assumption); (case m => walk_at "sql")))
local macro_rules | `(tactic| walk_at "isq") => `(tactic| first
 | (refine' Or.inl ?m; case m => walk_at "dat")
 | (refine' Or.inr ?m; case m => walk_at "dat"))
set_option hygiene false in
local macro_rules | `(tactic| walk_at "side") => `(tactic| first
 | omega
 | assumption
 | exact (by decide)
 | exact Jr (by omega) (by omega)
 | exact ⟨by decide, by decide, by decide⟩)
set_option hygiene false in
local macro_rules | `(tactic| walk_at "use") => `(tactic| fail)
set_option hygiene false in
local macro_rules | `(tactic| walk_at "lk") => `(tactic| fail)
set_option hygiene false in
local macro_rules | `(tactic| walk_at "put") => `(tactic| fail)
set_option hygiene false in
local macro_rules | `(tactic| walk_at "fin") => `(tactic| fail)
set_option hygiene false in
local macro_rules | `(tactic| walk_at "wds") => `(tactic| first
 | with_reducible refine vZ (ws := [_]) rfl ?_
 | with_reducible refine vZ (ws := [_, _]) rfl ?_
 | with_reducible refine vZ (ws := [_, _, _]) rfl ?_
 | with_reducible refine vZ (ws := [_, _, _, _]) rfl ?_
 | with_reducible refine vZ (ws := [_, _, _, _, _]) rfl ?_
 | with_reducible refine vZ (ws := [_, _, _, _, _, _]) rfl ?_
 | with_reducible refine vZ (ws := []) rfl ?_)
set_option hygiene false in
local macro_rules | `(tactic| walk_at "mks") => `(tactic| first
 | fail)
local macro_rules | `(tactic| walk_at "br") => `(tactic| ((with_reducible refine JP (fun hb => ?_) (fun hb => ?_)) <;> (try simp only [id, decide_eq_true_eq, decide_eq_false_iff_not, Bool.not_eq_true', Bool.not_eq_false', Bool.not_true, Bool.not_false, V.int.injEq, Bool.true_eq_false, Bool.false_eq_true, reduceCtorEq, decide_true, decide_false, not_true, not_false_iff, PyData.eqv, PyData.eqvAll, Bool.and_eq_true, Bool.and_eq_false_iff, Bool.or_eq_true, Bool.or_eq_false_iff, beq_iff_eq, beq_eq_false_iff_ne, ne_eq, bne_iff_ne, Bool.and_true, Bool.and_false, Bool.and_self, beq_self_eq_true, isInt, isBool, isStr, IX, isTup, IK, List.length_cons, List.length_nil] at hb) <;> (try (exfalso; omega)) <;> (try (exfalso; (refine' L7 hb ?d); (case d => walk_at "dat")))))
local macro_rules | `(tactic| walk_at "rd1") => `(tactic| first
 | with_reducible refine Ff ?_
 | with_reducible refine Iw ?_
 | with_reducible refine IC ?_
 | with_reducible refine Gh ?_
 | with_reducible refine Ir ?_
 | ((with_reducible refine' DX ?e ?_); case e => exact rfl)
 | with_reducible refine ND ?_
 | with_reducible refine Mx ?_
 | with_reducible refine LX ?_
 | with_reducible refine K5 ?_
 | ((with_reducible refine' GH ?e1 ?e2 ?_); (case e1 => exact ⟨by decide, by decide, by decide⟩); (case e2 => ((conv => lhs; simp only [Int.reduceToNat]) <;> exact rfl)))
 | ((with_reducible refine' Oh ?e ?_); case e => walk_at "side")
 | with_reducible refine Od ?_
 | with_reducible refine G5 ?_
 | with_reducible refine JV ?_
 | with_reducible refine C4 ?_
 | with_reducible refine K1 ?_
 | with_reducible refine GC ?_
 | with_reducible refine JM ?_
 | with_reducible refine K2 ?_
 | with_reducible refine JO ?_
 | with_reducible refine GJ ?_
 | with_reducible refine IW ?_
 | with_reducible refine Gj ?_
 | with_reducible refine Jt ?_
 | with_reducible refine Mz ?_
 | with_reducible refine Gy ?_
 | with_reducible refine zO ?_
 | with_reducible refine yD ?_
 | walk_at "br"
 | with_reducible refine G0 ?_
 | ((with_reducible refine' HI ?e ?_); case e => exact rfl)
 | ((with_reducible refine' EF ?e1 ?e2 ?e3 ?e4 ?e5 ?_); (case e1 => walk_at "dat"); (case e2 => walk_at "dat"); (case e3 => first | rfl | assumption); (case e4 => first | rfl | assumption); (case e5 => first | exact Nat.le_of_ble_eq_true rfl | assumption))
 | ((with_reducible refine' kP ?e1 ?e2 ?_); (case e1 => walk_at "isq"); (case e2 => exact rfl))
 | ((with_reducible refine' Ar ?e ?_); case e => walk_at "isq")
 | ((with_reducible refine' Gg ?e ?_); case e => walk_at "sql")
 | ((with_reducible refine' Ge ?e1 ?e2 ?_); (case e1 => omega); (case e2 => omega))
 | ((with_reducible refine' E2 ?e (fun _ _ => ?_)); case e => walk_at "side")
 | with_reducible refine MC ?_
 | with_reducible refine FI ?_
 | ((with_reducible refine' CQ ?e1 ?e2 ?e3 ?e4 ?e5 ?_); (case e1 => walk_at "at"); (case e2 => assumption); (case e3 => assumption); (case e4 => exact BL rfl); (case e5 => walk_at "put"))
 | ((with_reducible refine' Fv ?e1 ?e2 ?e3 ?e4 ?_); (case e1 => walk_at "ins"); (case e2 => assumption); (case e3 => assumption); (case e4 => walk_at "lk"))
 | ((with_reducible refine' xP ?e1 ?e2 ?_); (case e1 => walk_at "ins"); (case e2 => walk_at "lk"))
 | ((with_reducible refine' yl ?e ?_); case e => walk_at "dat")
 | ((with_reducible refine' vx ?e ?_); case e => walk_at "dat")
 | ((with_reducible refine' yg ?e ?_); case e => walk_at "dat")
 | with_reducible refine DG ?_
 | with_reducible refine BO ?_
 | with_reducible refine DU ?_
 | with_reducible refine F2 ?_
 | ((with_reducible refine' GA ?e1 ?e2 (fun _ _ _ _ => ?_)); (case e1 => exact uD rfl); (case e2 => walk_at "dats"))
 | with_reducible refine Gp ?_
 | ((with_reducible refine' Fq ?e1 ?e2 (fun _ _ _ _ _ _ _ => ?_)); (case e1 => exact uD rfl); (case e2 => walk_at "dats"))
 | with_reducible refine IH ?_
 | with_reducible refine xD ?_
 | ((with_reducible refine xH ?_); (with_reducible refine xD ?_); ((with_reducible refine' DX ?e ?_); case e => exact rfl); ((with_reducible refine' xP ?e1 ?e2 ?_); (case e1 => walk_at "ins"); (case e2 => walk_at "lk")))
 | with_reducible refine oZ ?_
 | with_reducible refine FY ?_
 | with_reducible refine xh (fun _ _ => ?_)
 | walk_at "wds"
 | walk_at "mks"
 | walk_at "use"
 | walk_at "fin")
local macro_rules | `(tactic| walk_at "lat") => `(tactic| first
 | assumption
 | (refine' dq.keeps ?s ?m; (case s => assumption); (case m => walk_at "lat"))
 | (refine' dq.mv ?s ?n ?m; (case s => assumption); (case n => walk_at "nin"); (case m => walk_at "lat"))
 | fail)
local macro_rules | `(tactic| walk_at "nin") => `(tactic| first
 | (refine' An ?n1; (case n1 => walk_at "ne"))
 | fail)
local macro_rules | `(tactic| walk_at "ne") => `(tactic| first
 | assumption
 | (refine Ne.symm ?_; assumption)
 | (refine' dq.ne ?h ?n; (case n => assumption); (case h => walk_at "lat"))
 | (refine' Ne.symm (dq.ne ?h ?n); (case n => assumption); (case h => walk_at "lat"))
 | fail)
local macro_rules | `(tactic| walk_at "dla") => `(tactic| first
 | assumption
 | (refine' Ku.keeps ?s ?m; (case s => assumption); (case m => walk_at "dla"))
 | (refine' Ku.mv ?s ?n ?m; (case s => assumption); (case n => walk_at "nin"); (case m => walk_at "dla"))
 | fail)
local macro_rules | `(tactic| walk_at "ne") => `(tactic| first
 | (refine' Ku.ne ?h ?n; (case n => assumption); (case h => walk_at "dla"))
 | (refine' Ne.symm (Ku.ne ?h ?n); (case n => assumption); (case h => walk_at "dla"))
 | fail)
local macro_rules | `(tactic| walk_at "imm") => `(tactic| first
 | rfl
 | assumption
 | exact lS (fun _ => rfl) _
 | (refine' dq.Hm ?h; (case h => assumption))
 | fail)
local macro_rules | `(tactic| walk_at "dm") => `(tactic| first
 | exact fun _ h => h
 | (refine' zH ?a ?b; (case b => first | (refine' ao.NF ?c; (case c => assumption)) | (refine' Mv.dm ?c; (case c => assumption)) | fail); (case a => walk_at "dm"))
 | fail)
local macro_rules | `(tactic| walk_at "none") => `(tactic| first
 | assumption
 | (refine' G8 ?s ?m; (case m => assumption); (case s => walk_at "dm"))
 | fail)
local macro_rules | `(tactic| walk_at "same") => `(tactic| first
 | (refine' Mv.Ey ?s ?m ?n; (case m => assumption); (case s => walk_at "same"); (case n => walk_at "none"))
 | fail)
local macro_rules | `(tactic| walk_at "mv") => `(tactic| first
 | exact Mv.refl
 | assumption
 | (refine' Mv.step ?m ?s ?h; (case s => assumption); (case m => walk_at "mv"); (case h => walk_at "ours"))
 | fail)
set_option hygiene false in
local macro_rules | `(tactic| walk_at "ours") => `(tactic| first
 | fail)
local macro_rules | `(tactic| walk_at "dat") => `(tactic| first
 | (refine' dq.dv ?m; (case m => walk_at "lat"))
 | fail)
local macro_rules | `(tactic| walk_at "dats") => `(tactic| first
 | (refine' Mv.Ao ?s ?i ?m; (case s => assumption); (case i => walk_at "imm"); (case m => walk_at "dats"))
 | fail)
set_option hygiene false in
local macro_rules | `(tactic| walk_at "len") => `(tactic| first
 | (simp only [List.length_map, List.length_append, List.length_cons, List.length_nil]; omega)
 | omega
 | fail)
local macro_rules | `(tactic| walk_at "rd1") => `(tactic| first
 | with_reducible refine Dj ?_
 | with_reducible refine F3 ?_
 | with_reducible refine G3 ?_
 | with_reducible refine GO ?_
 | ((with_reducible refine' Jb ?e ?_); case e => walk_at "dat")
 | ((with_reducible refine' Du ?e ?_); case e => walk_at "len")
 | with_reducible refine BV ?_
 | with_reducible refine B5 ?_
 | with_reducible refine Lz ?_
 | with_reducible refine JT ?_
 | ((with_reducible refine' Ie ?e ?_); case e => walk_at "lat")
 | ((with_reducible refine' Jh ?e1 ?e2 ?e3 ?e4 (fun _ _ _ => ?_)); (case e1 => walk_at "lat"); (case e3 => walk_at "dat"); (case e2 => walk_at "len"); (case e4 => walk_at "imm"))
 | ((with_reducible refine' vT ?e1 ?e2 ?e3 (fun _ _ _ _ _ => ?_)); (case e1 => exact uD rfl); (case e2 => walk_at "dats"); (case e3 => exact rfl))
 | with_reducible refine Lr ?_
 | with_reducible refine FK ?_
 | with_reducible refine zA ?_
 | with_reducible refine C6 ?_
 | with_reducible refine Jc ?_
 | ((with_reducible refine' G1 ?e ?e2 ?_); (case e => walk_at "dat"); (case e2 => simp))
 | ((with_reducible refine' Aw ?e ?_); case e => walk_at "dat")
 | ((with_reducible refine' EV ?e ?_); case e => walk_at "dat")
 | ((with_reducible refine' kP ?e1 ?e2 ?_); (case e1 => walk_at "isq"); (case e2 => first | exact Hl | (refine' A5 ?a ?b; (case a => omega); (case b => walk_at "len")) | fail))
 | fail)
local macro_rules | `(tactic| walk_at "rd1") => `(tactic| first
 | with_reducible refine HU ?_
 | ((with_reducible refine' sx ?e1 ?e2 ?_); (case e1 => walk_at "dat"); (case e2 => walk_at "jn"))
 | ((with_reducible refine' IM ?e1 (fun _ _ _ => ?_)); (case e1 => walk_at "lat"))
 | ((with_reducible refine' sU _ ?e1 (fun _ _ _ _ _ => ?_)); (case e1 => walk_at "lat"))
 | ((with_reducible refine' As _ ?e1 (fun _ _ _ _ _ => ?_)); (case e1 => walk_at "lat"))
 | ((with_reducible refine' zB ?e1 ?e2 ?e3 (fun _ _ _ _ _ => ?_)); (case e1 => walk_at "lat"); (case e2 => walk_at "lat"); (case e3 => walk_at "len"))
 | fail)
set_option hygiene false in
local macro_rules | `(tactic| walk_at "rd1") => `(tactic| first
 | fail)
local macro_rules | `(tactic| walk_at "rd1") => `(tactic| first
 | with_reducible refine zl ?_
 | with_reducible refine z8 ?_
 | ((with_reducible refine' IU ?e1 ?_); (case e1 => walk_at "len"))
 | ((with_reducible refine' E7 ?e1 ?e2 ?_); (case e1 => assumption); (case e2 => walk_at "len"))
 | ((with_reducible refine' Gq ?e1 ?e2 ?e3 (fun _ _ _ => ?_)); (case e1 => exact rfl); (case e2 => omega); (case e3 => omega))
 | fail)
set_option hygiene false in
local macro_rules | `(tactic| walk_at "rd1") => `(tactic| first
 | fail)
set_option hygiene false in
local macro_rules | `(tactic| walk_at "rd1") => `(tactic| first
 | fail)
set_option hygiene false in
local macro_rules | `(tactic| walk_at "rd1") => `(tactic| first
 | with_reducible refine CU ?_
 | with_reducible refine DC ?_
 | with_reducible refine zT ?_
 | fail)
set_option hygiene false in
local macro_rules | `(tactic| walk_at "rd1") => `(tactic| first
 | with_reducible refine FT ?_
 | fail)
local macro_rules | `(tactic| walk_at "rd1") => `(tactic| first
 | with_reducible refine JL ?_
 | ((with_reducible refine' Hb ?e1 ?e2 (fun _ => ?_)); (case e1 => first | assumption | decide +kernel); (case e2 => decide +kernel))
 | fail)
def top (i : Nat) : Stmt := PySem.Challenge.pw_wakefew_k74_words_that_are_no_rule.main.body.getD i (.Pass ⟨0, 0, 0, 0⟩)
set_option hygiene false in
local macro_rules | `(tactic| walk_at "scp") => `(tactic| exact ⟨rfl, rfl, rfl, by decide +kernel, rfl, by decide +kernel, by decide +kernel⟩)
abbrev lK : Stmt := top 7
theorem uZ : aG ["thing"] ["thing"] (ak lK) := by walk_at "scp"
abbrev oB : Stmt := top 8
theorem iy : aG ["number", "piece", "parts"] ["number"] (ak oB) := by walk_at "scp"
abbrev iO : Stmt := top 10
theorem rA : aG ["number", "least", "what"] ["number", "least", "what"] (ak iO) := by walk_at "scp"
abbrev n8 : Stmt := top 11
theorem wL : aG ["number"] ["number"] (ak n8) := by walk_at "scp"
abbrev mZ : Stmt := top 12
theorem ya : aG ["kind", "numbers"] ["kind", "numbers"] (ak mZ) := by walk_at "scp"
abbrev eR : Stmt := inClass (top 13) 0
theorem oC : aG ["self", "many"] ["self", "many"] (ak eR) := by walk_at "scp"
abbrev eT : Stmt := inClass (top 14) 0
theorem gU : aG ["self", "first", "last"] ["self", "first", "last"] (ak eT) := by walk_at "scp"
abbrev iq : Stmt := inClass (top 14) 4
theorem rC : aG ["self"] ["self"] (ak iq) := by walk_at "scp"
abbrev eO : Stmt := inClass (top 15) 0
theorem oN : aG ["self", "start", "step", "wide", "many"] ["self", "start", "step", "wide", "many"] (ak eO) := by walk_at "scp"
abbrev ip : Stmt := inClass (top 15) 5
theorem rh : aG ["self"] ["self"] (ak ip) := by walk_at "scp"
abbrev d7 : Stmt := inClass (top 16) 0
theorem lL : aG ["self", "start", "gap", "wide", "many"] ["self", "start", "gap", "wide", "many"] (ak d7) := by walk_at "scp"
abbrev fx : Stmt := inClass (top 16) 6
theorem pG : aG ["self"] ["self"] (ak fx) := by walk_at "scp"
abbrev dJ : Stmt := inClass (top 17) 0
theorem kg : aG ["self", "start", "gap", "most", "wide", "many"] ["self", "start", "gap", "most", "wide", "many"] (ak dJ) := by walk_at "scp"
abbrev eY : Stmt := inClass (top 17) 3
theorem oJ : aG ["self"] ["self"] (ak eY) := by walk_at "scp"
abbrev qD : Stmt := top 22
theorem yj : aG ["good"] ["good"] (ak qD) := by walk_at "scp"
abbrev gy : Stmt := top 23
theorem nR : aG ["text", "row"] ["text"] (ak gy) := by walk_at "scp"
abbrev iS : Stmt := top 24
theorem rB : aG ["text"] ["text"] (ak iS) := by walk_at "scp"
abbrev jC : Stmt := top 25
theorem tf : aG ["word"] ["word"] (ak jC) := by walk_at "scp"
abbrev dX : Stmt := top 26
theorem kW : aG ["words", "kind"] ["words"] (ak dX) := by walk_at "scp"
abbrev ju : Stmt := top 27
theorem tH : aG ["kind", "numbers"] ["kind", "numbers"] (ak ju) := by walk_at "scp"
abbrev jP : Stmt := top 28
theorem fk : aG ["text", "kind", "numbers"] ["text"] (ak jP) := by walk_at "scp"
abbrev fB : Stmt := top 30
theorem pI : aG ["_law_script", "_law_k"] ["_law_script", "_law_k"] (ak fB) := by walk_at "scp"
abbrev gI : Stmt := top 31
theorem qj : aG ["_law_cell"] ["_law_cell"] (ak gI) := by walk_at "scp"
abbrev iY : Stmt := top 32
theorem cQ : aG ["_law_script", "_law_kind", "_law_start", "_law_gap", "_law_wide", "_law_many"] ["_law_script"] (ak iY) := by walk_at "scp"
abbrev fK : Stmt := top 33
theorem dB : aG ["_law_words_here", "_law_cell", "_law_place", "_law_odd", "_law_word"] ["_law_words_here", "_law_cell"] (ak fK) := by walk_at "scp"
abbrev iB : Stmt := top 34
theorem kI : aG ["_law_word", "_law_sign"] ["_law_word"] (ak iB) := by walk_at "scp"
abbrev gf : Stmt := top 35
theorem iI : aG ["_law_text", "_law_words_here", "_law_numbers"] ["_law_text"] (ak gf) := by walk_at "scp"
abbrev fC : Stmt := top 36
theorem i7 : aG ["_law_thing", "e"] ["_law_thing"] (ak fC) := by walk_at "scp"
abbrev Bu : Stmt := top 37
theorem ou : aG ["_law_script", "_law_words_here", "_law_text", "_law_other"] ["_law_script"] (ak Bu) := by walk_at "scp"
abbrev a7 : List (Str × Int) := [("once", 2), ("each", 4), ("behind", 4), ("slowing", 5)]
theorem kY : ¬ (("many" : Str) = "first") := by decide +kernel
theorem mz : ¬ (("many" : Str) = "last") := by decide +kernel
theorem kH : ¬ (("first" : Str) = "many") := by decide +kernel
theorem lu : ¬ (("first" : Str) = "last") := by decide +kernel
theorem nG : ¬ (("last" : Str) = "many") := by decide +kernel
theorem kD : ¬ (("last" : Str) = "first") := by decide +kernel
theorem gS : ¬ (("__init__" : Str) = "many") := by decide +kernel
theorem gx : ¬ (("__init__" : Str) = "first") := by decide +kernel
theorem gX : ¬ (("__init__" : Str) = "last") := by decide +kernel
theorem kR : ¬ (("begin" : Str) = "many") := by decide +kernel
theorem jF : ¬ (("begin" : Str) = "first") := by decide +kernel
theorem lh : ¬ (("begin" : Str) = "last") := by decide +kernel
theorem jK : ¬ (("follow" : Str) = "many") := by decide +kernel
theorem jj : ¬ (("follow" : Str) = "first") := by decide +kernel
theorem jS : ¬ (("follow" : Str) = "last") := by decide +kernel
theorem jq : ¬ (("let_by" : Str) = "many") := by decide +kernel
theorem i5 : ¬ (("let_by" : Str) = "first") := by decide +kernel
theorem jW : ¬ (("let_by" : Str) = "last") := by decide +kernel
theorem kZ : ¬ (("words" : Str) = "many") := by decide +kernel
theorem jt : ¬ (("words" : Str) = "first") := by decide +kernel
theorem kJ : ¬ (("words" : Str) = "last") := by decide +kernel
theorem nc : ¬ (("twin" : Str) = "many") := by decide +kernel
theorem ku : ¬ (("twin" : Str) = "first") := by decide +kernel
theorem mJ : ¬ (("twin" : Str) = "last") := by decide +kernel
theorem hU : ¬ (("place_of" : Str) = "many") := by decide +kernel
theorem f6 : ¬ (("place_of" : Str) = "first") := by decide +kernel
theorem hZ : ¬ (("place_of" : Str) = "last") := by decide +kernel
theorem kN : ¬ (("many" : Str) = "start") := by decide +kernel
theorem mG : ¬ (("many" : Str) = "step") := by decide +kernel
theorem nD : ¬ (("many" : Str) = "wide") := by decide +kernel
theorem lq : ¬ (("start" : Str) = "many") := by decide +kernel
theorem lA : ¬ (("start" : Str) = "step") := by decide +kernel
theorem kM : ¬ (("start" : Str) = "wide") := by decide +kernel
theorem mx : ¬ (("step" : Str) = "many") := by decide +kernel
theorem lj : ¬ (("step" : Str) = "start") := by decide +kernel
theorem ml : ¬ (("step" : Str) = "wide") := by decide +kernel
theorem nu : ¬ (("wide" : Str) = "many") := by decide +kernel
theorem lg : ¬ (("wide" : Str) = "start") := by decide +kernel
theorem nA : ¬ (("wide" : Str) = "step") := by decide +kernel
theorem gw : ¬ (("__init__" : Str) = "start") := by decide +kernel
theorem gQ : ¬ (("__init__" : Str) = "step") := by decide +kernel
theorem gP : ¬ (("__init__" : Str) = "wide") := by decide +kernel
theorem fE : ¬ (("stretch_of" : Str) = "many") := by decide +kernel
theorem fe : ¬ (("stretch_of" : Str) = "start") := by decide +kernel
theorem fL : ¬ (("stretch_of" : Str) = "step") := by decide +kernel
theorem fO : ¬ (("stretch_of" : Str) = "wide") := by decide +kernel
theorem jB : ¬ (("begin" : Str) = "start") := by decide +kernel
theorem k7 : ¬ (("begin" : Str) = "step") := by decide +kernel
theorem kn : ¬ (("begin" : Str) = "wide") := by decide +kernel
theorem i6 : ¬ (("follow" : Str) = "start") := by decide +kernel
theorem jD : ¬ (("follow" : Str) = "step") := by decide +kernel
theorem jV : ¬ (("follow" : Str) = "wide") := by decide +kernel
theorem jh : ¬ (("let_by" : Str) = "start") := by decide +kernel
theorem jz : ¬ (("let_by" : Str) = "step") := by decide +kernel
theorem j0 : ¬ (("let_by" : Str) = "wide") := by decide +kernel
theorem jQ : ¬ (("words" : Str) = "start") := by decide +kernel
theorem lz : ¬ (("words" : Str) = "step") := by decide +kernel
theorem lr : ¬ (("words" : Str) = "wide") := by decide +kernel
theorem kB : ¬ (("twin" : Str) = "start") := by decide +kernel
theorem m9 : ¬ (("twin" : Str) = "step") := by decide +kernel
theorem mn : ¬ (("twin" : Str) = "wide") := by decide +kernel
theorem gb : ¬ (("place_of" : Str) = "start") := by decide +kernel
theorem ia : ¬ (("place_of" : Str) = "step") := by decide +kernel
theorem gN : ¬ (("place_of" : Str) = "wide") := by decide +kernel
theorem oQ : ¬ (("many" : Str) = "gap") := by decide +kernel
theorem mr : ¬ (("start" : Str) = "gap") := by decide +kernel
theorem o6 : ¬ (("gap" : Str) = "many") := by decide +kernel
theorem m7 : ¬ (("gap" : Str) = "start") := by decide +kernel
theorem pe : ¬ (("gap" : Str) = "wide") := by decide +kernel
theorem o8 : ¬ (("wide" : Str) = "gap") := by decide +kernel
theorem ji : ¬ (("__init__" : Str) = "gap") := by decide +kernel
theorem gj : ¬ (("gap_ahead" : Str) = "many") := by decide +kernel
theorem fP : ¬ (("gap_ahead" : Str) = "start") := by decide +kernel
theorem ic : ¬ (("gap_ahead" : Str) = "gap") := by decide +kernel
theorem fU : ¬ (("gap_ahead" : Str) = "wide") := by decide +kernel
theorem md : ¬ (("begin" : Str) = "gap") := by decide +kernel
theorem k8 : ¬ (("follow" : Str) = "gap") := by decide +kernel
theorem kA : ¬ (("let_by" : Str) = "gap") := by decide +kernel
theorem nj : ¬ (("leap" : Str) = "many") := by decide +kernel
theorem kT : ¬ (("leap" : Str) = "start") := by decide +kernel
theorem oO : ¬ (("leap" : Str) = "gap") := by decide +kernel
theorem m8 : ¬ (("leap" : Str) = "wide") := by decide +kernel
theorem nk : ¬ (("words" : Str) = "gap") := by decide +kernel
theorem oW : ¬ (("twin" : Str) = "gap") := by decide +kernel
theorem jg : ¬ (("place_of" : Str) = "gap") := by decide +kernel
theorem mU : ¬ (("many" : Str) = "most") := by decide +kernel
theorem kK : ¬ (("start" : Str) = "most") := by decide +kernel
theorem pd : ¬ (("gap" : Str) = "most") := by decide +kernel
theorem me : ¬ (("wide" : Str) = "most") := by decide +kernel
theorem mV : ¬ (("most" : Str) = "many") := by decide +kernel
theorem ko : ¬ (("most" : Str) = "start") := by decide +kernel
theorem o9 : ¬ (("most" : Str) = "gap") := by decide +kernel
theorem mX : ¬ (("most" : Str) = "wide") := by decide +kernel
theorem gM : ¬ (("__init__" : Str) = "most") := by decide +kernel
theorem gD : ¬ (("gap_ahead" : Str) = "most") := by decide +kernel
theorem jo : ¬ (("let_by" : Str) = "most") := by decide +kernel
theorem kF : ¬ (("words" : Str) = "most") := by decide +kernel
theorem nH : ¬ (("twin" : Str) = "most") := by decide +kernel
theorem kU : ¬ (("begin" : Str) = "most") := by decide +kernel
theorem jT : ¬ (("follow" : Str) = "most") := by decide +kernel
theorem mq : ¬ (("leap" : Str) = "most") := by decide +kernel
theorem gW : ¬ (("place_of" : Str) = "most") := by decide +kernel
set_option hygiene false in
local macro_rules | `(tactic| walk_at "lk") => `(tactic| first
 | assumption
 | (rw [oP]; ((conv => lhs; simp only [look, reduceIte, qC, qd, gC, fM, kY, mz, kH, lu, nG, kD, gS, gx, gX, kR, jF, lh, jK, jj, jS, jq, i5, jW, kZ, jt, kJ, nc, ku, mJ, hU, f6, hZ, kN, mG, nD, lq, lA, kM, mx, lj, ml, nu, lg, nA, gw, gQ, gP, fE, fe, fL, fO, jB, k7, kn, i6, jD, jV, jh, jz, j0, jQ, lz, lr, kB, m9, mn, gb, ia, gN, oQ, mr, o6, m7, pe, o8, ji, gj, fP, ic, fU, md, k8, kA, nj, kT, oO, m8, nk, oW, jg, mU, kK, pd, me, mV, ko, o9, mX, gM, gD, jo, kF, nH, kU, jT, mq, gW]) <;> exact rfl)))
set_option hygiene false in
local macro_rules | `(tactic| walk_at "put") => `(tactic| ((conv => lhs; simp only [g7, reduceIte, qC, qd, gC, fM, kY, mz, kH, lu, nG, kD, gS, gx, gX, kR, jF, lh, jK, jj, jS, jq, i5, jW, kZ, jt, kJ, nc, ku, mJ, hU, f6, hZ, kN, mG, nD, lq, lA, kM, mx, lj, ml, nu, lg, nA, gw, gQ, gP, fE, fe, fL, fO, jB, k7, kn, i6, jD, jV, jh, jz, j0, jQ, lz, lr, kB, m9, mn, gb, ia, gN, oQ, mr, o6, m7, pe, o8, ji, gj, fP, ic, fU, md, k8, kA, nj, kT, oO, m8, nk, oW, jg, mU, kK, pd, me, mV, ko, o9, mX, gM, gD, jo, kF, nH, kU, jT, mq, gW]) <;> exact rfl))
structure g0 (K : PySem.W.Frag) (x q : Str) (s : Stmt) (d : Value) (f : Addr) : Prop where
 a : PySem.W.nsIn K mainGlobals x = some (some (.ref f))
 l : ∃ fd, cw K x q s f d fd
 k : PySem.W.keepIn K (.ref f) = true
structure tF (K : PySem.W.Frag) (C : Addr) (x q : Str) (s : Stmt) (d : Value) (f : Addr) : Prop where
 a : PySem.W.findIn K (.ref C) x = some (some (.ref f))
 l : ∃ fd, cw K x q s f d fd
 k : PySem.W.keepIn K (.ref f) = true
 i : PySem.W.isFn K (.ref f) = true
structure C7 (K : PySem.W.Frag) (C : Addr) : Prop where
 pg : PySem.W.plainGet K C Str.empty = true
 hd : PySem.W.hasDictIn K C = true
 po : PySem.W.plainOver K C = true
 sa : PySem.W.findIn K (.ref C) "__setattr__" = some (some (.builtin "object.__setattr__"))
 t1 : PySem.W.findIn K (.ref C) "__class__" = some (some (.builtin "object.__class__"))
 t2 : PySem.W.mroIn K C (.type "object") = some true
 t3 : PySem.W.typeIn K (.ref C) = some (.type "type")
theorem Dl {K : PySem.W.Frag} {t : Addr} {xs : Array Value} {n : Nat} {d : Option Addr} {z : Array (Option Value)} {c : Value} (l : K.lookup t = some ⟨c, d, .seq xs n, z⟩) : sD K t xs := ⟨⟨_, _, l, rfl⟩⟩
set_option genSizeOf false in
set_option genInjectivity false in
structure Ad where
 cC : Addr
 oX : FuncData
 dM : Addr
 qz : FuncData
 bP : Addr
 kX : FuncData
 dO : Addr
 qF : FuncData
 eJ : Addr
 rO : FuncData
 a6 : Addr
 g8 : FuncData
 bz : Addr
 ej : FuncData
 bH : Addr
 cH : Addr
 ly : FuncData
 bx : Addr
 ek : FuncData
 bG : Addr
 cD : Tok
 cG : Addr
 km : FuncData
 aH : Addr
 dH : FuncData
 a8 : Addr
 bS : Tok
 bJ : Addr
 jd : FuncData
 aS : Addr
 dj : FuncData
 aY : Addr
 bM : Tok
 bw : Addr
 ie : FuncData
 eH : Addr
 rP : FuncData
 cz : Addr
 mE : FuncData
 bV : Addr
 kO : FuncData
 cy : Addr
 m6 : FuncData
 bW : Addr
 kr : FuncData
 cA : Addr
 nV : FuncData
 cx : Addr
 mO : FuncData
 bh : Addr
 jl : FuncData
 bE : Addr
 jM : FuncData
 bT : Addr
 kG : FuncData
 bj : Addr
 jc : FuncData
 bU : Addr
 kQ : FuncData
 cB : Addr
 mF : FuncData
 bp : Addr
 i9 : FuncData
 kE : Addr
 tN : FuncData
 iH : Addr
 bB : Addr
 bo : Addr
 aB : Addr
 av : Addr
 eF : Addr
 au : Addr
 aq : Addr
 bD : Addr
 gs : Tok
 dg : Tok
 bF : Addr
structure Txt (K : PySem.W.Frag) (mg : Str -> Option Value) (a : Ad) : Prop where
 lO : cw K "is_whole" "is_whole" lK a.cC (.none) a.oX
 oY : PySem.W.keepIn K (.ref a.cC) = true
 oV : mg "is_whole" = some (.ref a.cC)
 oF : cw K "figures" "figures" oB a.dM (.none) a.qz
 qX : PySem.W.keepIn K (.ref a.dM) = true
 qK : mg "figures" = some (.ref a.dM)
 iL : cw K "check_from" "check_from" iO a.bP (.none) a.kX
 aP : PySem.W.keepIn K (.ref a.bP) = true
 aO : mg "check_from" = some (.ref a.bP)
 om : cw K "word_of" "word_of" n8 a.dO (.none) a.qF
 pX : PySem.W.keepIn K (.ref a.dO) = true
 qW : mg "word_of" = some (.ref a.dO)
 qQ : cw K "row_of" "row_of" mZ a.eJ (.none) a.rO
 hJ : PySem.W.keepIn K (.ref a.eJ) = true
 hV : mg "row_of" = some (.ref a.eJ)
 eX : cw K "__init__" "Rule.__init__" eR a.a6 (.none) a.g8
 eU : cw K "__init__" "Once.__init__" eT a.bz (.ref a.bH) a.ej
 jk : sD K a.bH #[.none]
 iR : cw K "words" "Once.words" iq a.cH (.none) a.ly
 eW : cw K "__init__" "Each.__init__" eO a.bx (.ref a.bG) a.ek
 je : sD K a.bG #[(.int 0 a.cD), .none]
 iE : cw K "words" "Each.words" ip a.cG (.none) a.km
 dZ : cw K "__init__" "Behind.__init__" d7 a.aH (.ref a.a8) a.dH
 gk : sD K a.a8 #[(.int 0 a.bS), .none]
 fQ : cw K "words" "Behind.words" fx a.bJ (.none) a.jd
 dE : cw K "__init__" "Slowing.__init__" dJ a.aS (.ref a.aY) a.dj
 fF : sD K a.aY #[(.int 0 a.bM), .none]
 eP : cw K "words" "Slowing.words" eY a.bw (.none) a.ie
 qO : cw K "demand" "demand" qD a.eH (.none) a.rP
 j5 : PySem.W.keepIn K (.ref a.eH) = true
 j8 : mg "demand" = some (.ref a.eH)
 jU : cw K "is_number" "is_number" gy a.cz (.none) a.mE
 mS : PySem.W.keepIn K (.ref a.cz) = true
 nW : mg "is_number" = some (.ref a.cz)
 iN : cw K "read_whole" "read_whole" iS a.bV (.none) a.kO
 eu : PySem.W.keepIn K (.ref a.bV) = true
 eG : mg "read_whole" = some (.ref a.bV)
 jw : cw K "read_many" "read_many" jC a.cy (.none) a.m6
 nP : PySem.W.keepIn K (.ref a.cy) = true
 my : mg "read_many" = some (.ref a.cy)
 iK : cw K "split_rule" "split_rule" dX a.bW (.none) a.kr
 ll : PySem.W.keepIn K (.ref a.bW) = true
 lb : mg "split_rule" = some (.ref a.bW)
 jy : cw K "make_rule" "make_rule" ju a.cA (.none) a.nV
 mB : PySem.W.keepIn K (.ref a.cA) = true
 nh : mg "make_rule" = some (.ref a.cA)
 jR : cw K "read_rule" "read_rule" jP a.cx (.none) a.mO
 da : PySem.W.keepIn K (.ref a.cx) = true
 df : mg "read_rule" = some (.ref a.cx)
 fD : cw K "_law_cell_at" "_law_cell_at" fB a.bh (.none) a.jl
 ay : PySem.W.keepIn K (.ref a.bh) = true
 az : mg "_law_cell_at" = some (.ref a.bh)
 gF : cw K "_law_number" "_law_number" gI a.bE (.none) a.jM
 bI : PySem.W.keepIn K (.ref a.bE) = true
 bL : mg "_law_number" = some (.ref a.bE)
 iC : cw K "_law_words" "_law_words" iY a.bT (.none) a.kG
 ky : PySem.W.keepIn K (.ref a.bT) = true
 kL : mg "_law_words" = some (.ref a.bT)
 fN : cw K "_law_changed" "_law_changed" fK a.bj (.none) a.jc
 eS : PySem.W.keepIn K (.ref a.bj) = true
 eV : mg "_law_changed" = some (.ref a.bj)
 iD : cw K "_law_value" "_law_value" iB a.bU (.none) a.kQ
 kq : PySem.W.keepIn K (.ref a.bU) = true
 kz : mg "_law_value" = some (.ref a.bU)
 jv : cw K "_law_good" "_law_good" gf a.cB (.none) a.mF
 nI : PySem.W.keepIn K (.ref a.cB) = true
 mH : mg "_law_good" = some (.ref a.cB)
 fG : cw K "_law_refused" "_law_refused" fC a.bp (.none) a.i9
 eZ : PySem.W.keepIn K (.ref a.bp) = true
 eM : mg "_law_refused" = some (.ref a.bp)
 Bp : cw K "law" "law" Bu a.kE (.none) a.tN
 A1 : mg "law" = some (.ref a.kE)
 pQ : mg "Rule" = some (.ref a.iH)
 xA : mg "Once" = some (.ref a.bB)
 eB : pz K a.bB
 fu : aK K a.bB "many"
 dr : aK K a.bB "first"
 dS : aK K a.bB "last"
 zk : Mk K a.bB a.bz
 iX : Meth K a.bB "words" a.cH
 xc : mg "Each" = some (.ref a.bo)
 ez : pz K a.bo
 d8 : aK K a.bo "many"
 dw : aK K a.bo "start"
 d6 : aK K a.bo "step"
 dQ : aK K a.bo "wide"
 zW : Mk K a.bo a.bx
 iG : Meth K a.bo "words" a.cG
 nZ : mg "Behind" = some (.ref a.aB)
 cR : pz K a.aB
 c3 : aK K a.aB "many"
 cL : aK K a.aB "start"
 dt : aK K a.aB "gap"
 c4 : aK K a.aB "wide"
 uH : Mk K a.aB a.aH
 fy : Meth K a.aB "words" a.bJ
 qb : mg "Slowing" = some (.ref a.av)
 bZ : pz K a.av
 cN : aK K a.av "many"
 cq : aK K a.av "start"
 cZ : aK K a.av "gap"
 cP : aK K a.av "wide"
 cO : aK K a.av "most"
 rT : Mk K a.av a.aS
 eQ : Meth K a.av "words" a.bw
 uA : mg "NoRow" = some (.ref a.eF)
 gR : mg "NoRule" = some (.ref a.au)
 ib : p7 K a.au
 j2 : mg "NoText" = some (.ref a.aq)
 g9 : p7 K a.aq
 mY : mg "WakeError" = some (.ref a.bD)
 gu : p7 K a.bD
 gY : PySem.W.mroIn K a.au (.ref a.au) = some true
 rH : Hg K a.aq
 dD : PySem.W.kitOne K (.ref a.aq) (.ref a.eF) = some false
 de : PySem.W.kitOne K (.ref a.aq) (.ref a.au) = some false
 c7 : PySem.W.kitOne K (.ref a.aq) (.ref a.aq) = some true
 fg : PySem.W.mroIn K a.aq (.ref a.bD) = some true
 gg : zy K a.aB "__init__" a.aH
 dy : zy K a.iH "__init__" a.a6
 qo : mg "FIGURES" = some (.str "0123456789" a.gs)
 iZ : mg "MOST_FIGURES" = some (.int 60 a.dg)
 iF : mg "LENGTHS" = some (.ref a.bF)
 sG : mg "all" = none
 pL : mg "bool" = none
 oI : mg "int" = none
 aW : mg "isinstance" = none
 ec : mg "len" = none
 sA : mg "min" = none
 cI : mg "str" = none
theorem FN {K : PySem.W.Frag} {h : Heap} {mg : Str -> Option Value} {cC dM bP dO eJ a6 bz bH cH bx bG cG aH a8 bJ aS aY bw eH cz bV cy bW cA cx bh bE bT bj bU cB bp kE iH bB bo aB av eF au aq bD bF : Addr} {cD bS bM gs dg : Tok}  (X : K.In h) (G : h.Ns mainGlobals mg)
 (Dq : PySem.W.nsIn K mainGlobals "Rule" = some (some (.ref iH)))
 (CP : PySem.W.nsIn K mainGlobals "Once" = some (some (.ref bB)))
 (Cg : PySem.W.nsIn K mainGlobals "Each" = some (some (.ref bo)))
 (yP : PySem.W.nsIn K mainGlobals "Behind" = some (some (.ref aB)))
 (wk : PySem.W.nsIn K mainGlobals "Slowing" = some (some (.ref av)))
 (Ax : PySem.W.nsIn K mainGlobals "NoRow" = some (some (.ref eF)))
 (yw : PySem.W.nsIn K mainGlobals "NoRule" = some (some (.ref au)))
 (ye : PySem.W.nsIn K mainGlobals "NoText" = some (some (.ref aq)))
 (tj : PySem.W.nsIn K mainGlobals "WakeError" = some (some (.ref bD)))
 (NN : PySem.W.specialIn K (.builtin "object.__class__") "__get__" = some (some (.builtin "getset_descriptor.__get__")))
 (OV : PySem.W.takesIn K (.builtin "object.__class__") = some true)
 (iQ : g0 K "is_whole" "is_whole" lK (.none) cC)
 (j6 : g0 K "figures" "figures" oB (.none) dM)
 (ft : g0 K "check_from" "check_from" iO (.none) bP)
 (j4 : g0 K "word_of" "word_of" n8 (.none) dO)
 (nN : g0 K "row_of" "row_of" mZ (.none) eJ)
 (fb : tF K iH "__init__" "Rule.__init__" eR (.none) a6)
 (dC : tF K bB "__init__" "Once.__init__" eT (.ref bH) bz)
 (pD : sD K bH #[.none])
 (dP : tF K bB "words" "Once.words" iq (.none) cH)
 (dz : tF K bo "__init__" "Each.__init__" eO (.ref bG) bx)
 (pk : sD K bG #[(.int 0 cD), .none])
 (d5 : tF K bo "words" "Each.words" ip (.none) cG)
 (bR : tF K aB "__init__" "Behind.__init__" d7 (.ref a8) aH)
 (nF : sD K a8 #[(.int 0 bS), .none])
 (cY : tF K aB "words" "Behind.words" fx (.none) bJ)
 (cF : tF K av "__init__" "Slowing.__init__" dJ (.ref aY) aS)
 (lJ : sD K aY #[(.int 0 bM), .none])
 (cM : tF K av "words" "Slowing.words" eY (.none) bw)
 (nM : g0 K "demand" "demand" qD (.none) eH)
 (gA : g0 K "is_number" "is_number" gy (.none) cz)
 (fh : g0 K "read_whole" "read_whole" iS (.none) bV)
 (fX : g0 K "read_many" "read_many" jC (.none) cy)
 (fw : g0 K "split_rule" "split_rule" dX (.none) bW)
 (gm : g0 K "make_rule" "make_rule" ju (.none) cA)
 (fV : g0 K "read_rule" "read_rule" jP (.none) cx)
 (d9 : g0 K "_law_cell_at" "_law_cell_at" fB (.none) bh)
 (eC : g0 K "_law_number" "_law_number" gI (.none) bE)
 (fv : g0 K "_law_words" "_law_words" iY (.none) bT)
 (dY : g0 K "_law_changed" "_law_changed" fK (.none) bj)
 (fi : g0 K "_law_value" "_law_value" iB (.none) bU)
 (gi : g0 K "_law_good" "_law_good" gf (.none) cB)
 (dR : g0 K "_law_refused" "_law_refused" fC (.none) bp)
 (AZ : g0 K "law" "law" Bu (.none) kE)
 (eB : C7 K bB)
 (fu : PySem.W.findIn K (.ref bB) "many" = some none)
 (dr : PySem.W.findIn K (.ref bB) "first" = some none)
 (dS : PySem.W.findIn K (.ref bB) "last" = some none)
 (Ds : PySem.W.makesIn K bB = true)
 (CY : PySem.W.keepIn K (.ref bB) = true)
 (ez : C7 K bo)
 (d8 : PySem.W.findIn K (.ref bo) "many" = some none)
 (dw : PySem.W.findIn K (.ref bo) "start" = some none)
 (d6 : PySem.W.findIn K (.ref bo) "step" = some none)
 (dQ : PySem.W.findIn K (.ref bo) "wide" = some none)
 (Dp : PySem.W.makesIn K bo = true)
 (Cp : PySem.W.keepIn K (.ref bo) = true)
 (cR : C7 K aB)
 (c3 : PySem.W.findIn K (.ref aB) "many" = some none)
 (cL : PySem.W.findIn K (.ref aB) "start" = some none)
 (dt : PySem.W.findIn K (.ref aB) "gap" = some none)
 (c4 : PySem.W.findIn K (.ref aB) "wide" = some none)
 (yG : PySem.W.makesIn K aB = true)
 (yH : PySem.W.keepIn K (.ref aB) = true)
 (bZ : C7 K av)
 (cN : PySem.W.findIn K (.ref av) "many" = some none)
 (cq : PySem.W.findIn K (.ref av) "start" = some none)
 (cZ : PySem.W.findIn K (.ref av) "gap" = some none)
 (cP : PySem.W.findIn K (.ref av) "wide" = some none)
 (cO : PySem.W.findIn K (.ref av) "most" = some none)
 (vi : PySem.W.makesIn K av = true)
 (wu : PySem.W.keepIn K (.ref av) = true)
 (AV : PySem.W.mroIn K eF (.type "object") = some true)
 (zU : PySem.W.typeIn K (.ref eF) = some (.type "type"))
 (ib : PySem.W.excIn K au [.type "ValueError", .type "Exception", .type "BaseException", .type "object"] "ValueError.__new__" = true)
 (yY : PySem.W.mroIn K au (.type "object") = some true)
 (yN : PySem.W.typeIn K (.ref au) = some (.type "type"))
 (g9 : PySem.W.excIn K aq [.type "ValueError", .type "Exception", .type "BaseException", .type "object"] "ValueError.__new__" = true)
 (rZ : PySem.W.mroIn K aq (.type "object") = some true)
 (yk : PySem.W.typeIn K (.ref aq) = some (.type "type"))
 (gu : PySem.W.excIn K bD [.type "ValueError", .type "Exception", .type "BaseException", .type "object"] "ValueError.__new__" = true)
 (oH : PySem.W.mroIn K au (.ref au) = some true)
 (yt : PySem.W.findIn K (.ref aq) "__getattribute__" = some (some (.builtin "BaseException.__getattribute__")))
 (yQ : PySem.W.findIn K (.ref aq) "__getattr__" = some none)
 (yU : PySem.W.mroIn K aq (.type "BaseException") = some true)
 (yh : PySem.W.hasDictIn K aq = true)
 (yq : PySem.W.findIn K (.ref aq) "__class__" = some (some (.builtin "object.__class__")))
 (dD : PySem.W.mroIn K aq (.ref eF) = some false)
 (pB : (aq == eF) = false)
 (de : PySem.W.mroIn K aq (.ref au) = some false)
 (oq : (aq == au) = false)
 (c7 : PySem.W.mroIn K aq (.ref aq) = some true)
 (ka : PySem.W.mroIn K aq (.ref bD) = some true)
 (lB : PySem.W.specialIn K (.ref aB) "__getattribute__" = some (some (.builtin "type.__getattribute__")))
 (lC : PySem.W.readsIn K aB (.type "type") = true)
 (lU : PySem.W.findCls K (.ref aB) (.type "type") "__init__" = some (.val (.ref aH)))
 (oM : PySem.W.specialIn K (.ref iH) "__getattribute__" = some (some (.builtin "type.__getattribute__")))
 (oo : PySem.W.readsIn K iH (.type "type") = true)
 (oA : PySem.W.findCls K (.ref iH) (.type "type") "__init__" = some (.val (.ref a6)))
 (wq : PySem.W.nsIn K mainGlobals "FIGURES" = some (some (.str "0123456789" gs)))
 (pE : PySem.W.nsIn K mainGlobals "MOST_FIGURES" = some (some (.int 60 dg)))
 (wJ : PySem.W.nsIn K mainGlobals "LENGTHS" = some (some (.ref bF)))
 (sG : PySem.W.nsIn K mainGlobals "all" = some none)
 (pL : PySem.W.nsIn K mainGlobals "bool" = some none)
 (oI : PySem.W.nsIn K mainGlobals "int" = some none)
 (aW : PySem.W.nsIn K mainGlobals "isinstance" = some none)
 (ec : PySem.W.nsIn K mainGlobals "len" = some none)
 (sA : PySem.W.nsIn K mainGlobals "min" = some none)
 (cI : PySem.W.nsIn K mainGlobals "str" = some none)
 : ∃ a : Ad, a.kE = a.kE /\ Txt K mg a :=
 ⟨⟨cC, iQ.l.choose, dM, j6.l.choose, bP, ft.l.choose, dO, j4.l.choose, eJ, nN.l.choose, a6, fb.l.choose, bz, dC.l.choose, bH, cH, dP.l.choose, bx, dz.l.choose, bG, cD, cG, d5.l.choose, aH, bR.l.choose, a8, bS, bJ, cY.l.choose, aS, cF.l.choose, aY, bM, bw, cM.l.choose, eH, nM.l.choose, cz, gA.l.choose, bV, fh.l.choose, cy, fX.l.choose, bW, fw.l.choose, cA, gm.l.choose, cx, fV.l.choose, bh, d9.l.choose, bE, eC.l.choose, bT, fv.l.choose, bj, dY.l.choose, bU, fi.l.choose, cB, gi.l.choose, bp, dR.l.choose, kE, AZ.l.choose, iH, bB, bo, aB, av, eF, au, aq, bD, gs, dg, bF⟩, rfl, {
   lO := iQ.l.choose_spec,
   oY := iQ.k,
   oV := PySem.W.mg_of X G iQ.a,
   oF := j6.l.choose_spec,
   qX := j6.k,
   qK := PySem.W.mg_of X G j6.a,
   iL := ft.l.choose_spec,
   aP := ft.k,
   aO := PySem.W.mg_of X G ft.a,
   om := j4.l.choose_spec,
   pX := j4.k,
   qW := PySem.W.mg_of X G j4.a,
   qQ := nN.l.choose_spec,
   hJ := nN.k,
   hV := PySem.W.mg_of X G nN.a,
   eX := fb.l.choose_spec,
   eU := dC.l.choose_spec,
   jk := pD,
   iR := dP.l.choose_spec,
   eW := dz.l.choose_spec,
   je := pk,
   iE := d5.l.choose_spec,
   dZ := bR.l.choose_spec,
   gk := nF,
   fQ := cY.l.choose_spec,
   dE := cF.l.choose_spec,
   fF := lJ,
   eP := cM.l.choose_spec,
   qO := nM.l.choose_spec,
   j5 := nM.k,
   j8 := PySem.W.mg_of X G nM.a,
   jU := gA.l.choose_spec,
   mS := gA.k,
   nW := PySem.W.mg_of X G gA.a,
   iN := fh.l.choose_spec,
   eu := fh.k,
   eG := PySem.W.mg_of X G fh.a,
   jw := fX.l.choose_spec,
   nP := fX.k,
   my := PySem.W.mg_of X G fX.a,
   iK := fw.l.choose_spec,
   ll := fw.k,
   lb := PySem.W.mg_of X G fw.a,
   jy := gm.l.choose_spec,
   mB := gm.k,
   nh := PySem.W.mg_of X G gm.a,
   jR := fV.l.choose_spec,
   da := fV.k,
   df := PySem.W.mg_of X G fV.a,
   fD := d9.l.choose_spec,
   ay := d9.k,
   az := PySem.W.mg_of X G d9.a,
   gF := eC.l.choose_spec,
   bI := eC.k,
   bL := PySem.W.mg_of X G eC.a,
   iC := fv.l.choose_spec,
   ky := fv.k,
   kL := PySem.W.mg_of X G fv.a,
   fN := dY.l.choose_spec,
   eS := dY.k,
   eV := PySem.W.mg_of X G dY.a,
   iD := fi.l.choose_spec,
   kq := fi.k,
   kz := PySem.W.mg_of X G fi.a,
   jv := gi.l.choose_spec,
   nI := gi.k,
   mH := PySem.W.mg_of X G gi.a,
   fG := dR.l.choose_spec,
   eZ := dR.k,
   eM := PySem.W.mg_of X G dR.a,
   Bp := AZ.l.choose_spec,
   A1 := PySem.W.mg_of X G AZ.a,
   pQ := PySem.W.mg_of X G Dq,
   xA := PySem.W.mg_of X G CP,
   eB := ⟨eB.pg, eB.hd, eB.po, eB.sa⟩,
   fu := fu,
   dr := dr,
   dS := dS,
   zk := ⟨Ds, dC.a, dC.i, CY⟩,
   iX := ⟨dP.a, dP.i, dP.k⟩,
   xc := PySem.W.mg_of X G Cg,
   ez := ⟨ez.pg, ez.hd, ez.po, ez.sa⟩,
   d8 := d8,
   dw := dw,
   d6 := d6,
   dQ := dQ,
   zW := ⟨Dp, dz.a, dz.i, Cp⟩,
   iG := ⟨d5.a, d5.i, d5.k⟩,
   nZ := PySem.W.mg_of X G yP,
   cR := ⟨cR.pg, cR.hd, cR.po, cR.sa⟩,
   c3 := c3,
   cL := cL,
   dt := dt,
   c4 := c4,
   uH := ⟨yG, bR.a, bR.i, yH⟩,
   fy := ⟨cY.a, cY.i, cY.k⟩,
   qb := PySem.W.mg_of X G wk,
   bZ := ⟨bZ.pg, bZ.hd, bZ.po, bZ.sa⟩,
   cN := cN,
   cq := cq,
   cZ := cZ,
   cP := cP,
   cO := cO,
   rT := ⟨vi, cF.a, cF.i, wu⟩,
   eQ := ⟨cM.a, cM.i, cM.k⟩,
   uA := PySem.W.mg_of X G Ax,
   gR := PySem.W.mg_of X G yw,
   ib := ib,
   j2 := PySem.W.mg_of X G ye,
   g9 := g9,
   mY := PySem.W.mg_of X G tj,
   gu := gu,
   gY := oH,
   rH := ⟨yt, yQ, yU, yh, ⟨yq, NN, OV, rZ⟩⟩,
   dD := xi AV zU dD pB,
   de := xi yY yN de oq,
   c7 := xg rZ yk c7,
   fg := ka,
   gg := ⟨lB, lC, lU, bR.k⟩,
   dy := ⟨oM, oo, oA, fb.k⟩,
   qo := PySem.W.mg_of X G wq,
   iZ := PySem.W.mg_of X G pE,
   iF := PySem.W.mg_of X G wJ,
   sG := PySem.W.mg_none_of X G sG,
   pL := PySem.W.mg_none_of X G pL,
   oI := PySem.W.mg_none_of X G oI,
   aW := PySem.W.mg_none_of X G aW,
   ec := PySem.W.mg_none_of X G ec,
   sA := PySem.W.mg_none_of X G sA,
   cI := PySem.W.mg_none_of X G cI
 }⟩
theorem Txt.uB {K : PySem.W.Frag} {mg : Str -> Option Value} {a : Ad} (T : Txt K mg a) : vj K a.au := p7.o T.ib
theorem Txt.zz {K : PySem.W.Frag} {mg : Str -> Option Value} {a : Ad} (T : Txt K mg a) : vj K a.aq := p7.o T.g9
theorem Txt.tZ {K : PySem.W.Frag} {mg : Str -> Option Value} {a : Ad} (T : Txt K mg a) : vj K a.bD := p7.o T.gu
theorem Txt.nJ {K : PySem.W.Frag} {mg : Str -> Option Value} {a : Ad} (T : Txt K mg a) : Dy K a.au a.au true := ⟨T.uB, T.gY⟩
theorem Txt.jr {K : PySem.W.Frag} {mg : Str -> Option Value} {a : Ad} (T : Txt K mg a) : Dy K a.bD a.aq true := ⟨T.zz, T.fg⟩
def mL : Sp := fun vs H Q _ => ∃ v d, vs = [v] /\ Dv H v d /\ Q (.bl (isInt d && !isBool d)) H
theorem BR {H : Hp} {Q : VK} {E : XK} {v : V} {d : PyData} (h : Dv H v d) (q : Q (.bl (isInt d && !isBool d)) H) : mL [v] H Q E := ⟨v, d, rfl, h, q⟩
def oi (C : Addr) : Sp := fun vs H Q E => ∃ b, vs = [.bl b] /\ (b = false -> E (.ref C) none H) /\ (b = true -> Q .cj H)
theorem Aa {C : Addr} {H : Hp} {Q : VK} {E : XK} {b : Bool} (h : b = false -> E (.ref C) none H) (q : b = true -> Q .cj H) : oi C [.bl b] H Q E := ⟨b, rfl, h, q⟩
def qN (C : Addr) : Sp := fun vs H Q E => ∃ n l x, vs = [.int n, .int l, .str x] /\ x.length <= 1000 /\ (n < l -> E (.ref C) none H) /\ (l <= n -> Q .cj H)
theorem DR {C : Addr} {H : Hp} {Q : VK} {E : XK} {n l : Int} {x : Str} (hx : x.length <= 1000) (h : n < l -> E (.ref C) none H) (q : l <= n -> Q .cj H) : qN C [.int n, .int l, .str x] H Q E := ⟨n, l, x, rfl, hx, h, q⟩
def CZ (m : V) : Prop := m = .cj \/ ∃ n, m = .int n
def xY : V -> Bool
 | .int n => decide (1 <= n)
 | _ => true
def iP (C CE : Addr) : Sp := fun vs H Q E => ∃ p dx m, vs = [.ref p, m] /\ CZ m /\ H p = some (.ins C dx []) /\ (xY m = false -> E (.ref CE) none H) /\ (xY m = true -> Q .cj (upd H p (.ins C dx [("many", m)])))
theorem ug {C CE p dx : Addr} {H : Hp} {Q : VK} {E : XK} {m : V} (hm : CZ m) (hp : H p = some (.ins C dx [])) (h : xY m = false -> E (.ref CE) none H) (q : xY m = true -> Q .cj (upd H p (.ins C dx [("many", m)]))) : iP C CE [.ref p, m] H Q E := ⟨p, dx, m, rfl, hm, hp, h, q⟩
set_option hygiene false in
local macro_rules | `(tactic| walk_at "mok") => `(tactic| first
 | assumption
 | exact Or.inl rfl
 | exact Or.inr ⟨_, rfl⟩)
local macro_rules | `(tactic| walk_at "use") => `(tactic| first
 | ((with_reducible refine' BR ?e ?_); case e => walk_at "dat")
 | with_reducible refine Aa ?_ ?_
 | ((with_reducible refine' DR ?e1 ?_ ?_); (case e1 => decide +kernel))
 | ((with_reducible refine' ug ?e1 ?e2 ?_ ?_); (case e1 => walk_at "mok"); (case e2 => walk_at "at"))
 | fail)
section
variable {P : Program} {w : World} {K : PySem.W.Frag} {mg : Str -> Option Value} {base : Heap} {a : Ad}
theorem x9 (T : Txt K mg a) : bf P w K mg base (nX P w) 1 a.eH a.rP ["good"] (oi a.aq) := by
 refine T.qO.zo yj (fun vs H Q E h => ?_) (fun dn A outer s H vs Q E hr h => ?_)
 . obtain ⟨_, rfl, _⟩ := h; rfl
 . obtain ⟨b, rfl, k1, k2⟩ := h
   refine ⟨_, (aj (by exact (bN (n6 (eK (pv 0) (fun _ => rfl)))
    (aj (by exact (oK vo rfl (af ax ag) rfl T.j2 T.g9 rfl)))
    aI))), ?_⟩
   repeat' (walk_at "rd1")
   . exact k1 (by assumption)
   . exact k2 (by assumption)
theorem lE (T : Txt K mg a) : lV P w K mg base 1 a.eH ["good"] [] (oi a.aq) :=
 ⟨⟨_, _, x9 T, T.qO.binds fun _ _ _ _ _ _ => .all fun us hl => match us, hl with | [_], _ => rfl, .nil⟩⟩
theorem uF (T : Txt K mg a) : bf P w K mg base q9 1 a.cC a.oX ["thing"] mL := by
 refine T.lO.ok uZ (fun vs H Q E h => ?_) (fun dn A outer s H vs Q E hr h => ?_)
 . obtain ⟨_, _, rfl, _⟩ := h; rfl
 . obtain ⟨v, d, rfl, hd, k⟩ := h
   refine ⟨_, (aj (by exact (aE (jJ (aT mW rfl T.aW PyProof.Rows.boot_isinstance (af (pv 0) (af (pV (v := .ty "int") rfl T.oI PyProof.Rows.boot_int rfl) ag))) (jZ (F5 (aT mW rfl T.aW PyProof.Rows.boot_isinstance (af (pv 0) (af (pV (v := .ty "bool") rfl T.pL PyProof.Rows.boot_bool rfl) ag))))))))), ?_⟩
   repeat' (walk_at "rd1")
   . refine IV ?_; cases d <;> simp_all [isInt, isBool]
   . refine IV ?_; cases d <;> simp_all [isInt, isBool]
theorem s9 (T : Txt K mg a) : rn P w K mg base 1 a.cC ["thing"] [] mL :=
 ⟨⟨_, _, uF T, T.lO.binds fun _ _ _ _ _ _ => .all fun us hl => match us, hl with | [_], _ => rfl, .nil⟩⟩
theorem rE (T : Txt K mg a) : bf P w K mg base (nX P w) 2 a.bP a.kX ["number", "least", "what"] (qN a.au) := by
 have wt : rn P w K mg base 1 a.cC ["thing"] [] mL := s9 T
 refine T.iL.zo rA (fun vs H Q E h => ?_) (fun dn A outer s H vs Q E hr h => ?_)
 . obtain ⟨_, _, _, rfl, _⟩ := h; rfl
 . obtain ⟨n, l, x, rfl, hx, k1, k2⟩ := h
   refine ⟨_, (aj (by exact (bN (PW.pt (qc (n6 (eK (aF wt (hr.mono (by decide)) rfl T.oV T.oY (af (pv 0) ag)) (fun _ => rfl))) (qf (aA qq (pv 0) (pv 1) (aw _)))))
    (aj (by exact (oK vo rfl (af (AH (pv 2)) ag) rfl T.gR T.ib rfl)))
    aI))), ?_⟩
   repeat' (walk_at "rd1")
   . exact k1 (by assumption)
   . exact k2 (by omega)
theorem c6 (T : Txt K mg a) : lV P w K mg base 2 a.bP ["number", "least", "what"] [] (qN a.au) :=
 ⟨⟨_, _, rE T, T.iL.binds fun _ _ _ _ _ _ => .all fun us hl => match us, hl with | [_, _, _], _ => rfl, .nil⟩⟩
theorem si {C : Addr} (T : Txt K mg a) (cl : pz K C) (na : aK K C "many") : bf P w K mg base (nX P w) 3 a.a6 a.g8 ["self", "many"] (iP C a.au) := by
 have aL := c6 (P := P) (w := w) (base := base) T
 refine T.eX.zo oC (fun vs H Q E h => ?_) (fun dn A outer s H vs Q E hr h => ?_)
 . obtain ⟨_, _, _, rfl, _⟩ := h; rfl
 . obtain ⟨p, dx, m, rfl, hm, hp, k1, k2⟩ := h
   refine ⟨_, (ai (by exact (bN (aA DB (pv 1) oy (aw _))
    (aj (by exact (bq (bC aL (hr.mono (by decide)) rfl T.aO T.aP di (af (pv 1) (af ah (af ax ag)))))))
    aI))
    (aj (gH (pv 0) (pv 1) rfl))), ?_⟩
   rcases hm with rfl | ⟨i, rfl⟩
   . repeat' (walk_at "rd1")
     exact k2 rfl
   . repeat' (walk_at "rd1")
     . intro hi; exact k1 (by simp [xY]; omega)
     . intro hi
       repeat' (walk_at "rd1")
       exact k2 (by simp [xY]; omega)
theorem gK {C : Addr} (T : Txt K mg a) (cl : pz K C) (na : aK K C "many") : lV P w K mg base 3 a.a6 ["self", "many"] [] (iP C a.au) :=
 ⟨⟨_, _, si T cl na, T.eX.binds fun _ _ _ _ _ _ => .all fun us hl => match us, hl with | [_, _], _ => rfl, .nil⟩⟩
def Bt (p : Addr) (H H' : Hp) : Prop := ∀ b, b ≠ p -> H' b = H b
theorem Bt.rfl' {p : Addr} {H : Hp} : Bt p H H := fun _ _ => rfl
theorem Bt.up {p : Addr} {H : Hp} {o : HO} : Bt p H (upd H p o) := fun b hb => aJ hb
def qZ (C CE : Addr) (ok : List V -> Bool) (gd : List V -> Prop) (fs : List V -> List (Str × V)) : Sp := fun vs H Q E => ∃ p dx us, vs = .ref p :: us /\ gd us /\ H p = some (.ins C dx []) /\ (ok us = false -> ∀ H', Bt p H H' -> E (.ref CE) none H') /\ (ok us = true -> Q .cj (upd H p (.ins C dx (fs us))))
theorem Jq {C CE p dx : Addr} {ok : List V -> Bool} {gd : List V -> Prop} {fs : List V -> List (Str × V)} {us : List V} {H : Hp} {Q : VK} {E : XK} (hg : gd us) (hp : H p = some (.ins C dx [])) (h : ok us = false -> ∀ H', Bt p H H' -> E (.ref CE) none H') (q : ok us = true -> Q .cj (upd H p (.ins C dx (fs us)))) : qZ C CE ok gd fs (.ref p :: us) H Q E := ⟨p, dx, us, rfl, hg, hp, h, q⟩
theorem vH {C CE : Addr} {ok : List V -> Bool} {gd : List V -> Prop} {fs : List V -> List (Str × V)} {us ws : List V} {H : Hp} {Q : VK} {E : XK} (e : us = ws) (hg : gd ws) (h : ok ws = false -> ∀ H', ao H H' -> E (.ref CE) none H') (q : ok ws = true -> ∀ v H', ao H H' -> tP H' v C (fs ws) -> Q v H') : xf C (qZ C CE ok gd fs) us H Q E := by
 refine ⟨ws, e, fun x dx hx N9 kh => ?_⟩
 have s0 : ∀ H', Bt x (upd (upd H dx (.own x)) x (.ins C dx [])) H' -> ao H H' := fun H' hb b o Jk => by
  have n1 : b ≠ x := fun z => by rw [z, hx] at Jk; cases Jk
  have n2 : b ≠ dx := fun z => by rw [z, N9] at Jk; cases Jk
  rw [hb b n1, aJ n1, aJ n2]
  exact Jk
 exact Jq hg aN (fun ho H' hb => h ho _ (s0 H' hb)) (fun ho => ⟨rfl, q ho _ _ (s0 _ Bt.up) ⟨x, dx, rfl, aN⟩⟩)
def Bw : List V -> Bool
 | [.int x, .int y] => decide (0 <= x) && decide (x <= y)
 | _ => false
def Ng (us : List V) : Prop := ∃ x y, us = [.int x, .int y]
def yn : List V -> Bool
 | [.int st, .int sp, .int wd, m] => decide (0 <= st) && (decide (1 <= sp) && (decide (0 <= wd) && (decide (wd < sp) && xY m)))
 | _ => false
def wc : List V -> Bool
 | [.int st, .int gp, .int wd, m] => decide (0 <= st) && (decide (1 <= gp) && (decide (0 <= wd) && xY m))
 | _ => false
def IY (us : List V) : Prop := ∃ x y z m, us = [.int x, .int y, .int z, m] /\ CZ m
def BI : List V -> Bool
 | [.int st, .int gp, .int mo, .int wd, m] => decide (0 <= st) && (decide (1 <= gp) && (decide (0 <= wd) && (xY m && decide (gp <= mo))))
 | _ => false
def M0 (us : List V) : Prop := ∃ x y u z m, us = [.int x, .int y, .int u, .int z, m] /\ CZ m
theorem zh (T : Txt K mg a) : Binds K a.ej ["self", "first", "last"] [] := T.eU.binds fun _ _ _ _ _ _ s us kx hl => by
 obtain ⟨o, n, h1, h2⟩ := T.jk.ex
 have hl : us.length = 3 := by simp at hl; omega
 match us, hl with
 | [_, _, _], _ => exact PySem.W.binds_K kx rfl h1 h2 rfl rfl
theorem sk (T : Txt K mg a) : bf P w K mg base (nX P w) 4 a.bz a.ej ["self", "first", "last"] (qZ a.bB a.au Bw Ng qC) := by
 have cl := T.eB; have n1 := T.fu; have n2 := T.dr; have n3 := T.dS
 have aL := c6 (P := P) (w := w) (base := base) T
 have cK := gK (P := P) (w := w) (base := base) T cl n1
 refine T.eU.zo gU (fun vs H Q E h => ?_) (fun dn A outer s H vs Q E hr h => ?_)
 . obtain ⟨_, _, _, rfl, ⟨_, _, rfl⟩, _⟩ := h; rfl
 . obtain ⟨p, dx, _, rfl, ⟨x, y, rfl⟩, hp, k1, k2⟩ := h
   refine ⟨_, (ai (by exact (bq (bC aL (hr.mono (by decide)) rfl T.aO T.aP di (af (pv 1) (af ah (af ax ag))))))
    (ai (by exact (bN (aA Ai (pv 2) oy (aw _))
     (aj (by exact (cT (i := 2) gU.nd rfl (Or.inl rfl) (pv 1))))
     aI))
    (ai (by exact (bq (bC aL (hr.mono (by decide)) rfl T.aO T.aP di (af (pv 2) (af (pv 1) (af ax ag))))))
    (ai (by exact (bq (pN rfl T.pQ T.dy cK (hr.mono (by decide)) di (af (pv 0) (af ah ag)))))
    (ai (gH (pv 0) (pv 1) rfl)
    (aj (gH (pv 0) (pv 2) rfl))))))), ?_⟩
   repeat' (walk_at "rd1")
   . intro hx; exact k1 (by simp [Bw]; omega) _ Bt.rfl'
   . intro hx
     repeat' (walk_at "rd1")
     . intro hy; exact k1 (by simp [Bw]; omega) _ Bt.rfl'
     . intro hy
       repeat' (walk_at "rd1")
       . intro z; cases z
       . intro _
         repeat' (walk_at "rd1")
         simp only [pM]
         exact k2 (by simp [Bw]; omega)
theorem vQ (T : Txt K mg a) : lV P w K mg base 4 a.bz ["self", "first", "last"] [] (qZ a.bB a.au Bw Ng qC) :=
 ⟨⟨_, _, sk T, zh T, .nil⟩⟩
theorem zr (T : Txt K mg a) : Binds K a.ek ["self", "start", "step", "wide", "many"] [] := T.eW.binds fun _ _ _ _ _ _ s us kx hl => by
 obtain ⟨o, n, h1, h2⟩ := T.je.ex
 have hl : us.length = 5 := by simp at hl; omega
 match us, hl with
 | [_, _, _, _, _], _ => exact PySem.W.binds_K kx rfl h1 h2 rfl rfl
theorem sC (T : Txt K mg a) : bf P w K mg base (nX P w) 4 a.bx a.ek ["self", "start", "step", "wide", "many"] (qZ a.bo a.au yn IY qd) := by
 have cl := T.ez; have n1 := T.d8; have n2 := T.dw; have n3 := T.d6; have n4 := T.dQ
 have aL := c6 (P := P) (w := w) (base := base) T
 have cK := gK (P := P) (w := w) (base := base) T cl n1
 refine T.eW.zo oN (fun vs H Q E h => ?_) (fun dn A outer s H vs Q E hr h => ?_)
 . obtain ⟨_, _, _, rfl, ⟨_, _, _, _, rfl, _⟩, _⟩ := h; rfl
 . obtain ⟨p, dx, _, rfl, ⟨x, y, z, m, rfl, hm⟩, hp, k1, k2⟩ := h
   refine ⟨_, (ai (by exact (bq (bC aL (hr.mono (by decide)) rfl T.aO T.aP di (af (pv 1) (af ah (af ax ag))))))
    (ai (by exact (bq (bC aL (hr.mono (by decide)) rfl T.aO T.aP di (af (pv 2) (af ah (af ax ag))))))
    (ai (by exact (bq (bC aL (hr.mono (by decide)) rfl T.aO T.aP di (af (pv 3) (af ah (af ax ag))))))
    (ai (by exact (bN (aA Ek (pv 3) (pv 2) (aw _))
     (aj (by exact (oK vo rfl (af ax ag) rfl T.gR T.ib rfl)))
     aI))
    (ai (by exact (bq (pN rfl T.pQ T.dy cK (hr.mono (by decide)) di (af (pv 0) (af (pv 4) ag)))))
    (ai (gH (pv 0) (pv 1) rfl)
    (ai (gH (pv 0) (pv 2) rfl)
    (aj (gH (pv 0) (pv 3) rfl))))))))), ?_⟩
   repeat' (walk_at "rd1")
   . intro hx; exact k1 (by simp [yn]; omega) _ Bt.rfl'
   . intro hx
     repeat' (walk_at "rd1")
     . intro hy; exact k1 (by simp [yn]; omega) _ Bt.rfl'
     . intro hy
       repeat' (walk_at "rd1")
       . intro hz; exact k1 (by simp [yn]; omega) _ Bt.rfl'
       . intro hz
         repeat' (walk_at "rd1")
         . exact k1 (by simp [yn]; omega) _ Bt.rfl'
         . intro Mu; exact k1 (by simp [yn, Mu]) _ Bt.rfl'
         . intro KR
           repeat' (walk_at "rd1")
           simp only [pM]
           exact k2 (by simp [yn, KR]; omega)
theorem wG (T : Txt K mg a) : lV P w K mg base 4 a.bx ["self", "start", "step", "wide", "many"] [] (qZ a.bo a.au yn IY qd) :=
 ⟨⟨_, _, sC T, zr T, .nil⟩⟩
theorem vM (T : Txt K mg a) : Binds K a.dH ["self", "start", "gap", "wide", "many"] [] := T.dZ.binds fun _ _ _ _ _ _ s us kx hl => by
 obtain ⟨o, n, h1, h2⟩ := T.gk.ex
 have hl : us.length = 5 := by simp at hl; omega
 match us, hl with
 | [_, _, _, _, _], _ => exact PySem.W.binds_K kx rfl h1 h2 rfl rfl
theorem qU {C : Addr} (T : Txt K mg a) (cl : pz K C) (n1 : aK K C "many") (n2 : aK K C "start") (n3 : aK K C "gap") (n4 : aK K C "wide") : bf P w K mg base (nX P w) 4 a.aH a.dH ["self", "start", "gap", "wide", "many"] (qZ C a.au wc IY gC) := by
 have aL := c6 (P := P) (w := w) (base := base) T
 have cK := gK (P := P) (w := w) (base := base) T cl n1
 refine T.dZ.zo lL (fun vs H Q E h => ?_) (fun dn A outer s H vs Q E hr h => ?_)
 . obtain ⟨_, _, _, rfl, ⟨_, _, _, _, rfl, _⟩, _⟩ := h; rfl
 . obtain ⟨p, dx, _, rfl, ⟨x, y, z, m, rfl, hm⟩, hp, k1, k2⟩ := h
   refine ⟨_, (ai (by exact (bq (bC aL (hr.mono (by decide)) rfl T.aO T.aP di (af (pv 1) (af ah (af ax ag))))))
    (ai (by exact (bq (bC aL (hr.mono (by decide)) rfl T.aO T.aP di (af (pv 2) (af ah (af ax ag))))))
    (ai (by exact (bq (bC aL (hr.mono (by decide)) rfl T.aO T.aP di (af (pv 3) (af ah (af ax ag))))))
    (ai (by exact (bq (pN rfl T.pQ T.dy cK (hr.mono (by decide)) di (af (pv 0) (af (pv 4) ag)))))
    (ai (gH (pv 0) (pv 1) rfl)
    (ai (gH (pv 0) (pv 2) rfl)
    (aj (gH (pv 0) (pv 3) rfl)))))))), ?_⟩
   repeat' (walk_at "rd1")
   . intro hx; exact k1 (by simp [wc]; omega) _ Bt.rfl'
   . intro hx
     repeat' (walk_at "rd1")
     . intro hy; exact k1 (by simp [wc]; omega) _ Bt.rfl'
     . intro hy
       repeat' (walk_at "rd1")
       . intro hz; exact k1 (by simp [wc]; omega) _ Bt.rfl'
       . intro hz
         repeat' (walk_at "rd1")
         . intro Mu; exact k1 (by simp [wc, Mu]) _ Bt.rfl'
         . intro KR
           repeat' (walk_at "rd1")
           simp only [pM]
           exact k2 (by simp [wc, KR]; omega)
theorem jb {C : Addr} (T : Txt K mg a) (cl : pz K C) (n1 : aK K C "many") (n2 : aK K C "start") (n3 : aK K C "gap") (n4 : aK K C "wide") : lV P w K mg base 4 a.aH ["self", "start", "gap", "wide", "many"] [] (qZ C a.au wc IY gC) :=
 ⟨⟨_, _, qU T cl n1 n2 n3 n4, vM T, .nil⟩⟩
theorem tL (T : Txt K mg a) : lV P w K mg base 4 a.aH ["self", "start", "gap", "wide", "many"] [] (qZ a.aB a.au wc IY gC) := jb T T.cR T.c3 T.cL T.dt T.c4
theorem uV (T : Txt K mg a) : Binds K a.dj ["self", "start", "gap", "most", "wide", "many"] [] := T.dE.binds fun _ _ _ _ _ _ s us kx hl => by
 obtain ⟨o, n, h1, h2⟩ := T.fF.ex
 have hl : us.length = 6 := by simp at hl; omega
 match us, hl with
 | [_, _, _, _, _, _], _ => exact PySem.W.binds_K kx rfl h1 h2 rfl rfl
theorem px (T : Txt K mg a) : bf P w K mg base (nX P w) 5 a.aS a.dj ["self", "start", "gap", "most", "wide", "many"] (qZ a.av a.au BI M0 fM) := by
 have cl := T.bZ; have n1 := T.cO
 have aL := c6 (P := P) (w := w) (base := base) T
 have nr := jb (P := P) (w := w) (base := base) T cl T.cN T.cq T.cZ T.cP
 refine T.dE.zo kg (fun vs H Q E h => ?_) (fun dn A outer s H vs Q E hr h => ?_)
 . obtain ⟨_, _, _, rfl, ⟨_, _, _, _, _, rfl, _⟩, _⟩ := h; rfl
 . obtain ⟨p, dx, _, rfl, ⟨x, y, u, z, m, rfl, hm⟩, hp, k1, k2⟩ := h
   refine ⟨_, (ai (by exact (bq (pN rfl T.nZ T.gg nr (hr.mono (by decide)) di (af (pv 0) (af (pv 1) (af (pv 2) (af (pv 4) (af (pv 5) ag))))))))
    (ai (by exact (bq (bC aL (hr.mono (by decide)) rfl T.aO T.aP di (af (pv 3) (af (pv 2) (af ax ag))))))
    (aj (gH (pv 0) (pv 3) rfl)))), ?_⟩
   repeat' (walk_at "rd1")
   refine Jq ⟨_, _, _, _, rfl, hm⟩ hp (fun h0 H' hb => k1 ?_ _ hb) (fun h1 => ?_)
   . simp only [wc, BI, Bool.and_eq_false_iff] at h0 ⊢
     rcases h0 with h0 | h0 | h0 | h0 <;> simp [h0]
   . simp only [wc, Bool.and_eq_true, decide_eq_true_eq] at h1
     obtain ⟨b1, b2, b3, b4⟩ := h1
     repeat' (walk_at "rd1")
     . intro hx; exact k1 (by simp [BI]; omega) _ Bt.up
     . intro hx
       repeat' (walk_at "rd1")
       simp only [pM]
       exact k2 (by simp [BI, b4]; omega)
theorem rj (T : Txt K mg a) : lV P w K mg base 5 a.aS ["self", "start", "gap", "most", "wide", "many"] [] (qZ a.av a.au BI M0 fM) :=
 ⟨⟨_, _, px T, uV T, .nil⟩⟩
def nq (n : Int) : Str := (toString n : String)
theorem uy {n : Int} (h0 : 0 <= n) (h : n < 10 ^ 64) : (nq n).length <= 65 := by
 have e : (toString n).length <= 64 + 1 := PySem.int_text_length_le10 (by decide) (by omega)
 have : (nq n).length = (toString n).length := PySem.ofString_length _
 omega
def vB : Sp := fun vs H Q _ => ∃ n, vs = [.int n] /\ 0 <= n /\ n < 10 ^ 64 /\ ∀ H', ao H H' -> Q (.str (nq n)) H'
theorem Jj {H : Hp} {Q : VK} {E : XK} {n : Int} (h0 : 0 <= n) (h1 : n < 10 ^ 64) (q : ∀ H', ao H H' -> Q (.str (nq n)) H') : vB [.int n] H Q E := ⟨n, rfl, h0, h1, q⟩
theorem vJ (T : Txt K mg a) : bf P w K mg base q9 1 a.dM a.qz ["number"] vB := by
 refine T.oF.ok iy (fun vs H Q E h => ?_) (fun dn A outer s H vs Q E hr h => ?_)
 . obtain ⟨_, rfl, _⟩ := h; rfl
 . obtain ⟨n, rfl, h0, h1, q⟩ := h
   have PQ := uy h0 h1
   refine ⟨_, (ai (by exact (bN (aA qq (pv 0) ah (aw _))
    (aj uv)
    aI))
    (ai (by exact (cT (i := 1) iy.nd rfl (Or.inl rfl) (cb zM ah ah)))
    (ai (by exact (cT (i := 2) iy.nd rfl (Or.inl rfl) (ck ag)))
    (ai (by exact (Bb PassesOwn.never (aA Ek (pv 0) (pv 1) (aw _))
     (ai uv
     (aj (by exact (cT (i := 0) iy.nd rfl (Or.inl rfl) (cb fA (pv 0) (pv 1))))))))
    (ai (by exact (bq (qh PySem.F.plainAttrs_list PySem.F.slot_list_append PySem.F.type_list_append yM (pv 2) (af (aZ bu rfl T.cI PyProof.Rows.boot_str (af (pv 0) ag)) ag))))
    (ai (by exact (bq (G7 PySem.F.plainAttrs_list PySem.F.slot_list_reverse PySem.F.type_list_reverse vR (pv 2))))
    (aj (by exact (aE (qh PySem.F.plainAttrs_str PySem.F.slot_str_join PySem.F.type_str_join sW ax (af (pv 2) ag))))))))))), ?_⟩
   repeat' (walk_at "rd1")
   rename_i p H1 OB OZ zg
   refine CH (fun m σ' H' => σ' = [some (.int n), some (.int (10 ^ 64)), some (.ref p)] /\ H' = H1) ⟨0, rfl, rfl⟩ ?_
   rintro m σ' H' ⟨rfl, rfl⟩
   repeat' (walk_at "rd1")
   rename_i H4 m4 l4 H5 m5 l5
   refine sx (ss := [nq n]) (dq.dv l5) ?_ ?_
   . have e0 : (Str.ofString "").length = 0 := by decide
     simp only [List.map_cons, List.map_nil, List.sum_cons, List.sum_nil, List.length_cons, List.length_nil, e0]
     omega
   . have e : Txt.join (Str.ofString "") [nq n] = nq n := rfl
     rw [e]
     exact q _ (by walk_at "same")
theorem uP (T : Txt K mg a) : rn P w K mg base 1 a.dM ["number"] [] vB :=
 ⟨⟨_, _, vJ T, T.oF.binds fun _ _ _ _ _ _ => .all fun us hl => match us, hl with | [_], _ => rfl, .nil⟩⟩
def oR : PyData -> Str
 | .int n => nq n
 | _ => "ever"
def gT (d : PyData) : Prop := d = .none \/ ∃ n, d = .int n /\ 0 <= n /\ n < 10 ^ 64
def sP : Sp := fun vs H Q _ => ∃ v d, vs = [v] /\ Dv H v d /\ gT d /\ ∀ H', ao H H' -> Q (.str (oR d)) H'
theorem GK {H : Hp} {Q : VK} {E : XK} {v : V} {d : PyData} (h : Dv H v d) (hn : gT d) (q : ∀ H', ao H H' -> Q (.str (oR d)) H') : sP [v] H Q E := ⟨v, d, rfl, h, hn, q⟩
local macro_rules | `(tactic| walk_at "use") => `(tactic| first
 | ((with_reducible refine' Jj ?e1 ?e2 (fun _ _ => ?_)); (case e1 => omega); (case e2 => omega))
 | ((with_reducible refine' GK ?e1 ?e2 (fun _ _ => ?_)); (case e1 => walk_at "dat"); (case e2 => assumption))
 | fail)
theorem wK (T : Txt K mg a) : bf P w K mg base q9 2 a.dO a.qF ["number"] sP := by
 have xZ := uP (P := P) (w := w) (base := base) T
 refine T.om.ok wL (fun vs H Q E h => ?_) (fun dn A outer s H vs Q E hr h => ?_)
 . obtain ⟨_, _, rfl, _⟩ := h; rfl
 . obtain ⟨v, d, rfl, hd, hn, q⟩ := h
   refine ⟨_, (aj (by exact (aE (nB (aA Ai (pv 0) oy (aw _)) ax (aF xZ (hr.mono (by decide)) rfl T.qK T.qX (af (pv 0) ag)))))), ?_⟩
   rcases hn with rfl | ⟨n, rfl, h0, h1⟩
   . cases hd
     repeat' (walk_at "rd1")
     exact q _ (by walk_at "same")
   . cases hd
     repeat' (walk_at "rd1")
     exact q _ (by walk_at "same")
theorem t5 (T : Txt K mg a) : rn P w K mg base 2 a.dO ["number"] [] sP :=
 ⟨⟨_, _, wK T, T.om.binds fun _ _ _ _ _ _ => .all fun us hl => match us, hl with | [_], _ => rfl, .nil⟩⟩
theorem yO {d : PyData} (h : gT d) : (oR d).length <= 65 := by
 rcases h with rfl | ⟨n, rfl, h0, h1⟩
 . show (Str.ofString "ever").length <= 65
   decide
 . exact uy h0 h1
theorem rG : ∀ {ds : List PyData}, (∀ d ∈ ds, gT d) -> ((ds.map oR).map (·.length)).sum <= 65 * ds.length
 | [], _ => Nat.zero_le _
 | d :: ds, h => by
   have h1 := yO (h d List.mem_cons_self)
   have h2 := rG fun x hx => h x (List.mem_cons_of_mem _ hx)
   simp only [List.map_cons, List.sum_cons, List.length_cons]
   omega
def pj (kd : Str) (ds : List PyData) : Str := Txt.join (Str.ofString " ") (kd :: ds.map oR)
def vk : Sp := fun vs H Q _ => ∃ kd v ds, vs = [.str kd, v] /\ Dv H v (.list ds) /\ ds.length <= 10 /\ kd.length <= 20 /\ (∀ d ∈ ds, gT d) /\ ∀ H', ao H H' -> Q (.str (pj kd ds)) H'
theorem Iz {H : Hp} {Q : VK} {E : XK} {kd : Str} {v : V} {ds : List PyData} (h : Dv H v (.list ds)) (h1 : ds.length <= 10) (h2 : kd.length <= 20) (h3 : ∀ d ∈ ds, gT d) (q : ∀ H', ao H H' -> Q (.str (pj kd ds)) H') : vk [.str kd, v] H Q E := ⟨kd, v, ds, rfl, h, h1, h2, h3, q⟩
theorem yF (T : Txt K mg a) : bf P w K mg base q9 3 a.eJ a.rO ["kind", "numbers"] vk := by
 have y9 := t5 (P := P) (w := w) (base := base) T
 refine T.qQ.ok ya (fun vs H Q E h => ?_) (fun dn A outer s H vs Q E hr h => ?_)
 . obtain ⟨_, _, _, rfl, _⟩ := h; rfl
 . obtain ⟨kd, v, ds, rfl, hd, hl, hk, gJ, q⟩ := h
   refine ⟨_, (aj (by exact (aE (qh PySem.F.plainAttrs_str PySem.F.slot_str_join PySem.F.type_str_join sW ax (af (cb eN (ck (af (pv 0) ag)) (DW (T := ["number"]) (M := ["kind", "numbers"]) (Jl (ak mZ) ["kind", "numbers"] rfl rfl (by decide +kernel)) rfl (pP (pv 1)) (fun _ _ _ _ _ => (gq (i := 0) (show List.Nodup (["number", "kind", "numbers"] : List Str) by decide +kernel) rfl (Or.inl rfl))) (gO (by decide)) (fun _ _ _ _ _ => nU) (fun _ _ _ _ _ => (aF y9 (hr.mono (by decide)) rfl T.qW T.pX (af (pv 0) ag))))) ag))))), ?_⟩
   repeat' (walk_at "rd1")
   rename_i p1 H1 OB OZ zg
   refine IP (cs := ds) (gd := fun d => d) (fun _ => true) (fun d => .str (oR d)) (by rw [List.map_id']; walk_at "dat") (by omega) (fun _ => rfl) (fun x c H' N hc Ct vb yes no => ?_) (fun pq H5 BF EH we => ?_)
   . have Qc := gJ c hc
     repeat' (walk_at "rd1")
     show Hw _ N _ true _
     refine qB (fun _ => ?_) (fun hb => by cases hb)
     repeat' (walk_at "rd1")
     exact yes rfl _ _ (by walk_at "same") (by walk_at "dat")
   . have e : ds.filter (fun _ => true) = ds := List.filter_eq_self.mpr (by simp)
     rw [e] at we
     repeat' (walk_at "rd1")
     rename_i p6 H6 P9 P7 Nh
     have Ot : Dv H6 (.ref p6) (.list ((kd :: ds.map oR).map PyData.str)) := by
      have z := dq.dv Nh
      rw [List.map_cons, List.map_map]
      exact z
     refine sx Ot ?_ ?_
     . have hs := rG gJ
       have e1 : (Str.ofString " ").length = 1 := by decide
       rw [e1]
       simp only [List.map_cons, List.sum_cons, List.length_cons, List.length_map]
       omega
     . exact q _ (by walk_at "same")
theorem iT (T : Txt K mg a) : rn P w K mg base 3 a.eJ ["kind", "numbers"] [] vk :=
 ⟨⟨_, _, yF T, T.qQ.binds fun _ _ _ _ _ _ => .all fun us hl => match us, hl with | [_, _], _ => rfl, .nil⟩⟩
theorem gT.int {n : Int} (h0 : 0 <= n) (h1 : n < 10 ^ 64) : gT (.int n) := .inr ⟨n, rfl, h0, h1⟩
def dU (C : Addr) (kd : Str) (fs : List (Str × V)) (ds : List PyData) : Sp := fun vs H Q _ => ∃ v, vs = [v] /\ tP H v C fs /\ ∀ H', ao H H' -> Q (.str (pj kd ds)) H'
theorem pW {C : Addr} {kd : Str} {fs : List (Str × V)} {ds : List PyData} {H : Hp} {Q : VK} {E : XK} {v : V} (hp : tP H v C fs) (q : ∀ H', ao H H' -> Q (.str (pj kd ds)) H') : dU C kd fs ds [v] H Q E := ⟨v, rfl, hp, q⟩
local macro_rules | `(tactic| walk_at "use") => `(tactic| first
 | ((with_reducible refine' Iz ?e1 ?e2 ?e3 ?e4 (fun _ _ => ?_)); (case e1 => walk_at "dat"); (case e2 => exact Nat.le_of_ble_eq_true rfl); (case e3 => exact Nat.le_of_ble_eq_true rfl); (case e4 => assumption))
 | fail)
theorem wB {f l : Int} (T : Txt K mg a) (h1 : 0 <= f) (h2 : f < 10 ^ 64) (h3 : 0 <= l) (h4 : l < 10 ^ 64) : bf P w K mg base q9 4 a.cH a.ly ["self"] (dU a.bB "once" [("many", .int 1), ("first", .int f), ("last", .int l)] [.int f, .int l]) := by
 have fJ := iT (P := P) (w := w) (base := base) T
 have n1 := T.dr; have n2 := T.dS; have cl := T.eB
 refine T.iR.ok rC (fun vs H Q E h => ?_) (fun dn A outer s H vs Q E hr h => ?_)
 . obtain ⟨_, rfl, _⟩ := h; rfl
 . obtain ⟨v, rfl, hp, q⟩ := h
   have hn : ∀ d ∈ [PyData.int f, .int l], gT d := by
    intro d hd
    simp only [List.mem_cons, List.not_mem_nil, or_false] at hd
    rcases hd with rfl | rfl
    . exact .int h1 h2
    . exact .int h3 h4
   refine ⟨_, (aj (by exact (aE (aF fJ (hr.mono (by decide)) rfl T.hV T.hJ (af ax (af (ck (af (dF (pv 0) rfl) (af (dF (pv 0) rfl) ag))) ag)))))), ?_⟩
   repeat' (walk_at "rd1")
   exact q _ (by walk_at "same")
def mK (m : V) (d : PyData) : Prop := (m = .cj /\ d = .none) \/ ∃ i, m = .int i /\ d = .int i /\ 0 <= i /\ i < 10 ^ 64
theorem mK.ok {m : V} {d : PyData} (h : mK m d) : gT d := by
 rcases h with ⟨_, e⟩ | ⟨i, _, e, h0, h1⟩
 . exact .inl e
 . exact .inr ⟨i, e, h0, h1⟩
theorem mK.dv {m : V} {d : PyData} {H : Hp} (h : mK m d) : Dv H m d := by
 rcases h with ⟨rfl, rfl⟩ | ⟨i, rfl, rfl, _⟩
 . exact .cj
 . exact .int i
local macro_rules | `(tactic| walk_at "dat") => `(tactic| first
 | ((refine' mK.dv ?m); (case m => assumption))
 | fail)
theorem wC {st sp wd : Int} {m : V} {d : PyData} (T : Txt K mg a) (a0 : 0 <= st) (b0 : st < 10 ^ 64) (a1 : 0 <= sp) (b1 : sp < 10 ^ 64) (a2 : 0 <= wd) (b2 : wd < 10 ^ 64) (hm : mK m d) : bf P w K mg base q9 4 a.cG a.km ["self"] (dU a.bo "each" [("many", m), ("start", .int st), ("step", .int sp), ("wide", .int wd)] [.int st, .int sp, .int wd, d]) := by
 have fJ := iT (P := P) (w := w) (base := base) T
 have n0 := T.d8; have n1 := T.dw; have n2 := T.d6; have n3 := T.dQ; have cl := T.ez
 refine T.iE.ok rh (fun vs H Q E h => ?_) (fun dn A outer s H vs Q E hr h => ?_)
 . obtain ⟨_, rfl, _⟩ := h; rfl
 . obtain ⟨v, rfl, hp, q⟩ := h
   have hn : ∀ x ∈ ([.int st, .int sp, .int wd, d] : List PyData), gT x := by
    intro x hx
    simp only [List.mem_cons, List.not_mem_nil, or_false] at hx
    rcases hx with rfl | rfl | rfl | rfl
    . exact .int a0 b0
    . exact .int a1 b1
    . exact .int a2 b2
    . exact hm.ok
   refine ⟨_, (aj (by exact (aE (aF fJ (hr.mono (by decide)) rfl T.hV T.hJ (af ax (af (ck (af (dF (pv 0) rfl) (af (dF (pv 0) rfl) (af (dF (pv 0) rfl) (af (dF (pv 0) rfl) ag))))) ag)))))), ?_⟩
   repeat' (walk_at "rd1")
   exact q _ (by walk_at "same")
theorem vw {st gp wd : Int} {m : V} {d : PyData} (T : Txt K mg a) (a0 : 0 <= st) (b0 : st < 10 ^ 64) (a1 : 0 <= gp) (b1 : gp < 10 ^ 64) (a2 : 0 <= wd) (b2 : wd < 10 ^ 64) (hm : mK m d) : bf P w K mg base q9 4 a.bJ a.jd ["self"] (dU a.aB "behind" [("many", m), ("start", .int st), ("gap", .int gp), ("wide", .int wd)] [.int st, .int gp, .int wd, d]) := by
 have fJ := iT (P := P) (w := w) (base := base) T
 have n0 := T.c3; have n1 := T.cL; have n2 := T.dt; have n3 := T.c4; have cl := T.cR
 refine T.fQ.ok pG (fun vs H Q E h => ?_) (fun dn A outer s H vs Q E hr h => ?_)
 . obtain ⟨_, rfl, _⟩ := h; rfl
 . obtain ⟨v, rfl, hp, q⟩ := h
   have hn : ∀ x ∈ ([.int st, .int gp, .int wd, d] : List PyData), gT x := by
    intro x hx
    simp only [List.mem_cons, List.not_mem_nil, or_false] at hx
    rcases hx with rfl | rfl | rfl | rfl
    . exact .int a0 b0
    . exact .int a1 b1
    . exact .int a2 b2
    . exact hm.ok
   refine ⟨_, (aj (by exact (aE (aF fJ (hr.mono (by decide)) rfl T.hV T.hJ (af ax (af (ck (af (dF (pv 0) rfl) (af (dF (pv 0) rfl) (af (dF (pv 0) rfl) (af (dF (pv 0) rfl) ag))))) ag)))))), ?_⟩
   repeat' (walk_at "rd1")
   exact q _ (by walk_at "same")
theorem vg {st gp mo wd : Int} {m : V} {d : PyData} (T : Txt K mg a) (a0 : 0 <= st) (b0 : st < 10 ^ 64) (a1 : 0 <= gp) (b1 : gp < 10 ^ 64) (a2 : 0 <= mo) (b2 : mo < 10 ^ 64) (a3 : 0 <= wd) (b3 : wd < 10 ^ 64) (hm : mK m d) : bf P w K mg base q9 4 a.bw a.ie ["self"] (dU a.av "slowing" [("many", m), ("start", .int st), ("gap", .int gp), ("wide", .int wd), ("most", .int mo)] [.int st, .int gp, .int mo, .int wd, d]) := by
 have fJ := iT (P := P) (w := w) (base := base) T
 have n0 := T.cN; have n1 := T.cq; have n2 := T.cZ; have n3 := T.cP; have n4 := T.cO; have cl := T.bZ
 refine T.eP.ok oJ (fun vs H Q E h => ?_) (fun dn A outer s H vs Q E hr h => ?_)
 . obtain ⟨_, rfl, _⟩ := h; rfl
 . obtain ⟨v, rfl, hp, q⟩ := h
   have hn : ∀ x ∈ ([.int st, .int gp, .int mo, .int wd, d] : List PyData), gT x := by
    intro x hx
    simp only [List.mem_cons, List.not_mem_nil, or_false] at hx
    rcases hx with rfl | rfl | rfl | rfl | rfl
    . exact .int a0 b0
    . exact .int a1 b1
    . exact .int a2 b2
    . exact .int a3 b3
    . exact hm.ok
   refine ⟨_, (aj (by exact (aE (aF fJ (hr.mono (by decide)) rfl T.hV T.hJ (af ax (af (ck (af (dF (pv 0) rfl) (af (dF (pv 0) rfl) (af (dF (pv 0) rfl) (af (dF (pv 0) rfl) (af (dF (pv 0) rfl) ag)))))) ag)))))), ?_⟩
   repeat' (walk_at "rd1")
   exact q _ (by walk_at "same")
def mD : V -> PyData
 | .int i => .int i
 | _ => .none
structure WO where
 (f l : Int)
 (h0 : 0 <= f) (h1 : f < 10 ^ 64) (h2 : 0 <= l) (h3 : l < 10 ^ 64)
structure W3 where
 (st sp wd : Int) (m : V) (d : PyData)
 (h0 : 0 <= st) (h1 : st < 10 ^ 64) (h2 : 0 <= sp) (h3 : sp < 10 ^ 64) (h4 : 0 <= wd) (h5 : wd < 10 ^ 64) (hm : mK m d)
structure W4 where
 (st gp mo wd : Int) (m : V) (d : PyData)
 (h0 : 0 <= st) (h1 : st < 10 ^ 64) (h2 : 0 <= gp) (h3 : gp < 10 ^ 64) (h4 : 0 <= mo) (h5 : mo < 10 ^ 64) (h6 : 0 <= wd) (h7 : wd < 10 ^ 64) (hm : mK m d)
def D8 (C : Addr) : Sp := fun vs H Q E => ∃ i : WO, dU C "once" [("many", .int 1), ("first", .int i.f), ("last", .int i.l)] [.int i.f, .int i.l] vs H Q E
def D9 (C : Addr) : Sp := fun vs H Q E => ∃ i : W3, dU C "each" [("many", i.m), ("start", .int i.st), ("step", .int i.sp), ("wide", .int i.wd)] [.int i.st, .int i.sp, .int i.wd, i.d] vs H Q E
def Eb (C : Addr) : Sp := fun vs H Q E => ∃ i : W3, dU C "behind" [("many", i.m), ("start", .int i.st), ("gap", .int i.sp), ("wide", .int i.wd)] [.int i.st, .int i.sp, .int i.wd, i.d] vs H Q E
def D5 (C : Addr) : Sp := fun vs H Q E => ∃ i : W4, dU C "slowing" [("many", i.m), ("start", .int i.st), ("gap", .int i.gp), ("wide", .int i.wd), ("most", .int i.mo)] [.int i.st, .int i.gp, .int i.mo, .int i.wd, i.d] vs H Q E
theorem FJ (T : Txt K mg a) : rn P w K mg base 4 a.cH ["self"] [] (D8 a.bB) :=
 ⟨⟨_, _, bf.ex fun i : WO => wB T i.h0 i.h1 i.h2 i.h3, T.iR.binds fun _ _ _ _ _ _ => .all fun us hl => match us, hl with | [_], _ => rfl, .nil⟩⟩
theorem EZ (T : Txt K mg a) : rn P w K mg base 4 a.cG ["self"] [] (D9 a.bo) :=
 ⟨⟨_, _, bf.ex fun i : W3 => wC T i.h0 i.h1 i.h2 i.h3 i.h4 i.h5 i.hm, T.iE.binds fun _ _ _ _ _ _ => .all fun us hl => match us, hl with | [_], _ => rfl, .nil⟩⟩
theorem G9 (T : Txt K mg a) : rn P w K mg base 4 a.bJ ["self"] [] (Eb a.aB) :=
 ⟨⟨_, _, bf.ex fun i : W3 => vw T i.h0 i.h1 i.h2 i.h3 i.h4 i.h5 i.hm, T.fQ.binds fun _ _ _ _ _ _ => .all fun us hl => match us, hl with | [_], _ => rfl, .nil⟩⟩
theorem Fi (T : Txt K mg a) : rn P w K mg base 4 a.bw ["self"] [] (D5 a.av) :=
 ⟨⟨_, _, bf.ex fun i : W4 => vg T i.h0 i.h1 i.h2 i.h3 i.h4 i.h5 i.h6 i.h7 i.hm, T.eP.binds fun _ _ _ _ _ _ => .all fun us hl => match us, hl with | [_], _ => rfl, .nil⟩⟩
theorem Mp {C : Addr} {H : Hp} {Q : VK} {E : XK} {v : V} {f l : Int} (hp : tP H v C [("many", .int 1), ("first", .int f), ("last", .int l)]) (h : 0 <= f /\ f < 10 ^ 64 /\ 0 <= l /\ l < 10 ^ 64) (q : ∀ H', ao H H' -> Q (.str (pj "once" [.int f, .int l])) H') : D8 C [v] H Q E := ⟨⟨f, l, h.1, h.2.1, h.2.2.1, h.2.2.2⟩, pW hp q⟩
theorem La {C : Addr} {H : Hp} {Q : VK} {E : XK} {v : V} {st sp wd : Int} {m : V} (hp : tP H v C [("many", m), ("start", .int st), ("step", .int sp), ("wide", .int wd)]) (hm : mK m (mD m)) (h : 0 <= st /\ st < 10 ^ 64 /\ 0 <= sp /\ sp < 10 ^ 64 /\ 0 <= wd /\ wd < 10 ^ 64) (q : ∀ H', ao H H' -> Q (.str (pj "each" [.int st, .int sp, .int wd, mD m])) H') : D9 C [v] H Q E := ⟨⟨st, sp, wd, m, _, h.1, h.2.1, h.2.2.1, h.2.2.2.1, h.2.2.2.2.1, h.2.2.2.2.2, hm⟩, pW hp q⟩
theorem Lh {C : Addr} {H : Hp} {Q : VK} {E : XK} {v : V} {st sp wd : Int} {m : V} (hp : tP H v C [("many", m), ("start", .int st), ("gap", .int sp), ("wide", .int wd)]) (hm : mK m (mD m)) (h : 0 <= st /\ st < 10 ^ 64 /\ 0 <= sp /\ sp < 10 ^ 64 /\ 0 <= wd /\ wd < 10 ^ 64) (q : ∀ H', ao H H' -> Q (.str (pj "behind" [.int st, .int sp, .int wd, mD m])) H') : Eb C [v] H Q E := ⟨⟨st, sp, wd, m, _, h.1, h.2.1, h.2.2.1, h.2.2.2.1, h.2.2.2.2.1, h.2.2.2.2.2, hm⟩, pW hp q⟩
theorem Ms {C : Addr} {H : Hp} {Q : VK} {E : XK} {v : V} {st gp mo wd : Int} {m : V} (hp : tP H v C [("many", m), ("start", .int st), ("gap", .int gp), ("wide", .int wd), ("most", .int mo)]) (hm : mK m (mD m)) (h : 0 <= st /\ st < 10 ^ 64 /\ 0 <= gp /\ gp < 10 ^ 64 /\ 0 <= mo /\ mo < 10 ^ 64 /\ 0 <= wd /\ wd < 10 ^ 64) (q : ∀ H', ao H H' -> Q (.str (pj "slowing" [.int st, .int gp, .int mo, .int wd, mD m])) H') : D5 C [v] H Q E := ⟨⟨st, gp, mo, wd, m, _, h.1, h.2.1, h.2.2.1, h.2.2.2.1, h.2.2.2.2.1, h.2.2.2.2.2.1, h.2.2.2.2.2.2.1, h.2.2.2.2.2.2.2, hm⟩, pW hp q⟩
local macro_rules | `(tactic| walk_at "use") => `(tactic| first
 | ((with_reducible refine' Mp ?e0 ?e1 (fun _ _ => ?_)); (case e0 => walk_at "ins"); (case e1 => assumption))
 | ((with_reducible refine' La ?e0 ?e1 ?e2 (fun _ _ => ?_)); (case e0 => walk_at "ins"); (case e1 => assumption); (case e2 => assumption))
 | ((with_reducible refine' Lh ?e0 ?e1 ?e2 (fun _ _ => ?_)); (case e0 => walk_at "ins"); (case e1 => assumption); (case e2 => assumption))
 | ((with_reducible refine' Ms ?e0 ?e1 ?e2 (fun _ _ => ?_)); (case e0 => walk_at "ins"); (case e1 => assumption); (case e2 => assumption))
 | fail)
def dig (c : Nat) : Bool := decide (48 <= c) && decide (c <= 57)
def cE (l : List Nat) : List Nat := if (l.head? == some 45) = true then l.drop 1 else l
def rm (l : List Nat) : Bool := (decide (1 <= (cE l).length) && decide ((cE l).length <= 60)) && ((cE l).all dig && (l == [48] || (cE l).head? != some 48))
def fz (x : Str) : Bool := rm x.cps.toList
def jm (n : Nat) (x : Str) : Prop := x.length <= n /\ ∀ c ∈ x.cps.toList, c < 128
theorem jm.up {n m : Nat} {x : Str} (h : jm n x) (hm : n <= m) : jm m x := ⟨Nat.le_trans h.1 hm, h.2⟩
theorem fq (x : Str) : x.length = x.cps.toList.length := by show x.cps.size = _; simp
theorem qJ {x : Str} (h : fz x = true) (hl : x.length <= 700) : ∃ n, PySem.intText? x = some n := by
 unfold fz rm at h
 simp only [Bool.and_eq_true, decide_eq_true_eq] at h
 obtain ⟨⟨h1, h2⟩, h3, h4⟩ := h
 have hd : PySem.NumText.AllDigits (cE x.cps.toList) := fun c hc => by
  have := List.all_eq_true.mp h3 c hc
  unfold dig at this
  simpa using this
 have kh : cE x.cps.toList ≠ [] := fun e => by rw [e] at h1; simp at h1
 unfold cE at hd kh
 split at hd
 . rename_i c
   rw [if_pos c] at kh
   obtain ⟨r, er⟩ : ∃ r, x.cps.toList = 45 :: r := by
    cases e : x.cps.toList with
    | nil => rw [e] at c; simp at c
    | cons d r => rw [e] at c; simp at c; subst c; exact ⟨r, rfl⟩
   rw [er] at hd kh
   exact ⟨_, PySem.intText_neg er hd kh (by omega)⟩
 . rename_i c
   rw [if_neg c] at kh
   exact ⟨_, PySem.intText_digits hd kh (by omega)⟩
theorem MY : ∀ c : Fin 128, (Builtin.Str.occurrences "0123456789" ⟨#[c.val]⟩ 0 (Str.length "0123456789") 1).isEmpty = !dig c.val := by decide +kernel
theorem AW {n : Int} (h1 : -(10 ^ 60) < n) (h2 : n < 10 ^ 60) : jm 61 (toString n : String) := by
 have e : (toString n).length <= 60 + 1 := PySem.int_text_length_le10 (by decide) (by omega)
 refine ⟨by have : (Str.ofString (toString n)).length = (toString n).length := PySem.ofString_length _; omega, fun c hc => ?_⟩
 by_cases h : c < 128
 . exact h
 . exact absurd hc (PyProof.Rows.int_text_free' c ⟨by omega, by omega⟩ n)
def pY : Sp := fun vs H Q _ => ∃ x : Str, vs = [.str x] /\ jm 700 x /\ ∀ H', ao H H' -> Q (.bl (fz x)) H'
theorem B9 {H : Hp} {Q : VK} {E : XK} {x : Str} (h : jm 700 x) (q : ∀ H', ao H H' -> Q (.bl (fz x)) H') : pY [.str x] H Q E := ⟨x, rfl, h, q⟩
local macro_rules | `(tactic| walk_at "use") => `(tactic| first
 | ((with_reducible refine' B9 ?e1 (fun _ _ => ?_)); (case e1 => assumption))
 | fail)
theorem MZ : (Str.ofString "-") = ⟨#[45]⟩ := by decide +kernel
theorem Mm : (Str.ofString "0") = ⟨#[48]⟩ := by decide +kernel
theorem z9 {l : List Nat} {c : Nat} (h : c ∈ cE l) : c ∈ l := by
 unfold cE at h
 split at h
 . exact List.mem_of_mem_drop h
 . exact h
theorem zZ (l : List Nat) : (cE l).length <= l.length := by
 unfold cE
 split
 . rw [List.length_drop]; omega
 . exact Nat.le_refl _
def Hq (x : Str) : Str := ⟨(cE x.cps.toList).toArray⟩
theorem C3 {x : Str} {n : Nat} (h : jm n x) : ∃ r : Str, Hq x = r /\ r.cps.toList = cE x.cps.toList /\ jm n r := by
 refine ⟨_, rfl, rfl, ?_, fun c hc => h.2 c (z9 hc)⟩
 have h1 := zZ x.cps.toList
 have h2 := h.1
 rw [fq] at h2 ⊢
 show (cE x.cps.toList).length <= n
 omega
theorem CV {x : Str} (h : (x.cps.toList.head? == some 45) = true) : lW x (some 1) none = Hq x := by
 rw [wg]
 unfold Hq cE
 rw [if_pos h]
theorem CF {x : Str} (h : (x.cps.toList.head? == some 45) = false) : x = Hq x := by
 unfold Hq cE
 rw [if_neg (by rw [h]; decide)]
theorem uC {x : Str} (h : ¬ (cE x.cps.toList).length <= 60) : fz x = false := by
 unfold fz rm
 rw [decide_eq_false h]
 simp
theorem sg {x : Str} (h : ¬ 1 <= (cE x.cps.toList).length) : fz x = false := by
 unfold fz rm
 rw [decide_eq_false h]
 simp
theorem CJ {x : Str} (h : (cE x.cps.toList).all dig = false) : fz x = false := by
 unfold fz rm
 rw [h]
 simp
theorem BP {x : Str} (h1 : 1 <= (cE x.cps.toList).length) (h2 : (cE x.cps.toList).length <= 60) (h3 : (cE x.cps.toList).all dig = true) : fz x = (x.cps.toList == [48] || (cE x.cps.toList).head? != some 48) := by
 unfold fz rm
 rw [h3, decide_eq_true h1, decide_eq_true h2]
 rfl
theorem C8 (c : Nat) (t : List Nat) : (!decide (V.str ⟨#[c]⟩ = V.str (Str.ofString "0"))) = ((c :: t).head? != some 48) := by
 rw [Mm, Bool.eq_iff_iff]
 simp
theorem uY {x : Str} (h : V.str x = V.str (Str.ofString "0")) : fz x = true := by
 rw [Mm] at h
 cases h
 decide
theorem uO {r : Str} {l : List Nat} (h : r.cps.toList = l) (h1 : 1 <= l.length) : ∃ c t, l = c :: t /\ o7 r.cps.toList 0 = some c := by
 subst h
 cases e : r.cps.toList with
 | nil => rw [e] at h1; simp at h1
 | cons c t => exact ⟨c, t, rfl, by have z : o7 (c :: t) ((0 : Nat) : Int) = some c := j7 rfl; exact z⟩
theorem Og (x : Str) : decide (V.str x = V.str (Str.ofString "0")) = (x.cps.toList == [48]) := by
 rw [Mm, Bool.eq_iff_iff, decide_eq_true_eq, beq_iff_eq]
 constructor
 . intro h; cases h; rfl
 . intro h
   obtain ⟨⟨l⟩⟩ := x
   cases (show l = [48] from h)
   rfl
theorem xr {x : Str} {c : Nat} {t : List Nat} (h : ¬ V.str x = V.str (Str.ofString "0")) (hl : cE x.cps.toList = c :: t) (h2 : (cE x.cps.toList).length <= 60) (h3 : (cE x.cps.toList).all dig = true) : fz x = !decide (V.str ⟨#[c]⟩ = V.str (Str.ofString "0")) := by
 rw [BP (by rw [hl]; simp) h2 h3, <- Og, decide_eq_false h, hl, C8 c t]
 rfl
theorem tq (T : Txt K mg a) : bf P w K mg base q9 1 a.cz a.mE ["text"] pY := by
 refine T.jU.ok nR (fun vs H Q E h => ?_) (fun dn A outer s H vs Q E hr h => ?_)
 . obtain ⟨_, rfl, _⟩ := h; rfl
 . obtain ⟨x, rfl, hx, q⟩ := h
   have Ht := hx.1
   refine ⟨_, (mw (by exact (cT (i := 1) nR.nd rfl (Or.inl rfl) (nB (eK (qh PySem.F.plainAttrs_str PySem.F.slot_str_startswith PySem.F.type_str_startswith yZ (pv 0) (af ax ag)) (fun _ => rfl)) (jO CI (pv 0) (j9 ah) pK) (pv 0))))
    (ai (by exact (bN (PW.pt (qc (n6 (zK rK rK ah (aT cn rfl T.ec PySem.boot_len (af (pv 1) ag)) (iJ (v := .int 60) rfl T.iZ ⟨_, rfl⟩))) (qf (n6 (eK (aT (yp rfl) rfl T.sG PyProof.Rows.boot_all (af (DW (T := ["sign"]) (M := ["text", "row"]) (Jl (ak gy) ["text", "row"] rfl rfl (by decide +kernel)) rfl (Ap (pv 1)) (fun _ _ _ _ _ => (gq (i := 0) (show List.Nodup (["sign", "text", "row"] : List Str) by decide +kernel) rfl (Or.inl rfl))) (gO (by decide)) (fun _ _ _ _ _ => nU) (fun _ _ _ _ _ => (dA DH (pv 0) (iJ (v := .str "0123456789") rfl T.qo ⟨_, rfl⟩) rfl))) ag)) (fun _ => rfl))))))
     (aj (aE ql))
     aI))
    (aj (by exact (aE (HG (dA (aX hr.lx) (pv 0) ax (aw _)) (jZ (dA (vS hr.lx) (bb cS (pv 1) ah (fun _ _ => rfl)) ax (aw _))))))))), ?_⟩
   refine tD (fun σ' H' => H' = H /\ σ' = [some (.str x), some (.str (Hq x))]) ?_ ?_
   . repeat' (walk_at "rd1")
     . rename_i hb
       rw [MZ, qx] at hb
       rw [CV hb]
       exact ⟨rfl, rfl⟩
     . rename_i hb
       rw [MZ, qx] at hb
       exact ⟨rfl, by rw [<- CF hb]; rfl⟩
   rintro σ' H' ⟨rfl, rfl⟩
   obtain ⟨r, er, Kz, Nu⟩ := C3 hx
   rw [er]
   have P1 := Nu.1
   have MX : r.length = (cE x.cps.toList).length := by rw [fq, Kz]
   repeat' (walk_at "rd1")
   . rename_i b1 b2
     have := q H' (ao.refl _)
     rw [uC (by omega)] at this
     exact this
   . rename_i b1 b2
     refine JG (fun _ => true) (fun c => .bool (dig c)) (by show r.length <= 4000; omega) (fun _ => rfl) (fun c H2 N hc sm yes no => ?_) (fun pq H2 sm hn we => ?_)
     . have ho := MY ⟨c, Nu.2 c hc⟩
       repeat' (walk_at "rd1")
       refine qB (fun _ => ?_) (fun hb => by cases hb)
       repeat' (walk_at "rd1")
       refine yes rfl _ _ (ao.refl _) ?_
       have pC : (!(Builtin.Str.occurrences "0123456789" ⟨#[c]⟩ 0 (Str.length "0123456789") 1).isEmpty) = dig c := by rw [ho, Bool.not_not]
       rw [<- pC]
       exact .bl _
     . have OM : dq H2 pq ((r.cps.toList.map dig).map PyData.bool) := by
        have e : (r.cps.toList.filter fun _ => true) = r.cps.toList := List.filter_eq_self.mpr (fun _ _ => rfl)
        rw [e] at we
        rw [List.map_map]
        exact we
       have gJ : (r.cps.toList.map dig).all id = (cE x.cps.toList).all dig := by rw [List.all_map, Kz]; rfl
       repeat' (walk_at "rd1")
       . rename_i hb
         rw [gJ] at hb
         have := q H2 sm
         rw [CJ hb] at this
         exact this
       . rename_i hb hz
         have := q H2 sm
         rw [uY hz] at this
         exact this
       . rename_i hb hz
         obtain ⟨c, t, el, ei⟩ := uO Kz (by omega)
         refine A6 (by rw [PySem.sizeLine_eq]; omega) ei ?_
         repeat' (walk_at "rd1")
         have := q H2 sm
         rw [xr hz el (by omega) (by rw [<- gJ]; exact hb)] at this
         exact this
   . rename_i b1 b2
     have := q H' (ao.refl _)
     rw [sg (by omega)] at this
     exact this
theorem rk (T : Txt K mg a) : rn P w K mg base 1 a.cz ["text"] [] pY :=
 ⟨⟨_, _, tq T, T.jU.binds fun _ _ _ _ _ _ => .all fun us hl => match us, hl with | [_], _ => rfl, .nil⟩⟩
def rd (x : Str) : Option Int := if fz x = true then PySem.intText? x else none
def aV (x : Str) : Int := match rd x with
 | some n => if 0 <= n then n else -1
 | none => -1
theorem D7 : ∀ (cs : List Nat), PySem.NumText.AllDigits cs -> ∀ k, cs.foldl (fun acc c => acc * 10 + (c - 48)) k < (k + 1) * 10 ^ cs.length
 | [], _, k => by simp
 | c :: cs, h, k => by
   have h1 := D7 cs h.tail (k * 10 + (c - 48))
   have h2 := h.head
   rw [List.foldl_cons, List.length_cons]
   have h3 : (k * 10 + (c - 48) + 1) * 10 ^ cs.length <= ((k + 1) * 10) * 10 ^ cs.length := Nat.mul_le_mul_right _ (by omega)
   have h4 : (k + 1) * 10 ^ (cs.length + 1) = ((k + 1) * 10) * 10 ^ cs.length := by rw [Nat.pow_succ, Nat.mul_comm (10 ^ cs.length) 10, Nat.mul_assoc]
   omega
theorem Cj {cs : List Nat} (h : PySem.NumText.AllDigits cs) (hl : cs.length <= 60) : PySem.NumText.digitsVal cs < 10 ^ 60 := by
 have h1 := D7 cs h 0
 have h2 : (10 : Nat) ^ cs.length <= 10 ^ 60 := Nat.pow_le_pow_right (by decide) hl
 unfold PySem.NumText.digitsVal
 omega
theorem u0 : ∀ {cs : List Nat}, PySem.NumText.AllDigits cs -> (cs.map Char.ofNat).map Char.toNat = cs
 | [], _ => rfl
 | c :: cs, h => by
   have h1 := h.head
   have : (Char.ofNat c).toNat = c := by
    have z : ∀ c < 58, (Char.ofNat c).toNat = c := by decide
    exact z c (by omega)
   rw [List.map_cons, List.map_cons, this, u0 h.tail]
theorem xj {cs : List Nat} (h : cs.all dig = true) : PySem.NumText.AllDigits cs := fun c hc => by
 have := List.all_eq_true.mp h c hc
 unfold dig at this
 simpa using this
theorem str_list {x y : Str} (h : x.cps.toList = y.cps.toList) : x = y := by
 obtain ⟨⟨l⟩⟩ := x
 obtain ⟨⟨m⟩⟩ := y
 cases (show l = m from h)
 rfl
theorem zQ {x : Str} (h : PySem.NumText.AllDigits x.cps.toList) (kh : x.cps.toList ≠ []) (hz : x.cps.toList = [48] \/ x.cps.toList.head? ≠ some 48) : x = nq (PySem.NumText.digitsVal x.cps.toList : Nat) := by
 refine str_list ?_
 unfold nq
 rw [PySem.W.KIN.signs_num, PySem.NumText.toDigits_all _ h]
 rcases hz with e | e
 . rw [e]; decide
 . cases el : x.cps.toList with
   | nil => exact absurd el kh
   | cons c r =>
     rw [el] at e h
     have hc : ¬ c = 48 := fun z => e (by rw [z]; rfl)
     rw [List.dropWhile_cons, if_neg (by rw [beq_iff_eq]; exact hc)]
     exact (u0 h).symm
theorem p9 (x : Str) : (rd x = none /\ aV x = -1) \/ (∃ n, n < 0 /\ rd x = some n /\ aV x = -1) \/ ∃ n : Int, 0 <= n /\ n < 10 ^ 60 /\ rd x = some n /\ aV x = n /\ x = nq n /\ x.cps.toList.all dig = true := by
 by_cases hn : fz x = true
 . have e : rd x = PySem.intText? x := if_pos hn
   have h := hn
   unfold fz rm at h
   simp only [Bool.and_eq_true, decide_eq_true_eq] at h
   obtain ⟨⟨h1, h2⟩, h3, h4⟩ := h
   have hd := xj h3
   have kh : cE x.cps.toList ≠ [] := fun z => by rw [z] at h1; simp at h1
   have hlen : x.length <= 61 := by
    rw [fq]
    unfold cE at h2
    split at h2
    . rw [List.length_drop] at h2; omega
    . omega
   by_cases c : (x.cps.toList.head? == some 45) = true
   . obtain ⟨r, er⟩ : ∃ r, x.cps.toList = 45 :: r := by
      cases e : x.cps.toList with
      | nil => rw [e] at c; simp at c
      | cons d r => rw [e] at c; simp at c; subst c; exact ⟨r, rfl⟩
     have rr : cE x.cps.toList = r := by unfold cE; rw [if_pos c, er]; rfl
     rw [rr] at hd kh h4
     have e2 := PySem.intText_neg er hd kh (by omega)
     have sI : 0 < PySem.NumText.digitsVal r := by
      cases r with
      | nil => exact absurd rfl kh
      | cons d t =>
        have := hd.head
        have N7 : d ≠ 48 := fun z => by rw [er, z] at h4; simp at h4
        exact PySem.NumText.digitsVal_pos (by omega)
     refine .inr (.inl ⟨_, ?_, e.trans e2, ?_⟩)
     . omega
     . unfold aV
       rw [e, e2]
       simp only
       rw [if_neg (by omega)]
   . have rr : cE x.cps.toList = x.cps.toList := by unfold cE; rw [if_neg c]
     rw [rr] at hd kh h4 h2 h3
     have e2 := PySem.intText_digits hd kh (by omega)
     have hz : x.cps.toList = [48] \/ x.cps.toList.head? ≠ some 48 := by simpa using h4
     have rQ := Cj hd h2
     refine .inr (.inr ⟨_, Int.natCast_nonneg _, by omega, e.trans e2, ?_, zQ hd kh hz, h3⟩)
     unfold aV
     rw [e, e2]
     simp only
     rw [if_pos (Int.natCast_nonneg _)]
 . left
   have e : rd x = none := if_neg hn
   exact ⟨e, by unfold aV; rw [e]⟩
theorem eo {x : Str} (h : 0 <= aV x) : rd x = some (aV x) /\ x = nq (aV x) /\ aV x < 10 ^ 60 := by
 rcases p9 x with ⟨_, e⟩ | ⟨_, _, _, e⟩ | ⟨n, h0, h1, e1, e2, e3, _⟩
 . omega
 . omega
 . rw [e2]; exact ⟨e1, e3, h1⟩
theorem ni {x : Str} {n : Int} (h : rd x = some n) : (n < 0 /\ aV x = -1) \/ (0 <= n /\ n < 10 ^ 60 /\ aV x = n /\ x = nq n) := by
 rcases p9 x with ⟨e, _⟩ | ⟨m, h1, e, e2⟩ | ⟨m, h0, h1, e, e2, e3, _⟩
 . rw [e] at h; cases h
 . rw [e] at h; cases h; exact .inl ⟨h1, e2⟩
 . rw [e] at h; cases h; exact .inr ⟨h0, h1, e2, e3⟩
def u3 (x : Str) : Option V := if x = Str.ofString "ever" then some .cj else (rd x).map V.int
theorem mC {x : Str} {m : V} (h : u3 x = some m) : (x = Str.ofString "ever" /\ m = .cj) \/ ∃ n, ¬ x = Str.ofString "ever" /\ rd x = some n /\ m = .int n := by
 unfold u3 at h
 split at h
 . rename_i e
   cases h
   exact .inl ⟨e, rfl⟩
 . rename_i e
   cases e2 : rd x with
   | none => rw [e2] at h; cases h
   | some n => rw [e2] at h; cases h; exact .inr ⟨n, e, rfl, rfl⟩
inductive qu : List Str -> Str -> List V -> Prop
 | once {w1 w2 : Str} {f l : Int} : rd w1 = some f -> rd w2 = some l -> qu [Str.ofString "once", w1, w2] (Str.ofString "once") [.int f, .int l]
 | each {w1 w2 w3 w4 : Str} {x y z : Int} {m : V} : rd w1 = some x -> rd w2 = some y -> rd w3 = some z -> u3 w4 = some m -> qu [Str.ofString "each", w1, w2, w3, w4] (Str.ofString "each") [.int x, .int y, .int z, m]
 | behind {w1 w2 w3 w4 : Str} {x y z : Int} {m : V} : rd w1 = some x -> rd w2 = some y -> rd w3 = some z -> u3 w4 = some m -> qu [Str.ofString "behind", w1, w2, w3, w4] (Str.ofString "behind") [.int x, .int y, .int z, m]
 | jL {w1 w2 w3 w4 w5 : Str} {x y u z : Int} {m : V} : rd w1 = some x -> rd w2 = some y -> rd w3 = some u -> rd w4 = some z -> u3 w5 = some m -> qu [Str.ofString "slowing", w1, w2, w3, w4, w5] (Str.ofString "slowing") [.int x, .int y, .int u, .int z, m]
def xT (kd : Str) (us : List V) : Bool := if kd = Str.ofString "once" then Bw us else if kd = Str.ofString "each" then yn us else if kd = Str.ofString "behind" then wc us else BI us
theorem uw : ¬ Str.ofString "each" = Str.ofString "once" := by decide +kernel
theorem ub : ¬ Str.ofString "behind" = Str.ofString "once" := by decide +kernel
theorem tU : ¬ Str.ofString "slowing" = Str.ofString "once" := by decide +kernel
theorem vf : ¬ Str.ofString "behind" = Str.ofString "each" := by decide +kernel
theorem yx : ¬ Str.ofString "slowing" = Str.ofString "each" := by decide +kernel
theorem yf : ¬ Str.ofString "slowing" = Str.ofString "behind" := by decide +kernel
theorem xn {us : List V} : xT (Str.ofString "once") us = Bw us := if_pos rfl
theorem wM {us : List V} : xT (Str.ofString "each") us = yn us := by unfold xT; rw [if_neg uw, if_pos rfl]
theorem xa {us : List V} : xT (Str.ofString "behind") us = wc us := by unfold xT; rw [if_neg ub, if_neg vf, if_pos rfl]
theorem wY {us : List V} : xT (Str.ofString "slowing") us = BI us := by unfold xT; rw [if_neg tU, if_neg yx, if_neg yf]
def GoodW (ws : List Str) : Prop := ∃ kd us, qu ws kd us /\ xT kd us = true
theorem qu.det {ws : List Str} {k1 k2 : Str} {u1 u2 : List V} (h : qu ws k1 u1) (g : qu ws k2 u2) : k1 = k2 /\ u1 = u2 := by
 have e : ∀ {α : Type} {o : Option α} {x y : α}, o = some x -> o = some y -> x = y := fun h g => Option.some.inj (h.symm.trans g)
 generalize ew : ws = Pz at g
 cases h with
 | once a1 a2 =>
   cases g with
   | once b1 b2 =>
     injection ew with _ ew; injection ew with e1 ew; injection ew with e2 _
     subst e1; subst e2
     rw [e a1 b1, e a2 b2]; exact ⟨rfl, rfl⟩
   | each => simp at ew
   | behind => simp at ew
   | jL => simp at ew
 | each a1 a2 a3 a4 =>
   cases g with
   | once => simp at ew
   | each b1 b2 b3 b4 =>
     injection ew with _ ew; injection ew with e1 ew; injection ew with e2 ew; injection ew with e3 ew; injection ew with e4 _
     subst e1; subst e2; subst e3; subst e4
     rw [e a1 b1, e a2 b2, e a3 b3, e a4 b4]; exact ⟨rfl, rfl⟩
   | behind => injection ew with e0 _; exact absurd e0.symm vf
   | jL => simp at ew
 | behind a1 a2 a3 a4 =>
   cases g with
   | once => simp at ew
   | each => injection ew with e0 _; exact absurd e0 vf
   | behind b1 b2 b3 b4 =>
     injection ew with _ ew; injection ew with e1 ew; injection ew with e2 ew; injection ew with e3 ew; injection ew with e4 _
     subst e1; subst e2; subst e3; subst e4
     rw [e a1 b1, e a2 b2, e a3 b3, e a4 b4]; exact ⟨rfl, rfl⟩
   | jL => simp at ew
 | jL a1 a2 a3 a4 a5 =>
   cases g with
   | once => simp at ew
   | each => simp at ew
   | behind => simp at ew
   | jL b1 b2 b3 b4 b5 =>
     injection ew with _ ew; injection ew with e1 ew; injection ew with e2 ew; injection ew with e3 ew; injection ew with e4 ew; injection ew with e5 _
     subst e1; subst e2; subst e3; subst e4; subst e5
     rw [e a1 b1, e a2 b2, e a3 b3, e a4 b4, e a5 b5]; exact ⟨rfl, rfl⟩
def AK (C : Addr) : Sp := fun vs H Q E => ∃ x, vs = [.str x] /\ jm 700 x /\ (rd x = none -> ∀ H', ao H H' -> E (.ref C) none H') /\ (∀ n, rd x = some n -> ∀ H', ao H H' -> Q (.int n) H')
theorem Av {C : Addr} {H : Hp} {Q : VK} {E : XK} {x : Str} (hx : jm 700 x) (h : rd x = none -> ∀ H', ao H H' -> E (.ref C) none H') (q : ∀ n, rd x = some n -> ∀ H', ao H H' -> Q (.int n) H') : AK C [.str x] H Q E := ⟨x, rfl, hx, h, q⟩
theorem Im (T : Txt K mg a) : bf P w K mg base (nX P w) 2 a.bV a.kO ["text"] (AK a.aq) := by
 have jY := lE (P := P) (w := w) (base := base) T
 have uX := rk (P := P) (w := w) (base := base) T
 refine T.iN.zo rB (fun vs H Q E h => ?_) (fun dn A outer s H vs Q E hr h => ?_)
 . obtain ⟨_, rfl, _⟩ := h; rfl
 . obtain ⟨x, rfl, hx, e, q⟩ := h
   have Ht := hx.1
   refine ⟨_, (ai (by exact (bq (bC jY (hr.mono (by decide)) rfl T.j8 T.j5 di (af (jJ (aT mW rfl T.aW PyProof.Rows.boot_isinstance (af (pv 0) (af (pV (v := .ty "str") rfl T.cI PyProof.Rows.boot_str rfl) ag))) (jZ (aF uX (hr.mono (by decide)) rfl T.nW T.mS (af (pv 0) ag)))) ag))))
    (aj (by exact (aE (aZ sf rfl T.oI PyProof.Rows.boot_int (af (pv 0) ag)))))), ?_⟩
   repeat' (walk_at "rd1")
   . intro hn
     exact e (if_neg (by rw [hn]; decide)) _ (by walk_at "same")
   . intro hn
     obtain ⟨n, en⟩ := qJ hn hx.1
     have er : rd x = some n := by unfold rd; rw [if_pos hn, en]
     have Mr : x.length <= 640 := by
      unfold fz rm at hn
      simp only [Bool.and_eq_true, decide_eq_true_eq] at hn
      have h2 := hn.1.2
      rw [fq]
      unfold cE at h2
      split at h2
      . rw [List.length_drop] at h2; omega
      . omega
     repeat' (walk_at "rd1")
     exact q n er _ (by walk_at "same")
theorem A2 (T : Txt K mg a) : lV P w K mg base 2 a.bV ["text"] [] (AK a.aq) :=
 ⟨⟨_, _, Im T, T.iN.binds fun _ _ _ _ _ _ => .all fun us hl => match us, hl with | [_], _ => rfl, .nil⟩⟩
def AJ (C : Addr) : Sp := fun vs H Q E => ∃ x, vs = [.str x] /\ jm 700 x /\ (u3 x = none -> ∀ H', ao H H' -> E (.ref C) none H') /\ (∀ m, u3 x = some m -> ∀ H', ao H H' -> Q m H')
theorem FZ {C : Addr} {H : Hp} {Q : VK} {E : XK} {x : Str} (hx : jm 700 x) (h : u3 x = none -> ∀ H', ao H H' -> E (.ref C) none H') (q : ∀ m, u3 x = some m -> ∀ H', ao H H' -> Q m H') : AJ C [.str x] H Q E := ⟨x, rfl, hx, h, q⟩
theorem HW (T : Txt K mg a) : bf P w K mg base (nX P w) 3 a.cy a.m6 ["word"] (AJ a.aq) := by
 have fm := A2 (P := P) (w := w) (base := base) T
 refine T.jw.zo tf (fun vs H Q E h => ?_) (fun dn A outer s H vs Q E hr h => ?_)
 . obtain ⟨_, rfl, _⟩ := h; rfl
 . obtain ⟨x, rfl, hx, e, q⟩ := h
   refine ⟨_, (aj (by exact (aE (nB (aA (aX hr.lx) (pv 0) ax (aw _)) oy (bC fm (hr.mono (by decide)) rfl T.eG T.eu di (af (pv 0) ag)))))), ?_⟩
   repeat' (walk_at "rd1")
   . rename_i hb
     injection hb with hb
     exact q _ (if_pos hb) _ (ao.refl _)
   . rename_i hb
     have hb : ¬ x = Str.ofString "ever" := fun z => hb (by rw [z])
     refine Av hx (fun e1 H' s' => e ?_ H' s') (fun n e1 H' s' => ?_)
     . unfold u3; rw [if_neg hb, e1]; rfl
     . repeat' (walk_at "rd1")
       exact q _ (by unfold u3; rw [if_neg hb, e1]; rfl) _ s'
theorem Gz (T : Txt K mg a) : lV P w K mg base 3 a.cy ["word"] [] (AJ a.aq) :=
 ⟨⟨_, _, HW T, T.jw.binds fun _ _ _ _ _ _ => .all fun us hl => match us, hl with | [_], _ => rfl, .nil⟩⟩
theorem BZ : yr a7 (Str.ofString "once") = some 2 := by decide +kernel
theorem DQ : yr a7 (Str.ofString "each") = some 4 := by decide +kernel
theorem ym : yr a7 (Str.ofString "behind") = some 4 := by decide +kernel
theorem CA : yr a7 (Str.ofString "slowing") = some 5 := by decide +kernel
theorem CT {k : Str} (h1 : ¬ k = Str.ofString "once") (h2 : ¬ k = Str.ofString "each") (h3 : ¬ k = Str.ofString "behind") (h4 : ¬ k = Str.ofString "slowing") : yr a7 k = none := by
 unfold yr
 simp only [List.find?_cons, decide_eq_false (fun z => h1 (Eq.symm z)), decide_eq_false (fun z => h2 (Eq.symm z)), decide_eq_false (fun z => h3 (Eq.symm z)), decide_eq_false (fun z => h4 (Eq.symm z)), List.find?_nil, Option.map_none]
def vz (C : Addr) : Sp := fun vs H Q E => ∃ p w0 rest, vs = [.ref p] /\ dq H p (.str w0 :: rest.map PyData.str) /\ (∀ x ∈ rest, jm 700 x) /\ rest.length <= 1000 /\ ((¬ ∃ kd us, qu (w0 :: rest) kd us) -> ∀ H', ao H H' -> E (.ref C) none H') /\ (∀ kd us, qu (w0 :: rest) kd us -> ∀ v H', ao H H' -> Dv H' v (.tuple [.str kd, .list (us.map mD)]) -> Q v H')
theorem HC {C : Addr} {H : Hp} {Q : VK} {E : XK} {p : Addr} {w0 : Str} {rest : List Str} (hd : dq H p (.str w0 :: rest.map PyData.str)) (ha : ∀ x ∈ rest, jm 700 x) (hl : rest.length <= 1000) (h : (¬ ∃ kd us, qu (w0 :: rest) kd us) -> ∀ H', ao H H' -> E (.ref C) none H') (q : ∀ kd us, qu (w0 :: rest) kd us -> ∀ v H', ao H H' -> Dv H' v (.tuple [.str kd, .list (us.map mD)]) -> Q v H') : vz C [.ref p] H Q E := ⟨p, w0, rest, rfl, hd, ha, hl, h, q⟩
local macro_rules | `(tactic| walk_at "rd1") => `(tactic| first
 | with_reducible refine F7 ?_
 | with_reducible refine Dx ?_
 | ((with_reducible refine' HY ?e1 ?_); (case e1 => assumption))
 | ((with_reducible refine' FH ?e1 ?_); (case e1 => assumption))
 | ((with_reducible refine' Fz ?e1 ?_); (case e1 => assumption))
 | fail)
theorem xB {x : PyData} {l : List Str} {n : Int} (h : id (decide (V.int ((x :: l.map PyData.str).length : Nat) = V.int (n + 1))) = true) : (l.length : Int) = n := by
 simp only [id, decide_eq_true_eq, V.int.injEq, List.length_cons, List.length_map] at h; omega
theorem xo {x : PyData} {l : List Str} {n : Int} (h : id (decide (V.int ((x :: l.map PyData.str).length : Nat) = V.int (n + 1))) = false) : ¬ (l.length : Int) = n := by
 simp only [id, decide_eq_false_iff_not, V.int.injEq, List.length_cons, List.length_map] at h; omega
def Hf (x : Str) (d : PyData) : Prop := ∃ n, rd x = some n /\ d = .int n
theorem pR (x : Str) (d : PyData) (h : Hf x d) : sE d = true := by obtain ⟨n, _, rfl⟩ := h; rfl
theorem lZ : ∀ {ws : List Str} {ds : List PyData}, ds.length = ws.length -> (∀ (i : Nat) c d, ws[i]? = some c -> ds[i]? = some d -> Hf c d) -> ∃ ns : List Int, ds = ns.map PyData.int /\ ws.map rd = ns.map some
 | [], [], _, _ => ⟨[], rfl, rfl⟩
 | w :: ws, d :: ds, hl, h => by
   obtain ⟨n, h1, rfl⟩ := h 0 w d rfl rfl
   obtain ⟨ns, h2, h3⟩ := lZ (by simpa using hl) fun i c d hc hd => h (i + 1) c d (by simpa using hc) (by simpa using hd)
   exact ⟨n :: ns, by rw [h2]; rfl, by rw [List.map_cons, h1, h3]; rfl⟩
theorem iM {w0 : Str} {rest : List Str} {kd : Str} {us : List V} (h : qu (w0 :: rest) kd us) : kd = w0 /\ us.length = rest.length /\ ((w0 = Str.ofString "once" /\ rest.length = 2) \/ (w0 = Str.ofString "each" /\ rest.length = 4) \/ (w0 = Str.ofString "behind" /\ rest.length = 4) \/ (w0 = Str.ofString "slowing" /\ rest.length = 5)) := by
 cases h with
 | once => exact ⟨rfl, rfl, .inl ⟨rfl, rfl⟩⟩
 | each => exact ⟨rfl, rfl, .inr (.inl ⟨rfl, rfl⟩)⟩
 | behind => exact ⟨rfl, rfl, .inr (.inr (.inl ⟨rfl, rfl⟩))⟩
 | jL => exact ⟨rfl, rfl, .inr (.inr (.inr ⟨rfl, rfl⟩))⟩
theorem pO {w0 x : Str} {rest : List Str} (hx : x ∈ if w0 = Str.ofString "once" then rest else rest.dropLast) (h : rd x = none) : ¬ ∃ kd us, qu (w0 :: rest) kd us := by
 rintro ⟨kd, us, hs⟩
 cases hs with
 | once a1 a2 =>
   rw [if_pos rfl] at hx
   simp only [List.mem_cons, List.not_mem_nil, or_false] at hx
   rcases hx with rfl | rfl <;> simp_all
 | each a1 a2 a3 a4 =>
   rw [if_neg uw] at hx
   simp only [List.dropLast, List.mem_cons, List.not_mem_nil, or_false] at hx
   rcases hx with rfl | rfl | rfl <;> simp_all
 | behind a1 a2 a3 a4 =>
   rw [if_neg ub] at hx
   simp only [List.dropLast, List.mem_cons, List.not_mem_nil, or_false] at hx
   rcases hx with rfl | rfl | rfl <;> simp_all
 | jL a1 a2 a3 a4 a5 =>
   rw [if_neg tU] at hx
   simp only [List.dropLast, List.mem_cons, List.not_mem_nil, or_false] at hx
   rcases hx with rfl | rfl | rfl | rfl <;> simp_all
theorem qg {w0 x : Str} {rest : List Str} (h0 : ¬ w0 = Str.ofString "once") (hx : rest.getLast? = some x) (h : u3 x = none) : ¬ ∃ kd us, qu (w0 :: rest) kd us := by
 rintro ⟨kd, us, hs⟩
 cases hs with
 | once => exact h0 rfl
 | each a1 a2 a3 a4 => simp at hx; subst hx; rw [h] at a4; cases a4
 | behind a1 a2 a3 a4 => simp at hx; subst hx; rw [h] at a4; cases a4
 | jL a1 a2 a3 a4 a5 => simp at hx; subst hx; rw [h] at a5; cases a5
theorem wH {x : Str} {m : V} {H : Hp} (h : u3 x = some m) : Dv H m (mD m) /\ aQ [mD m] = true := by
 rcases mC h with ⟨_, rfl⟩ | ⟨n, _, _, rfl⟩
 . exact ⟨.cj, rfl⟩
 . exact ⟨.int n, rfl⟩
local macro_rules | `(tactic| walk_at "rd1") => `(tactic| first
 | ((with_reducible refine' vT ?e1 ?e2 ?e3 (fun _ _ _ _ _ => ?_)); (case e1 => exact uD rfl); (case e2 => walk_at "dats"); (case e3 => assumption))
 | fail)
theorem FP (T : Txt K mg a) (aR : gZ w K a.bF a7) : bf P w K mg base (nX P w) 4 a.bW a.kr ["words"] (vz a.aq) := by
 have jY := lE (P := P) (w := w) (base := base) T
 have fm := A2 (P := P) (w := w) (base := base) T
 have uJ := Gz (P := P) (w := w) (base := base) T
 refine T.iK.zo kW (fun vs H Q E h => ?_) (fun dn A outer s H vs Q E hr h => ?_)
 . obtain ⟨_, _, _, rfl, _⟩ := h; rfl
 . obtain ⟨p, w0, rest, rfl, hd, ha, hlen, e, q⟩ := h
   refine ⟨_, (ai (by exact (cT (i := 1) kW.nd rfl (Or.inl rfl) (nB (eK (pv 0) (fun _ => rfl)) (bb cS (pv 0) ah (fun _ _ => rfl)) ax)))
    (ai (by exact (bq (bC jY (hr.mono (by decide)) rfl T.j8 T.j5 di (af (jJ (Gv (GZ aR (pv 1) (iJ (v := .ref a.bF) rfl T.iF rfl)) rfl) (jZ (dA (aX hr.lx) (aT cn rfl T.ec PySem.boot_len (af (pv 0) ag)) (cb lG (Cd aR (iJ (v := .ref a.bF) rfl T.iF rfl) (pv 1) (fun _ _ => rfl)) ah) (aw _)))) ag))))
    (ai (by exact (bN (aA (aX hr.lx) (pv 1) ax (aw _))
     (aj (by exact (aE (wU (af (pv 1) (af (Be (T := ["word"]) (M := ["words", "kind"]) (Jl (ak dX) ["words", "kind"] rfl rfl (by decide +kernel)) rfl (pP (jO cm (pv 0) (j9 ah) pK)) (fun _ _ _ _ _ => (gq (i := 0) (show List.Nodup (["word", "words", "kind"] : List Str) by decide +kernel) rfl (Or.inl rfl))) (gO (by decide)) (fun _ _ _ _ _ => nU) ⟨rfl, rfl, rfl⟩ EJ (fun _ _ _ _ _ _ _ Ly => (bC fm (hr.mono (by decide)) rfl T.eG T.eu Ly (af (pv 0) ag)))) ag))))))
     aI))
    (aj (by exact (aE (wU (af (pv 1) (af (cb eN (Be (T := ["word"]) (M := ["words", "kind"]) (Jl (ak dX) ["words", "kind"] rfl rfl (by decide +kernel)) rfl (pP (jO cm (pv 0) (j9 ah) (j9 (rY lR ah)))) (fun _ _ _ _ _ => (gq (i := 0) (show List.Nodup (["word", "words", "kind"] : List Str) by decide +kernel) rfl (Or.inl rfl))) (gO (by decide)) (fun _ _ _ _ _ => nU) ⟨rfl, rfl, rfl⟩ EJ (fun _ _ _ _ _ _ _ Ly => (bC fm (hr.mono (by decide)) rfl T.eG T.eu Ly (af (pv 0) ag)))) (ck (af (bC uJ (hr.mono (by decide)) rfl T.my T.nP di (af (bb cS (pv 0) (rY lR ah) (fun _ _ => rfl)) ag)) ag))) ag))))))))), ?_⟩
   have i0 : o7 (PyData.str w0 :: rest.map PyData.str) 0 = some (.str w0) := j7 (j := 0) rfl
   by_cases k1 : w0 = Str.ofString "once"
   . subst k1
     have hk := BZ
     repeat' (walk_at "rd1")
     refine kP (.inr hd.dv) i0 ?_
     repeat' (walk_at "rd1")
     . intro hb
       have hb := xo hb
       refine e (fun ⟨kd, us, hs⟩ => ?_) _ (ao.refl _)
       obtain ⟨_, _, z | z | z | z⟩ := iM hs
       all_goals (first | exact hb (by omega) | exact absurd z.1.symm uw | exact absurd z.1.symm ub | exact absurd z.1.symm tU | exact absurd z.1.symm vf | exact absurd z.1.symm yx | exact absurd z.1.symm yf | exact absurd z.1 uw | exact absurd z.1 ub | exact absurd z.1 tU | exact absurd z.1 vf | exact absurd z.1 yx | exact absurd z.1 yf)
     . intro hb
       have hb := xB hb
       obtain ⟨w1, w2, rfl⟩ : ∃ w1 w2, rest = [w1, w2] := by
        match rest, hb with
        | [w1, w2], _ => exact ⟨_, _, rfl⟩
       simp only [List.map_cons, List.map_nil] at hd
       repeat' (walk_at "rd1")
       refine sU 1 hd (fun q1 H1 s1 n1 By => ?_)
       refine sX (cs := [w1, w2]) (gd := PyData.str) Hf By.dv (Nat.le_of_ble_eq_true rfl) pR (fun x c H' N hc Ct vb yes => ?_) (fun pq H5 ds BF EH we zP A9 => ?_)
       . cases vb
         repeat' (walk_at "rd1")
         refine qB (fun _ => ?_) (fun hb => by cases hb)
         repeat' (walk_at "rd1")
         refine Av (ha c hc) (fun e1 H6 s6 => e (pO (by rw [if_pos rfl]; exact hc) e1) _ ((s1.trans Ct).trans s6)) (fun n e1 H6 s6 => yes _ _ _ s6 ⟨n, e1, rfl⟩ (.int n))
       . obtain ⟨ns, rfl, en⟩ := lZ zP A9
         match ns, en with
         | [m1, m2], en =>
           simp only [List.map_cons, List.map_nil, List.cons.injEq, and_true] at en
           repeat' (walk_at "rd1")
           exact q _ _ (.once en.1 en.2) _ _ (by walk_at "same") (by walk_at "dat")
   by_cases k2 : w0 = Str.ofString "each"
   . subst k2
     have hk := DQ
     repeat' (walk_at "rd1")
     refine kP (.inr hd.dv) i0 ?_
     repeat' (walk_at "rd1")
     . intro hb
       have hb := xo hb
       refine e (fun ⟨kd, us, hs⟩ => ?_) _ (ao.refl _)
       obtain ⟨_, _, z | z | z | z⟩ := iM hs
       all_goals (first | exact hb (by omega) | exact absurd z.1.symm uw | exact absurd z.1.symm ub | exact absurd z.1.symm tU | exact absurd z.1.symm vf | exact absurd z.1.symm yx | exact absurd z.1.symm yf | exact absurd z.1 uw | exact absurd z.1 ub | exact absurd z.1 tU | exact absurd z.1 vf | exact absurd z.1 yx | exact absurd z.1 yf)
     . intro hb
       have hb := xB hb
       obtain ⟨w1, w2, w3, w4, rfl⟩ : ∃ w1 w2 w3 w4, rest = [w1, w2, w3, w4] := by
        match rest, hb with
        | [w1, w2, w3, w4], _ => exact ⟨_, _, _, _, rfl⟩
       simp only [List.map_cons, List.map_nil] at hd
       repeat' (walk_at "rd1")
       . exact absurd (V.str.inj (by assumption)) uw
       . refine wj hd (Nat.le_of_ble_eq_true rfl) (fun q1 H1 s1 n1 By => ?_)
         refine sX (cs := [w1, w2, w3]) (gd := PyData.str) Hf By.dv (Nat.le_of_ble_eq_true rfl) pR (fun x c H' N hc Ct vb yes => ?_) (fun pq H5 ds BF EH we zP A9 => ?_)
         . cases vb
           repeat' (walk_at "rd1")
           refine qB (fun _ => ?_) (fun hb => by cases hb)
           repeat' (walk_at "rd1")
           refine Av (ha c (List.mem_append_left [_] hc)) (fun e1 H6 s6 => e (pO (by rw [if_neg uw]; exact hc) e1) _ ((s1.trans Ct).trans s6)) (fun n e1 H6 s6 => yes _ _ _ s6 ⟨n, e1, rfl⟩ (.int n))
         . obtain ⟨ns, rfl, en⟩ := lZ zP A9
           match ns, en with
           | [m1, m2, m3], en =>
             simp only [List.map_cons, List.map_nil, List.cons.injEq, and_true] at en
             repeat' (walk_at "rd1")
             refine FZ (ha w4 (by simp)) (fun e1 H6 s6 => e (qg uw rfl e1) _ ((s1.trans BF).trans s6)) (fun m e1 H6 s6 => ?_)
             obtain ⟨dm, im⟩ := wH (H := H6) e1
             repeat' (walk_at "rd1")
             exact q _ _ (.each en.1 en.2.1 en.2.2 e1) _ _ (by walk_at "same") (by walk_at "dat")
   by_cases k3 : w0 = Str.ofString "behind"
   . subst k3
     have hk := ym
     repeat' (walk_at "rd1")
     refine kP (.inr hd.dv) i0 ?_
     repeat' (walk_at "rd1")
     . intro hb
       have hb := xo hb
       refine e (fun ⟨kd, us, hs⟩ => ?_) _ (ao.refl _)
       obtain ⟨_, _, z | z | z | z⟩ := iM hs
       all_goals (first | exact hb (by omega) | exact absurd z.1.symm uw | exact absurd z.1.symm ub | exact absurd z.1.symm tU | exact absurd z.1.symm vf | exact absurd z.1.symm yx | exact absurd z.1.symm yf | exact absurd z.1 uw | exact absurd z.1 ub | exact absurd z.1 tU | exact absurd z.1 vf | exact absurd z.1 yx | exact absurd z.1 yf)
     . intro hb
       have hb := xB hb
       obtain ⟨w1, w2, w3, w4, rfl⟩ : ∃ w1 w2 w3 w4, rest = [w1, w2, w3, w4] := by
        match rest, hb with
        | [w1, w2, w3, w4], _ => exact ⟨_, _, _, _, rfl⟩
       simp only [List.map_cons, List.map_nil] at hd
       repeat' (walk_at "rd1")
       . exact absurd (V.str.inj (by assumption)) ub
       . refine wj hd (Nat.le_of_ble_eq_true rfl) (fun q1 H1 s1 n1 By => ?_)
         refine sX (cs := [w1, w2, w3]) (gd := PyData.str) Hf By.dv (Nat.le_of_ble_eq_true rfl) pR (fun x c H' N hc Ct vb yes => ?_) (fun pq H5 ds BF EH we zP A9 => ?_)
         . cases vb
           repeat' (walk_at "rd1")
           refine qB (fun _ => ?_) (fun hb => by cases hb)
           repeat' (walk_at "rd1")
           refine Av (ha c (List.mem_append_left [_] hc)) (fun e1 H6 s6 => e (pO (by rw [if_neg ub]; exact hc) e1) _ ((s1.trans Ct).trans s6)) (fun n e1 H6 s6 => yes _ _ _ s6 ⟨n, e1, rfl⟩ (.int n))
         . obtain ⟨ns, rfl, en⟩ := lZ zP A9
           match ns, en with
           | [m1, m2, m3], en =>
             simp only [List.map_cons, List.map_nil, List.cons.injEq, and_true] at en
             repeat' (walk_at "rd1")
             refine FZ (ha w4 (by simp)) (fun e1 H6 s6 => e (qg ub rfl e1) _ ((s1.trans BF).trans s6)) (fun m e1 H6 s6 => ?_)
             obtain ⟨dm, im⟩ := wH (H := H6) e1
             repeat' (walk_at "rd1")
             exact q _ _ (.behind en.1 en.2.1 en.2.2 e1) _ _ (by walk_at "same") (by walk_at "dat")
   by_cases k4 : w0 = Str.ofString "slowing"
   . subst k4
     have hk := CA
     repeat' (walk_at "rd1")
     refine kP (.inr hd.dv) i0 ?_
     repeat' (walk_at "rd1")
     . intro hb
       have hb := xo hb
       refine e (fun ⟨kd, us, hs⟩ => ?_) _ (ao.refl _)
       obtain ⟨_, _, z | z | z | z⟩ := iM hs
       all_goals (first | exact hb (by omega) | exact absurd z.1.symm uw | exact absurd z.1.symm ub | exact absurd z.1.symm tU | exact absurd z.1.symm vf | exact absurd z.1.symm yx | exact absurd z.1.symm yf | exact absurd z.1 uw | exact absurd z.1 ub | exact absurd z.1 tU | exact absurd z.1 vf | exact absurd z.1 yx | exact absurd z.1 yf)
     . intro hb
       have hb := xB hb
       obtain ⟨w1, w2, w3, w4, w5, rfl⟩ : ∃ w1 w2 w3 w4 w5, rest = [w1, w2, w3, w4, w5] := by
        match rest, hb with
        | [w1, w2, w3, w4, w5], _ => exact ⟨_, _, _, _, _, rfl⟩
       simp only [List.map_cons, List.map_nil] at hd
       repeat' (walk_at "rd1")
       . exact absurd (V.str.inj (by assumption)) tU
       . refine wj hd (Nat.le_of_ble_eq_true rfl) (fun q1 H1 s1 n1 By => ?_)
         refine sX (cs := [w1, w2, w3, w4]) (gd := PyData.str) Hf By.dv (Nat.le_of_ble_eq_true rfl) pR (fun x c H' N hc Ct vb yes => ?_) (fun pq H5 ds BF EH we zP A9 => ?_)
         . cases vb
           repeat' (walk_at "rd1")
           refine qB (fun _ => ?_) (fun hb => by cases hb)
           repeat' (walk_at "rd1")
           refine Av (ha c (List.mem_append_left [_] hc)) (fun e1 H6 s6 => e (pO (by rw [if_neg tU]; exact hc) e1) _ ((s1.trans Ct).trans s6)) (fun n e1 H6 s6 => yes _ _ _ s6 ⟨n, e1, rfl⟩ (.int n))
         . obtain ⟨ns, rfl, en⟩ := lZ zP A9
           match ns, en with
           | [m1, m2, m3, m4], en =>
             simp only [List.map_cons, List.map_nil, List.cons.injEq, and_true] at en
             repeat' (walk_at "rd1")
             refine FZ (ha w5 (by simp)) (fun e1 H6 s6 => e (qg tU rfl e1) _ ((s1.trans BF).trans s6)) (fun m e1 H6 s6 => ?_)
             obtain ⟨dm, im⟩ := wH (H := H6) e1
             repeat' (walk_at "rd1")
             exact q _ _ (.jL en.1 en.2.1 en.2.2.1 en.2.2.2 e1) _ _ (by walk_at "same") (by walk_at "dat")
   . have hk := CT k1 k2 k3 k4
     repeat' (walk_at "rd1")
     refine kP (.inr hd.dv) i0 ?_
     repeat' (walk_at "rd1")
     . intro _
       refine e (fun ⟨kd, us, hs⟩ => ?_) _ (ao.refl _)
       obtain ⟨_, _, z | z | z | z⟩ := iM hs
       . exact k1 z.1
       . exact k2 z.1
       . exact k3 z.1
       . exact k4 z.1
     . intro z; cases z
theorem C1 (T : Txt K mg a) (aR : gZ w K a.bF a7) : lV P w K mg base 4 a.bW ["words"] [] (vz a.aq) :=
 ⟨⟨_, _, FP T aR, T.iK.binds fun _ _ _ _ _ _ => .all fun us hl => match us, hl with | [_], _ => rfl, .nil⟩⟩
def InK (a : Ad) (H : Hp) (v : V) (kd : Str) (us : List V) : Prop := if kd = Str.ofString "once" then tP H v a.bB (qC us) else if kd = Str.ofString "each" then tP H v a.bo (qd us) else if kd = Str.ofString "behind" then tP H v a.aB (gC us) else tP H v a.av (fM us)
theorem Ed {H : Hp} {v : V} {us : List V} : InK a H v (Str.ofString "once") us = tP H v a.bB (qC us) := if_pos rfl
theorem zX {H : Hp} {v : V} {us : List V} : InK a H v (Str.ofString "each") us = tP H v a.bo (qd us) := by unfold InK; rw [if_neg uw, if_pos rfl]
theorem AO {H : Hp} {v : V} {us : List V} : InK a H v (Str.ofString "behind") us = tP H v a.aB (gC us) := by unfold InK; rw [if_neg ub, if_neg vf, if_pos rfl]
theorem z5 {H : Hp} {v : V} {us : List V} : InK a H v (Str.ofString "slowing") us = tP H v a.av (fM us) := by unfold InK; rw [if_neg tU, if_neg yx, if_neg yf]
def vP (a : Ad) : Sp := fun vs H Q E => ∃ v kd us ws, vs = [.str kd, v] /\ qu ws kd us /\ Dv H v (.list (us.map mD)) /\ (xT kd us = false -> ∀ H', ao H H' -> E (.ref a.au) none H') /\ (xT kd us = true -> ∀ v' H', ao H H' -> InK a H' v' kd us -> Q v' H')
theorem Jz {H : Hp} {Q : VK} {E : XK} {v : V} {kd : Str} {us : List V} {ws : List Str} (hs : qu ws kd us) (hd : Dv H v (.list (us.map mD))) (h : xT kd us = false -> ∀ H', ao H H' -> E (.ref a.au) none H') (q : xT kd us = true -> ∀ v' H', ao H H' -> InK a H' v' kd us -> Q v' H') : vP a [.str kd, v] H Q E := ⟨v, kd, us, ws, rfl, hs, hd, h, q⟩
theorem FQ (T : Txt K mg a) : bf P w K mg base (nX P w) 7 a.cA a.nV ["kind", "numbers"] (vP a) := by
 have zD := vQ (P := P) (w := w) (base := base) T
 have Bv := wG (P := P) (w := w) (base := base) T
 have vq := tL (P := P) (w := w) (base := base) T
 have uK := rj (P := P) (w := w) (base := base) T
 have g1 : ¬ V.str (Str.ofString "each") = V.str (Str.ofString "once") := fun z => uw (V.str.inj z)
 have g2 : ¬ V.str (Str.ofString "behind") = V.str (Str.ofString "once") := fun z => ub (V.str.inj z)
 have g3 : ¬ V.str (Str.ofString "slowing") = V.str (Str.ofString "once") := fun z => tU (V.str.inj z)
 have g4 : ¬ V.str (Str.ofString "behind") = V.str (Str.ofString "each") := fun z => vf (V.str.inj z)
 have g5 : ¬ V.str (Str.ofString "slowing") = V.str (Str.ofString "each") := fun z => yx (V.str.inj z)
 have g6 : ¬ V.str (Str.ofString "slowing") = V.str (Str.ofString "behind") := fun z => yf (V.str.inj z)
 refine T.jy.zo tH (fun vs H Q E h => ?_) (fun dn A outer s H vs Q E hr h => ?_)
 . obtain ⟨_, _, _, _, rfl, _⟩ := h; rfl
 . obtain ⟨v, kd, us, ws, rfl, hs, hd, e, q⟩ := h
   refine ⟨_, (ai (by exact (bN (aA (aX hr.lx) (pv 0) ax (aw _))
    (aj (by exact (aE (pS T.zk zD (hr.mono (by decide)) rfl T.xA di (af (bb cS (pv 1) ah (fun _ _ => rfl)) (af (bb cS (pv 1) ah (fun _ _ => rfl)) ag))))))
    aI))
    (ai (by exact (bN (aA (aX hr.lx) (pv 0) ax (aw _))
     (aj (by exact (aE (pS T.zW Bv (hr.mono (by decide)) rfl T.xc di (af (bb cS (pv 1) ah (fun _ _ => rfl)) (af (bb cS (pv 1) ah (fun _ _ => rfl)) (af (bb cS (pv 1) ah (fun _ _ => rfl)) (af (bb cS (pv 1) ah (fun _ _ => rfl)) ag))))))))
     aI))
    (ai (by exact (bN (aA (aX hr.lx) (pv 0) ax (aw _))
     (aj (by exact (aE (pS T.uH vq (hr.mono (by decide)) rfl T.nZ di (af (bb cS (pv 1) ah (fun _ _ => rfl)) (af (bb cS (pv 1) ah (fun _ _ => rfl)) (af (bb cS (pv 1) ah (fun _ _ => rfl)) (af (bb cS (pv 1) ah (fun _ _ => rfl)) ag))))))))
     aI))
    (aj (by exact (aE (pS T.rT uK (hr.mono (by decide)) rfl T.qb di (af (bb cS (pv 1) ah (fun _ _ => rfl)) (af (bb cS (pv 1) ah (fun _ _ => rfl)) (af (bb cS (pv 1) ah (fun _ _ => rfl)) (af (bb cS (pv 1) ah (fun _ _ => rfl)) (af (bb cS (pv 1) ah (fun _ _ => rfl)) ag)))))))))))), ?_⟩
   cases hs with
   | once a1 a2 =>
     rw [xn] at e q
     simp only [List.map_cons, List.map_nil, mD] at hd
     repeat' (walk_at "rd1")
     refine vH rfl ⟨_, _, rfl⟩ e (fun ho v' H' s' hi => ?_)
     repeat' (walk_at "rd1")
     exact q ho _ _ s' (Ed ▸ hi)
   | each a1 a2 a3 am =>
     rw [wM] at e q
     rcases mC am with ⟨_, rfl⟩ | ⟨n, _, _, rfl⟩
     . simp only [List.map_cons, List.map_nil, mD] at hd
       repeat' (walk_at "rd1")
       all_goals (first | exact absurd (by assumption) g1 | exact absurd (by assumption) g2 | exact absurd (by assumption) g3 | exact absurd (by assumption) g4 | exact absurd (by assumption) g5 | exact absurd (by assumption) g6 | skip)
       refine vH rfl ⟨_, _, _, _, rfl, .inl rfl⟩ e (fun ho v' H' s' hi => ?_)
       repeat' (walk_at "rd1")
       exact q ho _ _ s' (zX ▸ hi)
     . simp only [List.map_cons, List.map_nil, mD] at hd
       repeat' (walk_at "rd1")
       all_goals (first | exact absurd (by assumption) g1 | exact absurd (by assumption) g2 | exact absurd (by assumption) g3 | exact absurd (by assumption) g4 | exact absurd (by assumption) g5 | exact absurd (by assumption) g6 | skip)
       refine vH rfl ⟨_, _, _, _, rfl, .inr ⟨_, rfl⟩⟩ e (fun ho v' H' s' hi => ?_)
       repeat' (walk_at "rd1")
       exact q ho _ _ s' (zX ▸ hi)
   | behind a1 a2 a3 am =>
     rw [xa] at e q
     rcases mC am with ⟨_, rfl⟩ | ⟨n, _, _, rfl⟩
     . simp only [List.map_cons, List.map_nil, mD] at hd
       repeat' (walk_at "rd1")
       all_goals (first | exact absurd (by assumption) g1 | exact absurd (by assumption) g2 | exact absurd (by assumption) g3 | exact absurd (by assumption) g4 | exact absurd (by assumption) g5 | exact absurd (by assumption) g6 | skip)
       refine vH rfl ⟨_, _, _, _, rfl, .inl rfl⟩ e (fun ho v' H' s' hi => ?_)
       repeat' (walk_at "rd1")
       exact q ho _ _ s' (AO ▸ hi)
     . simp only [List.map_cons, List.map_nil, mD] at hd
       repeat' (walk_at "rd1")
       all_goals (first | exact absurd (by assumption) g1 | exact absurd (by assumption) g2 | exact absurd (by assumption) g3 | exact absurd (by assumption) g4 | exact absurd (by assumption) g5 | exact absurd (by assumption) g6 | skip)
       refine vH rfl ⟨_, _, _, _, rfl, .inr ⟨_, rfl⟩⟩ e (fun ho v' H' s' hi => ?_)
       repeat' (walk_at "rd1")
       exact q ho _ _ s' (AO ▸ hi)
   | jL a1 a2 a3 a4 am =>
     rw [wY] at e q
     rcases mC am with ⟨_, rfl⟩ | ⟨n, _, _, rfl⟩
     . simp only [List.map_cons, List.map_nil, mD] at hd
       repeat' (walk_at "rd1")
       all_goals (first | exact absurd (by assumption) g1 | exact absurd (by assumption) g2 | exact absurd (by assumption) g3 | exact absurd (by assumption) g4 | exact absurd (by assumption) g5 | exact absurd (by assumption) g6 | skip)
       refine vH rfl ⟨_, _, _, _, _, rfl, .inl rfl⟩ e (fun ho v' H' s' hi => ?_)
       repeat' (walk_at "rd1")
       exact q ho _ _ s' (z5 ▸ hi)
     . simp only [List.map_cons, List.map_nil, mD] at hd
       repeat' (walk_at "rd1")
       all_goals (first | exact absurd (by assumption) g1 | exact absurd (by assumption) g2 | exact absurd (by assumption) g3 | exact absurd (by assumption) g4 | exact absurd (by assumption) g5 | exact absurd (by assumption) g6 | skip)
       refine vH rfl ⟨_, _, _, _, _, rfl, .inr ⟨_, rfl⟩⟩ e (fun ho v' H' s' hi => ?_)
       repeat' (walk_at "rd1")
       exact q ho _ _ s' (z5 ▸ hi)
theorem CM (T : Txt K mg a) : lV P w K mg base 7 a.cA ["kind", "numbers"] [] (vP a) :=
 ⟨⟨_, _, FQ T, T.jy.binds fun _ _ _ _ _ _ => .all fun us hl => match us, hl with | [_, _], _ => rfl, .nil⟩⟩
local macro_rules | `(tactic| walk_at "rd1") => `(tactic| first
 | ((with_reducible refine' GL ?e1 ?e2 ?e3 ?_); (case e1 => walk_at "at"); (case e2 => assumption); (case e3 => assumption))
 | fail)
def uN (d : PyData) : Prop := ∃ x, d = .str x /\ GoodW (Txt.split x (Str.ofString " "))
def xt (d : PyData) : Prop := ∀ x, d = .str x -> jm 700 x
theorem tT {x z : Str} {n : Nat} (h : jm n x) (hz : z ∈ Txt.split x (Str.ofString " ")) : jm n z := by
 refine ⟨Nat.le_trans (PyProof.Rows.part_short hz) h.1, fun c hc => ?_⟩
 refine h.2 c ?_
 have h1 := StrLaws.join_split x (Str.ofString " ")
 rw [<- StrLaws.glued_eq_join] at h1
 change Txt.join (Str.ofString " ") _ = _ at h1
 rw [<- h1]
 generalize Txt.split x (Str.ofString " ") = ps at hz
 cases ps with
 | nil => cases hz
 | cons p ps =>
   rw [ny, List.mem_append]
   rcases List.mem_cons.mp hz with rfl | hz
   . exact .inl hc
   . exact .inr (List.mem_flatMap.mpr ⟨z, hz, List.mem_append_right _ hc⟩)
theorem FR {tb : (St -> XK) -> TS} {hit : Addr -> Bool -> Prop} {ta : TA} {CN : Addr} {EX : XK} {D : Ends} {σ : St} {H : Hp} (h : tb (fun σ' c od H' => ∃ C, c = .ref C /\ hit C true /\ ∀ a, H' a = none -> ta σ' (upd H' a (.ext (vp a C od))) fun vs H1 => vs.length <= sizeLine /\ H1 a = some (.ext (vp a C od)) /\ EX (.ref CN) none H1) D σ H) : EB tb hit ta CN EX D σ H := h
def zp (a : Ad) : Sp := fun vs H Q E => ∃ v d, vs = [v] /\ Dv H v d /\ xt d /\ (¬ uN d -> ∀ H', ao H H' -> E (.ref a.aq) none H') /\ (∀ x kd us, d = .str x -> qu (Txt.split x (Str.ofString " ")) kd us -> xT kd us = true -> ∀ v' H', ao H H' -> InK a H' v' kd us -> Q v' H')
theorem AF {H : Hp} {Q : VK} {E : XK} {v : V} {d : PyData} (hd : Dv H v d) (hs : xt d) (h : ¬ uN d -> ∀ H', ao H H' -> E (.ref a.aq) none H') (q : ∀ x kd us, d = .str x -> qu (Txt.split x (Str.ofString " ")) kd us -> xT kd us = true -> ∀ v' H', ao H H' -> InK a H' v' kd us -> Q v' H') : zp a [v] H Q E := ⟨v, d, rfl, hd, hs, h, q⟩
theorem IT (T : Txt K mg a) (aR : gZ w K a.bF a7) : bf P w K mg base (Bz P w) 9 a.cx a.mO ["text"] (zp a) := by
 have jY := lE (P := P) (w := w) (base := base) T
 have tm := C1 (P := P) (base := base) T aR
 have uG := CM (P := P) (w := w) (base := base) T
 refine T.jR.Pk fk (fun vs H Q E h => ?_) (fun dn A outer s H vs Q E hr h => ?_)
 . obtain ⟨_, _, rfl, _⟩ := h; rfl
 . obtain ⟨v, d, rfl, hv, hs, e, q⟩ := h
   refine ⟨_, (ai (by exact (bq (bC jY (hr.mono (by decide)) rfl T.j8 T.j5 A0 (af (aT mW rfl T.aW PyProof.Rows.boot_isinstance (af (pv 0) (af (pV (v := .ty "str") rfl T.cI PyProof.Rows.boot_str rfl) ag))) ag))))
    (ai (by exact (zm (bC tm (hr.mono (by decide)) rfl T.lb T.ll A0 (af (qh PySem.F.plainAttrs_str PySem.F.slot_str_split PySem.F.type_str_split uc (pv 0) (af ax ag)) ag)) (Ga (n := 2) rfl (ur (gq (i := 1) fk.nd rfl (Or.inl rfl)) (ur (gq (i := 2) fk.nd rfl (Or.inl rfl)) Dd)))))
    (aj (by exact (Ck (fun _ _ _ hP => (aj (by exact (aE (bC uG (hr.mono (by decide)) rfl T.nh T.mB hP (af (pv 1) (af (pv 2) ag)))))))
     (BX rfl T.gR T.uB) (fun ae => (af ax ag)) Ig rfl T.j2 T.g9 fk.nd rfl rfl rfl))))), ?_⟩
   cases d with
   | str x =>
     obtain rfl := hv.str_inv
     have hx := hs x rfl
     have Ht := hx.1
     repeat' (walk_at "rd1")
     . intro z; cases z
     . intro _
       repeat' (walk_at "rd1")
       refine xS (by decide) (by omega) (fun p1 H1 s1 n1 zg => ?_)
       have L5 := PyProof.Rows.split_pos x (Str.ofString " ")
       have j1 := PyProof.Rows.split_le x (Str.ofString " ")
       have KL : ∀ z ∈ Txt.split x (Str.ofString " "), jm 700 z := fun z hz => tT hx hz
       have eg : ¬ GoodW (Txt.split x (Str.ofString " ")) -> ¬ uN (.str x) := fun h ⟨y, ey, hy⟩ => by cases ey; exact h hy
       have q := fun kd us => q x kd us rfl
       generalize Txt.split x (Str.ofString " ") = ws at *
       cases ws with
       | nil => simp at L5
       | cons w0 rest =>
         repeat' (walk_at "rd1")
         refine HC zg (fun z hz => KL z (List.mem_cons_of_mem _ hz)) (by rw [List.length_cons] at j1; omega) (fun hn H2 s2 => e (eg fun ⟨kd, us, h, _⟩ => hn ⟨kd, us, h⟩) _ (s1.trans s2)) (fun kd us qi v2 H2 s2 DJ => ?_)
         repeat' (walk_at "rd1")
         refine Fu DJ (fun v3 v4 h3 h4 => ?_)
         cases h3
         repeat' (walk_at "rd1")
         with_reducible refine FR ?_
         repeat' (walk_at "rd1")
         refine Jz qi h4 (fun MI H3 s3 => ⟨_, rfl, T.nJ, fun ae vh => ?_⟩) (fun a9 v5 H3 s3 hi => ?_)
         . have s4 : ao H3 (upd H3 ae (.ext (vp ae a.au none))) := bA vh
           have fin := e (eg fun ⟨Kv, Kd, h, ho⟩ => by
            obtain ⟨rfl, rfl⟩ := qi.det h
            rw [MI] at ho; cases ho) _ (((s1.trans s2).trans s3).trans s4)
           have Pq : upd H3 ae (.ext (vp ae a.au none)) ae = some (.ext (vp ae a.au none)) := aN
           generalize upd H3 ae (.ext (vp ae a.au none)) = H4 at *
           repeat' (walk_at "rd1")
           exact ⟨by rw [PySem.sizeLine_eq]; simp, Pq, fin⟩
         . repeat' (walk_at "rd1")
           exact q _ _ qi a9 _ _ ((s1.trans s2).trans s3) hi
   | _ =>
     repeat' (walk_at "rd1")
     . intro _; exact e (fun ⟨y, ey, _⟩ => by cases ey) _ (ao.refl _)
     . intro z; cases z
theorem zS (T : Txt K mg a) (aR : gZ w K a.bF a7) : Iy P w K mg base 9 a.cx ["text"] [] (zp a) :=
 ⟨⟨_, _, IT T aR, T.jR.binds fun _ _ _ _ _ _ => .all fun us hl => match us, hl with | [_], _ => rfl, .nil⟩⟩
def tM : Sp := fun vs H Q _ => ∃ v d, vs = [v] /\ Dv H v d /\ xt d /\ ¬ uN d /\ ∀ H', ao H H' -> Q (.bl true) H'
theorem zt {H : Hp} {Q : VK} {E : XK} {v : V} {d : PyData} (hd : Dv H v d) (hs : xt d) (hn : ¬ uN d) (q : ∀ H', ao H H' -> Q (.bl true) H') : tM [v] H Q E := ⟨v, d, rfl, hd, hs, hn, q⟩
theorem Cy (T : Txt K mg a) (aR : gZ w K a.bF a7) : bf P w K mg base q9 10 a.bp a.i9 ["_law_thing"] tM := by
 have dN := zS (P := P) (base := base) T aR
 have te := T.rH; have i1 := T.dD; have i2 := T.de; have i3 := T.c7
 refine T.fG.ok i7 (fun vs H Q E h => ?_) (fun dn A outer s H vs Q E hr h => ?_)
 . obtain ⟨_, _, rfl, _⟩ := h; rfl
 . obtain ⟨v, d, rfl, hv, hb, hn, q⟩ := h
   refine ⟨_, (ai (by exact (Dz (fun _ _ _ hP => (aj (by exact (bq (nz dN (hr.mono (by decide)) rfl T.df T.da hP (af (pv 0) ag))))))
    aI
    (lP.cons (i := some 1) (B8 rfl T.mY T.tZ) (fun ae => (ai (by exact (bN (PW.pt (qc (rV (K := K) rfl (aT (lX (K := K) rfl) rfl T.aW PyProof.Rows.boot_isinstance (af (pv 1) (af (iJ (v := .ref a.eF) rfl T.uA rfl) ag))) (fun _ => rfl)) (qf (rV (K := K) rfl (aT (lX (K := K) rfl) rfl T.aW PyProof.Rows.boot_isinstance (af (pv 1) (af (iJ (v := .ref a.au) rfl T.gR rfl) ag))) (fun _ => rfl)))))
     (aj (aE ql))
     aI))
    (aj (by exact (aE (aT (lX (K := K) rfl) rfl T.aW PyProof.Rows.boot_isinstance (af (pv 1) (af (iJ (v := .ref a.aq) rfl T.j2 rfl) ag)))))))) ⟨rfl, rfl⟩
    lP.nil) i7.nd rfl rfl rfl))
    (aj (aE ql))), ?_⟩
   repeat' (walk_at "rd1")
   with_reducible refine GW ?_
   repeat' (walk_at "rd1")
   refine AF (by walk_at "dat") hb (fun _ H1 s1 => ⟨_, rfl, .inl ⟨T.jr, fun ae vh => ?_⟩⟩) (fun x kd us ed qi ho v' H1 s1 hi => absurd ⟨x, ed, kd, us, qi, ho⟩ hn)
   have s2 : ao H1 (upd H1 ae (.ext (vA ae a.aq none))) := bA vh
   have hH : upd H1 ae (.ext (vA ae a.aq none)) ae = some (.ext (vA ae a.aq none)) := aN
   have fin := q _ (s1.trans s2)
   generalize upd H1 ae (.ext (vA ae a.aq none)) = H2 at *
   repeat' (walk_at "rd1")
   exact fin
theorem A3 (T : Txt K mg a) (aR : gZ w K a.bF a7) : rn P w K mg base 10 a.bp ["_law_thing"] [] tM :=
 ⟨⟨_, _, Cy T aR, T.fG.binds fun _ _ _ _ _ _ => .all fun us hl => match us, hl with | [_], _ => rfl, .nil⟩⟩
def Bf (K : PySem.W.Frag) : Sp := fun vs H Q _ => ∃ (l : Addr) (ns : List Int), vs = [.ref l] /\ fW K H l (ns.map V.int) /\ ns.length <= 63 /\ ∀ H', Q (.bl true) H'
theorem y8 (T : Txt K mg a) (s : Shared) (u : Value) : BindsTo s a.tN ⟨[u], []⟩ [("_law_script", u)] := by
 obtain ⟨oc, od, kV, doc, pm, an, dn, ct, yc, e, lk, tQ⟩ := T.Bp.ex
 rw [e]
 exact .of_eq rfl
theorem p8 (T : Txt K mg a) : bf P w K mg base q9 1 a.bh a.jl ["_law_script", "_law_k"] (wz K) := by
 refine T.fD.ok pI (fun vs H Q E h => ?_) (fun dn A outer s H vs Q E hr h => ?_)
 . obtain ⟨_, _, _, rfl, _⟩ := h; rfl
 . obtain ⟨l, ns, i, rfl, hl, h0, k⟩ := h
   refine ⟨_, (ai (by exact (bN (aA qq (pv 1) (aT cn rfl T.ec PySem.boot_len (af (pv 0) ag)) (aw _))
    (aj (aE (bb cS (pv 0) (pv 1) (fun _ _ => rfl))))
    aI))
    (aj (aE ah))), ?_⟩
   repeat' (walk_at "rd1")
   . exact Ja hl (Dc h0 (by assumption)) k
   . rw [B6 h0 (by assumption)] at k; exact k
theorem ja (T : Txt K mg a) : rn P w K mg base 1 a.bh ["_law_script", "_law_k"] [] (wz K) :=
 ⟨⟨_, _, p8 T, T.fD.binds fun _ _ _ _ _ _ => .all fun us hl => match us, hl with | [_, _], _ => rfl, .nil⟩⟩
local macro_rules | `(tactic| walk_at "use") => `(tactic| first
 | ((with_reducible refine' Fd ?e1 ?e2 ?_); (case e1 => walk_at "sql"); (case e2 => omega))
 | fail)
def sy : Sp := fun vs H Q _ => ∃ c, vs = [.int c] /\ ∀ n : Int, 0 <= n -> n < 10 ^ 39 -> Q (.int n) H
theorem G2 {H : Hp} {Q : VK} {E : XK} {c : Int} (q : ∀ n : Int, 0 <= n -> n < 10 ^ 39 -> Q (.int n) H) : sy [.int c] H Q E := ⟨c, rfl, q⟩
set_option hygiene false in
local macro_rules | `(tactic| walk_at "use") => `(tactic| first
 | with_reducible refine G2 (fun _ _ _ => ?_)
 | fail)
theorem Cr (T : Txt K mg a) : bf P w K mg base q9 1 a.bE a.jM ["_law_cell"] sy := by
 refine T.gF.ok qj (fun vs H Q E h => ?_) (fun dn A outer s H vs Q E hr h => ?_)
 . obtain ⟨_, rfl, _⟩ := h; rfl
 . obtain ⟨c, rfl, q⟩ := h
   refine ⟨_, (ai (by exact (bN (aA (aX hr.lx) (cb bQ (pv 0) ah) ah (aw _))
    (aj (by exact (aE (cb bQ (cb fA (pv 0) ah) ah))))
    aI))
    (ai (by exact (bN (aA (aX hr.lx) (cb bQ (pv 0) ah) ah (aw _))
     (aj (by exact (aE (cb bQ (cb fA (pv 0) ah) ah))))
     aI))
    (aj (by exact (aE (cb bQ (cb fA (pv 0) ah) (cb zM ah ah))))))), ?_⟩
   repeat' (walk_at "rd1")
   all_goals exact q _ (by omega) (by omega)
theorem uL (T : Txt K mg a) : rn P w K mg base 1 a.bE ["_law_cell"] [] sy :=
 ⟨⟨_, _, Cr T, T.gF.binds fun _ _ _ _ _ _ => .all fun us hl => match us, hl with | [_], _ => rfl, .nil⟩⟩
def vK : Sp := fun vs H Q _ => ∃ x, vs = [.str x] /\ jm 700 x /\ Q (.int (aV x)) H
theorem Hz {H : Hp} {Q : VK} {E : XK} {x : Str} (h : jm 700 x) (q : Q (.int (aV x)) H) : vK [.str x] H Q E := ⟨x, rfl, h, q⟩
theorem BW {x : Str} (h : x.cps.toList.all dig = false) : aV x = -1 := by
 rcases p9 x with ⟨_, e⟩ | ⟨_, _, _, e⟩ | ⟨n, h0, h1, e1, e2, e3, e4⟩
 . exact e
 . exact e
 . rw [e4] at h; cases h
theorem pZ {x : Str} (h : x.cps.toList.all dig = true) : cE x.cps.toList = x.cps.toList := by
 unfold cE
 rw [if_neg]
 intro z
 cases e : x.cps.toList with
 | nil => rw [e] at z; simp at z
 | cons c r =>
   rw [e] at z h
   have hc : c = 45 := by simpa using z
   rw [List.all_cons, hc] at h
   have : dig 45 = false := by decide
   rw [this] at h; cases h
theorem tO {x : Str} (h : fz x = false) : aV x = -1 := by
 unfold aV rd
 rw [if_neg (by rw [h]; decide)]
theorem xq {x : Str} {n : Int} (h : fz x = true) (hd : x.cps.toList.all dig = true) (hn : PySem.intText? x = some n) : aV x = n := by
 have e : rd x = some n := by unfold rd; rw [if_pos h, hn]
 rcases ni e with ⟨h1, _⟩ | ⟨_, _, h2, _⟩
 . exfalso
   have kh : x.cps.toList ≠ [] := fun z => by
    unfold fz rm at h
    rw [pZ hd, z] at h
    simp at h
   have hl : x.length <= 4300 := by
    unfold fz rm at h
    rw [pZ hd] at h
    simp only [Bool.and_eq_true, decide_eq_true_eq] at h
    rw [fq]; omega
   rw [PySem.intText_digits (xj hd) kh hl] at hn
   cases hn
   omega
 . exact h2
theorem Gi (T : Txt K mg a) : bf P w K mg base q9 1 a.bU a.kQ ["_law_word"] vK := by
 refine T.iD.ok kI (fun vs H Q E h => ?_) (fun dn A outer s H vs Q E hr h => ?_)
 . obtain ⟨_, rfl, _⟩ := h; rfl
 . obtain ⟨x, rfl, hx, q⟩ := h
   have Ht := hx.1
   refine ⟨_, (ai (by exact (EY PassesOwn.never rfl (Ap (pv 0)) (gq (i := 1) kI.nd rfl (Or.inl rfl))
    (aj (by exact (bN (aA Bm (pv 1) ax rfl)
     (aj (aE (cb Bh ah ah)))
     aI)))))
    (ai (by exact (bN (PW.pt (qc (aA (aX hr.lx) (pv 0) ax (aw _)) (qc (aA xF (aT cn rfl T.ec PySem.boot_len (af (pv 0) ag)) ah (aw _)) (qf (PW.pt (vU (aA (vS hr.lx) (pv 0) ax (aw _)) (sj (aA (aX hr.lx) (bb cS (pv 0) ah (fun _ _ => rfl)) ax (aw _)))))))))
     (aj (aE (cb Bh ah ah)))
     aI))
    (aj (by exact (aE (aZ sf rfl T.oI PyProof.Rows.boot_int (af (pv 0) ag))))))), ?_⟩
   repeat' (walk_at "rd1")
   refine K0 (fun j σ' H2 => ∃ z, σ' = [some (.str x), z] /\ H2 = H /\ ∀ i c, i < j -> x.cps[i]? = some c -> dig c = true) ⟨_, rfl, rfl, fun i c h => by omega⟩ ?_ ?_
   . rintro i c σ' H2 hc ⟨z, rfl, rfl, gJ⟩
     have MV : c ∈ x.cps.toList := List.mem_of_getElem? (by rw [Array.getElem?_toList]; exact hc)
     have ho := MY ⟨c, hx.2 c MV⟩
     repeat' (walk_at "rd1")
     . rename_i hb
       have Ma : dig c = false := by simpa [ho] using hb
       rw [BW (by rw [List.all_eq_false]; exact ⟨c, MV, by simp [Ma]⟩)] at q
       exact q
     . rename_i hb
       have Ma : dig c = true := by simpa [ho] using hb
       refine ⟨_, rfl, rfl, fun j d hj hd => ?_⟩
       by_cases e : j = i
       . subst e
         rw [hc] at hd
         cases hd
         exact Ma
       . exact gJ j d (by omega) hd
   . rintro σ' H2 ⟨z, rfl, rfl, gJ⟩
     have Ft : x.cps.toList.all dig = true := by
      rw [List.all_eq_true]
      intro c hc
      obtain ⟨i, hi, e⟩ := List.getElem_of_mem hc
      exact gJ i c (by simpa using hi) (by rw [<- Array.getElem?_toList, List.getElem?_eq_getElem hi, e])
     have qw := pZ Ft
     have JA : x.length = (cE x.cps.toList).length := by rw [qw, fq]
     have LW : (cE x.cps.toList).all dig = true := by rw [qw]; exact Ft
     repeat' (walk_at "rd1")
     . rename_i hb
       have e0 : x = Str.ofString "" := V.str.inj hb
       have := tO (x := x) (sg (by rw [<- JA, e0]; decide))
       rw [this] at q
       exact q
     . rename_i hb
       rw [tO (x := x) (uC (by omega))] at q
       exact q
     . rename_i b1 b2 b3
       have sI : 1 <= x.cps.toList.length := by
        cases e : x.cps.toList with
        | nil => exact absurd (congrArg V.str (str_list (by rw [e]; decide))) b1
        | cons c r => simp
       obtain ⟨c, t, el, ei⟩ := uO rfl sI
       have kh := xr (x := x) b3 (by rw [qw]; exact el) (by omega) LW
       refine A6 (by rw [PySem.sizeLine_eq]; omega) ei ?_
       repeat' (walk_at "rd1")
       . rename_i b4
         rw [tO (x := x) (by rw [kh, decide_eq_true b4]; rfl)] at q
         exact q
       . rename_i b4
         have hn : fz x = true := by rw [kh, decide_eq_false b4]; rfl
         obtain ⟨n, en⟩ := qJ hn hx.1
         rw [xq hn Ft en] at q
         repeat' (walk_at "rd1")
         exact q
     . rename_i b1 b2 b3
       have hn := uY b3
       obtain ⟨n, en⟩ := qJ hn hx.1
       rw [xq hn Ft en] at q
       repeat' (walk_at "rd1")
       exact q
theorem DF (T : Txt K mg a) : rn P w K mg base 1 a.bU ["_law_word"] [] vK :=
 ⟨⟨_, _, Gi T, T.iD.binds fun _ _ _ _ _ _ => .all fun us hl => match us, hl with | [_], _ => rfl, .nil⟩⟩
theorem xm {H : Hp} {y : V} {d : PyData} (hy : Dv H y d) : ∀ {xs : List V} {ds : List PyData} (j : Nat), cf H xs ds -> cf H (xs.set j y) (ds.set j d)
 | [], [], _, _ => .nil
 | _ :: _, _ :: _, 0, .cons _ t => .cons hy t
 | _ :: _, _ :: _, j + 1, .cons h t => .cons h (xm hy j t)
theorem qY {d : PyData} (hd : sE d = true) {ds : List PyData} (j : Nat) (h : aQ ds = true) : aQ (ds.set j d) = true := by
 rw [c5] at h ⊢
 intro x hx
 rcases List.mem_or_eq_of_mem_set hx with h1 | rfl
 . exact h x h1
 . exact hd
theorem GB {D : Ends} {σ : St} {H : Hp} {to ti te : TE} {t : BU} (h : te σ H fun v H1 => to σ H1 fun o H2 => ti σ H2 fun i H3 => t o i v H3 fun H4 => D.nx σ H4) : vm te (HN to ti t) D σ H := h
theorem zE {H : Hp} {p : Addr} {ds : List PyData} {j : Nat} {k : Int} {y : V} {d : PyData} {R : Hp -> Prop} (hp : dq H p ds) (hk : yi ds.length k = some j) (hy : Dv H y d) (hi : sE d = true) (h : ∀ H2, Mv [p] H H2 -> dq H2 p (ds.set j d) -> R H2) : D4 (.ref p) (.int k) y H R := by
 obtain ⟨xs, e, dv, im⟩ := hp
 have m : Mv [p] H (upd H p (.lst (xs.set j y))) := .wx e (by intro _ z; cases z)
 exact ⟨p, xs, k, j, rfl, rfl, e, by rw [dv.length]; exact hk, h _ m ⟨_, aN, m.Ao (qY hi j im) (xm hy j dv), qY hi j im⟩⟩
local macro_rules | `(tactic| walk_at "rd1") => `(tactic| first
 | with_reducible refine GB ?_
 | ((with_reducible refine' zE ?e1 ?e2 ?e3 ?e4 (fun _ _ _ => ?_)); (case e1 => walk_at "lat"); (case e2 => exact rfl); (case e3 => walk_at "dat"); (case e4 => exact rfl))
 | fail)
abbrev Hi : Str := Str.ofString "ever"
def u6 (rest : List Str) : List Int := if rest.getLast? = some Hi then (rest.map aV).set (rest.length - 1) 1 else rest.map aV
theorem DP (rest : List Str) : (u6 rest).length = rest.length := by unfold u6; split <;> simp
def vE (x : Str) : Int := if x = Hi then 1 else aV x
theorem rS (x : Str) : 1 <= vE x ↔ ∃ m, u3 x = some m /\ xY m = true := by
 unfold vE u3
 by_cases h : x = Hi
 . rw [if_pos h, if_pos h]
   exact ⟨fun _ => ⟨_, rfl, rfl⟩, fun _ => by decide⟩
 . rw [if_neg h, if_neg h]
   constructor
   . intro h1
     obtain ⟨e, _⟩ := eo (x := x) (by omega)
     rw [e]
     exact ⟨_, rfl, by simp [xY]; omega⟩
   . rintro ⟨m, e, hm⟩
     cases e1 : rd x with
     | none => rw [e1] at e; cases e
     | some n =>
       rw [e1] at e
       cases e
       simp only [xY, decide_eq_true_eq] at hm
       rcases ni e1 with ⟨h1, _⟩ | ⟨_, _, h2, _⟩
       . omega
       . omega
theorem ua (w1 w2 w3 w4 : Str) : u6 [w1, w2, w3, w4] = [aV w1, aV w2, aV w3, vE w4] := by
 unfold u6 vE
 by_cases h : w4 = Hi
 . rw [if_pos (by rw [h]; rfl), if_pos h]; rfl
 . rw [if_neg (by simpa using h), if_neg h]; rfl
theorem Am (w1 w2 w3 w4 w5 : Str) : u6 [w1, w2, w3, w4, w5] = [aV w1, aV w2, aV w3, aV w4, vE w5] := by
 unfold u6 vE
 by_cases h : w5 = Hi
 . rw [if_pos (by rw [h]; rfl), if_pos h]; rfl
 . rw [if_neg (by simpa using h), if_neg h]; rfl
theorem dG {x : Str} {n : Int} (h : rd x = some n) (h0 : 0 <= n) : aV x = n := by
 rcases ni h with ⟨h1, _⟩ | ⟨_, _, h2, _⟩
 . omega
 . exact h2
theorem nY {rest : List Str} : GoodW (Str.ofString "once" :: rest) ↔ ∃ w1 w2, rest = [w1, w2] /\ 0 <= aV w1 /\ aV w1 <= aV w2 := by
 constructor
 . rintro ⟨kd, us, hs, ho⟩
   generalize e : Str.ofString "once" :: rest = ws at hs
   cases hs with
   | once a1 a2 =>
     injection e with _ e
     rw [xn] at ho
     simp only [Bw, Bool.and_eq_true, decide_eq_true_eq] at ho
     exact ⟨_, _, e, by rw [dG a1 ho.1]; exact ho.1, by rw [dG a1 ho.1, dG a2 (by omega)]; exact ho.2⟩
   | each => injection e with e _; exact absurd e.symm uw
   | behind => injection e with e _; exact absurd e.symm ub
   | jL => injection e with e _; exact absurd e.symm tU
 . rintro ⟨w1, w2, rfl, h1, h2⟩
   refine ⟨_, _, .once (eo h1).1 (eo (x := w2) (by omega)).1, ?_⟩
   rw [xn]
   simp [Bw, h1, h2]
theorem ow {rest : List Str} : GoodW (Str.ofString "each" :: rest) ↔ ∃ w1 w2 w3 w4, rest = [w1, w2, w3, w4] /\ 0 <= aV w1 /\ 0 <= aV w3 /\ aV w3 < aV w2 /\ 1 <= vE w4 := by
 constructor
 . rintro ⟨kd, us, hs, ho⟩
   generalize e : Str.ofString "each" :: rest = ws at hs
   cases hs with
   | once => injection e with e _; exact absurd e uw
   | each a1 a2 a3 a4 =>
     injection e with _ e
     rw [wM] at ho
     simp only [yn, Bool.and_eq_true, decide_eq_true_eq] at ho
     obtain ⟨o1, o2, o3, o4, o5⟩ := ho
     refine ⟨_, _, _, _, e, by rw [dG a1 o1]; exact o1, by rw [dG a3 o3]; exact o3, by rw [dG a3 o3, dG a2 (by omega)]; exact o4, (rS _).mpr ⟨_, a4, o5⟩⟩
   | behind => injection e with e _; exact absurd e.symm vf
   | jL => injection e with e _; exact absurd e.symm yx
 . rintro ⟨w1, w2, w3, w4, rfl, h1, h2, h3, h4⟩
   obtain ⟨m, e4, hm⟩ := (rS w4).mp h4
   refine ⟨_, _, .each (eo h1).1 (eo (x := w2) (by omega)).1 (eo h2).1 e4, ?_⟩
   rw [wM]
   simp [yn, h1, h2, h3, hm]
   omega
theorem jN {rest : List Str} : GoodW (Str.ofString "behind" :: rest) ↔ ∃ w1 w2 w3 w4, rest = [w1, w2, w3, w4] /\ 0 <= aV w1 /\ 0 < aV w2 /\ 0 <= aV w3 /\ 1 <= vE w4 := by
 constructor
 . rintro ⟨kd, us, hs, ho⟩
   generalize e : Str.ofString "behind" :: rest = ws at hs
   cases hs with
   | once => injection e with e _; exact absurd e ub
   | each => injection e with e _; exact absurd e vf
   | behind a1 a2 a3 a4 =>
     injection e with _ e
     rw [xa] at ho
     simp only [wc, Bool.and_eq_true, decide_eq_true_eq] at ho
     obtain ⟨o1, o2, o3, o5⟩ := ho
     refine ⟨_, _, _, _, e, by rw [dG a1 o1]; exact o1, by rw [dG a2 (by omega)]; omega, by rw [dG a3 o3]; exact o3, (rS _).mpr ⟨_, a4, o5⟩⟩
   | jL => injection e with e _; exact absurd e.symm yf
 . rintro ⟨w1, w2, w3, w4, rfl, h1, h2, h3, h4⟩
   obtain ⟨m, e4, hm⟩ := (rS w4).mp h4
   refine ⟨_, _, .behind (eo h1).1 (eo (x := w2) (by omega)).1 (eo h3).1 e4, ?_⟩
   rw [xa]
   simp [wc, h1, h3, hm]
   omega
theorem j3 {rest : List Str} : GoodW (Str.ofString "slowing" :: rest) ↔ ∃ w1 w2 w3 w4 w5, rest = [w1, w2, w3, w4, w5] /\ 0 <= aV w1 /\ 1 <= aV w2 /\ aV w2 <= aV w3 /\ 0 <= aV w4 /\ 1 <= vE w5 := by
 constructor
 . rintro ⟨kd, us, hs, ho⟩
   generalize e : Str.ofString "slowing" :: rest = ws at hs
   cases hs with
   | once => injection e with e _; exact absurd e tU
   | each => injection e with e _; exact absurd e yx
   | behind => injection e with e _; exact absurd e yf
   | jL a1 a2 a3 a4 a5 =>
     injection e with _ e
     rw [wY] at ho
     simp only [BI, Bool.and_eq_true, decide_eq_true_eq] at ho
     obtain ⟨o1, o2, o3, o4, o5⟩ := ho
     refine ⟨_, _, _, _, _, e, by rw [dG a1 o1]; exact o1, by rw [dG a2 (by omega)]; omega, by rw [dG a2 (by omega), dG a3 (by omega)]; exact o5, by rw [dG a4 o3]; exact o3, (rS _).mpr ⟨_, a5, o4⟩⟩
 . rintro ⟨w1, w2, w3, w4, w5, rfl, h1, h2, h3, h4, h5⟩
   obtain ⟨m, e5, hm⟩ := (rS w5).mp h5
   refine ⟨_, _, .jL (eo h1).1 (eo (x := w2) (by omega)).1 (eo (x := w3) (by omega)).1 (eo h4).1 e5, ?_⟩
   rw [wY]
   simp [BI, h1, h2, h3, h4, hm]
theorem yE {w0 : Str} {rest : List Str} (h1 : ¬ w0 = Str.ofString "once") (h2 : ¬ w0 = Str.ofString "each") (h3 : ¬ w0 = Str.ofString "behind") (h4 : ¬ w0 = Str.ofString "slowing") : ¬ GoodW (w0 :: rest) := by
 rintro ⟨kd, us, hs, _⟩
 obtain ⟨_, _, z | z | z | z⟩ := iM hs
 . exact h1 z.1
 . exact h2 z.1
 . exact h3 z.1
 . exact h4 z.1
theorem zv {w0 : Str} {rest : List Str} (h1 : ¬ w0 = Str.ofString "once") (h : GoodW (w0 :: rest)) : 4 <= (u6 rest).length /\ (∀ m ∈ u6 rest, 0 <= m) /\ ∀ v, (u6 rest).getLast? = some v -> 1 <= v := by
 have hk := h
 obtain ⟨kd, us, hs, _⟩ := hk
 obtain ⟨_, _, z | z | z | z⟩ := iM hs
 . exact absurd z.1 h1
 . obtain ⟨rfl, _⟩ := z
   obtain ⟨w1, w2, w3, w4, rfl, a1, a2, a3, a4⟩ := ow.mp h
   rw [ua]
   refine ⟨by simp, fun m hm => ?_, fun v hv => ?_⟩
   . simp only [List.mem_cons, List.not_mem_nil, or_false] at hm
     rcases hm with rfl | rfl | rfl | rfl <;> omega
   . simp at hv; omega
 . obtain ⟨rfl, _⟩ := z
   obtain ⟨w1, w2, w3, w4, rfl, a1, a2, a3, a4⟩ := jN.mp h
   rw [ua]
   refine ⟨by simp, fun m hm => ?_, fun v hv => ?_⟩
   . simp only [List.mem_cons, List.not_mem_nil, or_false] at hm
     rcases hm with rfl | rfl | rfl | rfl <;> omega
   . simp at hv; omega
 . obtain ⟨rfl, _⟩ := z
   obtain ⟨w1, w2, w3, w4, w5, rfl, a1, a2, a3, a4, a5⟩ := j3.mp h
   rw [Am]
   refine ⟨by simp, fun m hm => ?_, fun v hv => ?_⟩
   . simp only [List.mem_cons, List.not_mem_nil, or_false] at hm
     rcases hm with rfl | rfl | rfl | rfl | rfl <;> omega
   . simp at hv; omega
theorem xV {α : Type} {xs : List α} {v : α} (h : xs.getLast? = some v) : o7 xs (-1) = some v := by
 obtain ⟨ys, rfl⟩ : ∃ ys, xs = ys ++ [v] := by
  rw [List.getLast?_eq_some_iff] at h
  exact h
 exact Bl ys v
theorem B2 {n : Nat} (h : 0 < n) : yi n (-1) = some (n - 1) := by
 unfold yi
 rw [if_neg (by decide), if_pos (by omega)]
 congr 1
 omega
theorem Mj {l : List Str} (h : l.length = 2) : ∃ w1 w2, l = [w1, w2] := by
 match l, h with
 | [a, b], _ => exact ⟨a, b, rfl⟩
theorem JF {l : List Str} (h : l.length = 4) : ∃ w1 w2 w3 w4, l = [w1, w2, w3, w4] := by
 match l, h with
 | [a, b, c, d], _ => exact ⟨a, b, c, d, rfl⟩
theorem L9 {l : List Str} (h : l.length = 5) : ∃ w1 w2 w3 w4 w5, l = [w1, w2, w3, w4, w5] := by
 match l, h with
 | [a, b, c, d, e], _ => exact ⟨a, b, c, d, e, rfl⟩
def sS : Sp := fun vs H Q _ => ∃ x, vs = [.str x] /\ jm 700 x /\ ∀ H' b, ao H H' -> (b = true ↔ GoodW (Txt.split x (Str.ofString " "))) -> Q (.bl b) H'
theorem FL {H : Hp} {Q : VK} {E : XK} {x : Str} (h : jm 700 x) (q : ∀ H' b, ao H H' -> (b = true ↔ GoodW (Txt.split x (Str.ofString " "))) -> Q (.bl b) H') : sS [.str x] H Q E := ⟨x, rfl, h, q⟩
theorem Dw (T : Txt K mg a) : bf P w K mg base q9 2 a.cB a.mF ["_law_text"] sS := by
 have sv := DF (P := P) (w := w) (base := base) T
 refine T.jv.ok iI (fun vs H Q E h => ?_) (fun dn A outer s H vs Q E hr h => ?_)
 . obtain ⟨_, rfl, _⟩ := h; rfl
 . obtain ⟨x, rfl, hx, q⟩ := h
   have Ht := hx.1
   refine ⟨_, (ai (by exact (cT (i := 1) iI.nd rfl (Or.inl rfl) (qh PySem.F.plainAttrs_str PySem.F.slot_str_split PySem.F.type_str_split uc (pv 0) (af ax ag))))
    (ai (by exact (JW (i := 2) iI.nd rfl (Or.inl rfl) (T := ["_law_word"]) (M := ["_law_text", "_law_words_here", "_law_numbers"]) (Jl (ak gf) ["_law_text", "_law_words_here", "_law_numbers"] rfl rfl (by decide +kernel)) rfl (pP (jO cm (pv 1) (j9 ah) pK)) (fun _ _ _ _ _ => (gq (i := 0) (show List.Nodup (["_law_word", "_law_text", "_law_words_here", "_law_numbers"] : List Str) by decide +kernel) rfl (Or.inl rfl))) (gO (by decide)) (fun _ _ _ _ _ => nU) (fun _ _ _ _ _ => (aF sv (hr.mono (by decide)) rfl T.kz T.kq (af (pv 0) ag))) rfl))
    (ai (by exact (bN (aA (aX hr.lx) (bb cS (pv 1) ah (fun _ _ => rfl)) ax (aw _))
     (aj (by exact (aE (jJ (dA (aX hr.lx) (aT cn rfl T.ec PySem.boot_len (af (pv 2) ag)) ah (aw _)) (jZ (uT rK rK ah (bb cS (pv 2) ah (fun _ _ => rfl)) (bb cS (pv 2) ah (fun _ _ => rfl))))))))
     aI))
    (mw (by exact (bN (PW.pt (vU (aA xF (aT cn rfl T.ec PySem.boot_len (af (pv 2) ag)) ah (aw _)) (sj (aA (aX hr.lx) (bb cS (pv 1) (rY lR ah) (fun _ _ => rfl)) ax (aw _)))))
     (aj (by exact (zm ah (Gn (pv 2) (rY lR ah) set_list))))
     aI))
    (ai (by exact (bN (PW.pt (qc (aA qq (aT cn rfl T.ec PySem.boot_len (af (pv 2) ag)) ah (aw _)) (qc (aA qq (aT (yy rfl) rfl T.sA PyProof.Rows.boot_min (af (pv 2) ag)) ah (aw _)) (qf (aA qq (bb cS (pv 2) (rY lR ah) (fun _ _ => rfl)) ah (aw _))))))
     (aj (aE ql))
     aI))
    (ai (by exact (bN (aA (aX hr.lx) (bb cS (pv 1) ah (fun _ _ => rfl)) ax (aw _))
     (aj (by exact (aE (jJ (dA (aX hr.lx) (aT cn rfl T.ec PySem.boot_len (af (pv 2) ag)) ah (aw _)) (jZ (dA qq (bb cS (pv 2) ah (fun _ _ => rfl)) (bb cS (pv 2) ah (fun _ _ => rfl)) (aw _)))))))
     aI))
    (ai (by exact (bN (aA (aX hr.lx) (bb cS (pv 1) ah (fun _ _ => rfl)) ax (aw _))
     (aj (by exact (aE (jJ (dA (aX hr.lx) (aT cn rfl T.ec PySem.boot_len (af (pv 2) ag)) ah (aw _)) (jZ (dA xF (bb cS (pv 2) ah (fun _ _ => rfl)) ah (aw _)))))))
     aI))
    (aj (by exact (aE (jJ (dA (aX hr.lx) (bb cS (pv 1) ah (fun _ _ => rfl)) ax (aw _)) (jJ (dA (aX hr.lx) (aT cn rfl T.ec PySem.boot_len (af (pv 2) ag)) ah (aw _)) (jZ (uT rK rK ah (bb cS (pv 2) ah (fun _ _ => rfl)) (bb cS (pv 2) ah (fun _ _ => rfl)))))))))))))))), ?_⟩
   repeat' (walk_at "rd1")
   refine xS (by decide) (by omega) (fun p1 H1 s1 n1 zg => ?_)
   have L5 := PyProof.Rows.split_pos x (Str.ofString " ")
   have j1 := PyProof.Rows.split_le x (Str.ofString " ")
   have KL : ∀ z ∈ Txt.split x (Str.ofString " "), jm 700 z := fun z hz => tT hx hz
   generalize Txt.split x (Str.ofString " ") = ws at *
   cases ws with
   | nil => simp at L5
   | cons w0 rest =>
     have Kz : rest.length <= 800 := by rw [List.length_cons] at j1; omega
     have i0 : o7 ((w0 :: rest).map PyData.str) 0 = some (.str w0) := j7 (j := 0) rfl
     repeat' (walk_at "rd1")
     refine sU 1 zg (fun q1 H2 s2 n2 By => ?_)
     refine IP (cs := rest) (gd := PyData.str) (fun _ => true) (fun c => .int (aV c)) By.dv (by omega) (fun _ => rfl) (fun x c H' N hc Ct vb yes no => ?_) (fun pq H5 BF EH we => ?_)
     . cases vb
       have Pa := KL c (List.mem_cons_of_mem _ hc)
       repeat' (walk_at "rd1")
       refine qB (fun _ => ?_) (fun hb => by cases hb)
       repeat' (walk_at "rd1")
       refine Hz Pa ?_
       exact yes rfl _ _ (ao.refl _) (.int _)
     . have ef : (rest.filter fun _ => true) = rest := List.filter_eq_self.mpr (by simp)
       rw [ef] at we
       have we : dq H5 pq ((rest.map aV).map PyData.int) := by rw [List.map_map]; exact we
       have Nv : ao H1 H5 := s2.trans BF
       have Kl : dq H5 p1 ((w0 :: rest).map PyData.str) := zg.keeps Nv
       have sH : ao H H5 := s1.trans Nv
       have NT : H pq = none := s1.none (s2.none EH)
       have NW : pq ≠ p1 := fun z => by
        obtain ⟨xs, e, _⟩ := zg
        have := s2.none EH
        rw [z, e] at this; cases this
       clear By s2 BF EH ef zg
       repeat' (walk_at "rd1")
       . rename_i b1 b2 b3
         obtain rfl : w0 = Str.ofString "once" := V.str.inj b1
         have b2 : rest.length = 2 := by simp only [List.length_map] at b2; omega
         obtain ⟨w1, w2, rfl⟩ := Mj b2
         refine q _ _ sH ?_
         have b3 : 0 <= aV w1 := b3
         rw [nY]
         constructor
         . intro z
           have z : aV w1 <= aV w2 := of_decide_eq_true z
           exact ⟨w1, w2, rfl, b3, z⟩
         . rintro ⟨y1, y2, e, _, z⟩
           cases e
           exact decide_eq_true z
       . rename_i b1 b2 b3
         obtain rfl : w0 = Str.ofString "once" := V.str.inj b1
         refine q _ _ sH ?_
         rw [nY]
         refine ⟨(fun z => by cases z), fun ⟨y1, y2, e, z, _⟩ => ?_⟩
         subst e
         exact absurd z b3
       . rename_i b1 b2
         obtain rfl : w0 = Str.ofString "once" := V.str.inj b1
         refine q _ _ sH ?_
         rw [nY]
         refine ⟨(fun z => by cases z), fun ⟨y1, y2, e, z, _⟩ => ?_⟩
         subst e
         exact absurd rfl b2
       . rename_i b1
         have h1 : ¬ w0 = Str.ofString "once" := fun z => b1 (congrArg V.str z)
         refine tD (fun σ' H' => ao H H' /\ dq H' p1 ((w0 :: rest).map PyData.str) /\ dq H' pq ((u6 rest).map PyData.int) /\ σ' = [some (.str x), some (.ref p1), some (.ref pq)]) ?_ ?_
         . by_cases MB : rest = []
           . subst MB
             repeat' (walk_at "rd1")
             all_goals first | exact ⟨sH, Kl, we, rfl⟩ | (exfalso; rename_i b2 b3; simp at b2) | (exfalso; rename_i b2; simp at b2)
           . obtain ⟨wl, GI⟩ : ∃ wl, rest.getLast? = some wl := by
              cases e : rest.getLast? with
              | none => exact absurd (List.getLast?_eq_none_iff.mp e) MB
              | some wl => exact ⟨wl, rfl⟩
             have sI : 0 < rest.length := List.length_pos_iff.mpr MB
             have il : o7 ((w0 :: rest).map PyData.str) (-1) = some (.str wl) := xV (by rw [List.getLast?_map, List.getLast?_cons, GI]; rfl)
             repeat' (walk_at "rd1")
             . refine kP (.inr Kl.dv) il ?_
               repeat' (walk_at "rd1")
               . rename_i b2
                 have e2 : wl = Hi := V.str.inj b2
                 refine zE (d := .int 1) we (by rw [List.length_map, List.length_map]; exact B2 sI) (.int 1) rfl (fun H6 Nj Kb => ?_)
                 have s6 : ao H H6 := by
                  refine Mv.Ey sH Nj NT
                 refine ⟨s6, Kl.mv Nj (by simpa using NW.symm), ?_, rfl⟩
                 unfold u6
                 rw [if_pos (by rw [GI, e2])]
                 rw [List.map_set]
                 exact Kb
               . rename_i b2
                 refine ⟨sH, Kl, ?_, rfl⟩
                 unfold u6
                 rw [if_neg (by rw [GI]; exact fun z => b2 (congrArg V.str (Option.some.inj z)))]
                 exact we
             . rename_i b2
               exfalso
               simp only [List.length_map] at b2
               omega
         rintro σ' H6 ⟨s6, Nh, Kb, rfl⟩
         have P0 := DP rest
         have ga := fun h => zv (rest := rest) h1 h
         have no : (¬ GoodW (w0 :: rest)) -> Q (.bl false) H6 := fun h => q _ _ s6 ⟨(fun z => by cases z), fun z => absurd z h⟩
         repeat' (walk_at "rd1")
         . rename_i b2
           exact no fun h => by have := (ga h).1; omega
         . rename_i b2
           refine FX Kb.dv (by omega) (fun m hm hle => ?_)
           obtain ⟨vl, Eg⟩ : ∃ vl, (u6 rest).getLast? = some vl := by
            cases e : (u6 rest).getLast? with
            | none => rw [List.getLast?_eq_none_iff.mp e] at b2; simp at b2
            | some vl => exact ⟨vl, rfl⟩
           have il : o7 ((u6 rest).map PyData.int) (-1) = some (.int vl) := xV (by rw [List.getLast?_map, Eg]; rfl)
           repeat' (walk_at "rd1")
           . rename_i b3
             exact no fun h => by have := (ga h).2.1 m hm; omega
           . rename_i b3
             refine kP (.inr Kb.dv) il ?_
             have gJ : ∀ k ∈ u6 rest, 0 <= k := fun k hk => by have := hle k hk; omega
             repeat' (walk_at "rd1")
             . rename_i b4
               exact no fun h => by have := (ga h).2.2 vl Eg; omega
             . rename_i b4 b5 b6
               obtain rfl : w0 = Str.ofString "each" := V.str.inj b5
               obtain ⟨w1, w2, w3, w4, rfl⟩ := JF (l := rest) (by omega)
               rw [ua] at gJ Eg
               have hv : 1 <= vE w4 := by simp at Eg; omega
               have g1 := gJ (aV w1) (by simp)
               have g3 := gJ (aV w3) (by simp)
               refine q _ _ s6 ?_
               rw [ow, ua]
               constructor
               . intro z
                 have z : aV w3 < aV w2 := of_decide_eq_true z
                 exact ⟨w1, w2, w3, w4, rfl, g1, g3, z, hv⟩
               . rintro ⟨y1, y2, y3, y4, e, _, _, z, _⟩
                 cases e
                 exact decide_eq_true z
             . rename_i b4 b5 b6
               obtain rfl : w0 = Str.ofString "each" := V.str.inj b5
               refine no fun h => ?_
               obtain ⟨y1, y2, y3, y4, e, _⟩ := ow.mp h
               subst e
               exact b6 (by rw [ua]; rfl)
             . rename_i b4 b5 b6 b7
               obtain rfl : w0 = Str.ofString "behind" := V.str.inj b6
               obtain ⟨w1, w2, w3, w4, rfl⟩ := JF (l := rest) (by omega)
               rw [ua] at gJ Eg
               have hv : 1 <= vE w4 := by simp at Eg; omega
               have g1 := gJ (aV w1) (by simp)
               have g3 := gJ (aV w3) (by simp)
               refine q _ _ s6 ?_
               rw [jN, ua]
               constructor
               . intro z
                 have z : 0 < aV w2 := of_decide_eq_true z
                 exact ⟨w1, w2, w3, w4, rfl, g1, z, g3, hv⟩
               . rintro ⟨y1, y2, y3, y4, e, _, z, _, _⟩
                 cases e
                 exact decide_eq_true z
             . rename_i b4 b5 b6 b7
               obtain rfl : w0 = Str.ofString "behind" := V.str.inj b6
               refine no fun h => ?_
               obtain ⟨y1, y2, y3, y4, e, _⟩ := jN.mp h
               subst e
               exact b7 (by rw [ua]; rfl)
             . rename_i b4 b5 b6 b7 b8 b9
               obtain rfl : w0 = Str.ofString "slowing" := V.str.inj b7
               obtain ⟨w1, w2, w3, w4, w5, rfl⟩ := L9 (l := rest) (by omega)
               rw [Am] at gJ Eg b9
               have hv : 1 <= vE w5 := by simp at Eg; omega
               have g1 := gJ (aV w1) (by simp)
               have g4 := gJ (aV w4) (by simp)
               have b9 : 1 <= aV w2 := b9
               refine q _ _ s6 ?_
               rw [j3, Am]
               constructor
               . intro z
                 have z : aV w2 <= aV w3 := of_decide_eq_true z
                 exact ⟨w1, w2, w3, w4, w5, rfl, g1, b9, z, g4, hv⟩
               . rintro ⟨y1, y2, y3, y4, y5, e, _, _, z, _⟩
                 cases e
                 exact decide_eq_true z
             . rename_i b4 b5 b6 b7 b8 b9
               obtain rfl : w0 = Str.ofString "slowing" := V.str.inj b7
               refine no fun h => ?_
               obtain ⟨y1, y2, y3, y4, y5, e, _, z, _⟩ := j3.mp h
               subst e
               rw [Am] at b9
               exact b9 z
             . rename_i b4 b5 b6 b7 b8
               obtain rfl : w0 = Str.ofString "slowing" := V.str.inj b7
               refine no fun h => ?_
               obtain ⟨y1, y2, y3, y4, y5, e, _⟩ := j3.mp h
               subst e
               exact b8 (by rw [Am]; rfl)
             . rename_i b4 b5 b6 b7
               exact no (yE h1 (fun z => b5 (congrArg V.str z)) (fun z => b6 (congrArg V.str z)) (fun z => b7 (congrArg V.str z)))
theorem AU (T : Txt K mg a) : rn P w K mg base 2 a.cB ["_law_text"] [] sS :=
 ⟨⟨_, _, Dw T, T.jv.binds fun _ _ _ _ _ _ => .all fun us hl => match us, hl with | [_], _ => rfl, .nil⟩⟩
def et (ws : List Str) : Prop := ∀ x ∈ ws, jm 61 x
def wy (K : PySem.W.Frag) : Sp := fun vs H Q _ => ∃ (l : Addr) (ns : List Int), vs = [.ref l] /\ fW K H l (ns.map V.int) /\ ∀ p H' ws, ao H H' -> H p = none -> dq H' p (ws.map PyData.str) -> ws ≠ [] -> ws.length <= 6 -> et ws -> Q (.ref p) H'
theorem Jf {H : Hp} {Q : VK} {E : XK} {l : Addr} {ns : List Int} (hl : fW K H l (ns.map V.int)) (q : ∀ p H' ws, ao H H' -> H p = none -> dq H' p (ws.map PyData.str) -> ws ≠ [] -> ws.length <= 6 -> et ws -> Q (.ref p) H') : wy K [.ref l] H Q E := ⟨l, ns, rfl, hl, q⟩
theorem sh {H : Hp} {Q : VK} {v : V} {ds : List PyData} {i : Int} (hp : Dv H v (.list ds)) (h0 : 0 <= i) (h1 : i < ds.length) (h : ∀ d ∈ ds, ∀ x, Dv H x d -> Q x H) : AY K v (.int i) H Q := by
 obtain ⟨m, rfl⟩ := Int.eq_ofNat_of_zero_le h0
 have hi : m < ds.length := by omega
 exact kP (.inr hp) (j7 (List.getElem?_eq_getElem hi)) (xh fun x hx => h _ (List.getElem_mem hi) x hx)
theorem mh {n : Int} (h0 : -(10 ^ 60) < n) (h1 : n < 10 ^ 60) : jm 61 (Str.ofString (toString n)) := AW h0 h1
theorem Ay : jm 61 (Str.ofString "ever") := ⟨by decide +kernel, by decide +kernel⟩
theorem ng : jm 61 (Str.ofString "once") := ⟨by decide +kernel, by decide +kernel⟩
theorem mj : jm 61 (Str.ofString "each") := ⟨by decide +kernel, by decide +kernel⟩
theorem iA : jm 61 (Str.ofString "behind") := ⟨by decide +kernel, by decide +kernel⟩
theorem nS : jm 61 (Str.ofString "slowing") := ⟨by decide +kernel, by decide +kernel⟩
theorem Hc (T : Txt K mg a) : bf P w K mg base q9 2 a.bT a.kG ["_law_script"] (wy K) := by
 have aD := ja (P := P) (w := w) (base := base) T
 have bY := uL (P := P) (w := w) (base := base) T
 refine T.iC.ok cQ (fun vs H Q E h => ?_) (fun dn A outer s H vs Q E hr h => ?_)
 . obtain ⟨_, _, rfl, _⟩ := h; rfl
 . obtain ⟨l, ns, rfl, hl, q⟩ := h
   refine ⟨_, (ai (by exact (cT (i := 1) cQ.nd rfl (Or.inl rfl) (cb bQ (aF aD (hr.mono (by decide)) rfl T.az T.ay (af (pv 0) (af ah ag))) ah)))
    (ai (by exact (cT (i := 2) cQ.nd rfl (Or.inl rfl) (aF bY (hr.mono (by decide)) rfl T.bL T.bI (af (aF aD (hr.mono (by decide)) rfl T.az T.ay (af (pv 0) (af ah ag))) ag))))
    (ai (by exact (cT (i := 3) cQ.nd rfl (Or.inl rfl) (cb lG ah (aF bY (hr.mono (by decide)) rfl T.bL T.bI (af (aF aD (hr.mono (by decide)) rfl T.az T.ay (af (pv 0) (af ah ag))) ag)))))
    (ai (by exact (cT (i := 4) cQ.nd rfl (Or.inl rfl) (aF bY (hr.mono (by decide)) rfl T.bL T.bI (af (aF aD (hr.mono (by decide)) rfl T.az T.ay (af (pv 0) (af ah ag))) ag))))
    (ai (by exact (cT (i := 5) cQ.nd rfl (Or.inl rfl) (bb cS (ck (af ax (af (aZ bu rfl T.cI PyProof.Rows.boot_str (af (cb lG ah (aF bY (hr.mono (by decide)) rfl T.bL T.bI (af (cb fA (aF aD (hr.mono (by decide)) rfl T.az T.ay (af (pv 0) (af ah ag))) ah) ag))) ag)) ag))) (cb bQ (aF aD (hr.mono (by decide)) rfl T.az T.ay (af (pv 0) (af ah ag))) ah) (fun _ _ => rfl))))
    (ai (by exact (bN (aA (aX hr.lx) (pv 1) ah (aw _))
     (aj (by exact (aE (ck (af ax (af (aZ bu rfl T.cI PyProof.Rows.boot_str (af (pv 2) ag)) (af (aZ bu rfl T.cI PyProof.Rows.boot_str (af (cb lG (pv 2) (pv 4)) ag)) ag)))))))
     aI))
    (ai (by exact (bN (aA (aX hr.lx) (pv 1) ah (aw _))
     (aj (by exact (aE (ck (af ax (af (aZ bu rfl T.cI PyProof.Rows.boot_str (af (pv 2) ag)) (af (aZ bu rfl T.cI PyProof.Rows.boot_str (af (pv 3) ag)) (af (aZ bu rfl T.cI PyProof.Rows.boot_str (af (cb bQ (pv 4) (pv 3)) ag)) (af (pv 5) ag)))))))))
     aI))
    (ai (by exact (bN (aA (aX hr.lx) (pv 1) ah (aw _))
     (aj (by exact (aE (ck (af ax (af (aZ bu rfl T.cI PyProof.Rows.boot_str (af (pv 2) ag)) (af (aZ bu rfl T.cI PyProof.Rows.boot_str (af (pv 3) ag)) (af (aZ bu rfl T.cI PyProof.Rows.boot_str (af (pv 4) ag)) (af (pv 5) ag)))))))))
     aI))
    (aj (by exact (aE (ck (af ax (af (aZ bu rfl T.cI PyProof.Rows.boot_str (af (pv 2) ag)) (af (aZ bu rfl T.cI PyProof.Rows.boot_str (af (pv 3) ag)) (af (aZ bu rfl T.cI PyProof.Rows.boot_str (af (cb lG (pv 3) (aF bY (hr.mono (by decide)) rfl T.bL T.bI (af (aF aD (hr.mono (by decide)) rfl T.az T.ay (af (pv 0) (af ah ag))) ag))) ag)) (af (aZ bu rfl T.cI PyProof.Rows.boot_str (af (pv 4) ag)) (af (pv 5) ag)))))))))))))))))), ?_⟩
   repeat' (walk_at "rd1")
   rename_i x4 _ _ p1 H1 s1 n1 zg _ _
   refine sh (by walk_at "dat") (by assumption) (by simp only [List.length_cons, List.length_nil]; omega) (fun d hd x hx => ?_)
   obtain ⟨tx, rfl, BG⟩ : ∃ tx, x = .str tx /\ jm 61 tx := by
    simp only [List.mem_cons, List.not_mem_nil, or_false] at hd
    rcases hd with rfl | rfl
    . exact ⟨_, hx.str_inv, Ay⟩
    . exact ⟨_, hx.str_inv, mh (by omega) (by omega)⟩
   clear hx hd
   repeat' (walk_at "rd1")
   . refine q _ _ [_, _, _] (by walk_at "same") (by walk_at "none") (by assumption) (by simp) (by simp) (fun z hz => ?_)
     simp only [List.mem_cons, List.not_mem_nil, or_false] at hz
     rcases hz with rfl | rfl | rfl
     all_goals first | exact ng | exact mj | exact iA | exact nS | assumption | exact mh (by omega) (by omega)
   . refine q _ _ [_, _, _, _, _] (by walk_at "same") (by walk_at "none") (by assumption) (by simp) (by simp) (fun z hz => ?_)
     simp only [List.mem_cons, List.not_mem_nil, or_false] at hz
     rcases hz with rfl | rfl | rfl | rfl | rfl
     all_goals first | exact ng | exact mj | exact iA | exact nS | assumption | exact mh (by omega) (by omega)
   . refine q _ _ [_, _, _, _, _] (by walk_at "same") (by walk_at "none") (by assumption) (by simp) (by simp) (fun z hz => ?_)
     simp only [List.mem_cons, List.not_mem_nil, or_false] at hz
     rcases hz with rfl | rfl | rfl | rfl | rfl
     all_goals first | exact ng | exact mj | exact iA | exact nS | assumption | exact mh (by omega) (by omega)
   . refine q _ _ [_, _, _, _, _, _] (by walk_at "same") (by walk_at "none") (by assumption) (by simp) (by simp) (fun z hz => ?_)
     simp only [List.mem_cons, List.not_mem_nil, or_false] at hz
     rcases hz with rfl | rfl | rfl | rfl | rfl | rfl
     all_goals first | exact ng | exact mj | exact iA | exact nS | assumption | exact mh (by omega) (by omega)
theorem Dr (T : Txt K mg a) : rn P w K mg base 2 a.bT ["_law_script"] [] (wy K) :=
 ⟨⟨_, _, Hc T, T.iC.binds fun _ _ _ _ _ _ => .all fun us hl => match us, hl with | [_], _ => rfl, .nil⟩⟩
section
variable {H : Hp} {Q : VK} {p : Addr} {ws : List Str}
theorem J1 (xs : List V) : tI xs none (some (-1)) = xs.take (xs.length - 1) := by
 have h1 : HT.fR xs.length xs.length (some (-1)) = xs.length - 1 := by
  simp only [HT.fR]
  rw [if_pos (by omega)]
  omega
 show (xs.drop (HT.fR xs.length 0 none)).take (HT.fR xs.length xs.length (some (-1)) - HT.fR xs.length 0 none) = _
 rw [h1, show HT.fR xs.length 0 none = 0 from rfl, List.drop_zero, Nat.sub_zero]
theorem HZ (xs : List V) : tI xs (some (-1)) none = xs.drop (xs.length - 1) := by
 have h1 : HT.fR xs.length 0 (some (-1)) = xs.length - 1 := by
  simp only [HT.fR]
  rw [if_pos (by omega)]
  omega
 have h2 : HT.fR xs.length xs.length none = xs.length := rfl
 show (xs.drop (HT.fR xs.length 0 (some (-1)))).take (HT.fR xs.length xs.length none - HT.fR xs.length 0 (some (-1))) = _
 rw [h1, h2]
 exact List.take_of_length_le (by rw [List.length_drop]; omega)
theorem ME (j : Int) (h0 : 0 <= j) (hp : dq H p (ws.map PyData.str)) (k : ∀ q H', ao H H' -> H q = none -> dq H' q ((ws.take j.toNat).map PyData.str) -> Q (.ref q) H') : uz K (.ref p) none (some j) H Q := by
 obtain ⟨m, rfl⟩ := Int.eq_ofNat_of_zero_le h0
 exact As m hp (fun q H' s n h => k q H' s n (by rw [List.map_take]; exact h))
theorem Li (j : Int) (h0 : 0 <= j) (hp : dq H p (ws.map PyData.str)) (k : ∀ q H', ao H H' -> H q = none -> dq H' q ((ws.drop j.toNat).map PyData.str) -> Q (.ref q) H') : uz K (.ref p) (some j) none H Q := by
 obtain ⟨m, rfl⟩ := Int.eq_ofNat_of_zero_le h0
 exact sU m hp (fun q H' s n h => k q H' s n (by rw [List.map_drop]; exact h))
theorem K4 (hp : dq H p (ws.map PyData.str)) (k : ∀ q H', ao H H' -> H q = none -> dq H' q ((ws.take (ws.length - 1)).map PyData.str) -> Q (.ref q) H') : uz K (.ref p) none (some (-1)) H Q := by
 obtain ⟨xs, e, dv, im⟩ := hp
 refine ⟨p, xs, rfl, fW.of e, fun q hq => ?_⟩
 have hl := dv.length
 rw [List.length_map] at hl
 rw [J1, hl]
 exact k q _ (bA hq) hq (by rw [List.map_take]; exact ik hq (dv.take _) (jI _ im))
theorem Lj (hp : dq H p (ws.map PyData.str)) (k : ∀ q H', ao H H' -> H q = none -> dq H' q ((ws.drop (ws.length - 1)).map PyData.str) -> Q (.ref q) H') : uz K (.ref p) (some (-1)) none H Q := by
 obtain ⟨xs, e, dv, im⟩ := hp
 refine ⟨p, xs, rfl, fW.of e, fun q hq => ?_⟩
 have hl := dv.length
 rw [List.length_map] at hl
 rw [HZ, hl]
 exact k q _ (bA hq) hq (by rw [List.map_drop]; exact ik hq (dv.drop _) (jH _ im))
theorem IA {q : Addr} {zs : List Str} (hp : dq H p (ws.map PyData.str)) (hq : dq H q (zs.map PyData.str)) (hl : ws.length + zs.length <= 4000) (k : ∀ r H', ao H H' -> H r = none -> dq H' r ((ws ++ zs).map PyData.str) -> Q (.ref r) H') : FD (.ref p) (.ref q) H Q :=
 zB hp hq (by rw [List.length_map, List.length_map]; exact hl) fun r H' s n h => k r H' s n (by rw [List.map_append]; exact h)
theorem Ih {x : Str} (h : ∀ r H', ao H H' -> H r = none -> dq H' r ([x].map PyData.str) -> Q (.ref r) H') : AQ [.str x] H Q :=
 vT (ds := [.str x]) (uD rfl) (.cons (.str x) .nil) rfl (fun r H' s n hr => h r H' s n hr)
end
local macro_rules | `(tactic| walk_at "rd1") => `(tactic| first
 | with_reducible refine Ih (fun _ _ _ _ _ => ?_)
 | ((with_reducible refine' ME _ ?e0 ?e1 (fun _ _ _ _ _ => ?_)); (case e1 => walk_at "lat"); (case e0 => omega))
 | ((with_reducible refine' Li _ ?e0 ?e1 (fun _ _ _ _ _ => ?_)); (case e1 => walk_at "lat"); (case e0 => omega))
 | ((with_reducible refine' K4 ?e1 (fun _ _ _ _ _ => ?_)); (case e1 => walk_at "lat"))
 | ((with_reducible refine' Lj ?e1 (fun _ _ _ _ _ => ?_)); (case e1 => walk_at "lat"))
 | ((with_reducible refine' IA ?e1 ?e2 ?e3 (fun _ _ _ _ _ => ?_)); (case e1 => walk_at "lat"); (case e2 => walk_at "lat"); (case e3 => (simp only [List.length_append, List.length_take, List.length_drop, List.length_cons, List.length_nil]; omega)))
 | fail)
theorem et.take {ws : List Str} (h : et ws) (n : Nat) : et (ws.take n) := fun x hx => h x (List.mem_of_mem_take hx)
theorem et.drop {ws : List Str} (h : et ws) (n : Nat) : et (ws.drop n) := fun x hx => h x (List.mem_of_mem_drop hx)
theorem et.app {ws zs : List Str} (h : et ws) (g : et zs) : et (ws ++ zs) := fun x hx => (List.mem_append.mp hx).elim (h x) (g x)
theorem et.one {x : Str} (h : jm 61 x) : et [x] := fun y hy => by rw [List.mem_singleton.mp hy]; exact h
def wA : Sp := fun vs H Q _ => ∃ p ws c, vs = [.ref p, .int c] /\ dq H p (ws.map PyData.str) /\ ws ≠ [] /\ ws.length <= 20 /\ et ws /\ ∀ r H' zs, ao H H' -> H r = none -> dq H' r (zs.map PyData.str) -> zs.length <= ws.length + 1 -> et zs -> Q (.ref r) H'
theorem Ex {H : Hp} {Q : VK} {E : XK} {p : Addr} {ws : List Str} {c : Int} (h : dq H p (ws.map PyData.str)) (h1 : ws ≠ []) (h2 : ws.length <= 20) (h3 : et ws) (q : ∀ r H' zs, ao H H' -> H r = none -> dq H' r (zs.map PyData.str) -> zs.length <= ws.length + 1 -> et zs -> Q (.ref r) H') : wA [.ref p, .int c] H Q E := ⟨p, ws, c, rfl, h, h1, h2, h3, q⟩
theorem F9 (T : Txt K mg a) : bf P w K mg base q9 1 a.bj a.jc ["_law_words_here", "_law_cell"] wA := by
 refine T.fN.ok dB (fun vs H Q E h => ?_) (fun dn A outer s H vs Q E hr h => ?_)
 . obtain ⟨_, _, _, rfl, _⟩ := h; rfl
 . obtain ⟨p, ws, c, rfl, hp, kh, hl, ha, q⟩ := h
   have sI : 0 < ws.length := List.length_pos_iff.mpr kh
   refine ⟨_, (iu (by exact (vt (i := 2) dB.nd rfl (Or.inl rfl) (du bQ (du fA (qv 1) dk) (A8 cn rfl T.ec PySem.boot_len (fj (qv 0) qH)))))
    (iu (by exact (vt (i := 3) dB.nd rfl (Or.inl rfl) (mI (by exact CB (vs := [.str "once", .str "each", .str "behind", .str "slowing", .str "ever", .str "0", .str "-1", .str "007", .str "", .str "Each", .str "5.", .str "none", .str "1"]) rfl))))
    (iu (by exact (vt (i := 4) dB.nd rfl (Or.inl rfl) (EA cS (du eN (qv 3) (mI (fj (du CO qP dk) (fj qP (fj qP (fj qP (fj qP qH))))))) (du bQ (du fA (qv 1) dk) dk) (fun _ _ => rfl))))
    (iu (by exact (xO (pT (aX hr.lx) (du bQ (qv 1) dk) dk (aw _))
     (mM (by exact (qR (du eN (cu cm (qv 0) c9 (dh (qv 2))) (cu cm (qv 0) (dh (du lG (qv 2) dk)) c9)))))
     pJ))
    (iu (by exact (xO (pT (aX hr.lx) (du bQ (qv 1) dk) dk (aw _))
     (mM (by exact (qR (du eN (du eN (cu cm (qv 0) c9 (dh (qv 2))) (mI (fj (EA cS (qv 0) (qv 2) (fun _ _ => rfl)) qH))) (cu cm (qv 0) (dh (qv 2)) c9)))))
     pJ))
    (iu (by exact (xO (pT (aX hr.lx) (du bQ (qv 1) dk) dk (aw _))
     (mM (by exact (qR (du eN (du eN (cu cm (qv 0) c9 (dh (qv 2))) (mI (fj (qv 4) qH))) (cu cm (qv 0) (dh (qv 2)) c9)))))
     pJ))
    (iu (by exact (xO (pT (aX hr.lx) (du bQ (qv 1) dk) dk (aw _))
     (mM (by exact (qR (du eN (du eN (cu cm (qv 0) c9 (dh (qv 2))) (mI (fj (qv 4) qH))) (cu cm (qv 0) (dh (du lG (qv 2) dk)) c9)))))
     pJ))
    (mM (by exact (qR (du eN (du eN (cu cm (cu cm (qv 0) c9 (dh (qv 2))) c9 (dh (Em lR dk))) (cu cm (qv 0) (dh (qv 2)) c9)) (cu cm (cu cm (qv 0) c9 (dh (qv 2))) (dh (Em lR dk)) c9)))))))))))).h, ?_⟩
   repeat' (walk_at "rd1")
   rename_i p2 H2 s2 n2 Ju n9 Ol OT p3 H3 s3 n3 MS p4 H4 s4 n4 Nk i0 i1
   refine sh (by walk_at "dat") i0 (by simp only [List.length_append, List.length_cons, List.length_nil]; omega) (fun d hd x hx => ?_)
   obtain ⟨tx, rfl, BG⟩ : ∃ tx, x = .str tx /\ jm 61 tx := by
    have h9 : jm 61 n9 := ⟨by rw [Ol]; decide, fun c hc => by
     have := OT c hc
     rw [show (Str.ofString "9").cps.toList = [57] by decide +kernel] at this
     rw [List.mem_singleton.mp this]; decide⟩
    simp only [List.cons_append, List.nil_append, List.mem_cons, List.not_mem_nil, or_false] at hd
    rcases hd with rfl | rfl | rfl | rfl | rfl | rfl | rfl | rfl | rfl | rfl | rfl | rfl | rfl | rfl | rfl | rfl | rfl | rfl
    all_goals first | exact ⟨_, hx.str_inv, h9⟩ | exact ⟨_, hx.str_inv, by decide +kernel, by decide +kernel⟩
   clear hx hd
   have N8 : jm 61 (ws.getD (c / 5 % ws.length).toNat default) := by
    have hi : (c / 5 % ws.length).toNat < ws.length := by omega
    rw [List.getD_eq_getElem?_getD, List.getElem?_eq_getElem hi]
    exact ha _ (List.getElem_mem hi)
   repeat' (walk_at "rd1")
   all_goals refine q _ _ _ (by walk_at "same") (by walk_at "none") (by assumption) (by simp only [List.length_append, List.length_take, List.length_drop, List.length_cons, List.length_nil]; omega) ?_
   all_goals repeat' first | exact ha | exact .one BG | exact .one N8 | refine et.app ?_ ?_ | refine et.take ?_ _ | refine et.drop ?_ _
theorem DK (T : Txt K mg a) : rn P w K mg base 1 a.bj ["_law_words_here", "_law_cell"] [] wA :=
 ⟨⟨_, _, F9 T, T.fN.binds fun _ _ _ _ _ _ => .all fun us hl => match us, hl with | [_, _], _ => rfl, .nil⟩⟩
theorem Dh {n : Nat} {x : Str} (h : jm n x) : PyData.canLay0 (.str x) = true := by
 show x.cps.all (· < 0x110000) = true
 rw [Array.all_eq_true']
 intro c hc
 have := h.2 c (by simpa using hc)
 exact decide_eq_true (by omega)
theorem ui : ∀ {ss : List Str}, et ss -> PyData.canLayAll0 (ss.map PyData.str) = true
 | [], _ => rfl
 | x :: r, h => by
   simp only [List.map_cons, PyData.canLayAll0, Dh (h x List.mem_cons_self), Bool.true_and]
   exact ui fun y hy => h y (List.mem_cons_of_mem _ hy)
theorem rM : ∀ ws : List Str, PyData.depthAll (ws.map PyData.str) <= 1
 | [] => by simp [PyData.depthAll]
 | _ :: r => by have := rM r; simp only [List.map_cons, PyData.depthAll, PyData.depth]; omega
theorem A7 {H : Hp} {Q : VK} {f : Bool -> Bool} {x y : V} {ss : List Str} (h1 : Dv H x (.list (ss.map PyData.str))) (h2 : Dv H y (.list [])) (hs : et ss) (h : Q (.bl (f ss.isEmpty)) H) : Bs K f x y H Q := by
 have e : PyData.eqv (.list (ss.map PyData.str)) (.list []) = ss.isEmpty := by cases ss <;> rfl
 refine EF h1 h2 (by rw [PyData.canLay0]; exact ui hs) rfl ?_ (by rw [e]; exact h)
 have := rM ss
 rw [PyData.depth]; omega
theorem wo : ∀ {ws : List Str}, et ws -> (ws.map (·.length)).sum <= 61 * ws.length
 | [], _ => Nat.zero_le _
 | x :: r, h => by
   have h1 := (h x List.mem_cons_self).1
   have h2 := wo (ws := r) fun y hy => h y (List.mem_cons_of_mem _ hy)
   simp only [List.map_cons, List.sum_cons, List.length_cons]
   omega
theorem AA (ws : List Str) : (ws.flatMap fun p => (Str.ofString " ").cps.toList ++ p.cps.toList).length = (ws.map (·.length)).sum + ws.length := by
 have e1 : (Str.ofString " ").cps.toList.length = 1 := by decide +kernel
 induction ws with
 | nil => rfl
 | cons x r ih =>
   rw [List.flatMap_cons, List.length_append, List.length_append, ih, e1, List.map_cons, List.sum_cons, List.length_cons, <- fq]
   omega
theorem Bo {ws : List Str} (h : et ws) (hl : ws.length <= 8) : jm 700 (Txt.join (Str.ofString " ") ws) := by
 cases ws with
 | nil => exact ⟨by decide +kernel, by decide +kernel⟩
 | cons x r =>
   have h1 := (h x List.mem_cons_self).1
   have h2 := wo (ws := r) fun y hy => h y (List.mem_cons_of_mem _ hy)
   have h3 := AA r
   rw [List.length_cons] at hl
   refine ⟨?_, fun c hc => ?_⟩
   . rw [fq, ny, List.length_append, h3, <- fq]
     omega
   . rw [ny, List.mem_append] at hc
     rcases hc with hc | hc
     . exact (h x List.mem_cons_self).2 c hc
     . obtain ⟨p, hp, hc⟩ := List.mem_flatMap.mp hc
       rcases List.mem_append.mp hc with hc | hc
       . have : (Str.ofString " ").cps.toList = [32] := by decide +kernel
         rw [this] at hc
         rw [List.mem_singleton.mp hc]; decide
       . exact (h p (List.mem_cons_of_mem _ hp)).2 c hc
theorem wD {x : Str} {m : V} (h : u3 x = some m) (hm : xY m = true) : x = oR (mD m) /\ mK m (mD m) := by
 rcases mC h with ⟨rfl, rfl⟩ | ⟨n, _, e, rfl⟩
 . exact ⟨rfl, .inl ⟨rfl, rfl⟩⟩
 . simp only [xY, decide_eq_true_eq] at hm
   rcases ni e with ⟨h1, _⟩ | ⟨h0, h1, _, h2⟩
   . omega
   . exact ⟨h2, .inr ⟨n, rfl, rfl, h0, by omega⟩⟩
theorem fc {x : Str} {n : Int} (h : rd x = some n) (h0 : 0 <= n) : x = nq n /\ n < 10 ^ 64 := by
 rcases ni h with ⟨h1, _⟩ | ⟨_, h1, _, h2⟩
 . omega
 . exact ⟨h2, by omega⟩
theorem y7 {x : Str} : Txt.join (Str.ofString " ") (Txt.split x (Str.ofString " ")) = x := by
 have h1 := StrLaws.join_split x (Str.ofString " ")
 rw [<- StrLaws.glued_eq_join] at h1
 exact h1
theorem E9 (T : Txt K mg a) (aR : gZ w K a.bF a7) : bf P w K mg base q9 11 a.kE a.tN ["_law_script"] (Bf K) := by
 have aD := ja (P := P) (w := w) (base := base) T
 have bY := uL (P := P) (w := w) (base := base) T
 have sq := Dr (P := P) (w := w) (base := base) T
 have js := DK (P := P) (w := w) (base := base) T
 have jA := A3 (P := P) (base := base) T aR
 have uU := AU (P := P) (w := w) (base := base) T
 have dN := zS (P := P) (base := base) T aR
 have tJ := FJ (P := P) (w := w) (base := base) T
 have sL := EZ (P := P) (w := w) (base := base) T
 have qt := G9 (P := P) (w := w) (base := base) T
 have pH := Fi (P := P) (w := w) (base := base) T
 have Qa := T.eB; have PJ := T.ez; have PY := T.cR; have PB := T.bZ
 have m1 := T.iX; have m2 := T.iG; have m3 := T.fy; have m4 := T.eQ
 refine T.Bp.ok ou (fun vs H Q E h => ?_) (fun dn A outer s H vs Q E hr h => ?_)
 . obtain ⟨_, _, rfl, _⟩ := h; rfl
 . obtain ⟨l, ns, rfl, hl, hn, q⟩ := h
   refine ⟨_, (ai (by exact (cT (i := 1) ou.nd rfl (Or.inl rfl) (aF sq (hr.mono (by decide)) rfl T.kL T.ky (af (pv 0) ag))))
    (mw (by exact (bN (aA xF (cb bQ (aF aD (hr.mono (by decide)) rfl T.az T.ay (af (pv 0) (af ah ag))) ah) ah (aw _))
     (aj (by exact (cT (i := 1) ou.nd rfl (Or.inl rfl) (aF js (hr.mono (by decide)) rfl T.eV T.eS (af (pv 1) (af (aF aD (hr.mono (by decide)) rfl T.az T.ay (af (pv 0) (af ah ag))) ag))))))
     aI))
    (mw (by exact (bN (PW.pt (vU (aA (aX hr.lx) (cb bQ (aF aD (hr.mono (by decide)) rfl T.az T.ay (af (pv 0) (af ah ag))) ah) ah (aw _)) (sj (aA (vS hr.lx) (pv 1) (ck ag) (aw _)))))
     (aj (by exact (cT (i := 1) ou.nd rfl (Or.inl rfl) (aF js (hr.mono (by decide)) rfl T.eV T.eS (af (pv 1) (af (aF aD (hr.mono (by decide)) rfl T.az T.ay (af (pv 0) (af ah ag))) ag))))))
     aI))
    (ai (by exact (cT (i := 2) ou.nd rfl (Or.inl rfl) (qh PySem.F.plainAttrs_str PySem.F.slot_str_join PySem.F.type_str_join sW ax (af (pv 1) ag))))
    (ai (by exact (cT (i := 3) ou.nd rfl (Or.inl rfl) (bb cS (ck (af (aF bY (hr.mono (by decide)) rfl T.bL T.bI (af (aF aD (hr.mono (by decide)) rfl T.az T.ay (af (pv 0) (af ah ag))) ag)) (af oy (af (ck (af (pv 2) ag)) (af (pv 1) (af ql ag)))))) (cb bQ (aF aD (hr.mono (by decide)) rfl T.az T.ay (af (pv 0) (af ah ag))) ah) (fun _ _ => rfl))))
    (ai (by exact (bN (n6 (eK (aF jA (hr.mono (by decide)) rfl T.eM T.eZ (af (pv 3) ag)) (fun _ => rfl)))
     (aj (aE ql))
     aI))
    (ai (by exact (bN (n6 (eK (aF uU (hr.mono (by decide)) rfl T.mH T.nI (af (pv 2) ag)) (fun _ => rfl)))
     (aj (by exact (aE (aF jA (hr.mono (by decide)) rfl T.eM T.eZ (af (pv 2) ag)))))
     aI))
    (aj (by exact (aE (dA (aX hr.lx) (vY (nO (nz dN (hr.mono (by decide)) rfl T.df T.da sR (af (pv 2) ag)) T.eB T.iX tJ (hr.mono (by decide))) (vY (nO (nz dN (hr.mono (by decide)) rfl T.df T.da sR (af (pv 2) ag)) T.ez T.iG sL (hr.mono (by decide))) (vY (nO (nz dN (hr.mono (by decide)) rfl T.df T.da sR (af (pv 2) ag)) T.cR T.fy qt (hr.mono (by decide))) (nO (nz dN (hr.mono (by decide)) rfl T.df T.da sR (af (pv 2) ag)) T.bZ T.eQ pH (hr.mono (by decide)))))) (pv 2) (aw _)))))))))))), ?_⟩
   repeat' (walk_at "rd1")
   refine Jf hl (fun p1 H1 ws s1 n1 zg kh Py Ni => ?_)
   repeat' (walk_at "rd1")
   refine tD (fun σ' H' => ∃ p zs, ao H H' /\ dq H' p (zs.map PyData.str) /\ zs.length <= 7 /\ et zs /\ σ' = [some (.ref l), some (.ref p), none, none]) ?_ ?_
   . repeat' (walk_at "rd1")
     . refine Ex zg kh (by omega) Ni (fun r H2 zs s2 n2 MX Mr Hn => ?_)
       repeat' (walk_at "rd1")
       exact ⟨_, _, s1.trans s2, MX, by omega, Hn, rfl⟩
     . exact ⟨_, _, s1, zg, by omega, Ni, rfl⟩
   rintro σ' H2 ⟨p2, zs, s2, Ju, Mr, Hn, rfl⟩
   have OD := ao.seq s2 hl
   refine tD (fun σ' H' => ∃ p zs, ao H H' /\ dq H' p (zs.map PyData.str) /\ zs.length <= 8 /\ et zs /\ σ' = [some (.ref l), some (.ref p), none, none]) ?_ ?_
   . repeat' (walk_at "rd1")
     . rename_i p4 H4 s4 n4 Nk
       refine A7 (Ju.keeps s4).dv Nk.dv Hn ?_
       repeat' (walk_at "rd1")
       . rename_i b4
         have KU : zs ≠ [] := fun z => by rw [z] at b4; simp at b4
         refine Ex (Ju.keeps s4) KU (by omega) Hn (fun r H5 ys s5 n5 NU P8 OU => ?_)
         repeat' (walk_at "rd1")
         exact ⟨_, _, (s2.trans s4).trans s5, NU, by omega, OU, rfl⟩
       . exact ⟨_, _, s2.trans s4, Ju.keeps s4, by omega, Hn, rfl⟩
     . exact ⟨_, _, s2, Ju, by omega, Hn, rfl⟩
   rintro σ' H3 ⟨p3, ys, s3, MS, N1, M4, rfl⟩
   have Pl := ao.seq s3 hl
   repeat' (walk_at "rd1")
   refine sx MS.dv ?_ ?_
   . have h1 := wo M4
     have e1 : (Str.ofString " ").length = 1 := by decide +kernel
     rw [e1]
     omega
   have BG := Bo M4 N1
   generalize Txt.join (Str.ofString " ") ys = tx at *
   have Pr := BG.1
   repeat' (walk_at "rd1")
   rename_i p5 H5 s5 n5 Pb Oa Iv i0 i1
   have PR : ao H3 H5 := by walk_at "same"
   refine sh Iv i0 (by simp only [List.length_cons, List.length_nil]; omega) (fun d hd x hx => ?_)
   have FU : ∀ y, ¬ d = .str y := by
    simp only [List.mem_cons, List.not_mem_nil, or_false] at hd
    rcases hd with rfl | rfl | rfl | rfl | rfl <;> (intro y z; cases z)
   clear Pb Oa Iv hd
   repeat' (walk_at "rd1")
   refine zt hx (fun y e => absurd e (FU y)) (fun ⟨y, e, _⟩ => FU y e) (fun H6 s6 => ?_)
   repeat' (walk_at "rd1")
   refine FL BG (fun H7 b s7 hb => ?_)
   cases b with
   | false =>
     have Ox : ¬ GoodW (Txt.split tx (Str.ofString " ")) := fun z => by cases hb.mpr z
     repeat' (walk_at "rd1")
     refine zt (.str tx) (fun y e => by cases e; exact BG) (fun ⟨y, e, z⟩ => by cases e; exact Ox z) (fun H8 s8 => ?_)
     repeat' (walk_at "rd1")
     exact q _
   | true =>
     have hg := hb.mp rfl
     have uR := y7 (x := tx)
     repeat' ((fail_if_success (with_reducible refine oZ ?_)); walk_at "rd1")
     have O5 := hg
     obtain ⟨kd, us, qi, ho⟩ := O5
     generalize Kp : Txt.split tx (Str.ofString " ") = Pu at qi uR
     cases qi with
     | @once w1 w2 i1 i2 a1 a2 =>
       rw [xn] at ho
       simp only [Bw, Bool.and_eq_true, decide_eq_true_eq] at ho
       obtain ⟨o1, o2⟩ := ho
       obtain ⟨e1, b1⟩ := fc a1 o1
       obtain ⟨e2, b2⟩ := fc a2 (by omega)
       have LV : 0 <= i1 /\ i1 < 10 ^ 64 /\ 0 <= i2 /\ i2 < 10 ^ 64 := ⟨o1, b1, by omega, b2⟩
       have qw : pj (Str.ofString "once") [.int i1, .int i2] = tx := by rw [<- uR, e1, e2]; rfl
       with_reducible refine xH ?_
       repeat' (walk_at "rd1")
       refine AF (.str tx) (fun y e => by cases e; exact BG) (fun hn => absurd ⟨_, rfl, hg⟩ hn) (fun y Kv Kd ed qp pC v' H8 s8 hi => ?_)
       cases ed
       rw [Kp] at qp
       obtain ⟨rfl, rfl⟩ := (qu.det (.once a1 a2) qp)
       rw [Ed] at hi
       simp only [qC] at hi
       repeat' (walk_at "rd1")
       rw [qw]
       simp only [decide_true, id]
       exact q _
     | @each w1 w2 w3 w4 i1 i2 i3 mm a1 a2 a3 a4 =>
       rw [wM] at ho
       simp only [yn, Bool.and_eq_true, decide_eq_true_eq] at ho
       obtain ⟨o1, o2, o3, o4, o5⟩ := ho
       obtain ⟨e1, b1⟩ := fc a1 o1
       obtain ⟨e2, b2⟩ := fc a2 (by omega)
       obtain ⟨e3, b3⟩ := fc a3 o3
       obtain ⟨e4, hm⟩ := wD a4 o5
       have LV : 0 <= i1 /\ i1 < 10 ^ 64 /\ 0 <= i2 /\ i2 < 10 ^ 64 /\ 0 <= i3 /\ i3 < 10 ^ 64 := ⟨o1, b1, by omega, b2, o3, b3⟩
       have qw : pj (Str.ofString "each") [.int i1, .int i2, .int i3, mD mm] = tx := by rw [<- uR, e1, e2, e3, e4]; rfl
       with_reducible refine oZ ?_
       with_reducible refine xH ?_
       repeat' (walk_at "rd1")
       refine AF (.str tx) (fun y e => by cases e; exact BG) (fun hn => absurd ⟨_, rfl, hg⟩ hn) (fun y Kv Kd ed qp pC v' H8 s8 hi => ?_)
       cases ed
       rw [Kp] at qp
       obtain ⟨rfl, rfl⟩ := (qu.det (.each a1 a2 a3 a4) qp)
       rw [zX] at hi
       simp only [qd] at hi
       repeat' (walk_at "rd1")
       rw [qw]
       simp only [decide_true, id]
       exact q _
     | @behind w1 w2 w3 w4 i1 i2 i3 mm a1 a2 a3 a4 =>
       rw [xa] at ho
       simp only [wc, Bool.and_eq_true, decide_eq_true_eq] at ho
       obtain ⟨o1, o2, o3, o5⟩ := ho
       obtain ⟨e1, b1⟩ := fc a1 o1
       obtain ⟨e2, b2⟩ := fc a2 (by omega)
       obtain ⟨e3, b3⟩ := fc a3 o3
       obtain ⟨e4, hm⟩ := wD a4 o5
       have LV : 0 <= i1 /\ i1 < 10 ^ 64 /\ 0 <= i2 /\ i2 < 10 ^ 64 /\ 0 <= i3 /\ i3 < 10 ^ 64 := ⟨o1, b1, by omega, b2, o3, b3⟩
       have qw : pj (Str.ofString "behind") [.int i1, .int i2, .int i3, mD mm] = tx := by rw [<- uR, e1, e2, e3, e4]; rfl
       with_reducible refine oZ ?_
       with_reducible refine oZ ?_
       with_reducible refine xH ?_
       repeat' (walk_at "rd1")
       refine AF (.str tx) (fun y e => by cases e; exact BG) (fun hn => absurd ⟨_, rfl, hg⟩ hn) (fun y Kv Kd ed qp pC v' H8 s8 hi => ?_)
       cases ed
       rw [Kp] at qp
       obtain ⟨rfl, rfl⟩ := (qu.det (.behind a1 a2 a3 a4) qp)
       rw [AO] at hi
       simp only [gC] at hi
       repeat' (walk_at "rd1")
       rw [qw]
       simp only [decide_true, id]
       exact q _
     | @jL w1 w2 w3 w4 w5 i1 i2 i3 i4 mm a1 a2 a3 a4 a5 =>
       rw [wY] at ho
       simp only [BI, Bool.and_eq_true, decide_eq_true_eq] at ho
       obtain ⟨o1, o2, o3, o5, o4⟩ := ho
       obtain ⟨e1, b1⟩ := fc a1 o1
       obtain ⟨e2, b2⟩ := fc a2 (by omega)
       obtain ⟨e3, b3⟩ := fc a3 (by omega)
       obtain ⟨e4, b4⟩ := fc a4 o3
       obtain ⟨e5, hm⟩ := wD a5 o5
       have LV : 0 <= i1 /\ i1 < 10 ^ 64 /\ 0 <= i2 /\ i2 < 10 ^ 64 /\ 0 <= i3 /\ i3 < 10 ^ 64 /\ 0 <= i4 /\ i4 < 10 ^ 64 := ⟨o1, b1, by omega, b2, by omega, b3, o3, b4⟩
       have qw : pj (Str.ofString "slowing") [.int i1, .int i2, .int i3, .int i4, mD mm] = tx := by rw [<- uR, e1, e2, e3, e4, e5]; rfl
       with_reducible refine oZ ?_
       with_reducible refine oZ ?_
       with_reducible refine oZ ?_
       repeat' (walk_at "rd1")
       refine AF (.str tx) (fun y e => by cases e; exact BG) (fun hn => absurd ⟨_, rfl, hg⟩ hn) (fun y Kv Kd ed qp pC v' H8 s8 hi => ?_)
       cases ed
       rw [Kp] at qp
       obtain ⟨rfl, rfl⟩ := (qu.det (.jL a1 a2 a3 a4 a5) qp)
       rw [z5] at hi
       simp only [fM] at hi
       repeat' (walk_at "rd1")
       rw [qw]
       simp only [decide_true, id]
       exact q _
end
end My
open PySem PySem.W PyProof.Rows
local macro_rules | `(tactic| walk_at "k_dg") => `(tactic| (refine' ⟨?a, ⟨_, L2.wR ?l ?c⟩, ?k⟩; (case a => k_is); (case l => k_is); (case c => k_is); (case k => k_is)))
local macro_rules | `(tactic| walk_at "k_dm") => `(tactic| (refine' ⟨?a, ⟨_, L2.wR ?l ?c⟩, ?k, ?i⟩; (case a => k_is); (case l => k_is); (case c => k_is); (case k => k_is); (case i => k_is)))
local macro_rules | `(tactic| walk_at "k_dt") => `(tactic| (refine' My.Dl ?l; (case l => k_is)))
local macro_rules | `(tactic| walk_at "k_ck") => `(tactic| (refine' ⟨?a, ?b, ?c, ?d, ?e, ?f, ?g⟩; (case a => k_is); (case b => k_is); (case c => k_is); (case d => k_is); (case e => k_is); (case f => k_is); (case g => k_is)))
theorem PySem.W.Fast.tw5901380773691174992 : True := trivial
theorem PySem.W.Fast.tw9066644274189400370 : True := trivial
theorem PySem.W.Fast.tw9073455084446072394 : True := trivial
theorem PySem.W.Fast.tw14913057877548836175 : True := trivial
theorem PySem.W.Fast.tw7739251087341806355 : True := trivial
theorem PySem.W.Fast.tw2915355735860325614 : True := trivial
theorem PySem.W.Fast.tw17706590598619627915 : True := trivial
theorem PySem.W.Fast.tw3672352669011612280 : True := trivial
theorem PySem.W.Fast.tw2411822159965402122 : True := trivial
theorem PySem.W.Fast.tw17886231327388124569 : True := trivial
theorem PySem.W.Fast.tw13275280597415816255 : True := trivial
theorem PySem.W.Fast.tw9299590636440498109 : True := trivial
theorem PySem.W.Fast.tw2826235916477670552 : True := trivial
set_option maxRecDepth 100000 in
set_option maxHeartbeats 0 in
theorem PySem.Challenge.cw_wakefew_k74_words_that_are_no_rule_holds : PySem.Challenge.rw_wakefew_k74_words_that_are_no_rule.Holds := by
 w_on; o_law; k_head; (case hw => w_witness2)
 k_fill
 refine L2.Az (l := PySem.Challenge.rw_wakefew_k74_words_that_are_no_rule) (n := 63) (k := 30) (x := "_law_script") (CX := L2.q9) (sp := My.Bf) rfl (by decide) rfl ⟨rfl, by decide, by decide⟩ (fun w h Y => PySem.W.kIn_of Y) ?F ?S ?C
 case F =>
  intro w mg fa h KX G JK
  have T : ∃ a : My.Ad, a.kE = a.kE /\ My.Txt (L2.Kn KX) mg a := by
   dsimp only [L2.Kn]
   refine' My.FN KX G ?h0 ?h1 ?h2 ?h3 ?h4 ?h5 ?h6 ?h7 ?h8 ?h9 ?h10 ?h11 ?h12 ?h13 ?h14 ?h15 ?h16 ?h17 ?h18 ?h19 ?h20 ?h21 ?h22 ?h23 ?h24 ?h25 ?h26 ?h27 ?h28 ?h29 ?h30 ?h31 ?h32 ?h33 ?h34 ?h35 ?h36 ?h37 ?h38 ?h39 ?h40 ?h41 ?h42 ?h43 ?h47 ?h48 ?h49 ?h50 ?h51 ?h52 ?h53 ?h54 ?h55 ?h56 ?h57 ?h58 ?h59 ?h60 ?h61 ?h62 ?h63 ?h64 ?h65 ?h66 ?h67 ?h68 ?h69 ?h70 ?h71 ?h72 ?h73 ?h74 ?h76 ?h77 ?h78 ?h79 ?h80 ?h81 ?h82 ?h83 ?h84 ?h95 ?h99 ?h100 ?h101 ?h102 ?h103 ?h105 ?h106 ?h107 ?h108 ?h109 ?h110 ?h111 ?h112 ?h113 ?h114 ?h115 ?h116 ?h117 ?h118 ?h119 ?h120 ?h121 ?h122 ?h123 ?h124 ?h125 ?h126
   (case h0 => k_is)
   (case h1 => k_is)
   (case h2 => k_is)
   (case h3 => k_is)
   (case h4 => k_is)
   (case h5 => k_is)
   (case h6 => k_is)
   (case h7 => k_is)
   (case h8 => k_is)
   (case h9 => k_is)
   (case h10 => k_is)
   (case h11 => walk_at "k_dg")
   (case h12 => walk_at "k_dg")
   (case h13 => walk_at "k_dg")
   (case h14 => walk_at "k_dg")
   (case h15 => walk_at "k_dg")
   (case h16 => walk_at "k_dm")
   (case h17 => walk_at "k_dm")
   (case h18 => walk_at "k_dt")
   (case h19 => walk_at "k_dm")
   (case h20 => walk_at "k_dm")
   (case h21 => walk_at "k_dt")
   (case h22 => walk_at "k_dm")
   (case h23 => walk_at "k_dm")
   (case h24 => walk_at "k_dt")
   (case h25 => walk_at "k_dm")
   (case h26 => walk_at "k_dm")
   (case h27 => walk_at "k_dt")
   (case h28 => walk_at "k_dm")
   (case h29 => walk_at "k_dg")
   (case h30 => walk_at "k_dg")
   (case h31 => walk_at "k_dg")
   (case h32 => walk_at "k_dg")
   (case h33 => walk_at "k_dg")
   (case h34 => walk_at "k_dg")
   (case h35 => walk_at "k_dg")
   (case h36 => walk_at "k_dg")
   (case h37 => walk_at "k_dg")
   (case h38 => walk_at "k_dg")
   (case h39 => walk_at "k_dg")
   (case h40 => walk_at "k_dg")
   (case h41 => walk_at "k_dg")
   (case h42 => walk_at "k_dg")
   (case h43 => walk_at "k_dg")
   (case h47 => walk_at "k_ck")
   (case h48 => k_is)
   (case h49 => k_is)
   (case h50 => k_is)
   (case h51 => k_is)
   (case h52 => k_is)
   (case h53 => walk_at "k_ck")
   (case h54 => k_is)
   (case h55 => k_is)
   (case h56 => k_is)
   (case h57 => k_is)
   (case h58 => k_is)
   (case h59 => k_is)
   (case h60 => walk_at "k_ck")
   (case h61 => k_is)
   (case h62 => k_is)
   (case h63 => k_is)
   (case h64 => k_is)
   (case h65 => k_is)
   (case h66 => k_is)
   (case h67 => walk_at "k_ck")
   (case h68 => k_is)
   (case h69 => k_is)
   (case h70 => k_is)
   (case h71 => k_is)
   (case h72 => k_is)
   (case h73 => k_is)
   (case h74 => k_is)
   (case h76 => k_is)
   (case h77 => k_is)
   (case h78 => k_exc)
   (case h79 => k_is)
   (case h80 => k_is)
   (case h81 => k_exc)
   (case h82 => k_is)
   (case h83 => k_is)
   (case h84 => k_exc)
   (case h95 => k_is)
   (case h99 => k_is)
   (case h100 => k_is)
   (case h101 => k_is)
   (case h102 => k_is)
   (case h103 => k_is)
   (case h105 => k_is)
   (case h106 => decide)
   (case h107 => k_is)
   (case h108 => decide)
   (case h109 => k_is)
   (case h110 => k_is)
   (case h111 => k_is)
   (case h112 => k_is)
   (case h113 => k_is)
   (case h114 => k_is)
   (case h115 => k_is)
   (case h116 => k_is)
   (case h117 => k_is)
   (case h118 => k_is)
   (case h119 => k_is)
   (case h120 => k_is)
   (case h121 => k_is)
   (case h122 => k_is)
   (case h123 => k_is)
   (case h124 => k_is)
   (case h125 => k_is)
   (case h126 => k_is)
  obtain ⟨a, _, T⟩ := T
  have e0 := JK.symm.trans T.A1
  cases e0
  have gd : ∃ A, mg "LENGTHS" = some (.ref A) /\ L2.gZ w (L2.Kn KX) A My.a7 := by
   dsimp only [L2.Kn]
   refine' L2.Jd KX G ?h0 ?h1 ?h2 ?h3 (by decide +kernel)
   (case h0 => k_is)
   (case h1 => k_is)
   (case h2 => decide)
   (case h3 => exact (.cons _ _ _ _ (.cons _ _ _ _ (.cons _ _ _ _ (.cons _ _ _ _ .nil)))))
  obtain ⟨A, eA, gd⟩ := gd
  have e1 := eA.symm.trans T.iF
  cases e1
  exact ⟨a.tN, fun s u => My.y8 T s u, fun base kb nb => (My.E9 T gd).mono (by decide)⟩
 case S => exact fun K H l ns hl hO hS => ⟨l, ns, rfl, hS, hl, fun _ => rfl⟩
 case C => exact fun H s e s' h => h
