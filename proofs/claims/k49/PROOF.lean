import PyProof.Rows.All
import Wide.All
import OpenK.AllK
import Wide.FinOn
import Lean
import PyProof.EqAt
import PyProof.EqKinds
import PyProof.TupleCall
import PyProof.StrLawsRepr
import PySem.Challenge.RW_wakefew_k49_whole_as_many_as_need_be
set_option compiler.extract_closed false
set_option Elab.async false
set_option linter.all false
set_option maxRecDepth 100000
namespace L2
open PySem PySem.Spec PyProof.Rows
abbrev Key := Sum Int Str
def lg : Key -> Value -> Bool
 | .inl k, v => Value.isInt k v
 | .inr x, v => Value.isStrOf x v
def Gh (w : World) : Key -> Int
 | .inl k => hashInt k
 | .inr x => hashStr w x
theorem bb : ∀ {k : Key} {v : Value}, lg k v = true -> (∃ i t, k = Sum.inl i /\ v = Value.int i t) \/ (∃ x t, k = Sum.inr x /\ v = Value.str x t)
 | .inl i, v, h => by
   obtain ⟨t, e⟩ := Value.isInt_shape (k := i) (v := v) h
   exact .inl ⟨i, t, rfl, e⟩
 | .inr x, v, h => by
   obtain ⟨t, e⟩ := Value.isStrOf_shape (x := x) (v := v) h
   exact .inr ⟨x, t, rfl, e⟩
theorem sE (i : Int) (t : Tok) : lg (.inl i) (.int i t) = true := by simp [lg, Value.isInt]
theorem rn (x : Str) (t : Tok) : lg (.inr x) (.str x t) = true := by simp [lg, Value.isStrOf]
theorem BZ (a b : Int) : decide ((Sum.inl a : Key) = Sum.inl b) = (a == b) := by
 by_cases e : a = b
 . subst e; simp
 . have h : ¬ (Sum.inl a : Key) = Sum.inl b := fun q => e (Sum.inl.inj q)
   rw [decide_eq_false h]
   exact (beq_eq_false_iff_ne.mpr e).symm
theorem Ae (a b : Str) : decide ((Sum.inr a : Key) = Sum.inr b) = decide (a = b) := by
 by_cases e : a = b
 . subst e; simp
 . have h : ¬ (Sum.inr a : Key) = Sum.inr b := fun q => e (Sum.inr.inj q)
   rw [decide_eq_false h, decide_eq_false e]
theorem Bc (a : Int) (b : Str) : decide ((Sum.inl a : Key) = Sum.inr b) = false := decide_eq_false (fun q => nomatch q)
theorem zx (a : Str) (b : Int) : decide ((Sum.inr a : Key) = Sum.inl b) = false := decide_eq_false (fun q => nomatch q)
def bh (prog : Program) (w : World) : PySem.KeyKind prog w Key where
 is := lg
 hash := Gh w
 inj := fun v a b ha hb => by
  rcases bb ha with ⟨i, t, rfl, rfl⟩ | ⟨x, t, rfl, rfl⟩
  . rcases bb hb with ⟨j, u, rfl, e⟩ | ⟨y, u, rfl, e⟩
    . injection e with e1 _; rw [e1]
    . exact nomatch e
  . rcases bb hb with ⟨j, u, rfl, e⟩ | ⟨y, u, rfl, e⟩
    . exact nomatch e
    . injection e with e1 _; rw [e1]
 byValue := fun k v h => by
  rcases bb h with ⟨i, t, rfl, rfl⟩ | ⟨x, t, rfl, rfl⟩ <;> rfl
 pyHash := fun hv h => by
  rcases bb hv with ⟨i, t, rfl, rfl⟩ | ⟨x, t, rfl, rfl⟩
  . exact wpAny_pyHash_int h
  . exact wpAny_pyHash_str h
 eqBool := fun hu hv h => by
  rcases bb hu with ⟨i, t, rfl, rfl⟩ | ⟨x, t, rfl, rfl⟩
  . rcases bb hv with ⟨j, u, rfl, rfl⟩ | ⟨y, u, rfl, rfl⟩
    . rw [BZ] at h; exact wpAny_eqBool_int h
    . rw [Bc] at h; exact SeqAt.EqAt.int_str i t y u _ _ _ _ h
  . rcases bb hv with ⟨j, u, rfl, rfl⟩ | ⟨y, u, rfl, rfl⟩
    . rw [zx] at h; exact SeqAt.EqAt.str_int x t j u _ _ _ _ h
    . rw [Ae] at h; exact wpAny_eqBool_str h
 «strs» := fun k x t v h => by
  rcases bb h with ⟨i, u, rfl, e⟩ | ⟨y, u, rfl, e⟩
  . exact nomatch e
  . injection e with e1 _
    subst e1
    cases v <;> rfl
theorem oh (prog : Program) (w : World) (i : Int) (t : Tok) : (bh prog w).is (.inl i) (.int i t) = true := sE i t
theorem m7 (prog : Program) (w : World) (x : Str) (t : Tok) : (bh prog w).is (.inr x) (.str x t) = true := rn x t
inductive V where
 | aZ | bl (b : Bool) | int (i : Int) | str (x : Str) | sI (b : Array UInt8) | CT (b : UInt64) | ref (a : Addr) | ty (n : String)
 deriving DecidableEq
def RelV : V -> Value -> Prop
 | .aZ, u => u = Value.none
 | .bl b, u => u = Value.bool b
 | .int i, u => ∃ t, u = Value.int i t
 | .str x, u => ∃ t, u = Value.str x t
 | .sI b, u => ∃ t, u = Value.bytes b t
 | .CT b, u => ∃ t, u = Value.float b t
 | .ref a, u => u = Value.ref a
 | .ty n, u => u = Value.type n
abbrev Vals : List V -> List Value -> Prop := Paired RelV
theorem Vals.length {xs : List V} {us : List Value} (r : Vals xs us) : xs.length = us.length := Paired.length r
theorem Vals.get : ∀ {xs : List V} {us : List Value} {i : Nat} {x : V}, Vals xs us -> xs[i]? = some x -> ∃ u, us[i]? = some u /\ RelV x u
 | _, _, _, _, .nil, e => by simp at e
 | _, _, 0, _, .cons r _, e => by simp at e; subst e; exact ⟨_, rfl, r⟩
 | _, _, i + 1, x, .cons _ t, e => by
   obtain ⟨u, h1, h2⟩ := Vals.get (i := i) (x := x) t (by simpa using e)
   exact ⟨u, by simpa using h1, h2⟩
theorem Vals.set {x : V} {u : Value} (r : RelV x u) : ∀ {xs : List V} {us : List Value} (i : Nat), Vals xs us -> Vals (xs.set i x) (us.set i u)
 | _, _, _, .nil => .nil
 | _, _, 0, .cons _ t => .cons r t
 | _, _, i + 1, .cons q t => .cons q (Vals.set r i t)
theorem Vals.append : ∀ {xs ys : List V} {us ws : List Value}, Vals xs us -> Vals ys ws -> Vals (xs ++ ys) (us ++ ws)
 | _, _, _, _, .nil, s => s
 | _, _, _, _, .cons r t, s => .cons r (Vals.append t s)
theorem Vals.take : ∀ {xs : List V} {us : List Value} (n : Nat), Vals xs us -> Vals (xs.take n) (us.take n)
 | _, _, 0, _ => .nil
 | _, _, _ + 1, .nil => .nil
 | _, _, n + 1, .cons r t => .cons r (Vals.take n t)
theorem Vals.drop : ∀ {xs : List V} {us : List Value} (n : Nat), Vals xs us -> Vals (xs.drop n) (us.drop n)
 | _, _, 0, r => r
 | _, _, _ + 1, .nil => .nil
 | _, _, n + 1, .cons _ t => Vals.drop n t
def ky : Option V -> Option Value -> Prop
 | some v, some u => RelV v u
 | none, none => True
 | _, _ => False
def KV {κ : Type} : List (κ × V) -> List (κ × Value) -> Prop := Paired fun (p : κ × V) (q : κ × Value) => p.1 = q.1 /\ RelV p.2 q.2
def kV : Key -> V
 | .inl i => .int i
 | .inr x => .str x
inductive HO where
 | lst (xs : List V)
 | tup (xs : List V)
 | dK (ax : List (Key × V)) | dT (ax : List (List Key × V))
 | set (S : Int -> Bool) (n : Nat)
 | ins (C dx : Addr) (fs : List (Str × V))
 | own (x : Addr)
 | xd (fs : List (Str × V))
 | met (f x : Addr)
 | G1 (lo hi : Int)
 | sQ (o : Obj) (u : HO)
 | Bw (ps : Array Value)
 | ext (φ : Heap -> Prop)
abbrev Hp := Addr -> Option HO
def upd (H : Hp) (a : Addr) (o : HO) : Hp := fun b => if b = a then some o else H b
theorem aA {H : Hp} {a : Addr} {o : HO} : upd H a o a = some o := by unfold upd; rw [if_pos rfl]
theorem aw {H : Hp} {a b : Addr} {o : HO} (h : b ≠ a) : upd H a o b = H b := by unfold upd; rw [if_neg h]
theorem EG {H : Hp} {a b : Addr} {o u : HO} (h : H a = some o) (h' : H b = some u) (d : o ≠ u) : a ≠ b := by
 intro e; subst e; rw [h] at h'; exact d (Option.some.inj h')
theorem aC {H : Hp} {a b : Addr} {o : HO} (h : H a = some o) (h' : H b = none) : a ≠ b := by
 intro e; subst e; rw [h] at h'; cases h'
section
variable (P : Program) (w : World)
def bM (H : Hp) (h : Heap) (a : Addr) : HO -> Prop
 | .lst xs => xs.length <= sizeLine /\ ∃ (az : List Value) (n : Nat), Vals xs az /\ h.get? a = some { cls := .type "list", data := .seq az.toArray n }
 | .tup xs => xs.length <= sizeLine /\ ∃ az : List Value, Vals xs az /\ IsTup h a az.toArray
 | .dK ax => ax.length <= sizeLine /\ (a == sysModules) = false /\ ∃ vs, KV ax vs /\ h.DictOf (bh P w) a vs
 | .dT ax => ax.length <= sizeLine /\ (a == sysModules) = false /\ ∃ xs : List (List Key × Addr × Value),
  Paired (fun (p : List Key × V) (q : List Key × Addr × Value) => p.1 = q.1 /\ H q.2.1 = some (.tup (p.1.map kV)) /\ RelV p.2 q.2.2) ax xs /\
  ∃ o es ep, h.get? a = some o /\ o.ExactDict /\ o.data = .dict es ep /\ es.toList = xs.map (entryOfKey (tupleKind (bh P w))) /\ (xs.map (·.1)).Nodup
 | .set S n => h.SetOf (intKind P w) a S n
 | .ins C dx fs => H dx = some (.own a) /\ fs.length <= 1000 /\ dx ≠ a /\ h.get? a = some (PySem.W.instObj C dx) /\
  ∃ mA, h.Ns1 dx mA /\ (∀ f, ky (fs.lookup f) (mA f)) /\ PySem.Within mA (fs.map (·.1))
 | .own _ => ∃ o, h.get? a = some o
 | .xd fs => ∃ mA, h.Ns1 a mA /\ ∀ f, ky (fs.lookup f) (mA f)
 | .G1 lo hi => ∃ t u v, h.get? a = some { cls := .type "range", data := .fields #[.int lo t, .int hi u, .int 1 v] }
 | .sQ o u => h.get? a = some o /\ bM H h a u
 | .Bw ps => h.get? a = some { cls := .none, data := .fields ps }
 | .met f x => h.get? a = some (PySem.W.methodObj (.ref f) (.ref x))
 | .ext φ => φ h /\ (∃ o, h.get? a = some o) /\ ∀ h1 h2 : Heap, φ h1 -> (∀ o, h1.get? a = some o -> h2.get? a = some o) -> φ h2
def gE (H : Hp) (h : Heap) : Prop := ∀ a o, H a = some o -> bM P w H h a o
end
section
variable {P : Program} {w : World} {H H' : Hp} {h h' : Heap} {a : Addr} {o : HO}
theorem bM.lt (x : bM P w H h a o) : a < h.objs.size := by
 cases o with
 | lst xs => obtain ⟨_, _, _, _, e⟩ := x; exact Heap.lt_size e
 | tup xs => obtain ⟨_, _, _, p⟩ := x; exact p.lt
 | dK ax => obtain ⟨_, _, _, _, o, _, _, e, _⟩ := x; exact Heap.lt_size e
 | dT ax => obtain ⟨_, _, _, _, o, _, _, e, _⟩ := x; exact Heap.lt_size e
 | set S n => obtain ⟨o, _, _, _, e, _⟩ := x; exact Heap.lt_size e
 | ins C dx fs => obtain ⟨_, _, _, e, _⟩ := x; exact Heap.lt_size e
 | own y => obtain ⟨_, e⟩ := x; exact Heap.lt_size e
 | xd fs => obtain ⟨_, ⟨_, _, _, e, _⟩, _⟩ := x; exact Heap.lt_size e
 | G1 lo hi => obtain ⟨_, _, _, e⟩ := x; exact Heap.lt_size e
 | sQ ob u => obtain ⟨e, _⟩ := x; exact Heap.lt_size e
 | Bw ps => exact Heap.lt_size (show h.get? a = some _ from x)
 | met f y => exact Heap.lt_size (show h.get? a = some _ from x)
 | ext φ => obtain ⟨_, ⟨_, e⟩, _⟩ := x; exact Heap.lt_size e
theorem Paired.B6 {α β : Type} {F G : α -> β -> Prop} : ∀ {l₁ : List α} {l₂ : List β}, Paired F l₁ l₂ -> (∀ a b, F a b -> G a b) -> Paired G l₁ l₂
 | _, _, .nil, _ => .nil
 | _, _, .cons r t, f => .cons (f _ _ r) (Paired.B6 t f)
theorem bM.mJ (x : bM P w H h a o) (k : ∀ b u, (b = a \/ H b = some (.own a)) -> h.get? b = some u -> h'.get? b = some u)
 (ho : ∀ b, H b = some (.own a) -> H' b = some (.own a)) (ht : ∀ b xs, H b = some (.tup xs) -> H' b = some (.tup xs)) : bM P w H' h' a o := by
 induction o with
 | lst xs => obtain ⟨z, az, n, r, e⟩ := x; exact ⟨z, az, n, r, k _ _ (.inl rfl) e⟩
 | tup xs => obtain ⟨z, az, r, ob, e, c⟩ := x; exact ⟨z, az, r, ob, k _ _ (.inl rfl) e, c⟩
 | dK ax => obtain ⟨z, y, vs, r, ob, es, ep, e, c⟩ := x; exact ⟨z, y, vs, r, ob, es, ep, k _ _ (.inl rfl) e, c⟩
 | dT ax =>
   obtain ⟨z, y, xs, r, ob, es, ep, e, c⟩ := x
   exact ⟨z, y, xs, Paired.B6 r fun p q z => ⟨z.1, ht _ _ z.2.1, z.2.2⟩, ob, es, ep, k _ _ (.inl rfl) e, c⟩
 | set S n => obtain ⟨ob, es, ep, t, e, c⟩ := x; exact ⟨ob, es, ep, t, k _ _ (.inl rfl) e, c⟩
 | ins C dx fs =>
   obtain ⟨d, z, ne, e, mA, ⟨od, es, ep, e2, c⟩, r⟩ := x
   exact ⟨ho _ d, z, ne, k _ _ (.inl rfl) e, mA, ⟨od, es, ep, k _ _ (.inr d) e2, c⟩, r⟩
 | own y => obtain ⟨ob, e⟩ := x; exact ⟨ob, k _ _ (.inl rfl) e⟩
 | xd fs => obtain ⟨mA, ⟨od, es, ep, e, c⟩, r⟩ := x; exact ⟨mA, ⟨od, es, ep, k _ _ (.inl rfl) e, c⟩, r⟩
 | G1 lo hi => obtain ⟨t, u, v, e⟩ := x; exact ⟨t, u, v, k _ _ (.inl rfl) e⟩
 | sQ ob u ih => obtain ⟨e, q⟩ := x; exact ⟨k _ _ (.inl rfl) e, ih q⟩
 | Bw ps =>
   have e : h.get? a = some { cls := .none, data := .fields ps } := x
   show h'.get? a = some { cls := .none, data := .fields ps }
   exact k a _ (.inl rfl) e
 | met f y =>
   have e : h.get? a = some (PySem.W.methodObj (.ref f) (.ref y)) := x
   show h'.get? a = some (PySem.W.methodObj (.ref f) (.ref y))
   exact k a _ (.inl rfl) e
 | ext φ => obtain ⟨p, ⟨o, e⟩, st⟩ := x; exact ⟨st _ _ p fun o q => k _ _ (.inl rfl) q, ⟨o, k _ _ (.inl rfl) e⟩, st⟩
theorem gE.lt (x : gE P w H h) (e : H a = some o) : a < h.objs.size := (x a o e).lt
theorem gE.fresh (x : gE P w H h) (e : h.objs.size <= a) : H a = none := by
 cases q : H a with
 | none => rfl
 | some u => exact absurd (Nat.lt_of_lt_of_le (x.lt q) e) (Nat.lt_irrefl _)
theorem gE.kept (x : gE P w H h) (k : ∀ b u, h.get? b = some u -> h'.get? b = some u) : gE P w H h' := fun a o e =>
 (x a o e).mJ (fun b u _ q => k b u q) (fun _ q => q) fun _ _ q => q
theorem gE.laid (x : gE P w H h) (k : ∀ b u, h.get? b = some u -> h'.get? b = some u) (hp : h.objs.size <= a) (new : bM P w (upd H a o) h' a o) : gE P w (upd H a o) h' := fun b u e => by
 have hn := x.fresh hp
 by_cases hb : b = a
 . subst hb; rw [aA] at e; cases e; exact new
 . rw [aw hb] at e
   exact (x b u e).mJ (fun c v _ q => k c v q) (fun c q => by rw [aw (aC q hn)]; exact q) fun c xs q => by rw [aw (aC q hn)]; exact q
end
def Rd (H : Hp) (a : Addr) (u : HO) : Prop := H a = some u \/ ∃ o, H a = some (.sQ o u)
theorem Rd.of {H : Hp} {a : Addr} {u : HO} (h : H a = some u) : Rd H a u := .inl h
theorem Rd.ok {P : Program} {w : World} {H : Hp} {h : Heap} {a : Addr} {u : HO} (r : Rd H a u) (x : gE P w H h) : bM P w H h a u := by
 rcases r with r | ⟨o, r⟩
 . exact x a u r
 . obtain ⟨_, q⟩ := x a _ r
   exact q
def D7 : Option HO -> Prop
 | some (.lst _) => True
 | some (.dK _) => True
 | some (.dT _) => True
 | some (.set _ _) => True
 | some (.ins _ _ _) => True
 | some (.ext _) => True
 | _ => False
section
variable {P : Program} {w : World} {H : Hp} {h h' : Heap} {x e : Addr} {o' : HO}
theorem gE.write (ok : gE P w H h) (mu : D7 (H x)) (he : e = x \/ H e = some (.own x)) (k : ∀ b u, b ≠ e -> h.get? b = some u -> h'.get? b = some u) (yL : ∃ u, h'.get? e = some u)
 (new : bM P w (upd H x o') h' x o') : gE P w (upd H x o') h' := fun b u q => by
 have D1 : ∀ c y, H c = some (.own y) -> c ≠ x := fun c y r z => by subst z; rw [r] at mu; exact mu
 have Hn : ∀ c xs, H c = some (.tup xs) -> c ≠ x := fun c xs r z => by subst z; rw [r] at mu; exact mu
 by_cases hb : b = x
 . subst hb; rw [aA] at q; cases q; exact new
 . rw [aw hb] at q
   by_cases Cb : b = e
   . have q' : H b = some (.own x) := by
      rcases he with z | z
      . exact absurd (Cb.trans z) hb
      . rw [Cb]; exact z
     rw [q] at q'; cases q'
     obtain ⟨v, hv⟩ := yL
     exact ⟨v, by rw [Cb]; exact hv⟩
   . refine (ok b u q).mJ (fun c v hc r => k c v ?_ r) (fun c r => by rw [aw (D1 c b r)]; exact r) fun c xs r => by rw [aw (Hn c xs r)]; exact r
     rcases hc with rfl | hc
     . exact Cb
     . rintro rfl
       rcases he with z | z
       . exact D1 c b hc z
       . rw [hc] at z; cases z; exact hb rfl
end
structure Un (fs ex : List Addr) (H H' : Hp) (h h' : Heap) : Prop where
 keep : ∀ b o, h.get? b = some o -> H b = none -> b ∉ fs -> b ∉ ex -> h'.get? b = some o
 slot : ∀ b o, h.get? b = some o -> H b = none -> b ∈ fs -> b ∉ ex -> ∃ sl, h'.get? b = some { o with slots := sl }
 free : ∀ b o, h.get? b = some o -> H b = none -> b ∉ ex -> H' b = none
 there : ∀ b o, h.get? b = some o -> b ∉ ex -> ∃ o', h'.get? b = some o'
 jo : ∀ b xs, H b = some (.tup xs) -> H' b = some (.tup xs)
 iK : ∀ b o u, H b = some (.sQ o u) -> H' b = some (.sQ o u)
 kz : ∀ b ps, H b = some (.Bw ps) -> ∃ more, H' b = some (.Bw (ps ++ more))
section
variable {fs LR ex NT : List Addr} {H H1 H2 : Hp} {h h1 h2 h' : Heap} {a x e : Addr} {o : HO}
theorem Un.any (u : Un fs ex H H1 h h1) {b : Addr} {ob : Obj} (q : h.get? b = some ob) (n : H b = none) (hx : b ∉ ex) : ∃ sl, h1.get? b = some { ob with slots := sl } := by
 by_cases hb : b ∈ fs
 . exact u.slot b ob q n hb hx
 . exact ⟨ob.slots, u.keep b ob q n hb hx⟩
theorem Un.kept (k : ∀ b u, h.get? b = some u -> h'.get? b = some u) : Un fs ex H H h h' :=
 ⟨fun b ob q _ _ _ => k b ob q, fun b ob q _ _ _ => ⟨ob.slots, k b ob q⟩, fun _ _ _ n _ => n, fun b ob q _ => ⟨ob, k b ob q⟩, fun _ _ q => q, fun _ _ _ q => q, fun _ ps q => ⟨#[], by rw [q]; simp⟩⟩
theorem Un.refl : Un fs ex H H h h := Un.kept fun _ _ q => q
theorem Un.laid (k : ∀ b u, h.get? b = some u -> h'.get? b = some u) (hp : h.objs.size <= a) (hn : H a = none) : Un fs ex H (upd H a o) h h' where
 keep := fun b u q _ _ _ => k b u q
 slot := fun b u q _ _ _ => ⟨u.slots, k b u q⟩
 free := fun b u q n _ => by rw [aw (Nat.ne_of_lt (Nat.lt_of_lt_of_le (Heap.lt_size q) hp))]; exact n
 there := fun b u q _ => ⟨u, k b u q⟩
 jo := fun b xs q => by rw [aw (aC q hn)]; exact q
 iK := fun b u xs q => by rw [aw (aC q hn)]; exact q
 kz := fun b ps q => ⟨#[], by rw [aw (aC q hn), q]; simp⟩
theorem Un.write (mu : D7 (H x)) (he : e = x \/ H e = some (.own x)) (k : ∀ b u, b ≠ e -> h.get? b = some u -> h'.get? b = some u) (yL : ∃ u, h'.get? e = some u) : Un fs ex H (upd H x o) h h' := by
 have hx : ∀ b, H b = none -> b ≠ x := fun b n z => by subst z; rw [n] at mu; exact mu
 have hb : ∀ b, H b = none -> b ≠ e := fun b n z => by
  subst z
  rcases he with r | r
  . exact hx b n r
  . rw [n] at r; cases r
 have hm : ∀ b u, H b = some u -> ¬ D7 (some u) -> b ≠ x := fun b u q nm z => by subst z; rw [q] at mu; exact nm mu
 refine ⟨fun b u q n _ _ => k b u (hb b n) q, fun b u q n _ _ => ⟨u.slots, k b u (hb b n) q⟩, fun b u q n _ => by rw [aw (hx b n)]; exact n, fun b u q _ => ?_,
  fun b xs q => by rw [aw (hm b _ q fun z => z)]; exact q, fun b u xs q => by rw [aw (hm b _ q fun z => z)]; exact q, fun b ps q => ⟨#[], by rw [aw (hm b _ q fun z => z), q]; simp⟩⟩
 by_cases Cb : b = e
 . subst Cb; exact yL
 . exact ⟨u, k b u Cb q⟩
end
def E8 (h : Heap) (H : Hp) : List Addr := (List.range h.objs.size).filter fun a => (H a).isSome
def lX (h : Heap) (H : Hp) : Heap := PySem.W.hideAll h (E8 h H)
theorem si (h : Heap) (H : Hp) : (lX h H).objs.size = h.objs.size := PySem.W.hideAll_size _ _
theorem tG {h : Heap} {H : Hp} {b : Addr} {o : Obj} (e : h.get? b = some o) (n : H b = none) : (lX h H).get? b = some o :=
 PySem.W.hideAll_get _ e fun hm => by
  have q : (H b).isSome = true := (List.mem_filter.mp hm).2
  rw [n] at q; simp at q
theorem xF {h : Heap} {H : Hp} {b : Addr} {o : Obj} (e : (lX h H).get? b = some o) : h.get? b = some o /\ H b = none := by
 have e' : h.get? b = some o := PySem.W.of_hideAll (E8 h H) e
 refine ⟨e', ?_⟩
 cases q : H b with
 | none => rfl
 | some x =>
   have hm : b ∈ E8 h H := List.mem_filter.mpr ⟨List.mem_range.mpr (Heap.lt_size e'), by simp [q]⟩
   have z : (lX h H).get? b = none := PySem.W.hideAll_none (E8 h H) hm
   rw [z] at e; cases e
def xK (g h : Heap) (L : Addr) : List (Addr × Obj) := (List.range h.objs.size).filterMap fun a => if a = L \/ (g.get? a).isSome = true then none else (h.get? a).map fun o => (a, o)
def rest (g h : Heap) (L d : Addr) : List (Addr × Obj) := (xK g h L).filter fun p => decide (p.1 ≠ d)
structure Mod (K : PySem.W.Frag) (mg : Str -> Option Value) (base : Heap) : Prop where
 Gn : K.In base
 glob : base.Ns mainGlobals mg
 blt : ∃ mb, base.Ns builtinsNs mb /\ ∀ x : Str, x ≠ "__name__" -> mb x = bootBuiltins x
 nolimit : base.NoLimit
structure Cx where
 prog : Program
 w : World
 K : PySem.W.Frag
 mg : Str -> Option Value
 base : Heap
 A : Around
 N : List Str
 cn : Shared
 t6 : Hp
 env : Env
 outer : List Env
 stack : List Env
 ex : List Addr
 fn : Str -> Bool
 calm : Bool
 pn : List (Addr × Obj)
 xe : Value -> Shared -> Prop
def nq (l : List Env) : List Addr := l.filterMap (·.frame)
abbrev Cx.fs (X : Cx) : List Addr := nq X.outer
def EA (sc : Scope) (x : Str) : Prop := sc.names.lookup x = some .local \/ sc.names.lookup x = some .cell \/ sc.names.lookup x = some .free
def Loc (sc : Scope) (x : Str) : Prop := sc.names.lookup x = some .local \/ sc.names.lookup x = some .cell
def Look (env : Env) (h : Heap) (m : Str -> Option Value) (x : Str) (u : Value) : Prop :=
 (env.kindOf x = some .local /\ m x = some u) \/ ((env.kindOf x = some .cell \/ env.kindOf x = some .free) /\ ∃ c, env.cells.lookup x = some c /\ h.IsCell c (some u))
structure Cx.Ok (X : Cx) : Prop where
 mod : Mod X.K X.mg X.base
 kind : X.env.scope.kind = .function
 glob : X.env.globals = mainGlobals
 blt : X.env.builtins = builtinsNs
 above : X.cn.heap.objs.size <= X.env.locals
 inj : ∀ x y c, X.env.cells.lookup x = some c -> X.env.cells.lookup y = some c -> x = y
 has : ∀ x, (X.env.kindOf x = some .cell \/ X.env.kindOf x = some .free) -> ∃ c, X.env.cells.lookup x = some c
 Ck : ∀ x c, X.fn x = true -> X.env.cells.lookup x = some c -> X.cn.heap.objs.size <= c
 hd : X.calm = true -> X.A.handled = none
 frames : X.A.frames = some X.stack
 Dp : X.stack = X.outer \/ (X.stack = X.env :: X.outer /\ X.env.frame = some X.env.locals)
 Ex : ∀ b ∈ X.ex, b ≠ X.env.locals /\ ∀ x c, X.env.cells.lookup x = some c -> c ≠ b
 bs : ∀ b o, X.base.get? b = some o -> X.cn.heap.get? b = some o /\ X.t6 b = none
 v8 : X.base.objs.size <= X.cn.heap.objs.size
 r0 : ∀ b o, X.base.get? b = some o -> b ∉ X.ex
 rX : ∀ b ∈ X.ex, b ∉ X.fs
 iE : X.cn.heap.FunFrames X.base X.outer
 y0 : ∀ b ∈ X.fs, X.t6 b = none
structure Inv (X : Cx) (pins : List (Addr × Obj)) (σ : List (Option V)) (H : Hp) (s : Shared) : Prop where
 ok : X.Ok
 os : s.os = X.cn.os
 bare : AllBare s.gens
 base : Un X.fs X.ex X.t6 H X.cn.heap s.heap
 loc : ∃ m, s.heap.Ns X.env.locals m /\ ∀ (i : Nat) (x : Str) (v : V), X.N[i]? = some x -> σ[i]? = some (some v) -> EA X.env.scope x -> ∃ u, RelV v u /\ Look X.env s.heap m x u
 cell : ∀ x c, X.env.cells.lookup x = some c -> ∃ v, s.heap.IsCell c v
 free : H X.env.locals = none
 dZ : ∀ x c, X.env.cells.lookup x = some c -> H c = none
 pin : ∀ p ∈ X.pn ++ pins, s.heap.get? p.1 = some p.2 /\ H p.1 = none /\ p.1 ≠ X.env.locals /\ p.1 ∉ X.fs /\ ∀ v, p.2.data ≠ .cell v
 aI : gE X.prog X.w H s.heap
 len : σ.length = X.N.length
section
variable {X : Cx} {pins : List (Addr × Obj)} {σ : List (Option V)} {H H' : Hp} {s : Shared} {h' : Heap}
theorem Cx.Ok.GV (ok : X.Ok) {b : Addr} {o : Obj} (e : X.base.get? b = some o) : b ∉ X.fs := fun hb => by
 have := (ok.iE.mem hb).1
 rw [e] at this; cases this
theorem Inv.bs (I : Inv X pins σ H s) : ∀ b o, X.base.get? b = some o -> s.heap.get? b = some o /\ H b = none := fun b o e =>
 ⟨I.base.keep b o (I.ok.bs b o e).1 (I.ok.bs b o e).2 (I.ok.GV e) (I.ok.r0 b o e), I.base.free b o (I.ok.bs b o e).1 (I.ok.bs b o e).2 (I.ok.r0 b o e)⟩
theorem Inv.bk (I : Inv X pins σ H s) : ∀ b o, X.base.get? b = some o -> s.heap.get? b = some o := fun b o e => (I.bs b o e).1
theorem Inv.mod (I : Inv X pins σ H s) : Mod X.K X.mg X.base := I.ok.mod
theorem Inv.zt (I : Inv X pins σ H s) : X.K.In s.heap := I.ok.mod.Gn.keeps I.bk
theorem Inv.lt (I : Inv X pins σ H s) : X.env.locals < s.heap.objs.size := let ⟨_, hn, _⟩ := I.loc; hn.lt
theorem Inv.sz (I : Inv X pins σ H s) : X.cn.heap.objs.size <= s.heap.objs.size := Nat.le_trans I.ok.above (Nat.le_of_lt I.lt)
theorem Inv.Hy (I : Inv X pins σ H s) {a : Addr} (h : s.heap.objs.size <= a) : a ∉ X.fs := fun hb => by
 obtain ⟨_, o, ho, _⟩ := I.ok.iE.mem hb
 exact absurd (Nat.lt_of_lt_of_le (Heap.lt_size ho) (Nat.le_trans I.sz h)) (Nat.lt_irrefl _)
theorem Inv.A1 (I : Inv X pins σ H s) : ∀ x c, X.env.cells.lookup x = some c -> c ≠ X.env.locals := fun x c e z => by
 obtain ⟨v, o, ho, hd⟩ := I.cell x c e
 obtain ⟨m, ⟨o', es, ep, vh, ia, _⟩, _⟩ := I.loc
 rw [z, vh] at ho; cases ho; rw [ia] at hd; cases hd
theorem Inv.iE (I : Inv X pins σ H s) : s.heap.FunFrames X.base X.outer := by
 have all : ∀ (l : List Env), (∀ b ∈ nq l, b ∈ X.fs) -> X.cn.heap.FunFrames X.base l -> s.heap.FunFrames X.base l := by
  intro l
  induction l with
  | nil => intro _ _; trivial
  | cons env r ih =>
    intro hs hl
    obtain ⟨hk, ⟨L, o, hf, hn, ho, hd⟩, hr⟩ := hl
    have hL : L ∈ X.fs := hs L (by unfold nq; rw [List.filterMap_cons, hf]; exact List.mem_cons_self)
    obtain ⟨sl, e⟩ := I.base.slot L o ho (I.ok.y0 L hL) hL fun z => I.ok.rX L z hL
    exact ⟨hk, ⟨L, _, hf, hn, e, hd⟩, ih (fun b hb => hs b (by unfold nq; rw [List.filterMap_cons, hf]; exact List.mem_cons_of_mem _ hb)) hr⟩
 exact all X.outer (fun _ hb => hb) I.ok.iE
theorem Inv.stack (I : Inv X pins σ H s) : s.heap.FunFrames X.base X.stack := by
 rcases I.ok.Dp with e | ⟨e, hf⟩
 . rw [e]; exact I.iE
 . rw [e]
   obtain ⟨m, hn, _⟩ := I.loc
   refine .cons (by rw [I.ok.kind]; decide) hf hn ?_ I.iE
   exact Heap.get?_none_of_le (Nat.le_trans I.ok.v8 I.ok.above)
theorem Inv.ph (I : Inv X pins σ H s) : ∀ b ∈ nq X.stack, b ∈ X.env.locals :: X.fs := fun b hb => by
 rcases I.ok.Dp with e | ⟨e, hf⟩
 . rw [e] at hb; exact List.mem_cons_of_mem _ hb
 . rw [e] at hb
   unfold nq at hb
   rw [List.filterMap_cons, hf] at hb
   exact hb
theorem Inv.qy (I : Inv X pins σ H s) : ∀ b ∈ nq X.stack, H b = none := fun b hb => by
 rcases List.mem_cons.mp (I.ph b hb) with e | hb
 . rw [e]; exact I.free
 . obtain ⟨_, o, ho, _⟩ := I.ok.iE.mem hb
   exact I.base.free b o ho (I.ok.y0 b hb) fun z => I.ok.rX b z hb
theorem Inv.step {g' : Array GenState} {t' : Nat} {d' : Drawn} {ch : List Addr} (I : Inv X pins σ H s)
 (rp : ∀ b ∈ ch, (b ∈ X.ex \/ X.cn.heap.objs.size <= b) /\ b ≠ X.env.locals /\ (∀ x c, X.env.cells.lookup x = some c -> c ≠ b) /\ ∀ p ∈ X.pn ++ pins, p.1 ≠ b)
 (keep : ∀ b o, b ≠ X.env.locals -> b ∉ X.fs -> b ∉ ch -> s.heap.get? b = some o -> H b = none -> h'.get? b = some o)
 (slot : ∀ b o, b ≠ X.env.locals -> b ∈ X.fs -> b ∉ ch -> s.heap.get? b = some o -> H b = none -> ∃ sl, h'.get? b = some { o with slots := sl }) (free : ∀ b o, b ∉ ch -> s.heap.get? b = some o -> H b = none -> H' b = none)
 (there : ∀ b o, b ∉ ch -> s.heap.get? b = some o -> ∃ o', h'.get? b = some o')
 (jo : ∀ b xs, H b = some (.tup xs) -> H' b = some (.tup xs)) (iK : ∀ b o u, H b = some (.sQ o u) -> H' b = some (.sQ o u)) (kz : ∀ b ps, H b = some (.Bw ps) -> ∃ more, H' b = some (.Bw (ps ++ more)))
 (ns : ∀ m, s.heap.Ns X.env.locals m -> h'.Ns X.env.locals m) (aI : gE X.prog X.w H' h') (hg : AllBare g') :
 Inv X pins σ H' { s with heap := h', gens := g', drawn := d', toks := t' } := by
 have Ja : ∀ b o, X.cn.heap.get? b = some o -> b ≠ X.env.locals := fun b o e => Nat.ne_of_lt (Nat.lt_of_lt_of_le (Heap.lt_size e) I.ok.above)
 have Fs : ∀ b o, X.cn.heap.get? b = some o -> b ∉ X.ex -> b ∉ ch := fun b o e hx hb => by
  rcases (rp b hb).1 with z | z
  . exact hx z
  . exact absurd (Nat.lt_of_lt_of_le (Heap.lt_size e) z) (Nat.lt_irrefl _)
 have cellK : ∀ x c, X.env.cells.lookup x = some c -> ∀ v, s.heap.IsCell c v -> h'.IsCell c v := fun x c e v ⟨o, ho, hd⟩ => by
  have DB : c ∉ ch := fun z => (rp c z).2.2.1 x c e rfl
  by_cases hc : c ∈ X.fs
  . obtain ⟨sl, q⟩ := slot c o (I.A1 x c e) hc DB ho (I.dZ x c e)
    exact ⟨_, q, hd⟩
  . exact ⟨o, keep c o (I.A1 x c e) hc DB ho (I.dZ x c e), hd⟩
 refine ⟨I.ok, I.os, hg, ⟨fun b o e n hb hx => ?_, fun b o e n hb hx => ?_, fun b o e n hx => ?_, fun b o e hx => ?_, fun b xs e => jo b xs (I.base.jo b xs e), fun b o xs e => iK b o xs (I.base.iK b o xs e), fun b ps e => ?_⟩, ?_, fun x c e => ?_, ?_, fun x c e => ?_, fun p hp => ?_, aI, I.len⟩
 . exact keep b o (Ja b o e) hb (Fs b o e hx) (I.base.keep b o e n hb hx) (I.base.free b o e n hx)
 . obtain ⟨sl, e1⟩ := I.base.slot b o e n hb hx
   obtain ⟨KD, e2⟩ := slot b _ (Ja b o e) hb (Fs b o e hx) e1 (I.base.free b o e n hx)
   exact ⟨KD, e2⟩
 . obtain ⟨o', e1⟩ := I.base.there b o e hx
   exact free b o' (Fs b o e hx) e1 (I.base.free b o e n hx)
 . obtain ⟨o', e1⟩ := I.base.there b o e hx
   exact there b o' (Fs b o e hx) e1
 . obtain ⟨m1, e1⟩ := I.base.kz b ps e
   obtain ⟨m2, e2⟩ := kz b _ e1
   exact ⟨m1 ++ m2, by rw [e2, Array.append_assoc]⟩
 . obtain ⟨m, hn, hl⟩ := I.loc
   refine ⟨m, ns m hn, fun i x v e1 e2 e3 => ?_⟩
   obtain ⟨u, r, l⟩ := hl i x v e1 e2 e3
   refine ⟨u, r, ?_⟩
   rcases l with l | ⟨k, c, e, z⟩
   . exact .inl l
   . exact .inr ⟨k, c, e, cellK x c e _ z⟩
 . obtain ⟨v, z⟩ := I.cell x c e
   exact ⟨v, cellK x c e v z⟩
 . obtain ⟨m, ⟨o, _, _, ho, _⟩, _⟩ := I.loc
   exact free _ o (fun z => (rp _ z).2.1 rfl) ho I.free
 . obtain ⟨v, o, ho, hd⟩ := I.cell x c e
   exact free c o (fun z => (rp c z).2.2.1 x c e rfl) ho (I.dZ x c e)
 . obtain ⟨e, n, ne, nf, d⟩ := I.pin p hp
   have DB : p.1 ∉ ch := fun z => (rp p.1 z).2.2.2 p hp rfl
   exact ⟨keep p.1 p.2 ne nf DB e n, free p.1 p.2 DB e n, ne, nf, d⟩
theorem Inv.un {t' : Nat} (I : Inv X pins σ H s) (u : Un X.fs [] H H' s.heap h') (aI : gE X.prog X.w H' h') : Inv X pins σ H' { s with heap := h', toks := t' } := by
 obtain ⟨m, ⟨o, es, ep, ho, r⟩, _⟩ := id I.loc
 obtain ⟨sl, hL⟩ := u.any ho I.free (by simp)
 exact I.step (g' := s.gens) (d' := s.drawn) (ch := []) (fun _ z => nomatch z) (fun b o _ hb _ e n => u.keep b o e n hb (by simp)) (fun b o _ hb _ e n => u.slot b o e n hb (by simp)) (fun b o _ e n => u.free b o e n (by simp)) (fun b o _ e => u.there b o e (by simp)) u.jo u.iK u.kz (fun m' hm => by
  obtain ⟨o', Gg, Ii, vh, r'⟩ := hm
  rw [ho] at vh; cases vh
  exact ⟨_, Gg, Ii, hL, r'⟩) aI I.bare
theorem Inv.call {g' : Array GenState} {t' : Nat} {d' : Drawn} {ch : List Addr} (I : Inv X pins σ H s) (u : Un (nq X.stack) ch H H' s.heap h') (aI : gE X.prog X.w H' h') (hg : AllBare g')
 (rp : ∀ b ∈ ch, (b ∈ X.ex \/ X.cn.heap.objs.size <= b) /\ b ≠ X.env.locals /\ (∀ x c, X.env.cells.lookup x = some c -> c ≠ b) /\ ∀ p ∈ X.pn ++ pins, p.1 ≠ b) :
 Inv X pins σ H' { s with heap := h', gens := g', drawn := d', toks := t' } := by
 obtain ⟨m, ⟨o, es, ep, ho, r⟩, _⟩ := id I.loc
 obtain ⟨sl, hL⟩ := u.any ho I.free fun z => (rp _ z).2.1 rfl
 exact I.step (ch := ch) rp (fun b o hL hb hc e n => u.keep b o e n (fun z => (List.mem_cons.mp (I.ph b z)).elim hL hb) hc) (fun b o _ _ hc e n => u.any e n hc) (fun b o hc e n => u.free b o e n hc) (fun b o hc e => u.there b o e hc) u.jo u.iK u.kz (fun m' hm => by
  obtain ⟨o', Gg, Ii, vh, r'⟩ := hm
  rw [ho] at vh; cases vh
  exact ⟨_, Gg, Ii, hL, r'⟩) aI hg
theorem Inv.turned {t' : Nat} {it : Addr} (I : Inv X pins σ H s) (k : ∀ b o, b ≠ it -> s.heap.get? b = some o -> h'.get? b = some o) (hn : H it = none) (hL : it ≠ X.env.locals)
 (h1 : it ∈ X.ex \/ X.cn.heap.objs.size <= it) (h2 : ∀ x c, X.env.cells.lookup x = some c -> c ≠ it) (h3 : ∀ p ∈ X.pn ++ pins, p.1 ≠ it) : Inv X pins σ H { s with heap := h', toks := t' } := by
 have vW : ∀ b u, H b = some u -> b ≠ it := fun b u e z => by rw [z, hn] at e; cases e
 refine I.step (g' := s.gens) (d' := s.drawn) (ch := [it]) (fun b hb => ?_) (fun b o _ _ hc e _ => k b o (fun z => hc (by simp [z])) e) (fun b o _ _ hc e _ => ⟨o.slots, k b o (fun z => hc (by simp [z])) e⟩) (fun _ _ _ _ n => n)
  (fun b o hc e => ⟨o, k b o (fun z => hc (by simp [z])) e⟩) (fun _ _ e => e) (fun _ _ _ e => e) (fun b ps e => ⟨#[], by rw [e]; simp⟩) (fun m hm => ?_) (fun b u e => ?_) I.bare
 . have e : b = it := by simpa using hb
   subst e
   exact ⟨h1, hL, h2, h3⟩
 . obtain ⟨o, es, ep, ho, r⟩ := hm
   exact ⟨o, es, ep, k _ o (Ne.symm hL) ho, r⟩
 . refine (I.aI b u e).mJ (fun c v hc q => k c v ?_ q) (fun _ q => q) fun _ _ q => q
   rcases hc with z | z
   . rw [z]; exact vW b u e
   . exact vW c _ z
theorem Inv.tok (I : Inv X pins σ H s) (t : Nat) : Inv X pins σ H { s with toks := t } := I.un (h' := s.heap) (t' := t) Un.refl I.aI
theorem Inv.kept {t' : Nat} (I : Inv X pins σ H s) (k : ∀ b u, s.heap.get? b = some u -> h'.get? b = some u) : Inv X pins σ H { s with heap := h', toks := t' } := I.un (Un.kept k) (I.aI.kept k)
theorem Inv.laid {a : Addr} {o : HO} {t' : Nat} (I : Inv X pins σ H s) (k : ∀ b u, s.heap.get? b = some u -> h'.get? b = some u) (hp : s.heap.objs.size <= a) (new : bM X.prog X.w (upd H a o) h' a o) :
 Inv X pins σ (upd H a o) { s with heap := h', toks := t' } := I.un (Un.laid k hp (I.aI.fresh hp)) (I.aI.laid k hp new)
theorem Inv.write {x e : Addr} {o : HO} {t' : Nat} (I : Inv X pins σ H s) (mu : D7 (H x)) (he : e = x \/ H e = some (.own x)) (k : ∀ b u, b ≠ e -> s.heap.get? b = some u -> h'.get? b = some u) (yL : ∃ u, h'.get? e = some u)
 (new : bM X.prog X.w (upd H x o) h' x o) : Inv X pins σ (upd H x o) { s with heap := h', toks := t' } := I.un (Un.write mu he k yL) (I.aI.write mu he k yL new)
theorem Inv.weak {σ' : List (Option V)} (I : Inv X pins σ H s) (hl : σ'.length = σ.length) (w : ∀ (i : Nat) v, σ'[i]? = some (some v) -> σ[i]? = some (some v)) : Inv X pins σ' H s :=
 ⟨I.ok, I.os, I.bare, I.base, let ⟨m, hn, rO⟩ := I.loc; ⟨m, hn, fun i x v e1 e2 e3 => rO i x v e1 (w i v e2) e3⟩, I.cell, I.free, I.dZ, I.pin, I.aI, hl.trans I.len⟩
theorem Inv.fV {zf : List (Addr × Obj)} (I : Inv X pins σ H s) (h : ∀ p ∈ zf, s.heap.get? p.1 = some p.2 /\ H p.1 = none /\ p.1 ≠ X.env.locals /\ p.1 ∉ X.fs /\ ∀ v, p.2.data ≠ .cell v) : Inv X zf σ H s :=
 ⟨I.ok, I.os, I.bare, I.base, I.loc, I.cell, I.free, I.dZ, fun p hp => (List.mem_append.mp hp).elim (fun z => I.pin p (List.mem_append_left _ z)) (h p), I.aI, I.len⟩
theorem nM {N : List Str} (hN : N.Nodup) {i j : Nat} {x : Str} (a : N[i]? = some x) (b : N[j]? = some x) : i = j := by
 obtain ⟨h1, e1⟩ := List.getElem?_eq_some_iff.mp a
 obtain ⟨h2, e2⟩ := List.getElem?_eq_some_iff.mp b
 exact (List.getElem_inj hN).mp (e1.trans e2.symm)
theorem lB {M : Model} {A : Around} {E : Value -> Shared -> Prop} {i : Nat} {x : Str} {v : V} {u : Value} {Q : Unit -> Shared -> Prop} (I : Inv X pins σ H s) (hN : X.N.Nodup) (hi : X.N[i]? = some x) (hx : Loc X.env.scope x) (r : RelV v u)
 (h : ∀ s', Inv X pins (σ.set i (some v)) H s' -> (∃ a, Heap.SameBut a s.heap s'.heap /\ (a = X.env.locals \/ X.env.cells.lookup x = some a)) -> Q () s') (hf : X.fn x = true \/ X.env.scope.names.lookup x = some .local := by first | exact .inl rfl | exact .inr rfl | assumption) : wpAny M A (storeName X.env x u) Q E s := by
 obtain ⟨m, hn, hl⟩ := id I.loc
 have GN : (X.env.scope.kind == .class || (X.env.scope.kind == .module && X.env.locals != X.env.globals)) = false := by rw [I.ok.kind]; rfl
 have C0 : i < σ.length := by rw [I.len]; exact (List.getElem?_eq_some_iff.mp hi).1
 have A1 := I.A1
 have tracked : ∀ {a : Addr} {h' : Heap}, (∃ o, s.heap.get? a = some o /\ H a = none) -> Heap.SameBut a s.heap h' -> gE X.prog X.w H h' := fun {a h'} ha hs b ob e => by
  obtain ⟨_, _, zm⟩ := ha
  refine (I.aI b ob e).mJ (fun c w' hc q => (hs.2 c ?_).trans q) (fun _ q => q) fun _ _ q => q
  rintro rfl
  rcases hc with rfl | hc
  . rw [zm] at e; cases e
  . rw [zm] at hc; cases hc
 rcases hx with hk | hk
 . refine wpAny_storeName_local hk hn (fun h' Cu hs => ?_) GN
   obtain ⟨oL, _, _, wc, _⟩ := id hn
   refine h _ ⟨I.ok, I.os, I.bare, ⟨fun b o e n hb hx => ?_, fun b o e n hb hx => ?_, I.base.free, fun b o e hx => ?_, I.base.jo, I.base.iK, I.base.kz⟩, ⟨_, Cu, fun j y v' e1 e2 e3 => ?_⟩, fun y c e => ?_, I.free, I.dZ, fun p hp => ?_, tracked ⟨oL, wc, I.free⟩ hs, by simpa using I.len⟩ ⟨_, hs, .inl rfl⟩
   . exact (hs.2 b (Nat.ne_of_lt (Nat.lt_of_lt_of_le (Heap.lt_size e) I.ok.above))).trans (I.base.keep b o e n hb hx)
   . obtain ⟨sl, e1⟩ := I.base.slot b o e n hb hx
     exact ⟨sl, (hs.2 b (Nat.ne_of_lt (Nat.lt_of_lt_of_le (Heap.lt_size e) I.ok.above))).trans e1⟩
   . obtain ⟨o', e1⟩ := I.base.there b o e hx
     exact ⟨o', (hs.2 b (Nat.ne_of_lt (Nat.lt_of_lt_of_le (Heap.lt_size e) I.ok.above))).trans e1⟩
   . by_cases hj : j = i
     . subst hj
       rw [hi] at e1; cases e1
       rw [List.getElem?_set_self C0] at e2
       cases e2
       exact ⟨u, r, .inl ⟨hk, by simp⟩⟩
     . rw [List.getElem?_set_ne (Ne.symm hj)] at e2
       obtain ⟨u', r', q⟩ := hl j y v' e1 e2 e3
       refine ⟨u', r', ?_⟩
       rcases q with ⟨k, e⟩ | ⟨k, c, e, z⟩
       . refine .inl ⟨k, ?_⟩
         have : y ≠ x := fun e => hj (nM hN e1 (e ▸ hi))
         simp [this, e]
       . exact .inr ⟨k, c, e, z.sameBut hs (A1 y c e)⟩
   . obtain ⟨w', z⟩ := I.cell y c e
     exact ⟨w', z.sameBut hs (A1 y c e)⟩
   . obtain ⟨e, n, ne, nf, d⟩ := I.pin p hp
     exact ⟨(hs.2 p.1 ne).trans e, n, ne, nf, d⟩
 . have Hu : X.fn x = true := by
    rcases hf with z | z
    . exact z
    . rw [z] at hk; cases hk
   obtain ⟨c, hc⟩ := I.ok.has x (.inl hk)
   obtain ⟨w', z⟩ := I.cell x c hc
   refine wpAny_storeName_cell I.ok.kind hk hc z (fun h' sT hs => ?_)
   obtain ⟨oc, IX, FL⟩ := id z
   refine h { s with heap := h' } ⟨I.ok, I.os, I.bare, ⟨fun b o e n hb hx => ?_, fun b o e n hb hx => ?_, I.base.free, fun b o e hx => ?_, I.base.jo, I.base.iK, I.base.kz⟩, ⟨m, hn.sameBut hs (Ne.symm (A1 x c hc)), fun j y v' e1 e2 e3 => ?_⟩, fun y c' e => ?_, I.free, I.dZ, fun p hp => ?_, tracked ⟨oc, IX, I.dZ x c hc⟩ hs, by simpa using I.len⟩ ⟨c, hs, .inr hc⟩
   . exact (hs.2 b (Nat.ne_of_lt (Nat.lt_of_lt_of_le (Heap.lt_size e) (I.ok.Ck x c Hu hc)))).trans (I.base.keep b o e n hb hx)
   . obtain ⟨sl, e1⟩ := I.base.slot b o e n hb hx
     exact ⟨sl, (hs.2 b (Nat.ne_of_lt (Nat.lt_of_lt_of_le (Heap.lt_size e) (I.ok.Ck x c Hu hc)))).trans e1⟩
   . obtain ⟨o', e1⟩ := I.base.there b o e hx
     exact ⟨o', (hs.2 b (Nat.ne_of_lt (Nat.lt_of_lt_of_le (Heap.lt_size e) (I.ok.Ck x c Hu hc)))).trans e1⟩
   . by_cases hj : j = i
     . subst hj
       rw [hi] at e1; cases e1
       rw [List.getElem?_set_self C0] at e2
       cases e2
       exact ⟨u, r, .inr ⟨.inl hk, c, hc, sT⟩⟩
     . rw [List.getElem?_set_ne (Ne.symm hj)] at e2
       obtain ⟨u', r', q⟩ := hl j y v' e1 e2 e3
       refine ⟨u', r', ?_⟩
       rcases q with q | ⟨k, c', e, z'⟩
       . exact .inl q
       . refine .inr ⟨k, c', e, z'.sameBut hs ?_⟩
         rintro rfl
         exact hj (nM hN e1 (I.ok.inj _ _ _ e hc ▸ hi))
   . by_cases Bj : c' = c
     . subst Bj; exact ⟨_, sT⟩
     . obtain ⟨w2, z2⟩ := I.cell y c' e
       exact ⟨w2, z2.sameBut hs Bj⟩
   . obtain ⟨e, n, ne, nf, d⟩ := I.pin p hp
     refine ⟨(hs.2 p.1 ?_).trans e, n, ne, nf, d⟩
     intro q
     rw [q, IX] at e
     have q' : oc = p.2 := Option.some.inj e
     exact d w' (by rw [<- q']; exact FL)
theorem mX {M : Model} {A : Around} {E : Value -> Shared -> Prop} {i : Nat} {x : Str} {v : V} {u : Value} {Q : Unit -> Shared -> Prop} (I : Inv X pins σ H s) (hN : X.N.Nodup) (hi : X.N[i]? = some x) (hx : Loc X.env.scope x) (r : RelV v u)
 (h : ∀ s', Inv X pins (σ.set i (some v)) H s' -> Q () s') (hf : X.fn x = true \/ X.env.scope.names.lookup x = some .local := by first | exact .inl rfl | exact .inr rfl | assumption) : wpAny M A (storeName X.env x u) Q E s :=
 lB I hN hi hx r (fun s' I' _ => h s' I') hf
theorem Inv.Dk {s' : Shared} {ch : List Addr} (I : Inv X pins σ H s) (ho : s'.os = s.os) (u : Un (nq X.stack) ch H H' s.heap s'.heap) (aI : gE X.prog X.w H' s'.heap) (hg : AllBare s'.gens)
 (rp : ∀ b ∈ ch, (b ∈ X.ex \/ X.cn.heap.objs.size <= b) /\ b ≠ X.env.locals /\ (∀ x c, X.env.cells.lookup x = some c -> c ≠ b) /\ ∀ p ∈ X.pn ++ pins, p.1 ≠ b) : Inv X pins σ H' s' := by
 obtain ⟨h', g', d', t', o'⟩ := s'
 have e : o' = s.os := ho
 subst e
 exact I.call (g' := g') (t' := t') (d' := d') u aI hg rp
end
abbrev XK := Value -> Option Addr -> Hp -> Prop
abbrev St := List (Option V)
abbrev VK := V -> Hp -> Prop
abbrev TE := St -> Hp -> VK -> Prop
abbrev TT := St -> Hp -> (Bool -> Hp -> Prop) -> Prop
abbrev TA := St -> Hp -> (List V -> Hp -> Prop) -> Prop
structure Ends where
 nx : St -> Hp -> Prop
 rt : VK
 bk : St -> Hp -> Prop := fun _ _ => False
 ct : St -> Hp -> Prop := fun _ _ => False
abbrev TS := Ends -> St -> Hp -> Prop
def EP (X : Cx) (pins : List (Addr × Obj)) (σ : St) (Q : VK) (u : Value) (s' : Shared) : Prop := ∃ v H', Inv X pins σ H' s' /\ RelV v u /\ Q v H'
def TP (X : Cx) (pins : List (Addr × Obj)) (σ : St) (Q : Bool -> Hp -> Prop) (b : Bool) (s' : Shared) : Prop := ∃ H', Inv X pins σ H' s' /\ Q b H'
def AP (X : Cx) (pins : List (Addr × Obj)) (σ : St) (Q : List V -> Hp -> Prop) (us : List Value) (s' : Shared) : Prop := ∃ vs H', Inv X pins σ H' s' /\ Vals vs us /\ Q vs H'
def SP (X : Cx) (pins : List (Addr × Obj)) (D : Ends) (f : Flow) (s' : Shared) : Prop :=
 match f with
 | .next => ∃ σ' H', Inv X pins σ' H' s' /\ D.nx σ' H'
 | .brk => ∃ σ' H', Inv X pins σ' H' s' /\ D.bk σ' H'
 | .cont => ∃ σ' H', Inv X pins σ' H' s' /\ D.ct σ' H'
 | .ret u => ∃ v σ' H', Inv X pins σ' H' s' /\ RelV v u /\ D.rt v H'
def PE (X : Cx) (e : Expr) (t : TE) : Prop :=
 ∀ (pins : List (Addr × Obj)) (s : Shared) (σ : St) (H : Hp) (Q : VK), Inv X pins σ H s -> t σ H Q -> wpAny (model X.prog X.w) X.A (eval e X.env) (EP X pins σ Q) X.xe s
def PT (X : Cx) (e : Expr) (t : TT) : Prop :=
 ∀ (pins : List (Addr × Obj)) (s : Shared) (σ : St) (H : Hp) (Q : Bool -> Hp -> Prop), Inv X pins σ H s -> t σ H Q -> wpAny (model X.prog X.w) X.A (isTrue e X.env (eval e X.env)) (TP X pins σ Q) X.xe s
def PW (X : Cx) (e : Expr) (t : TT) : Prop :=
 ∀ (whole : Sem Value) (pins : List (Addr × Obj)) (s : Shared) (σ : St) (H : Hp) (Q : Bool -> Hp -> Prop), Inv X pins σ H s -> t σ H Q -> wpAny (model X.prog X.w) X.A (isTrue e X.env whole) (TP X pins σ Q) X.xe s
theorem PW.pt {X : Cx} {e : Expr} {t : TT} (h : PW X e t) : PT X e t := h _
def PA (X : Cx) (es : List Expr) (t : TA) : Prop :=
 ∀ (pos : Pos) (pins : List (Addr × Obj)) (s : Shared) (σ : St) (H : Hp) (Q : List V -> Hp -> Prop), Inv X pins σ H s -> t σ H Q -> wpAny (model X.prog X.w) X.A (spliced (backTo pos (starEach es X.env))) (AP X pins σ Q) X.xe s
def PS (X : Cx) (st : Stmt) (t : TS) : Prop :=
 ∀ (pins : List (Addr × Obj)) (s : Shared) (σ : St) (H : Hp) (D : Ends), Inv X pins σ H s -> t D σ H -> wpAny (model X.prog X.w) X.A (exec st X.env) (SP X pins D) X.xe s
def oq (X : Cx) (st : List Stmt) (t : TS) : Prop :=
 ∀ (pins : List (Addr × Obj)) (s : Shared) (σ : St) (H : Hp) (D : Ends), Inv X pins σ H s -> t D σ H -> wpAny (model X.prog X.w) X.A (execs st X.env) (SP X pins D) X.xe s
theorem bF {α : Type} {t : Sem α} {Q Q' : α -> Shared -> Prop} {M : Model} {A : Around} {E : Value -> Shared -> Prop} {s : Shared} (h : wpAny M A t Q E s) (hQ : ∀ a s, Q a s -> Q' a s) : wpAny M A t Q' E s := wpAny_mono h hQ fun _ _ x => x
section
variable {X : Cx}
def AJ (i : Nat) : TE := fun σ H Q => ∃ v, σ[i]? = some (some v) /\ Q v H
def tC (v : V) : TE := fun _ H Q => Q v H
theorem Bu {i : Nat} {x : Str} {pos : Pos} (hN : X.N[i]? = some x) (hv : EA X.env.scope x) (hd : (x == ("__debug__" : Str)) = false := by decide) (rh : (x == ("__classdict__" : Str)) = false := by decide) : PE X (.Name x pos) (AJ i) := by
 intro pins s σ H Q I h
 obtain ⟨v, e, h⟩ := h
 obtain ⟨m, hn, hl⟩ := I.loc
 obtain ⟨u, r, l⟩ := hl i x v hN e hv
 have fin : EP X pins σ Q u s := ⟨v, H, I, r, h⟩
 rcases l with ⟨hk, hm⟩ | ⟨hk, c, hc, kR⟩
 . exact wpAny_Name (wpAny_loadName_local I.ok.kind hk hn hm fin) hd
 . rcases hk with hk | hk
   . exact wpAny_Name (wpAny_loadName_cell I.ok.kind hk hc kR fin) hd
   . exact wpAny_Name (wpAny_loadName_free I.ok.kind hk hc kR fin rh) hd
theorem af {i j pos} : PE X (.Constant (.int i) j pos) (tC (.int i)) := fun _ _ _ H _ I h => wpAny_Constant_int ⟨.int i, H, I.tok _, ⟨_, rfl⟩, h⟩
theorem yA {b j pos} : PE X (.Constant (.bool b) j pos) (tC (.bl b)) := fun _ _ _ H _ I h => Constant_bool ⟨.bl b, H, I, rfl, h⟩
theorem gO {j pos} : PE X (.Constant .none j pos) (tC .aZ) := fun _ _ _ H _ I h => Constant_none ⟨.aZ, H, I, rfl, h⟩
theorem tJ {x j pos} : PE X (.Constant (.str x) j pos) (tC (.str x)) := fun _ _ _ H _ I h => Calls.Constant_str ⟨.str x, H, I.tok _, ⟨_, rfl⟩, h⟩
def Gl (X : Cx) (x : Str) : Prop := X.env.kindOf x = some .globalImplicit
theorem pW {E : Value -> Shared -> Prop} {pins : List (Addr × Obj)} {s : Shared} {σ : St} {H : Hp} {x : Str} {u : Value} {pos : Pos} {Q : Value -> Shared -> Prop} (I : Inv X pins σ H s) (hg : Gl X x) (hm : X.mg x = some u) (h : Q u s)
 (hd : (x == ("__debug__" : Str)) = false := by decide) : wpAny (model X.prog X.w) X.A (eval (.Name x pos) X.env) Q E s :=
 Calls.Name_function_global I.ok.kind hg (Calls.loadGlobal_global (by rw [I.ok.glob]; exact I.mod.glob.keeps I.bk) hm h) hd
theorem eB {E : Value -> Shared -> Prop} {pins : List (Addr × Obj)} {s : Shared} {σ : St} {H : Hp} {x : Str} {u : Value} {pos : Pos} {Q : Value -> Shared -> Prop} (I : Inv X pins σ H s) (hg : Gl X x) (hm : X.mg x = none) (hv : bootBuiltins x = some u) (h : Q u s)
 (hn : x ≠ "__name__" := by decide) (hd : (x == ("__debug__" : Str)) = false := by decide) : wpAny (model X.prog X.w) X.A (eval (.Name x pos) X.env) Q E s := by
 obtain ⟨mb, h1, h2⟩ := I.mod.blt
 exact Calls.Name_function_global I.ok.kind hg (Calls.loadGlobal_builtin (by rw [I.ok.glob]; exact I.mod.glob.keeps I.bk) hm (by rw [I.ok.blt]; exact h1.keeps I.bk) ((h2 x hn).trans hv) h) hd
theorem qQ {x : Str} {v : V} {u : Value} {pos : Pos} (hg : Gl X x) (hm : X.mg x = some u) (r : RelV v u) (hd : (x == ("__debug__" : Str)) = false := by decide) : PE X (.Name x pos) (tC v) :=
 fun _ _ _ H _ I h => pW I hg hm ⟨v, H, I, r, h⟩ hd
variable {a b : Expr} {ta tb : TE} {pos : Pos}
variable {tA Fq : TT} {rest : List Expr}
def CP (t u : TT) : TT := fun σ H Q => t σ H fun c H1 => if c = true then u σ H1 Q else Q false H1
def JH (t u : TT) : TT := fun σ H Q => t σ H fun c H1 => if c = true then Q true H1 else u σ H1 Q
def Ed (t : TT) : TT := fun σ H Q => t σ H fun c H1 => Q (!c) H1
theorem xV (ha : PT X a tA) : PW X (.BoolOp .And [a] pos) tA := by
 intro wh pins s σ H Q I h
 refine isTrue_and (bF (ha pins s σ H Q I h) fun c s1 e => ?_)
 cases c with
 | true => exact isTrue_and_nil e
 | false => exact e
theorem o3 (ha : PT X a tA) : PW X (.BoolOp .Or [a] pos) tA := by
 intro wh pins s σ H Q I h
 refine isTrue_or (bF (ha pins s σ H Q I h) fun c s1 e => ?_)
 cases c with
 | false => exact isTrue_or_nil e
 | true => exact e
theorem AY (ha : PT X a tA) (hb : PW X (.BoolOp .And (b :: rest) pos) Fq) : PW X (.BoolOp .And (a :: b :: rest) pos) (CP tA Fq) := by
 intro wh pins s σ H Q I h
 refine isTrue_and (bF (ha pins s σ H _ I h) fun c s1 ⟨H1, I1, q1⟩ => ?_)
 cases c with
 | true => exact hb wh pins s1 σ H1 Q I1 q1
 | false => exact ⟨H1, I1, q1⟩
theorem vz (ha : PT X a tA) (hb : PW X (.BoolOp .Or (b :: rest) pos) Fq) : PW X (.BoolOp .Or (a :: b :: rest) pos) (JH tA Fq) := by
 intro wh pins s σ H Q I h
 refine isTrue_or (bF (ha pins s σ H _ I h) fun c s1 ⟨H1, I1, q1⟩ => ?_)
 cases c with
 | true => exact ⟨H1, I1, q1⟩
 | false => exact hb wh pins s1 σ H1 Q I1 q1
theorem uD (ha : PT X a tA) : PT X (.UnaryOp .Not a pos) (Ed tA) := by
 intro pins s σ H Q I h
 exact isTrue_not (ha pins s σ H (fun c H1 => Q (!c) H1) I h)
def yD (ta tb : TE) : TE := fun σ H Q => ta σ H fun x H1 => ∃ c, x = .bl c /\ if c = true then tb σ H1 Q else Q (.bl false) H1
theorem vG {op} {t : TE} (h : PE X a t) : PE X (.BoolOp op [a] pos) t := fun pins s σ H Q I hw => BoolOp_one (h pins s σ H Q I hw)
theorem vI (ha : PE X a ta) (hb : PE X (.BoolOp .And (b :: rest) pos) tb) : PE X (.BoolOp .And (a :: b :: rest) pos) (yD ta tb) := by
 intro pins s σ H Q I h
 refine BoolOp_and (bF (ha pins s σ H _ I h) fun v s1 ⟨x, H1, I1, r1, q1⟩ => ?_)
 obtain ⟨c, rfl, q1⟩ := q1
 cases r1
 refine wpAny_truthy_bool ?_
 cases c with
 | true => exact hb pins s1 σ H1 Q I1 q1
 | false => exact ⟨.bl false, H1, I1, rfl, q1⟩
end
def bp (K : PySem.W.Frag) (H : Hp) (a : Addr) (xs : List V) : Prop :=
 Rd H a (.lst xs) \/
  ∃ (o : Obj) (az : Array Value) (n : Nat), K.lookup a = some o /\ o.cls = .type "list" /\ o.dict = none /\ o.data = .seq az n /\ az.size <= sizeLine /\ Vals xs az.toList
def nD (K : PySem.W.Frag) (H : Hp) (a : Addr) (xs : List V) : Prop :=
 Rd H a (.tup xs) \/
  ∃ (o : Obj) (az : Array Value) (n : Nat), K.lookup a = some o /\ o.cls = .type "tuple" /\ o.data = .seq az n /\ az.size <= sizeLine /\ Vals xs az.toList
def Gy : Value -> Option V
 | .none => some .aZ
 | .bool b => some (.bl b)
 | .int i _ => some (.int i)
 | .str x _ => some (.str x)
 | .bytes b _ => some (.sI b)
 | .float b _ => some (.CT b)
 | .ref a => some (.ref a)
 | .type n => some (.ty n)
 | _ => none
theorem RelV.abs {x : V} {u : Value} (r : RelV x u) : Gy u = some x := by
 cases x with
 | aZ => cases r; rfl
 | bl _ => cases r; rfl
 | int _ => obtain ⟨t, rfl⟩ := r; rfl
 | str _ => obtain ⟨t, rfl⟩ := r; rfl
 | sI _ => obtain ⟨t, rfl⟩ := r; rfl
 | CT _ => obtain ⟨t, rfl⟩ := r; rfl
 | ref _ => cases r; rfl
 | ty _ => cases r; rfl
theorem RelV.inj {x y : V} {u : Value} (r : RelV x u) (q : RelV y u) : x = y := Option.some.inj (r.abs.symm.trans q.abs)
theorem Vals.inj : ∀ {xs ys : List V} {us : List Value}, Vals xs us -> Vals ys us -> xs = ys
 | _, _, _, .nil, .nil => rfl
 | _, _, _, .cons r t, .cons r' t' => by rw [r.inj r', Vals.inj t t']
section
variable {X : Cx} {pins : List (Addr × Obj)} {σ : St} {H : Hp} {s : Shared} {a : Addr} {xs ys : List V}
theorem bp.of {K : PySem.W.Frag} (h : H a = some (.lst xs)) : bp K H a xs := .inl (.inl h)
theorem nD.of {K : PySem.W.Frag} (h : H a = some (.tup xs)) : nD K H a xs := .inl (.inl h)
theorem Inv.list (I : Inv X pins σ H s) (h : bp X.K H a xs) : ∃ az : List Value, Vals xs az /\ PlainL s.heap a az.toArray /\ xs.length <= sizeLine := by
 rcases h with h | ⟨o, az, n, hk, hc, hd, hs, hz, r⟩
 . obtain ⟨z, az, n, r, e⟩ := h.ok I.aI
   exact ⟨az, r, ⟨_, n, e, rfl, rfl, rfl⟩, z⟩
 . refine ⟨az.toList, r, ⟨o, n, I.zt a o hk, hc, hd, by simpa using hs⟩, ?_⟩
   have e := r.length
   simp only [Array.length_toList] at e
   omega
theorem Inv.tuple (I : Inv X pins σ H s) (h : nD X.K H a xs) : ∃ az : List Value, Vals xs az /\ IsTup s.heap a az.toArray /\ xs.length <= sizeLine := by
 rcases h with h | ⟨o, az, n, hk, hc, hs, hz, r⟩
 . obtain ⟨z, az, r, p⟩ := h.ok I.aI
   exact ⟨az, r, p, z⟩
 . refine ⟨az.toList, r, ⟨o, I.zt a o hk, hc, n, by simpa using hs⟩, ?_⟩
   have e := r.length
   simp only [Array.length_toList] at e
   omega
theorem Inv.iB (I : Inv X pins σ H s) (h : bp X.K H a xs) (h' : bp X.K H a ys) : xs = ys := by
 obtain ⟨az, r, ⟨o, n, e, _, _, d⟩, _⟩ := I.list h
 obtain ⟨its', r', ⟨o', n', e', _, _, d'⟩, _⟩ := I.list h'
 rw [e] at e'; cases e'
 rw [d] at d'
 injection d' with d1 _
 have : az = its' := by simpa using congrArg Array.toList d1
 subst this
 exact r.inj r'
end
abbrev Cx.kC (X : Cx) (E : Value -> Shared -> Prop) : Cx := { X with xe := E }
abbrev Cx.Fz (X : Cx) : Cx := X.kC fun _ _ => False
theorem Cx.Ok.kC {X : Cx} (ok : X.Ok) (E : Value -> Shared -> Prop) : (X.kC E).Ok :=
 ⟨ok.mod, ok.kind, ok.glob, ok.blt, ok.above, ok.inj, ok.has, ok.Ck, ok.hd, ok.frames, ok.Dp, ok.Ex, ok.bs, ok.v8, ok.r0, ok.rX, ok.iE, ok.y0⟩
theorem Cx.Ok.fK {X : Cx} {E : Value -> Shared -> Prop} (ok : (X.kC E).Ok) : X.Ok :=
 ⟨ok.mod, ok.kind, ok.glob, ok.blt, ok.above, ok.inj, ok.has, ok.Ck, ok.hd, ok.frames, ok.Dp, ok.Ex, ok.bs, ok.v8, ok.r0, ok.rX, ok.iE, ok.y0⟩
section
variable {X : Cx} {pins : List (Addr × Obj)} {σ : St} {H : Hp} {s : Shared} {E : Value -> Shared -> Prop}
theorem Inv.kC (I : Inv X pins σ H s) (E : Value -> Shared -> Prop) : Inv (X.kC E) pins σ H s := ⟨I.ok.kC E, I.os, I.bare, I.base, I.loc, I.cell, I.free, I.dZ, I.pin, I.aI, I.len⟩
theorem Inv.fK (I : Inv (X.kC E) pins σ H s) : Inv X pins σ H s := ⟨I.ok.fK, I.os, I.bare, I.base, I.loc, I.cell, I.free, I.dZ, I.pin, I.aI, I.len⟩
theorem SP.fK {D : Ends} {f : Flow} {s' : Shared} (h : SP (X.kC E) pins D f s') : SP X pins D f s' := by
 cases f with
 | next => obtain ⟨σ', H', I, q⟩ := h; exact ⟨σ', H', I.fK, q⟩
 | brk => obtain ⟨σ', H', I, q⟩ := h; exact ⟨σ', H', I.fK, q⟩
 | cont => obtain ⟨σ', H', I, q⟩ := h; exact ⟨σ', H', I.fK, q⟩
 | ret u => obtain ⟨v, σ', H', I, r, q⟩ := h; exact ⟨v, σ', H', I.fK, r, q⟩
theorem oq.Fz {st : List Stmt} {t : TS} (h : oq X.Fz st t) : oq X st t := fun pins s σ H D I hw =>
 wpAny_mono (h pins s σ H D (I.kC _) hw) (fun _ _ q => q.fK) fun _ _ z => False.elim z
end
section
variable {X : Cx} {st : Stmt} {rest : List Stmt} {t u : TS} {e : Expr} {te : TE} {pos : Pos}
def zo : TS := fun D σ H => D.nx σ H
theorem cD : oq X [] zo := fun _ _ σ H _ I h => wpAny_execs_nil ⟨σ, H, I, h⟩
theorem au (h1 : PS X st t) : oq X [st] t := by
 intro pins s σ H D I h
 refine wpAny_execs_cons (bF (h1 pins s σ H D I h) fun f s1 q => ?_)
 cases f with
 | next => exact wpAny_execs_nil q
 | ret v => exact q
 | brk => exact q
 | cont => exact q
theorem Inv.quiet {pins : List (Addr × Obj)} {σ : St} {H : Hp} {s : Shared} (I : Inv X pins σ H s) : interactive X.env = false := by simp [interactive, I.ok.kind]
def yN (te : TE) : TS := fun D σ H => te σ H fun _ H1 => D.nx σ H1
theorem fQ (he : PE X e te) (hs : swapsWith e none pos.line X.env = pure false := by rfl) : PS X (.Expr e pos) (yN te) := by
 intro pins s σ H D I h
 exact wpAny_Expr_any (bF (he pins s σ H _ I h) fun v s1 ⟨x, H1, I1, r1, q1⟩ => ⟨σ, H1, I1, q1⟩) I.quiet hs
def Eg (te : TE) : TS := fun D σ H => te σ H D.rt
theorem aN (he : PE X e te) : PS X (.Return (some e) pos) (Eg te) := by
 intro pins s σ H D I h
 exact wpAny_Return_some (bF (he pins s σ H _ I h) fun v s1 ⟨x, H1, I1, r1, q1⟩ => ⟨x, σ, H1, I1, r1, q1⟩)
def Dz (c : TT) (t u : TS) : TS := fun D σ H => c σ H fun b H1 => if b = true then t D σ H1 else u D σ H1
theorem fA {c : Expr} {a b : List Stmt} {tc : TT} (hc : PT X c tc) (ha : oq X a t) (hb : oq X b u) : PS X (.If c a b pos) (Dz tc t u) := by
 intro pins s σ H D I h
 refine wpAny_If (bF (hc pins s σ H _ I h) fun d s1 ⟨H1, I1, q1⟩ => ?_)
 cases d with
 | true => exact ha pins s1 σ H1 D I1 q1
 | false => exact hb pins s1 σ H1 D I1 q1
end
abbrev TG := V -> St -> Hp -> (St -> Hp -> Prop) -> Prop
abbrev tX := List V -> St -> Hp -> (St -> Hp -> Prop) -> Prop
def PG (X : Cx) (target : Expr) (t : TG) : Prop :=
 ∀ (pins : List (Addr × Obj)) (s : Shared) (σ : St) (H : Hp) (v : V) (u : Value) (Q : St -> Hp -> Prop), Inv X pins σ H s -> RelV v u -> t v σ H Q ->
   wpAny (model X.prog X.w) X.A (assign target X.env u) (fun _ s' => ∃ σ' H', Inv X pins σ' H' s' /\ Q σ' H') X.xe s
def Es (X : Cx) (ts : List Expr) (t : tX) : Prop :=
 ∀ (pins : List (Addr × Obj)) (s : Shared) (σ : St) (H : Hp) (vs : List V) (us : List Value) (Q : St -> Hp -> Prop), Inv X pins σ H s -> Vals vs us -> t vs σ H Q ->
   wpAny (model X.prog X.w) X.A (assignInOrder ((assignEach ts X.env).map (·.2)) us) (fun _ s' => ∃ σ' H', Inv X pins σ' H' s' /\ Q σ' H') X.xe s
abbrev wH := V -> V -> V -> Hp -> (Hp -> Prop) -> Prop
def CF (X : Cx) (t : wH) : Prop :=
 ∀ (pins : List (Addr × Obj)) (s : Shared) (σ : St) (H : Hp) (o i v : V) (ov iv u : Value) (Q : Hp -> Prop), Inv X pins σ H s -> RelV o ov -> RelV i iv -> RelV v u -> t o i v H Q ->
   wpAny (model X.prog X.w) X.A (setItem ov iv u) (fun _ s' => ∃ H', Inv X pins σ H' s' /\ Q H') X.xe s
section
variable {X : Cx} {pos : Pos}
def bT (i : Nat) : TG := fun v σ H Q => Q (σ.set i (some v)) H
theorem ak {i : Nat} {x : Str} (hN : X.N.Nodup) (hi : X.N[i]? = some x) (hx : Loc X.env.scope x) (hf : X.fn x = true \/ X.env.scope.names.lookup x = some .local := by first | exact .inl rfl | exact .inr rfl | assumption) : PG X (.Name x pos) (bT i) := by
 intro pins s σ H v u Q I r h
 exact wpAny_assign_Name (mX I hN hi hx r (fun s' I' => ⟨_, H, I', h⟩) hf)
def nK : tX := fun vs σ H Q => vs = [] /\ Q σ H
def cO (t : TG) (u : tX) : tX := fun vs σ H Q => ∃ v r, vs = v :: r /\ t v σ H fun σ' H' => u r σ' H' Q
theorem bO : Es X [] nK := by
 intro pins s σ H vs us Q I r h
 obtain ⟨e, h⟩ := h
 subst e
 cases r
 exact assignInOrder_nil ⟨σ, H, I, h⟩
theorem ao {e : Expr} {es : List Expr} {t : TG} {u : tX} (h1 : PG X e t) (h2 : Es X es u)
 (hs : (assignEach (e :: es) X.env).map (·.2) = assign e X.env :: (assignEach es X.env).map (·.2) := by rfl) : Es X (e :: es) (cO t u) := by
 intro pins s σ H vs us Q I r h
 obtain ⟨v, vr, e1, h⟩ := h
 subst e1
 cases r with
 | cons r rr =>
   rw [hs]
   refine assignInOrder_cons (bF (h1 pins s σ H _ _ _ I r h) fun _ s1 ⟨σ1, H1, I1, q1⟩ => ?_)
   exact h2 pins s1 σ1 H1 _ _ Q I1 rr q1
def lV (K : PySem.W.Frag) (n : Nat) (t : tX) : TG := fun v σ H Q => ∃ a xs, v = .ref a /\ nD K H a xs /\ xs.length = n /\ t xs σ H Q
theorem eE {es : List Expr} {k : Nat} {t : tX} {n : Nat} (hc : X.calm = true) (h : Es X es t)
 (hn : (assignEach es X.env).length = n := by rfl) (DC : (assignEach es X.env).findIdx? (·.1) = none := by rfl) : PG X (.Tuple es k pos) (lV X.K n t) := by
 intro pins s σ H v u Q I r hw
 obtain ⟨a, xs, e1, hq, hl, hw⟩ := hw
 subst e1
 cases r
 obtain ⟨az, rv, ht, hz⟩ := I.tuple hq
 refine assign_Tuple_tuple (I.ok.hd hc) ht (by simp [hn, <- hl, rv.length]) DC fun h' hx => ?_
 have I1 : Inv X pins σ H { s with heap := h' } := I.kept (t' := s.toks) fun b o e => hx b o (Nat.ne_of_lt (Heap.lt_size e)) e
 exact h pins _ σ H xs _ Q I1 (by simpa using rv) hw
def DX (to ti : TE) (t : wH) : TG := fun v σ H Q => to σ H fun o H1 => ti σ H1 fun i H2 => t o i v H2 fun H3 => Q σ H3
theorem AZ {o i : Expr} {to ti : TE} {t : wH} (ho : PE X o to) (hi : PE X i ti) (hs : CF X t)
 (ha : ∀ v, assign (.Subscript o i pos) X.env v = (do
  let ov <- holding [v] (eval o X.env)
  let iv <- holding [v, ov] (eval i X.env)
  standAt pos
  holding [v, ov, iv] (setItem ov iv v)
  release [v, ov, iv] []) := by intro _; rfl) : PG X (.Subscript o i pos) (DX to ti t) := by
 intro pins s σ H v u Q I r h
 rw [ha]
 refine wpAny_bind (wpAny_holding (bF (ho pins s σ H _ I h) fun ov s1 ⟨x, H1, I1, r1, q1⟩ => ?_))
 refine wpAny_bind (wpAny_holding (bF (hi pins s1 σ H1 _ I1 q1) fun iv s2 ⟨y, H2, I2, r2, q2⟩ => ?_))
 refine wpAny_bind (wpAny_standAt (wpAny_bind (wpAny_holding (bF (hs pins s2 σ H2 x y v ov iv u _ I2 r1 r2 r q2) fun _ s3 ⟨H3, I3, q3⟩ => ?_))))
 exact wpAny_release ⟨σ, H3, I3, q3⟩
def se (te : TE) (g : TG) : TS := fun D σ H => te σ H fun x H1 => g x σ H1 D.nx
theorem u9 {tg e : Expr} {te : TE} {g : TG} (he : PE X e te) (hg : PG X tg g) (hs : swapsWithSole [tg] e pos.line X.env = pure false := by rfl) (hw : swappedStores [tg] e X.env = pure none := by rfl)
 (h1 : (assignEach [tg] X.env).map (·.2) = [assign tg X.env] := by rfl) : PS X (.Assign [tg] e pos) (se te g) := by
 intro pins s σ H D I h
 refine wpAny_Assign_stores (bF (he pins s σ H _ I h) fun v s1 ⟨x, H1, I1, r1, q1⟩ => ?_) hs hw
 rw [h1]
 exact bF (hg pins s1 σ H1 x v _ I1 r1 q1) fun _ s2 q => q
theorem av {i : Nat} {x : Str} {e : Expr} {te : TE} {pos' : Pos} (hN : X.N.Nodup) (hi : X.N[i]? = some x) (hx : Loc X.env.scope x) (he : PE X e te) (hs : swapsWith e (some (.Name x pos')) pos.line X.env = pure false := by rfl) (hf : X.fn x = true \/ X.env.scope.names.lookup x = some .local := by first | exact .inl rfl | exact .inr rfl | assumption) :
 PS X (.Assign [.Name x pos'] e pos) (se te (bT i)) := by
 intro pins s σ H D I h
 refine wpAny_Assign_Name (bF (he pins s σ H _ I h) fun v s1 ⟨y, H1, I1, r1, q1⟩ => ?_) hs
 exact mX I1 hN hi hx r1 (fun s2 I2 => ⟨_, H1, I2, q1⟩) hf
end
section
variable {X : Cx} {pos : Pos}
def uR (c : TT) (tb : TS) : TS := fun D σ H => ∃ W : Nat -> St -> Hp -> Prop, (∃ m, W m σ H) /\ ∀ m σ H, W m σ H ->
 c σ H fun b H1 => if b = true then ∃ N : St -> Hp -> Prop, (∀ σ' H', N σ' H' -> ∃ m', m' < m /\ W m' σ' H') /\ tb { D with nx := N, ct := N, bk := D.nx } σ H1 else D.nx σ H1
theorem nP {c : Expr} {body : List Stmt} {tc : TT} {tb : TS} (hp : PassesOwn (model X.prog X.w) X.A X.env X.xe) (hc : PT X c tc) (hb : oq X body tb) : PS X (.While c body [] pos) (uR tc tb) := by
 intro pins s σ H D I h
 obtain ⟨W, ⟨m0, w0⟩, turn⟩ := h
 refine wpAny_While (codeAny_whileLoop (fun n s' => ∃ σ' H', Inv X pins σ' H' s' /\ W n σ' H') ?_ m0 ⟨σ, H, I, w0⟩)
 rintro n s1 ⟨σ1, H1, I1, w1⟩
 refine wpAny_passesOwn hp (bF (hc pins s1 σ1 H1 _ I1 (turn n σ1 H1 w1)) fun b s2 ⟨H2, I2, q2⟩ => ?_)
 cases b with
 | true =>
   obtain ⟨N, hN, q2⟩ := q2
   rw [if_pos rfl]
   refine wpAny_passesOwn hp (bF (hb pins s2 σ1 H2 _ I2 q2) fun f s3 q3 => ?_)
   cases f with
   | next =>
     obtain ⟨σ3, H3, I3, n3⟩ := q3
     obtain ⟨m', hm, w3⟩ := hN σ3 H3 n3
     exact ⟨m', hm, σ3, H3, I3, w3⟩
   | cont =>
     obtain ⟨σ3, H3, I3, n3⟩ := q3
     obtain ⟨m', hm, w3⟩ := hN σ3 H3 n3
     exact ⟨m', hm, σ3, H3, I3, w3⟩
   | brk => exact q3
   | ret v => exact q3
 | false =>
   rw [if_neg Bool.false_ne_true]
   exact wpAny_execs_nil ⟨σ1, H2, I2, q2⟩
end
structure It where
 go : Nat -> Hp -> Prop
 xm : Nat -> Hp -> V -> Hp -> Prop
 stop : Nat -> Hp -> Prop
def cq (X : Cx) (pins : List (Addr × Obj)) (H : Hp) (b : Addr) : Prop :=
 H b = none /\ b ≠ X.env.locals /\ b ∉ X.fs /\ (b ∈ X.ex \/ X.cn.heap.objs.size <= b) /\ (∀ x c, X.env.cells.lookup x = some c -> c ≠ b) /\ ∀ p ∈ X.pn ++ pins, p.1 ≠ b
theorem Inv.j7 {X : Cx} {pins : List (Addr × Obj)} {σ : St} {H H' : Hp} {s : Shared} {b : Addr} (I : Inv X pins σ H s) (hb : s.heap.objs.size <= b) (hn : H' b = none) : cq X pins H' b := by
 refine ⟨hn, Nat.ne_of_gt (Nat.lt_of_lt_of_le I.lt hb), I.Hy hb, .inr (Nat.le_trans I.sz hb), fun x c e z => ?_, fun p hp z => ?_⟩
 . obtain ⟨v, q⟩ := I.cell x c e
   exact absurd (Nat.lt_of_lt_of_le q.lt (by rw [z]; exact hb)) (Nat.lt_irrefl _)
 . exact absurd (Nat.lt_of_lt_of_le (Heap.lt_size (I.pin p hp).1) (by rw [z]; exact hb)) (Nat.lt_irrefl _)
structure Turn (P : Program) (w : World) (K : PySem.W.Frag) (tg : Expr) (J : It) (fp : List Addr) (it : Addr) (tn : Nat -> Heap -> Prop) : Prop where
 mem : it ∈ fp
 obj : ∀ i h, tn i h -> ∀ b ∈ fp, ∃ o, h.get? b = some o /\ ∀ v, o.data ≠ .cell v
 keep : ∀ i h h', tn i h -> (∀ b ∈ fp, ∀ o, h.get? b = some o -> h'.get? b = some o) -> tn i h'
 item : ∀ (X : Cx), X.prog = P -> X.w = w -> X.K = K -> X.calm = true -> ∀ (i : Nat) (pins : List (Addr × Obj)) (s : Shared) (σ : St) (H : Hp) (E : Value -> Shared -> Prop), Inv X pins σ H s -> (∀ b ∈ fp, cq X pins H b) -> tn i s.heap -> J.go i H ->
  wpAny (model P w) X.A (pyNext (.ref it)) (fun r s1 => ∃ u, r = some u /\
   wpAny (model P w) X.A (letOwnedTupleGo tg (.ref it) u) (fun _ s2 => ∃ x H', Inv X pins σ H' s2 /\ RelV x u /\ J.xm i H x H' /\ tn (i + 1) s2.heap /\ ∀ b ∈ fp, H' b = none) E s1) E s
 done : ∀ (X : Cx), X.prog = P -> X.w = w -> X.K = K -> X.calm = true -> ∀ (i : Nat) (pins : List (Addr × Obj)) (s : Shared) (σ : St) (H : Hp) (E : Value -> Shared -> Prop), Inv X pins σ H s -> (∀ b ∈ fp, cq X pins H b) -> tn i s.heap -> J.stop i H ->
  wpAny (model P w) X.A (pyNext (.ref it)) (fun r s1 => r = none /\ Inv X pins σ H s1) E s
 self : ∀ (A : Around) (i : Nat) (s : Shared) (Q : Value -> Shared -> Prop) (E : Value -> Shared -> Prop), tn i s.heap -> Q (.ref it) s -> wpAny (model P w) A (pyIter (.ref it)) Q E s
abbrev TI := St -> Hp -> (It -> Hp -> Prop) -> Prop
def IY (X : Cx) (pins : List (Addr × Obj)) (σ : St) (tg : Expr) (R : It -> Hp -> Prop) (Fe : Value) (s2 : Shared) : Prop :=
 ∃ (it : Addr) (fp : List Addr) (tn : Nat -> Heap -> Prop) (J : It) (H' : Hp), Fe = .ref it /\ Inv X pins σ H' s2 /\ Turn X.prog X.w X.K tg J fp it tn /\ tn 0 s2.heap /\ (∀ b ∈ fp, cq X pins H' b) /\ R J H'
def PI (X : Cx) (tg iter : Expr) (wi : TI) : Prop :=
 ∀ (pins : List (Addr × Obj)) (s : Shared) (σ : St) (H : Hp) (R : It -> Hp -> Prop), Inv X pins σ H s -> wi σ H R ->
   wpAny (model X.prog X.w) X.A (eval iter X.env) (fun v s1 => wpAny (model X.prog X.w) X.A (pyIter v) (IY X pins σ tg R) X.xe s1) X.xe s
theorem y8 {M : Model} {A : Around} {E : Value -> Shared -> Prop} {s : Shared} {tg : Expr} {it : Addr} {u : Value} {o : Obj} {n : String} {vs : Array Value} {Q : Unit -> Shared -> Prop} (ho : s.heap.get? it = some o) (hc : o.cls = .type n) (hd : o.data = .fields vs)
 (hn : ["enumerate", "zip", "dict_itemiterator", "dict_reverseitemiterator", "odict_iterator", "itertools.zip_longest", "itertools.pairwise"].contains n = false) (hQ : Q () s) : wpAny M A (letOwnedTupleGo tg (.ref it) u) Q E s := by
 unfold letOwnedTupleGo
 cases tg <;> first
  | exact wpAny_pure hQ
  | (cases u <;> first
   | exact wpAny_pure hQ
   | (refine wpAny_bind (wpAny_load ho ?_)
      rw [hc, hd]
      show wpAny M A (if (["enumerate", "zip", "dict_itemiterator", "dict_reverseitemiterator", "odict_iterator", "itertools.zip_longest", "itertools.pairwise"].contains n && vs[0]? == some (rawInt _)) = true then _ else _) Q E s
      rw [if_neg (by intro h; rw [hn, Bool.false_and] at h; cases h)]
      exact wpAny_pure hQ))
def vZ (K : PySem.W.Frag) (a : Addr) : It :=
 ⟨fun i H => ∃ xs x, bp K H a xs /\ xs[i]? = some x, fun i H x H' => H' = H /\ ∀ xs, bp K H a xs -> xs[i]? = some x, fun i H => ∃ xs, bp K H a xs /\ xs.length <= i⟩
def yp (lo : Int) (n : Nat) : It := ⟨fun i _ => i < n, fun i H x H' => H' = H /\ x = .int (lo + i), fun i _ => n <= i⟩
theorem rB {P : Program} {w : World} {K : PySem.W.Frag} {tg : Expr} (a it : Addr) : Turn P w K tg (vZ K a) [it] it (fun i h => h.IsListIter it a i) where
 mem := by simp
 obj := fun i h st b hb => by
  have e : b = it := by simpa using hb
  subst e
  obtain ⟨o, e, c, d⟩ := st
  exact ⟨o, e, fun v z => by rw [d] at z; cases z⟩
 keep := fun i h h' st k => st.at fun o e => k it (by simp) o e
 item := by
  intro X hP hw hK hc i pins s σ H E I hf st hg
  subst hP hw hK
  obtain ⟨xs, x, hq, hx⟩ := hg
  obtain ⟨az, rv, p, hz⟩ := I.list hq
  obtain ⟨u, hu, ru⟩ := rv.get hx
  obtain ⟨f0, f1, f2, f3, f4, f5⟩ := hf it (by simp)
  refine wpAny_pyNext_list_item st p.isList (x := u) (by simpa using hu) fun h' vY sb => ?_
  have I1 : Inv X pins σ H { s with heap := h' } := I.turned (t' := s.toks) (fun b o hb e => (sb.2 b hb).trans e) f0 f1 f3 f4 f5
  obtain ⟨o, e, c, d⟩ := id vY
  exact ⟨u, rfl, y8 (s := { s with heap := h' }) e c d (by decide) ⟨x, H, I1, ru, ⟨rfl, fun ys hy => by rw [I.iB hy hq]; exact hx⟩, vY, fun b hb => (hf b hb).1⟩⟩
 done := by
  intro X hP hw hK hc i pins s σ H E I hf st hg
  subst hP hw hK
  obtain ⟨xs, hq, hx⟩ := hg
  obtain ⟨az, rv, p, hz⟩ := I.list hq
  obtain ⟨f0, f1, f2, f3, f4, f5⟩ := hf it (by simp)
  have hl := rv.length
  exact wpAny_pyNext_list_end (I.ok.hd hc) st p.isList (by simp; omega) fun h' eb => ⟨rfl, I.turned (t' := s.toks) (fun b o hb e => eb b o hb e) f0 f1 f3 f4 f5⟩
 self := fun _ _ _ _ _ st h => wpAny_pyIter_listiter st h
theorem pH {P : Program} {w : World} {K : PySem.W.Frag} {tg : Expr} (it : Addr) (lo : Int) (n : Nat) : Turn P w K tg (yp lo n) [it] it (fun i h => IsRangeIter h it (lo + (i : Nat) * 1) ((n : Int) - (i : Nat)) 1) where
 mem := by simp
 obj := fun i h st b hb => by
  have e : b = it := by simpa using hb
  subst e
  exact ⟨_, st, fun v z => by
   have z' : Data.fields _ = Data.cell v := z
   cases z'⟩
 keep := fun i h h' st k => k it (by simp) _ st
 item := by
  intro X hP hw hK hc i pins s σ H E I hf st hg
  subst hP hw hK
  obtain ⟨f0, f1, f2, f3, f4, f5⟩ := hf it (by simp)
  have W := Walks.range (prog := X.prog) (w := X.w) (I.ok.hd hc) it lo 1 n
  refine W.item i s _ _ hg st fun v h' tk hv vY kk => ?_
  obtain ⟨t, rfl⟩ := hv
  have I1 : Inv X pins σ H { s with heap := h', toks := tk } := I.turned (fun b o hb e => kk b o (by simpa using hb) e) f0 f1 f3 f4 f5
  refine ⟨_, rfl, y8 (s := { s with heap := h', toks := tk }) (n := "range_iterator") vY rfl rfl (by decide) ⟨.int (lo + i), H, I1, ⟨t, ?_⟩, ⟨rfl, rfl⟩, vY, fun b hb => (hf b hb).1⟩⟩
  rw [Int.mul_one]
 done := by
  intro X hP hw hK hc i pins s σ H E I hf st hg
  subst hP hw hK
  obtain ⟨f0, f1, f2, f3, f4, f5⟩ := hf it (by simp)
  exact wpAny_pyNext_range_end (I.ok.hd hc) st (by have : n <= i := hg; omega) fun h' eb => ⟨rfl, I.turned (t' := s.toks) (fun b o hb e => eb b o hb e) f0 f1 f3 f4 f5⟩
 self := fun _ _ _ _ _ st h => wpAny_pyIter_rangeiter st h
section
variable {X : Cx} {tg : Expr}
def vp (K : PySem.W.Frag) (tl : TE) : TI := fun σ H R => tl σ H fun x H1 => ∃ a, x = .ref a /\ (∃ xs, bp K H1 a xs) /\ R (vZ K a) H1
theorem bx {l : Expr} {tl : TE} (hl : PE X l tl) : PI X tg l (vp X.K tl) := by
 intro pins s σ H R I h
 refine bF (hl pins s σ H _ I h) fun v s1 ⟨x, H1, I1, r1, q1⟩ => ?_
 obtain ⟨a, e, ⟨xs, hq⟩, q⟩ := q1
 subst e
 cases r1
 obtain ⟨az, rv, p, hz⟩ := I1.list hq
 refine wpAny_pyIter_list p.isList ?_
 refine ⟨s1.heap.objs.size, [s1.heap.objs.size], _, _, H1, rfl, I1.kept (t' := s1.toks) fun b o e => Heap.get?_push_of_some _ e, rB a _, ⟨_, Heap.get?_push_size _ rfl, rfl, rfl⟩, fun b hb => ?_, q⟩
 have e : b = s1.heap.objs.size := by simpa using hb
 subst e
 exact I1.j7 (Nat.le_refl _) (I1.aI.fresh (Nat.le_refl _))
theorem tL {pins : List (Addr × Obj)} {σ : St} {H : Hp} {s : Shared} {R : It -> Hp -> Prop} {E : Value -> Shared -> Prop} {lo hi : Int} {t u v : Tok} {tk : Nat} (I : Inv X pins σ H s) (h1 : -(2 ^ 62) <= lo) (h2 : lo < 2 ^ 62) (h3 : -(2 ^ 62) <= hi) (h4 : hi < 2 ^ 62)
 (q : R (yp lo (hi - lo).toNat) H) : wpAny (model X.prog X.w) X.A (pyIter (.ref s.heap.objs.size)) (IY X pins σ tg R) E { s with heap := s.heap.push { cls := .type "range", data := .fields #[.int lo t, .int hi u, .int 1 v] }, toks := tk } := by
 refine wpAny_pyIter_range (IsRange.new ..) (small_one h1 h2 h3 h4) ?_
 have I1 : Inv X pins σ H { s with heap := s.heap.push { cls := .type "range", data := .fields #[.int lo t, .int hi u, .int 1 v] }, toks := tk } := I.kept fun b o e => Heap.get?_push_of_some _ e
 refine ⟨(s.heap.push { cls := .type "range", data := .fields #[.int lo t, .int hi u, .int 1 v] }).objs.size, [(s.heap.push { cls := .type "range", data := .fields #[.int lo t, .int hi u, .int 1 v] }).objs.size], _, _, H, rfl,
  I1.kept (t' := tk) fun b o e => Heap.get?_push_of_some _ e, pH _ lo (hi - lo).toNat, ?_, fun b hb => ?_, q⟩
 . have e1 : lo + ((0 : Nat) : Int) * 1 = lo := by simp
   have e2 : (((hi - lo).toNat : Nat) : Int) - ((0 : Nat) : Int) = Builtin.Range.rangeSize lo hi 1 := by rw [rangeSize_one]; split <;> omega
   show IsRangeIter _ _ (lo + ((0 : Nat) : Int) * 1) ((((hi - lo).toNat : Nat) : Int) - ((0 : Nat) : Int)) 1
   rw [e1, e2]
   exact Heap.get?_push_size _ rfl
 . have e : b = (s.heap.push { cls := .type "range", data := .fields #[.int lo t, .int hi u, .int 1 v] }).objs.size := by simpa using hb
   subst e
   exact I1.j7 (Nat.le_refl _) (I1.aI.fresh (Nat.le_refl _))
def yT (ta : TA) : TI := fun σ H R => ta σ H fun vs H1 => ∃ j : Int, vs = [.int j] /\ -(2 ^ 62) <= j /\ j < 2 ^ 62 /\ R (yp 0 j.toNat) H1
theorem kL {a : Expr} {ta : TA} {p pos : Pos} (hg : Gl X "range") (hm : X.mg "range" = none) (ha : PA X [a] ta) (hs : starEach [a] X.env = [(false, eval a X.env)] := by rfl) : PI X tg (.Call (.Name "range" p) [a] [] pos) (yT ta) := by
 intro pins s σ H R I h
 refine Call_ (eB I hg hm boot_range (PyProof.Rows.callWith_type1 (bF (ha pos pins s σ H _ I h) fun us s1 ⟨vs, H1, I1, r1, q1⟩ => ?_) hs rfl))
 obtain ⟨j, e, q1, q2, q⟩ := q1
 subst e
 cases r1 with
 | cons r rr =>
   cases rr
   obtain ⟨t, rfl⟩ := r
   exact call_range_1 (tL I1 (by omega) (by omega) q1 q2 (by simpa using q))
def tB (wi : TI) (g : TG) (tb : TS) : TS := fun D σ H => wi σ H fun J H1 => ∃ W : Nat -> Nat -> St -> Hp -> Prop, (∃ m, W 0 m σ H1) /\ ∀ i m σ H, W i m σ H ->
 (J.stop i H /\ D.nx σ H) \/ (J.go i H /\ ∃ N : St -> Hp -> Prop, (∀ σ' H', N σ' H' -> ∃ m', m' < m /\ W (i + 1) m' σ' H') /\ ∀ x H', J.xm i H x H' -> g x σ H' fun σ2 H2 => tb { D with nx := N, ct := N, bk := D.nx } σ2 H2)
def jG (fp : List Addr) (h : Heap) : List (Addr × Obj) := fp.filterMap fun b => (h.get? b).map fun o => (b, o)
theorem d8 {fp : List Addr} {h : Heap} {b : Addr} {o : Obj} (hb : b ∈ fp) (e : h.get? b = some o) : (b, o) ∈ jG fp h := List.mem_filterMap.mpr ⟨b, hb, by rw [e]; rfl⟩
theorem q8 {fp : List Addr} {h : Heap} {p : Addr × Obj} (hp : p ∈ jG fp h) : p.1 ∈ fp /\ h.get? p.1 = some p.2 := by
 obtain ⟨b, hb, e⟩ := List.mem_filterMap.mp hp
 cases q : h.get? b with
 | none => rw [q] at e; cases e
 | some o =>
   rw [q] at e
   have e' : (b, o) = p := Option.some.inj e
   subst e'
   exact ⟨hb, q⟩
theorem Inv.pinned {pins : List (Addr × Obj)} {σ : St} {H : Hp} {s : Shared} {fp : List Addr} (I : Inv X pins σ H s) (hf : ∀ b ∈ fp, cq X pins H b) (ho : ∀ b ∈ fp, ∃ o, s.heap.get? b = some o /\ ∀ v, o.data ≠ .cell v) : Inv X (pins ++ jG fp s.heap) σ H s :=
 I.fV fun p hp => (List.mem_append.mp hp).elim (fun z => I.pin p (List.mem_append_right _ z)) fun z => by
  obtain ⟨hb, e⟩ := q8 z
  obtain ⟨f0, f1, f2, _⟩ := hf p.1 hb
  obtain ⟨o, e', d⟩ := ho p.1 hb
  rw [e] at e'; cases e'
  exact ⟨e, f0, f1, f2, d⟩
theorem Inv.g5 {pins pl : List (Addr × Obj)} {σ : St} {H : Hp} {s : Shared} (I : Inv X (pins ++ pl) σ H s) : Inv X pins σ H s := I.fV fun p hp => I.pin p (List.mem_append_right _ (List.mem_append_left _ hp))
theorem dq {iter : Expr} {body : List Stmt} {wi : TI} {g : TG} {tb : TS} {pos : Pos} (hp : PassesOwn (model X.prog X.w) X.A X.env X.xe) (hc : X.calm = true) (hi : PI X tg iter wi) (hg : PG X tg g) (hb : oq X body tb)
 (hs : ∀ x, foldedSetIterable iter X.env x = pure x := by intro _; rfl) : PS X (.For tg iter body [] pos) (tB wi g tb) := by
 intro pins s σ H D I h
 refine wpAny_For (bF (hi pins s σ H _ I h) fun v s1 h1 => bF h1 fun Fe s2 h2 => ?_) hs
 obtain ⟨it, fp, tn, J, H2, e, I2, T, Kc, f2, W, ⟨m0, w0⟩, turn⟩ := h2
 subst e
 have stat : ∀ {H' : Hp}, (∀ b ∈ fp, H' b = none) -> ∀ b ∈ fp, cq X pins H' b := fun hn b hb => ⟨hn b hb, (f2 b hb).2⟩
 refine codeAny_forLoop_any (fun n s' => ∃ i σ' H', Inv X pins σ' H' s' /\ tn i s'.heap /\ (∀ b ∈ fp, H' b = none) /\ W i n σ' H') ?_ m0 ⟨0, σ, H2, I2, Kc, fun b hb => (f2 b hb).1, w0⟩
 rintro n s3 ⟨i, σ3, H3, I3, CN, CD, w3⟩
 rcases turn i n σ3 H3 w3 with ⟨stop, qn⟩ | ⟨go, N, hN, step⟩
 . refine wpAny_passesOwn hp (bF (T.done X rfl rfl rfl hc i pins s3 σ3 H3 X.xe I3 (stat CD) CN stop) fun r s4 ⟨hr, I4⟩ => ?_)
   subst hr
   exact wpAny_execs_nil ⟨σ3, H3, I4, qn⟩
 . refine wpAny_passesOwn hp (bF (T.item X rfl rfl rfl hc i pins s3 σ3 H3 X.xe I3 (stat CD) CN go) fun r s4 ⟨u, hr, h4⟩ => ?_)
   subst hr
   refine wpAny_passesOwn hp (bF h4 fun _ s5 ⟨x, H5, I5, r5, y5, Bm, Hd⟩ => ?_)
   have G4 := I5.pinned (stat Hd) (T.obj _ _ Bm)
   refine wpAny_passesOwn hp (bF (hg _ s5 σ3 H5 x u _ G4 r5 (step x H5 y5)) fun _ s6 ⟨σ6, H6, I6, q6⟩ => ?_)
   refine wpAny_passesOwn hp (bF (hb _ s6 σ6 H6 _ I6 q6) fun f s7 q7 => ?_)
   have again : ∀ {σ7 : St} {H7 : Hp}, Inv X (pins ++ jG fp s5.heap) σ7 H7 s7 -> N σ7 H7 -> ∃ m, m < n /\ ∃ i σ' H', Inv X pins σ' H' s7 /\ tn i s7.heap /\ (∀ b ∈ fp, H' b = none) /\ W i m σ' H' := fun {σ7 H7} I7 n7 => by
    obtain ⟨m', hm, w7⟩ := hN σ7 H7 n7
    refine ⟨m', hm, i + 1, σ7, H7, I7.g5, T.keep _ _ _ Bm fun b hb o e => (I7.pin (b, o) (List.mem_append_right _ (List.mem_append_right _ (d8 hb e)))).1, fun b hb => ?_, w7⟩
    obtain ⟨o, e, d⟩ := T.obj _ _ Bm b hb
    exact (I7.pin (b, o) (List.mem_append_right _ (List.mem_append_right _ (d8 hb e)))).2.1
   cases f with
   | next => obtain ⟨σ7, H7, I7, n7⟩ := q7; exact again I7 n7
   | cont => obtain ⟨σ7, H7, I7, n7⟩ := q7; exact again I7 n7
   | brk => obtain ⟨σ7, H7, I7, q7⟩ := q7; exact ⟨σ7, H7, I7.g5, q7⟩
   | ret v => obtain ⟨x7, σ7, H7, I7, r7, q7⟩ := q7; exact ⟨x7, σ7, H7, I7.g5, r7, q7⟩
end
theorem vH {K : PySem.W.Frag} {a : Addr} {xs : List V} {g : TG} {tb : TS} {D : Ends} {σ : St} {H : Hp} (Pv : Nat -> St -> Hp -> Prop) (h0 : Pv 0 σ H) (hl : ∀ i σ H, i <= xs.length -> Pv i σ H -> bp K H a xs)
 (hs : ∀ i x σ H, xs[i]? = some x -> Pv i σ H -> g x σ H fun σ2 H2 => tb { D with nx := Pv (i + 1), ct := Pv (i + 1), bk := D.nx } σ2 H2) (hd : ∀ σ H, Pv xs.length σ H -> D.nx σ H) :
 ∃ W : Nat -> Nat -> St -> Hp -> Prop, (∃ m, W 0 m σ H) /\ ∀ i m σ H, W i m σ H ->
   ((vZ K a).stop i H /\ D.nx σ H) \/ ((vZ K a).go i H /\ ∃ N : St -> Hp -> Prop, (∀ σ' H', N σ' H' -> ∃ m', m' < m /\ W (i + 1) m' σ' H') /\ ∀ x H', (vZ K a).xm i H x H' -> g x σ H' fun σ2 H2 => tb { D with nx := N, ct := N, bk := D.nx } σ2 H2) := by
 refine ⟨fun i m σ H => m = xs.length - i /\ i <= xs.length /\ Pv i σ H, ⟨xs.length, by simp, Nat.zero_le _, h0⟩, ?_⟩
 rintro i m σ H ⟨rfl, hi, p⟩
 have q := hl i σ H hi p
 by_cases ck : i < xs.length
 . refine .inr ⟨⟨xs, xs[i], q, by simp [ck]⟩, Pv (i + 1), fun σ' H' p' => ⟨xs.length - (i + 1), by omega, rfl, ck, p'⟩, fun x H' y => ?_⟩
   obtain ⟨e, y⟩ := y
   subst e
   exact hs i x σ _ (y xs q) p
 . have e : i = xs.length := by omega
   subst e
   exact .inl ⟨⟨xs, q, Nat.le_refl _⟩, hd σ H p⟩
theorem lG {lo : Int} {n : Nat} {g : TG} {tb : TS} {D : Ends} {σ : St} {H : Hp} (Pv : Nat -> St -> Hp -> Prop) (h0 : Pv 0 σ H)
 (hs : ∀ i σ H, i < n -> Pv i σ H -> g (.int (lo + i)) σ H fun σ2 H2 => tb { D with nx := Pv (i + 1), ct := Pv (i + 1), bk := D.nx } σ2 H2) (hd : ∀ σ H, Pv n σ H -> D.nx σ H) :
 ∃ W : Nat -> Nat -> St -> Hp -> Prop, (∃ m, W 0 m σ H) /\ ∀ i m σ H, W i m σ H ->
   ((yp lo n).stop i H /\ D.nx σ H) \/ ((yp lo n).go i H /\ ∃ N : St -> Hp -> Prop, (∀ σ' H', N σ' H' -> ∃ m', m' < m /\ W (i + 1) m' σ' H') /\ ∀ x H', (yp lo n).xm i H x H' -> g x σ H' fun σ2 H2 => tb { D with nx := N, ct := N, bk := D.nx } σ2 H2) := by
 refine ⟨fun i m σ H => m = n - i /\ i <= n /\ Pv i σ H, ⟨n, by simp, Nat.zero_le _, h0⟩, ?_⟩
 rintro i m σ H ⟨rfl, hi, p⟩
 by_cases ck : i < n
 . refine .inr ⟨ck, Pv (i + 1), fun σ' H' p' => ⟨n - (i + 1), by omega, rfl, ck, p'⟩, fun x H' y => ?_⟩
   obtain ⟨e, y⟩ := y
   subst e y
   exact hs i σ _ ck p
 . have e : i = n := by omega
   subst e
   exact .inl ⟨Nat.le_refl _, hd σ H p⟩
abbrev R2 := V -> V -> Hp -> VK -> Prop
def gu (X : Cx) (f : Value -> Value -> Sem Value) (r : R2) : Prop :=
 ∀ (pins : List (Addr × Obj)) (s : Shared) (σ : St) (H : Hp) (x y : V) (v u : Value) (Q : VK), Inv X pins σ H s -> RelV x v -> RelV y u -> r x y H Q ->
   wpAny (model X.prog X.w) X.A (f v u) (EP X pins σ Q) X.xe s
def HY (X : Cx) (f : Value -> Sem Value) (r : V -> Hp -> VK -> Prop) : Prop :=
 ∀ (pins : List (Addr × Obj)) (s : Shared) (σ : St) (H : Hp) (x : V) (v : Value) (Q : VK), Inv X pins σ H s -> RelV x v -> r x H Q ->
   wpAny (model X.prog X.w) X.A (f v) (EP X pins σ Q) X.xe s
def dh (X : Cx) (f : Value) (r : List V -> Hp -> VK -> Prop) : Prop :=
 ∀ (pins : List (Addr × Obj)) (s : Shared) (σ : St) (H : Hp) (xs : List V) (us : List Value) (Q : VK), Inv X pins σ H s -> Vals xs us -> r xs H Q ->
   wpAny (model X.prog X.w) X.A (call f us) (EP X pins σ Q) X.xe s
def GK (X : Cx) (r : V -> Hp -> (Bool -> Hp -> Prop) -> Prop) : Prop :=
 ∀ (pins : List (Addr × Obj)) (s : Shared) (σ : St) (H : Hp) (x : V) (v : Value) (Q : Bool -> Hp -> Prop), Inv X pins σ H s -> RelV x v -> r x H Q ->
   wpAny (model X.prog X.w) X.A (truthy v) (TP X pins σ Q) X.xe s
def D3 (r : R2) (ta tb : TE) : TE := fun σ H Q => ta σ H fun x H1 => tb σ H1 fun y H2 => r x y H2 Q
def JA (r : V -> Hp -> VK -> Prop) (ta : TE) : TE := fun σ H Q => ta σ H fun x H1 => r x H1 Q
def rI (C : Int -> Int -> Prop) (g : Int -> Int -> V) : R2 := fun x y H Q => ∃ i j, x = .int i /\ y = .int j /\ C i j /\ Q (g i j) H
def yg (g : Int -> Int -> V) : R2 := fun x y H Q => ∃ i j, x = .int i /\ y = .int j /\ Q (g i j) H
def rU (g : Int -> V) : V -> Hp -> VK -> Prop := fun x H Q => ∃ i, x = .int i /\ Q (g i) H
section
variable {X : Cx} {a b c : Expr} {ta tb tc : TE} {pos : Pos}
theorem zq (ha : PE X a ta) (hb : PE X b tb) {pins : List (Addr × Obj)} {s : Shared} {σ : St} {H : Hp} {R : V -> V -> Hp -> Prop} (I : Inv X pins σ H s)
 (h : ta σ H fun x H1 => tb σ H1 fun y H2 => R x y H2) {Q : Value -> Shared -> Prop} {f : Value -> Value -> Sem Value}
 (hf : ∀ v u s2 x y H2, Inv X pins σ H2 s2 -> RelV x v -> RelV y u -> R x y H2 -> wpAny (model X.prog X.w) X.A (f v u) Q X.xe s2) :
 wpAny (model X.prog X.w) X.A (eval a X.env) (fun v s₁ => wpAny (model X.prog X.w) X.A (eval b X.env) (fun u s₂ => wpAny (model X.prog X.w) X.A (f v u) Q X.xe s₂) X.xe s₁) X.xe s := by
 refine bF (ha pins s σ H _ I h) fun v s1 ⟨x, H1, I1, r1, q1⟩ => ?_
 refine bF (hb pins s1 σ H1 _ I1 q1) fun u s2 ⟨y, H2, I2, r2, q2⟩ => ?_
 exact hf v u s2 x y H2 I2 r1 r2 q2
theorem aj {op : Operator} {r : R2} (ho : gu X (binaryOp op) r) (ha : PE X a ta) (hb : PE X b tb) : PE X (.BinOp a op b pos) (D3 r ta tb) := by
 intro pins s σ H Q I h
 exact wpAny_BinOp (zq ha hb I h fun v u s2 x y H2 I2 rx ry q => ho pins s2 σ H2 x y v u Q I2 rx ry q)
theorem EX {op : UnaryOp} {r : V -> Hp -> VK -> Prop} (ho : HY X (unaryOp op) r) (ha : PE X a ta) : PE X (.UnaryOp op a pos) (JA r ta) := by
 intro pins s σ H Q I h
 exact UnaryOp_ (bF (ha pins s σ H _ I h) fun v s1 ⟨x, H1, I1, r1, q1⟩ => ho pins s1 σ H1 x v Q I1 r1 q1)
theorem Fo {f : Value -> Value -> Sem Value} {C : Int -> Int -> Prop} {g : Int -> Int -> Int}
 (rule : ∀ (i j : Int) (t u : Tok) (s : Shared) (Q : Value -> Shared -> Prop) (E : Value -> Shared -> Prop), C i j -> Q (.int (g i j) s.toks) { s with toks := s.toks + 1 } -> wpAny (model X.prog X.w) X.A (f (.int i t) (.int j u)) Q E s) :
 gu X f (rI C fun i j => .int (g i j)) := by
 intro pins s σ H x y v u Q I rx ry h
 obtain ⟨i, j, rfl, rfl, hc, q⟩ := h
 obtain ⟨t, rfl⟩ := rx
 obtain ⟨t', rfl⟩ := ry
 exact rule i j t t' s _ _ hc ⟨.int (g i j), H, I.tok _, ⟨_, rfl⟩, q⟩
theorem EH {f : Value -> Value -> Sem Value} {g : Int -> Int -> Int}
 (rule : ∀ (i j : Int) (t u : Tok) (s : Shared) (Q : Value -> Shared -> Prop) (E : Value -> Shared -> Prop), Q (.int (g i j) s.toks) { s with toks := s.toks + 1 } -> wpAny (model X.prog X.w) X.A (f (.int i t) (.int j u)) Q E s) :
 gu X f (yg fun i j => .int (g i j)) := by
 intro pins s σ H x y v u Q I rx ry h
 obtain ⟨i, j, rfl, rfl, q⟩ := h
 obtain ⟨t, rfl⟩ := rx
 obtain ⟨t', rfl⟩ := ry
 exact rule i j t t' s _ _ ⟨.int (g i j), H, I.tok _, ⟨_, rfl⟩, q⟩
theorem wm {f : Value -> Value -> Sem Value} {g : Int -> Int -> Bool}
 (rule : ∀ (i j : Int) (t u : Tok) (s : Shared) (Q : Value -> Shared -> Prop) (E : Value -> Shared -> Prop), Q (.bool (g i j)) s -> wpAny (model X.prog X.w) X.A (f (.int i t) (.int j u)) Q E s) :
 gu X f (yg fun i j => .bl (g i j)) := by
 intro pins s σ H x y v u Q I rx ry h
 obtain ⟨i, j, rfl, rfl, q⟩ := h
 obtain ⟨t, rfl⟩ := rx
 obtain ⟨t', rfl⟩ := ry
 exact rule i j t t' s _ _ ⟨.bl (g i j), H, I, rfl, q⟩
def A9 (i j : Int) : Prop := 0 <= j /\ j <= 1000000 /\ i.natAbs < 2 ^ 64
theorem aW : gu X (binaryOp .Add) (yg fun i j => .int (i + j)) := EH fun _ _ _ _ _ _ _ q => add_int q
theorem gM : gu X (binaryOp .Sub) (yg fun i j => .int (i - j)) := EH fun _ _ _ _ _ _ _ q => sub_int q
theorem AW : gu X (binaryOp .Mod) (rI (fun _ j => 0 < j) fun i j => .int (i % j)) := Fo fun i j _ _ _ _ _ hc q => by
 have h1 : (0 : Int) < j := hc
 exact mod_int' (by omega) (by rw [Int.fmod_eq_emod_of_nonneg i (by omega)]; exact q)
theorem km : gu X (binaryOp .Pow) (rI A9 fun i j => .int (i ^ j.toNat)) := Fo fun _ _ _ _ _ _ _ hc q => pow_int_small hc.1 hc.2.1 hc.2.2 q
theorem MK {f : Value -> Sem Value} {g : Int -> Int}
 (rule : ∀ (i : Int) (t : Tok) (s : Shared) (Q : Value -> Shared -> Prop) (E : Value -> Shared -> Prop), Q (.int (g i) s.toks) { s with toks := s.toks + 1 } -> wpAny (model X.prog X.w) X.A (f (.int i t)) Q E s) :
 HY X f (rU fun i => .int (g i)) := by
 intro pins s σ H x v Q I rx h
 obtain ⟨i, rfl, q⟩ := h
 obtain ⟨t, rfl⟩ := rx
 exact rule i t s _ _ ⟨.int (g i), H, I.tok _, ⟨_, rfl⟩, q⟩
theorem BV : HY X (unaryOp .USub) (rU fun i => .int (-i)) := MK fun _ _ _ _ _ q => neg_int q
end
def yh : V -> V -> Bool
 | .aZ, .aZ => true | .aZ, .int _ => true | .int _, .aZ => true | .aZ, .bl _ => true | .bl _, .aZ => true | .aZ, .str _ => true | .str _, .aZ => true
 | .int _, .int _ => true | .bl _, .bl _ => true | .str _, .str _ => true | .sI _, .sI _ => true
 | .int _, .str _ => true | .str _, .int _ => true | .bl _, .str _ => true | .str _, .bl _ => true
 | _, _ => false
def Mh : R2 := fun x y H Q => yh x y = true /\ Q (.bl (decide (x = y))) H
def LO : R2 := fun x y H Q => yh x y = true /\ Q (.bl (!decide (x = y))) H
theorem qo {i j : Int} : decide (V.int i = V.int j) = (i == j) := by
 rw [Bool.eq_iff_iff]
 simp
theorem vd {i j : Bool} : decide (V.bl i = V.bl j) = (i == j) := by
 rw [Bool.eq_iff_iff]
 simp
theorem qz {i j : Str} : decide (V.str i = V.str j) = (i == j) := by
 rw [Bool.eq_iff_iff]
 simp
theorem qJ {i j : Array UInt8} : decide (V.sI i = V.sI j) = (i.toList == j.toList) := by
 rw [Bool.eq_iff_iff]
 cases i
 cases j
 simp
section
variable {X : Cx} {a b c : Expr} {ta tb tc : TE} {pos : Pos}
theorem aH {pins : List (Addr × Obj)} {σ : St} {H : Hp} {s : Shared} {Q : VK} {k k' : Bool} (I : Inv X pins σ H s) (q : Q (.bl k) H) (e : k = k') : EP X pins σ Q (.bool k') s := by
 subst e
 exact ⟨.bl k, H, I, rfl, q⟩
theorem CO : gu X (compareOp .Eq) Mh := by
 intro pins s σ H x y v u Q I rx ry h
 obtain ⟨hs, q⟩ := h
 cases x with
 | aZ =>
   cases rx
   cases y with
   | aZ => cases ry; exact PySem.EqNone.eq_none_none (aH I q (by simp))
   | bl j => cases ry; exact PySem.EqNone.eq_none_bool (aH I q (by simp))
   | int j => obtain ⟨t', rfl⟩ := ry; exact PySem.EqNone.eq_none_int (aH I q (by simp))
   | str j => obtain ⟨t', rfl⟩ := ry; exact PySem.EqNone.eq_none_str (aH I q (by simp))
   | _ => exact absurd (show false = true from hs) Bool.false_ne_true
 | bl i =>
   cases rx
   cases y with
   | aZ => cases ry; exact PySem.EqNone.eq_bool_none (aH I q (by simp))
   | bl j => cases ry; exact eq_bool (aH I q vd)
   | str j => obtain ⟨t', rfl⟩ := ry; exact PySem.EqMixed.eq_bool_str (aH I q (by simp))
   | _ => exact absurd (show false = true from hs) Bool.false_ne_true
 | int i =>
   obtain ⟨t, rfl⟩ := rx
   cases y with
   | aZ => cases ry; exact PySem.EqNone.eq_int_none (aH I q (by simp))
   | int j => obtain ⟨t', rfl⟩ := ry; exact eq_int (aH I q qo)
   | str j => obtain ⟨t', rfl⟩ := ry; exact PySem.EqMixed.eq_int_str (aH I q (by simp))
   | _ => exact absurd (show false = true from hs) Bool.false_ne_true
 | str i =>
   obtain ⟨t, rfl⟩ := rx
   cases y with
   | aZ => cases ry; exact PySem.EqNone.eq_str_none (aH I q (by simp))
   | bl j => cases ry; exact PySem.EqMixed.eq_str_bool (aH I q (by simp))
   | int j => obtain ⟨t', rfl⟩ := ry; exact PySem.EqMixed.eq_str_int (aH I q (by simp))
   | str j => obtain ⟨t', rfl⟩ := ry; exact eq_str (aH I q qz)
   | _ => exact absurd (show false = true from hs) Bool.false_ne_true
 | sI i =>
   obtain ⟨t, rfl⟩ := rx
   cases y with
   | sI j => obtain ⟨t', rfl⟩ := ry; exact PySem.W.eq_bytes (aH I q qJ)
   | _ => exact absurd (show false = true from hs) Bool.false_ne_true
 | _ => cases y <;> exact absurd (show false = true from hs) Bool.false_ne_true
theorem ED : gu X (compareOp .NotEq) LO := by
 intro pins s σ H x y v u Q I rx ry h
 obtain ⟨hs, q⟩ := h
 cases x with
 | aZ =>
   cases rx
   cases y with
   | aZ => cases ry; exact PySem.EqNone.ne_none_none (aH I q (by simp))
   | bl j => cases ry; exact PySem.EqNone.ne_none_bool (aH I q (by simp))
   | int j => obtain ⟨t', rfl⟩ := ry; exact PySem.EqNone.ne_none_int (aH I q (by simp))
   | str j => obtain ⟨t', rfl⟩ := ry; exact PySem.EqNone.ne_none_str (aH I q (by simp))
   | _ => exact absurd (show false = true from hs) Bool.false_ne_true
 | bl i =>
   cases rx
   cases y with
   | aZ => cases ry; exact PySem.EqNone.ne_bool_none (aH I q (by simp))
   | bl j => cases ry; exact ne_bool (aH I q (congrArg not vd))
   | str j => obtain ⟨t', rfl⟩ := ry; exact PySem.EqMixed.ne_bool_str (aH I q (by simp))
   | _ => exact absurd (show false = true from hs) Bool.false_ne_true
 | int i =>
   obtain ⟨t, rfl⟩ := rx
   cases y with
   | aZ => cases ry; exact PySem.EqNone.ne_int_none (aH I q (by simp))
   | int j => obtain ⟨t', rfl⟩ := ry; exact ne_int (aH I q (congrArg not qo))
   | str j => obtain ⟨t', rfl⟩ := ry; exact PySem.EqMixed.ne_int_str (aH I q (by simp))
   | _ => exact absurd (show false = true from hs) Bool.false_ne_true
 | str i =>
   obtain ⟨t, rfl⟩ := rx
   cases y with
   | aZ => cases ry; exact PySem.EqNone.ne_str_none (aH I q (by simp))
   | bl j => cases ry; exact PySem.EqMixed.ne_str_bool (aH I q (by simp))
   | int j => obtain ⟨t', rfl⟩ := ry; exact PySem.EqMixed.ne_str_int (aH I q (by simp))
   | str j => obtain ⟨t', rfl⟩ := ry; exact ne_str (aH I q (congrArg not qz))
   | _ => exact absurd (show false = true from hs) Bool.false_ne_true
 | sI i =>
   obtain ⟨t, rfl⟩ := rx
   cases y with
   | sI j => obtain ⟨t', rfl⟩ := ry; exact PySem.W.ne_bytes (aH I q (congrArg not qJ))
   | _ => exact absurd (show false = true from hs) Bool.false_ne_true
 | _ => cases y <;> exact absurd (show false = true from hs) Bool.false_ne_true
theorem lD : gu X (compareOp .Lt) (yg fun i j => .bl (decide (i < j))) := wm fun _ _ _ _ _ _ _ q => lt_int q
theorem ji : gu X (compareOp .LtE) (yg fun i j => .bl (decide (i <= j))) := wm fun _ _ _ _ _ _ _ q => le_int q
theorem yE : gu X (compareOp .Gt) (yg fun i j => .bl (decide (j < i))) := wm fun _ _ _ _ _ _ _ q => gt_int q
theorem yZ : gu X (compareOp .GtE) (yg fun i j => .bl (decide (j <= i))) := wm fun _ _ _ _ _ _ _ q => ge_int q
theorem ur : gu X (compareOp .Is) (fun x y H Q => y = .aZ /\ Q (.bl (decide (x = .aZ))) H) := by
 intro pins s σ H x y v u Q I rx ry h
 obtain ⟨rfl, q⟩ := h
 cases ry
 refine is_none_gen (aH I q ?_)
 cases x <;> first
  | (cases rx; rfl)
  | (obtain ⟨t, rfl⟩ := rx; rfl)
theorem x4 : gu X (compareOp .IsNot) (fun x y H Q => y = .aZ /\ Q (.bl (!decide (x = .aZ))) H) := by
 intro pins s σ H x y v u Q I rx ry h
 obtain ⟨rfl, q⟩ := h
 cases ry
 refine isnot_none_gen (aH I q ?_)
 cases x <;> first
  | (cases rx; rfl)
  | (obtain ⟨t, rfl⟩ := rx; rfl)
theorem bz (b : Expr) {op : CmpOp} (h : op ≠ .In := by decide) (h2 : op ≠ .NotIn := by decide) : behindInMarks op b = false := by
 have e1 : (op == CmpOp.In) = false := by cases op <;> first | rfl | exact absurd rfl h
 have e2 : (op == CmpOp.NotIn) = false := by cases op <;> first | rfl | exact absurd rfl h2
 cases b <;> simp [behindInMarks, e1, e2]
theorem iy {op : CmpOp} {r : R2} (ho : gu X (compareOp op) r) (ha : PE X a ta) (hb : PE X b tb) (hm : behindInMarks op b = false) : PE X (.Compare a [op] [b] pos) (D3 r ta tb) := by
 intro pins s σ H Q I h
 exact wpAny_Compare1 (zq ha hb I h fun v u s2 x y H2 I2 rx ry q => ho pins s2 σ H2 x y v u Q I2 rx ry q) hm
def um (t : TE) : TT := fun σ H Q => t σ H fun x H' => ∃ k, x = .bl k /\ Q k H'
theorem bu {op : CmpOp} {r : R2} (ho : gu X (compareOp op) r) (ha : PE X a ta) (hb : PE X b tb) (hm : behindInMarks op b = false) : PT X (.Compare a [op] [b] pos) (um (D3 r ta tb)) := by
 intro pins s σ H Q I h
 refine wpAny_isTrue_Compare1 (bF (ha pins s σ H _ I h) fun v s1 ⟨x, H1, I1, r1, q1⟩ => bF (hb pins s1 σ H1 _ I1 q1) fun u s2 ⟨y, H2, I2, r2, q2⟩ =>
  bF (ho pins s2 σ H2 x y v u _ I2 r1 r2 q2) fun c s3 ⟨z, H3, I3, r3, k, e, q3⟩ => ?_) hm
 subst e
 cases r3
 exact wpAny_truthy_bool ⟨H3, I3, q3⟩
def tE (r r' : R2) (ta tb tc : TE) : TE := fun σ H Q => ta σ H fun x H1 => tb σ H1 fun y H2 => r x y H2 fun z H3 => ∃ k, z = .bl k /\
 (if k = true then tc σ H3 fun w' H4 => r' y w' H4 Q else Q (.bl false) H3)
theorem jZ {op G9 : CmpOp} {r r' : R2} (ho : gu X (compareOp op) r) (vh : gu X (compareOp G9) r') (ha : PE X a ta) (hb : PE X b tb) (hc : PE X c tc)
 (hm : lastMarks [op, G9] [b, c] = false := by with_unfolding_all rfl) : PT X (.Compare a [op, G9] [b, c] pos) (um (tE r r' ta tb tc)) := by
 intro pins s σ H Q I h
 refine isTrue_chain (bF (ha pins s σ H _ I h) fun v s1 ⟨x, H1, I1, r1, q1⟩ => test_link (bF (hb pins s1 σ H1 _ I1 q1) fun u s2 ⟨y, H2, I2, r2, q2⟩ =>
  bF (ho pins s2 σ H2 x y v u _ I2 r1 r2 q2) fun d s3 ⟨z, H3, I3, r3, k, e, q3⟩ => ?_)) hm
 subst e
 cases r3
 refine wpAny_truthy_bool ?_
 cases k with
 | false =>
   obtain ⟨k', e', q'⟩ := q3
   cases e'
   exact ite_ff ⟨H3, I3, q'⟩
 | true =>
   refine ite_tt (test_last (bF (hc pins s3 σ H3 _ I3 q3) fun w' s4 ⟨z', H4, I4, r4, q4⟩ => bF (vh pins s4 σ H4 y z' u w' _ I4 r2 r4 q4) fun d' s5 ⟨z2, H5, I5, r5, k2, e2, q5⟩ => ?_))
   subst e2
   cases r5
   exact wpAny_truthy_bool ⟨H5, I5, q5⟩
def oE (K : PySem.W.Frag) (x : V) (H : Hp) (k : Bool) : Prop :=
 match x with
 | .aZ => k = false
 | .bl b => k = b
 | .int i => k = (i != 0)
 | .str y => y.length <= sizeLine /\ k = ((y.length : Int) != 0)
 | .sI y => y.size <= sizeLine /\ k = ((y.size : Int) != 0)
 | .ref p => (∃ xs, bp K H p xs /\ k = !xs.isEmpty) \/ (∃ xs, nD K H p xs /\ k = !xs.isEmpty) \/ ∃ ax, H p = some (.dK ax) /\ k = !ax.isEmpty
 | _ => False
theorem oP {κ : Type} {ax : List (κ × V)} {vs : List (κ × Value)} (r : KV ax vs) : (!vs.isEmpty) = !ax.isEmpty := by
 cases r <;> rfl
theorem ko {xs : List V} {az : List Value} (r : Vals xs az) : (!az.toArray.isEmpty) = !xs.isEmpty := by
 cases r <;> simp
theorem gL : (sizeLine : Nat) < 2 ^ 63 := by rw [sizeLine_eq]; decide
theorem Aj : GK X (fun x H Q => ∃ k, oE X.K x H k /\ Q k H) := by
 intro pins s σ H x v Q I rx h
 obtain ⟨k, e, q⟩ := h
 have hl := gL
 have hs : sizeLine = 16777216 := sizeLine_eq
 cases x with
 | aZ =>
   cases rx
   have e' : k = false := e
   subst e'
   exact truthy_none ⟨H, I, q⟩
 | bl b =>
   cases rx
   have e' : k = b := e
   subst e'
   exact wpAny_truthy_bool ⟨H, I, q⟩
 | int i =>
   obtain ⟨t, rfl⟩ := rx
   have e' : k = (i != 0) := e
   subst e'
   exact PySem.P.truthy_int ⟨H, I, q⟩
 | str y =>
   obtain ⟨t, rfl⟩ := rx
   obtain ⟨hy, e'⟩ : y.length <= sizeLine /\ k = ((y.length : Int) != 0) := e
   subst e'
   exact PySem.P.truthy_str (by omega) ⟨H, I.tok _, q⟩
 | sI y =>
   obtain ⟨t, rfl⟩ := rx
   obtain ⟨hy, e'⟩ : y.size <= sizeLine /\ k = ((y.size : Int) != 0) := e
   subst e'
   exact PySem.W.truthy_bytes (by omega) ⟨H, I.tok _, q⟩
 | ref p =>
   cases rx
   have e' : (∃ xs, bp X.K H p xs /\ k = !xs.isEmpty) \/ (∃ xs, nD X.K H p xs /\ k = !xs.isEmpty) \/ ∃ ax, H p = some (.dK ax) /\ k = !ax.isEmpty := e
   rcases e' with ⟨xs, hx, e'⟩ | ⟨xs, hx, e'⟩ | ⟨ax, hx, e'⟩
   . subst e'
     obtain ⟨az, r, pl, hz⟩ := I.list hx
     have hlen := r.length
     exact wpAny_truthy_list pl.isList (by simp only [List.size_toArray]; omega) ⟨H, I.tok _, by rw [ko r]; exact q⟩
   . subst e'
     obtain ⟨az, r, pl, hz⟩ := I.tuple hx
     have hlen := r.length
     exact truthy_tuple pl (by simp only [List.size_toArray]; omega) ⟨H, I.tok _, by rw [ko r]; exact q⟩
   . subst e'
     obtain ⟨hz, hS, vs, r, m⟩ : ax.length <= sizeLine /\ (p == sysModules) = false /\ ∃ vs, KV ax vs /\ s.heap.DictOf (bh X.prog X.w) p vs := I.aI p _ hx
     have hlen : ax.length = vs.length := Paired.length r
     exact wpAny_truthy_dict hS m (by omega) ⟨H, I.tok _, by rw [oP r]; exact q⟩
 | _ => exact (show False from e).elim
theorem nW (ha : PE X a ta) (he : ∀ whole, isTrue a X.env whole = (do let v <- whole; standAt a.pos; holding [v] (truthy v))) :
 PT X a (fun σ H Q => ta σ H fun x H' => ∃ k, oE X.K x H' k /\ Q k H') := by
 intro pins s σ H Q I h
 exact isTrue_plain (bF (ha pins s σ H _ I h) fun v s1 ⟨x, H1, I1, r1, q1⟩ => Aj pins s1 σ H1 x v Q I1 r1 q1) (he _)
theorem oK : gu X (binaryOp .Add) (fun x y H Q => ∃ i j, x = .str i /\ y = .str j /\ i.length + j.length <= sizeLine /\ Q (.str (i ++ j)) H) := by
 intro pins s σ H x y v u Q I rx ry h
 obtain ⟨i, j, rfl, rfl, hz, q⟩ := h
 obtain ⟨t, rfl⟩ := rx
 obtain ⟨t', rfl⟩ := ry
 exact add_str (fun t' tk => ⟨.str (i ++ j), H, I.tok _, ⟨_, rfl⟩, q⟩) hz
theorem vals1 {x : V} {us : List Value} (r : Vals [x] us) : ∃ u, us = [u] /\ RelV x u := by
 cases r with
 | cons r1 r2 => cases r2; exact ⟨_, rfl, r1⟩
theorem vals2 {x y : V} {us : List Value} (r : Vals [x, y] us) : ∃ u w', us = [u, w'] /\ RelV x u /\ RelV y w' := by
 cases r with
 | cons r1 r2 =>
   cases r2 with
   | cons r3 r4 => cases r4; exact ⟨_, _, rfl, r1, r3⟩
theorem sj (hc : X.calm = true) : dh X (.builtin "max") (fun xs H Q => ∃ i j, xs = [.int i, .int j] /\ Q (.int (if j > i then j else i)) H) := by
 intro pins s σ H xs us Q I r h
 obtain ⟨i, j, rfl, q⟩ := h
 obtain ⟨u, w', rfl, ⟨t, rfl⟩, ⟨t', rfl⟩⟩ := vals2 r
 refine max_two_ints (I.ok.hd hc) fun h' tk k => ⟨_, H, I.kept k, ?_, q⟩
 by_cases hj : j > i
 . rw [if_pos hj, if_pos hj]; exact ⟨_, rfl⟩
 . rw [if_neg hj, if_neg hj]; exact ⟨_, rfl⟩
theorem rV (hc : X.calm = true) : dh X (.builtin "min") (fun xs H Q => ∃ i j, xs = [.int i, .int j] /\ Q (.int (if j < i then j else i)) H) := by
 intro pins s σ H xs us Q I r h
 obtain ⟨i, j, rfl, q⟩ := h
 obtain ⟨u, w', rfl, ⟨t, rfl⟩, ⟨t', rfl⟩⟩ := vals2 r
 refine min_two_ints (I.ok.hd hc) fun h' tk k => ⟨_, H, I.kept k, ?_, q⟩
 by_cases hj : j < i
 . rw [if_pos hj, if_pos hj]; exact ⟨_, rfl⟩
 . rw [if_neg hj, if_neg hj]; exact ⟨_, rfl⟩
end
structure Mw (h : Heap) (x dx C : Addr) (mA : Str -> Option Value) : Prop where
 obj : h.get? x = some (PySem.W.instObj C dx)
 ns : h.Ns1 dx mA
 ne : dx ≠ x
section
variable {prog : Program} {w : World} {A : Around} {E : Value -> Shared -> Prop} {s : Shared} {K : PySem.W.Frag} {x dx C f : Addr} {mA : Str -> Option Value} {name : Str} {v : Value}
end
theorem ky.some_of {v : V} {o : Option Value} (r : ky (some v) o) : ∃ u, o = some u /\ RelV v u := by
 cases o with
 | none => exact (show False from r).elim
 | some u => exact ⟨u, rfl, r⟩
section
variable {P : Program} {w : World} {H H' : Hp} {h h' : Heap} {a C dx : Addr} {fs LR : List (Str × V)}
end
structure KQ (K : PySem.W.Frag) (C : Addr) : Prop where
 pg : PySem.W.plainGet K C Str.empty = true
 hd : PySem.W.hasDictIn K C = true
 po : PySem.W.plainOver K C = true
 sa : PySem.W.findIn K (.ref C) "__setattr__" = some (some (.builtin "object.__setattr__"))
structure NI (K : PySem.W.Frag) (C : Addr) (f : Str) (v : V) (u : Value) : Prop where
 at_ : PySem.W.findIn K (.ref C) f = some (some u)
 rel : RelV v u
 get : PySem.W.specialIn K u "__get__" = some none
 cp : PySem.W.copiedNames.contains f = false
structure Meth (K : PySem.W.Frag) (C : Addr) (m : Str) (f : Addr) : Prop where
 at_ : PySem.W.findIn K (.ref C) m = some (some (.ref f))
 fn : PySem.W.isFn K (.ref f) = true
 kp : PySem.W.keepIn K (.ref f) = true
section
variable {X : Cx} {pins : List (Addr × Obj)} {σ : St} {H : Hp} {s : Shared} {a C dx : Addr} {fs : List (Str × V)} {f : Str} {v : V} {A : Around} {E : Value -> Shared -> Prop}
end
section
variable {X : Cx} {o e value : Expr} {f : Str} {pos pos' uL : Pos} {ta tv : TE}
end
section
variable {X : Cx} {pins : List (Addr × Obj)} {σ : St} {H : Hp} {s : Shared} {A : Around} {E : Value -> Shared -> Prop} {Q : Value -> Shared -> Prop} {c : Value} {b : Bool}
inductive jW (K : PySem.W.Frag) (H : Hp) : V -> Value -> Prop where
 | aZ : jW K H .aZ (.type "NoneType")
 | bl (x : Bool) : jW K H (.bl x) (.type "bool")
 | int (i : Int) : jW K H (.int i) (.type "int")
 | str (x : Str) : jW K H (.str x) (.type "str")
 | CT (x : UInt64) : jW K H (.CT x) (.type "float")
 | lst {a : Addr} {xs : List V} (e : H a = some (.lst xs)) : jW K H (.ref a) (.type "list")
 | sQ {a : Addr} {o : Obj} {xs : List V} (e : H a = some (.sQ o (.lst xs))) : jW K H (.ref a) (.type "list")
 | tup {a : Addr} {xs : List V} (e : H a = some (.tup xs)) : jW K H (.ref a) (.type "tuple")
 | dK {a : Addr} {ax : List (Key × V)} (e : H a = some (.dK ax)) : jW K H (.ref a) (.type "dict")
 | dT {a : Addr} {ax : List (List Key × V)} (e : H a = some (.dT ax)) : jW K H (.ref a) (.type "dict")
 | ins {a C dx : Addr} {fs : List (Str × V)} (e : H a = some (.ins C dx fs)) (cl : KQ K C) (ha : PySem.W.findIn K (.ref C) "__class__" = some (some (.builtin "object.__class__")))
  (hn : PySem.W.specialIn K (.builtin "object.__class__") "__get__" = some (some (.builtin "getset_descriptor.__get__"))) (sO : PySem.W.takesIn K (.builtin "object.__class__") = some true)
  (hm : PySem.W.mroIn K C (.type "object") = some true) : jW K H (.ref a) (.ref C)
end
structure bV (k : Nat) (A : Around) : Prop where
 hd : A.handled = none
 dp : A.depth + 3 * k + 5 < recursionLimit
 un : A.units + 16 * k + 200 < cLine
theorem bV.mono {j k : Nat} {A : Around} (r : bV k A) (h : j <= k) : bV j A := ⟨r.hd, by have := r.dp; omega, by have := r.un; omega⟩
theorem bV.deeper {k : Nat} {A : Around} (r : bV (k + 1) A) (env : Env) : bV k (A.deeper env) :=
 ⟨r.hd, by have := r.dp; show A.depth + 1 + 3 * k + 5 < _; omega, by have := r.un; show A.units + 3 + 16 * k + 200 < _; omega⟩
theorem bV.in1 {k : Nat} {A : Around} (r : bV (k + 1) A) : bV k A.in1 :=
 ⟨r.hd, by have := r.dp; show A.depth + 3 * k + 5 < _; omega, by have := r.un; show A.units + 1 + 16 * k + 200 < _; omega⟩
theorem bV.depth {k : Nat} {A : Around} (r : bV k A) : A.depth < recursionLimit := by have := r.dp; omega
theorem bV.units {k : Nat} {A : Around} (r : bV k A) : A.units + 64 < cLine := by have := r.un; omega
def zY : TA := fun _ H Q => Q [] H
def u3 (ta : TE) (tr : TA) : TA := fun σ H Q => ta σ H fun x H1 => tr σ H1 fun xs H2 => Q (x :: xs) H2
section
variable {X : Cx} {e : Expr} {es : List Expr} {te : TE} {t : TA} {pos : Pos}
theorem ag : PA X [] zY := fun _ _ _ _ H Q I h => Calls.spliced_nil ⟨[], H, I, .nil, h⟩
theorem ae (ha : PE X e te) (hr : PA X es t) (hs : starEach (e :: es) X.env = (false, eval e X.env) :: starEach es X.env := by rfl) : PA X (e :: es) (u3 te t) := by
 intro pos pins s σ H Q I h
 rw [hs]
 show wpAny _ _ (spliced ((false, eval e X.env) :: backTo pos (starEach es X.env))) _ _ s
 refine Calls.spliced_cons (bF (ha pins s σ H _ I h) fun u s1 ⟨x, H1, I1, r1, q1⟩ => ?_)
 exact bF (hr pos pins s1 σ H1 _ I1 q1) fun us s2 ⟨xs, H2, I2, r2, q2⟩ => ⟨x :: xs, H2, I2, .cons r1 r2, q2⟩
def FQ (t : TA) : TE := fun σ H Q => t σ H fun xs H1 => xs.length <= sizeLine /\ ∀ p, H1 p = none -> Q (.ref p) (upd H1 p (.tup xs))
def GF (t : TA) : TE := fun σ H Q => t σ H fun xs H1 => xs.length <= sizeLine /\ ∀ p, H1 p = none -> Q (.ref p) (upd H1 p (.lst xs))
theorem AV {x1} (h : PA X es t) : PE X (.Tuple es x1 pos) (FQ t) := by
 intro pins s σ H Q I hq
 refine wpAny_Tuple_spliced (bF (h pos pins s σ H _ I hq) fun us s1 ⟨xs, H1, I1, r, z, q⟩ => ⟨by rw [<- r.length]; exact z, ?_⟩)
 have hf : H1 s1.heap.objs.size = none := I1.aI.fresh (Nat.le_refl _)
 refine ⟨.ref s1.heap.objs.size, upd H1 s1.heap.objs.size (.tup xs), I1.laid (t' := s1.toks) (fun b u e => Heap.get?_push_of_some _ e) (Nat.le_refl _) ?_, rfl, q _ hf⟩
 exact ⟨z, us, r, ⟨_, Heap.get?_push_size _ rfl, rfl, _, rfl⟩⟩
theorem B7 (h : PA X es t) : PE X (.List es pos) (GF t) := by
 intro pins s σ H Q I hq
 refine wpAny_List_spliced (bF (h pos pins s σ H _ I hq) fun us s1 ⟨xs, H1, I1, r, z, q⟩ => ⟨by rw [<- r.length]; exact z, ?_⟩)
 have hf : H1 s1.heap.objs.size = none := I1.aI.fresh (Nat.le_refl _)
 refine ⟨.ref s1.heap.objs.size, upd H1 s1.heap.objs.size (.lst xs), I1.laid (t' := s1.toks) (fun b u e => Heap.get?_push_of_some _ e) (Nat.le_refl _) ?_, rfl, q _ hf⟩
 exact ⟨z, us, 0, r, Heap.get?_push_size _ rfl⟩
end
abbrev Sp := List V -> Hp -> VK -> XK -> Prop
abbrev mV := List Env -> Hp -> Shared -> XK -> Value -> Shared -> Prop
structure o4 (P : Program) (w : World) (K : PySem.W.Frag) (mg : Str -> Option Value) (base : Heap) (A : Around) (outer : List Env) (s : Shared) (H : Hp) : Prop where
 frames : A.frames = some outer
 mod : Mod K mg base
 bs : ∀ b o, base.get? b = some o -> s.heap.get? b = some o /\ H b = none
 v8 : base.objs.size <= s.heap.objs.size
 iE : s.heap.FunFrames base outer
 y0 : ∀ b ∈ nq outer, H b = none
 aI : gE P w H s.heap
 bare : AllBare s.gens
def CE (outer : List Env) (P : Program) (w : World) (H : Hp) (s : Shared) (Q : VK) (u : Value) (s' : Shared) : Prop :=
 ∃ v H', s'.os = s.os /\ AllBare s'.gens /\ Un (nq outer) [] H H' s.heap s'.heap /\ gE P w H' s'.heap /\ RelV v u /\ Q v H'
def CR (CX : mV) (outer : List Env) (P : Program) (w : World) (H : Hp) (s : Shared) (Q : VK) (E : XK) (r : Result) (s' : Shared) : Prop :=
 match r with
 | .ok (.ret u) => CE outer P w H s Q u s'
 | .ok _ => False
 | .error e => CX outer H s E e s'
structure bG (P : Program) (w : World) (K : PySem.W.Frag) (mg : Str -> Option Value) (base : Heap) (CX : mV) (k : Nat) (f : Addr) (fd : FuncData) (ps : List Str) (sp : Sp) : Prop where
 len : ∀ vs H Q E, sp vs H Q E -> vs.length = ps.length
 run : ∀ (A : Around) (outer : List Env) (s : Shared) (H : Hp) (args : Args) (us : List Value) (vs : List V) (Q : VK) (E : XK), bV k A -> o4 P w K mg base A outer s H -> BindsTo s fd args (ps.zip us) -> Vals vs us -> sp vs H Q E ->
  codeAny (model P w) A (.call (.ref f) args) (CR CX outer P w H s Q E) s
theorem bG.mono {P : Program} {w : World} {K : PySem.W.Frag} {mg : Str -> Option Value} {base : Heap} {CX : mV} {j k : Nat} {f : Addr} {fd : FuncData} {ps : List Str} {sp : Sp} (F : bG P w K mg base CX j f fd ps sp) (h : j <= k) :
 bG P w K mg base CX k f fd ps sp := ⟨F.len, fun A outer s H args us vs Q E hr => F.run A outer s H args us vs Q E (hr.mono h)⟩
theorem o4.in1 {P : Program} {w : World} {K : PySem.W.Frag} {mg : Str -> Option Value} {base : Heap} {A : Around} {outer : List Env} {s : Shared} {H : Hp} (e : o4 P w K mg base A outer s H) :
 o4 P w K mg base A.in1 outer s H := ⟨e.frames, e.mod, e.bs, e.v8, e.iE, e.y0, e.aI, e.bare⟩
section
variable {X : Cx} {pins : List (Addr × Obj)} {σ : St} {H : Hp} {s s' : Shared}
theorem Inv.CM (I : Inv X pins σ H s) : o4 X.prog X.w X.K X.mg X.base X.A X.stack s H :=
 ⟨I.ok.frames, I.ok.mod, I.bs, Nat.le_trans I.ok.v8 I.sz, I.stack, I.qy, I.aI, I.bare⟩
theorem Inv.after {Q : VK} {u : Value} (I : Inv X pins σ H s) (h : CE X.stack X.prog X.w H s Q u s') : EP X pins σ Q u s' := by
 obtain ⟨v, H', os, bare, un, aI, r, q⟩ := h
 obtain ⟨hh, g, d, t, Eb⟩ := s'
 obtain rfl : Eb = s.os := os
 exact ⟨v, H', I.call (h' := hh) (g' := g) (d' := d) (t' := t) (ch := []) un aI bare (fun b z => absurd z (by simp)), r, q⟩
end
def qK (sp : Sp) (gQ : List V) (E : XK) (t : TA) : TE := fun σ H Q => t σ H fun vs H1 => sp (vs ++ gQ) H1 Q E
def Binds (K : PySem.W.Frag) (fd : FuncData) (ps : List Str) (ds : List Value) : Prop :=
 ∀ (s : Shared) (us : List Value), K.In s.heap -> (us ++ ds).length = ps.length -> BindsTo s fd ⟨us, []⟩ (ps.zip (us ++ ds))
theorem Binds.all {K : PySem.W.Frag} {fd : FuncData} {ps : List Str} (h : ∀ us : List Value, us.length = ps.length -> bindArgs fd ⟨us, []⟩ = pure (ps.zip us)) : Binds K fd ps [] := fun s us _ hl => by
 rw [List.append_nil] at hl ⊢
 exact .of_eq (h us hl)
def Passes (CX : mV) (X : Cx) (E : XK) : Prop := ∀ (pins : List (Addr × Obj)) (σ : St) (H : Hp) (s : Shared) (e : Value) (s' : Shared), Inv X pins σ H s -> CX X.stack H s E e s' -> X.xe e s'
section
variable {X : Cx} {CX : mV} {k : Nat} {f C : Addr} {fd : FuncData} {ps : List Str} {sp : Sp} {gQ : List V} {ds : List Value} {E : XK} {x m : Str} {p pos apos : Pos} {e o : Expr} {es : List Expr} {ta : TE} {t : TA}
theorem zP {pins : List (Addr × Obj)} {σ : St} {H : Hp} {s : Shared} {Q : VK} {us : List Value} {vs : List V} (F : bG X.prog X.w X.K X.mg X.base CX k f fd ps sp) (hr : bV k X.A) (hb : Binds X.K fd ps ds) (hd : Vals gQ ds) (hx : Passes CX X E)
 (I : Inv X pins σ H s) (r : Vals vs us) (h : sp (vs ++ gQ) H Q E) : wpAny (model X.prog X.w) X.A (call (.ref f) us) (EP X pins σ Q) X.xe s := by
 have r2 : Vals (vs ++ gQ) (us ++ ds) := r.append hd
 have hl : (us ++ ds).length = ps.length := by rw [<- r2.length]; exact F.len _ _ _ _ h
 refine wpAny_call (codeAny_mono (F.run X.A X.stack s H ⟨us, []⟩ (us ++ ds) (vs ++ gQ) Q E hr I.CM (hb s us I.zt hl) r2 h) fun r s' hq => ?_)
 cases r with
 | error e => exact hx pins σ H s e s' I hq
 | ok fl =>
   cases fl with
   | ret u => exact I.after hq
   | next => exact False.elim hq
   | brk => exact False.elim hq
   | cont => exact False.elim hq
theorem wI (F : bG X.prog X.w X.K X.mg X.base CX k f fd ps sp) (hr : bV k X.A) (hg : Gl X x) (hm : X.mg x = some (.ref f)) (hk : PySem.W.keepIn X.K (.ref f) = true) (hb : Binds X.K fd ps ds) (hd : Vals gQ ds) (hx : Passes CX X E)
 (ha : PA X (e :: es) t) (xG : (x == ("__debug__" : Str)) = false := by decide) (he : starEach (e :: es) X.env = (false, eval e X.env) :: starEach es X.env := by rfl) (lF : (backTo pos (starEach es X.env)).any (·.1) = false := by rfl) :
 PE X (.Call (.Name x p) (e :: es) [] pos) (qK sp gQ E t) := by
 intro pins s σ H Q I h
 refine wpAny_Call_Name_kw (pW I hg hm ?_ xG)
 refine PySem.W.callWith_K (h₀ := X.base) I.ok.mod.Gn hk (bF (ha pos pins s σ H _ I h) fun us s1 ⟨vs, H1, I1, r, q⟩ => ⟨I1.zt, ?_⟩) he lF
 exact zP F hr hb hd hx I1 r q
structure Mk (K : PySem.W.Frag) (C f : Addr) : Prop where
 makes : PySem.W.makesIn K C = true
 init : PySem.W.findIn K (.ref C) "__init__" = some (some (.ref f))
 fn : PySem.W.isFn K (.ref f) = true
 kp : PySem.W.keepIn K (.ref C) = true
end
def PK (X : Cx) (C8 : List Keyword) (t : TA) : Prop :=
 ∀ (pos : Pos) (pins : List (Addr × Obj)) (s : Shared) (σ : St) (H : Hp) (Q : List V -> Hp -> Prop), Inv X pins σ H s -> t σ H Q -> wpAny (model X.prog X.w) X.A (evalAll ((backToKw pos (keywordEach C8 X.env)).map (·.2))) (AP X pins σ Q) X.xe s
section
variable {X : Cx} {CX : mV} {k : Nat} {f C : Addr} {fd : FuncData} {ps ks : List Str} {sp : Sp} {E : XK} {x m : Str} {p pos apos BM : Pos} {e o : Expr} {es : List Expr} {C8 : List Keyword} {te ta : TE} {t tk : TA} {nm : Option Str}
theorem Az : PK X [] zY := fun _ _ _ _ H Q I h => wpAny_evalAll_nil ⟨[], H, I, .nil, h⟩
theorem yc (ha : PE X e te) (hr : PK X C8 t) : PK X (⟨nm, e, BM⟩ :: C8) (u3 te t) := by
 intro pos pins s σ H Q I h
 show wpAny _ _ (evalAll ((do let v <- eval e X.env; standAt pos; pure v) :: (backToKw pos (keywordEach C8 X.env)).map (·.2))) _ _ s
 refine wpAny_evalAll_cons (wpAny_bind (bF (ha pins s σ H _ I h) fun u s1 ⟨x, H1, I1, r1, q1⟩ => wpAny_bind (wpAny_standAt (wpAny_pure ?_))))
 exact bF (hr pos pins s1 σ H1 _ I1 q1) fun us s2 ⟨xs, H2, I2, r2, q2⟩ => ⟨x :: xs, H2, I2, .cons r1 r2, q2⟩
structure HF (K : PySem.W.Frag) (fd : FuncData) (ps ks : List Str) (g : List Value -> List Value -> List Value) (gV : List V -> List V -> List V) : Prop where
 to : ∀ (s : Shared) (us ws : List Value), K.In s.heap -> (g us ws).length = ps.length -> BindsTo s fd ⟨us, ks.zip ws⟩ (ps.zip (g us ws))
 rel : ∀ {vs : List V} {us : List Value} {zs : List V} {ws : List Value}, Vals vs us -> Vals zs ws -> Vals (gV vs zs) (g us ws)
variable {g : List Value -> List Value -> List Value} {gV : List V -> List V -> List V}
end
structure aL (N P : List Str) (sc : Scope) : Prop where
 kind : sc.kind = .function
 co : sc.isCoroutine = false
 gen : sc.isGenerator = false
 nd : N.Nodup
 pre : N.take P.length = P
 par : ∀ x ∈ P, sc.names.lookup x = some .local \/ sc.names.lookup x = some .cell
 AI : ∀ y ∈ sc.names, y.2 ≠ .free
theorem lM {kindOf : Str -> Option NameKind} {x : Str} : ∀ {binds : List (Str × Value)} {m : Str -> Option Value}, (∀ v, (x, v) ∉ binds) -> bindL kindOf binds m x = m x
 | [], _, _ => rfl
 | (n, v) :: r, m, h => by
   unfold bindL
   rw [lM fun w hw => h w (List.mem_cons_of_mem _ hw)]
   split
   . have : x ≠ n := by rintro rfl; exact h v List.mem_cons_self
     simp [this]
   . rfl
theorem lz {kindOf : Str -> Option NameKind} {x : Str} : ∀ {binds : List (Str × Value)} {m : Str -> Option Value}, (∀ v, (x, v) ∉ binds) -> bindC kindOf binds m x = m x
 | [], _, _ => rfl
 | (n, v) :: r, m, h => by
   unfold bindC
   rw [lz fun w hw => h w (List.mem_cons_of_mem _ hw)]
   split
   . rfl
   . have : x ≠ n := by rintro rfl; exact h v List.mem_cons_self
     simp [this]
theorem kT {kindOf : Str -> Option NameKind} {x : Str} {v : Value} : ∀ {P : List Str} {vs : List Value} {i : Nat} {m : Str -> Option Value}, P.Nodup -> P[i]? = some x -> vs[i]? = some v -> kindOf x = some .local ->
 bindL kindOf (P.zip vs) m x = some v
 | [], _, _, _, _, h, _, _ => by simp at h
 | _ :: _, [], _, _, _, _, h, _ => by simp at h
 | p :: P, w :: vs, 0, m, nd, h1, h2, hk => by
   simp at h1 h2; subst h1; subst h2
   show bindL kindOf ((p, w) :: P.zip vs) m p = _
   unfold bindL
   rw [lM fun v hv => (List.nodup_cons.mp nd).1 (List.of_mem_zip hv).1, if_pos hk]
   simp
 | p :: P, w :: vs, i + 1, m, nd, h1, h2, hk => by
   show bindL kindOf ((p, w) :: P.zip vs) m x = _
   unfold bindL
   exact kT (i := i) (List.nodup_cons.mp nd).2 (by simpa using h1) (by simpa using h2) hk
theorem lr {kindOf : Str -> Option NameKind} {x : Str} {v : Value} : ∀ {P : List Str} {vs : List Value} {i : Nat} {m : Str -> Option Value}, P.Nodup -> P[i]? = some x -> vs[i]? = some v -> kindOf x ≠ some .local ->
 bindC kindOf (P.zip vs) m x = some v
 | [], _, _, _, _, h, _, _ => by simp at h
 | _ :: _, [], _, _, _, _, h, _ => by simp at h
 | p :: P, w :: vs, 0, m, nd, h1, h2, hk => by
   simp at h1 h2; subst h1; subst h2
   show bindC kindOf ((p, w) :: P.zip vs) m p = _
   unfold bindC
   rw [lz fun v hv => (List.nodup_cons.mp nd).1 (List.of_mem_zip hv).1, if_neg hk]
   simp
 | p :: P, w :: vs, i + 1, m, nd, h1, h2, hk => by
   show bindC kindOf ((p, w) :: P.zip vs) m x = _
   unfold bindC
   exact lr (i := i) (List.nodup_cons.mp nd).2 (by simpa using h1) (by simpa using h2) hk
def start (N : List Str) (vs : List V) : St := vs.map some ++ List.replicate (N.length - vs.length) none
def sg (CX : mV) (P : Program) (w : World) (K : PySem.W.Frag) (mg : Str -> Option Value) (base : Heap) (N : List Str) (qual : Str) (scope : Scope) (f : Addr) (cd : Value) (A : Around) (outer : List Env) (s : Shared) (H : Hp) (E : XK) : Cx where
 prog := P
 w := w
 K := K
 mg := mg
 base := base
 A := A.deeper (envOfC qual scope s.heap.objs.size f cd)
 N := N
 cn := s
 t6 := H
 env := envOfC qual scope s.heap.objs.size f cd
 outer := outer
 stack := envOfC qual scope s.heap.objs.size f cd :: outer
 ex := []
 calm := true
 fn := fun _ => true
 pn := []
 xe := fun e s' => wpAny (model P w) (A.deeper (envOfC qual scope s.heap.objs.size f cd)) (leaving (envOfC qual scope s.heap.objs.size f cd) e) (fun _ HA => CX outer H s E e HA) (fun e' HA => CX outer H s E e' HA) s'
theorem m5 {sc : Scope} {n : Nat} {x : Str} (h : sc.names.lookup x = some .cell) : ∃ c, (cellsFrom n sc.names []).lookup x = some c := by
 have q := PySem.W.cellsFrom_some sc.names n [] (.inl h)
 exact Option.isSome_iff_exists.mp q
theorem sC {CX : mV} {P : Program} {w : World} {K : PySem.W.Frag} {mg : Str -> Option Value} {base : Heap} {N ps : List Str} {qual : Str} {scope : Scope} {f : Addr} {cd : Value} {A : Around} {outer : List Env} {s s1 : Shared} {H : Hp} {E : XK} {us : List Value} {vs : List V}
 (S : aL N ps scope) (hd : A.handled = none) (e0 : o4 P w K mg base A outer s H) (hl : vs.length = ps.length) (r : Vals vs us)
 (x : InCallC s s.heap.objs.size (bindL (envOfC qual scope s.heap.objs.size f cd).kindOf (ps.zip us) fun _ => none) (cellsFrom (s.heap.objs.size + 1) scope.names []) (bindC (envOfC qual scope s.heap.objs.size f cd).kindOf (ps.zip us) fun _ => none) s1) :
 Inv (sg CX P w K mg base N qual scope f cd A outer s H E) [] (start N vs) H s1 := by
 have lF : ps.length <= N.length := by have := congrArg List.length S.pre; rw [List.length_take] at this; omega
 obtain ⟨h1, tk, rfl, hk⟩ := x.done
 have Ds : ∀ b : Addr, b ∉ (sg CX P w K mg base N qual scope f cd A outer s H E).ex := fun b z => absurd (show b ∈ ([] : List Addr) from z) (by simp)
 refine ⟨⟨e0.mod, S.kind, rfl, rfl, Nat.le_refl _, fun y z c h1 h2 => ?_, fun y hy => ?_, fun y c _ h => ?_, fun _ => hd, Around.frames_deeper e0.frames, .inr ⟨rfl, rfl⟩, fun b z => absurd z (Ds b), e0.bs, e0.v8, fun b _ _ => Ds b, fun b z => absurd z (Ds b), e0.iE, e0.y0⟩,
  rfl, e0.bare, Un.kept hk, ⟨_, x.toInCall.ns, fun i y v h1 h2 h3 => ?_⟩, fun y c h => ⟨_, x.cell y c h⟩, e0.aI.fresh (Nat.le_refl _), fun y c h => ?_, fun p hp => absurd (show p ∈ ([] : List (Addr × Obj)) from hp) (by simp), e0.aI.kept hk, ?_⟩
 . exact name_of_addr x.apart (PySem.mem_of_lookup h1) (PySem.mem_of_lookup h2)
 . have hy : scope.names.lookup y = some .cell \/ scope.names.lookup y = some .free := hy
   rcases hy with hy | hy
   . exact m5 hy
   . exact absurd rfl (S.AI _ (PySem.mem_of_lookup hy))
 . exact Nat.le_of_lt (x.above y c (PySem.mem_of_lookup h))
 . have hi : i < vs.length := by
    unfold start at h2
    by_cases hi : i < vs.length
    . exact hi
    . rw [List.getElem?_append_right (by simpa using hi)] at h2
      rw [List.getElem?_replicate] at h2
      split at h2 <;> cases h2
   have ha : vs[i]? = some v := by
    unfold start at h2
    rw [List.getElem?_append_left (by simpa using hi), List.getElem?_map] at h2
    cases e : vs[i]? with
    | none => rw [e] at h2; cases h2
    | some a => rw [e] at h2; cases h2; rfl
   obtain ⟨u, hu, rv⟩ := r.get ha
   have hp : ps[i]? = some y := by
    rw [<- S.pre, List.getElem?_take_of_lt (by omega)]; exact h1
   have IU : ps.Nodup := by rw [<- S.pre]; exact S.nd.sublist (List.take_sublist _ _)
   refine ⟨u, rv, ?_⟩
   rcases S.par y (List.mem_of_getElem? hp) with k | k
   . exact .inl ⟨k, kT IU hp hu k⟩
   . obtain ⟨c, e⟩ := m5 (n := s.heap.objs.size + 1) k
     refine .inr ⟨.inl k, c, e, ?_⟩
     have q := x.cell y c e
     rw [lr IU hp hu (by show scope.names.lookup y ≠ _; rw [k]; decide)] at q
     exact q
 . exact e0.aI.fresh (Nat.le_of_lt (x.above y c (PySem.mem_of_lookup h)))
 . unfold start
   show _ = N.length
   rw [List.length_append, List.length_map, List.length_replicate]
   omega
theorem El {CX : mV} {P : Program} {w : World} {K : PySem.W.Frag} {mg : Str -> Option Value} {base : Heap} {k : Nat} {f : Addr} {name qual : Str} {params : Arguments} {body : List Stmt} {scope : Scope} {dV kV doc pm cV ct oc : Value} {an od : Option Addr}
 {vy : Array (Option Value)} {N ps : List Str} {sp : Sp} (lk : K.lookup f = some ⟨oc, od, .func (PySem.W.fnOf name qual params body scope dV kV doc pm an cV ct), vy⟩) (rh : PySem.W.codeIn K cV qual = true) (S : aL N ps scope)
 (len : ∀ vs H Q E, sp vs H Q E -> vs.length = ps.length)
 (lC : ∀ (A : Around) (outer : List Env) (s : Shared) (H : Hp) (vs : List V) (Q : VK) (E : XK), bV k (A.deeper (envOfC qual scope s.heap.objs.size f cV)) -> sp vs H Q E ->
  ∃ t, oq (sg CX P w K mg base N qual scope f cV A outer s H E) body t /\ t { nx := fun _ H' => Q .aZ H', rt := Q } (start N vs) H) :
 bG P w K mg base CX (k + 1) f (PySem.W.fnOf name qual params body scope dV kV doc pm an cV ct) ps sp := by
 refine ⟨len, fun A outer s H args us vs Q E hr e0 hb r vX => ?_⟩
 have hl := len _ _ _ _ vX
 have KX : K.In s.heap := e0.mod.Gn.keeps fun b o e => (e0.bs b o e).1
 have lim : s.heap.NoLimit := e0.mod.nolimit.keeps fun b o e => (e0.bs b o e).1
 have C6 : ∀ y ∈ ps.zip us, scope.names.lookup y.1 = some .local \/ (scope.names.lookup y.1 = some .cell /\ ((cellsFrom (s.heap.objs.size + 1) scope.names []).lookup y.1).isSome = true) := fun ⟨n, v⟩ hy => by
  rcases S.par n (List.of_mem_zip hy).1 with q | q
  . exact .inl q
  . exact .inr ⟨q, PySem.W.cellsFrom_some _ _ _ (.inl q)⟩
 refine codeAny_call_function hr.depth (KX _ _ lk) rfl S.co S.gen rfl (PySem.W.codeRec_of KX rh) (hb _ _ _ _ ?_)
 refine wpAny_newFunctionEnv_cells S.kind C6 fun env he s1 x => ?_
 subst he
 refine ⟨lim.keeps x.toInCall.keep, codeAny_func ?_⟩
 obtain ⟨t, ht, hq⟩ := lC A outer s H vs Q E (hr.deeper _) vX
 have I : Inv (sg CX P w K mg base N qual scope f cV A outer s H E) [] (start N vs) H s1 := sC S hr.hd e0 hl r x
 refine wpAny_mono (ht [] s1 (start N vs) H _ I hq) (fun fl s' hs => ?_) fun e s' hs => hs
 have fin : ∀ {σ' : St} {H' : Hp} {v : V} {u : Value}, Inv (sg CX P w K mg base N qual scope f cV A outer s H E) [] σ' H' s' -> RelV v u -> Q v H' -> CE outer P w H s Q u s' :=
  fun {σ' H' v u} J rv q => ⟨v, H', J.os, J.bare, J.base, J.aI, rv, q⟩
 cases fl with
 | ret u =>
   obtain ⟨v, σ', H', J, rv, q⟩ := hs
   exact fin J rv q
 | next =>
   obtain ⟨σ', H', J, q⟩ := hs
   exact fin (v := V.aZ) (u := Value.none) J rfl q
 | brk =>
   obtain ⟨_, _, _, q⟩ := hs
   exact False.elim q
 | cont =>
   obtain ⟨_, _, _, q⟩ := hs
   exact False.elim q
section
variable {X : Cx} {x : Str} {p pos : Pos} {e : Expr} {es : List Expr} {t : TA} {id T : String} {r : List V -> Hp -> VK -> Prop}
def F7 (r : List V -> Hp -> VK -> Prop) (t : TA) : TE := fun σ H Q => t σ H fun vs H1 => r vs H1 Q
theorem aY (hc : dh X (.builtin id) r) (hg : Gl X x) (hm : X.mg x = none) (hv : bootBuiltins x = some (.builtin id)) (ha : PA X (e :: es) t) (hn : x ≠ "__name__" := by decide) (xG : (x == ("__debug__" : Str)) = false := by decide)
 (he : starEach (e :: es) X.env = (false, eval e X.env) :: starEach es X.env := by rfl) (lF : (backTo pos (starEach es X.env)).any (·.1) = false := by rfl) : PE X (.Call (.Name x p) (e :: es) [] pos) (F7 r t) := by
 intro pins s σ H Q I h
 refine wpAny_Call_Name_kw (eB I hg hm hv ?_ hn xG)
 exact PyProof.Rows.callWith_builtin1 (bF (ha pos pins s σ H _ I h) fun us s1 ⟨vs, H1, I1, r1, q1⟩ => hc pins s1 σ H1 vs us Q I1 r1 q1) he lF
theorem iS (hc : dh X (.type T) r) (hg : Gl X x) (hm : X.mg x = none) (hv : bootBuiltins x = some (.type T)) (ha : PA X (e :: es) t) (hn : x ≠ "__name__" := by decide) (xG : (x == ("__debug__" : Str)) = false := by decide)
 (he : starEach (e :: es) X.env = (false, eval e X.env) :: starEach es X.env := by rfl) (lF : (backTo pos (starEach es X.env)).any (·.1) = false := by rfl) : PE X (.Call (.Name x p) (e :: es) [] pos) (F7 r t) := by
 intro pins s σ H Q I h
 refine wpAny_Call_Name_kw (eB I hg hm hv ?_ hn xG)
 exact PyProof.Rows.callWith_type1 (bF (ha pos pins s σ H _ I h) fun us s1 ⟨vs, H1, I1, r1, q1⟩ => hc pins s1 σ H1 vs us Q I1 r1 q1) he lF
end
end L2
namespace HT
open PySem PyProof.Rows
section
open PySem.SeqAt
open PySem.AutoSeq1 (wpAny_loadPart')
open PySem.MeetsSeq PySem.MeetsSeq2 PySem.MeetsSeq3
end
section
variable {prog : Program} {w : World} {A : Around} {E : Value -> Shared -> Prop} {s : Shared}
def ku (n d : Nat) : Option Int -> Nat
 | none => d
 | some v => if v < 0 then (v + (n : Int)).toNat else min v.toNat n
theorem p8 (n d k : Nat) : ku n d (some (k : Int)) = min k n := by
 show (if (k : Int) < 0 then ((k : Int) + (n : Int)).toNat else min (k : Int).toNat n) = min k n
 rw [if_neg (by omega), Int.toNat_natCast]
end
end HT
namespace L2
open PySem PySem.Spec PyProof.Rows
abbrev TO := St -> Hp -> (Option Int -> Hp -> Prop) -> Prop
def PO (X : Cx) (e : Option Expr) (t : TO) : Prop :=
 ∀ (pins : List (Addr × Obj)) (s : Shared) (σ : St) (H : Hp) (Q : Option Int -> Hp -> Prop), Inv X pins σ H s -> t σ H Q ->
   wpAny (model X.prog X.w) X.A (evalPart e X.env) (fun u s' => ∃ o H', Inv X pins σ H' s' /\ IsPart u o /\ Q o H') X.xe s
def qN : TO := fun _ H Q => Q none H
def yw (t : TE) : TO := fun σ H Q => t σ H fun x H1 => ∃ i, x = .int i /\ Q (some i) H1
section
variable {X : Cx} {e : Expr} {te : TE} {lo hi : Option Expr} {tl th : TO} {pos p2 : Pos}
theorem dJ : PO X none qN := by
 intro pins s σ H Q I h
 rw [evalPart_none]
 exact wpAny_pure ⟨none, H, I, .none, h⟩
theorem cG (h : PE X e te) : PO X (some e) (yw te) := by
 intro pins s σ H Q I hw
 rw [evalPart_some]
 refine bF (h pins s σ H _ I hw) fun u s1 ⟨x, H1, I1, r1, q1⟩ => ?_
 obtain ⟨i, rfl, q⟩ := q1
 obtain ⟨t, rfl⟩ := r1
 exact ⟨some i, H1, I1, .int i t, q⟩
def Hl (X : Cx) (r : V -> Option Int -> Option Int -> Hp -> VK -> Prop) : Prop :=
 ∀ (pins : List (Addr × Obj)) (s : Shared) (σ : St) (H : Hp) (x : V) (v vl vu : Value) (lo hi : Option Int) (sl : Addr) (Q : VK), Inv X pins σ H s -> RelV x v -> s.heap.IsSliceOf sl vl vu .none -> IsPart vl lo -> IsPart vu hi -> r x lo hi H Q ->
   ∃ T id, typeLookup (.type T) "__getitem__" = pure (some (.builtin id)) /\ s.TypeIs v T /\ wpAny (model X.prog X.w) X.A (getItem v (.ref sl)) (EP X pins σ Q) X.xe s
def Jz (r : V -> Option Int -> Option Int -> Hp -> VK -> Prop) (te : TE) (tl th : TO) : TE := fun σ H Q => te σ H fun x H1 => tl σ H1 fun l H2 => th σ H2 fun u H3 => r x l u H3 Q
theorem cf {r : V -> Option Int -> Option Int -> Hp -> VK -> Prop} (hr : Hl X r) (he : PE X e te) (hl : PO X lo tl) (hu : PO X hi th) : PE X (.Subscript e (.Slice lo hi none p2) pos) (Jz r te tl th) := by
 intro pins s σ H Q I h
 refine Subscript_ (bF (he pins s σ H _ I h) fun v s1 ⟨x, H1, I1, r1, q1⟩ => ?_)
 refine wpAny_Slice (bF (hl pins s1 σ H1 _ I1 q1) fun vl s2 ⟨l, H2, I2, pl, q2⟩ => bF (hu pins s2 σ H2 _ I2 q2) fun vu s3 ⟨u, H3, I3, pu, q3⟩ => ?_)
 rw [evalPart_none]
 refine wpAny_pure ?_
 have I4 : Inv X pins σ H3 { s3 with heap := s3.heap.push { cls := .type "slice", data := .fields #[vl, vu, .none] } } := I3.kept (t' := s3.toks) fun b ob q => Heap.get?_push_of_some _ q
 obtain ⟨T, id, hT, ht, hg⟩ := hr pins { s3 with heap := s3.heap.push { cls := .type "slice", data := .fields #[vl, vu, .none] } } σ H3 x v vl vu l u s3.heap.objs.size Q I4 r1 (Heap.IsSliceOf.new ..) pl pu q3
 show wpAny (model X.prog X.w) X.A (subscriptTail e (.Slice lo hi none p2) v (.ref s3.heap.objs.size)) (EP X pins σ Q) X.xe { s3 with heap := s3.heap.push { cls := .type "slice", data := .fields #[vl, vu, .none] } }
 exact tail_any (ops := [.ref s3.heap.objs.size, v]) ht hT hg (by with_unfolding_all rfl)
def pG (xs : List V) (lo hi : Option Int) : List V := (xs.drop (HT.ku xs.length 0 lo)).take (HT.ku xs.length xs.length hi - HT.ku xs.length 0 lo)
theorem nX (xs : List V) (lo hi : Option Int) : (pG xs lo hi).length <= xs.length := by
 unfold pG
 rw [List.length_take, List.length_drop]
 omega
end
def rQ (n : Nat) (i : Int) : Option Nat := if 0 <= i then (if i < n then some i.toNat else none) else if -(n : Int) <= i then some (i + n).toNat else none
def kr {α : Type} (xs : List α) (i : Int) : Option α := (rQ xs.length i).bind fun j => xs[j]?
theorem qk {n : Nat} {i : Int} {j : Nat} (h : rQ n i = some j) : seqIndex? i n = some j /\ j < n /\ -(n : Int) <= i /\ i < n := by
 unfold rQ at h
 by_cases h0 : 0 <= i
 . rw [if_pos h0] at h
   by_cases h1 : i < n
   . rw [if_pos h1] at h
     have e : i.toNat = j := Option.some.inj h
     exact ⟨by rw [seqIndex_of h0 h1, e], by omega, by omega, h1⟩
   . rw [if_neg h1] at h; cases h
 . rw [if_neg h0] at h
   by_cases h1 : -(n : Int) <= i
   . rw [if_pos h1] at h
     have e : (i + n).toNat = j := Option.some.inj h
     exact ⟨by rw [seqIndex_neg (by omega) h1, e], by omega, h1, by omega⟩
   . rw [if_neg h1] at h; cases h
theorem lP {α : Type} {xs : List α} {i : Int} {v : α} (h : kr xs i = some v) : ∃ j, seqIndex? i xs.length = some j /\ xs[j]? = some v /\ j < xs.length /\ -(xs.length : Int) <= i /\ i < xs.length := by
 unfold kr at h
 cases e : rQ xs.length i with
 | none => rw [e] at h; cases h
 | some j =>
   rw [e] at h
   obtain ⟨h1, h2, h3, h4⟩ := qk e
   exact ⟨j, h1, h, h2, h3, h4⟩
theorem fR {α : Type} {xs : List α} {j : Nat} {v : α} (h : xs[j]? = some v) : kr xs (j : Int) = some v := by
 have hj : j < xs.length := (List.getElem?_eq_some_iff.mp h).1
 have e : rQ xs.length (j : Int) = some j := by
  unfold rQ
  rw [if_pos (by omega), if_pos (by omega)]; simp
 unfold kr; rw [e]; exact h
theorem va {α : Type} (xs : List α) (v : α) : kr (xs ++ [v]) (-1) = some v := by
 have hl : (xs ++ [v]).length = xs.length + 1 := by simp
 have e : rQ (xs ++ [v]).length (-1) = some xs.length := by
  unfold rQ
  rw [hl, if_neg (by decide), if_pos (by omega)]
  congr 1
  omega
 unfold kr
 rw [e]
 show (xs ++ [v])[xs.length]? = some v
 simp
def wN (b : Expr) : Prop := ∀ o i, subscripted b false o i = operate [o, i] (getItem o i)
def sU (X : Cx) (r : R2) : Prop :=
 ∀ (value slice : Expr) (pins : List (Addr × Obj)) (s : Shared) (σ : St) (H : Hp) (x y : V) (v u : Value) (Q : VK), Inv X pins σ H s -> RelV x v -> RelV y u -> r x y H Q ->
   subscripted slice false v u = operate [v, u] (getItem v u) -> wpAny (model X.prog X.w) X.A (subscriptTail value slice v u) (EP X pins σ Q) X.xe s
def MF (X : Cx) (id : String) (r : V -> List V -> Hp -> VK -> Prop) : Prop :=
 ∀ (pins : List (Addr × Obj)) (s : Shared) (σ : St) (H : Hp) (x : V) (xs : List V) (v : Value) (us : List Value) (Q : VK), Inv X pins σ H s -> RelV x v -> Vals xs us -> r x xs H Q ->
   wpAny (model X.prog X.w) X.A (call (.builtin id) (v :: us)) (EP X pins σ Q) X.xe s
section
variable {X : Cx} {a b : Expr} {ta tb : TE} {pos : Pos}
theorem sU.or {r r' : R2} (h : sU X r) (h' : sU X r') : sU X (fun x y H Q => r x y H Q \/ r' x y H Q) := by
 intro value slice pins s σ H x y v u Q I rx ry q hs
 rcases q with q | q
 . exact h value slice pins s σ H x y v u Q I rx ry q hs
 . exact h' value slice pins s σ H x y v u Q I rx ry q hs
theorem aS {r : R2} (hr : sU X r) (ha : PE X a ta) (hb : PE X b tb) (hs : wN b) : PE X (.Subscript a b pos) (D3 r ta tb) := by
 intro pins s σ H Q I h
 exact Subscript_ (zq ha hb I h fun v u s2 x y H2 I2 rx ry q => hr a b pins s2 σ H2 x y v u Q I2 rx ry q (hs _ _))
def Bx (K : PySem.W.Frag) : R2 := fun x y H Q => ∃ p xs i v, x = .ref p /\ y = .int i /\ bp K H p xs /\ kr xs i = some v /\ Q v H
def zQ (K : PySem.W.Frag) : R2 := fun x y H Q => ∃ p xs i v, x = .ref p /\ y = .int i /\ nD K H p xs /\ kr xs i = some v /\ Q v H
def BU : R2 := fun x y H Q => ∃ z i c, x = .str z /\ y = .int i /\ z.length <= sizeLine /\ kr z.cps.toList i = some c /\ Q (.str ⟨#[c]⟩) H
theorem qE : sU X (Bx X.K) := by
 intro value slice pins s σ H x y v u Q I rx ry h hs
 obtain ⟨p, xs, i, z, rfl, rfl, hq, he, q⟩ := h
 cases rx
 obtain ⟨t, rfl⟩ := ry
 obtain ⟨az, r, pl, hz⟩ := I.list hq
 obtain ⟨j, h1, h2, h3, h4, h5⟩ := lP he
 obtain ⟨w, ew, u6⟩ := r.get h2
 have hl := r.length
 have hn := gL
 have fin : EP X pins σ Q w s := ⟨z, H, I, u6, q⟩
 by_cases h0 : 0 <= i
 . have hj : i.toNat = j := by
    rw [seqIndex_of h0 h5] at h1
    exact Option.some.inj h1
   exact item_listR pl.isList h0 (by omega) (by rw [hj]; simpa using ew) fin hs
 . have hj : (i + (az.toArray.size : Int)).toNat = j := by
    rw [seqIndex_neg (by omega) h4] at h1
    rw [List.size_toArray, <- hl]
    exact Option.some.inj h1
   exact subscriptTail_builtinR (x := w) pl.isList.typeIs slot_list_getitem.lookup
    (wpAny_getItem_list_neg (Q := fun r s' => r = w /\ EP X pins σ Q r s') pl.isList (by omega) (by rw [List.size_toArray] <;> omega) (by omega) (by rw [hj]; simpa using ew) ⟨rfl, fin⟩) hs
theorem ef : sU X (zQ X.K) := by
 intro value slice pins s σ H x y v u Q I rx ry h hs
 obtain ⟨p, xs, i, z, rfl, rfl, hq, he, q⟩ := h
 cases rx
 obtain ⟨t, rfl⟩ := ry
 obtain ⟨az, r, pl, hz⟩ := I.tuple hq
 obtain ⟨j, h1, h2, h3, h4, h5⟩ := lP he
 obtain ⟨w, ew, u6⟩ := r.get h2
 have hl := r.length
 have hn := gL
 have fin : EP X pins σ Q w s := ⟨z, H, I, u6, q⟩
 exact subscriptTail_builtinR (x := w) pl.typeIs slot_tuple_getitem.lookup
  (getItem_tuple (j := j) (Q := fun r s' => r = w /\ EP X pins σ Q r s') pl (by omega) (by omega) (by rw [List.size_toArray, <- hl]; exact h1) (by simpa using ew) ⟨rfl, fin⟩) hs
theorem Ax : sU X BU := by
 intro value slice pins s σ H x y v u Q I rx ry h hs
 obtain ⟨z, i, c, rfl, rfl, hz, he, q⟩ := h
 obtain ⟨t, rfl⟩ := rx
 obtain ⟨t', rfl⟩ := ry
 obtain ⟨j, h1, h2, h3, h4, h5⟩ := lP he
 have hl : z.cps.toList.length = z.length := by simp [Str.length]
 rw [hl] at h1 h4 h5
 have hn := gL
 exact tail_any (typeIs_str s z t) slot_str_getitem.lookup (getItem_str (c := c) (by
  have e1 : decide (i < -(2 ^ 63 : Int)) = false := decide_eq_false (by omega)
  have e2 : decide (i ≥ 2 ^ 63) = false := decide_eq_false (by omega)
  rw [e1, e2, Bool.or_false]) (by rw [h1]; simpa using h2) ⟨.str ⟨#[c]⟩, H, I.tok _, ⟨_, rfl⟩, q⟩) hs
def JM (K : PySem.W.Frag) : R2 := fun x y H Q => Bx K x y H Q \/ zQ K x y H Q \/ BU x y H Q
theorem A7 : sU X (JM X.K) := qE.or (ef.or Ax)
theorem pU (az : List Value) (n j : Nat) (u : Value) : Obj.mapSeq (·.setIfInBounds j u) { cls := .type "list", data := .seq az.toArray n } = { cls := .type "list", data := .seq (az.set j u).toArray n } := by
 simp [Obj.mapSeq]
theorem Inv.lst {pins : List (Addr × Obj)} {σ : St} {H : Hp} {s : Shared} {p : Addr} {xs : List V} (I : Inv X pins σ H s) (h : H p = some (.lst xs)) :
 ∃ (az : List Value) (n : Nat), Vals xs az /\ s.heap.get? p = some { cls := .type "list", data := .seq az.toArray n } /\ xs.length <= sizeLine := by
 obtain ⟨z, az, n, r, e⟩ := I.aI p _ h
 exact ⟨az, n, r, e, z⟩
theorem Inv.Ai {pins : List (Addr × Obj)} {σ : St} {H : Hp} {s : Shared} {p : Addr} {xs ys : List V} {az its' : List Value} {n n' : Nat} {f : Obj -> Obj} (I : Inv X pins σ H s) (h : H p = some (.lst xs))
 (ho : s.heap.get? p = some { cls := .type "list", data := .seq az.toArray n }) (hf : f { cls := .type "list", data := .seq az.toArray n } = { cls := .type "list", data := .seq its'.toArray n' }) (r : Vals ys its') (hz : ys.length <= sizeLine) (t : Nat) :
 Inv X pins σ (upd H p (.lst ys)) { s with heap := s.heap.update p f, toks := t } := by
 have e : (s.heap.update p f).get? p = some { cls := .type "list", data := .seq its'.toArray n' } := by
  rw [Heap.get?_update_self f ho (by rw [hf] <;> rfl), hf]
 refine I.write (x := p) (e := p) (by rw [h]; trivial) (.inl rfl) (fun b u hb q => (Heap.get?_update_other _ _ (Ne.symm hb)).trans q) ⟨_, e⟩ ?_
 exact ⟨hz, its', n', r, e⟩
def yQ : V -> V -> V -> Hp -> (Hp -> Prop) -> Prop := fun o i v H Q => ∃ p xs k j, o = .ref p /\ i = .int k /\ H p = some (.lst xs) /\ rQ xs.length k = some j /\ Q (upd H p (.lst (xs.set j v)))
theorem set_list : CF X yQ := by
 intro pins s σ H o i v ov iv u Q I ro ri rv h
 obtain ⟨p, xs, k, j, rfl, rfl, hp, hj, q⟩ := h
 cases ro
 obtain ⟨t, rfl⟩ := ri
 obtain ⟨az, n, r, ho, hz⟩ := I.lst hp
 obtain ⟨h1, h2, h3, h4⟩ := qk hj
 have hl := r.length
 have hn := gL
 have I' : Inv X pins σ (upd H p (.lst (xs.set j v))) { s with heap := s.heap.update p (Obj.mapSeq (·.setIfInBounds j u)) } :=
  I.Ai hp ho (pU az n j u) (r.set rv j) (by rw [List.length_set]; exact hz) s.toks
 by_cases h0 : 0 <= k
 . have hk : k.toNat = j := by
    rw [seqIndex_of h0 h4] at h1
    exact Option.some.inj h1
   exact PySem.W.ki_setAt ho h0 (by omega) (by rw [List.size_toArray, <- hl]; exact h4) (by rw [hk]; exact ⟨_, I', q⟩)
 . have hk : (k + (az.toArray.size : Int)).toNat = j := by
    rw [seqIndex_neg (by omega) h3] at h1
    rw [List.size_toArray, <- hl]
    exact Option.some.inj h1
   exact PySem.W.ki_setBack ho (by omega) (by rw [List.size_toArray, <- hl]; exact h3) (by omega) (by rw [hk]; exact ⟨_, I', q⟩)
theorem lZ (lo hi : Option Int) (n : Nat) : (sliceBounds lo hi none n).1 = ((HT.ku n 0 lo : Nat) : Int) /\ (sliceBounds lo hi none n).2.1 = ((HT.ku n n hi : Nat) : Int) /\ (sliceBounds lo hi none n).2.2 = 1 := by
 refine ⟨?_, ?_, rfl⟩
 . cases lo with
   | none => simp [sliceBounds, HT.ku]
   | some i =>
     simp only [sliceBounds, HT.ku, Option.getD_none, show (1 : Int) > 0 by decide, if_true]
     by_cases h : i < 0
     . simp only [h, if_true] <;> omega
     . simp only [h, if_false] <;> omega
 . cases hi with
   | none => simp [sliceBounds, HT.ku]
   | some i =>
     simp only [sliceBounds, HT.ku, Option.getD_none, show (1 : Int) > 0 by decide, if_true]
     by_cases h : i < 0
     . simp only [h, if_true] <;> omega
     . simp only [h, if_false] <;> omega
theorem kE (az : List Value) (lo hi : Option Int) : slicePick az.toArray lo hi none = ((az.drop (HT.ku az.length 0 lo)).take (HT.ku az.length az.length hi - HT.ku az.length 0 lo)).toArray := by
 obtain ⟨h1, h2, h3⟩ := lZ lo hi az.toArray.size
 unfold slicePick
 rw [h1, h2, h3]
 simp only [sliceRange_one, pick_run, List.size_toArray] <;> rfl
def wY (K : PySem.W.Frag) : V -> Option Int -> Option Int -> Hp -> VK -> Prop := fun x lo hi H Q => ∃ a xs, x = .ref a /\ bp K H a xs /\ ∀ p, H p = none -> Q (.ref p) (upd H p (.lst (pG xs lo hi)))
theorem mD : Hl X (wY X.K) := by
 intro pins s σ H x v vl vu lo hi sl Q I rx hs pl pu h
 obtain ⟨a, xs, rfl, hx, q⟩ := h
 cases rx
 obtain ⟨az, r, ht, hz⟩ := I.list hx
 have hlen := r.length
 refine ⟨"list", _, slot_list_getitem.lookup, ht.isList.typeIs, ?_⟩
 refine wpAny_getItem_list_slice ht.isList hs pl pu .none (by simp) ?_ (by rw [List.size_toArray] <;> omega)
 rw [kE, <- hlen]
 refine ⟨.ref s.heap.objs.size, _, I.laid (t' := s.toks) (o := .lst (pG xs lo hi)) (fun b ob q => Heap.get?_push_of_some _ q) (Nat.le_refl _) ?_, rfl, q _ (I.aI.fresh (Nat.le_refl _))⟩
 exact ⟨Nat.le_trans (nX xs lo hi) hz, _, 0, (r.drop (HT.ku xs.length 0 lo)).take (HT.ku xs.length xs.length hi - HT.ku xs.length 0 lo), Heap.get?_push_size _ rfl⟩
def f6 : V -> Bool
 | .aZ => true
 | .bl _ => true
 | .int _ => true
 | .str _ => true
 | _ => false
def xJ : V -> V -> Bool
 | .aZ, .aZ => true
 | .bl a, .bl b => a == b
 | .bl a, .int b => (if a then 1 else 0) == b
 | .int a, .bl b => a == (if b then 1 else 0)
 | .int a, .int b => a == b
 | .str a, .str b => a == b
 | _, _ => false
theorem BD {A : Around} {s : Shared} {y x : V} {u v : Value} (ry : RelV y u) (rx : RelV x v) (fy : f6 y = true) (fx : f6 x = true) : SeqAt.EqAt A s u v (xJ y x) := by
 cases y with
 | aZ =>
   cases ry
   cases x with
   | aZ => cases rx; exact SeqAt.EqAt.same _
   | bl b => cases rx; exact SeqAt.EqAt.none_bool b
   | int b => obtain ⟨t, rfl⟩ := rx; exact SeqAt.EqAt.none_int b t
   | str b => obtain ⟨t, rfl⟩ := rx; exact SeqAt.EqAt.none_str b t
   | _ => exact absurd (show false = true from fx) Bool.false_ne_true
 | bl a =>
   cases ry
   cases x with
   | aZ => cases rx; exact SeqAt.EqAt.bool_none a
   | bl b => cases rx; exact SeqAt.EqAt.bool_bool a b
   | int b => obtain ⟨t, rfl⟩ := rx; exact SeqAt.EqAt.bool_int a b t
   | str b => obtain ⟨t, rfl⟩ := rx; exact SeqAt.EqAt.bool_str a b t
   | _ => exact absurd (show false = true from fx) Bool.false_ne_true
 | int a =>
   obtain ⟨t', rfl⟩ := ry
   cases x with
   | aZ => cases rx; exact SeqAt.EqAt.int_none a t'
   | bl b => cases rx; exact SeqAt.EqAt.int_bool a t' b
   | int b => obtain ⟨t, rfl⟩ := rx; exact SeqAt.EqAt.int_int a t' b t
   | str b => obtain ⟨t, rfl⟩ := rx; exact SeqAt.EqAt.int_str a t' b t
   | _ => exact absurd (show false = true from fx) Bool.false_ne_true
 | str a =>
   obtain ⟨t', rfl⟩ := ry
   cases x with
   | aZ => cases rx; exact SeqAt.EqAt.str_none a t'
   | bl b => cases rx; exact SeqAt.EqAt.str_bool a t' b
   | int b => obtain ⟨t, rfl⟩ := rx; exact SeqAt.EqAt.str_int a t' b t
   | str b => obtain ⟨t, rfl⟩ := rx; exact SeqAt.EqAt.str_str a t' b t
   | _ => exact absurd (show false = true from fx) Bool.false_ne_true
 | _ => exact absurd (show false = true from fy) Bool.false_ne_true
def xY (x : V) (u : Value) : Bool := match u with
 | .none => xJ .aZ x
 | .bool b => xJ (.bl b) x
 | .int i _ => xJ (.int i) x
 | .str z _ => xJ (.str z) x
 | _ => false
theorem uz {x y : V} {u : Value} (r : RelV y u) (f : f6 y = true) : xY x u = xJ y x := by
 cases y with
 | aZ => cases r; rfl
 | bl b => cases r; rfl
 | int i => obtain ⟨t, rfl⟩ := r; rfl
 | str z => obtain ⟨t, rfl⟩ := r; rfl
 | _ => exact absurd (show false = true from f) Bool.false_ne_true
theorem lW {x : V} : ∀ {xs : List V} {us : List Value}, Vals xs us -> xs.all f6 = true -> us.any (xY x) = xs.any fun y => xJ y x
 | _, _, .nil, _ => rfl
 | y :: xs, u :: us, .cons r t, f => by
   rw [List.all_cons, Bool.and_eq_true] at f
   rw [List.any_cons, List.any_cons, uz r f.1, lW t f.2]
theorem jF {A : Around} {s : Shared} {x : V} {v : Value} (rx : RelV x v) (fx : f6 x = true) : ∀ {xs : List V} {us : List Value}, Vals xs us -> xs.all f6 = true -> ∀ u ∈ us, SeqAt.EqAt A s u v (xY x u)
 | _, _, .nil, _ => fun u hu => by cases hu
 | y :: xs, u :: us, .cons r t, f => fun u' hu => by
   rw [List.all_cons, Bool.and_eq_true] at f
   rcases List.mem_cons.mp hu with rfl | hu
   . rw [uz r f.1]; exact BD r rx f.1 fx
   . exact jF rx fx t f.2 u' hu
def FA (x : V) (xs : List V) : Bool := xs.any fun y => xJ y x
def Hq (K : PySem.W.Frag) (neg : Bool) : R2 := fun x y H Q => ∃ p xs, y = .ref p /\ (bp K H p xs \/ nD K H p xs) /\ f6 x = true /\ xs.all f6 = true /\ Q (.bl (if neg then !FA x xs else FA x xs)) H
theorem r9 : gu X (compareOp .In) (Hq X.K false) := by
 intro pins s σ H x y v u Q I rx ry h
 obtain ⟨p, xs, rfl, hq, fx, fs, q⟩ := h
 cases ry
 rcases hq with hq | hq
 . obtain ⟨az, r, pl, hz⟩ := I.list hq
   refine SeqAt.in_listAt (xY x) pl.isList (fun w hw => jF rx fx r fs w (by simpa using hw)) ⟨.bl _, H, I, rfl, ?_⟩
   rw [show az.toArray.any (xY x) = az.any (xY x) by simp, lW r fs]
   exact q
 . obtain ⟨az, r, pl, hz⟩ := I.tuple hq
   refine SeqAt.in_tupleAt (xY x) pl (fun w hw => jF rx fx r fs w (by simpa using hw)) ⟨.bl _, H, I, rfl, ?_⟩
   rw [show az.toArray.any (xY x) = az.any (xY x) by simp, lW r fs]
   exact q
theorem er : dh X (.builtin "len") (fun xs H Q => ∃ p ys, xs = [.ref p] /\ (bp X.K H p ys \/ nD X.K H p ys) /\ Q (.int ys.length) H) := by
 intro pins s σ H xs us Q I r h
 obtain ⟨p, ys, rfl, hq, q⟩ := h
 obtain ⟨u, rfl, rx⟩ := vals1 r
 cases rx
 have hn := gL
 rcases hq with hq | hq
 . obtain ⟨az, r', pl, hz⟩ := I.list hq
   have hlen := r'.length
   exact Calls.call_len_list pl.isList (by simp only [List.size_toArray] <;> omega) ⟨.int ys.length, H, I.tok _, ⟨s.toks + 1, by rw [List.size_toArray, hlen]⟩, q⟩
 . obtain ⟨az, r', pl, hz⟩ := I.tuple hq
   have hlen := r'.length
   exact len_tuple pl (by simp only [List.size_toArray] <;> omega) ⟨.int ys.length, H, I.tok _, ⟨s.toks + 1, by rw [List.size_toArray, hlen]⟩, q⟩
theorem mr : dh X (.builtin "len") (fun xs H Q => ∃ z, xs = [.str z] /\ z.length <= sizeLine /\ Q (.int z.length) H) := by
 intro pins s σ H xs us Q I r h
 obtain ⟨z, rfl, hz, q⟩ := h
 obtain ⟨u, rfl, t, rfl⟩ := vals1 r
 have hn := gL
 exact len_str (by omega) ⟨.int z.length, H, I.tok _, ⟨_, rfl⟩, q⟩
theorem lN : dh X (.type "list") (fun xs H Q => ∃ p ys, xs = [.ref p] /\ (bp X.K H p ys \/ nD X.K H p ys) /\ ∀ l, H l = none -> Q (.ref l) (upd H l (.lst ys))) := by
 intro pins s σ H xs us Q I r h
 obtain ⟨p, ys, rfl, hq, q⟩ := h
 obtain ⟨u, rfl, rx⟩ := vals1 r
 cases rx
 have fin : ∀ (az : List Value), Vals ys az -> ys.length <= sizeLine -> ∀ (h' : Heap) (c' : Nat), (∀ b o', s.heap.get? b = some o' -> h'.get? b = some o') ->
  h'.get? s.heap.objs.size = some { cls := .type "list", dict := none, data := .seq az.toArray c', slots := #[] } -> EP X pins σ Q (.ref s.heap.objs.size) { s with heap := h' } := fun az r' hz h' c' kp e =>
  ⟨.ref s.heap.objs.size, _, I.laid (t' := s.toks) kp (Nat.le_refl _) (show bM X.prog X.w _ h' _ (.lst ys) from ⟨hz, az, c', r', e⟩), rfl, q _ (I.aI.fresh (Nat.le_refl _))⟩
 rcases hq with hq | hq
 . obtain ⟨az, r', pl, hz⟩ := I.list hq
   have hlen := r'.length
   obtain ⟨o, ho, hc, n, hd⟩ := pl.isList
   exact call_list_seq p (.inl rfl) ho hc hd (fun h' c' kp e => fin az r' hz h' c' kp e) (by simp only [List.size_toArray] <;> omega)
 . obtain ⟨az, r', pl, hz⟩ := I.tuple hq
   have hlen := r'.length
   obtain ⟨o, ho, hc, n, hd⟩ := pl
   exact call_list_seq p (.inr rfl) ho hc hd (fun h' c' kp e => fin az r' hz h' c' kp e) (by simp only [List.size_toArray] <;> omega)
def DN (K : PySem.W.Frag) (T : String) (x : V) (H : Hp) : Prop := match x with
 | .str _ => T = "str"
 | .int _ => T = "int"
 | .ref p => (T = "list" /\ ∃ xs, bp K H p xs) \/ (T = "tuple" /\ ∃ o, K.lookup p = some o /\ o.cls = .type "tuple" /\ o.dict = none) \/
  (T = "dict" /\ ((∃ ax, H p = some (.dK ax)) \/ ∃ ax, H p = some (.dT ax))) \/ (T = "set" /\ ∃ S n, H p = some (.set S n))
 | _ => False
theorem vo {pins : List (Addr × Obj)} {σ : St} {H : Hp} {s : Shared} {T : String} {x : V} {v : Value} (I : Inv X pins σ H s) (r : RelV x v) (ty : DN X.K T x H) :
 s.TypeIs v T /\ ∀ a, v = .ref a -> ∃ ob, s.heap.get? a = some ob /\ ob.dict = none := by
 cases x with
 | str z =>
   obtain ⟨t, rfl⟩ := r
   cases (show T = "str" from ty)
   exact ⟨typeIs_str s z t, fun _ e => nomatch e⟩
 | int i =>
   obtain ⟨t, rfl⟩ := r
   cases (show T = "int" from ty)
   exact ⟨typeIs_int s i t, fun _ e => nomatch e⟩
 | ref p =>
   cases r
   rcases ty with ⟨rfl, xs, hq⟩ | ⟨rfl, o, hk, hc, hd⟩ | ⟨rfl, hk⟩ | ⟨rfl, S, n, hk⟩
   . obtain ⟨az, _, pl, _⟩ := I.list hq
     refine ⟨pl.isList.typeIs, fun a e => ?_⟩
     cases e
     obtain ⟨o, n, e, c, hd, _⟩ := pl
     exact ⟨o, e, hd⟩
   . refine ⟨⟨o, I.zt p o hk, hc⟩, fun a e => ?_⟩
     cases e
     exact ⟨o, I.zt _ o hk, hd⟩
   . have z : ∃ o, s.heap.get? p = some o /\ o.ExactDict := by
      rcases hk with ⟨ax, hk⟩ | ⟨ax, hk⟩
      . obtain ⟨_, _, _, _, o, _, _, e, ex, _⟩ := I.aI p _ hk
        exact ⟨o, e, ex⟩
      . obtain ⟨_, _, _, _, o, _, _, e, ex, _⟩ := I.aI p _ hk
        exact ⟨o, e, ex⟩
     obtain ⟨o, e, ex⟩ := z
     refine ⟨⟨o, e, ex.1⟩, fun a e2 => ?_⟩
     cases e2
     exact ⟨o, e, ex.2.1⟩
   . obtain ⟨o, _, _, _, e, ex, _⟩ := I.aI p _ hk
     refine ⟨⟨o, e, ex.1⟩, fun a e2 => ?_⟩
     cases e2
     exact ⟨o, e, ex.2.1⟩
 | _ => exact False.elim ty
def Jg (K : PySem.W.Frag) (T : String) (r : V -> List V -> Hp -> VK -> Prop) (to : TE) (t : TA) : TE := fun σ H Q => to σ H fun x H1 => DN K T x H1 /\ t σ H1 fun xs H2 => r x xs H2 Q
variable {o e : Expr} {es : List Expr} {to : TE} {t : TA} {name : Str} {apos c4 : Pos} {T id : String} {r : V -> List V -> Hp -> VK -> Prop}
theorem lu (pa : PlainAttrs T) (slot : Slot T name id) (KS : typeOf (.builtin id) = pure (.type "method_descriptor")) (hm : MF X id r) (ho : PE X o to) (ha : PA X (e :: es) t)
 (vM : attributeBase o name X.env (eval o X.env) = eval o X.env := by rfl)
 (G2 : ((backTo c4 (starEach (e :: es) X.env)).all (fun x => !x.1) && (backToKw c4 (keywordEach [] X.env)).all (fun x => x.1.isSome)
  && decide ((e :: es).length + ([] : List Keyword).length + (if ([] : List Keyword).isEmpty then 0 else 1) < 30)) = true := by rfl)
 (hline : (apos.endLine == c4.line) = true := by rfl) (hs : starEach (e :: es) X.env = (false, eval e X.env) :: starEach es X.env := by rfl) (zJ : (backTo c4 (starEach es X.env)).any (·.1) = false := by rfl) :
 PE X (.Call (.Attribute o name apos) (e :: es) [] c4) (Jg X.K T r to t) := by
 intro pins s σ H Q I h
 refine wpAny_Call_method_late vM G2 hline rfl (bF (ho pins s σ H _ I h) fun v s1 ⟨x, H1, I1, r1, ty, q1⟩ => ?_)
 obtain ⟨h1, h2⟩ := vo I1 r1 ty
 refine ⟨T, id, pa, slot, KS, h1, h2, ?_⟩
 have hA := ha c4 pins s1 σ H1 _ I1 q1
 rw [hs] at hA ⊢
 refine Calls.callWith_builtin (by show (false || (backTo c4 (starEach es X.env)).any (·.1)) = false; rw [zJ] <;> rfl) (Calls.evalArgs_plain ?_)
 exact bF hA fun us s2 ⟨vs, H2, I2, r2, q2⟩ => hm pins s2 σ H2 x vs v us Q I2 r1 r2 q2
end
def Lr (X : Cx) (id : String) (r : V -> List V -> Hp -> VK -> Prop) : Prop :=
 ∀ (pins : List (Addr × Obj)) (s : Shared) (σ : St) (H : Hp) (x : V) (xs : List V) (v : Value) (us : List Value) (Q : VK), Inv X pins σ H s -> RelV x v -> Vals xs us -> r x xs H Q ->
   wpAny (model X.prog X.w) X.A (call (.builtin id) (v :: us)) (EP X pins σ Q) X.xe s
theorem Vals.one : ∀ {x : V} {us : List Value}, Vals [x] us -> ∃ u, us = [u] /\ RelV x u
 | _, _, .cons r .nil => ⟨_, rfl, r⟩
section
variable {X : Cx} {pins : List (Addr × Obj)} {σ : St} {H : Hp} {s : Shared} {l b : Addr} {xs ys zs : List V}
theorem Inv.Hw {az its' : List Value} {n : Nat} {f : Array Value -> Array Value} {t' : Nat} (I : Inv X pins σ H s) (hH : H l = some (.lst xs))
 (e : s.heap.get? l = some { cls := .type "list", data := .seq az.toArray n }) (hf : f az.toArray = its'.toArray) (hv : Vals ys its') (hz : ys.length <= sizeLine) :
 Inv X pins σ (upd H l (.lst ys)) { s with heap := s.heap.update l (Obj.mapSeq f), toks := t' } := by
 have q := PySem.IsL.update e f
 rw [hf] at q
 refine I.write (x := l) (e := l) (by rw [hH]; exact trivial) (.inl rfl) (fun b' u hb hu => (Heap.get?_update_other s.heap (Obj.mapSeq f) (Ne.symm hb)).trans hu) ⟨_, q⟩ ?_
 exact ⟨hz, its', _, hv, q⟩
theorem Inv.Hm {az : List Value} {t' : Nat} (I : Inv X pins σ H s) (hv : Vals ys az) (hz : ys.length <= sizeLine) :
 Inv X pins σ (upd H s.heap.objs.size (.lst ys)) { s with heap := s.heap.push { cls := .type "list", data := .seq az.toArray }, toks := t' } :=
 I.laid (fun _ _ q => Heap.get?_push_of_some _ q) (Nat.le_refl _) ⟨hz, az, 0, hv, Heap.get?_push_size _ rfl⟩
theorem Inv.fresh (I : Inv X pins σ H s) : H s.heap.objs.size = none := I.aI.fresh (Nat.le_refl _)
theorem Inv.zD (I : Inv X pins σ H s) (hH : H l = some (.lst xs)) : xs.length <= sizeLine /\ ∃ (az : List Value) (n : Nat), Vals xs az /\ xs.length = az.length /\ s.heap.get? l = some { cls := .type "list", data := .seq az.toArray n } := by
 obtain ⟨z, az, n, r, e⟩ := I.aI l _ hH
 exact ⟨z, az, n, r, r.length, e⟩
end
section
variable {X : Cx}
def mI : V -> List V -> Hp -> VK -> Prop := fun x vs H Q => ∃ l xs y, x = .ref l /\ vs = [y] /\ H l = some (.lst xs) /\ xs.length < sizeLine /\ Q .aZ (upd H l (.lst (xs ++ [y])))
theorem c7 : Lr X "list.append" mI := by
 intro pins s σ H x vs v us Q I rx rv h
 obtain ⟨l, xs, y, rfl, rfl, hH, hz, q⟩ := h
 cases rx
 obtain ⟨u, rfl, ru⟩ := rv.one
 obtain ⟨z, az, n, r, hl, e⟩ := I.zD hH
 refine call_meets F.slot_list_append ⟨_, e, rfl⟩ F.entry_list_append (F.args_list_append_2 _ _) (PySem.list_append l az.toArray n u (by rw [List.size_toArray]; omega)) ⟨e, ?_⟩
 refine ⟨.aZ, _, I.Hw (its' := az ++ [u]) hH e (by simp) (r.append (.cons ru .nil)) ?_, rfl, q⟩
 rw [List.length_append, List.length_singleton]
 omega
def Af : R2 := fun x y H Q => ∃ l b xs zs, x = .ref l /\ y = .ref b /\ H l = some (.lst xs) /\ H b = some (.lst zs) /\ xs.length + zs.length <= sizeLine /\ ∀ p, H p = none -> Q (.ref p) (upd H p (.lst (xs ++ zs)))
theorem uB : gu X (binaryOp .Add) Af := by
 intro pins s σ H x y v u Q I rx ry h
 obtain ⟨l, b, xs, zs, rfl, rfl, hH, hB, hz, q⟩ := h
 cases rx
 cases ry
 obtain ⟨z, az, n, r, hl, e⟩ := I.zD hH
 obtain ⟨z2, vE, n2, r2, uS, e2⟩ := I.zD hB
 refine PySem.P.add_list e e2 ?_ (by rw [List.size_toArray, List.size_toArray]; omega)
 have ea : az.toArray ++ vE.toArray = (az ++ vE).toArray := by simp
 rw [ea]
 exact ⟨.ref _, _, I.Hm (t' := s.toks) (r.append r2) (by rw [List.length_append]; omega), rfl, q _ I.fresh⟩
end
section
variable {prog : Program} {w : World} {A : Around} {E : Value -> Shared -> Prop} {s : Shared}
set_option maxRecDepth 100000 in
end
section
variable {X : Cx}
end
section
variable {κ : Type} [DecidableEq κ]
def iU (ax : List (κ × V)) (k : κ) : Option V := (ax.find? fun kv => decide (kv.1 = k)).map (·.2)
def putK (ax : List (κ × V)) (k : κ) (v : V) : List (κ × V) :=
 if (ax.any fun kv => decide (kv.1 = k)) = true then ax.map (fun kv => if kv.1 = k then (kv.1, v) else kv) else ax ++ [(k, v)]
theorem g8 {p : κ × V} {r : List (κ × V)} {k : κ} (e : p.1 = k) : iU (p :: r) k = some p.2 := by simp [iU, List.find?_cons, e]
theorem fb {p : κ × V} {r : List (κ × V)} {k : κ} (e : ¬ p.1 = k) : iU (p :: r) k = iU r k := by simp [iU, List.find?_cons, e]
theorem nG (k : κ) : ∀ ax : List (κ × V), (ax.any fun kv => decide (kv.1 = k)) = (iU ax k).isSome
 | [] => rfl
 | p :: r => by
   rw [List.any_cons]
   by_cases e : p.1 = k
   . simp only [g8 e, decide_eq_true e, Bool.true_or, Option.isSome_some]
   . rw [fb e, decide_eq_false e, Bool.false_or]; exact nG k r
theorem jj (ax : List (κ × V)) (k : κ) (v : V) : (putK ax k v).length <= ax.length + 1 := by
 unfold putK
 split
 . rw [List.length_map]; omega
 . rw [List.length_append, List.length_cons, List.length_nil]; omega
theorem ky.rD {o : Option V} {u : Option Value} (r : ky o u) : o.isSome = u.isSome := by
 cases o with
 | none => cases u with
   | none => rfl
   | some _ => exact (show False from r).elim
 | some _ => cases u with
   | none => exact (show False from r).elim
   | some _ => rfl
theorem KV.val {ax : List (κ × V)} {vs : List (κ × Value)} (r : KV ax vs) (k : κ) : ky (iU ax k) (valueAt vs k) := by
 unfold KV at r
 induction r with
 | nil => exact True.intro
 | @cons p q ps qs h t ih =>
   obtain ⟨h1, h2⟩ := h
   by_cases e : p.1 = k
   . have e' : q.1 = k := h1.symm.trans e
     have b : valueAt (q :: qs) k = some q.2 := by simp [valueAt, List.find?_cons, e']
     rw [g8 e, b]; exact h2
   . have e' : ¬ q.1 = k := fun z => e (h1.trans z)
     have b : valueAt (q :: qs) k = valueAt qs k := by simp [valueAt, List.find?_cons, e']
     rw [fb e, b]; exact ih
theorem KV.any {ax : List (κ × V)} {vs : List (κ × Value)} (r : KV ax vs) (k : κ) : (ax.any fun kv => decide (kv.1 = k)) = vs.any fun kv => decide (kv.1 = k) := by
 unfold KV at r
 induction r with
 | nil => rfl
 | cons h t ih => rw [List.any_cons, List.any_cons, ih, h.1]
theorem KV.repl {ax : List (κ × V)} {vs : List (κ × Value)} (r : KV ax vs) (k : κ) {y : V} {u : Value} (ry : RelV y u) :
 KV (ax.map fun kv => if kv.1 = k then (kv.1, y) else kv) (vs.map fun kv => if kv.1 = k then (kv.1, u) else kv) := by
 unfold KV at r ⊢
 induction r with
 | nil => exact .nil
 | @cons p q ps qs h t ih =>
   rw [List.map_cons, List.map_cons]
   refine .cons ?_ ih
   obtain ⟨h1, h2⟩ := h
   by_cases e : p.1 = k
   . rw [if_pos e, if_pos (h1.symm.trans e)]; exact ⟨h1, ry⟩
   . rw [if_neg e, if_neg (fun z => e (h1.trans z))]; exact ⟨h1, h2⟩
theorem KV.put {ax : List (κ × V)} {vs : List (κ × Value)} (r : KV ax vs) (k : κ) {y : V} {u : Value} (ry : RelV y u) : KV (putK ax k y) (stored vs k u) := by
 unfold putK stored
 rw [r.any k]
 by_cases e : (vs.any fun kv => decide (kv.1 = k)) = true
 . rw [if_pos e, if_pos e]; exact r.repl k ry
 . rw [if_neg e, if_neg e]; exact Paired.snoc r ⟨rfl, ry⟩
theorem KV.length {ax : List (κ × V)} {vs : List (κ × Value)} (r : KV ax vs) : ax.length = vs.length := Paired.length r
end
theorem tH {P : Program} {w : World} {k : Key} {u : Value} (r : RelV (kV k) u) : (bh P w).is k u = true := by
 cases k with
 | inl i => obtain ⟨t, e⟩ := (show ∃ t, u = Value.int i t from r); subst e; exact oh P w i t
 | inr x => obtain ⟨t, e⟩ := (show ∃ t, u = Value.str x t from r); subst e; exact m7 P w x t
theorem k7 {P : Program} {w : World} : ∀ {ks : List Key} {us : List Value}, Vals (ks.map kV) us -> ItemsAre (bh P w) ks us
 | [], _, r => by rw [List.map_nil] at r; cases r; exact .nil
 | k :: ks, _, r => by
   rw [List.map_cons] at r
   cases r with
   | cons h t => exact .cons (tH h) (k7 t)
abbrev KT (H : Hp) : List (List Key × V) -> List (List Key × Addr × Value) -> Prop := Paired fun p q => p.1 = q.1 /\ H q.2.1 = some (.tup (p.1.map kV)) /\ RelV p.2 q.2.2
theorem KT.val {H : Hp} {ax : List (List Key × V)} {xs : List (List Key × Addr × Value)} (r : KT H ax xs) (k : List Key) : ky (iU ax k) ((atKey xs k).map (·.2)) := by
 induction r with
 | nil => exact True.intro
 | @cons p q ps qs h t ih =>
   obtain ⟨h1, _, h2⟩ := h
   by_cases e : p.1 = k
   . have e' : q.1 = k := h1.symm.trans e
     have b : atKey (q :: qs) k = some q.2 := by simp [atKey, List.find?_cons, e']
     rw [g8 e, b]; exact h2
   . have e' : ¬ q.1 = k := fun z => e (h1.trans z)
     have b : atKey (q :: qs) k = atKey qs k := by simp [atKey, List.find?_cons, e']
     rw [fb e, b]; exact ih
theorem KT.repl {H : Hp} {ax : List (List Key × V)} {xs : List (List Key × Addr × Value)} (r : KT H ax xs) (k : List Key) {y : V} {u : Value} (ry : RelV y u) :
 KT H (ax.map fun kv => if kv.1 = k then (kv.1, y) else kv) (xs.map (putAt k u)) := by
 induction r with
 | nil => exact .nil
 | @cons p q ps qs h t ih =>
   rw [List.map_cons, List.map_cons]
   refine .cons ?_ ih
   obtain ⟨h1, h2, h3⟩ := h
   unfold putAt
   by_cases e : p.1 = k
   . rw [if_pos e, if_pos (h1.symm.trans e)]; exact ⟨h1, h2, ry⟩
   . rw [if_neg e, if_neg (fun z => e (h1.trans z))]; exact ⟨h1, h2, h3⟩
theorem KT.put {H : Hp} {ax : List (List Key × V)} {xs : List (List Key × Addr × Value)} (r : KT H ax xs) (k : List Key) {b : Addr} {y : V} {u : Value} (hb : H b = some (.tup (k.map kV))) (ry : RelV y u) :
 KT H (putK ax k y) (storedH xs k b u) := by
 have e : (ax.any fun kv => decide (kv.1 = k)) = (atKey xs k).isSome := by
  rw [nG, (r.val k).rD, Option.isSome_map]
 unfold putK storedH
 rw [e]
 by_cases q : (atKey xs k).isSome = true
 . rw [if_pos q, if_pos q]; exact r.repl k ry
 . rw [if_neg q, if_neg q]; exact Paired.snoc r ⟨rfl, hb, ry⟩
theorem KT.keeps {H H' : Hp} {ax : List (List Key × V)} {xs : List (List Key × Addr × Value)} (r : KT H ax xs) (ht : ∀ b ys, H b = some (.tup ys) -> H' b = some (.tup ys)) : KT H' ax xs :=
 Paired.B6 r fun _ _ z => ⟨z.1, ht _ _ z.2.1, z.2.2⟩
section
variable {P : Program} {w : World} {H : Hp} {h : Heap} {a : Addr}
theorem y3 {u : HO} (ok : gE P w H h) (e : Rd H a u) : bM P w H h a u := e.ok ok
theorem tj {ax : List (Key × V)} (ok : gE P w H h) (e : Rd H a (.dK ax)) : ax.length <= sizeLine /\ (a == sysModules) = false /\ ∃ vs, KV ax vs /\ h.DictOf (bh P w) a vs :=
 show bM P w H h a (.dK ax) from y3 ok e
theorem CJ {ax : List (Key × V)} (ok : gE P w H h) (e : H a = some (.dK ax)) : ax.length <= sizeLine /\ (a == sysModules) = false /\ ∃ vs, KV ax vs /\ h.DictOf (bh P w) a vs := tj ok (.inl e)
theorem oR {ks : List Key} (ok : gE P w H h) (e : H a = some (.tup (ks.map kV))) : (tupleKind (bh P w)).is h ks a := by
 obtain ⟨_, az, r, o, h1, h2, n, h3⟩ := (show bM P w H h a (.tup (ks.map kV)) from ok a _ e)
 exact ⟨o, az.toArray, n, h1, h2, h3, by simpa using k7 r⟩
theorem ud {ax : List (List Key × V)} (ok : gE P w H h) (e : Rd H a (.dT ax)) : ax.length <= sizeLine /\ (a == sysModules) = false /\
 ∃ xs, KT H ax xs /\ h.DictOfH (tupleKind (bh P w)) a xs := by
 obtain ⟨z, y, xs, r, o, es, ep, h1, h2, h3, h4, h5⟩ := (show bM P w H h a (.dT ax) from y3 ok e)
 refine ⟨z, y, xs, r, o, es, ep, h1, h2, h3, h4, fun x hx => ?_, h5⟩
 have all : ∀ {l : List (List Key × V)} {m : List (List Key × Addr × Value)}, KT H l m -> ∀ x ∈ m, (tupleKind (bh P w)).is h x.1 x.2.1 := by
  intro l m q
  induction q with
  | nil => intro x hx; exact nomatch hx
  | @cons p q ps qs hq t ih =>
    intro x hx
    rcases List.mem_cons.mp hx with e | hx
    . subst e
      exact oR ok (by rw [<- hq.1]; exact hq.2.1)
    . exact ih x hx
 exact all r x hx
theorem Ek {ax : List (List Key × V)} (ok : gE P w H h) (e : H a = some (.dT ax)) : ax.length <= sizeLine /\ (a == sysModules) = false /\
 ∃ xs, KT H ax xs /\ h.DictOfH (tupleKind (bh P w)) a xs := ud ok (.inl e)
end
def n9 (H : Hp) (a : Addr) (y : V) (r : Option V) : Prop :=
 (∃ ax k, Rd H a (.dK ax) /\ y = kV k /\ r = iU ax k) \/ ∃ ax k b, Rd H a (.dT ax) /\ y = .ref b /\ H b = some (.tup (k.map kV)) /\ r = iU ax k
def oH (H : Hp) (a : Addr) (y v : V) (H' : Hp) : Prop :=
 (∃ ax k, H a = some (.dK ax) /\ y = kV k /\ ax.length < sizeLine /\ H' = upd H a (.dK (putK ax k v))) \/
 ∃ ax k b, H a = some (.dT ax) /\ y = .ref b /\ H b = some (.tup (k.map kV)) /\ ax.length < sizeLine /\ H' = upd H a (.dT (putK ax k v))
theorem n9.k {H : Hp} {a : Addr} {ax : List (Key × V)} {k : Key} (e : H a = some (.dK ax)) : n9 H a (kV k) (iU ax k) := .inl ⟨ax, k, .inl e, rfl, rfl⟩
theorem oH.k {H : Hp} {a : Addr} {ax : List (Key × V)} {k : Key} {v : V} (e : H a = some (.dK ax)) (hl : ax.length < sizeLine) : oH H a (kV k) v (upd H a (.dK (putK ax k v))) := .inl ⟨ax, k, e, rfl, hl, rfl⟩
section
variable {X : Cx} {pins : List (Addr × Obj)} {σ : St} {H : Hp} {s : Shared} {a : Addr} {y v : V} {u r : Value} {o : Option V} {A : Around} {E : Value -> Shared -> Prop}
theorem Inv.big (I : Inv X pins σ H s) : sysModules < s.heap.objs.size := by
 have h : mainGlobals < s.heap.objs.size := (I.mod.glob.keeps I.bk).lt
 exact Nat.lt_trans (by decide) h
theorem rm {Q : Value -> Shared -> Prop} (hu : A.units + 1 < cLine) (I : Inv X pins σ H s) (g : n9 H a y (some v)) (ry : RelV y u) (h : ∀ w' s', Inv X pins σ H s' -> RelV v w' -> Q w' s') :
 wpAny (model X.prog X.w) A (getItem (.ref a) u) Q E s := by
 rcases g with ⟨ax, k, e, ey, l⟩ | ⟨ax, k, b, e, ey, eb, l⟩
 . subst ey
   obtain ⟨z, hd, vs, rel, dd⟩ := tj I.aI e
   obtain ⟨w', hw, u6⟩ := ky.some_of (v := v) (o := valueAt vs k) (by rw [l]; exact rel.val k)
   exact wpAny_getItem_of (tH ry) dd.mapOf hw (h w' _ (I.tok _) u6)
 . subst ey
   cases (show u = Value.ref b from ry)
   obtain ⟨z, hd, xs, rel, dd⟩ := ud I.aI e
   obtain ⟨w', hw, u6⟩ := ky.some_of (v := v) (o := (atKey xs k).map (·.2)) (by rw [l]; exact rel.val k)
   obtain ⟨p, hp, sV⟩ := Option.map_eq_some_iff.mp hw
   refine wpAny_getItem_heap (tupleKind_room_in1 hu) (oR I.aI eb) dd hp ?_
   rw [sV]
   exact h w' _ (I.tok _) u6
theorem qU {h' : Heap} {t' : Nat} {ob : HO} (I : Inv X pins σ H s) (mu : D7 (H a)) (hs : Heap.SameBut a s.heap h') (he : ∃ q, h'.get? a = some q) (new : bM X.prog X.w (upd H a ob) h' a ob) :
 Inv X pins σ (upd H a ob) { s with heap := h', toks := t' } :=
 I.write (x := a) (e := a) mu (.inl rfl) (fun b q hb z => (hs.2 b hb).trans z) he new
theorem Bt {P : Program} {w : World} {H' : Hp} {h' : Heap} {ax : List (Key × V)} {vs : List (Key × Value)} (z : ax.length <= sizeLine) (hd : (a == sysModules) = false) (rel : KV ax vs) (dd : h'.DictOf (bh P w) a vs) :
 bM P w H' h' a (.dK ax) := ⟨z, hd, vs, rel, dd⟩
theorem rA {H' : Hp} {Q : Unit -> Shared -> Prop} (hu : A.units + 1 < cLine) (I : Inv X pins σ H s) (g : oH H a y v H') (ry : RelV y u) (rv : RelV v r) (h : ∀ s', Inv X pins σ H' s' -> Q () s') :
 wpAny (model X.prog X.w) A (setItem (.ref a) u r) Q E s := by
 rcases g with ⟨ax, k, e, ey, l, eH⟩ | ⟨ax, k, b, e, ey, eb, l, eH⟩
 . subst ey eH
   obtain ⟨z, hd, vs, rel, dd⟩ := CJ I.aI e
   have hz : vs.length <= sizeLine := by rw [<- rel.length]; exact z
   have hl : (putK ax k v).length <= sizeLine := by have := jj ax k v; omega
   refine wpAny_setItem_pairs (hsz := hz) (tH ry) dd fun h' Fx hs => h _ ?_
   have he : ∃ q, h'.get? a = some q := let ⟨q, _, _, hq, _⟩ := Fx; ⟨q, hq⟩
   exact qU I (by rw [e]; exact True.intro) hs he (Bt hl hd (rel.put k rv) Fx)
 . subst ey eH
   cases (show u = Value.ref b from ry)
   obtain ⟨z, hd, xs, rel, dd⟩ := Ek I.aI e
   have hz : xs.length <= sizeLine := by rw [<- Paired.length rel]; exact z
   have hl : (putK ax k v).length <= sizeLine := by have := jj ax k v; omega
   refine wpAny_setItem_heap (hsz := hz) (tupleKind_room_in1 hu) (oR I.aI eb) dd fun h' Fx hs => h _ ?_
   obtain ⟨q, es, ep, hq, h2, h3, h4, _, h5⟩ := Fx
   refine qU I (by rw [e]; exact True.intro) hs ⟨q, hq⟩ ⟨hl, hd, _, (rel.put k eb rv).keeps fun c ys ec => ?_, q, es, ep, hq, h2, h3, h4, h5⟩
   rw [aw (EG ec e (fun z => nomatch z))]
   exact ec
end
section
variable {X : Cx} {pins : List (Addr × Obj)} {σ : St} {H : Hp} {s : Shared} {a : Addr} {ax : List (Key × V)} {k : Key} {u : Value} {A : Around} {E : Value -> Shared -> Prop}
end
def C2 (i : Expr) : Prop := ∀ ov iv, subscripted i false ov iv = operate [ov, iv] (getItem ov iv)
theorem xh {prog : Program} {w : World} {A : Around} {E : Value -> Shared -> Prop} {s : Shared} {env : Env} {value slice : Expr} {pos : Pos} {T id : String} {Q : Value -> Shared -> Prop}
 (hl : typeLookup (.type T) "__getitem__" = pure (some (.builtin id))) (hs : C2 slice)
 (h : wpAny (model prog w) A (eval value env) (fun o s₁ => wpAny (model prog w) A (eval slice env) (fun i s₂ => s₂.TypeIs o T /\ wpAny (model prog w) A (getItem o i) Q E s₂) E s₁) E s) :
 wpAny (model prog w) A (eval (.Subscript value slice pos) env) Q E s := by
 refine Subscript_ (wpAny_mono h (fun o s₁ h₁ => wpAny_mono h₁ (fun i s₂ h₂ => ?_) fun _ _ x => x) fun _ _ x => x)
 obtain ⟨hT, h₂⟩ := h₂
 unfold subscriptTail
 refine wpAny_bind ?_
 rw [getitemInPython_of_ne hT.not_modules]
 refine wpAny_bind (wpAny_specialOf hT hl ?_)
 have fin : wpAny (model prog w) A (subscripted slice false o i) (fun r s₃ => wpAny (model prog w) A (letTemporaryGo value o r >>= fun _ => pure r) Q E s₃) E s₂ := by
  rw [hs o i]
  exact wpAny_operating (wpAny_mono h₂ (fun r s₃ h₃ => wpAny_bind (wpAny_letTemporaryGo (wpAny_pure h₃))) fun _ _ x => x)
 first
  | exact wpAny_pure (wpAny_bind fin)
  | exact wpAny_bind (wpAny_pure (wpAny_bind fin))
  | exact wpAny_bind fin
theorem nA {X : Cx} {pins : List (Addr × Obj)} {σ : St} {H : Hp} {s : Shared} {a : Addr} {y : V} {o : Option V} (I : Inv X pins σ H s) (g : n9 H a y o) : s.TypeIs (.ref a) "dict" := by
 rcases g with ⟨ax, k, e, _, _⟩ | ⟨ax, k, b, e, _, _, _⟩
 . obtain ⟨_, _, vs, _, dd⟩ := tj I.aI e
   exact dd.typeIs
 . obtain ⟨_, _, xs, _, dd⟩ := ud I.aI e
   exact dd.typeIs
def yV (td ty : TE) : TE := fun σ H Q => td σ H fun x H1 => ty σ H1 fun y H2 => ∃ a v, x = .ref a /\ n9 H2 a y (some v) /\ Q v H2
def yO (td ty tv : TE) : TS := fun D σ H => tv σ H fun v H1 => td σ H1 fun x H2 => ty σ H2 fun y H3 => ∃ a H4, x = .ref a /\ oH H3 a y v H4 /\ D.nx σ H4
section
variable {X : Cx} {o i e value : Expr} {pos pos' uL : Pos} {td ty tv : TE}
theorem xS (hu : X.A.units + 1 < cLine) (ho : PE X o td) (hi : PE X i ty) (hs : C2 i) : PE X (.Subscript o i pos) (yV td ty) := by
 intro pins s σ H Q I h
 refine xh PySem.F.slot_dict_getitem.lookup hs (bF (ho pins s σ H _ I h) fun u s1 ⟨x, H1, I1, rx, q1⟩ => bF (hi pins s1 σ H1 _ I1 q1) fun iv s2 ⟨y, H2, I2, ry, a, v, ex, g, q2⟩ => ?_)
 subst ex
 obtain rfl : u = Value.ref a := rx
 exact ⟨nA I2 g, rm hu I2 g ry fun w' s3 I3 u6 => ⟨v, H2, I3, u6, q2⟩⟩
theorem qR (hu : X.A.units + 1 < cLine) (ho : PE X o td) (hi : PE X i ty) (hv : PE X value tv) (hs : swapsWith value (some (.Subscript o i pos')) pos.line X.env = pure false) :
 PS X (.Assign [.Subscript o i pos'] value pos) (yO td ty tv) := by
 intro pins s σ H D I h
 refine wpAny_Assign_Subscript (bF (hv pins s σ H _ I h) fun r s1 ⟨v, H1, I1, rv, q1⟩ => bF (ho pins s1 σ H1 _ I1 q1) fun u s2 ⟨x, H2, I2, rx, q2⟩ => bF (hi pins s2 σ H2 _ I2 q2) fun iv s3 ⟨y, H3, I3, ry, a, H4, ex, g, q3⟩ => ?_) hs
 subst ex
 obtain rfl : u = Value.ref a := rx
 exact rA hu I3 g ry rv fun s4 I4 => ⟨σ, H4, I4, q3⟩
end
theorem vi {P : Program} {w : World} {H : Hp} (h : Heap) (hb : sysModules < h.objs.size) : bM P w H (h.push { cls := .type "dict", data := .dict #[] }) h.objs.size (.dK []) :=
 ⟨Nat.zero_le _, beq_eq_false_iff_ne.mpr (Ne.symm (Nat.ne_of_lt hb)), [], .nil, Heap.DictOf.new h⟩
def tU : TE := fun _ H Q => ∀ p, H p = none -> Q (.ref p) (upd H p (.dK []))
section
variable {X : Cx} {pos : Pos}
theorem uq : PE X (.Dict [] [] pos) tU := fun pins s σ H Q I h =>
 wpAny_Dict_empty ⟨.ref s.heap.objs.size, _, I.laid (a := s.heap.objs.size) (o := .dK []) (t' := s.toks) (fun _ _ q => Heap.get?_push_of_some _ q) (Nat.le_refl _) (vi s.heap I.big), rfl, h _ (I.aI.fresh (Nat.le_refl _))⟩
end
structure M1 (X : Cx) (o : Expr) (m : Str) (apos : Pos) (e : Expr) (c4 : Pos) : Prop where
 base : attributeBase o m X.env (eval o X.env) = eval o X.env
 few : ((backTo c4 (starEach [e] X.env)).all (fun x => !x.1) && (backToKw c4 (keywordEach [] X.env)).all (fun x => x.1.isSome)
  && decide (([e] : List Expr).length + ([] : List Keyword).length + (if ([] : List Keyword).isEmpty then 0 else 1) < 30)) = true
 line : (apos.endLine == c4.line) = true
 trees : backTo c4 (starEach [e] X.env) = [(false, eval e X.env)]
structure M2 (X : Cx) (o : Expr) (m : Str) (apos : Pos) (e f : Expr) (c4 : Pos) : Prop where
 base : attributeBase o m X.env (eval o X.env) = eval o X.env
 few : ((backTo c4 (starEach [e, f] X.env)).all (fun x => !x.1) && (backToKw c4 (keywordEach [] X.env)).all (fun x => x.1.isSome)
  && decide (([e, f] : List Expr).length + ([] : List Keyword).length + (if ([] : List Keyword).isEmpty then 0 else 1) < 30)) = true
 line : (apos.endLine == c4.line) = true
 trees : backTo c4 (starEach [e, f] X.env) = [(false, eval e X.env), (false, eval f X.env)]
section
variable {X : Cx} {pins : List (Addr × Obj)} {σ : St} {H : Hp} {s : Shared} {a : Addr} {y d : V} {u r : Value} {o : Option V} {A : Around} {E : Value -> Shared -> Prop}
end
section
variable {X : Cx} {o e f : Expr} {apos c4 : Pos} {td ty tx : TE}
end
section
variable {X : Cx} {pins : List (Addr × Obj)} {σ : St} {H : Hp} {s : Shared} {a : Addr} {ax : List (Key × V)} {A : Around} {E : Value -> Shared -> Prop}
end
section
variable {X : Cx} {pins : List (Addr × Obj)} {σ : St} {H : Hp} {s : Shared} {a : Addr} {y : V} {u : Value} {A : Around} {E : Value -> Shared -> Prop}
end
end L2
namespace JL
open PySem PySem.W PySem.Calls PyProof.Rows
theorem jt {P : Params} {h : Heap} : ∀ (ns : List Int) (vs : List Value), WellAll P h vs (ns.map WData.int) -> IntsAre vs ns := by
 intro ns
 induction ns with
 | nil =>
   intro vs w
   rw [List.map_nil] at w
   cases w
   exact .nil
 | cons n ns ih =>
   intro vs w
   rw [List.map_cons] at w
   cases w with
   | cons a b =>
     cases a
     exact .cons _ _ (ih _ b)
theorem rR {l : OpenLaw} {n : Nat} (hn : l.most = some n) {P : Params} {h : Heap} {args : List WData} {vals : List Value}
 (yq : l.row.toRowW.claim.pre args = true) (HG : WellAll P h vals args) :
 ∃ a vs ns, vals = [Value.ref a] /\ args = [WData.list (ns.map WData.int)] /\ h.get? a = some { cls := .type "list", data := .seq vs.toArray } /\ IntsAre vs ns /\ ns.length <= n := by
 have sS : WShape.hasAll [] args [.list .int] = true := (pre_splitW yq).1
 have hc : l.pre.holds [] { args := args } = true := (pre_splitW yq).2
 obtain ⟨d, r, rfl, h1, h2⟩ := hasAllW_cons sS
 obtain rfl := hasAllW_nil h2
 obtain ⟨xs, rfl, h3⟩ := hasW_list h1
 obtain ⟨ns, rfl⟩ := items_int h3
 have hlen : ns.length <= n := by
  unfold OpenLaw.pre at hc
  have h4 : (WTm.not (.lt (.lit (.int (n : Int))) (.len (.arg 0)))).holds [] { args := [.list (ns.map .int)] } = true := by
   have h4 := (holds_andW hc).1
   rw [hn] at h4
   exact h4
  have h5 := condW_of h4 (w_not (w_lt w_lit (w_len_list (w_arg rfl))))
  rw [List.length_map] at h5
  refine Nat.le_of_not_lt fun q => ?_
  have q' : (n : Int) < ((ns.length : Nat) : Int) := by omega
  first
   | (rw [decide_eq_true q'] at h5; exact absurd h5 (by decide))
   | (simp at h5; omega)
 cases HG with
 | cons w1 w2 =>
   cases w2
   cases w1 with
   | list ho BF => exact ⟨_, _, ns, rfl, rfl, ho, jt ns _ BF, hlen⟩
theorem rF (l : OpenLaw) (args : List WData) : l.row.toRowW.claim.post args (.bool true) args = true :=
 postW_of (r := l.row.toRowW) (X := (true == true))
  (show WShape.has [] (.bool true) .bool = true by first | rfl | decide | simp [WShape.has, WShape.arms, WShape.armsAll])
  (show (WTm.eq .res (.lit (.bool true))).value [] { args := args, res := some (.bool true), after := args } = some (.bool (true == true)) from w_eq_bool (w_res rfl) w_lit) rfl
theorem nT {l : OpenLaw} {n : Nat} {q : Program} {loose : List Str} {XP : (Str -> Option Value) -> Heap -> Prop} {YP : World -> Heap -> Prop} {d : DefRec}
 (hn : l.most = some n) (Er : d.params.defaults = [])
 (call : ∀ (w : World) (cn s₁ : Shared) (mg mb : Str -> Option Value) (fa : Addr) (o : Obj) (pm cd doc : Value) (a : Addr) (vs : List Value) (ns : List Int),
  Ground q loose [] XP w cn mg mb s₁.heap -> YP w s₁.heap ->
  s₁.heap.get? fa = some o -> o.data = .func (docDef d.name d.params d.body d.scope pm cd doc) -> s₁.heap.CodeRec cd d.name -> mg d.name = some (.ref fa) ->
  s₁.heap.get? a = some { cls := .type "list", data := .seq vs.toArray } -> IntsAre vs ns -> ns.length <= n -> s₁.gens = #[] ->
  codeAny (model l.prog w) callerA (.call (.ref fa) ⟨[.ref a], []⟩) (fun r s' => r = .ok (.ret (.bool true)) /\ OldK s₁.heap s'.heap /\ s'.os = s₁.os /\ AllBare s'.gens) s₁) :
 WalkO q loose XP YP l.row.toRowW d [] (fun f vs => PySem.call f vs) := by
 intro w cn s₁ mg mb G Y fa o pm cd doc dV kV ho hd rh hD Du hg args vals as yq L4 Ni HG An
 obtain rfl : dV = .none := Dflts.none hD Er
 obtain rfl : kV = .none := Dflts.noKw hD
 obtain ⟨a, vs, ns, rfl, rfl, BQ, hints, hlen⟩ := rR hn yq HG
 refine enter_call (codeAny_mono (call w cn s₁ mg mb fa o pm cd doc a vs ns G Y ho (fd_plain hd) rh Du BQ hints hlen hg) fun r s' hq => ?_)
 obtain ⟨rfl, h2, h3, h4⟩ := hq
 exact ⟨.inl ⟨.bool true, .bool true, [], rfl, fun _ => rfl, .bool true, rF l _, fun _ => ⟨List.Pairwise.nil, fun _ hm => (nomatch hm)⟩⟩, h2, h3, h4⟩
section
variable {prog : Program} {w : World} {A : Around} {E : Value -> Shared -> Prop} {s : Shared} {K : Frag}
end
end JL
namespace L2
open PySem PySem.Spec PyProof.Rows
theorem iO : ∀ {vs : List Value} {ns : List Int}, IntsAre vs ns -> Vals (ns.map V.int) vs
 | _, _, .nil => .nil
 | _, _, .cons n t h => .cons ⟨t, rfl⟩ (iO h)
def yb (H : Hp) : Prop := ∀ b, H b = none \/ ∃ o xs, H b = some (.sQ o (.lst xs))
theorem tm {P : Program} {w : World} {K : PySem.W.Frag} {mg mb : Str -> Option Value} {CX : mV} {k : Nat} {fa a : Addr} {fd : FuncData} {x : Str} {sp : Sp} {s₁ : Shared} {vs : List Value} {ns : List Int}
 (KX : K.In s₁.heap) (Jk : s₁.heap.Ns mainGlobals mg) (hb : s₁.heap.Ns builtinsNs mb) (J7 : ∀ x : Str, x ≠ "__name__" -> mb x = bootBuiltins x) (Ge : s₁.heap.NoLimit) (hg : s₁.gens = #[])
 (ha : s₁.heap.get? a = some { cls := .type "list", data := .seq vs.toArray }) (hi : IntsAre vs ns) (hl : ns.length <= sizeLine) (hr : bV k callerA)
 (F : ∀ base : Heap, K.In base -> base.Ns mainGlobals mg -> bG P w K mg base CX k fa fd [x] sp) (CV : ∀ (s : Shared) (u : Value), BindsTo s fd ⟨[u], []⟩ [(x, u)])
 (vX : ∀ H : Hp, yb H -> bp K H a (ns.map V.int) -> sp [.ref a] H (fun v _ => v = .bl true) fun _ _ _ => False)
 (C5 : ∀ H e s', CX [] H s₁ (fun _ _ _ => False) e s' -> False) :
 codeAny (model P w) callerA (.call (.ref fa) ⟨[.ref a], []⟩) (fun r s' => r = .ok (.ret (.bool true)) /\ OldK s₁.heap s'.heap /\ s'.os = s₁.os /\ AllBare s'.gens) s₁ := by
 have rv := iO hi
 have GO := hi.length
 have core : ∀ H : Hp, yb H -> bp K H a (ns.map V.int) -> gE P w H s₁.heap -> (∀ b, H b ≠ none -> b = a) -> (H a ≠ none -> K.lookup a = none) ->
  codeAny (model P w) callerA (.call (.ref fa) ⟨[.ref a], []⟩) (fun r s' => r = .ok (.ret (.bool true)) /\ OldK s₁.heap s'.heap /\ s'.os = s₁.os /\ AllBare s'.gens) s₁ := by
  intro H hO hS aI hA hK
  have qv : ∀ {b : Addr} {o : Obj}, s₁.heap.get? b = some o -> H b = none -> (lX s₁.heap H).get? b = some o := fun e n => tG e n
  have Ds : ∀ {b : Addr} {o : Obj} {es : Array DictEntry} {ep : Nat}, s₁.heap.get? b = some o -> o.data = .dict es ep -> H b = none := fun {b o es ep} e d => by
   cases q : H b with
   | none => rfl
   | some u =>
     have e' : b = a := hA b (by rw [q]; simp)
     subst e'
     rw [ha] at e; cases e
     have d' : Data.seq vs.toArray _ = Data.dict es ep := d
     cases d'
  have Fc : ∀ {b : Addr} {m : Str -> Option Value}, s₁.heap.Ns b m -> (lX s₁.heap H).Ns b m := fun {b m} ⟨o, es, ep, e, d, r⟩ => ⟨o, es, ep, qv e (Ds e d), d, r⟩
  have IT : K.In (lX s₁.heap H) := fun b o e => qv (KX b o e) (by
   cases q : H b with
   | none => rfl
   | some u =>
     have e' : b = a := hA b (by rw [q]; simp)
     subst e'
     rw [hK (by rw [q]; simp)] at e; cases e)
  have hM : Mod K mg (lX s₁.heap H) := ⟨IT, Fc Jk, ⟨mb, Fc hb, J7⟩, let ⟨mc, h1, h2⟩ := Ge; ⟨mc, Fc h1, h2⟩⟩
  have e0 : o4 P w K mg (lX s₁.heap H) callerA [] s₁ H := ⟨rfl, hM, fun b o e => xF e, Nat.le_of_eq (si _ _), trivial, fun b hb => absurd (show b ∈ ([] : List Addr) from hb) (by simp), aI, .of_eq hg⟩
  refine codeAny_mono ((F _ IT (Fc Jk)).run callerA [] s₁ H ⟨[.ref a], []⟩ [.ref a] [.ref a] _ _ hr e0 (CV s₁ (.ref a)) (.cons rfl .nil) (vX H hO hS)) fun r s' h => ?_
  cases r with
  | error e => exact (C5 H e s' h).elim
  | ok fl =>
    cases fl with
    | next => exact False.elim h
    | brk => exact False.elim h
    | cont => exact False.elim h
    | ret u =>
      obtain ⟨v, H', os, bare, un, HS, r', q⟩ := h
      have q' : v = .bl true := q
      subst q'
      obtain rfl : u = Value.bool true := r'
      refine ⟨rfl, OldK.of_keep fun b o e => ?_, os, bare⟩
      cases q : H b with
      | none => exact un.keep b o e q (by intro z; exact absurd (show b ∈ ([] : List Addr) from z) (by simp)) (by simp)
      | some u =>
        rcases hO b with z | ⟨ob, xs, z⟩
        . rw [q] at z; cases z
        . have z2 := un.iK b ob _ z
          obtain ⟨e1, _⟩ := aI b _ z
          obtain ⟨e2, _⟩ := HS b _ z2
          rw [e] at e1; cases e1
          exact e2
 cases hk : K.lookup a with
 | some o =>
   have e := KX a o hk
   rw [ha] at e
   cases e
   refine core (fun _ => none) (fun _ => .inl rfl) (.inr ⟨_, vs.toArray, _, hk, rfl, rfl, rfl, by rw [List.size_toArray, GO]; exact hl, by simpa using rv⟩) (fun b u z => by have z' : (none : Option HO) = some u := z; cases z') (fun b z => absurd rfl z) fun z => absurd rfl z
 | none =>
   refine core (fun b => if b = a then some (.sQ { cls := .type "list", data := .seq vs.toArray } (.lst (ns.map V.int))) else none) (fun b => ?_) (.inl (.inr ⟨{ cls := .type "list", data := .seq vs.toArray }, if_pos rfl⟩)) (fun b u z => ?_) (fun b z => ?_) fun _ => hk
   . by_cases hb : b = a
     . exact .inr ⟨_, _, if_pos hb⟩
     . exact .inl (if_neg hb)
   . by_cases hb : b = a
     . have z' := (if_pos hb).symm.trans z
       cases z'
       subst hb
       exact ⟨ha, by rw [List.length_map]; exact hl, vs, _, rv, ha⟩
     . have z' := (if_neg hb).symm.trans z
       cases z'
   . by_cases hb : b = a
     . exact hb
     . exact absurd (if_neg hb) z
abbrev Jh {K : PySem.W.Frag} {h : Heap} (_ : K.In h) : PySem.W.Frag := K
theorem wM {l : PySem.W.OpenLaw} {n k : Nat} {q : Program} {loose : List Str} {XP : (Str -> Option Value) -> Heap -> Prop} {YP : World -> Heap -> Prop} {d : DefRec} {K : Params -> PySem.W.Frag} {CX : World -> mV} {sp : World -> Sp} {x : Str}
 (hn : l.most = some n) (nu : n <= sizeLine) (Er : d.params.defaults = []) (hr : bV k callerA)
 (hY : ∀ (w : World) (h : Heap), YP w h -> (K w.params).In h)
 (F : ∀ (w : World) (mg : Str -> Option Value) (fa : Addr) (h : Heap), (K w.params).In h -> h.Ns mainGlobals mg -> mg d.name = some (.ref fa) ->
  ∃ fd : FuncData, (∀ (s : Shared) (u : Value), BindsTo s fd ⟨[u], []⟩ [(x, u)]) /\
    ∀ base : Heap, (K w.params).In base -> base.Ns mainGlobals mg -> bG l.prog w (K w.params) mg base (CX w) k fa fd [x] (sp w))
 (vX : ∀ (w : World) (H : Hp) (a : Addr) (ns : List Int), ns.length <= n -> yb H -> bp (K w.params) H a (ns.map V.int) -> sp w [.ref a] H (fun v _ => v = .bl true) fun _ _ _ => False)
 (C5 : ∀ (w : World) (H : Hp) (s : Shared) (e : Value) (s' : Shared), CX w [] H s (fun _ _ _ => False) e s' -> False) :
 PySem.W.WalkO q loose XP YP l.row.toRowW d [] (fun f vs => PySem.call f vs) := by
 refine JL.nT hn Er fun w cn s₁ mg mb fa o pm cd doc a vs ns G Y ho hd rh Du BQ hints hlen hg => ?_
 have KX := hY w _ Y
 obtain ⟨fd, hb, hF⟩ := F w mg fa _ KX G.T.g Du
 exact tm KX G.T.g G.T.b G.T.builtins G.T.nolimit hg BQ hints (Nat.le_trans hlen nu) hr hF hb (fun H hO hS => vX w H a ns hlen hO hS) fun H e s' => C5 w H s₁ e s'
theorem vm {l : PySem.W.OpenLaw} {n k : Nat} {q : Program} {loose : List Str} {XP : (Str -> Option Value) -> Heap -> Prop} {YP : World -> Heap -> Prop} {d : DefRec} {K : Params -> PySem.W.Frag} {CX : mV} {sp : PySem.W.Frag -> Sp} {x : Str}
 (hn : l.most = some n) (nu : n <= sizeLine) (Er : d.params.defaults = []) (hr : bV k callerA)
 (hY : ∀ (w : World) (h : Heap), YP w h -> (K w.params).In h)
 (F : ∀ (w : World) (mg : Str -> Option Value) (fa : Addr) (h : Heap), (K w.params).In h -> h.Ns mainGlobals mg -> mg d.name = some (.ref fa) ->
  ∃ fd : FuncData, (∀ (s : Shared) (u : Value), BindsTo s fd ⟨[u], []⟩ [(x, u)]) /\
    ∀ base : Heap, (K w.params).In base -> base.Ns mainGlobals mg -> bG l.prog w (K w.params) mg base CX k fa fd [x] (sp (K w.params)))
 (vX : ∀ (K : PySem.W.Frag) (H : Hp) (a : Addr) (ns : List Int), ns.length <= n -> yb H -> bp K H a (ns.map V.int) -> sp K [.ref a] H (fun v _ => v = .bl true) fun _ _ _ => False)
 (C5 : ∀ (H : Hp) (s : Shared) (e : Value) (s' : Shared), CX [] H s (fun _ _ _ => False) e s' -> False) :
 PySem.W.WalkO q loose XP YP l.row.toRowW d [] (fun f vs => PySem.call f vs) :=
 wM (K := K) (CX := fun _ => CX) (sp := fun w => sp (K w.params)) hn nu Er hr hY F (fun w H a ns h1 h2 h3 => vX (K w.params) H a ns h1 h2 h3) fun _ H s e s' => C5 H s e s'
def g7 (s : Stmt) : Arguments := match s with
 | .FunctionDef _ a _ _ _ _ _ _ _ _ => a
 | _ => { posonlyargs := [], args := [], vararg := none, kwonlyargs := [], kw_defaults := [], kwarg := none, defaults := [] }
def fT (s : Stmt) : List Stmt := match s with
 | .FunctionDef _ _ b _ _ _ _ _ _ _ => b
 | _ => []
def aq (s : Stmt) : Scope := match s with
 | .FunctionDef _ _ _ _ _ _ sc _ _ _ => sc
 | _ => { kind := .function, names := [], isGenerator := false, isCoroutine := false }
abbrev hZ : mV := fun _ _ _ _ _ _ => False
abbrev E0 : XK := fun _ _ _ => False
theorem Dj {X : Cx} : Passes hZ X E0 := fun _ _ _ _ _ _ _ h => h.elim
structure Nc (K : PySem.W.Frag) (x qual : Str) (st : Stmt) (f : Addr) (fd : FuncData) : Prop where
 ex : ∃ (oc : Value) (od : Option Addr) (kV doc pm : Value) (an : Option Addr) (cV ct : Value) (vy : Array (Option Value)),
  fd = PySem.W.fnOf x qual (g7 st) (fT st) (aq st) .none kV doc pm an cV ct /\ K.lookup f = some ⟨oc, od, .func fd, vy⟩ /\ PySem.W.codeIn K cV qual = true
 kp : PySem.W.keepIn K (.ref f) = true
section
variable {P : Program} {w : World} {K : PySem.W.Frag} {mg : Str -> Option Value} {base : Heap}
end
theorem t4 {A : Around} {k : Nat} (hr : bV k A) : A.units + 1 < cLine := Nat.lt_of_le_of_lt (Nat.add_le_add_left (by decide : 1 <= 64) _) hr.units
section
variable {X : Cx}
theorem pv (i : Nat) {x : Str} {pos : Pos} (hN : X.N[i]? = some x := by rfl) (hv : EA X.env.scope x := by first | exact Or.inl rfl | exact Or.inr (Or.inl rfl) | exact Or.inr (Or.inr rfl)) (hd : (x == ("__debug__" : Str)) = false := by decide)
 (rh : (x == ("__classdict__" : Str)) = false := by decide) : PE X (.Name x pos) (AJ i) := Bu hN hv hd rh
end
theorem HD {A B : Prop} (h : B) : if false = true then A else B := by
 rw [if_neg Bool.false_ne_true]
 exact h
theorem FE {A B : Prop} (h : A) : if true = true then A else B := by
 rw [if_pos rfl]
 exact h
def ah (H H' : Hp) : Prop := ∀ b o, H b = some o -> H' b = some o
theorem ah.refl (H : Hp) : ah H H := fun _ _ h => h
theorem ah.trans {H H1 H2 : Hp} (a : ah H H1) (b : ah H1 H2) : ah H H2 := fun c o h => b c o (a c o h)
theorem ah.seq {K : PySem.W.Frag} {H H' : Hp} {a : Addr} {xs : List V} (e : ah H H') (h : bp K H a xs) : bp K H' a xs := by
 rcases h with (h | ⟨o, h⟩) | h
 . exact .inl (.inl (e _ _ h))
 . exact .inl (.inr ⟨o, e _ _ h⟩)
 . exact .inr h
section
variable {κ : Type} [DecidableEq κ]
end
section
variable {X : Cx}
def pX (i j : Int) : Prop := i.natAbs < 2 ^ 2000 /\ j.natAbs < 2 ^ 2000
theorem pX.ok {i j : Int} (h : pX i j) : IntMulOk i j := by
 have h1 : Builtin.Int.intBits i <= 2000 := PyProof.Rows.intBits_le h.1
 have h2 : Builtin.Int.intBits j <= 2000 := PyProof.Rows.intBits_le h.2
 have h3 : Builtin.Int.intTooBig ((Builtin.Int.intBits i + Builtin.Int.intBits j : Nat) : Int) = false := by
  unfold Builtin.Int.intTooBig
  have : (bitsLine : Nat) = 134217728 := rfl
  refine decide_eq_false ?_
  omega
 unfold IntMulOk
 have h4 : Builtin.Int.intTooBig (Builtin.Int.intBits i + Builtin.Int.intBits j) = false := by
  have e : ((Builtin.Int.intBits i : Int) + (Builtin.Int.intBits j : Int)) = ((Builtin.Int.intBits i + Builtin.Int.intBits j : Nat) : Int) := by omega
  rw [e]; exact h3
 rw [h4]
 simp
theorem b8 : gu X (binaryOp .Mult) (rI pX fun i j => .int (i * j)) := Fo fun _ _ _ _ _ _ _ hc q => mul_int q hc.ok
def yz (_ j : Int) : Prop := 0 < j /\ j.natAbs < 2 ^ 2000
theorem aM : gu X (binaryOp .FloorDiv) (rI yz fun i j => .int (i / j)) := Fo fun i j _ _ _ _ _ hc q => by
 have e : i.fdiv j = i / j := Int.fdiv_eq_ediv_of_nonneg _ (Int.le_of_lt hc.1)
 have hl : j.natAbs.log2 < 9000 := by
  have h0 : j.natAbs ≠ 0 := by have := hc.1; omega
  have h2 : j.natAbs.log2 < 2000 := (Nat.log2_lt h0).mpr hc.2
  omega
 refine floordiv_int (by have := hc.1; omega) ?_ (.inl (PyProof.noPylong_of_log2 hl))
 rw [e]; exact q
inductive EI : V -> Value -> Prop where
 | ty (n : String) : EI (.ty n) (.type n)
 | ref (C : Addr) : EI (.ref C) (.ref C)
structure Jy (K : PySem.W.Frag) (C : Addr) (m : Str) (f : Addr) : Prop where
 ga : PySem.W.specialIn K (.ref C) "__getattribute__" = some (some (.builtin "type.__getattribute__"))
 rd : PySem.W.readsIn K C (.type "type") = true
 fd : PySem.W.findCls K (.ref C) (.type "type") m = some (.val (.ref f))
 kp : PySem.W.keepIn K (.ref f) = true
end
mutual
inductive fL (K : PySem.W.Frag) (H : Hp) : V -> PyData -> Prop where
 | aZ : fL K H .aZ .none
 | bl (b : Bool) : fL K H (.bl b) (.bool b)
 | int (i : Int) : fL K H (.int i) (.int i)
 | str (x : Str) : fL K H (.str x) (.str x)
 | tup {a : Addr} {xs : List V} {ds : List PyData} (h : nD K H a xs) (r : cM K H xs ds) : fL K H (.ref a) (.tuple ds)
 | lst {a : Addr} {xs : List V} {ds : List PyData} (h : bp K H a xs) (r : cM K H xs ds) : fL K H (.ref a) (.list ds)
inductive cM (K : PySem.W.Frag) (H : Hp) : List V -> List PyData -> Prop where
 | nil : cM K H [] []
 | cons {x : V} {d : PyData} {xs : List V} {ds : List PyData} (h : fL K H x d) (r : cM K H xs ds) : cM K H (x :: xs) (d :: ds)
end
theorem nD.keeps {K : PySem.W.Frag} {H H' : Hp} {a : Addr} {xs : List V} (e : ah H H') (h : nD K H a xs) : nD K H' a xs := by
 rcases h with (h | ⟨o, h⟩) | h
 . exact .inl (.inl (e _ _ h))
 . exact .inl (.inr ⟨o, e _ _ h⟩)
 . exact .inr h
mutual
theorem fL.keeps {K : PySem.W.Frag} {H H' : Hp} (e : ah H H') : ∀ {v : V} {d : PyData}, fL K H v d -> fL K H' v d
 | _, _, .aZ => .aZ
 | _, _, .bl b => .bl b
 | _, _, .int i => .int i
 | _, _, .str x => .str x
 | _, _, .tup h r => .tup (nD.keeps e h) (cM.keeps e r)
 | _, _, .lst h r => .lst (ah.seq e h) (cM.keeps e r)
theorem cM.keeps {K : PySem.W.Frag} {H H' : Hp} (e : ah H H') : ∀ {vs : List V} {ds : List PyData}, cM K H vs ds -> cM K H' vs ds
 | _, _, .nil => .nil
 | _, _, .cons h r => .cons (fL.keeps e h) (cM.keeps e r)
end
section
variable {X : Cx} {pins : List (Addr × Obj)} {σ : St} {H : Hp} {s : Shared}
mutual
theorem fL.reads (I : Inv X pins σ H s) : ∀ {v : V} {d : PyData} {u : Value}, fL X.K H v d -> RelV v u -> ∃ as, Reads s.heap u d as
 | _, _, _, .aZ, r => by cases r; exact ⟨_, .none⟩
 | _, _, _, .bl b, r => by cases r; exact ⟨_, .bool b⟩
 | _, _, _, .int i, r => by obtain ⟨t, rfl⟩ := r; exact ⟨_, .int i t⟩
 | _, _, _, .str x, r => by obtain ⟨t, rfl⟩ := r; exact ⟨_, .str x t⟩
 | _, _, _, .tup h q, r => by
   cases r
   obtain ⟨az, rv, ⟨o, h1, h2, n, h3⟩, _⟩ := I.tuple h
   obtain ⟨as, ra⟩ := cM.reads I q rv
   exact ⟨_, .tuple h1 h2 h3 (by simpa using ra)⟩
 | _, _, _, .lst h q, r => by
   cases r
   obtain ⟨az, rv, ⟨o, n, h1, h2, _, h3⟩, _⟩ := I.list h
   obtain ⟨as, ra⟩ := cM.reads I q rv
   exact ⟨_, .list h1 h2 h3 (by simpa using ra)⟩
theorem cM.reads (I : Inv X pins σ H s) : ∀ {vs : List V} {ds : List PyData} {us : List Value}, cM X.K H vs ds -> Vals vs us -> ∃ as, ReadsAll s.heap us ds as
 | _, _, _, .nil, r => by cases r; exact ⟨_, .nil⟩
 | _, _, _, .cons h q, r => by
   cases r with
   | cons r1 r2 =>
     obtain ⟨as, ra⟩ := fL.reads I h r1
     obtain ⟨bs, rb⟩ := cM.reads I q r2
     exact ⟨_, .cons ra rb⟩
end
end
section
variable {X : Cx}
def EJ (K : PySem.W.Frag) (f : Bool -> Bool) : R2 := fun x y H Q => ∃ d e, fL K H x d /\ fL K H y e /\ d.canLay0 = true /\ e.canLay0 = true /\ d.depth <= 8 /\ Q (.bl (f (PyData.eqv d e))) H
theorem Ac (hu : X.A.units + 8 < cLine) : gu X (compareOp .Eq) (EJ X.K id) := by
 intro pins s σ H x y v u Q I rx ry h
 obtain ⟨d, e, hd, he, c1, c2, hn, q⟩ := h
 obtain ⟨as, ra⟩ := hd.reads I rx
 obtain ⟨bs, rb⟩ := he.reads I ry
 exact SeqAt.compareEq_reads ra rb c1 c2 (by have := Nat.min_le_left d.depth e.depth; omega) ⟨.bl _, H, I, rfl, q⟩
theorem A6 (hu : X.A.units + 8 < cLine) : gu X (compareOp .NotEq) (EJ X.K not) := by
 intro pins s σ H x y v u Q I rx ry h
 obtain ⟨d, e, hd, he, c1, c2, hn, q⟩ := h
 obtain ⟨as, ra⟩ := hd.reads I rx
 obtain ⟨bs, rb⟩ := he.reads I ry
 exact SeqAt.compareNe_reads ra rb c1 c2 (by have := Nat.min_le_left d.depth e.depth; omega) ⟨.bl _, H, I, rfl, q⟩
end
structure jD (P : Program) (w : World) (K : PySem.W.Frag) (mg : Str -> Option Value) (base : Heap) (k : Nat) (f : Addr) (ps : List Str) (gQ : List V) (sp : Sp) : Prop where
 ex : ∃ (fd : FuncData) (ds : List Value), bG P w K mg base hZ k f fd ps sp /\ Binds K fd ps ds /\ Vals gQ ds
section
variable {X : Cx} {k : Nat} {f C : Addr} {ps : List Str} {sp : Sp} {gQ : List V} {x m : Str} {p pos apos : Pos} {e o : Expr} {es : List Expr} {ta : TE} {t : TA}
theorem xU (c : jD X.prog X.w X.K X.mg X.base k f ps gQ sp) (hr : bV k X.A) (hg : Gl X x) (hm : X.mg x = some (.ref f)) (hk : PySem.W.keepIn X.K (.ref f) = true)
 (ha : PA X (e :: es) t) (xG : (x == ("__debug__" : Str)) = false := by decide) (he : starEach (e :: es) X.env = (false, eval e X.env) :: starEach es X.env := by rfl) (lF : (backTo pos (starEach es X.env)).any (·.1) = false := by rfl) :
 PE X (.Call (.Name x p) (e :: es) [] pos) (qK sp gQ E0 t) := by
 obtain ⟨fd, ds, F, hb, hd⟩ := c.ex
 exact wI F hr hg hm hk hb hd Dj ha xG he lF
end
structure cz (K : PySem.W.Frag) (x qual : Str) (st : Stmt) (f : Addr) (dV : Value) (fd : FuncData) : Prop where
 ex : ∃ (oc : Value) (od : Option Addr) (kV doc pm : Value) (an : Option Addr) (cV ct : Value) (vy : Array (Option Value)),
  fd = PySem.W.fnOf x qual (g7 st) (fT st) (aq st) dV kV doc pm an cV ct /\ K.lookup f = some ⟨oc, od, .func fd, vy⟩ /\ PySem.W.codeIn K cV qual = true
theorem xc {K : PySem.W.Frag} {x qual : Str} {st : Stmt} {f : Addr} {oc : Value} {od an : Option Addr} {vy : Array (Option Value)} {dV kV doc pm cV ct : Value} (l : K.lookup f = some ⟨oc, od, .func (PySem.W.fnOf x qual (g7 st) (fT st) (aq st) dV kV doc pm an cV ct), vy⟩)
 (c : PySem.W.codeIn K cV qual = true) : cz K x qual st f dV (PySem.W.fnOf x qual (g7 st) (fT st) (aq st) dV kV doc pm an cV ct) := ⟨⟨oc, od, kV, doc, pm, an, cV, ct, vy, rfl, l, c⟩⟩
section
variable {P : Program} {w : World} {K : PySem.W.Frag} {mg : Str -> Option Value} {base : Heap}
theorem cz.ok {x qual : Str} {st : Stmt} {f : Addr} {dV : Value} {fd : FuncData} {N ps : List Str} {k : Nat} {sp : Sp} (F : cz K x qual st f dV fd) (S : aL N ps (aq st)) (len : ∀ vs H Q E, sp vs H Q E -> vs.length = ps.length)
 (lC : ∀ (cV : Value) (A : Around) (outer : List Env) (s : Shared) (H : Hp) (vs : List V) (Q : VK) (E : XK), bV k (A.deeper (envOfC qual (aq st) s.heap.objs.size f cV)) -> sp vs H Q E ->
  ∃ t, oq (sg hZ P w K mg base N qual (aq st) f cV A outer s H E).Fz (fT st) t /\ t { nx := fun _ H' => Q .aZ H', rt := Q } (start N vs) H) : bG P w K mg base hZ (k + 1) f fd ps sp := by
 obtain ⟨oc, od, kV, doc, pm, an, cV, ct, vy, rfl, lk, rh⟩ := F.ex
 refine El lk rh S len fun A outer s H vs Q E hr vX => ?_
 obtain ⟨t, h, q⟩ := lC cV A outer s H vs Q E hr vX
 exact ⟨t, h.Fz, q⟩
theorem cz.binds {x qual : Str} {st : Stmt} {f : Addr} {dV : Value} {fd : FuncData} {ps : List Str} {ds : List Value} (F : cz K x qual st f dV fd)
 (h : ∀ (kV doc pm : Value) (an : Option Addr) (cV ct : Value), Binds K (PySem.W.fnOf x qual (g7 st) (fT st) (aq st) dV kV doc pm an cV ct) ps ds) : Binds K fd ps ds := by
 obtain ⟨oc, od, kV, doc, pm, an, cV, ct, vy, rfl, lk, rh⟩ := F.ex
 exact h kV doc pm an cV ct
end
structure Ka (K : PySem.W.Frag) (T : Addr) (items : Array Value) : Prop where
 ex : ∃ (o : Obj) (n : Nat), K.lookup T = some o /\ o.data = .seq items n
structure Dg (K : PySem.W.Frag) (C : Addr) : Prop where
 ha : PySem.W.findIn K (.ref C) "__class__" = some (some (.builtin "object.__class__"))
 hn : PySem.W.specialIn K (.builtin "object.__class__") "__get__" = some (some (.builtin "getset_descriptor.__get__"))
 ht : PySem.W.takesIn K (.builtin "object.__class__") = some true
 hm : PySem.W.mroIn K C (.type "object") = some true
section
variable {σ : St} {H : Hp} {Q : VK} {D : Ends} {K : PySem.W.Frag}
theorem AG (h : D.nx σ H) : zo D σ H := h
theorem yW {te : TE} (h : te σ H D.rt) : Eg te D σ H := h
theorem A8 {te : TE} (h : te σ H fun _ H1 => D.nx σ H1) : yN te D σ H := h
theorem CQ {c : TT} {t u : TS} (h : c σ H fun b H1 => if b = true then t D σ H1 else u D σ H1) : Dz c t u D σ H := h
theorem DM {te : TE} {i : Nat} (h : te σ H fun x H1 => D.nx (σ.set i (some x)) H1) : se te (bT i) D σ H := h
theorem uk {i : Nat} {v : V} (e : σ[i]? = some (some v)) (h : Q v H) : AJ i σ H Q := ⟨v, e, h⟩
theorem MP {v : V} (h : Q v H) : tC v σ H Q := h
theorem F2 {r : R2} {ta tb : TE} (h : ta σ H fun x H1 => tb σ H1 fun y H2 => r x y H2 Q) : D3 r ta tb σ H Q := h
theorem FH {r : V -> Hp -> VK -> Prop} {ta : TE} (h : ta σ H fun x H1 => r x H1 Q) : JA r ta σ H Q := h
theorem HM {g : Int -> Int -> V} {i j : Int} (h : Q (g i j) H) : yg g (.int i) (.int j) H Q := ⟨i, j, rfl, rfl, h⟩
theorem Kw {C : Int -> Int -> Prop} {g : Int -> Int -> V} {i j : Int} (c : C i j) (h : Q (g i j) H) : rI C g (.int i) (.int j) H Q := ⟨i, j, rfl, rfl, c, h⟩
theorem Lp {g : Int -> V} {i : Int} (h : Q (g i) H) : rU g (.int i) H Q := ⟨i, rfl, h⟩
theorem Ak {t : TE} {Q : Bool -> Hp -> Prop} (h : t σ H fun x H' => ∃ k, x = .bl k /\ Q k H') : um t σ H Q := h
theorem D4 {t u : TT} {Q : Bool -> Hp -> Prop} (h : t σ H fun c H1 => if c = true then u σ H1 Q else Q false H1) : CP t u σ H Q := h
theorem Hr {t u : TT} {Q : Bool -> Hp -> Prop} (h : t σ H fun c H1 => if c = true then Q true H1 else u σ H1 Q) : JH t u σ H Q := h
theorem D6 {t : TT} {Q : Bool -> Hp -> Prop} (h : t σ H fun c H1 => Q (!c) H1) : Ed t σ H Q := h
theorem Ca {ta tb : TE} (h : ta σ H fun x H1 => ∃ c, x = .bl c /\ if c = true then tb σ H1 Q else Q (.bl false) H1) : yD ta tb σ H Q := h
theorem HW {b : Bool} {R : Bool -> Prop} (h : R b) : ∃ k, V.bl b = .bl k /\ R k := ⟨b, rfl, h⟩
theorem yF {Q : List V -> Hp -> Prop} (h : Q [] H) : zY σ H Q := h
theorem pP {ta : TE} {tr : TA} {Q : List V -> Hp -> Prop} (h : ta σ H fun x H1 => tr σ H1 fun xs H2 => Q (x :: xs) H2) : u3 ta tr σ H Q := h
theorem GH {r : List V -> Hp -> VK -> Prop} {t : TA} (h : t σ H fun vs H1 => r vs H1 Q) : F7 r t σ H Q := h
theorem vj {A B : Prop} (h : A) : if true = true then A else B := by rw [if_pos rfl]; exact h
theorem sy {A B : Prop} (h : B) : if false = true then A else B := by rw [if_neg Bool.false_ne_true]; exact h
end
section
variable {X : Cx} {e : Expr} {es : List Expr}
theorem PE.weak {t u : TE} (h1 : PE X e t) (h : ∀ σ H Q, u σ H Q -> t σ H Q) : PE X e u := fun pins s σ H Q I q => h1 pins s σ H Q I (h σ H Q q)
def mA (t : TA) : TA := fun σ H Q => ∃ Q' : List V -> Hp -> Prop, t σ H Q' /\ ∀ v H', Q' v H' -> Q v H'
theorem PA.m {t : TA} (h : PA X es t) : PA X es (mA t) := fun pos pins s σ H Q I ⟨Q', q, m⟩ => bF (h pos pins s σ H Q' I q) fun _ _ ⟨v, H', I', r, z⟩ => ⟨v, H', I', r, m v H' z⟩
end
def F6 : Key -> PyData
 | .inl i => .int i
 | .inr x => .str x
mutual
inductive Dv (H : Hp) : V -> PyData -> Prop where
 | aZ : Dv H .aZ .none
 | bl (b : Bool) : Dv H (.bl b) (.bool b)
 | int (i : Int) : Dv H (.int i) (.int i)
 | str (x : Str) : Dv H (.str x) (.str x)
 | tup {a : Addr} {xs : List V} {ds : List PyData} (h : H a = some (.tup xs)) (r : aT H xs ds) : Dv H (.ref a) (.tuple ds)
 | lst {a : Addr} {xs : List V} {ds : List PyData} (h : Rd H a (.lst xs)) (r : aT H xs ds) : Dv H (.ref a) (.list ds)
 | dct {a : Addr} {ax : List (Key × V)} {ds : List (PyData × PyData)} (h : H a = some (.dK ax)) (r : v5 H ax ds) : Dv H (.ref a) (.dict ds)
inductive v5 (H : Hp) : List (Key × V) -> List (PyData × PyData) -> Prop where
 | nil : v5 H [] []
 | cons {k : Key} {x : V} {d : PyData} {xs : List (Key × V)} {ds : List (PyData × PyData)} (h : Dv H x d) (r : v5 H xs ds) : v5 H ((k, x) :: xs) ((F6 k, d) :: ds)
inductive aT (H : Hp) : List V -> List PyData -> Prop where
 | nil : aT H [] []
 | cons {x : V} {d : PyData} {xs : List V} {ds : List PyData} (h : Dv H x d) (r : aT H xs ds) : aT H (x :: xs) (d :: ds)
end
mutual
theorem Dv.has {K : PySem.W.Frag} {H : Hp} : ∀ {v : V} {d : PyData}, Dv H v d -> d.canLay0 = true -> fL K H v d
 | _, _, .aZ, _ => .aZ
 | _, _, .bl b, _ => .bl b
 | _, _, .int i, _ => .int i
 | _, _, .str x, _ => .str x
 | _, _, .tup h r, c => .tup (.of h) (aT.has r (by simpa [PyData.canLay0] using c))
 | _, _, .lst h r, c => .lst (.inl h) (aT.has r (by simpa [PyData.canLay0] using c))
 | _, _, .dct h r, c => by simp [PyData.canLay0] at c
theorem aT.has {K : PySem.W.Frag} {H : Hp} : ∀ {v : List V} {d : List PyData}, aT H v d -> PyData.canLayAll0 d = true -> cM K H v d
 | _, _, .nil, _ => .nil
 | _, _, .cons h r, c => by
   have c' := c
   simp only [PyData.canLayAll0, Bool.and_eq_true] at c'
   exact .cons (Dv.has h c'.1) (aT.has r c'.2)
end
theorem ah.rd {H H' : Hp} {a : Addr} {u : HO} (e : ah H H') (h : Rd H a u) : Rd H' a u := by
 rcases h with h | ⟨o, h⟩
 . exact .inl (e _ _ h)
 . exact .inr ⟨o, e _ _ h⟩
mutual
theorem Dv.keeps {H H' : Hp} (e : ah H H') : ∀ {v : V} {d : PyData}, Dv H v d -> Dv H' v d
 | _, _, .aZ => .aZ
 | _, _, .bl b => .bl b
 | _, _, .int i => .int i
 | _, _, .str x => .str x
 | _, _, .tup h r => .tup (e _ _ h) (aT.keeps e r)
 | _, _, .lst h r => .lst (e.rd h) (aT.keeps e r)
 | _, _, .dct h r => .dct (e _ _ h) (v5.keeps e r)
theorem v5.keeps {H H' : Hp} (e : ah H H') : ∀ {v : List (Key × V)} {d : List (PyData × PyData)}, v5 H v d -> v5 H' v d
 | _, _, .nil => .nil
 | _, _, .cons h r => .cons (Dv.keeps e h) (v5.keeps e r)
theorem aT.keeps {H H' : Hp} (e : ah H H') : ∀ {v : List V} {d : List PyData}, aT H v d -> aT H' v d
 | _, _, .nil => .nil
 | _, _, .cons h r => .cons (Dv.keeps e h) (aT.keeps e r)
end
theorem aT.length {H : Hp} : ∀ {xs : List V} {ds : List PyData}, aT H xs ds -> xs.length = ds.length
 | _, _, .nil => rfl
 | _, _, .cons _ r => by simp [aT.length r]
theorem aT.get {H : Hp} : ∀ {xs : List V} {ds : List PyData} {i : Nat} {d : PyData}, aT H xs ds -> ds[i]? = some d -> ∃ x, xs[i]? = some x /\ Dv H x d
 | _, _, _, _, .nil, e => by simp at e
 | _, _, 0, _, .cons h _, e => by simp at e; subst e; exact ⟨_, rfl, h⟩
 | _, _, i + 1, x, .cons _ r, e => by
   obtain ⟨d, h1, h2⟩ := aT.get (i := i) (d := x) r (by simpa using e)
   exact ⟨d, by simpa using h1, h2⟩
theorem aT.append {H : Hp} : ∀ {xs ys : List V} {ds es : List PyData}, aT H xs ds -> aT H ys es -> aT H (xs ++ ys) (ds ++ es)
 | _, _, _, _, .nil, s => s
 | _, _, _, _, .cons r t, s => .cons r (aT.append t s)
theorem aT.ints {H : Hp} : ∀ (ns : List Int), aT H (ns.map V.int) (ns.map PyData.int)
 | [] => .nil
 | n :: ns => .cons (.int n) (aT.ints ns)
theorem Dv.int_inv {H : Hp} {v : V} {i : Int} (h : Dv H v (.int i)) : v = .int i := by cases h; rfl
theorem Dv.xn {H : Hp} {v : V} (h : Dv H v .none) : v = .aZ := by cases h; rfl
theorem Dv.str_inv {H : Hp} {v : V} {i : Str} (h : Dv H v (.str i)) : v = .str i := by cases h; rfl
def mG (H : Hp) (d : PyData) (Q : VK) : Prop := match d with
 | .none => Q .aZ H
 | .bool b => Q (.bl b) H
 | .int i => Q (.int i) H
 | .str x => Q (.str x) H
 | d => ∀ v, Dv H v d -> Q v H
theorem mG.use {H : Hp} {d : PyData} {Q : VK} (g : mG H d Q) {v : V} (h : Dv H v d) : Q v H := by
 cases h with
 | aZ => exact g
 | bl b => exact g
 | int i => exact g
 | str x => exact g
 | tup h r => exact g _ (.tup h r)
 | lst h r => exact g _ (.lst h r)
 | dct h r => exact g _ (.dct h r)
theorem qM {H : Hp} {xs : List V} {ds : List PyData} {i : Int} {d : PyData} (r : aT H xs ds) (h : kr ds i = some d) : ∃ x, kr xs i = some x /\ Dv H x d := by
 unfold kr at h ⊢
 rw [r.length]
 cases e : rQ ds.length i with
 | none => rw [e] at h; simp at h
 | some j =>
   rw [e] at h
   have h' : ds[j]? = some d := by simpa using h
   obtain ⟨x, h1, h2⟩ := r.get h'
   exact ⟨x, by simpa using h1, h2⟩
def kM (H : Hp) (v : V) (ds : List PyData) : Prop := Dv H v (.tuple ds) \/ Dv H v (.list ds)
def EY : R2 := fun x y H Q => ∃ ds i d, y = .int i /\ kM H x ds /\ kr ds i = some d /\ mG H d Q
theorem x5 {K : PySem.W.Frag} {x y : V} {H : Hp} {Q : VK} (h : EY x y H Q) : JM K x y H Q := by
 obtain ⟨ds, i, d, rfl, hs, hi, g⟩ := h
 rcases hs with hs | hs
 . cases hs with
   | tup h r =>
     obtain ⟨v, h1, h2⟩ := qM r hi
     exact .inr (.inl ⟨_, _, i, v, rfl, rfl, .of h, h1, g.use h2⟩)
 . cases hs with
   | lst h r =>
     obtain ⟨v, h1, h2⟩ := qM r hi
     exact .inl ⟨_, _, i, v, rfl, rfl, .inl h, h1, g.use h2⟩
section
variable {X : Cx}
def BP : R2 := fun x y H Q => EY x y H Q \/ BU x y H Q
theorem Hv : sU X BP := fun value slice pins s σ H x y v u Q I r1 r2 h => A7 value slice pins s σ H x y v u Q I r1 r2 (h.elim x5 fun z => .inr (.inr z))
def tM : List V -> Hp -> VK -> Prop := fun xs H Q => (∃ v ds, xs = [v] /\ kM H v ds /\ Q (.int (ds.length : Nat)) H) \/ ∃ z, xs = [.str z] /\ z.length <= sizeLine /\ Q (.int (z.length : Nat)) H
theorem su : dh X (.builtin "len") tM := fun pins s σ H xs us Q I r h => by
 rcases h with ⟨v, ds, rfl, hs, q⟩ | h
 . rcases hs with hs | hs
   . cases hs with
     | tup h t => exact er pins s σ H _ us Q I r ⟨_, _, rfl, .inr (.of h), by rw [t.length]; exact q⟩
   . cases hs with
     | lst h t => exact er pins s σ H _ us Q I r ⟨_, _, rfl, .inl (.inl h), by rw [t.length]; exact q⟩
 . exact mr pins s σ H _ us Q I r h
def uP (K : PySem.W.Frag) (f : Bool -> Bool) : R2 := fun x y H Q => (yh x y = true /\ Q (.bl (f (decide (x = y)))) H) \/ ∃ d e, Dv H x d /\ Dv H y e /\ d.canLay0 = true /\ e.canLay0 = true /\ d.depth <= 8 /\ Q (.bl (f (PyData.eqv d e))) H
theorem pE (hu : X.A.units + 8 < cLine) : gu X (compareOp .Eq) (uP X.K id) := fun pins s σ H x y v u Q I rx ry h => by
 rcases h with h | ⟨d, e, h1, h2, h3, h4, h5, h6⟩
 . exact CO pins s σ H x y v u Q I rx ry h
 . exact Ac hu pins s σ H x y v u Q I rx ry ⟨d, e, h1.has h3, h2.has h4, h3, h4, h5, h6⟩
theorem tK (hu : X.A.units + 8 < cLine) : gu X (compareOp .NotEq) (uP X.K not) := fun pins s σ H x y v u Q I rx ry h => by
 rcases h with h | ⟨d, e, h1, h2, h3, h4, h5, h6⟩
 . exact ED pins s σ H x y v u Q I rx ry h
 . exact A6 hu pins s σ H x y v u Q I rx ry ⟨d, e, h1.has h3, h2.has h4, h3, h4, h5, h6⟩
variable {es : List Expr} {t : TA} {pos : Pos}
def vS (xs : List V) (H1 : Hp) (Q : VK) : Prop := xs.length <= sizeLine /\ ∃ ds, aT H1 xs ds /\ ∀ p H2, ah H1 H2 -> H1 p = none -> H2 p = some (.tup xs) -> Dv H2 (.ref p) (.tuple ds) -> Q (.ref p) H2
def vO (xs : List V) (H1 : Hp) (Q : VK) : Prop := xs.length <= sizeLine /\ ∃ ds, aT H1 xs ds /\ ∀ p H2, ah H1 H2 -> H1 p = none -> H2 p = some (.lst xs) -> aT H2 xs ds -> Dv H2 (.ref p) (.list ds) -> Q (.ref p) H2
def yP (t : TA) : TE := fun σ H Q => t σ H fun xs H1 => vS xs H1 Q
theorem cg {x1} (h : PA X es t) : PE X (.Tuple es x1 pos) (yP t) := PE.weak (AV h.m) fun σ H Q q => ⟨_, q, fun xs H1 ⟨hl, ds, hd, k⟩ => ⟨hl, fun p hp => by
 have sm : ah H1 (upd H1 p (.tup xs)) := fun b u e => by rw [aw (aC e hp)]; exact e
 exact k p _ sm hp aA (.tup aA (hd.keeps sm))⟩⟩
def yK (t : TA) : TE := fun σ H Q => t σ H fun xs H1 => vO xs H1 Q
theorem bo (h : PA X es t) : PE X (.List es pos) (yK t) := PE.weak (B7 h.m) fun σ H Q q => ⟨_, q, fun xs H1 ⟨hl, ds, hd, k⟩ => ⟨hl, fun p hp => by
 have sm : ah H1 (upd H1 p (.lst xs)) := fun b u e => by rw [aw (aC e hp)]; exact e
 exact k p _ sm hp aA (hd.keeps sm) (.lst (.of aA) (hd.keeps sm))⟩⟩
variable {st : Stmt} {rest : List Stmt}
def z0 (t u : TS) : TS := fun D σ H => ∃ R : St -> Hp -> Prop, t { D with nx := R } σ H /\ ∀ σ' H', R σ' H' -> u D σ' H'
theorem ai {t u : TS} (h1 : PS X st t) (h2 : oq X rest u) : oq X (st :: rest) (z0 t u) := by
 intro pins s σ H D I ⟨R, h, k⟩
 refine wpAny_execs_cons (bF (h1 pins s σ H { D with nx := R } I h) fun f s1 q => ?_)
 cases f with
 | next =>
   obtain ⟨σ', H', I', q⟩ := q
   exact h2 pins s1 σ' H' D I' (k _ _ q)
 | ret v => exact q
 | brk => exact q
 | cont => exact q
end
section
variable {σ : St} {H : Hp} {Q : VK} {D : Ends} {K : PySem.W.Frag}
theorem zK {t u : TS} (h : t { D with nx := u D } σ H) : z0 t u D σ H := ⟨u D, h, fun _ _ z => z⟩
theorem tN {t : TA} (h : t σ H fun xs H1 => vS xs H1 Q) : yP t σ H Q := h
theorem B9 {xs : List V} {ds : List PyData} (hl : xs.length <= sizeLine) (hd : aT H xs ds) (k : ∀ v H2, ah H H2 -> Dv H2 v (.tuple ds) -> Q v H2) : vS xs H Q := ⟨hl, ds, hd, fun p H2 s _ _ d => k (.ref p) H2 s d⟩
theorem gW {xs : List V} {ds : List PyData} (hl : xs.length <= sizeLine) (hd : aT H xs ds) (k : ∀ p H2, ah H H2 -> H p = none -> H2 p = some (.tup xs) -> Q (.ref p) H2) : vS xs H Q := ⟨hl, ds, hd, fun p H2 s n e _ => k p H2 s n e⟩
theorem Bf {t : TA} (h : t σ H fun xs H1 => vO xs H1 Q) : yK t σ H Q := h
theorem CA {f : Bool -> Bool} {x y : V} (e : yh x y = true) (h : Q (.bl (f (decide (x = y)))) H) : uP K f x y H Q := .inl ⟨e, h⟩
theorem y9 {f : Bool -> Bool} {x y : V} {d e : PyData} (h1 : Dv H x d) (h2 : Dv H y e) (h3 : d.canLay0 = true) (h4 : e.canLay0 = true) (h5 : d.depth <= 8) (h : Q (.bl (f (PyData.eqv d e))) H) : uP K f x y H Q := .inr ⟨d, e, h1, h2, h3, h4, h5, h⟩
theorem DQ {x : V} {ds : List PyData} {i : Int} {d : PyData} (hs : kM H x ds) (hi : kr ds i = some d) (g : mG H d Q) : BP x (.int i) H Q := .inl ⟨ds, i, d, rfl, hs, hi, g⟩
theorem BO {v : V} {ds : List PyData} (hs : kM H v ds) (h : Q (.int (ds.length : Nat)) H) : tM [v] H Q := .inl ⟨v, ds, rfl, hs, h⟩
theorem lU {i : Int} (h : Q (.int i) H) : mG H (.int i) Q := h
theorem xW {i : Str} (h : Q (.str i) H) : mG H (.str i) Q := h
theorem yo {ds : List PyData} (h : ∀ v, Dv H v (.list ds) -> Q v H) : mG H (.list ds) Q := h
theorem CB {b : Bool} {A B : Prop} (h1 : b = true -> A) (h2 : b = false -> B) : if b = true then A else B := by
 cases b
 . exact HD (h2 rfl)
 . exact FE (h1 rfl)
end
theorem bV.Dy {k : Nat} {A : Around} (r : bV k A) : A.units + 8 < cLine := Nat.lt_of_le_of_lt (by omega) r.units
theorem ah.at {H H' : Hp} {a : Addr} {o : HO} (s : ah H H') (h : H a = some o) : H' a = some o := s a o h
theorem aJ {H : Hp} {t : Addr} {o : HO} (h : H t = none) : ah H (upd H t o) := fun b u e => by rw [aw (aC e h)]; exact e
section
variable {σ : St} {H : Hp} {Q : VK} {D : Ends} {K : PySem.W.Frag}
end
def isInt : PyData -> Bool | .int _ => true | .bool _ => true | _ => false
def isBool : PyData -> Bool | .bool _ => true | _ => false
def isStr : PyData -> Bool | .str _ => true | _ => false
def EK : PyData -> Bool | .list _ => true | _ => false
def isTup : PyData -> Bool | .tuple _ => true | _ => false
def EZ : PyData -> Bool | .dict _ => true | _ => false
section
variable {K : PySem.W.Frag} {H : Hp} {v : V} {d : PyData} {Q : VK}
def Kj (H : Hp) (v : V) (C : Addr) (fs : List (Str × V)) : Prop := ∃ p dx, v = .ref p /\ H p = some (.ins C dx fs)
end
section
variable {X : Cx}
def kA (K : PySem.W.Frag) : R2 := fun x y H Q => BP x y H Q \/ Bx K x y H Q
theorem dQ : sU X (kA X.K) := fun value slice pins s σ H x y v u Q I r1 r2 h => h.elim (Hv value slice pins s σ H x y v u Q I r1 r2) (qE value slice pins s σ H x y v u Q I r1 r2)
def nO (K : PySem.W.Frag) : List V -> Hp -> VK -> Prop := fun xs H Q => tM xs H Q \/ ∃ p ys, xs = [.ref p] /\ bp K H p ys /\ Q (.int ys.length) H
theorem bX : dh X (.builtin "len") (nO X.K) := fun pins s σ H xs us Q I r h => by
 rcases h with h | ⟨p, ys, e, hl, q⟩
 . exact su pins s σ H xs us Q I r h
 . exact er pins s σ H xs us Q I r ⟨p, ys, e, .inl hl, q⟩
end
section
variable {σ : St} {H : Hp} {Q : VK} {D : Ends} {K : PySem.W.Frag}
theorem qX {x : V} {ds : List PyData} {i : Int} {d : PyData} (hs : kM H x ds) (hi : kr ds i = some d) (g : mG H d Q) : kA K x (.int i) H Q := .inl (DQ hs hi g)
theorem yY {p : Addr} {xs : List V} {i : Int} {v : V} (hs : bp K H p xs) (hi : kr xs i = some v) (g : Q v H) : kA K (.ref p) (.int i) H Q := .inr ⟨p, xs, i, v, rfl, rfl, hs, hi, g⟩
theorem uo {v : V} {ds : List PyData} (hs : kM H v ds) (h : Q (.int (ds.length : Nat)) H) : nO K [v] H Q := .inl (BO hs h)
theorem zH {p : Addr} {xs : List V} (hs : bp K H p xs) (h : Q (.int xs.length) H) : nO K [.ref p] H Q := .inr ⟨p, xs, rfl, hs, h⟩
theorem HR {R : Prop} (h : R) : V.aZ = V.aZ /\ R := ⟨rfl, h⟩
end
theorem bg {i : Int} (h1 : -(10 ^ 200) < i) (h2 : i < 10 ^ 200) : i.natAbs < 2 ^ 2000 := by
 have : (10 : Nat) ^ 200 < 2 ^ 2000 := by decide +kernel
 have h3 : i.natAbs < 10 ^ 200 := by
  have e : ((10 : Nat) ^ 200 : Nat) = ((10 : Int) ^ 200).toNat := by decide +kernel
  rw [e]
  generalize (10 : Int) ^ 200 = m at h1 h2 ⊢
  omega
 exact Nat.lt_trans h3 this
theorem DL {i j : Int} (h1 : -(10 ^ 200) < i /\ i < 10 ^ 200) (h2 : -(10 ^ 200) < j /\ j < 10 ^ 200) : pX i j := ⟨bg h1.1 h1.2, bg h2.1 h2.2⟩
theorem DK {i j : Int} (h1 : 0 < j) (h2 : j < 10 ^ 200) : yz i j := ⟨h1, bg (Int.lt_trans (by decide) h1) h2⟩
def cell (ns : List Int) (k : Nat) : Int := ns.getD k 0
def pJ (K : PySem.W.Frag) : Sp := fun vs H Q _ => ∃ l ns k, vs = [.ref l, .int k] /\ bp K H l (ns.map V.int) /\ 0 <= k /\ Q (.int (cell ns k.toNat)) H
theorem BW {K : PySem.W.Frag} {H : Hp} {Q : VK} {E : XK} {l : Addr} {ns : List Int} {k : Int} (h : bp K H l (ns.map V.int)) (hk : 0 <= k) (q : Q (.int (cell ns k.toNat)) H) : pJ K [.ref l, .int k] H Q E := ⟨l, ns, k, rfl, h, hk, q⟩
theorem xZ {ns : List Int} {k : Int} (h0 : 0 <= k) (h : k < (ns.map V.int).length) : kr (ns.map V.int) k = some (.int (cell ns k.toNat)) := by
 obtain ⟨n, rfl⟩ := Int.eq_ofNat_of_zero_le h0
 refine fR ?_
 have hn : n < ns.length := by simpa using h
 simp [cell, hn, List.getD_eq_getElem?_getD]
theorem wU {ns : List Int} {k : Int} (h0 : 0 <= k) (h : ¬ k < (ns.map V.int).length) : cell ns k.toNat = 0 := by
 have : ns.length <= k.toNat := by simp at h; omega
 simp [cell, List.getD_eq_getElem?_getD, this]
def qD (sp : Sp) (vs : List V) (H : Hp) (Q : VK) (E : XK) : Prop := ∃ ws, vs = ws /\ sp ws H Q E
theorem tO (sp : Sp) (vs : List V) (H : Hp) (Q : VK) (E : XK) : qD sp vs H Q E = sp vs H Q E := propext ⟨fun ⟨_, e, h⟩ => e ▸ h, fun h => ⟨vs, rfl, h⟩⟩
def my (sp : Sp) (gQ : List V) (E : XK) (t : TA) : TE := fun σ H Q => t σ H fun vs H1 => qD sp (vs ++ gQ) H1 Q E
theorem rN (sp : Sp) (gQ : List V) (E : XK) (t : TA) : my sp gQ E t = qK sp gQ E t := by
 funext σ H Q; unfold my qK; congr 1; funext vs H1; exact tO _ _ _ _ _
section
variable {X : Cx} {k : Nat} {f C : Addr} {ps : List Str} {sp : Sp} {gQ : List V} {x m : Str} {p pos apos : Pos} {e o : Expr} {es : List Expr} {ta : TE} {t : TA}
theorem aG (c : jD X.prog X.w X.K X.mg X.base k f ps gQ sp) (hr : bV k X.A) (hg : Gl X x) (hm : X.mg x = some (.ref f)) (hk : PySem.W.keepIn X.K (.ref f) = true)
 (ha : PA X (e :: es) t) (xG : (x == ("__debug__" : Str)) = false := by decide) (he : starEach (e :: es) X.env = (false, eval e X.env) :: starEach es X.env := by rfl) (lF : (backTo pos (starEach es X.env)).any (·.1) = false := by rfl) :
 PE X (.Call (.Name x p) (e :: es) [] pos) (my sp gQ E0 t) := by rw [rN]; exact xU c hr hg hm hk ha xG he lF
end
section
variable {σ : St} {H : Hp} {Q : VK} {D : Ends} {K : PySem.W.Frag}
theorem wA {sp : Sp} {gQ : List V} {E : XK} {t : TA} (h : t σ H fun vs H1 => qD sp (vs ++ gQ) H1 Q E) : my sp gQ E t σ H Q := h
theorem oF {sp : Sp} {vs ws : List V} {E : XK} (e : vs = ws) (h : sp ws H Q E) : qD sp vs H Q E := ⟨ws, e, h⟩
theorem zz {b : Bool} {R : Bool -> Prop} (h : R b) : ∃ k, oE K (.bl b) H k /\ R k := ⟨b, rfl, h⟩
end
theorem fG {n : Nat} (h : Nat.ble n 64 = true) : n <= sizeLine := Nat.le_trans (Nat.le_of_ble_eq_true h) (by decide)
section
variable {X : Cx} {st : Stmt} {rest : List Stmt}
def yG (t u : TS) : TS := z0 t u
theorem nS {t u : TS} (h1 : PS X st t) (h2 : oq X rest u) : oq X (st :: rest) (yG t u) := ai h1 h2
end
section
variable {σ : St} {H : Hp} {Q : VK} {D : Ends} {K : PySem.W.Frag}
theorem uw {t u : TS} (R : St -> Hp -> Prop) (h : t { D with nx := R } σ H) (k : ∀ σ' H', R σ' H' -> u D σ' H') : yG t u D σ H := ⟨R, h, k⟩
theorem vP {xs : List V} {ds : List PyData} (hl : xs.length <= sizeLine) (hd : aT H xs ds) (k : ∀ p H2, ah H H2 -> H p = none -> H2 p = some (.lst xs) -> aT H2 xs ds -> Dv H2 (.ref p) (.list ds) -> Q (.ref p) H2) : vO xs H Q := ⟨hl, ds, hd, k⟩
def wu (K : PySem.W.Frag) (x : V) (g : TG) (tb : TS) (D : Ends) (σ : St) (H1 : Hp) : Prop := ∃ a, x = .ref a /\ (∃ xs, bp K H1 a xs) /\ ∃ W : Nat -> Nat -> St -> Hp -> Prop, (∃ m, W 0 m σ H1) /\ ∀ i m σ H, W i m σ H ->
 ((vZ K a).stop i H /\ D.nx σ H) \/ ((vZ K a).go i H /\ ∃ N : St -> Hp -> Prop, (∀ σ' H', N σ' H' -> ∃ m', m' < m /\ W (i + 1) m' σ' H') /\ ∀ x H', (vZ K a).xm i H x H' -> g x σ H' fun σ2 H2 => tb { D with nx := N, ct := N, bk := D.nx } σ2 H2)
theorem DA {tl : TE} {g : TG} {tb : TS} (h : tl σ H fun x H1 => wu K x g tb D σ H1) : tB (vp K tl) g tb D σ H := h
theorem forL {a : Addr} {xs : List V} {g : TG} {tb : TS} (hl : bp K H a xs) (Pv : Nat -> St -> Hp -> Prop) (h0 : Pv 0 σ H) (hk : ∀ i σ H, i <= xs.length -> Pv i σ H -> bp K H a xs)
 (hs : ∀ i x σ H, xs[i]? = some x -> Pv i σ H -> g x σ H fun σ2 H2 => tb { D with nx := Pv (i + 1), ct := Pv (i + 1), bk := D.nx } σ2 H2) (hd : ∀ σ H, Pv xs.length σ H -> D.nx σ H) : wu K (.ref a) g tb D σ H :=
 ⟨a, rfl, ⟨xs, hl⟩, vH Pv h0 hk hs hd⟩
def Gi (lo : Int) (n : Nat) (g : TG) (tb : TS) (D : Ends) (σ : St) (H1 : Hp) : Prop := ∃ W : Nat -> Nat -> St -> Hp -> Prop, (∃ m, W 0 m σ H1) /\ ∀ i m σ H, W i m σ H ->
 ((yp lo n).stop i H /\ D.nx σ H) \/ ((yp lo n).go i H /\ ∃ N : St -> Hp -> Prop, (∀ σ' H', N σ' H' -> ∃ m', m' < m /\ W (i + 1) m' σ' H') /\ ∀ x H', (yp lo n).xm i H x H' -> g x σ H' fun σ2 H2 => tb { D with nx := N, ct := N, bk := D.nx } σ2 H2)
theorem wC {ta : TA} {g : TG} {tb : TS} (h : ta σ H fun vs H1 => ∃ j : Int, vs = [.int j] /\ -(2 ^ 62) <= j /\ j < 2 ^ 62 /\ Gi 0 j.toNat g tb D σ H1) : tB (yT ta) g tb D σ H := h
theorem zB {j : Int} {R : Int -> Prop} (h1 : -(2 ^ 62) <= j) (h2 : j < 2 ^ 62) (h : R j) : ∃ i : Int, [V.int j] = [.int i] /\ -(2 ^ 62) <= i /\ i < 2 ^ 62 /\ R i := ⟨j, rfl, h1, h2, h⟩
end
section
variable {X : Cx}
def zi : List V -> Hp -> VK -> Prop := fun xs H Q => ∃ i j, xs = [.int i, .int j] /\ ∀ k, (k = i \/ k = j) -> k <= i -> k <= j -> Q (.int k) H
theorem lE (hc : X.calm = true) : dh X (.builtin "min") zi := fun pins s σ H xs us Q I r ⟨i, j, e, h⟩ => rV hc pins s σ H xs us Q I r ⟨i, j, e, by
 split
 . exact h _ (.inr rfl) (by omega) (by omega)
 . exact h _ (.inl rfl) (by omega) (by omega)⟩
def yX : List V -> Hp -> VK -> Prop := fun xs H Q => ∃ i j, xs = [.int i, .int j] /\ ∀ k, (k = i \/ k = j) -> i <= k -> j <= k -> Q (.int k) H
theorem rP (hc : X.calm = true) : dh X (.builtin "max") yX := fun pins s σ H xs us Q I r ⟨i, j, e, h⟩ => sj hc pins s σ H xs us Q I r ⟨i, j, e, by
 split
 . exact h _ (.inr rfl) (by omega) (by omega)
 . exact h _ (.inl rfl) (by omega) (by omega)⟩
def zh : R2 := fun x y H Q => ∃ i j, x = .int i /\ y = .int j /\ 0 < j /\ (0 <= i % j -> i % j < j -> Q (.int (i % j)) H)
theorem aF : gu X (binaryOp .Mod) zh := fun pins s σ H x y v u Q I rx ry ⟨i, j, e1, e2, hj, h⟩ => AW pins s σ H x y v u Q I rx ry ⟨i, j, e1, e2, hj, h (Int.emod_nonneg _ (by omega)) (Int.emod_lt_of_pos _ hj)⟩
end
section
variable {σ : St} {H : Hp} {Q : VK} {D : Ends} {K : PySem.W.Frag}
theorem Au {i j : Int} (h : ∀ k, (k = i \/ k = j) -> k <= i -> k <= j -> Q (.int k) H) : zi [.int i, .int j] H Q := ⟨i, j, rfl, h⟩
theorem Am {i j : Int} (h : ∀ k, (k = i \/ k = j) -> i <= k -> j <= k -> Q (.int k) H) : yX [.int i, .int j] H Q := ⟨i, j, rfl, h⟩
theorem zZ {i j : Int} (hj : 0 < j) (h : 0 <= i % j -> i % j < j -> Q (.int (i % j)) H) : zh (.int i) (.int j) H Q := ⟨i, j, rfl, rfl, hj, h⟩
end
section
variable {σ : St} {H : Hp} {Q : VK} {D : Ends} {K : PySem.W.Frag}
def y4 (Pv : Nat -> St -> Hp -> Prop) (m : Nat) (tb : TS) (D : Ends) (σ : St) (H1 : Hp) : Prop := ∃ N : St -> Hp -> Prop, (∀ σ' H', N σ' H' -> ∃ m', m' < m /\ Pv m' σ' H') /\ tb { D with nx := N, ct := N, bk := D.nx } σ H1
theorem Ba {Pv : Nat -> St -> Hp -> Prop} {m : Nat} {tb : TS} (h : tb { D with nx := fun σ' H' => ∃ m', m' < m /\ Pv m' σ' H', ct := fun σ' H' => ∃ m', m' < m /\ Pv m' σ' H', bk := D.nx } σ H) : y4 Pv m tb D σ H := ⟨_, fun _ _ h => h, h⟩
theorem qH {c : TT} {tb : TS} (Pv : Nat -> St -> Hp -> Prop) (h0 : ∃ m, Pv m σ H) (hs : ∀ m σ H, Pv m σ H -> c σ H fun b H1 => if b = true then y4 Pv m tb D σ H1 else D.nx σ H1) : uR c tb D σ H := ⟨Pv, h0, hs⟩
end
end L2
namespace L2
end L2
namespace L2
open PySem PySem.Spec PyProof.Rows
section
variable {X : Cx}
end
section
variable {σ : St} {H : Hp} {Q : VK} {D : Ends} {K : PySem.W.Frag}
end
theorem Aw {H : Hp} {Q : VK} {i j p : Int} (c : A9 i j) (e : i ^ j.toNat = p) (h : Q (.int p) H) : rI A9 (fun i j => .int (i ^ j.toNat)) (.int i) (.int j) H Q := ⟨i, j, rfl, rfl, c, by show Q (.int (i ^ j.toNat)) H; rw [e]; exact h⟩
section
variable {X : Cx} {e : Expr}
end
section
variable {σ : St} {H : Hp} {Q : VK} {D : Ends} {K : PySem.W.Frag}
def Dl (K : PySem.W.Frag) (x : V) (i j : Nat) (D : Ends) (σ : St) (H : Hp) : Prop := lV K 2 (cO (bT i) (cO (bT j) nK)) x σ H D.nx
theorem zV {te : TE} {i j : Nat} (h : te σ H fun x H1 => Dl K x i j D σ H1) : se te (lV K 2 (cO (bT i) (cO (bT j) nK))) D σ H := h
end
end L2
namespace L2
end L2
namespace L2
open PySem PySem.Spec PyProof.Rows PySem.W
structure LC (lt : Nat -> Nat -> Bool) : Prop where
 EW : ∀ a, lt a a = false
 Dr : ∀ a b, lt a b = true -> lt b a = false
 vU : ∀ a b c, lt a b = false -> lt b c = false -> lt a c = false
section
variable {lt : Nat -> Nat -> Bool} {n : Nat} {S : Shared -> Prop} {cmp : Nat -> Nat -> (Bool -> Shared -> Prop) -> Shared -> Prop}
def Up (lt : Nat -> Nat -> Bool) (p : Array Nat) (k : Nat) : Prop := ∀ i j, i < j -> j < k -> lt (p.getD j 0) (p.getD i 0) = false
def Down (lt : Nat -> Nat -> Bool) (p : Array Nat) (k : Nat) : Prop := ∀ i j, i < j -> j < k -> lt (p.getD i 0) (p.getD j 0) = false
def Alike (lt : Nat -> Nat -> Bool) (p : Array Nat) (a b : Nat) : Prop := ∀ i j, a <= i -> i < b -> a <= j -> j < b -> lt (p.getD i 0) (p.getD j 0) = false
structure Ix (n : Nat) (p : Array Nat) : Prop where
 sz : p.size = n
 pm : p.toList.Perm (List.range n)
theorem Ix.low {p : Array Nat} (h : Ix n p) {i : Nat} (hi : i < n) : p.getD i 0 < n := by
 have yI : i < p.size := by rw [h.sz]; exact hi
 have e : p.getD i 0 = p[i] := by simp [Array.getD, yI]
 rw [e]
 have : p[i] ∈ p.toList := by simp
 exact List.mem_range.mp (h.pm.mem_iff.mp this)
theorem Ix.perm {p q : Array Nat} (h : Ix n p) (hq : q.Perm p) : Ix n q := ⟨hq.size_eq.trans h.sz, (Array.perm_iff_toList_perm.mp hq).trans h.pm⟩
theorem cL {p : Array Nat} {i j : Nat} (hj : j <= p.size) (k : Nat) : (kas_rev p i j).getD k 0 = if i <= k /\ k < j then p.getD (i + j - 1 - k) 0 else p.getD k 0 := by
 unfold kas_rev
 rw [Array.getD_eq_getD_getElem?, getElem?_mirror_all hj k]
 by_cases h : i <= k /\ k < j
 . rw [if_pos h, if_pos h, Array.getD_eq_getD_getElem?]
 . rw [if_neg h, if_neg h, Array.getD_eq_getD_getElem?]
theorem jY {p : Array Nat} (h : Ix n p) (i j : Nat) : Ix n (kas_rev p i j) := h.perm (mirror_perm _ _ _ _)
theorem n6 {p : Array Nat} {k d : Nat} (hk : k < p.size) (hd : d <= k) (i : Nat) : (bubble p k d).getD i 0 = if i = k - d then p.getD k 0 else if k - d < i /\ i <= k then p.getD (i - 1) 0 else p.getD i 0 := by
 rw [Array.getD_eq_getD_getElem?, getElem?_bubble hk d hd i]
 by_cases h : i = k - d
 . rw [if_pos h, if_pos h, Array.getD_eq_getD_getElem?]
 . rw [if_neg h, if_neg h]
   by_cases h2 : k - d < i /\ i <= k
   . rw [if_pos h2, if_pos h2, Array.getD_eq_getD_getElem?]
   . rw [if_neg h2, if_neg h2, Array.getD_eq_getD_getElem?]
def D5 (n : Nat) (lt : Nat -> Nat -> Bool) (S : Shared -> Prop) (cmp : Nat -> Nat -> (Bool -> Shared -> Prop) -> Shared -> Prop) : Prop :=
 ∀ i j C s, i < n -> j < n -> S s -> (∀ s', S s' -> C (lt i j) s') -> cmp i j C s
variable (w : LC lt) (ha : D5 n lt S cmp)
include w ha
theorem oO {p : Array Nat} (hp : Ix n p) {Q : Nat -> Shared -> Prop} : ∀ (f k : Nat), 1 <= k -> k + f <= n -> Up lt p k -> (∀ m s, S s -> k <= m -> m <= k + f -> Up lt p m -> (m = k + f \/ (m < k + f /\ lt (p.getD m 0) (p.getD (m - 1) 0) = true)) -> Q m s) -> ∀ s, S s -> (kas_asc p f k).kasWp cmp Q s
 | 0, k, _, _, hu, hq, s, hs => hq k s hs (Nat.le_refl _) (Nat.le_refl _) hu (.inl rfl)
 | f + 1, k, h1, hf, hu, hq, s, hs => by
   refine ha _ _ _ _ (hp.low (by omega)) (hp.low (by omega)) hs fun s' sx => ?_
   cases e : lt (p.getD k 0) (p.getD (k - 1) 0) with
   | true => exact hq k s' sx (Nat.le_refl _) (by omega) hu (.inr ⟨by omega, e⟩)
   | false =>
     refine oO hp f (k + 1) (by omega) (by omega) (fun i j iD hj => ?_) (fun m s hs a b c d => hq m s hs (by omega) (by omega) c (by rcases d with d | d; exact .inl (by omega); exact .inr ⟨by omega, d.2⟩)) s' sx
     by_cases Aq : j < k
     . exact hu i j iD Aq
     . have : j = k := by omega
       subst this
       by_cases hi : i = j - 1
       . rw [hi]; exact e
       . exact w.vU _ _ _ e (hu i (j - 1) (by omega) (by omega))
theorem jy {Q : Array Nat × Nat × Nat -> Shared -> Prop} : ∀ (f : Nat) (p : Array Nat) (k q : Nat), Ix n p -> k + f <= n -> q + 1 <= k -> Down lt p k -> Alike lt p (k - (q + 1)) k ->
 (∀ p' k' q' s, S s -> Ix n p' -> k <= k' -> k' <= k + f -> q' + 1 <= k' -> Down lt p' k' -> Alike lt p' (k' - (q' + 1)) k' -> Q (p', k', q') s) -> ∀ s, S s -> (kas_desc f p k q).kasWp cmp Q s
 | 0, p, k, q, hp, _, h1, hd, hl, hq, s, hs => hq p k q s hs hp (Nat.le_refl _) (Nat.le_refl _) h1 hd hl
 | f + 1, p, k, q, hp, hf, h1, hd, hl, hq, s, hs => by
   refine ha _ _ _ _ (hp.low (by omega)) (hp.low (by omega)) hs fun s' sx => ?_
   cases e : lt (p.getD k 0) (p.getD (k - 1) 0) with
   | true =>
     have pM : ∀ i, i < k -> lt (p.getD i 0) (p.getD k 0) = false := fun i hi => by
      by_cases h : i = k - 1
      . rw [h]; exact w.Dr _ _ e
      . exact w.vU _ _ _ (hd i (k - 1) (by omega) (by omega)) (w.Dr _ _ e)
     by_cases h0 : q > 0
     . simp only [if_true, if_pos h0]
       have hk : k <= p.size := by rw [hp.sz]; omega
       refine jy f _ (k + 1) 0 (jY hp _ _) (by omega) (by omega) (fun i j iD hj => ?_) (fun i j a b c d => ?_) (fun p' k' q' s hs a b c d e f => hq p' k' q' s hs a (by omega) (by omega) d e f) s' sx
       . rw [cL hk, cL hk]
         by_cases Aq : j = k
         . subst Aq
           rw [if_neg (show ¬ (j - (q + 1) <= j /\ j < j) by omega)]
           by_cases hi : j - (q + 1) <= i /\ i < j
           . rw [if_pos hi]; exact pM _ (by omega)
           . rw [if_neg hi]; exact pM _ iD
         . by_cases hi : k - (q + 1) <= i /\ i < k
           . rw [if_pos hi, if_pos (show k - (q + 1) <= j /\ j < k by omega)]
             exact hl _ _ (by omega) (by omega) (by omega) (by omega)
           . rw [if_neg hi]
             by_cases yJ : k - (q + 1) <= j /\ j < k
             . rw [if_pos yJ]; exact hd _ _ (by omega) (by omega)
             . rw [if_neg yJ]; exact hd _ _ iD (by omega)
       . have : i = k := by omega
         have : j = k := by omega
         subst_vars
         exact w.EW _
     . simp only [if_true, if_neg h0]
       refine jy f _ (k + 1) 0 hp (by omega) (by omega) (fun i j iD hj => ?_) (fun i j a b c d => ?_) (fun p' k' q' s hs a b c d e f => hq p' k' q' s hs a (by omega) (by omega) d e f) s' sx
       . by_cases Aq : j = k
         . subst Aq; exact pM _ iD
         . exact hd _ _ iD (by omega)
       . have : i = k := by omega
         have : j = k := by omega
         subst_vars
         exact w.EW _
   | false =>
     simp only [Bool.false_eq_true, if_false]
     refine ha _ _ _ _ (hp.low (by omega)) (hp.low (by omega)) sx fun s2 Av => ?_
     cases e2 : lt (p.getD (k - 1) 0) (p.getD k 0) with
     | true => simp only [if_true]; exact hq p k q s2 Av hp (Nat.le_refl _) (by omega) h1 hd hl
     | false =>
       simp only [Bool.false_eq_true, if_false]
       refine jy f _ (k + 1) (q + 1) hp (by omega) (by omega) (fun i j iD hj => ?_) (fun i j a b c d => ?_) (fun p' k' q' s hs a b c d e f => hq p' k' q' s hs a (by omega) (by omega) d e f) s2 Av
       . by_cases Aq : j = k
         . subst Aq
           by_cases h : i = j - 1
           . rw [h]; exact e2
           . exact w.vU _ _ _ (hd i (j - 1) (by omega) (by omega)) e2
         . exact hd _ _ iD (by omega)
       . by_cases hi : i = k
         . by_cases hj : j = k
           . rw [hi, hj]; exact w.EW _
           . rw [hi]; exact w.vU _ _ _ e (hl _ _ (by omega) (by omega) (by omega) (by omega))
         . by_cases hj : j = k
           . rw [hj]; exact w.vU _ _ _ (hl _ _ (by omega) (by omega) (by omega) (by omega)) e2
           . exact hl _ _ (by omega) (by omega) (by omega) (by omega)
theorem oi {Q : Nat × Array Nat -> Shared -> Prop} {p : Array Nat} {k : Nat} (hp : Ix n p) (h1 : 1 <= k) (hk : k <= n) (hd : Down lt p k) (hq : ∀ m p' s, S s -> Ix n p' -> 1 <= m -> m <= n -> Up lt p' m -> Q (m, p') s) (s : Shared) (hs : S s) : (kas_tail3 k n p).kasWp cmp Q s := by
 unfold kas_tail3
 rw [KasT.kasWp_bind]
 have v7 : k <= p.size := by rw [hp.sz]; exact hk
 refine oO w ha (jY hp 0 k) (n - k) k h1 (by omega) (fun i j iD hj => ?_) (fun m s hs a b c _ => hq m _ s hs (jY hp _ _) (by omega) (by omega) c) s hs
 rw [cL v7, cL v7, if_pos (by omega), if_pos (by omega)]
 exact hd _ _ (by omega) (by omega)
theorem jb {Q : Nat × Array Nat -> Shared -> Prop} {p : Array Nat} {k : Nat} (hp : Ix n p) (h1 : 1 <= k) (hk : k + 1 <= n) (hd : Down lt p (k + 1)) (hq : ∀ m p' s, S s -> Ix n p' -> 1 <= m -> m <= n -> Up lt p' m -> Q (m, p') s) (s : Shared) (hs : S s) : (kas_descPart k n p).kasWp cmp Q s := by
 unfold kas_descPart
 rw [KasT.kasWp_bind]
 refine jy w ha _ p (k + 1) 0 hp (by omega) (by omega) hd (fun i j a b c d => ?_) (fun p' k' q' s hs yu a b c ia hl => ?_) s hs
 . have : i = k := by omega
   have : j = k := by omega
   subst_vars
   exact w.EW _
 . by_cases h0 : q' > 0
   . simp only [if_pos h0]
     have v7 : k' <= p'.size := by rw [yu.sz]; omega
     refine oi w ha (jY yu _ _) (by omega) (by omega) (fun i j iD hj => ?_) hq s hs
     rw [cL v7, cL v7]
     by_cases hi : k' - (q' + 1) <= i /\ i < k'
     . rw [if_pos hi, if_pos (by omega)]; exact hl _ _ (by omega) (by omega) (by omega) (by omega)
     . rw [if_neg hi]
       by_cases yJ : k' - (q' + 1) <= j /\ j < k'
       . rw [if_pos yJ]; exact ia _ _ (by omega) (by omega)
       . rw [if_neg yJ]; exact ia _ _ iD (by omega)
   . simp only [if_neg h0]
     exact oi w ha yu (by omega) (by omega) ia hq s hs
theorem s9 {Q : Nat × Array Nat -> Shared -> Prop} {p : Array Nat} (hn : 1 <= n) (hp : Ix n p) (hq : ∀ m p' s, S s -> Ix n p' -> 1 <= m -> m <= n -> Up lt p' m -> Q (m, p') s) (s : Shared) (hs : S s) : (kas_count n p).kasWp cmp Q s := by
 unfold kas_count
 rw [KasT.kasWp_bind]
 refine oO w ha hp (n - 1) 1 (Nat.le_refl _) (by omega) (fun i j _ _ => by omega) (fun m s hs a b hu hc => ?_) s hs
 by_cases hm : (m == n) = true
 . simp only [if_pos hm]; exact hq m p s hs hp a (by have := beq_iff_eq.mp hm; omega) hu
 . simp only [if_neg hm]
   have FR : m ≠ n := fun z => hm (beq_iff_eq.mpr z)
   have ck : m < n := by omega
   have sT : lt (p.getD m 0) (p.getD (m - 1) 0) = true := by
    rcases hc with hc | hc
    . omega
    . exact hc.2
   by_cases h1 : m > 1
   . simp only [if_pos h1]
     refine ha _ _ _ _ (hp.low (by omega)) (hp.low (by omega)) hs fun s2 Av => ?_
     cases e : lt (p.getD 0 0) (p.getD (m - 1) 0) with
     | true => simp only [if_true]; exact hq m p s2 Av hp a (by omega) hu
     | false =>
       simp only [Bool.false_eq_true, if_false]
       have hk : m <= p.size := by rw [hp.sz]; omega
       have al : ∀ i j, i < m -> j < m -> lt (p.getD i 0) (p.getD j 0) = false := fun i j hi hj => by
        have h1 : lt (p.getD i 0) (p.getD 0 0) = false := by
         by_cases h : i = 0
         . rw [h]; exact w.EW _
         . exact hu 0 i (by omega) hi
        have h2 : lt (p.getD i 0) (p.getD (m - 1) 0) = false := w.vU _ _ _ h1 e
        by_cases h : j = m - 1
        . rw [h]; exact h2
        . exact w.vU _ _ _ h2 (hu j (m - 1) (by omega) (by omega))
       refine jb w ha (jY hp _ _) a (by omega) (fun i j iD hj => ?_) hq s2 Av
       rw [cL hk, cL hk, if_pos (by omega)]
       by_cases Ng : j < m
       . rw [if_pos (by omega)]; exact al _ _ (by omega) (by omega)
       . rw [if_neg (by omega)]
         have : j = m := by omega
         subst this
         exact w.vU _ _ _ (al _ (j - 1) (by omega) (by omega)) (w.Dr _ _ sT)
   . simp only [if_neg h1]
     refine jb w ha hp a (by omega) (fun i j iD hj => ?_) hq s hs
     have h1 : m = 1 := by omega
     have hi : i = m - 1 := by omega
     have hj : j = m := by omega
     rw [hi, hj]
     exact w.Dr _ _ sT
theorem jH {p : Array Nat} {k : Nat} (hp : Ix n p) (hk : k < n) (hu : Up lt p k) {Q : Nat -> Shared -> Prop} : ∀ (f l r : Nat), l <= r -> r <= k -> r - l <= f -> (∀ i, i < l -> lt (p.getD k 0) (p.getD i 0) = false) -> (∀ i, r <= i -> i < k -> lt (p.getD k 0) (p.getD i 0) = true) ->
 (∀ l s, S s -> l <= k -> (∀ i, i < l -> lt (p.getD k 0) (p.getD i 0) = false) -> (∀ i, l <= i -> i < k -> lt (p.getD k 0) (p.getD i 0) = true) -> Q l s) -> ∀ s, S s -> (kas_place p k f l r).kasWp cmp Q s
 | 0, l, r, LW, hr, hf, h1, h2, hq, s, hs => hq l s hs (by omega) h1 (fun i a b => h2 i (by omega) b)
 | f + 1, l, r, LW, hr, hf, h1, h2, hq, s, hs => by
   unfold kas_place
   by_cases h : l ≥ r
   . rw [if_pos h]; exact hq l s hs (by omega) h1 (fun i a b => h2 i (by omega) b)
   . rw [if_neg h]
     refine ha _ _ _ _ (hp.low hk) (hp.low (by omega)) hs fun s' sx => ?_
     cases e : lt (p.getD k 0) (p.getD ((l + r) / 2) 0) with
     | true =>
       simp only [if_true]
       refine jH hp hk hu f l ((l + r) / 2) (by omega) (by omega) (by omega) h1 (fun i a b => ?_) hq s' sx
       by_cases hi : i = (l + r) / 2
       . rw [hi]; exact e
       . cases e3 : lt (p.getD k 0) (p.getD i 0) with
         | true => rfl
         | false => rw [w.vU _ _ _ e3 (hu ((l + r) / 2) i (by omega) b)] at e; exact e
     | false =>
       simp only [Bool.false_eq_true, if_false]
       refine jH hp hk hu f ((l + r) / 2 + 1) r (by omega) (by omega) (by omega) (fun i a => ?_) h2 hq s' sx
       by_cases hi : i = (l + r) / 2
       . rw [hi]; exact e
       . exact w.vU _ _ _ e (hu i ((l + r) / 2) (by omega) (by omega))
theorem sZ {Q : Array Nat -> Shared -> Prop} : ∀ (f : Nat) (p : Array Nat) (k : Nat), Ix n p -> k + f = n -> Up lt p k -> (∀ p' s, S s -> Ix n p' -> Up lt p' n -> Q p' s) -> ∀ s, S s -> (kas_bin f p k).kasWp cmp Q s
 | 0, p, k, hp, hf, hu, hq, s, hs => by
   have : k = n := by omega
   subst this
   exact hq p s hs hp hu
 | f + 1, p, k, hp, hf, hu, hq, s, hs => by
   unfold kas_bin
   rw [KasT.kasWp_bind]
   refine jH w ha hp (by omega) hu k 0 k (by omega) (Nat.le_refl _) (by omega) (fun i h => by omega) (fun i a b => by omega) (fun l s hs hl h1 h2 => ?_) s hs
   have hk : k < p.size := by rw [hp.sz]; omega
   refine sZ f _ (k + 1) (hp.perm (bubble_perm _ _ _)) (by omega) (fun i j iD hj => ?_) hq s hs
   rw [n6 hk (by omega), n6 hk (by omega)]
   have el : k - (k - l) = l := by omega
   rw [el]
   by_cases mS : j = l
   . rw [if_pos mS, if_neg (by omega), if_neg (by omega)]; exact h1 i (by omega)
   . rw [if_neg mS]
     by_cases v9 : i = l
     . rw [if_pos v9, if_pos (by omega)]; exact w.Dr _ _ (h2 _ (by omega) (by omega))
     . rw [if_neg v9]
       by_cases sA : l < i /\ i <= k
       . rw [if_pos sA, if_pos (by omega)]; exact hu _ _ (by omega) (by omega)
       . rw [if_neg sA]
         by_cases yJ : l < j /\ j <= k
         . rw [if_pos yJ]; exact hu _ _ (by omega) (by omega)
         . rw [if_neg yJ]; exact hu _ _ iD (by omega)
theorem xP {Q : Array Nat -> Shared -> Prop} (hn : 1 <= n) (hq : ∀ p' s, S s -> Ix n p' -> Up lt p' n -> Q p' s) (s : Shared) (hs : S s) : (kas_sort n).kasWp cmp Q s := by
 unfold kas_sort
 rw [KasT.kasWp_bind]
 refine s9 w ha hn ⟨by simp, by simp⟩ (fun m p' s hs hp h1 hm hu => ?_) s hs
 by_cases h : m < n
 . simp only [if_pos h]
   have : max m 1 = m := by omega
   rw [this]
   exact sZ w ha _ p' m hp (by omega) hu hq s hs
 . simp only [if_neg h]
   have : m = n := by omega
   subst this
   exact hq p' s hs hp hu
end
section
variable {X : Cx} {pins : List (Addr × Obj)} {σ : St} {H H' : Hp} {s : Shared} {a : Addr}
theorem Inv.vL {f : Obj -> Obj} (I : Inv X pins σ H s) (fa : cq X pins H a) : Inv X pins σ H { s with heap := s.heap.update a f } :=
 I.turned (t' := s.toks) (fun b o hb e => by rw [Heap.get?_update_ne _ _ _ _ hb]; exact e) fa.1 fa.2.1 fa.2.2.2.1 fa.2.2.2.2.1 fa.2.2.2.2.2
theorem Inv.qL {o : Obj} (I : Inv X pins σ H s) : Inv X pins σ H { s with heap := s.heap.push o } := I.kept (t' := s.toks) fun b u e => Heap.get?_push_of_some _ e
theorem cq.keep (fa : cq X pins H a) (h : H' a = none) : cq X pins H' a := ⟨h, fa.2⟩
theorem Inv.C1 {acc : List V} {az : List Value} {n : Nat} (I : Inv X pins σ H s) (fa : cq X pins H a) (yi : X.cn.heap.objs.size <= a) (hl : acc.length <= sizeLine) (r : Vals acc az) (hd : s.heap.get? a = some { cls := .type "list", data := .seq az.toArray n }) :
 Inv X pins σ (upd H a (.lst acc)) s := by
 have ne : ∀ b u, H b = some u -> b ≠ a := fun b u e => aC e fa.1
 have old : ∀ b o, X.cn.heap.get? b = some o -> b ≠ a := fun b o e => Nat.ne_of_lt (Nat.lt_of_lt_of_le (Heap.lt_size e) yi)
 have U := I.base
 refine ⟨I.ok, I.os, I.bare, ⟨U.keep, U.slot, fun b o e n hx => ?_, U.there, fun b xs e => ?_, fun b o u e => ?_, fun b ps e => ?_⟩, I.loc, I.cell, ?_, fun x c e => ?_, fun p hp => ?_, fun b u e => ?_, I.len⟩
 . rw [aw (old b o e)]; exact U.free b o e n hx
 . rw [aw (ne b _ (U.jo b xs e))]; exact U.jo b xs e
 . rw [aw (ne b _ (U.iK b o u e))]; exact U.iK b o u e
 . obtain ⟨more, q⟩ := U.kz b ps e
   exact ⟨more, by rw [aw (ne b _ q)]; exact q⟩
 . rw [aw (Ne.symm fa.2.1)]; exact I.free
 . rw [aw (fa.2.2.2.2.1 x c e)]; exact I.dZ x c e
 . obtain ⟨e1, e2, e3⟩ := I.pin p hp
   exact ⟨e1, by rw [aw (fa.2.2.2.2.2 p hp)]; exact e2, e3⟩
 . by_cases hb : b = a
   . subst hb
     rw [aA] at e
     cases e
     exact ⟨hl, az, n, r, hd⟩
   . rw [aw hb] at e
     exact (I.aI b u e).mJ (fun c v _ q => q) (fun c q => by rw [aw (ne c _ q)]; exact q) fun c xs q => by rw [aw (ne c _ q)]; exact q
end
def qm (a b : Str) : Bool := decide (a.cps.toList < b.cps.toList)
def b4 (a b : Int × Str) : Bool := decide (a.1 < b.1) || (decide (a.1 = b.1) && qm a.2 b.2)
theorem wQ (a : Str) : qm a a = false := decide_eq_false (List.lt_irrefl _)
theorem wy {a b : Str} (h : qm a b = true) : qm b a = false := decide_eq_false (List.lt_asymm (of_decide_eq_true h))
theorem qw {a b c : Str} (h : qm a b = false) (h2 : qm b c = false) : qm a c = false := by
 unfold qm at *
 have sM : b.cps.toList <= a.cps.toList := List.not_lt.mp (of_decide_eq_false h)
 have CG : c.cps.toList <= b.cps.toList := List.not_lt.mp (of_decide_eq_false h2)
 exact decide_eq_false (List.not_lt.mpr (List.le_trans CG sM))
theorem t5 {a b : Int × Str} : b4 a b = true ↔ a.1 < b.1 \/ (a.1 = b.1 /\ qm a.2 b.2 = true) := by
 unfold b4; simp
theorem cv {a b : Int × Str} : b4 a b = false ↔ ¬ a.1 < b.1 /\ (a.1 = b.1 -> qm a.2 b.2 = false) := by
 unfold b4; simp
theorem n0 (a : Int × Str) : b4 a a = false := cv.mpr ⟨by omega, fun _ => wQ _⟩
theorem vf {a b : Int × Str} (h : b4 a b = true) : b4 b a = false := by
 rcases t5.mp h with h | ⟨h, h2⟩
 . exact cv.mpr ⟨by omega, fun _ => by omega⟩
 . exact cv.mpr ⟨by omega, fun _ => wy h2⟩
theorem vb {a b c : Int × Str} (h : b4 a b = false) (h2 : b4 b c = false) : b4 a c = false := by
 obtain ⟨h1, h3⟩ := cv.mp h
 obtain ⟨h4, h5⟩ := cv.mp h2
 refine cv.mpr ⟨by omega, fun e => ?_⟩
 exact qw (h3 (by omega)) (h5 (by omega))
section
variable {prog : Program} {w : World} {A : Around} {E : Value -> Shared -> Prop} {s : Shared}
theorem yl {x y : Addr} {i j : Int} {t u t2 u2 : Tok} {c d : Str} {Q : Bool -> Shared -> Prop} (hx : IsTup s.heap x #[.int i t, .str c t2]) (hy : IsTup s.heap y #[.int j u, .str d u2]) (h : Q (b4 (i, c) (j, d)) s) :
 wpAny (model prog w) A (keyLt' (tuples' true) (.ref x) (.ref y)) Q E s := by
 obtain ⟨ox, L9, cx, nx, dx⟩ := hx
 obtain ⟨oy, KG, cy, ny, dy⟩ := hy
 refine kat_lt L9 dx KG dy ?_
 refine kat_cons (wpAny_eqBool_int ?_)
 by_cases e : i = j
 . rw [show (i == j) = true from beq_iff_eq.mpr e]
   refine kat_yes (kat_cons (wpAny_eqBool_str ?_))
   by_cases e2 : c = d
   . rw [decide_eq_true e2]
     refine kat_yes (kat_nil ?_)
     have : b4 (i, c) (j, d) = false := by rw [e, e2]; exact n0 _
     rw [this] at h
     exact h
   . rw [decide_eq_false e2]
     refine kat_no (kat_one _ _ (lt_str ?_))
     have : b4 (i, c) (j, d) = qm c d := by unfold b4; simp [e]
     rw [this] at h
     exact h
 . rw [show (i == j) = false from beq_eq_false_iff_ne.mpr e]
   refine kat_no (oneLt_int ?_)
   have : b4 (i, c) (j, d) = decide (i < j) := by unfold b4; simp [e]
   rw [this] at h
   exact h
end
def pK (sp : Sp) (kf : V -> Int × Str) (H : Hp) (xs : List V) : Prop := ∀ v ∈ xs, ∀ H', ah H H' -> sp [v] H' (fun y H2 => ah H' H2 /\ Dv H2 y (.tuple [.int (kf v).1, .str (kf v).2])) E0
def lS {α : Type} (lt : α -> α -> Bool) (kf : V -> α) (ys xs : List V) : Prop := ys.Perm xs /\ ys.Pairwise fun x y => lt (kf y) (kf x) = false
section
variable {X : Cx} {pins : List (Addr × Obj)} {σ : St} {H : Hp} {s : Shared} {k : Nat} {f : Addr} {fd : FuncData} {ps : List Str} {sp : Sp} {kf : V -> Int × Str} {A : Around}
theorem yd {H' : Hp} {s' : Shared} {v : V} {u : Value} {pl : List (Addr × Obj)} (F : bG X.prog X.w X.K X.mg X.base hZ k f fd ps sp) (hb : Binds X.K fd ps []) (hr : bV (k + 2) X.A) (I : Inv X pl σ H' s') (r : RelV v u)
 (hs : sp [v] H' (fun y H2 => ah H' H2 /\ Dv H2 y (.tuple [.int (kf v).1, .str (kf v).2])) E0) :
 wpAny (model X.prog X.w) X.A.in1.in1 (call (.ref f) [u]) (EP X pl σ fun y H2 => ah H' H2 /\ Dv H2 y (.tuple [.int (kf v).1, .str (kf v).2])) (fun _ _ => False) s' := by
 have r2 : Vals [v] [u] := .cons r .nil
 have hl : ([u] ++ []).length = ps.length := by have := F.len _ _ _ _ hs; simpa using this
 have sv := hb s' [u] I.zt hl
 refine wpAny_call (codeAny_mono (F.run X.A.in1.in1 X.stack s' H' ⟨[u], []⟩ [u] [v] _ E0 (bV.in1 (bV.in1 hr)) (I.CM.in1.in1) (by simpa using sv) r2 hs) fun r s2 hq => ?_)
 cases r with
 | error e => exact hq.elim
 | ok fl =>
   cases fl with
   | ret u => exact I.after hq
   | next => exact False.elim hq
   | brk => exact False.elim hq
   | cont => exact False.elim hq
structure zG (X : Cx) (pins : List (Addr × Obj)) (σ : St) (H : Hp) (kf : V -> Int × Str) (a kS : Addr) (oa : Obj) (xs : List V) (s' : Shared) : Prop where
 mk ::
 ex : ∃ H' us e ys, Inv X pins σ H' s' /\ ah H H' /\ H' a = none /\ H' kS = none /\ s'.heap.get? a = some oa /\ s'.heap.get? kS = some (seqObj "list" (List.toArray us) e) /\ Vals ys us /\ aT H' ys (xs.map fun v => .tuple [.int (kf v).1, .str (kf v).2])
theorem lh {kS : Addr} {oa : Obj} {body : Value -> PUnit -> Sem (ForInStep PUnit)} {E : Value -> Shared -> Prop} (F : bG X.prog X.w X.K X.mg X.base hZ k f fd ps sp) (hb : Binds X.K fd ps []) (hr : bV (k + 2) X.A) (JO : ∀ v, oa.data ≠ .cell v)
 (lC : ∀ x (s' : Shared) (R : Shared -> Prop), wpAny (model X.prog X.w) X.A.in1.in1 (call (.ref f) [x]) (fun k s2 => ∃ us e, s2.heap.get? kS = some (seqObj "list" (List.toArray us) e) /\ us.length < 64 /\ R { s2 with heap := s2.heap.update kS (Obj.mapSeq (·.push k)) }) (fun _ _ => False) s' ->
  wpAny (model X.prog X.w) X.A.in1.in1 (body x ⟨⟩) (fun r s2 => r = .yield ⟨⟩ /\ R s2) E s')
 (fa : cq X pins H a) (fk : cq X pins H kS) (vV : a ≠ kS) : ∀ (rx : List V) (r : List Value) (xs : List V) (s' : Shared), Vals rx r -> pK sp kf H rx -> xs.length + rx.length < 64 -> zG X pins σ H kf a kS oa xs s' ->
  wpAny (model X.prog X.w) X.A.in1.in1 (forIn r PUnit.unit body) (fun _ s2 => zG X pins σ H kf a kS oa (xs ++ rx) s2) E s'
 | [], _, xs, s', hv, _, _, hK => by
   cases hv
   rw [List.forIn_nil, List.append_nil]
   exact wpAny_pure hK
 | v :: rx, _, xs, s', .cons (b := u) (l₂ := r) hu hv, J0, hlen, ⟨H', us, e, ys, I, sm, ha, hk, ML, Kp, rv, dv⟩ => by
   rw [List.forIn_cons]
   have Nn := fa.keep (H' := H') ha
   have Nz := fk.keep (H' := H') hk
   have I' : Inv X (pins ++ [(a, oa), (kS, seqObj "list" (List.toArray us) e)]) σ H' s' := by
    refine I.fV fun p hp => ?_
    rcases List.mem_append.mp hp with hp | hp
    . exact I.pin p (List.mem_append_right _ hp)
    . rcases List.mem_cons.mp hp with rfl | hp
      . exact ⟨ML, ha, fa.2.1, fa.2.2.1, JO⟩
      . have : p = (kS, seqObj "list" (List.toArray us) e) := by simpa using hp
        subst this
        exact ⟨Kp, hk, fk.2.1, fk.2.2.1, fun v z => by cases z⟩
   have Nr : us.length = xs.length := by rw [<- rv.length, dv.length, List.length_map]
   refine wpAny_bind (wpAny_mono (lC u s' (fun s2 => zG X pins σ H kf a kS oa (xs ++ [v]) s2) (wpAny_mono (yd F hb hr I' hu (J0 v List.mem_cons_self H' sm)) (fun kv s2 hq => ?_) fun _ _ z => z)) (fun q s2 hq => ?_) fun _ _ z => z)
   . obtain ⟨y, H2, I2, ry, cm, dy⟩ := hq
     have p1 := I2.pin (a, oa) (List.mem_append_right _ (List.mem_append_right _ List.mem_cons_self))
     have p2 := I2.pin (kS, seqObj "list" (List.toArray us) e) (List.mem_append_right _ (List.mem_append_right _ (List.mem_cons_of_mem _ List.mem_cons_self)))
     have I3 : Inv X pins σ H2 s2 := I2.g5
     refine ⟨us, e, p2.1, by simp at hlen; omega, ?_⟩
     obtain ⟨c, hc⟩ : ∃ c, (s2.heap.update kS (Obj.mapSeq (·.push kv))).get? kS = some (seqObj "list" (List.toArray (us ++ [kv])) c) := by
      have ea : (List.toArray us).push kv = List.toArray (us ++ [kv]) := by simp
      rw [<- ea]
      exact ⟨_, get?_update_seq p2.1 (·.push kv)⟩
     refine ⟨H2, us ++ [kv], c, ys ++ [y], I3.vL (fk.keep p2.2.1), sm.trans cm, p1.2.1, p2.2.1, ?_, hc, rv.append (.cons ry .nil), ?_⟩
     . show (s2.heap.update kS _).get? a = some oa
       rw [Heap.get?_update_ne _ _ _ _ vV]; exact p1.1
     . rw [List.map_append]
       exact (dv.keeps cm).append (.cons dy .nil)
   . obtain ⟨rfl, hq⟩ := hq
     have := lh F hb hr JO lC fa fk vV rx r (xs ++ [v]) s2 hv (fun z hz => J0 z (List.mem_cons_of_mem _ hz)) (by simp at hlen ⊢; omega) hq
     rw [List.append_assoc] at this
     exact this
theorem uT {xs : List V} {p : Array Nat} {α : Type} {lt : α -> α -> Bool} {kf : V -> α} (hp : Ix xs.length p) (hu : Up (fun i j => lt (kf (xs.getD i .aZ)) (kf (xs.getD j .aZ))) p xs.length) : lS lt kf (p.toList.map fun i => xs.getD i .aZ) xs := by
 refine ⟨?_, ?_⟩
 . have h := hp.pm.map fun i => xs.getD i .aZ
   have e : (List.range xs.length).map (fun i => xs.getD i .aZ) = xs := by
    refine List.ext_getElem? fun i => ?_
    rw [List.getElem?_map]
    by_cases hi : i < xs.length
    . rw [List.getElem?_range hi]; simp [hi]
    . rw [List.getElem?_eq_none (by simpa using hi), List.getElem?_eq_none (by simpa using hi)]; rfl
   rw [e] at h
   exact h
 . rw [List.pairwise_map, List.pairwise_iff_getElem]
   intro i j hi hj iD
   have hsz : p.toList.length = xs.length := by simp [hp.sz]
   have := hu i j iD (by omega)
   have gi : p.getD i 0 = p.toList[i] := by simp [Array.getD, show i < p.size by rw [hp.sz]; omega]
   have gj : p.getD j 0 = p.toList[j] := by simp [Array.getD, show j < p.size by rw [hp.sz]; omega]
   rw [gi, gj] at this
   exact this
theorem iP : ∀ {xs : List V} {us : List Value} (i : Nat), Vals xs us -> RelV (xs.getD i .aZ) (us.getD i Value.none)
 | _, _, _, .nil => rfl
 | _, _, 0, .cons r _ => r
 | _, _, i + 1, .cons _ t => by simpa using iP i t
theorem k6 {xs : List V} {us : List Value} (r : Vals xs us) : ∀ l : List Nat, Vals (l.map fun i => xs.getD i .aZ) (l.map fun i => us.getD i Value.none)
 | [] => .nil
 | i :: l => .cons (iP i r) (k6 r l)
theorem mW {H : Hp} {g : V -> PyData} : ∀ {ys : List V} {xs : List V} {i : Nat}, aT H ys (xs.map g) -> i < xs.length -> Dv H (ys.getD i .aZ) (g (xs.getD i .aZ))
 | _, [], _, _, h => by simp at h
 | _, _ :: _, 0, .cons h _, _ => h
 | _, _ :: _, i + 1, .cons _ t, hi => by simpa using mW (i := i) t (by simpa using hi)
def qp (X : Cx) (pins : List (Addr × Obj)) (σ : St) (H : Hp) {α : Type} (lt : α -> α -> Bool) (kf : V -> α) (xs : List V) (Q : VK) : Prop :=
 ∀ a ys H', ah H H' -> H a = none -> H' a = none -> lS lt kf ys xs -> Q (.ref a) (upd H' a (.lst ys))
theorem rL {H' : Hp} {s' : Shared} {xs ys : List V} {us : List Value} {A : Around} (I : Inv X pins σ H' s') (rv : Vals ys us) (dv : aT H' ys (xs.map fun v => .tuple [.int (kf v).1, .str (kf v).2])) :
 D5 xs.length (fun i j => b4 (kf (xs.getD i .aZ)) (kf (xs.getD j .aZ))) (fun z => z = s') (kas_ask X.prog X.w A (tuples' true) us) := by
 intro i j C z hi hj hz hC
 subst hz
 have one : ∀ i, i < xs.length -> ∃ x t t2, us.getD i Value.none = .ref x /\ IsTup z.heap x #[.int (kf (xs.getD i .aZ)).1 t, .str (kf (xs.getD i .aZ)).2 t2] := fun i hi => by
  have d := mW dv hi
  have r := iP i rv
  generalize ys.getD i .aZ = y at d r
  generalize us.getD i Value.none = u at r
  cases d with
  | tup h q =>
    have r' : u = .ref _ := r
    obtain ⟨az, rr, tt, _⟩ := I.tuple (.of h)
    cases q with
    | cons h1 q =>
      cases q with
      | cons h2 q =>
        cases q
        cases h1; cases h2
        cases rr with
        | cons r1 rr =>
          cases rr with
          | cons r2 rr =>
            cases rr
            obtain ⟨t1, rfl⟩ := r1
            obtain ⟨t2, rfl⟩ := r2
            exact ⟨_, t1, t2, r', tt⟩
 obtain ⟨x, t, t2, e1, hx⟩ := one i hi
 obtain ⟨y, u, u2, e2, hy⟩ := one j hj
 show wpAny (model X.prog X.w) A (keyLt' (tuples' true) (us.getD i Value.none) (us.getD j Value.none)) C (fun _ _ => False) z
 rw [e1, e2]
 exact yl hx hy (hC _ rfl)
theorem jE {H' : Hp} {s' : Shared} : ∀ {xs ys : List V} {us : List Value}, Inv X pins σ H' s' -> Vals ys us -> aT H' ys (xs.map fun v => .tuple [.int (kf v).1, .str (kf v).2]) ->
 ∃ fs, KatTups s'.heap us fs /\ fs.length = us.length /\ ∀ v ∈ fs, Looks (model X.prog X.w) s'.heap (typeOf v) (.type "int")
 | [], _, _, I, rv, dv => by
   cases dv
   cases rv
   exact ⟨[], trivial, rfl, fun _ z => nomatch z⟩
 | x :: xs, _, _, I, rv, dv => by
   cases dv with
   | cons d dv =>
     cases rv with
     | cons r rv =>
       obtain ⟨fs, h1, h2, h3⟩ := jE I rv dv
       cases d with
       | tup h q =>
         obtain ⟨az, rr, tt, _⟩ := I.tuple (.of h)
         cases q with
         | cons q1 q =>
           cases q with
           | cons q2 q =>
             cases q
             cases q1; cases q2
             cases rr with
             | cons r1 rr =>
               cases rr with
               | cons r2 rr =>
                 cases rr
                 obtain ⟨t1, rfl⟩ := r1
                 obtain ⟨t2, rfl⟩ := r2
                 cases r
                 obtain ⟨o, ho, hc, n, hd⟩ := tt
                 refine ⟨_ :: fs, KatTups.cons ho hc hd rfl h1, by simp [h2], fun v hv => ?_⟩
                 rcases List.mem_cons.mp hv with rfl | hv
                 . exact .now
                 . exact h3 v hv
end
section
variable {X : Cx} {pins : List (Addr × Obj)} {σ : St} {H : Hp} {s : Shared} {k : Nat} {f : Addr} {fd : FuncData} {ps : List Str} {sp : Sp} {kf : V -> Int × Str} {A : Around}
theorem kJ {H' : Hp} {s' : Shared} {a kS : Addr} {e e1 : Nat} {us out : List Value} {ys : List V} {st : SortSt} {E : Value -> Shared -> Prop} {P : PySem.Fin -> Shared -> Prop} (I : Inv X pins σ H' s') (fa : cq X pins H' a) (fk : cq X pins H' kS) (vV : a ≠ kS) (yi : X.cn.heap.objs.size <= a)
 (oa : s'.heap.get? a = some (seqObj "list" #[] e1)) (ok : s'.heap.get? kS = some (seqObj "list" (List.toArray us) e)) (hz : us.length < 64) (Gb : (arrOf st).map (·.2) = List.toArray out) (ho : out.length < 64) (hf : failedOf st = none) (rv : Vals ys out)
 (h : ∀ s2, Inv X pins σ (upd H' a (.lst ys)) s2 -> P (.done (.ret .none)) s2) : wpAny (model X.prog X.w) A (ksk_tail a false e1 (.ref kS) st) P E s' := by
 have MS : (64 : Nat) <= sizeLine := by decide
 unfold ksk_tail
 dsimp only
 rw [Gb]
 refine wpAny_bind (listUpdate_at ok rfl ?_ (by rw [List.size_toArray]; omega) (Nat.zero_le _))
 refine wpAny_bind (wpAny_letGo ?_)
 have GJ : (s'.heap.update kS (Obj.mapSeq fun _ => (#[] : Array Value))).get? a = some (seqObj "list" #[] e1) := by rw [Heap.get?_update_ne _ _ _ _ vV]; exact oa
 have I1 : Inv X pins σ H' { s' with heap := s'.heap.update kS (Obj.mapSeq fun _ => (#[] : Array Value)) } := I.vL fk
 refine wpAny_bind (seqEpoch_at GJ rfl ?_)
 refine wpAny_bind (listUpdate_at GJ rfl ?_ (Nat.zero_le _) (by show (List.toArray out).size <= _; rw [List.size_toArray]; omega))
 rw [hf]
 simp only [bne_self_eq_false, Bool.false_eq_true, if_false]
 refine wpAny_pure (h _ ?_)
 have I2 := I1.vL (f := Obj.mapSeq fun _ => List.toArray out) fa
 exact I2.C1 fa yi (by rw [rv.length]; omega) rv (get?_update_seq GJ fun _ => List.toArray out)
theorem t9 {H' : Hp} {s' : Shared} {a kS : Addr} {e e1 : Nat} {us vs : List Value} {xs ys : List V} {Q : VK} {E : Value -> Shared -> Prop} {P : PySem.Fin -> Shared -> Prop} (sm : ah H H') (IP : H a = none) (I : Inv X pins σ H' s') (fa : cq X pins H' a) (fk : cq X pins H' kS) (vV : a ≠ kS) (yi : X.cn.heap.objs.size <= a)
 (oa : s'.heap.get? a = some (seqObj "list" #[] e1)) (ok : s'.heap.get? kS = some (seqObj "list" (List.toArray us) e)) (xI : xs.length < 64) (rx : Vals xs vs) (ry : Vals ys us) (dv : aT H' ys (xs.map fun v => .tuple [.int (kf v).1, .str (kf v).2]))
 (fin : qp X pins σ H b4 kf xs Q) (h : ∀ s2, EP X pins σ Q (.ref a) s2 -> P (.done (.ret .none)) s2) : wpAny (model X.prog X.w) A (ksk_end a false vs.toArray e1 (.ref kS) (List.toArray us)) P E s' := by
 have lx := rx.length
 have ly := ry.length
 have ld := dv.length
 rw [List.length_map] at ld
 unfold ksk_end
 simp only [Bool.false_eq_true, if_false]
 by_cases h2 : vs.toArray.size < 2
 . rw [if_pos h2, if_pos h2]
   refine wpAny_bind (wpAny_pure ?_)
   rw [StateT.run_pure]
   refine wpAny_bind (wpAny_pure ?_)
   refine kJ (out := vs) (ys := xs) I fa fk vV yi oa ok (by omega) ?_ (by omega) rfl rx (fun s2 I2 => h s2 ⟨.ref a, _, I2, rfl, fin a xs H' sm IP fa.1 ⟨List.Perm.refl _, ?_⟩⟩)
   . show ((List.toArray us).zip vs.toArray).map (·.2) = List.toArray vs
     apply Array.toList_inj.mp
     have : us.length = vs.length := by omega
     simp [List.map_snd_zip, this]
   . rw [List.size_toArray] at h2
     match xs, lx with
     | [], _ => exact .nil
     | [_], _ => exact List.pairwise_singleton _ _
     | _ :: _ :: _, lx => simp at lx; omega
 . rw [if_neg h2, if_neg h2]
   rw [List.size_toArray] at h2
   obtain ⟨fs, k1, k2, k3⟩ := jE I ry dv
   refine wpAny_bind (kat_kind k1 (by omega) k3 (by decide) ?_)
   have Iv : us.length = vs.length := by omega
   refine wpAny_bind (wpAny_mono (kat_run (Q := fun vY s2 => s2 = s' /\ ∃ p : Array Nat, Ix xs.length p /\ arrOf vY = p.map (kas_item ((List.toArray us).zip (List.toArray vs))) /\ failedOf vY = none /\ Up (fun i j => b4 (kf (xs.getD i .aZ)) (kf (xs.getD j .aZ))) p xs.length)
    (G := fun p s2 => s2 = s' /\ Ix xs.length p /\ Up (fun i j => b4 (kf (xs.getD i .aZ)) (kf (xs.getD j .aZ))) p xs.length) Iv (by omega) (by omega) (fun p vY s2 a1 a2 a3 ⟨a4, a5, a6⟩ => ⟨a4, p, a5, a2, a3, a6⟩) ?_) ?_ fun _ _ z => z)
   . rw [show vs.length = xs.length by omega]
     refine xP (lt := fun i j => b4 (kf (xs.getD i .aZ)) (kf (xs.getD j .aZ))) (S := fun z => z = s') ⟨fun _ => n0 _, fun _ _ => vf, fun _ _ _ => vb⟩ (rL I ry dv) (by omega) (fun p s2 hs hp hu => ⟨hs, hp, hu⟩) s' rfl
   . rintro ⟨⟨⟩, vY⟩ s2 ⟨rfl, p, hp, KO, hf, hu⟩
     dsimp only
     refine kJ (out := p.toList.map fun i => vs.getD i Value.none) (ys := p.toList.map fun i => xs.getD i .aZ) I fa fk vV yi oa ok (by omega) (kat_snds Iv KO) (by simp [hp.sz]; omega) hf (k6 rx _) (fun s3 I3 => h s3 ⟨.ref a, _, I3, rfl, fin a _ H' sm IP fa.1 (uT hp hu)⟩)
theorem oN {l : Addr} {xs : List V} {Q : VK} {E : Value -> Shared -> Prop} (I : Inv X pins σ H s) (hl : bp X.K H l xs) (xI : xs.length < 64) (F : bG X.prog X.w X.K X.mg X.base hZ k f fd ps sp) (hb : Binds X.K fd ps []) (hr : bV (k + 2) X.A)
 (hk : pK sp kf H xs) (fin : qp X pins σ H b4 kf xs Q) : wpAny (model X.prog X.w) X.A (call (.builtin "sorted") [.ref l] [(Str.ofString "key", .ref f)]) (EP X pins σ Q) E s := by
 have MS : (64 : Nat) <= sizeLine := by decide
 obtain ⟨vs, rv, p, hz⟩ := I.list hl
 have lx := rv.length
 refine call_function_entry_kw kind_sorted plain_sorted entry_sorted (ksk_s1 _ _) ?_
 unfold Builtin.«sorted»
 refine wpAny_bind (m := checkCount "sorted" 1 1 _) (wpAny_pure ?_)
 refine wpAny_bind (collect_list p.isList ?_ (by omega))
 refine wpAny_bind (wpAny_newList ?_ (by omega))
 have Lj : cq X pins H s.heap.objs.size := I.j7 (Nat.le_refl _) (I.aI.fresh (Nat.le_refl _))
 have I2 : Inv X pins σ H { s with heap := (s.heap.push (seqObj "list" #[] 0)).update s.heap.objs.size (Obj.mapSeq (· ++ vs.toArray)) } := (I.qL (o := seqObj "list" #[] 0)).vL Lj
 have hsz : ((s.heap.push (seqObj "list" #[] 0)).update s.heap.objs.size (Obj.mapSeq (· ++ vs.toArray))).objs.size = s.heap.objs.size + 1 := by rw [Heap.size_update, size_push']
 generalize hG : (s.heap.push (seqObj "list" #[] 0)).update s.heap.objs.size (Obj.mapSeq (· ++ vs.toArray)) = h2 at I2 hsz ⊢
 have wc : (h2.push (seqObj "list" vs.toArray 0)).get? h2.objs.size = some (seqObj "list" vs.toArray 0) := Heap.get?_push_size _ rfl
 have I3 : Inv X pins σ H { s with heap := h2.push (seqObj "list" vs.toArray 0) } := I2.qL
 have fa : cq X pins H h2.objs.size := I2.j7 (Nat.le_refl _) (I2.aI.fresh (Nat.le_refl _))
 have yi : X.cn.heap.objs.size <= h2.objs.size := I2.sz
 show wpAny _ _ _ _ _ { s with heap := h2.push (seqObj "list" vs.toArray 0) }
 generalize h2.objs.size = a at *
 refine wpAny_bind (wpAny_holding (wpAny_call_entry_kw slot_list_sort ⟨_, wc, rfl⟩ entry_list_sort ?body (ksk_l1 _ _)))
 case body =>
  show wpAny (model X.prog X.w) X.A.in1.in1 (Builtin.«list.sort» ⟨[.ref a], [(Str.ofString "key", .ref f)]⟩) _ _ _
  rw [ksk_t1]
  generalize h2.push (seqObj "list" vs.toArray 0) = h3 at *
  unfold ksk_tree
  refine wpAny_bind (listItems_at wc rfl ?_)
  refine wpAny_bind (listUpdate_at wc rfl ?_ (by rw [List.size_toArray]; omega) (Nat.zero_le _))
  have I4 : Inv X pins σ H { s with heap := h3.update a (Obj.mapSeq fun _ => (#[] : Array Value)) } := I3.vL fa
  obtain ⟨e1, oa⟩ : ∃ e1, (h3.update a (Obj.mapSeq fun _ => (#[] : Array Value))).get? a = some (seqObj "list" #[] e1) := ⟨_, get?_update_seq wc fun _ => #[]⟩
  generalize h3.update a (Obj.mapSeq fun _ => (#[] : Array Value)) = h4 at *
  refine wpAny_bind (seqEpoch_at oa rfl ?_)
  refine wpAny_bind (wpAny_newTuple ?_ (by show vs.length <= _; omega))
  have I5 : Inv X pins σ H { s with heap := h4.push (seqObj "tuple" vs.toArray 0) } := I4.qL
  have JQ : (h4.push (seqObj "tuple" vs.toArray 0)).get? a = some (seqObj "list" #[] e1) := Heap.get?_push_of_some _ oa
  show wpAny _ _ _ _ _ { s with heap := h4.push (seqObj "tuple" vs.toArray 0) }
  generalize h4.push (seqObj "tuple" vs.toArray 0) = h5 at *
  refine wpAny_bind (wpAny_newList ?_ (Nat.zero_le _))
  have I6 : Inv X pins σ H { s with heap := h5.push (seqObj "list" #[] 0) } := I5.qL
  have fk : cq X pins H h5.objs.size := I5.j7 (Nat.le_refl _) (I5.aI.fresh (Nat.le_refl _))
  have Kl : (h5.push (seqObj "list" #[] 0)).get? a = some (seqObj "list" #[] e1) := Heap.get?_push_of_some _ JQ
  have Kg : (h5.push (seqObj "list" #[] 0)).get? h5.objs.size = some (seqObj "list" #[] 0) := Heap.get?_push_size _ rfl
  have vV : a ≠ h5.objs.size := Nat.ne_of_lt (Heap.lt_size JQ)
  show wpAny _ _ _ _ _ { s with heap := h5.push (seqObj "list" #[] 0) }
  show wpAny _ _ (holding [_, .ref h5.objs.size] (ksk_rest a (.ref f) false vs.toArray e1 (.ref h5.objs.size))) _ _ _
  generalize h5.objs.size = kS at *
  generalize h5.push (seqObj "list" #[] 0) = h6 at *
  refine wpAny_holding ?_
  unfold ksk_rest
  refine wpAny_bind (wpAny_rule ?_)
  first
   | rw [List.forIn_toArray]
   | (rw [<- Array.forIn_toList]; simp only [List.toList_toArray])
  refine wpAny_bind (wpAny_mono (lh (kf := kf) F hb hr (oa := seqObj "list" #[] e1) (fun v z => by cases z) (fun x s' R hx => ?_) fa fk vV xs vs [] { s with heap := h6 } rv hk (by simpa using xI) ⟨H, [], 0, [], I6, ah.refl _, fa.1, fk.1, Kl, Kg, .nil, .nil⟩) (fun _ s7 hK => ?_) fun _ _ z => z)
  . refine wpAny_bind (wpAny_attempt (wpAny_mono hx (fun kv s2 hq => ?_) fun _ _ z => z.elim))
    obtain ⟨us, e, ok, ck, hR⟩ := hq
    dsimp only
    refine wpAny_bind (listUpdate_at ok rfl ?_ (by rw [List.size_toArray]; omega) (by rw [Array.size_push, List.size_toArray]; omega))
    exact wpAny_pure ⟨rfl, hR⟩
  . obtain ⟨H', us, e, ys, I7, sm, Mf, L3, Ls, JD, ry, dv⟩ := hK
    try dsimp only
    refine wpAny_bind (listItems_at JD rfl ?_)
    refine t9 sm fa.1 I7 (fa.keep Mf) (fk.keep L3) vV yi Ls JD xI rv ry (by simpa using dv) fin (fun s8 h8 => ⟨_, rfl, wpAny_pure ⟨_, rfl, h8⟩⟩)
end
def o1 (sp : Sp) (K : PySem.W.Frag) (vs : List V) (H : Hp) (Q : VK) : Prop := ∃ a xs kf, vs = [.ref a] /\ bp K H a xs /\ xs.length < 64 /\ pK sp kf H xs /\ ∀ l ys H', ah H H' -> H l = none -> H' l = none -> lS b4 kf ys xs -> Q (.ref l) (upd H' l (.lst ys))
def vF (K : PySem.W.Frag) (sp : Sp) (t : TA) : TE := fun σ H Q => t σ H fun vs H1 => o1 sp K vs H1 Q
section
variable {X : Cx} {k : Nat} {f : Addr} {ps : List Str} {sp : Sp} {e : Expr} {t : TA} {x : Str} {p p2 pos BM : Pos}
theorem n5 (c : jD X.prog X.w X.K X.mg X.base k f ps [] sp) (hr : bV (k + 2) X.A) (hg : Gl X "sorted") (hm : X.mg "sorted" = none) (hf : PE X (.Name x p2) (tC (.ref f))) (ha : PA X [e] t)
 (DC : backTo pos (starEach [e] X.env) = (false, eval e X.env) :: backTo pos (starEach [] X.env) := by rfl) (lF : (backTo pos (starEach [e] X.env)).any (·.1) = false := by rfl) : PE X (.Call (.Name "sorted" p) [e] [⟨some "key", .Name x p2, BM⟩] pos) (vF X.K sp t) := by
 intro pins s σ H Q I h
 obtain ⟨fd, ds, F, hb, hd⟩ := c.ex
 cases hd
 refine wpAny_Call_Name_kw (eB I hg hm boot_sorted ?_)
 refine callWith_kw (bF (ha pos pins s σ H _ I h) fun us s1 ⟨vs, H1, I1, r1, q1⟩ => ?_) DC lF
 refine bF (yc hf Az pos pins s1 σ H1 (fun zs H2 => zs = [.ref f] /\ H2 = H1) I1 ⟨rfl, rfl⟩) fun ws s2 ⟨zs, H2, I2, rz, q2, q3⟩ => ?_
 subst q2; subst q3
 obtain ⟨a, xs, kf, e1, hl, xI, hk, fin⟩ := q1
 subst e1
 obtain ⟨u, rfl, ru⟩ := vals1 r1
 obtain ⟨w', rfl, u6⟩ := vals1 rz
 have e1 : u = .ref a := ru
 have e2 : w' = .ref f := u6
 subst e1; subst e2
 exact oN I2 hl xI F hb hr hk (fun a ys H' => fin a ys H')
end
end L2
namespace L2
open PySem PySem.Spec PyProof.Rows
theorem j4 {scope : Scope} {env : Env} (h : ∀ x ∈ scope.names, x.2 = .free -> ∃ c, env.cells.lookup x.1 = some c) :
 ∃ cl, closureFor scope env = pure cl /\ (∀ x c, cl.lookup x = some c -> env.cells.lookup x = some c) /\ ∀ x ∈ scope.names, x.2 = .free -> ∃ c, cl.lookup x.1 = some c := by
 have key : ∀ (l : List (Str × NameKind)) (acc : List (Str × Addr)), (∀ x ∈ l, x.2 = .free -> ∃ c, env.cells.lookup x.1 = some c) -> (∀ x c, acc.lookup x = some c -> env.cells.lookup x = some c) ->
  ∃ cl, (forIn l acc (fun (x : Str × NameKind) (r : List (Str × Addr)) => (match x with
    | (name, kind) => if (kind == NameKind.free) = true then (do let c <- cellOf env name; pure (ForInStep.yield ((name, c) :: r))) else pure (ForInStep.yield r) : Sem (ForInStep (List (Str × Addr))))) : Sem _) = pure cl /\
    (∀ x c, cl.lookup x = some c -> env.cells.lookup x = some c) /\ (∀ x ∈ l, x.2 = .free -> ∃ c, cl.lookup x.1 = some c) /\ ∀ x, (∃ c, acc.lookup x = some c) -> ∃ c, cl.lookup x = some c := by
  intro l
  induction l with
  | nil => intro acc _ ha; exact ⟨acc, rfl, ha, fun _ z => (nomatch z), fun _ z => z⟩
  | cons p r ih =>
    intro acc hl ha
    obtain ⟨n, k⟩ := p
    rw [List.forIn_cons]
    by_cases hk : k = .free
    . subst hk
      obtain ⟨c, hc⟩ := hl (n, .free) List.mem_cons_self rfl
      have kR : cellOf env n = pure c := by unfold cellOf; rw [hc]
      obtain ⟨cl, e, h1, h2, h3⟩ := ih ((n, c) :: acc) (fun x hx => hl x (List.mem_cons_of_mem _ hx)) (fun x d hd => by
       rw [List.lookup_cons] at hd
       by_cases hx : x = n
       . subst hx; rw [beq_self_eq_true] at hd; cases hd; exact hc
       . rw [beq_eq_false_iff_ne.mpr hx] at hd; exact ha x d hd)
      refine ⟨cl, ?_, h1, fun x hx hf => ?_, fun x ⟨d, hd⟩ => h3 x ?_⟩
      . simp only [beq_self_eq_true, if_true, kR]
        exact e
      . rcases List.mem_cons.mp hx with rfl | hx
        . exact h3 n ⟨c, by rw [List.lookup_cons, beq_self_eq_true]⟩
        . exact h2 x hx hf
      . rw [List.lookup_cons]
        by_cases hx : x = n
        . subst hx; rw [beq_self_eq_true]; exact ⟨c, rfl⟩
        . rw [beq_eq_false_iff_ne.mpr hx]; exact ⟨d, hd⟩
    . obtain ⟨cl, e, h1, h2, h3⟩ := ih acc (fun x hx => hl x (List.mem_cons_of_mem _ hx)) ha
      refine ⟨cl, ?_, h1, fun x hx hf => ?_, h3⟩
      . have : (k == NameKind.free) = false := by simpa using hk
        simp only [this, Bool.false_eq_true, if_false]
        exact e
      . rcases List.mem_cons.mp hx with rfl | hx
        . exact absurd hf hk
        . exact h2 x hx hf
 obtain ⟨cl, e, h1, h2, _⟩ := key scope.names [] h (fun _ _ z => by simp at z)
 refine ⟨cl, ?_, h1, h2⟩
 unfold closureFor
 show (forIn scope.names [] _ >>= fun cs => pure cs) = _
 refine Eq.trans (congrArg (· >>= _) e) rfl
theorem eC {env : Env} {scope : Scope} {x : Str} : (relabel scope env).names.lookup x = (scope.names.lookup x).map fun k => if (k == NameKind.free && env.scope.kind == .function && env.kindOf x == some .cell) = true then .cell else k := by
 unfold relabel
 show List.lookup x (List.map _ scope.names) = _
 generalize scope.names = l
 induction l with
 | nil => rfl
 | cons p r ih =>
   obtain ⟨n, k⟩ := p
   rw [List.map_cons]
   dsimp only
   by_cases hx : x = n
   . subst hx
     by_cases hc : (k == NameKind.free && env.scope.kind == .function && env.kindOf x == some .cell) = true
     . rw [if_pos hc, List.lookup_cons, List.lookup_cons, beq_self_eq_true]; simp only [Option.map_some, if_pos hc]
     . rw [if_neg hc, List.lookup_cons, List.lookup_cons, beq_self_eq_true]; simp only [Option.map_some, if_neg hc]
   . have hb : (x == n) = false := beq_eq_false_iff_ne.mpr hx
     by_cases hc : (k == NameKind.free && env.scope.kind == .function && env.kindOf n == some .cell) = true
     . rw [if_pos hc, List.lookup_cons, List.lookup_cons, hb]; exact ih
     . rw [if_neg hc, List.lookup_cons, List.lookup_cons, hb]; exact ih
theorem mem_lookup {α : Type} {x : Str} {k : α} : ∀ {l : List (Str × α)}, l.lookup x = some k -> (x, k) ∈ l
 | [], h => by simp at h
 | (n, j) :: r, h => by
   rw [List.lookup_cons] at h
   by_cases hx : x = n
   . subst hx; rw [beq_self_eq_true] at h; cases h; exact List.mem_cons_self
   . rw [beq_eq_false_iff_ne.mpr hx] at h; exact List.mem_cons_of_mem _ (mem_lookup h)
def dB (X : Cx) (N : List Str) (scope : Scope) (cl : List (Str × Addr)) (C : Addr) (s : Shared) (H : Hp) (fp : List Addr) : Cx :=
 { X with N := N, cn := s, t6 := H, env := compEnvC scope cl C X.env, outer := X.stack, stack := X.stack, ex := fp, fn := fun _ => false, pn := [], xe := fun _ _ => False }
structure fN (X : Cx) (T M : List Str) (scope : Scope) : Prop where
 kind : scope.kind = .function
 cell : ∀ y ∈ scope.names, y.2 ≠ .cell
 names : ∀ y ∈ scope.names, y.2 = .local -> scope.names.lookup y.1 = some .local
 free : ∀ y ∈ scope.names, y.2 = .free -> X.env.scope.names.lookup y.1 = some .cell \/ X.env.scope.names.lookup y.1 = some .free
 len : M.length = X.N.length
 old : ∀ (i : Nat) x, M[i]? = some x -> X.N[i]? = some x /\ scope.names.lookup x = some .free \/ scope.names.lookup x = none
section
variable {X : Cx} {pins : List (Addr × Obj)} {σ : St} {H : Hp} {s : Shared} {T M : List Str} {scope : Scope} {cl : List (Str × Addr)} {fp : List Addr}
theorem EC {C : Addr} (I : Inv X pins σ H s) (hN : fN X T M scope) (h1 : ∀ x c, cl.lookup x = some c -> X.env.cells.lookup x = some c) (h2 : ∀ x ∈ scope.names, x.2 = .free -> ∃ c, cl.lookup x.1 = some c)
 (hC : s.heap.objs.size <= C) (hf : ∀ b ∈ fp, cq X pins H b) (Cr : ∀ b ∈ fp, b < s.heap.objs.size) : (dB X (T ++ M) scope cl C s H fp).Ok where
 mod := I.ok.mod
 kind := hN.kind
 glob := I.ok.glob
 blt := I.ok.blt
 above := hC
 inj := fun x y c e1 e2 => I.ok.inj x y c (h1 x c e1) (h1 y c e2)
 has := fun x hx => by
  have iq : (relabel scope X.env).names.lookup x = some .cell \/ (relabel scope X.env).names.lookup x = some .free := hx
  rw [eC] at iq
  cases e : scope.names.lookup x with
  | none => rw [e] at iq; simp at iq
  | some k =>
    have hm := mem_lookup e
    have hk : k = .free := by
     rw [e] at iq
     simp only [Option.map_some, Option.some.injEq] at iq
     by_cases hf : k = .free
     . exact hf
     . have : (k == NameKind.free) = false := by simpa using hf
       simp only [this, Bool.false_and, Bool.false_eq_true, if_false] at iq
       rcases iq with iq | iq
       . exact absurd iq (hN.cell _ hm)
       . exact iq
    exact h2 (x, k) hm hk
 Ck := fun _ _ z => by cases z
 hd := I.ok.hd
 frames := I.ok.frames
 Dp := .inl rfl
 Ex := fun b hb => ⟨Nat.ne_of_lt (Nat.lt_of_lt_of_le (Cr b hb) hC), fun x c e => (hf b hb).2.2.2.2.1 x c (h1 x c e)⟩
 bs := I.bs
 v8 := Nat.le_trans I.ok.v8 I.sz
 r0 := fun b o e hb => by
  rcases (hf b hb).2.2.2.1 with z | z
  . exact I.ok.r0 b o e z
  . exact absurd (Nat.lt_of_lt_of_le (Heap.lt_size e) (Nat.le_trans I.ok.v8 z)) (Nat.lt_irrefl _)
 rX := fun b hb z => by
  rcases List.mem_cons.mp (I.ph b z) with e | e
  . exact (hf b hb).2.1 e
  . exact (hf b hb).2.2.1 e
 iE := I.stack
 y0 := I.qy
theorem vQ {C : Addr} {h₁ : Heap} {tk : Nat} (I : Inv X pins σ H s) (hN : fN X T M scope) (h1 : ∀ x c, cl.lookup x = some c -> X.env.cells.lookup x = some c) (h2 : ∀ x ∈ scope.names, x.2 = .free -> ∃ c, cl.lookup x.1 = some c)
 (hC : s.heap.objs.size <= C) (hf : ∀ b ∈ fp, cq X pins H b) (Cr : ∀ b ∈ fp, b < s.heap.objs.size)
 {m : Str -> Option Value} (hn : h₁.Ns C m) (old : ∀ b o, s.heap.get? b = some o -> h₁.get? b = some o) :
 Inv (dB X (T ++ M) scope cl C s H fp) [] (List.replicate T.length none ++ σ) H { s with heap := h₁, toks := tk } where
 ok := EC I hN h1 h2 hC hf Cr
 os := rfl
 bare := I.bare
 base := Un.kept old
 loc := by
  refine ⟨m, hn, fun i x v e1 e2 e3 => ?_⟩
  have Gd : (T ++ M)[i]? = some x := e1
  by_cases hi : i < T.length
  . rw [List.getElem?_append_left (by simpa using hi), List.getElem?_replicate, if_pos hi] at e2
    cases e2
  . have yI : T.length <= i := Nat.le_of_not_lt hi
    rw [List.getElem?_append_right yI] at Gd
    rw [List.getElem?_append_right (by simpa using yI), List.length_replicate] at e2
    have Gf : EA (relabel scope X.env) x := e3
    rcases hN.old _ x Gd with ⟨hx, Ia⟩ | Fw
    . obtain ⟨m0, yi, zr⟩ := I.loc
      have hk := hN.free _ (mem_lookup Ia) rfl
      have v7 : X.env.scope.names.lookup x = some .cell \/ X.env.scope.names.lookup x = some .free := hk
      obtain ⟨u, r, l⟩ := zr _ x v hx e2 (.inr v7)
      refine ⟨u, r, .inr ?_⟩
      rcases l with ⟨z, _⟩ | ⟨_, c, hc, kR⟩
      . have z' : X.env.scope.names.lookup x = some .local := z
        rw [z'] at v7; rcases v7 with q | q <;> cases q
      . obtain ⟨c', sT⟩ := h2 _ (mem_lookup Ia) rfl
        have : c' = c := by have := h1 _ _ sT; rw [hc] at this; exact (Option.some.inj this).symm
        subst this
        refine ⟨?_, c', sT, ?_⟩
        . show (relabel scope X.env).names.lookup x = some .cell \/ (relabel scope X.env).names.lookup x = some .free
          rw [eC, Ia]
          simp only [Option.map_some, Option.some.injEq]
          by_cases hc : (NameKind.free == NameKind.free && X.env.scope.kind == .function && X.env.kindOf x == some .cell) = true
          . left; rw [if_pos hc]
          . right; rw [if_neg hc]
        . obtain ⟨o, ho, hd⟩ := kR
          exact ⟨o, old _ _ ho, hd⟩
    . unfold EA at Gf
      rw [eC, Fw] at Gf
      simp at Gf
 cell := fun x c e => by
  obtain ⟨v, o, ho, hd⟩ := I.cell x c (h1 x c e)
  exact ⟨v, o, old _ _ ho, hd⟩
 free := I.aI.fresh hC
 dZ := fun x c e => I.dZ x c (h1 x c e)
 pin := fun p hp => nomatch hp
 aI := I.aI.kept old
 len := by
  show (List.replicate T.length none ++ σ).length = (T ++ M).length
  rw [List.length_append, List.length_append, List.length_replicate, hN.len, I.len]
theorem yr {C D : Addr} {s' : Shared} {σ' : St} {H' : Hp} {acc : List V} {az : List Value} {n : Nat} (I : Inv X pins σ H s) (I' : Inv (dB X (T ++ M) scope cl C s H fp) [] σ' H' s')
 (hf : ∀ b ∈ fp, cq X pins H b) (hD : s.heap.objs.size <= D) (hn : H' D = none) (hl : acc.length <= sizeLine) (r : Vals acc az) (hd : s'.heap.get? D = some { cls := .type "list", data := .seq az.toArray n }) :
 Inv X pins σ (upd H' D (.lst acc)) s' := by
 have U : Un (nq X.stack) fp H H' s.heap s'.heap := I'.base
 have MO : ∀ b o, s.heap.get? b = some o -> b ≠ D := fun b o e => Nat.ne_of_lt (Nat.lt_of_lt_of_le (Heap.lt_size e) hD)
 have neT : ∀ b u, H' b = some u -> b ≠ D := fun b u e => aC e hn
 refine I.Dk (ch := fp) I'.os ⟨U.keep, U.slot, fun b o e1 e2 e3 => ?_, U.there, fun b xs e => ?_, fun b o u e => ?_, fun b ps e => ?_⟩ (fun b u e => ?_) I'.bare (fun b hb => ⟨(hf b hb).2.2.2.1, (hf b hb).2.1, (hf b hb).2.2.2.2.1, (hf b hb).2.2.2.2.2⟩)
 . rw [aw (MO b o e1)]; exact U.free b o e1 e2 e3
 . rw [aw (neT b _ (U.jo b xs e))]; exact U.jo b xs e
 . rw [aw (neT b _ (U.iK b o u e))]; exact U.iK b o u e
 . obtain ⟨more, q⟩ := U.kz b ps e
   exact ⟨more, by rw [aw (neT b _ q)]; exact q⟩
 . by_cases hb : b = D
   . subst hb
     rw [aA] at e
     cases e
     exact ⟨hl, az, n, r, hd⟩
   . rw [aw hb] at e
     exact (I'.aI b u e).mJ (fun c v _ q => q) (fun c q => by rw [aw (neT c _ q)]; exact q) fun c xs q => by rw [aw (neT c _ q)]; exact q
end
theorem oV {prog : Program} {w : World} {A : Around} {R : Result -> Shared -> Prop} {s : Shared} {elt target iter : Expr} {ifs : List Expr} {scope : Scope} {pos : Pos} {it acc : Value} {env : Env} (I : Nat -> Shared -> Prop)
 (turn : ∀ n s, I n s -> wpAny (model prog w) A (pyNext it) (fun r s₁ => match r with
  | none => R (.ok .next) s₁
  | some v => wpAny (model prog w) A (letOwnedTupleGo target it v) (fun _ zj => wpAny (model prog w) A (assign target env v) (fun _ s₂ =>
   wpAny (model prog w) A (forIn ifs true fun c r => if r = true then do let ok <- isTrue c env (eval c env); pure (ForInStep.yield ok) else pure (ForInStep.yield r)) (fun ok s₃ =>
    if ok = true then wpAny (model prog w) A (eval elt env) (fun x s₄ =>
     wpAny (model prog w) A (call (.builtin "list.append") [acc, x]) (fun _ s₅ => ∃ m, m < n /\ I m s₅) (fun _ _ => False) s₄) (fun _ _ => False) s₃
    else ∃ m, m < n /\ I m s₃) (fun _ _ => False) s₂) (fun _ _ => False) zj) (fun _ _ => False) s₁) (fun _ _ => False) s)
 (n : Nat) (h : I n s) :
 codeAny (model prog w) A (.compLoop (.ListComp elt [⟨target, iter, ifs, 0⟩] scope pos) 0 it acc env) R s := by
 refine codeAny_loop rfl I (fun n s hI => ?_) n h
 show wpAny _ A ((compTurn (.ListComp elt [⟨target, iter, ifs, 0⟩] scope pos) 0 it acc env).onRaise (fun x => do noteFrame x env; theTreesLotGoes x)) _ _ s
 refine wpAny_noted ?_
 rw [compTurn_list]
 refine wpAny_bind (wpAny_standAt (wpAny_bind (wpAny_mono (turn n s hI) (fun r s₁ h₁ => ?_) fun _ _ h' => h'.elim)))
 cases r with
 | none => exact wpAny_pure h₁
 | some v =>
   refine wpAny_bind (wpAny_mono h₁ (fun _ zj DS => ?_) fun _ _ h' => h'.elim)
   refine wpAny_bind (wpAny_mono DS (fun _ s₂ h₂ => wpAny_bind (wpAny_mono h₂ (fun ok s₃ h₃ => ?_) fun _ _ h' => h'.elim)) fun _ _ h' => h'.elim)
   cases ok with
   | false => exact wpAny_pure ⟨rfl, h₃⟩
   | true =>
     exact wpAny_bind (wpAny_bind (wpAny_mono h₃ (fun x s₄ h₄ => wpAny_bind (wpAny_mono h₄ (fun _ s₅ h₅ => wpAny_pure (wpAny_pure ⟨rfl, h₅⟩)) fun _ _ h' => h'.elim)) fun _ _ h' => h'.elim))
def Ee (X : Cx) (ifs : List Expr) (t : TT) : Prop :=
 ∀ (pins : List (Addr × Obj)) (s : Shared) (σ : St) (H : Hp) (Q : Bool -> Hp -> Prop), Inv X pins σ H s -> t σ H Q ->
   wpAny (model X.prog X.w) X.A (forIn ifs true fun c r => if r = true then do let ok <- isTrue c X.env (eval c X.env); pure (ForInStep.yield ok) else pure (ForInStep.yield r)) (TP X pins σ Q) X.xe s
def HU : TT := fun _ H Q => Q true H
theorem d0 {X : Cx} : Ee X [] HU := fun _ _ _ H _ I h => wpAny_tests_nil ⟨H, I, h⟩
theorem jv {X : Cx} {c : Expr} {t : TT} (h : PT X c t) : Ee X [c] t := fun pins s σ H Q I q => wpAny_tests_one (h pins s σ H Q I q)
def Ct (k : Nat) (g : TG) (tc : TT) (te : TE) (Fin : List V -> Hp -> Prop) (σ : St) (J : It) (H1 : Hp) : Prop :=
 ∃ W : Nat -> Nat -> List V -> Hp -> Prop, (∃ m, W 0 m [] H1) /\ ∀ i m acc H, W i m acc H ->
   (J.stop i H /\ Fin acc H) \/ (J.go i H /\ acc.length < sizeLine /\ ∀ x H', J.xm i H x H' -> g x (List.replicate k none ++ σ) H' fun σ2 H2 => tc σ2 H2 fun b H3 =>
    if b = true then te σ2 H3 fun y H4 => ∃ m', m' < m /\ W (i + 1) m' (acc ++ [y]) H4 else ∃ m', m' < m /\ W (i + 1) m' acc H3)
section
variable {X : Cx} {pins : List (Addr × Obj)} {σ : St} {H : Hp} {s : Shared} {T M : List Str} {scope : Scope} {cl : List (Str × Addr)} {fp : List Addr} {g : TG} {tc : TT} {te : TE} {tg elt iter : Expr} {ifs : List Expr} {pos : Pos}
theorem Inv.forget {X : Cx} {pins : List (Addr × Obj)} {σ σ' : St} {H : Hp} {s : Shared} (I : Inv X pins σ' H s) (k : Nat) (hk : k + σ.length = σ'.length) (h : σ'.drop k = σ) : Inv X pins (List.replicate k none ++ σ) H s := by
 refine I.weak (by simp [hk]) (fun i v e => ?_)
 by_cases hi : i < k
 . rw [List.getElem?_append_left (by simpa using hi), List.getElem?_replicate, if_pos hi] at e; cases e
 . rw [List.getElem?_append_right (by simpa using hi), List.length_replicate, <- h, List.getElem?_drop] at e
   have : k + (i - k) = i := by omega
   rw [this] at e; exact e
theorem ui {it : Addr} {tn : Nat -> Heap -> Prop} {J : It} {RR : Value -> Addr -> Result -> Shared -> Prop} {Fin : List V -> Hp -> Prop} {E : Value -> Shared -> Prop}
 (hN : fN X T M scope) (kY : X.calm = true) (h1 : ∀ x c, cl.lookup x = some c -> X.env.cells.lookup x = some c) (h2 : ∀ x ∈ scope.names, x.2 = .free -> ∃ c, cl.lookup x.1 = some c)
 (hg : ∀ cl C s H fp, PG (dB X (T ++ M) scope cl C s H fp) tg g) (Lx : ∀ v H Q, g v (List.replicate T.length none ++ σ) H Q -> g v (List.replicate T.length none ++ σ) H fun σ2 H2 => Q σ2 H2 /\ T.length + σ.length = σ2.length /\ σ2.drop T.length = σ)
 (hc : ∀ cl C s H fp, Ee (dB X (T ++ M) scope cl C s H fp) ifs tc) (he : ∀ cl C s H fp, PE (dB X (T ++ M) scope cl C s H fp) elt te)
 (I : Inv X pins σ H s) (Tn : Turn X.prog X.w X.K tg J fp it tn) (st : tn 0 s.heap) (hf : ∀ b ∈ fp, cq X pins H b) (hW : Ct T.length g tc te Fin σ J H)
 (hR : ∀ D C s' H' acc m, s.heap.objs.size <= D -> s.heap.objs.size <= C -> C ≠ D -> s'.heap.Ns C m -> H' C = none -> H' D = none -> Inv X pins σ (upd H' D (.lst acc)) s' -> Fin acc H' -> RR (.ref D) C (.ok .next) s') :
 wpAny (model X.prog X.w) X.A (newList []) (fun acc s₃ => wpAny (model X.prog X.w) X.A (newFunctionEnv scope X.env.globals cl [] X.env.qual none .none (some X.env)) (fun Em s₄ =>
  codeAny (model X.prog X.w) X.A (.compStart (.ListComp elt [⟨tg, iter, ifs, 0⟩] scope pos) 0 (.ref it) acc { Em with scope := relabel scope X.env }) (RR acc Em.locals) s₄) E s₃) E s := by
 refine wpAny_newObj_type (wpAny_newFunctionEnv hN.cell (by intro y hy; simp at hy) (fun h₁ pB md => ?_) hN.kind)
 dsimp only at pB md ⊢
 generalize Gj : s.heap.push { cls := .type "list", dict := none, data := .seq ([] : List Value).toArray } = H2 at pB md ⊢
 have hC : H2.objs.size = s.heap.objs.size + 1 := by rw [<- Gj, Heap.size_push]
 have E6 : s.heap.objs.size ≠ H2.objs.size := by rw [hC]; exact Nat.ne_of_lt (Nat.lt_succ_self _)
 have BG : s.heap.objs.size <= H2.objs.size := by rw [hC]; exact Nat.le_succ _
 have Cr : ∀ b ∈ fp, b < s.heap.objs.size := fun b hb => by obtain ⟨o, ho, _⟩ := Tn.obj _ _ st b hb; exact Heap.lt_size ho
 have old : ∀ b o, s.heap.get? b = some o -> h₁.get? b = some o := fun b o e => md.extBut b o (Nat.ne_of_lt (Nat.lt_of_lt_of_le (Heap.lt_size e) BG)) (Heap.get?_push_of_some _ (Gj ▸ Heap.get?_push_of_some _ e))
 have gX : h₁.PlainList s.heap.objs.size #[] := ⟨_, md.extBut _ _ E6 (Heap.get?_push_of_some _ (Gj ▸ Heap.get?_push_size _ rfl))⟩
 generalize Bz : s.heap.objs.size = D at *
 generalize Nu : H2.objs.size = C at *
 have I0 : Inv (dB X (T ++ M) scope cl C s H fp) [] (List.replicate T.length none ++ σ) H { s with heap := h₁, toks := s.toks + ([] : List (Str × Value)).length } :=
  vQ I hN h1 h2 (by rw [Bz]; exact BG) hf (by rw [Bz]; exact Cr) pB old
 have IM : tn 0 h₁ := Tn.keep _ _ _ st fun b _ o e => old b o e
 obtain ⟨W, ⟨m0, w0⟩, turn⟩ := hW
 have Iz : ∀ b ∈ fp, b ≠ D := fun b hb => Nat.ne_of_lt (Cr b hb)
 have stat : ∀ {H' : Hp} {pl : List (Addr × Obj)}, (∀ b ∈ fp, H' b = none) -> (∀ p ∈ pl, p.1 = D) -> ∀ b ∈ fp, cq (dB X (T ++ M) scope cl C s H fp) pl H' b := fun {H' pl} hn hp b hb => by
  have ok := I0.ok
  refine ⟨hn b hb, (ok.Ex b hb).1, ok.rX b hb, .inl hb, (ok.Ex b hb).2, fun p hq => ?_⟩
  have GA : p ∈ pl := hq
  rw [hp p GA]; exact Ne.symm (Iz b hb)
 have loop : codeAny (model X.prog X.w) X.A (.compLoop (.ListComp elt [⟨tg, iter, ifs, 0⟩] scope pos) 0 (.ref it) (.ref D) (compEnvC scope cl C X.env)) (RR (.ref D) C) { s with heap := h₁, toks := s.toks + ([] : List (Str × Value)).length } := by
  refine oV (fun n s' => ∃ i acc H' az, Inv (dB X (T ++ M) scope cl C s H fp) [] (List.replicate T.length none ++ σ) H' s' /\ tn i s'.heap /\ (∀ b ∈ fp, H' b = none) /\ s'.heap.PlainList D az /\ H' D = none /\ Vals acc az.toList /\ acc.length <= sizeLine /\ W i n acc H') ?_ m0
   ⟨0, [], H, #[], I0, IM, fun b hb => (hf b hb).1, gX, I.aI.fresh (by rw [Bz]; exact Nat.le_refl _), .nil, Nat.zero_le _, w0⟩
  rintro n s3 ⟨i, acc, H3, az, I3, CN, CD, ⟨nn, ho⟩, F9, hv, hlen, w3⟩
  have GB : ∀ {H'} {s'} {σ'} {o : Obj}, Inv (dB X (T ++ M) scope cl C s H fp) [] σ' H' s' -> s'.heap.get? D = some o -> (∀ v, o.data ≠ .cell v) -> H' D = none -> Inv (dB X (T ++ M) scope cl C s H fp) [(D, o)] σ' H' s' := fun {H' s' σ' o} I' e d hn => by
   refine I'.fV fun p hp => ?_
   have e' : p = (D, o) := by simpa using hp
   subst e'
   refine ⟨e, hn, E6, fun z => ?_, d⟩
   have z' : D ∈ nq X.stack := z
   obtain ⟨_, o', vh, _⟩ := I.stack.mem z'
   exact absurd (Heap.lt_size vh) (by rw [Bz]; exact Nat.lt_irrefl _)
  have JF := GB I3 ho (fun v z => by cases z) F9
  rcases turn i n acc H3 w3 with ⟨stop, fin⟩ | ⟨go, hl, step⟩
  . refine bF (Tn.done (dB X (T ++ M) scope cl C s H fp) rfl rfl rfl kY i _ s3 _ H3 _ JF (stat CD (by simp)) CN stop) fun r s4 ⟨hr, I4⟩ => ?_
    subst hr
    have e4 := (I4.pin (D, _) (List.mem_append_right _ List.mem_cons_self)).1
    have Gq : Inv (dB X (T ++ M) scope cl C s H fp) [] (List.replicate T.length none ++ σ) H3 s4 := I4.fV fun p hp => nomatch hp
    obtain ⟨m4, n4, _⟩ := Gq.loc
    exact hR D C s4 H3 acc m4 (Nat.le_refl _) BG (Ne.symm E6) n4 Gq.free F9 (yr I Gq hf (by rw [Bz]; exact Nat.le_refl _) F9 hlen hv (by simpa using e4)) fin
  . refine bF (Tn.item (dB X (T ++ M) scope cl C s H fp) rfl rfl rfl kY i _ s3 _ H3 _ JF (stat CD (by simp)) CN go) fun r s4 ⟨u, hr, h4⟩ => ?_
    subst hr
    refine bF h4 fun _ s5 ⟨x, H5, I5, r5, y5, Bm, Hd⟩ => ?_
    have G4 := I5.pinned (stat Hd (by simp)) (Tn.obj _ _ Bm)
    refine bF (hg _ _ _ _ _ _ s5 _ H5 x u _ G4 r5 (Lx _ _ _ (step x H5 y5))) fun _ s6 ⟨σ6, H6, I6, q6, MZ, Mi⟩ => ?_
    refine bF (hc _ _ _ _ _ _ s6 σ6 H6 _ I6 q6) fun b s7 ⟨H7, I7, q7⟩ => ?_
    have rest : ∀ {s8 : Shared} {H8 : Hp}, Inv (dB X (T ++ M) scope cl C s H fp) ([(D, _)] ++ jG fp s5.heap) σ6 H8 s8 -> tn (i + 1) s8.heap /\ (∀ b ∈ fp, H8 b = none) /\ s8.heap.PlainList D az /\ H8 D = none /\ Inv (dB X (T ++ M) scope cl C s H fp) [] (List.replicate T.length none ++ σ) H8 s8 := fun {s8 H8} I8 => by
     refine ⟨Tn.keep _ _ _ Bm fun b hb o e => (I8.pin (b, o) (List.mem_append_right _ (List.mem_append_right _ (d8 hb e)))).1, fun b hb => ?_, ⟨nn, (I8.pin (D, _) (List.mem_append_right _ (List.mem_append_left _ List.mem_cons_self))).1⟩, (I8.pin (D, _) (List.mem_append_right _ (List.mem_append_left _ List.mem_cons_self))).2.1, (I8.forget T.length MZ Mi).fV fun p hp => nomatch hp⟩
     obtain ⟨o, e, d⟩ := Tn.obj _ _ Bm b hb
     exact (I8.pin (b, o) (List.mem_append_right _ (List.mem_append_right _ (d8 hb e)))).2.1
    cases b with
    | false =>
      obtain ⟨m', hm, w7⟩ := q7
      obtain ⟨a1, a2, a3, a4, a5⟩ := rest I7
      exact ⟨m', hm, i + 1, acc, H7, az, a5, a1, a2, a3, a4, hv, hlen, w7⟩
    | true =>
      refine bF (he _ _ _ _ _ _ s7 σ6 H7 _ I7 q7) fun y s8 ⟨yv, H8, I8, r8, m', hm, w8⟩ => ?_
      obtain ⟨a1, a2, a3, a4, a5⟩ := rest I8
      have hsz : az.size <= sizeLine := by have := hv.length; simp at this; omega
      refine wpAny_list_append_plain (hsz := hsz) a3 fun h9 Lc Jt => ?_
      refine ⟨m', hm, i + 1, acc ++ [yv], H8, az.push y, ?_, ?_, a2, Lc, a4, ?_, by simp; omega, w8⟩
      . exact a5.turned (t' := s8.toks) (it := D) (fun b o hb e => (Jt.2 b hb).trans e) a4 E6 (.inr (by show s.heap.objs.size <= D; rw [Bz]; exact Nat.le_refl _)) (fun x c e z => by
         obtain ⟨v, o, ho, _⟩ := I.cell x c (h1 x c e)
         exact absurd (Heap.lt_size ho) (by rw [Bz, z]; exact Nat.lt_irrefl _)) (fun p hp => nomatch hp)
      . exact Tn.keep _ _ _ a1 fun b hb o e => (Jt.2 b (Iz b hb)).trans e
      . simpa using Vals.append hv (.cons r8 .nil)
 exact codeAny_compStart_list loop (Tn.self _ _ _ _ _ IM loop)
end
def wO (k : Nat) (g : TG) : Prop := ∀ v (τ σ : St) H Q, τ.length = k -> g v (τ ++ σ) H Q -> g v (τ ++ σ) H fun σ2 H2 => Q σ2 H2 /\ ∃ τ', τ'.length = k /\ σ2 = τ' ++ σ
def qS (k : Nat) (g : tX) : Prop := ∀ vs (τ σ : St) H Q, τ.length = k -> g vs (τ ++ σ) H Q -> g vs (τ ++ σ) H fun σ2 H2 => Q σ2 H2 /\ ∃ τ', τ'.length = k /\ σ2 = τ' ++ σ
theorem de {k i : Nat} (h : i < k) : wO k (bT i) := fun v τ σ H Q hl q => by
 have e : (τ ++ σ).set i (some v) = τ.set i (some v) ++ σ := List.set_append_left _ _ (by omega)
 exact ⟨q, τ.set i (some v), by simp [hl], e⟩
theorem dU {k : Nat} : qS k nK := fun vs τ σ H Q hl ⟨e, q⟩ => ⟨e, q, τ, hl, rfl⟩
theorem aD {k i : Nat} {u : tX} (h : i < k) (h2 : qS k u) : qS k (cO (bT i) u) := fun vs τ σ H Q hl ⟨v, r, e, q⟩ => by
 have e1 : (τ ++ σ).set i (some v) = τ.set i (some v) ++ σ := List.set_append_left _ _ (by omega)
 refine ⟨v, r, e, ?_⟩
 show u r ((τ ++ σ).set i (some v)) H _
 rw [e1]
 have q' : u r ((τ ++ σ).set i (some v)) H Q := q
 rw [e1] at q'
 exact h2 r _ σ H Q (by simp [hl]) q'
theorem fu {K : PySem.W.Frag} {k n : Nat} {u : tX} (h : qS k u) : wO k (lV K n u) := fun v τ σ H Q hl ⟨a, xs, e, hq, hn, q⟩ => ⟨a, xs, e, hq, hn, h xs τ σ H Q hl q⟩
def nh (Q : VK) (acc : List V) (H : Hp) : Prop := ∀ p, H p = none -> Q (.ref p) (upd H p (.lst acc))
def Di (k : Nat) (wi : TI) (g : TG) (tc : TT) (te : TE) : TE := fun σ H Q => wi σ H fun J H1 => Ct k g tc te (nh Q) σ J H1
section
variable {X : Cx} {T M : List Str} {scope : Scope} {g : TG} {tc : TT} {te : TE} {wi : TI} {tg elt iter : Expr} {ifs : List Expr} {pos : Pos}
theorem ie (hN : fN X T M scope) (kY : X.calm = true) (hi : PI X tg iter wi) (hg : ∀ cl C s H fp, PG (dB X (T ++ M) scope cl C s H fp) tg g) (FO : wO T.length g)
 (hc : ∀ cl C s H fp, Ee (dB X (T ++ M) scope cl C s H fp) ifs tc) (he : ∀ cl C s H fp, PE (dB X (T ++ M) scope cl C s H fp) elt te)
 (hs : ∀ x, foldedSetIterable iter X.env x = pure x := by intro _; rfl) : PE X (.ListComp elt [⟨tg, iter, ifs, 0⟩] scope pos) (Di T.length wi g tc te) := by
 intro pins s σ H Q I h
 obtain ⟨cl, uI, h1, h2⟩ := j4 (scope := scope) (env := X.env) fun x hx hf => I.ok.has x.1 (hN.free x hx hf)
 rw [eval_ListComp]
 refine wpAny_comprehension_free (use := none) rfl hs uI hN.kind hN.names (bF (hi pins s σ H _ I h) fun xv s1 sM => bF sM fun Fe s2 CG => ?_)
 obtain ⟨it, fp, tn, J, H2, e, I2, Tn, st, hf, hW⟩ := CG
 subst e
 refine ui (RR := fun acc C => compPost (model X.prog X.w) X.A X.xe none (EP X pins σ Q) acc C) hN kY h1 h2 hg (fun v H Q q => ?_) hc he I2 Tn st hf hW ?_
 . have := FO v (List.replicate T.length none) σ H Q (by simp) q
   refine (by
    have e : (fun (σ2 : St) (H2 : Hp) => Q σ2 H2 /\ T.length + σ.length = σ2.length /\ σ2.drop T.length = σ) = fun σ2 H2 => Q σ2 H2 /\ ∃ τ' : St, τ'.length = T.length /\ σ2 = τ' ++ σ := by
     funext σ2 H2
     refine propext ⟨fun ⟨a, b, c⟩ => ⟨a, σ2.take T.length, by rw [List.length_take]; omega, by rw [<- c, List.take_append_drop]⟩, fun ⟨a, τ', b, c⟩ => ⟨a, by rw [c, List.length_append, b], by rw [c, <- b, List.drop_left]⟩⟩
    rw [e]; exact this)
 . intro D C s' H' acc m hD hC k8 hn Hf G7 Ib fin
   refine ⟨m, hn, fun h' sx => ⟨.ref D, _, ?_, rfl, fin D G7⟩⟩
   exact Ib.turned (t' := s'.toks) (it := C) (fun b o hb e => (sx.2 b hb).trans e) (by rw [aw k8]; exact Hf) (Nat.ne_of_gt (Nat.lt_of_lt_of_le I2.lt hC)) (.inr (Nat.le_trans I2.sz hC)) (fun x c e z => by
    obtain ⟨v, q⟩ := I2.cell x c e
    exact absurd (Nat.lt_of_lt_of_le q.lt (by rw [z]; exact hC)) (Nat.lt_irrefl _)) (fun p hp z => absurd (Nat.lt_of_lt_of_le (Heap.lt_size (I2.pin p hp).1) (by rw [z]; exact hC)) (Nat.lt_irrefl _))
theorem yS {i : Nat} {y : Str} {py DJ : Pos} (zg : X.N.Nodup) (yI : X.N[i]? = some y) (hy : Loc X.env.scope y) (hN : fN X T M scope) (kY : X.calm = true) (hi : PI X tg iter wi) (hg : ∀ cl C s H fp, PG (dB X (T ++ M) scope cl C s H fp) tg g) (FO : wO T.length g)
 (hc : ∀ cl C s H fp, Ee (dB X (T ++ M) scope cl C s H fp) ifs tc) (he : ∀ cl C s H fp, PE (dB X (T ++ M) scope cl C s H fp) elt te)
 (Lw : swapsWith (.ListComp elt [⟨tg, iter, ifs, 0⟩] scope pos) (some (.Name y py)) DJ.line X.env = pure true)
 (hs : ∀ x, foldedSetIterable iter X.env x = pure x := by intro _; rfl) (Lg : X.fn y = true \/ X.env.scope.names.lookup y = some .local := by first | exact .inl rfl | exact .inr rfl | assumption) :
 PS X (.Assign [.Name y py] (.ListComp elt [⟨tg, iter, ifs, 0⟩] scope pos) DJ) (se (Di T.length wi g tc te) (bT i)) := by
 intro pins s σ H D' I h
 have h : Di T.length wi g tc te σ H fun x H1 => D'.nx (σ.set i (some x)) H1 := h
 obtain ⟨cl, uI, h1, h2⟩ := j4 (scope := scope) (env := X.env) fun x hx hf => I.ok.has x.1 (hN.free x hx hf)
 rw [exec_Assign_Name_used _ _ _ _ Lw]
 refine wpAny_bind (wpAny_standAt (wpAny_bind ?_))
 show wpAny _ X.A (do let _ <- comprehension (.ListComp elt [⟨tg, iter, ifs, 0⟩] scope pos) scope X.env _ (newList []) false (eval iter X.env) (some (assign (.Name y py) X.env))) _ _ s
 refine wpAny_bind (wpAny_mono (wpAny_comprehension_free (use := some (assign (.Name y py) X.env)) (Q := fun _ s' => SP X pins D' .next s') rfl hs uI hN.kind hN.names
  (bF (hi pins s σ H _ I h) fun xv s1 sM => bF sM fun Fe s2 CG => ?_)) (fun _ s' hq => wpAny_pure (wpAny_pure hq)) fun _ _ e => e)
 obtain ⟨it, fp, tn, J, H2, e, I2, Tn, st, hf, hW⟩ := CG
 subst e
 refine ui (RR := fun acc C => compPost (model X.prog X.w) X.A X.xe (some (assign (.Name y py) X.env)) (fun _ s' => SP X pins D' .next s') acc C) hN kY h1 h2 hg (fun v H Q q => ?_) hc he I2 Tn st hf hW ?_
 . have := FO v (List.replicate T.length none) σ H Q (by simp) q
   refine (by
    have e : (fun (σ2 : St) (H2 : Hp) => Q σ2 H2 /\ T.length + σ.length = σ2.length /\ σ2.drop T.length = σ) = fun σ2 H2 => Q σ2 H2 /\ ∃ τ' : St, τ'.length = T.length /\ σ2 = τ' ++ σ := by
     funext σ2 H2
     refine propext ⟨fun ⟨a, b, c⟩ => ⟨a, σ2.take T.length, by rw [List.length_take]; omega, by rw [<- c, List.take_append_drop]⟩, fun ⟨a, τ', b, c⟩ => ⟨a, by rw [c, List.length_append, b], by rw [c, <- b, List.drop_left]⟩⟩
    rw [e]; exact this)
 . intro D C s' H' acc m hD hC k8 hn Hf G7 Ib fin
   show wpAny _ X.A (assign (.Name y py) X.env (.ref D)) _ _ _
   refine wpAny_assign_Name (lB Ib zg yI hy (v := .ref D) rfl (fun s3 I3 ⟨a, sb, ha⟩ => ?_) Lg)
   have Iu : C ≠ X.env.locals := Nat.ne_of_gt (Nat.lt_of_lt_of_le I2.lt hC)
   have Jw : ∀ x c, X.env.cells.lookup x = some c -> c ≠ C := fun x c e z => by
    obtain ⟨v, q⟩ := I2.cell x c e
    exact absurd (Nat.lt_of_lt_of_le q.lt (by rw [z]; exact hC)) (Nat.lt_irrefl _)
   have J3 : C ≠ a := by
    rcases ha with rfl | ha
    . exact Iu
    . exact Ne.symm (Jw _ _ ha)
   refine ⟨m, hn.sameBut sb J3, fun h' sx => ⟨_, _, ?_, fin D G7⟩⟩
   exact I3.turned (t' := s3.toks) (it := C) (fun b o hb e => (sx.2 b hb).trans e) (by rw [aw k8]; exact Hf) Iu (.inr (Nat.le_trans I2.sz hC)) Jw (fun p hp z => absurd (Nat.lt_of_lt_of_le (Heap.lt_size (I2.pin p hp).1) (by rw [z]; exact hC)) (Nat.lt_irrefl _))
end
end L2
namespace L2
open PySem PySem.Spec PyProof.Rows PySem.W
mutual
def jm : PyData -> Bool
 | .none => true
 | .bool _ => true
 | .int _ => true
 | .str _ => true
 | .tuple ds => aR ds
 | .list _ => false
 | .dict _ => false
def aR : List PyData -> Bool
 | [] => true
 | d :: ds => jm d && aR ds
end
theorem dw : ∀ {ds : List PyData}, aR ds = true ↔ ∀ d ∈ ds, jm d = true
 | [] => by simp [aR]
 | d :: ds => by simp [aR, dw (ds := ds)]
theorem dN {ds es : List PyData} (h1 : aR ds = true) (h2 : aR es = true) : aR (ds ++ es) = true := by
 rw [dw] at *
 intro d hd
 rcases List.mem_append.mp hd with h | h
 . exact h1 d h
 . exact h2 d h
theorem bW {α : Type} {f : α -> PyData} (h : ∀ x, jm (f x) = true) (xs : List α) : aR (xs.map f) = true := by
 rw [dw]
 intro d hd
 obtain ⟨x, _, rfl⟩ := List.mem_map.mp hd
 exact h x
structure Mv (S : List Addr) (H H' : Hp) : Prop where
 kp : ∀ a o, a ∉ S -> H a = some o -> H' a = some o
 tp : ∀ a xs, H a = some (.tup xs) -> H' a = some (.tup xs)
 dm : ∀ a, H' a = none -> H a = none
theorem Mv.refl {S : List Addr} {H : Hp} : Mv S H H := ⟨fun _ _ _ h => h, fun _ _ h => h, fun _ h => h⟩
theorem ah.mv {S : List Addr} {H H' : Hp} (s : ah H H') : Mv S H H' := ⟨fun a o _ h => s a o h, fun a xs h => s a _ h, fun a h => by
 cases e : H a with
 | none => rfl
 | some o => rw [s a o e] at h; cases h⟩
theorem Mv.trans {S : List Addr} {H H1 H2 : Hp} (m : Mv S H H1) (m2 : Mv S H1 H2) : Mv S H H2 := ⟨fun a o n h => m2.kp a o n (m.kp a o n h), fun a xs h => m2.tp a xs (m.tp a xs h), fun a h => m.dm a (m2.dm a h)⟩
theorem Mv.step {S S1 : List Addr} {H H1 H2 : Hp} (m : Mv S H H1) (m2 : Mv S1 H1 H2) (hs : ∀ a ∈ S1, a ∈ S \/ H a = none) : Mv S H H2 := by
 refine ⟨fun a o n h => ?_, fun a xs h => m2.tp a xs (m.tp a xs h), fun a h => m.dm a (m2.dm a h)⟩
 refine m2.kp a o (fun z => ?_) (m.kp a o n h)
 rcases hs a z with q | q
 . exact n q
 . rw [q] at h; cases h
theorem Mv.uU {S : List Addr} {H H1 H2 : Hp} (m : Mv S H H1) (s : ah H1 H2) : Mv S H H2 := m.trans s.mv
theorem Mv.at {S : List Addr} {H H' : Hp} {a : Addr} {o : HO} (m : Mv S H H') (n : a ∉ S) (h : H a = some o) : H' a = some o := m.kp a o n h
theorem ah.none {H H' : Hp} {a : Addr} (m : ah H H') (h : H' a = none) : H a = none := (m.mv (S := [])).dm a h
theorem Mv.oB {H : Hp} {p : Addr} {o u : HO} (h : H p = some u) (nt : ∀ xs, u ≠ .tup xs) : Mv [p] H (upd H p o) := ⟨fun a v n e => by
 rw [aw (fun z => n (by simp [z]))]; exact e, fun a xs e => by
 rw [aw (fun z => by subst z; rw [h] at e; exact nt xs (Option.some.inj e))]; exact e, fun a e => by
 by_cases z : a = p
 . subst z; rw [aA] at e; cases e
 . rw [aw z] at e; exact e⟩
mutual
theorem Dv.qW {H H' : Hp} (t : ∀ a xs, H a = some (.tup xs) -> H' a = some (.tup xs)) : ∀ {v : V} {d : PyData}, Dv H v d -> jm d = true -> Dv H' v d
 | _, _, .aZ, _ => .aZ
 | _, _, .bl b, _ => .bl b
 | _, _, .int i, _ => .int i
 | _, _, .str x, _ => .str x
 | _, _, .tup h r, c => .tup (t _ _ h) (aT.qW t r (by simpa [jm] using c))
 | _, _, .lst h r, c => by simp [jm] at c
 | _, _, .dct h r, c => by simp [jm] at c
theorem aT.qW {H H' : Hp} (t : ∀ a xs, H a = some (.tup xs) -> H' a = some (.tup xs)) : ∀ {v : List V} {d : List PyData}, aT H v d -> aR d = true -> aT H' v d
 | _, _, .nil, _ => .nil
 | _, _, .cons h r, c => by
   have c' := c
   simp only [aR, Bool.and_eq_true] at c'
   exact .cons (Dv.qW t h c'.1) (aT.qW t r c'.2)
end
theorem Mv.ym {S : List Addr} {H H' : Hp} {v : List V} {d : List PyData} (m : Mv S H H') (i : aR d = true) (h : aT H v d) : aT H' v d := h.qW m.tp i
def bq (H : Hp) (p : Addr) (ds : List PyData) : Prop := ∃ xs, H p = some (.lst xs) /\ aT H xs ds /\ aR ds = true
theorem bq.dv {H : Hp} {p : Addr} {ds : List PyData} (h : bq H p ds) : Dv H (.ref p) (.list ds) := let ⟨_, e, d, _⟩ := h; .lst (.of e) d
theorem bq.keeps {H H' : Hp} {p : Addr} {ds : List PyData} (s : ah H H') (h : bq H p ds) : bq H' p ds := let ⟨xs, e, d, i⟩ := h; ⟨xs, s _ _ e, d.keeps s, i⟩
theorem bq.mv {S : List Addr} {H H' : Hp} {p : Addr} {ds : List PyData} (m : Mv S H H') (n : p ∉ S) (h : bq H p ds) : bq H' p ds := let ⟨xs, e, d, i⟩ := h; ⟨xs, m.at n e, m.ym i d, i⟩
theorem bq.ne {H : Hp} {p q : Addr} {ds : List PyData} (h : bq H p ds) (hn : H q = none) : p ≠ q := let ⟨_, e, _, _⟩ := h; aC e hn
theorem il {H : Hp} {p : Addr} {xs : List V} {ds : List PyData} (hn : H p = none) (d : aT H xs ds) (i : aR ds = true) : bq (upd H p (.lst xs)) p ds := ⟨xs, aA, d.keeps (aJ hn), i⟩
theorem tT {p q : Addr} (h : p ≠ q) : p ∉ [q] := by simpa using h
theorem pA {p q r : Addr} (h : p ≠ q) (h2 : p ≠ r) : p ∉ [q, r] := by simp [h, h2]
theorem small {n m : Nat} (h : n <= m) (hm : m <= 4000 := by decide) : n <= sizeLine := Nat.le_trans h (Nat.le_trans hm (by decide))
theorem dH {n : Nat} (h : n <= 4000) : n < sizeLine := Nat.lt_of_le_of_lt h (by decide)
section
variable {σ : St} {H : Hp} {Q : VK} {D : Ends} {K : PySem.W.Frag} {p : Addr} {ds : List PyData}
theorem F4 {T : String} {r : V -> List V -> Hp -> VK -> Prop} {to : TE} {t : TA} (h : to σ H fun x H1 => DN K T x H1 /\ t σ H1 fun xs H2 => r x xs H2 Q) : Jg K T r to t σ H Q := h
theorem CL {R : Prop} (hp : bq H p ds) (h : R) : DN K "list" (.ref p) H /\ R := let ⟨xs, e, _, _⟩ := hp; ⟨.inl ⟨rfl, xs, bp.of e⟩, h⟩
theorem E1 {y : V} {d : PyData} (hp : bq H p ds) (hl : ds.length <= 4000) (hy : Dv H y d) (hi : jm d = true) (h : ∀ H2, Mv [p] H H2 -> bq H2 p (ds ++ [d]) -> Q .aZ H2) : mI (.ref p) [y] H Q := by
 obtain ⟨xs, e, dv, i⟩ := hp
 have m : Mv [p] H (upd H p (.lst (xs ++ [y]))) := .oB e (by intro _ z; cases z)
 refine ⟨p, xs, y, rfl, rfl, e, by rw [dv.length]; exact dH hl, h _ m ⟨_, aA, m.ym (dN i (by simp [aR, hi])) (dv.append (.cons hy .nil)), dN i (by simp [aR, hi])⟩⟩
theorem zR {xs : List V} (hl : xs.length <= sizeLine) (hd : aT H xs ds) (hi : aR ds = true) (k : ∀ p H2, ah H H2 -> H p = none -> bq H2 p ds -> Q (.ref p) H2) : vO xs H Q :=
 ⟨hl, ds, hd, fun p H2 s n e d _ => k p H2 s n ⟨xs, e, d, hi⟩⟩
end
mutual
theorem Dv.fn {H : Hp} : ∀ {v : V} {d e : PyData}, Dv H v d -> Dv H v e -> jm d = true -> d = e
 | _, _, _, .aZ, h, _ => by cases h; rfl
 | _, _, _, .bl b, h, _ => by cases h; rfl
 | _, _, _, .int i, h, _ => by cases h; rfl
 | _, _, _, .str x, h, _ => by cases h; rfl
 | _, _, _, .tup h r, h2, c => by
   cases h2 with
   | tup h' r' =>
     have c' := (by simpa [jm] using c : aR _ = true)
     rw [h] at h'
     cases h'
     rw [aT.fn r r' c']
   | lst h' r' =>
     rcases h' with h' | ⟨o, h'⟩ <;> rw [h] at h' <;> cases h'
   | dct h' r' => rw [h] at h'; cases h'
 | _, _, _, .lst h r, _, c => by simp [jm] at c
 | _, _, _, .dct h r, _, c => by simp [jm] at c
theorem aT.fn {H : Hp} : ∀ {v : List V} {d e : List PyData}, aT H v d -> aT H v e -> aR d = true -> d = e
 | _, _, _, .nil, h, _ => by cases h; rfl
 | _, _, _, .cons h r, h2, c => by
   have c' := c
   simp only [aR, Bool.and_eq_true] at c'
   cases h2 with
   | cons h' r' => rw [Dv.fn h h' c'.1, aT.fn r r' c'.2]
end
theorem aT.perm {α : Type} {H : Hp} {g : α -> PyData} {xs ys : List V} (p0 : ys.Perm xs) : ∀ {cs : List α}, aT H xs (cs.map g) -> ∃ dn : List α, dn.Perm cs /\ aT H ys (dn.map g) := by
 have p := p0.symm
 clear p0
 induction p with
 | nil => intro cs h; exact ⟨cs, .refl _, h⟩
 | cons x _ ih =>
   intro cs h
   cases cs with
   | nil => cases h
   | cons c cs =>
     cases h with
     | cons h r =>
       obtain ⟨dn, p', h'⟩ := ih r
       exact ⟨c :: dn, p'.cons c, .cons h h'⟩
 | swap x y l =>
   intro cs h
   cases cs with
   | nil => cases h
   | cons c cs =>
     cases h with
     | cons h r =>
       cases cs with
       | nil => cases r
       | cons c2 cs =>
         cases r with
         | cons h2 r => exact ⟨c2 :: c :: cs, .swap c c2 cs, .cons h2 (.cons h r)⟩
 | trans _ _ KA Mg =>
   intro cs h
   obtain ⟨c1, p1, h1⟩ := KA h
   obtain ⟨c2, p2, h2⟩ := Mg h1
   exact ⟨c2, p2.trans p1, h2⟩
theorem aT.mem {α : Type} {H : Hp} {g : α -> PyData} : ∀ {xs : List V} {cs : List α}, aT H xs (cs.map g) -> ∀ v ∈ xs, ∃ c ∈ cs, Dv H v (g c)
 | _, [], .nil, _, h => nomatch h
 | _, c :: cs, .cons h r, v, hv => by
   rcases List.mem_cons.mp hv with rfl | hv
   . exact ⟨c, List.mem_cons_self, h⟩
   . obtain ⟨c', hc, hd⟩ := aT.mem r v hv
     exact ⟨c', List.mem_cons_of_mem _ hc, hd⟩
theorem aT.pairwise {α β : Type} {H : Hp} {g : α -> PyData} {key : α -> β} {kf : V -> β} {R : β -> β -> Prop} (hk : ∀ v c, Dv H v (g c) -> kf v = key c) : ∀ {xs : List V} {cs : List α}, aT H xs (cs.map g) -> xs.Pairwise (fun x y => R (kf x) (kf y)) -> cs.Pairwise (fun c d => R (key c) (key d))
 | _, [], .nil, _ => .nil
 | _, c :: cs, .cons h r, p => by
   rw [List.pairwise_cons] at p ⊢
   refine ⟨fun d hd => ?_, aT.pairwise hk r p.2⟩
   obtain ⟨i, hi⟩ := List.getElem?_of_mem hd
   obtain ⟨x, hx, hv⟩ := r.get (i := i) (d := g d) (by rw [List.getElem?_map, hi]; rfl)
   have := p.1 x (List.mem_of_getElem? hx)
   rw [hk _ _ h, hk _ _ hv] at this
   exact this
theorem Dv.lst_inv {H : Hp} {v : V} {ds : List PyData} (h : Dv H v (.list ds)) : ∃ a xs, v = .ref a /\ (∀ K : PySem.W.Frag, bp K H a xs) /\ aT H xs ds := by
 cases h with
 | lst h r => exact ⟨_, _, rfl, fun _ => .inl h, r⟩
section
variable {σ : St} {H : Hp} {Q : VK} {D : Ends} {K : PySem.W.Frag} {p : Addr} {v : V} {ds : List PyData}
theorem tf {sp : Sp} {t : TA} (h : t σ H fun vs H1 => o1 sp K vs H1 Q) : vF K sp t σ H Q := h
theorem qO {α : Type} {sp : Sp} {cs : List α} (g : α -> PyData) (key : α -> Int × Str) (hg : ∀ c, jm (g c) = true) (hinj : ∀ c c', g c = g c' -> key c = key c') (hl : Dv H v (.list (cs.map g))) (xI : cs.length < 64)
 (hk : ∀ c v H', c ∈ cs -> ah H H' -> Dv H' v (g c) -> sp [v] H' (fun y H2 => ah H' H2 /\ Dv H2 y (.tuple [.int (key c).1, .str (key c).2])) E0)
 (k : ∀ q H' (dn : List α), ah H H' -> H q = none -> dn.Perm cs -> dn.Pairwise (fun c d => b4 (key d) (key c) = false) -> bq H' q (dn.map g) -> Q (.ref q) H') : o1 sp K [v] H Q := by
 obtain ⟨p, xs, rfl, e, dv⟩ := hl.lst_inv
 classical
 have Fu : ∃ kf : V -> Int × Str, ∀ v c, Dv H v (g c) -> kf v = key c := by
  refine ⟨fun v => if h : ∃ c, Dv H v (g c) then key h.choose else (0, ⟨#[]⟩), fun v c hv => ?_⟩
  have h : ∃ c, Dv H v (g c) := ⟨c, hv⟩
  show (if h : ∃ c, Dv H v (g c) then key h.choose else (0, ⟨#[]⟩)) = key c
  rw [dif_pos h]
  exact hinj _ _ (Dv.fn h.choose_spec hv (hg _))
 obtain ⟨kf, Fu⟩ := Fu
 refine ⟨p, xs, kf, rfl, e K, by rw [dv.length, List.length_map]; exact xI, fun v hv H' sm => ?_, fun l ys H' sm hn Cu ord => ?_⟩
 . obtain ⟨c, hc, hd⟩ := dv.mem v hv
   rw [Fu v c hd]
   exact hk c v H' hc sm (hd.keeps sm)
 . obtain ⟨pm, pw⟩ := ord
   obtain ⟨dn, pc, IE⟩ := dv.perm pm
   have cm : ah H (upd H' l (.lst ys)) := sm.trans (aJ Cu)
   exact k l _ dn cm hn pc (aT.pairwise (R := fun a b => b4 b a = false) Fu IE pw) ⟨ys, aA, IE.keeps cm, bW hg _⟩
def Fn (te : TE) (N : Option V -> Hp -> Prop) (σ2 : St) (b : Bool) (H3 : Hp) : Prop := if b = true then te σ2 H3 (fun y H4 => N (some y) H4) else N none H3
theorem D2 {k : Nat} {tl : TE} {g : TG} {tc : TT} {te : TE} (h : tl σ H fun x H1 => ∃ a, x = .ref a /\ (∃ xs, bp K H1 a xs) /\ Ct k g tc te (nh Q) σ (vZ K a) H1) : Di k (vp K tl) g tc te σ H Q := h
theorem kF {k : Nat} {g : TG} {tc : TT} {te : TE} {α : Type} {cs : List α} {gd : α -> PyData} (pf : α -> Bool) (fd : α -> PyData) (hl : Dv H v (.list (cs.map gd))) (hlen : cs.length <= 4000) (hi : ∀ c, jm (fd c) = true)
 (turn : ∀ x c H' (N : Option V -> Hp -> Prop), c ∈ cs -> ah H H' -> Dv H' x (gd c) -> (pf c = true -> ∀ y H4, ah H' H4 -> Dv H4 y (fd c) -> N (some y) H4) -> (pf c = false -> ∀ H3, ah H' H3 -> N none H3) ->
  g x (List.replicate k none ++ σ) H' fun σ2 H2 => tc σ2 H2 fun b H3 => Fn te N σ2 b H3)
 (kk : ∀ q H', ah H H' -> H q = none -> bq H' q ((cs.filter pf).map fd) -> Q (.ref q) H') : ∃ a, v = .ref a /\ (∃ xs, bp K H a xs) /\ Ct k g tc te (nh Q) σ (vZ K a) H := by
 obtain ⟨p, xs, rfl, e, dv⟩ := hl.lst_inv
 have zr : bp K H p xs := e K
 have A4 : xs.length = cs.length := by rw [dv.length, List.length_map]
 refine ⟨p, rfl, ⟨xs, zr⟩, fun i m acc H' => i <= cs.length /\ m = cs.length - i /\ ah H H' /\ aT H' acc (((cs.take i).filter pf).map fd), ⟨cs.length, Nat.zero_le _, rfl, ah.refl _, by simpa using aT.nil⟩, ?_⟩
 rintro i m acc H' ⟨Ab, hm, sm, gX⟩
 have rO : bp K H' p xs := ah.seq sm zr
 have rT : acc.length <= cs.length := by
  rw [gX.length, List.length_map]
  exact Nat.le_trans (List.length_filter_le _ _) (by rw [List.length_take]; omega)
 by_cases hc : i = cs.length
 . left
   refine ⟨⟨xs, rO, by omega⟩, fun q hq => ?_⟩
   rw [hc, List.take_length] at gX
   have cm : ah H (upd H' q (.lst acc)) := sm.trans (aJ hq)
   exact kk q _ cm (sm.none hq) ⟨acc, aA, gX.keeps (aJ hq), bW hi _⟩
 . right
   have ck : i < cs.length := by omega
   have D9 : i < xs.length := by omega
   refine ⟨⟨xs, xs[i], rO, List.getElem?_eq_getElem D9⟩, dH (by omega), fun x H2 hy => ?_⟩
   obtain ⟨rfl, hy⟩ := hy
   have hx := hy xs rO
   have yU : cs[i]? = some cs[i] := List.getElem?_eq_getElem ck
   obtain ⟨x', iq, hd⟩ := dv.get (i := i) (d := gd cs[i]) (by rw [List.getElem?_map, yU]; rfl)
   rw [hx] at iq
   cases iq
   have sO : cs.take (i + 1) = cs.take i ++ [cs[i]] := by rw [List.take_add_one, yU]; rfl
   exact turn x cs[i] H2 (fun o H4 => match o with | some y => ∃ m', m' < m /\ i + 1 <= cs.length /\ m' = cs.length - (i + 1) /\ ah H H4 /\ aT H4 (acc ++ [y]) (((cs.take (i + 1)).filter pf).map fd) | none => ∃ m', m' < m /\ i + 1 <= cs.length /\ m' = cs.length - (i + 1) /\ ah H H4 /\ aT H4 acc (((cs.take (i + 1)).filter pf).map fd))
    (List.getElem_mem ck) sm (hd.keeps sm)
    (fun hp y H4 s4 d4 => ⟨cs.length - (i + 1), by omega, ck, rfl, sm.trans s4, by
     rw [sO, List.filter_append, List.map_append]
     simp only [List.filter_cons, hp, if_true, List.filter_nil, List.map_cons, List.map_nil]
     exact aT.append (gX.keeps s4) (.cons d4 .nil)⟩)
    (fun hp H3 s3 => ⟨cs.length - (i + 1), by omega, ck, rfl, sm.trans s3, by
     rw [sO, List.filter_append, List.map_append]
     simp only [List.filter_cons, hp, Bool.false_eq_true, if_false, List.filter_nil, List.map_nil, List.append_nil]
     exact gX.keeps s3⟩)
end
def pV (scope sc : Scope) (N M : List Str) : Bool :=
 (scope.kind == .function) && scope.names.all (fun y => y.2 != .cell) && scope.names.all (fun y => y.2 != .local || scope.names.lookup y.1 == some .local) &&
  scope.names.all (fun y => y.2 != .free || (sc.names.lookup y.1 == some .cell || sc.names.lookup y.1 == some .free)) && (M.length == N.length) &&
  (M.zip N).all fun p => (p.1 == p.2 && scope.names.lookup p.1 == some .free) || scope.names.lookup p.1 == none
theorem tV {X : Cx} {T M : List Str} {scope : Scope} (sc : Scope) (N : List Str) (hs : X.env.scope = sc) (hN : X.N = N) (h : pV scope sc N M = true) : fN X T M scope := by
 unfold pV at h
 simp only [Bool.and_eq_true, List.all_eq_true, Bool.or_eq_true, bne_iff_ne, beq_iff_eq, ne_eq] at h
 obtain ⟨⟨⟨⟨⟨h1, h2⟩, h3⟩, h4⟩, h5⟩, h6⟩ := h
 refine ⟨h1, h2, fun y hy e => ?_, fun y hy e => ?_, by rw [hN]; exact h5, fun i x hx => ?_⟩
 . rcases h3 y hy with z | z
   . exact absurd e z
   . exact z
 . rw [hs]
   rcases h4 y hy with z | z
   . exact absurd e z
   . exact z
 . have hi : i < M.length := (List.getElem?_eq_some_iff.mp hx).1
   have Jd : i < N.length := by omega
   have hz : (M.zip N)[i]? = some (x, N[i]) := by
    rw [List.getElem?_zip_eq_some]
    exact ⟨hx, List.getElem?_eq_getElem Jd⟩
   rcases h6 _ (List.mem_of_getElem? hz) with ⟨a, b⟩ | a
   . left
     refine ⟨?_, b⟩
     rw [hN, List.getElem?_eq_getElem Jd]
     have a' : x = N[i] := a
     rw [a']
   . exact .inr a
section
variable {σ : St} {H : Hp} {Q : VK} {D : Ends} {K : PySem.W.Frag} {p : Addr} {v : V} {ds : List PyData}
theorem B8 {z : Str} {i : Int} {c : Nat} (hl : z.length <= sizeLine) (hi : kr z.cps.toList i = some c) (h : Q (.str ⟨#[c]⟩) H) : kA K (.str z) (.int i) H Q := .inl (.inr ⟨z, i, c, rfl, rfl, hl, hi, h⟩)
def yR : R2 := fun x y H Q => ∃ i j, x = .str i /\ y = .str j /\ i.length + j.length <= sizeLine /\ Q (.str (i ++ j)) H
theorem mR {X : Cx} : gu X (binaryOp .Add) yR := oK
theorem A0 {i j : Str} (hl : i.length + j.length <= 4000) (h : Q (.str (i ++ j)) H) : yR (.str i) (.str j) H Q := ⟨i, j, rfl, rfl, small hl, h⟩
theorem pC {R : Bool -> Prop} (hp : Dv H v (.list ds)) (h : R (!ds.isEmpty)) : ∃ k, oE K v H k /\ R k := by
 obtain ⟨p, xs, rfl, e, dv⟩ := hp.lst_inv
 refine ⟨_, .inl ⟨xs, e K, rfl⟩, ?_⟩
 have : xs.isEmpty = ds.isEmpty := by cases dv <;> rfl
 rw [this]; exact h
def qt (K : PySem.W.Frag) : List V -> Hp -> VK -> Prop := fun xs H Q => ∃ p ys, xs = [.ref p] /\ (bp K H p ys \/ nD K H p ys) /\ ∀ l, H l = none -> Q (.ref l) (upd H l (.lst ys))
theorem fj {X : Cx} : dh X (.type "list") (qt X.K) := lN
theorem ve (hp : Dv H v (.list ds)) (i : aR ds = true) (k : ∀ q H', ah H H' -> H q = none -> bq H' q ds -> Q (.ref q) H') : qt K [v] H Q := by
 obtain ⟨p, xs, rfl, e, dv⟩ := hp.lst_inv
 exact ⟨p, xs, rfl, .inl (e K), fun l hl => k l _ (aJ hl) hl (il hl dv i)⟩
theorem xl (xs : List V) (i j : Nat) : pG xs (some (i : Int)) (some (j : Int)) = (xs.drop i).take (j - i) := by
 unfold pG
 rw [HT.p8, HT.p8]
 by_cases h : i <= xs.length
 . rw [Nat.min_eq_left h]
   by_cases h2 : j <= xs.length
   . rw [Nat.min_eq_left h2]
   . rw [Nat.min_eq_right (by omega)]
     rw [List.take_of_length_le (by rw [List.length_drop]; omega), List.take_of_length_le (by rw [List.length_drop]; omega)]
 . rw [List.drop_of_length_le (show xs.length <= min i xs.length by omega), List.drop_of_length_le (show xs.length <= i by omega), List.take_nil, List.take_nil]
theorem FK {te : TE} {tl th : TO} {r : V -> Option Int -> Option Int -> Hp -> VK -> Prop} (h : te σ H fun x H1 => tl σ H1 fun l H2 => th σ H2 fun u H3 => r x l u H3 Q) : Jz r te tl th σ H Q := h
theorem AH {t : TE} {R : Option Int -> Hp -> Prop} (h : t σ H fun x H1 => ∃ i, x = .int i /\ R (some i) H1) : yw t σ H R := h
theorem uW {R : Option Int -> Hp -> Prop} (h : R none H) : qN σ H R := h
theorem xQ {i : Int} {R : Int -> Prop} (h : R i) : ∃ j, V.int i = .int j /\ R j := ⟨i, rfl, h⟩
theorem Ah {ns : List Int} (i j : Nat) (hp : bp K H p (ns.map V.int)) (k : ∀ q H', ah H H' -> H q = none -> bq H' q (((ns.drop i).take (j - i)).map PyData.int) -> Q (.ref q) H') : wY K (.ref p) (some (i : Int)) (some (j : Int)) H Q := by
 refine ⟨p, _, rfl, hp, fun q hq => ?_⟩
 rw [xl, <- List.map_drop, <- List.map_take]
 exact k q _ (aJ hq) hq ⟨_, aA, aT.ints _, bW (fun _ => rfl) _⟩
theorem nR {H : Hp} {x : Str} : ∀ {xs : List V} {ss : List Str}, aT H xs (ss.map PyData.str) -> xs.all f6 = true /\ FA (.str x) xs = ss.contains x
 | _, [], .nil => ⟨rfl, rfl⟩
 | _, s :: ss, .cons h r => by
   cases h
   obtain ⟨a, b⟩ := nR (x := x) r
   refine ⟨by simpa [f6] using a, ?_⟩
   show (xJ (.str s) (.str x) || FA (.str x) _) = _
   rw [b]
   show ((s == x) || ss.contains x) = _
   rw [List.contains_cons, show (s == x) = (x == s) from by rw [Bool.eq_iff_iff, beq_iff_eq, beq_iff_eq]; exact eq_comm]
theorem Dd {ss : List Str} {x : Str} (hp : Dv H v (.list (ss.map PyData.str))) (h : Q (.bl (ss.contains x)) H) : Hq K false (.str x) v H Q := by
 obtain ⟨p, xs, rfl, e, dv⟩ := hp.lst_inv
 obtain ⟨a, b⟩ := nR (x := x) dv
 refine ⟨p, xs, rfl, .inl (e K), rfl, a, ?_⟩
 rw [b]; exact h
theorem zy {x : V} {i j l : Nat} {d1 d2 d3 : PyData} {R : St -> Hp -> Prop} (hd : Dv H x (.tuple [d1, d2, d3])) (h : ∀ v1 v2 v3, Dv H v1 d1 -> Dv H v2 d2 -> Dv H v3 d3 -> R (((σ.set i (some v1)).set j (some v2)).set l (some v3)) H) :
 lV K 3 (cO (bT i) (cO (bT j) (cO (bT l) nK))) x σ H R := by
 cases hd with
 | tup ha r =>
   cases r with
   | cons h1 r =>
     cases r with
     | cons h2 r =>
       cases r with
       | cons h3 r =>
         cases r
         exact ⟨_, _, rfl, .of ha, rfl, _, _, rfl, _, _, rfl, _, _, rfl, rfl, h _ _ _ h1 h2 h3⟩
theorem DE {α : Type} {cs : List α} {gd : α -> PyData} {g : TG} {tb : TS} (hl : Dv H v (.list (cs.map gd))) (Pv : Nat -> St -> Hp -> Prop) (h0 : Pv 0 σ H) (hk : ∀ i σ H', i <= cs.length -> Pv i σ H' -> ∀ a xs, v = .ref a -> bp K H a xs -> bp K H' a xs)
 (hs : ∀ i c x σ H', cs[i]? = some c -> Pv i σ H' -> (jm (gd c) = true -> (∀ a xs, H a = some (.tup xs) -> H' a = some (.tup xs)) -> Dv H' x (gd c)) -> (ah H H' -> Dv H' x (gd c)) -> g x σ H' fun σ2 H2 => tb { D with nx := Pv (i + 1), ct := Pv (i + 1), bk := D.nx } σ2 H2) (hd : ∀ σ H', Pv cs.length σ H' -> D.nx σ H') : wu K v g tb D σ H := by
 obtain ⟨p, xs, rfl, e, dv⟩ := hl.lst_inv
 have A4 : xs.length = cs.length := by rw [dv.length, List.length_map]
 refine forL (e K) Pv h0 (fun i σ H' hi hp => hk i σ H' (by omega) hp p xs rfl (e K)) (fun i x σ H' hx hp => ?_) (fun σ H' hp => hd σ H' (by rw [<- A4]; exact hp))
 have hi : i < cs.length := by have := (List.getElem?_eq_some_iff.mp hx).1; omega
 obtain ⟨x', iq, ia⟩ := dv.get (i := i) (d := gd cs[i]) (by rw [List.getElem?_map, List.getElem?_eq_getElem hi]; rfl)
 rw [hx] at iq
 cases iq
 exact hs i cs[i] x σ H' (List.getElem?_eq_getElem hi) hp (fun im t => ia.qW t im) (fun s => ia.keeps s)
end
end L2
namespace L2
theorem uF {H H1 H2 : Hp} (a : ∀ x, H1 x = none -> H x = none) (b : ∀ x, H2 x = none -> H1 x = none) : ∀ x, H2 x = none -> H x = none := fun x h => a x (b x h)
theorem BJ {H H' : Hp} {p : PySem.Addr} (s : ∀ x, H' x = none -> H x = none) (h : H' p = none) : H p = none := s p h
theorem ah.KR {H H' : Hp} (s : ah H H') : ∀ x, H' x = Option.none -> H x = Option.none := (s.mv (S := [])).dm
theorem yx {S : List PySem.Addr} {H : Hp} {p : PySem.Addr} (h : p ∈ S \/ H p = none) : ∀ a ∈ [p], a ∈ S \/ H a = none := fun a ha => by
 have : a = p := by simpa using ha
 subst this; exact h
end L2
namespace L2
open PySem
theorem uX {α β : Type} [Inhabited α] {f : α -> β} {xs : List α} {i : Int} (h0 : 0 <= i) (h1 : i < xs.length) : kr (xs.map f) i = some (f (xs.getD i.toNat default)) := by
 obtain ⟨m, rfl⟩ := Int.eq_ofNat_of_zero_le h0
 have hm : m < xs.length := by omega
 refine fR ?_
 rw [List.getElem?_map, List.getElem?_eq_getElem hm]
 simp [hm]
theorem zM {α : Type} {g : α -> PyData} {xs : List α} {K : PySem.W.Frag} {H : Hp} {Q : VK} {v : V} (hs : Dv H v (.list (xs.map g))) (h : Q (.int (xs.length : Nat)) H) : nO K [v] H Q := uo (.inr hs) (by rw [List.length_map]; exact h)
theorem xA {i : Nat} {v : V} {σ : St} {H : Hp} {R : St -> Hp -> Prop} (h : R (σ.set i (some v)) H) : bT i v σ H R := h
theorem Mv.De {p : Addr} {H H1 H2 : Hp} (s : ah H H1) (m : Mv [p] H1 H2) (n : H p = Option.none) : ah H H2 := fun a o e => m.kp a o (tT (aC e n)) (s a o e)
theorem Mv.sq {K : PySem.W.Frag} {S : List Addr} {H H' : Hp} {a : Addr} {xs : List V} (m : Mv S H H') (n : a ∉ S) (h : bp K H a xs) : bp K H' a xs := by
 rcases h with (h | ⟨o, h⟩) | h
 . exact .inl (.inl (m.at n h))
 . exact .inl (.inr ⟨o, m.at n h⟩)
 . exact .inr h
theorem B3 {K : PySem.W.Frag} {H : Hp} {v : V} {R : Bool -> Prop} (hp : Dv H v (.list [])) (h : R false) : ∃ k, oE K v H k /\ R k := pC hp h
theorem BK {K : PySem.W.Frag} {H : Hp} {v : V} {ds : List PyData} {R : Bool -> Prop} (hp : Dv H v (.list ds)) (hn : ds ≠ []) (h : R true) : ∃ k, oE K v H k /\ R k := pC hp (by
 cases ds with
 | nil => exact absurd rfl hn
 | cons d ds => exact h)
theorem sD {α β : Type} {f : α -> β} {xs : List α} {z : α} : kr ((xs ++ [z]).map f) (-1) = some (f z) := by
 rw [List.map_append]; exact va _ _
theorem cJ {te : TE} {N : Option V -> Hp -> Prop} {σ2 : St} {b : Bool} {H3 : Hp} (h1 : b = true -> te σ2 H3 (fun y H4 => N (some y) H4)) (h2 : b = false -> N none H3) : Fn te N σ2 b H3 := by
 unfold Fn
 cases b with
 | true => rw [if_pos rfl]; exact h1 rfl
 | false => rw [if_neg (by simp)]; exact h2 rfl
end L2
namespace L2
open PySem PySem.Spec PyProof.Rows
section
variable {X : Cx} {K : PySem.W.Frag} {a b e : Expr} {es : List Expr} {ta : TE} {pos : Pos}
theorem nQ (h : X.K = K) : sU X (kA K) := by rw [<- h]; exact dQ
theorem zv (h : X.K = K) : gu X (compareOp .In) (Hq K false) := by rw [<- h]; exact r9
theorem rj (h : X.K = K) (ha : PE X a ta) (he : ∀ whole, isTrue a X.env whole = (do let v <- whole; standAt a.pos; holding [v] (truthy v))) : PT X a (fun σ H Q => ta σ H fun x H' => ∃ k, oE K x H' k /\ Q k H') := by rw [<- h]; exact nW ha he
theorem iw {k : Nat} {t : tX} {n : Nat} (h : X.K = K) (hc : X.calm = true) (hs : Es X es t) (hn : (assignEach es X.env).length = n := by rfl) (DC : (assignEach es X.env).findIdx? (·.1) = none := by rfl) : PG X (.Tuple es k pos) (lV K n t) := by rw [<- h]; exact eE hc hs hn DC
end
end L2
namespace L2
open PySem PySem.Spec PyProof.Rows PySem.W
inductive e8 (H : Hp) : List (Key × V) -> List (Str × PyData) -> Prop where
 | nil : e8 H [] []
 | cons {k : Str} {v : V} {d : PyData} {ax : List (Key × V)} {m : List (Str × PyData)} (h : Dv H v d) (i : jm d = true) (r : e8 H ax m) : e8 H ((.inr k, v) :: ax) ((k, d) :: m)
theorem e8.qW {H H' : Hp} (t : ∀ a xs, H a = some (.tup xs) -> H' a = some (.tup xs)) : ∀ {ax : List (Key × V)} {m : List (Str × PyData)}, e8 H ax m -> e8 H' ax m
 | _, _, .nil => .nil
 | _, _, .cons h i r => .cons (h.qW t i) i (e8.qW t r)
theorem e8.length {H : Hp} : ∀ {ax : List (Key × V)} {m : List (Str × PyData)}, e8 H ax m -> ax.length = m.length
 | _, _, .nil => rfl
 | _, _, .cons _ _ r => by simp [e8.length r]
def sN (m : List (Str × PyData)) (k : Str) : Option PyData := (m.find? fun kv => decide (kv.1 = k)).map (·.2)
def putD (m : List (Str × PyData)) (k : Str) (d : PyData) : List (Str × PyData) := if (m.any fun kv => decide (kv.1 = k)) = true then m.map (fun kv => if kv.1 = k then (kv.1, d) else kv) else m ++ [(k, d)]
theorem wk {a b : Str} : ((Sum.inr a : Key) = Sum.inr b) = (a = b) := propext ⟨fun h => Sum.inr.inj h, fun h => by rw [h]⟩
theorem e8.val {H : Hp} {k : Str} : ∀ {ax : List (Key × V)} {m : List (Str × PyData)}, e8 H ax m -> (∀ d, sN m k = some d -> ∃ v, iU ax (.inr k) = some v /\ Dv H v d) /\ (sN m k = none -> iU ax (.inr k) = none)
 | _, _, .nil => ⟨fun d h => by simp [sN] at h, fun _ => rfl⟩
 | _, _, .cons (k := j) h i r => by
   obtain ⟨h1, h2⟩ := e8.val (k := k) r
   by_cases e : j = k
   . subst e
     refine ⟨fun d hd => ⟨_, g8 rfl, ?_⟩, fun hd => by simp [sN] at hd⟩
     simp [sN] at hd
     subst hd; exact h
   . have e' : (Sum.inr j : Key) ≠ .inr k := fun z => e (Sum.inr.inj z)
     have el : ∀ (d : PyData) (m : List (Str × PyData)), sN ((j, d) :: m) k = sN m k := fun d m => by simp [sN, List.find?_cons, e]
     refine ⟨fun d hd => ?_, fun hd => ?_⟩
     . rw [el] at hd
       obtain ⟨v, hv, ia⟩ := h1 d hd
       exact ⟨v, by rw [fb e']; exact hv, ia⟩
     . rw [el] at hd
       rw [fb e']; exact h2 hd
theorem e8.any {H : Hp} {k : Str} : ∀ {ax : List (Key × V)} {m : List (Str × PyData)}, e8 H ax m -> (ax.any fun kv => decide (kv.1 = .inr k)) = m.any fun kv => decide (kv.1 = k)
 | _, _, .nil => rfl
 | _, _, .cons h i r => by
   simp only [List.any_cons, e8.any r, wk]
theorem e8.append {H : Hp} : ∀ {ax CH : List (Key × V)} {m m' : List (Str × PyData)}, e8 H ax m -> e8 H CH m' -> e8 H (ax ++ CH) (m ++ m')
 | _, _, _, _, .nil, s => s
 | _, _, _, _, .cons h i r, s => .cons h i (e8.append r s)
theorem e8.repl {H : Hp} {k : Str} {v : V} {d : PyData} (hv : Dv H v d) (hi : jm d = true) : ∀ {ax : List (Key × V)} {m : List (Str × PyData)}, e8 H ax m -> e8 H (ax.map fun kv => if kv.1 = .inr k then (kv.1, v) else kv) (m.map fun kv => if kv.1 = k then (kv.1, d) else kv)
 | _, _, .nil => .nil
 | _, _, .cons (k := j) h i r => by
   rw [List.map_cons, List.map_cons]
   by_cases e : j = k
   . subst e
     rw [if_pos rfl, if_pos rfl]
     exact .cons hv hi (e8.repl hv hi r)
   . rw [if_neg (fun z => e (Sum.inr.inj z)), if_neg e]
     exact .cons h i (e8.repl hv hi r)
theorem e8.put {H : Hp} {k : Str} {v : V} {d : PyData} {ax : List (Key × V)} {m : List (Str × PyData)} (r : e8 H ax m) (hv : Dv H v d) (hi : jm d = true) : e8 H (putK ax (.inr k) v) (putD m k d) := by
 unfold putK putD
 rw [r.any]
 by_cases h : (m.any fun kv => decide (kv.1 = k)) = true
 . rw [if_pos h, if_pos h]; exact r.repl hv hi
 . rw [if_neg h, if_neg h]; exact r.append (.cons hv hi .nil)
def iX (H : Hp) (p : Addr) (m : List (Str × PyData)) : Prop := ∃ ax, H p = some (.dK ax) /\ e8 H ax m
theorem iX.keeps {H H' : Hp} {p : Addr} {m : List (Str × PyData)} (s : ah H H') (h : iX H p m) : iX H' p m := let ⟨ax, e, d⟩ := h; ⟨ax, s _ _ e, d.qW fun a xs e => s _ _ e⟩
theorem iX.mv {S : List Addr} {H H' : Hp} {p : Addr} {m : List (Str × PyData)} (v : Mv S H H') (n : p ∉ S) (h : iX H p m) : iX H' p m := let ⟨ax, e, d⟩ := h; ⟨ax, v.at n e, d.qW v.tp⟩
theorem iX.ne {H : Hp} {p q : Addr} {m : List (Str × PyData)} (h : iX H p m) (hn : H q = none) : p ≠ q := let ⟨_, e, _⟩ := h; aC e hn
section
variable {σ : St} {H : Hp} {Q : VK} {D : Ends} {K : PySem.W.Frag} {p : Addr} {m : List (Str × PyData)} {k : Str}
theorem AB (h : ∀ p H2, ah H H2 -> H p = none -> iX H2 p [] -> Q (.ref p) H2) : tU σ H Q := fun p hp => h p _ (aJ hp) hp ⟨[], aA, .nil⟩
theorem wJ {td ty tv : TE} (h : tv σ H fun v H1 => td σ H1 fun x H2 => ty σ H2 fun y H3 => ∃ a H4, x = .ref a /\ oH H3 a y v H4 /\ D.nx σ H4) : yO td ty tv D σ H := h
theorem Ap {v : V} {d : PyData} {R : Hp -> Prop} (hp : iX H p m) (hl : m.length <= 4000) (hv : Dv H v d) (hi : jm d = true) (h : ∀ H2, Mv [p] H H2 -> iX H2 p (putD m k d) -> R H2) : ∃ a H4, V.ref p = .ref a /\ oH H a (.str k) v H4 /\ R H4 := by
 obtain ⟨ax, e, dk⟩ := hp
 have mv : Mv [p] H (upd H p (.dK (putK ax (.inr k) v))) := .oB e (by intro _ z; cases z)
 exact ⟨p, _, rfl, oH.k (k := .inr k) e (by rw [dk.length]; exact dH hl), h _ mv ⟨_, aA, (dk.put hv hi).qW mv.tp⟩⟩
theorem wx {td ty : TE} (h : td σ H fun x H1 => ty σ H1 fun y H2 => ∃ a v, x = .ref a /\ n9 H2 a y (some v) /\ Q v H2) : yV td ty σ H Q := h
theorem Bs {d : PyData} {R : V -> Prop} (hp : iX H p m) (hk : sN m k = some d) (h : mG H d fun v _ => R v) : ∃ a v, V.ref p = .ref a /\ n9 H a (.str k) (some v) /\ R v := by
 obtain ⟨ax, e, dk⟩ := hp
 obtain ⟨v, hv, hd⟩ := (dk.val (k := k)).1 d hk
 exact ⟨p, v, rfl, by rw [<- hv]; exact n9.k (k := .inr k) e, h.use hd⟩
theorem xM {r r' : R2} {ta tb tc : TE} (h : ta σ H fun x H1 => tb σ H1 fun y H2 => r x y H2 fun z H3 => ∃ k, z = .bl k /\ if k = true then tc σ H3 fun u H4 => r' y u H4 Q else Q (.bl false) H3) : tE r r' ta tb tc σ H Q := h
def ow : Option Int -> V | none => .aZ | some i => .int i
def Fl : Option Int -> PyData | none => .none | some i => .int i
end
end L2
namespace L2
end L2
namespace L2
open PySem
theorem uN {Hb : Hp} {σ : St} {H : Hp} {D : Ends} {K : PySem.W.Frag} {v : V} {α : Type} {cs : List α} {gd : α -> PyData} {g : TG} {tb : TS} (hl : Dv Hb v (.list (cs.map gd))) (Pv : Nat -> St -> Hp -> Prop) (h0 : Pv 0 σ H) (hk : ∀ i σ H', i <= cs.length -> Pv i σ H' -> ∀ a xs, v = .ref a -> bp K Hb a xs -> bp K H' a xs)
 (hs : ∀ i c x σ H', cs[i]? = some c -> Pv i σ H' -> (jm (gd c) = true -> (∀ a xs, Hb a = some (.tup xs) -> H' a = some (.tup xs)) -> Dv H' x (gd c)) -> (ah Hb H' -> Dv H' x (gd c)) -> g x σ H' fun σ2 H2 => tb { D with nx := Pv (i + 1), ct := Pv (i + 1), bk := D.nx } σ2 H2) (hd : ∀ σ H', Pv cs.length σ H' -> D.nx σ H') : wu K v g tb D σ H := by
 obtain ⟨p, xs, rfl, e, dv⟩ := hl.lst_inv
 have A4 : xs.length = cs.length := by rw [dv.length, List.length_map]
 refine forL (hk 0 σ H (Nat.zero_le _) h0 p xs rfl (e K)) Pv h0 (fun i σ H' hi hp => hk i σ H' (by omega) hp p xs rfl (e K)) (fun i x σ H' hx hp => ?_) (fun σ H' hp => hd σ H' (by rw [<- A4]; exact hp))
 have hi : i < cs.length := by have := (List.getElem?_eq_some_iff.mp hx).1; omega
 obtain ⟨x', iq, ia⟩ := dv.get (i := i) (d := gd cs[i]) (by rw [List.getElem?_map, List.getElem?_eq_getElem hi]; rfl)
 rw [hx] at iq
 cases iq
 exact hs i cs[i] x σ H' (List.getElem?_eq_getElem hi) hp (fun im t => ia.qW t im) (fun s => ia.keeps s)
end L2
namespace L2
open PySem PySem.Spec PyProof.Rows PySem.W
section
variable {X : Cx} {tg : Expr}
section
variable {σ : St} {H : Hp} {Q : VK} {D : Ends} {K : PySem.W.Frag}
end
end
end L2
namespace L2
open PySem
section
variable {H : Hp} {Q : VK} {K : PySem.W.Frag}
theorem xT {z : Str} (hl : z.length <= 4000) (h : Q (.int (z.length : Nat)) H) : nO K [.str z] H Q := .inl (.inr ⟨z, rfl, small hl, h⟩)
end
end L2
namespace L2
open PySem PySem.Spec PyProof.Rows PySem.W
section
variable {X : Cx}
theorem qh {H : Hp} : ∀ {xs : List V} {ss : List Str} {us : List Value}, aT H xs (ss.map PyData.str) -> Vals xs us -> StrsAre us ss
 | _, [], _, .nil, .nil => .nil
 | _, b :: bs, _, .cons h r, .cons q t => by
   cases h
   obtain ⟨tk, rfl⟩ := q
   exact .cons _ _ (qh r t)
end
section
variable {σ : St} {H : Hp} {Q : VK} {D : Ends} {K : PySem.W.Frag} {p : Addr} {ds : List PyData}
theorem aT.drop {H : Hp} : ∀ {xs : List V} {ds : List PyData} (n : Nat), aT H xs ds -> aT H (xs.drop n) (ds.drop n)
 | _, _, 0, h => h
 | _, _, _ + 1, .nil => .nil
 | _, _, n + 1, .cons _ r => aT.drop n r
theorem aT.take {H : Hp} : ∀ {xs : List V} {ds : List PyData} (n : Nat), aT H xs ds -> aT H (xs.take n) (ds.take n)
 | _, _, 0, _ => .nil
 | _, _, _ + 1, .nil => .nil
 | _, _, n + 1, .cons h r => .cons h (aT.take n r)
theorem og {ds : List PyData} (n : Nat) (h : aR ds = true) : aR (ds.take n) = true := by
 rw [dw] at *
 exact fun d hd => h d (List.mem_of_mem_take hd)
theorem sY (xs : List V) (j : Nat) : pG xs none (some (j : Int)) = xs.take j := by
 have h1 : HT.ku xs.length xs.length (some (j : Int)) = min j xs.length := by
  simp only [HT.ku]
  rw [if_neg (by omega)]
  omega
 have h2 : HT.ku xs.length 0 none = 0 := rfl
 show (xs.drop (HT.ku xs.length 0 none)).take (HT.ku xs.length xs.length (some (j : Int)) - HT.ku xs.length 0 none) = _
 rw [h1, h2, List.drop_zero, Nat.sub_zero]
 by_cases h : j <= xs.length
 . rw [Nat.min_eq_left h]
 . rw [List.take_of_length_le (show xs.length <= min j xs.length by omega), List.take_of_length_le (show xs.length <= j by omega)]
theorem zO (j : Nat) (hp : bq H p ds) (k : ∀ q H', ah H H' -> H q = none -> bq H' q (ds.take j) -> Q (.ref q) H') : wY K (.ref p) none (some (j : Int)) H Q := by
 obtain ⟨xs, e, dv, im⟩ := hp
 refine ⟨p, xs, rfl, bp.of e, fun q hq => ?_⟩
 rw [sY]
 exact k q _ (aJ hq) hq (il hq (dv.take j) (og j im))
theorem t8 {q : Addr} {es : List PyData} (hp : bq H p ds) (hq : bq H q es) (hl : ds.length + es.length <= 4000) (k : ∀ r H', ah H H' -> H r = none -> bq H' r (ds ++ es) -> Q (.ref r) H') : Af (.ref p) (.ref q) H Q := by
 obtain ⟨xs, e, dv, im⟩ := hp
 obtain ⟨zs, e2, JE, KP⟩ := hq
 refine ⟨p, q, xs, zs, rfl, rfl, e, e2, by rw [dv.length, JE.length]; exact small hl, fun r hr => ?_⟩
 exact k r _ (aJ hr) hr (il hr (dv.append JE) (dN im KP))
end
end L2
namespace L2
open PySem PySem.Calls PyProof.Rows
section
variable {X : Cx} {e k : Expr} {te tk : TE} {pos p2 : Pos}
end
section
variable {X : Cx}
end
section
variable {K : PySem.W.Frag} {σ : St} {H : Hp} {Q : VK} {p : Addr} {ds : List PyData}
end
end L2
namespace L2
open PySem PySem.Spec PyProof.Rows PySem.W
theorem qi (lo hi : Option Int) (n : Nat) : (Builtin.Str.strSliceIndices lo hi 1 n).length <= n := by
 unfold Builtin.Str.strSliceIndices sliceRange
 simp only [List.length_map, List.length_range, Int.ediv_one, show (1 : Int) > 0 by decide, if_true]
 cases lo <;> cases hi <;> simp only [] <;> (repeat' split) <;> omega
section
variable {X : Cx}
def Ci (ss : List Str) : Prop := ss.Pairwise fun a b => qm b a = false
theorem hX : ∀ (r : List Str) (p : Str), risingS p r = true -> (∀ x ∈ r, qm x p = false) /\ Ci r
 | [], _, _ => ⟨fun x hx => (by cases hx), List.Pairwise.nil⟩
 | y :: r, p, h => by
   unfold risingS at h
   rw [Bool.and_eq_true] at h
   obtain ⟨h1, h2⟩ := h
   have sM : qm y p = false := by
    have : ltCps y.cps.toList p.cps.toList = false := by simpa using h1
    rw [ltCps_eq] at this
    exact this
   obtain ⟨a, b⟩ := hX r y h2
   refine ⟨fun x hx => ?_, List.pairwise_cons.mpr ⟨a, b⟩⟩
   rcases List.mem_cons.mp hx with rfl | hx
   . exact sM
   . exact qw (a x hx) sM
theorem mH {ss : List Str} (h : sortedS ss = true) : Ci ss := by
 cases ss with
 | nil => exact List.Pairwise.nil
 | cons x r => obtain ⟨a, b⟩ := hX r x h; exact List.pairwise_cons.mpr ⟨a, b⟩
def t7 : List V -> Hp -> VK -> Prop := fun xs H Q => ∃ (v : V) (ss : List Str), xs = [v] /\ Dv H v (.list (ss.map PyData.str)) /\ ss.length < 64 /\ ∀ (q : Addr) (H' : Hp) (tq : List Str), ah H H' -> H q = none -> tq.Perm ss -> Ci tq -> bq H' q (tq.map PyData.str) -> Q (.ref q) H'
theorem lI : ∀ {us : List Value} {ss : List Str}, StrsAre us ss -> Vals (ss.map V.str) us
 | _, _, .nil => .nil
 | _, _, .cons _ t r => .cons ⟨t, rfl⟩ (lI r)
theorem mY {H : Hp} : ∀ (ss : List Str), aT H (ss.map V.str) (ss.map PyData.str)
 | [] => .nil
 | x :: r => .cons (.str x) (mY r)
theorem pO : dh X (.builtin "sorted") t7 := by
 intro pins s σ H xs us Q I r h
 obtain ⟨v, ss, rfl, hd, hl, q⟩ := h
 obtain ⟨u, rfl, ru⟩ := vals1 r
 obtain ⟨p, ys, rfl, e, dv⟩ := hd.lst_inv
 obtain ⟨az, xr, pl, _⟩ := I.list (e X.K)
 cases ru
 have hS := qh dv xr
 refine sorted_strs pl.isList hS (by rw [<- xr.length, dv.length, List.length_map]; exact hl) fun out tq h1 h2 h3 => ?_
 obtain ⟨ep, he⟩ := sortedAll_at s.heap az out
 have hq : H (s.heap.objs.size + 1) = none := I.aI.fresh (Nat.le_succ _)
 refine ⟨.ref (s.heap.objs.size + 1), upd H (s.heap.objs.size + 1) (.lst (tq.map V.str)), I.laid (t' := s.toks) (fun b ob q => sortedAll_old q) (Nat.le_succ _) ?_, rfl, q _ _ tq (aJ hq) hq h2 (mH h3) (il hq (mY tq) (bW (fun _ => rfl) _))⟩
 exact ⟨by rw [List.length_map, h2.length_eq]; exact Nat.le_of_lt (dH (by omega)), out.toList, ep, lI h1, by simpa [seqObj] using he⟩
def zk : List V -> Hp -> VK -> Prop := fun xs H Q => ∃ (v : V) (ns : List Int), xs = [v] /\ Dv H v (.list (ns.map PyData.int)) /\ Q (.int ns.sum) H
theorem jx {H : Hp} : ∀ {xs : List V} {ns : List Int} {us : List Value}, aT H xs (ns.map PyData.int) -> Vals xs us -> IntsAre us ns
 | _, [], _, .nil, .nil => .nil
 | _, _ :: _, _, .cons h r, .cons q t => by
   cases h
   obtain ⟨tk, rfl⟩ := q
   exact .cons _ _ (jx r t)
theorem i3 (x : Int) (ns : List Int) : ∀ k, preSum (fun i => (x :: ns).getD i 0) (k + 1) = x + preSum (fun i => ns.getD i 0) k
 | 0 => by simp [preSum]
 | k + 1 => by
   rw [preSum, i3 x ns k, preSum, List.getD_cons_succ]
   omega
theorem fJ : ∀ ns : List Int, preSum (fun i => ns.getD i 0) ns.length = ns.sum
 | [] => rfl
 | x :: r => by rw [List.length_cons, i3, fJ r, List.sum_cons]
theorem kO (hc : X.calm = true) : dh X (.builtin "sum") zk := by
 intro pins s σ H xs us Q I r h
 obtain ⟨v, ns, rfl, hd, q⟩ := h
 obtain ⟨u, rfl, ru⟩ := vals1 r
 obtain ⟨p, ys, rfl, e, dv⟩ := hd.lst_inv
 obtain ⟨az, xr, pl, _⟩ := I.list (e X.K)
 cases ru
 have hI := jx dv xr
 have ck : p < s.heap.objs.size := by obtain ⟨o, n, e1, _⟩ := pl; exact Heap.lt_size e1
 have hA : X.A.in1.handled = none := I.ok.hd hc
 refine call_sum_walkAnyB (wpAny_pyIter_list pl.isList ?_)
 refine ⟨s.heap.objs.size, _, _, _, _, _, _, fun i => ns.getD i 0, rfl, (Walks.list hA _ p (Nat.ne_of_lt ck) az.toArray).toS, ⟨⟨_, Heap.get?_push_size _ rfl, rfl, rfl⟩, pl.isList.at fun o e => Heap.get?_push_of_some _ e⟩, ?_, ?_, ?_⟩
 . intro b hb
   rw [Heap.size_push]
   have : b = s.heap.objs.size \/ b = p := by simpa using hb
   rcases this with rfl | rfl
   . exact Nat.lt_succ_self _
   . exact Nat.lt_succ_of_lt ck
 . intro i v hv
   obtain ⟨t, ht⟩ := hI.int_at i v (by simpa using hv)
   exact .inl ⟨t, ht⟩
 . intro s' t' hm
   have hn : az.toArray.size = ns.length := by rw [List.size_toArray, hI.length]
   rw [hn, fJ]
   obtain ⟨h', g', d', F3, Eb⟩ := s'
   have eg : g' = s.gens := hm.gens
   have ed : d' = s.drawn := hm.drawn
   have eo : Eb = s.os := hm.os
   subst eg; subst ed; subst eo
   have I1 := I.kept (t' := s.toks) (h' := s.heap.push { cls := Value.type "list_iterator", data := Data.fields #[Value.ref p, Value.int 0 0] }) fun b o e => Heap.get?_push_of_some _ e
   have fp := I.j7 (H' := H) (Nat.le_refl _) (I.aI.fresh (Nat.le_refl _))
   have I2 := I1.turned (t' := F3) (h' := h') (it := s.heap.objs.size) (fun b o hb e => hm.heap b o (by simpa using hb) e) fp.1 fp.2.1 fp.2.2.2.1 fp.2.2.2.2.1 fp.2.2.2.2.2
   exact ⟨.int ns.sum, H, I2, ⟨t', rfl⟩, q⟩
end
section
variable {prog : Program} {w : World} {A : Around} {E : Value -> Shared -> Prop} {s : Shared} {it l : Addr} {az : Array Value}
end
section
variable {X : Cx} {e : Expr} {te : TE} {p p2 pos rK : Pos}
end
section
variable {K : PySem.W.Frag} {σ : St} {H : Hp} {Q : VK} {p : Addr} {ds : List PyData} {v : V}
theorem Bd {ns : List Int} (hp : Dv H v (.list (ns.map PyData.int))) (h : Q (.int ns.sum) H) : zk [v] H Q := ⟨v, ns, rfl, hp, h⟩
theorem wV {ss : List Str} (hp : Dv H v (.list (ss.map PyData.str))) (hl : ss.length < 64) (k : ∀ q H' tq, ah H H' -> H q = none -> tq.Perm ss -> Ci tq -> bq H' q (tq.map PyData.str) -> Q (.ref q) H') : t7 [v] H Q := ⟨v, ss, rfl, hp, hl, k⟩
theorem iG {x : V} {i j l m : Nat} {d1 d2 d3 d4 : PyData} {R : St -> Hp -> Prop} (hd : Dv H x (.tuple [d1, d2, d3, d4])) (h : ∀ v1 v2 v3 v4, Dv H v1 d1 -> Dv H v2 d2 -> Dv H v3 d3 -> Dv H v4 d4 -> R ((((σ.set i (some v1)).set j (some v2)).set l (some v3)).set m (some v4)) H) :
 lV K 4 (cO (bT i) (cO (bT j) (cO (bT l) (cO (bT m) nK)))) x σ H R := by
 cases hd with
 | tup ha r =>
   cases r with
   | cons h1 r =>
     cases r with
     | cons h2 r =>
       cases r with
       | cons h3 r =>
         cases r with
         | cons h4 r =>
           cases r
           exact ⟨_, _, rfl, .of ha, rfl, _, _, rfl, _, _, rfl, _, _, rfl, _, _, rfl, rfl, h _ _ _ _ h1 h2 h3 h4⟩
end
section
variable {P : Program} {w : World} {H : Hp} {h : Heap} {d : Addr} {o : Obj} {ax : List (Key × V)}
end
section
variable {X : Cx} {pins : List (Addr × Obj)} {σ : St} {H : Hp} {s : Shared} {d : Addr} {o : Obj} {ax : List (Key × V)}
end
theorem jJ {α β : Type} {F : α -> β -> Prop} : ∀ {xs : List α} {ys : List β}, Paired F xs ys -> ∀ {i : Nat} {x : α}, xs[i]? = some x -> ∃ y, ys[i]? = some y /\ F x y
 | _, _, .nil, i, x, h => by simp at h
 | _, _, .cons r t, 0, x, h => by
   have e := Option.some.inj h
   exact ⟨_, rfl, e ▸ r⟩
 | _, _, .cons r t, i + 1, x, h => by
   obtain ⟨y, e, q⟩ := jJ t (i := i) (by simpa using h)
   exact ⟨y, by simpa using e, q⟩
theorem e8.D8 {H : Hp} : ∀ {ax : List (Key × V)} {m : List (Str × PyData)}, e8 H ax m -> ∀ {i : Nat} {kv : Key × V}, ax[i]? = some kv -> ∃ k d, m[i]? = some (k, d) /\ kv.1 = .inr k /\ Dv H kv.2 d
 | _, _, .nil, i, kv, h => by simp at h
 | _, _, .cons (k := k) (d := d) hv _ r, 0, kv, h => by
   have e := (Option.some.inj h).symm
   subst e
   exact ⟨k, d, rfl, rfl, hv⟩
 | _, _, .cons _ _ r, i + 1, kv, h => by
   obtain ⟨k, d, e, q⟩ := e8.D8 r (i := i) (by simpa using h)
   exact ⟨k, d, by simpa using e, q⟩
section
variable {σ : St} {H : Hp} {Q : VK} {K : PySem.W.Frag} {p : Addr} {m : List (Str × PyData)} {k : Str}
end
section
variable {X : Cx}
end
section
variable {σ : St} {H : Hp} {Q : VK} {K : PySem.W.Frag} {p : Addr} {m : List (Str × PyData)} {k : Str}
end
section
variable {σ : St} {H : Hp} {Q : VK} {K : PySem.W.Frag} {p : Addr}
end
section
variable {X : Cx}
end
theorem ke {h : Heap} {o u : Obj} {b : Addr} (e : (h.push o).get? b = some u) (n : b ≠ h.objs.size) : h.get? b = some u := by
 obtain ⟨e1, e2⟩ := Heap.get?_some_iff.mp e
 refine Heap.get?_some_iff.mpr ⟨?_, e2⟩
 cases h
 simpa [Heap.push, Array.getElem?_push, n] using e1
section
variable {prog : Program} {w : World} {K : Type} [DecidableEq K] {knd : KeyKind prog w K} {A : Around} {E : Value -> Shared -> Prop} {s : Shared} {d : Addr} {ax : List (K × Value)} {ep : Nat}
end
section
variable {X : Cx}
end
section
variable {σ : St} {H : Hp} {Q : VK} {p : Addr} {m : List (Str × PyData)}
end
section
variable {σ : St} {H : Hp} {D : Ends} {p : Addr} {m : List (Str × PyData)} {g : TG} {tb : TS}
end
section
variable {σ : St} {H : Hp} {K : PySem.W.Frag}
theorem zX {x : V} {i j : Nat} {d1 d2 : PyData} {R : St -> Hp -> Prop} (hd : Dv H x (.tuple [d1, d2])) (h : ∀ v1 v2, Dv H v1 d1 -> Dv H v2 d2 -> R ((σ.set i (some v1)).set j (some v2)) H) :
 lV K 2 (cO (bT i) (cO (bT j) nK)) x σ H R := by
 cases hd with
 | tup ha r =>
   cases r with
   | cons h1 r =>
     cases r with
     | cons h2 r =>
       cases r
       exact ⟨_, _, rfl, .of ha, rfl, _, _, rfl, _, _, rfl, rfl, h _ _ h1 h2⟩
end
end L2
namespace L2
open PySem
def zT (xs : Array Nat) : Prop := ∀ i j, (hi : i < xs.size) -> (hj : j < xs.size) -> i < j -> xs[i] < xs[j]
theorem vq {xs : Array Nat} {j : Nat} (up : zT xs) : ∀ (f lo hi : Nat), hi - lo <= f -> lo <= hi -> hi <= xs.size -> (∀ i, (h : i < xs.size) -> i < lo -> xs[i] < j) -> (∀ i, (h : i < xs.size) -> hi <= i -> j <= xs[i]) ->
 SetTable.below.go xs j f lo hi <= xs.size /\ (∀ i, (h : i < xs.size) -> i < SetTable.below.go xs j f lo hi -> xs[i] < j) /\ ∀ i, (h : i < xs.size) -> SetTable.below.go xs j f lo hi <= i -> j <= xs[i] := by
 intro f
 induction f with
 | zero =>
   intro lo hi hf h1 h2 a b
   have e : hi = lo := by omega
   subst e
   exact ⟨h2, a, b⟩
 | succ f ih =>
   intro lo hi hf h1 h2 a b
   unfold SetTable.below.go
   by_cases ck : lo < hi
   . rw [if_pos ck]
     have hm : (lo + hi) / 2 < xs.size := by omega
     have hg : xs.getD ((lo + hi) / 2) j = xs[(lo + hi) / 2] := by simp [Array.getD, hm]
     dsimp only
     rw [hg]
     by_cases hx : xs[(lo + hi) / 2] < j
     . rw [if_pos hx]
       refine ih _ _ (by omega) (by omega) h2 (fun i h yI => ?_) b
       by_cases e : i = (lo + hi) / 2
       . subst e; exact hx
       . exact Nat.lt_trans (up i _ h hm (by omega)) hx
     . rw [if_neg hx]
       refine ih _ _ (by omega) (by omega) (by omega) a (fun i h yI => ?_)
       by_cases e : i = (lo + hi) / 2
       . subst e; omega
       . have := up _ i hm h (by omega); omega
   . rw [if_neg ck]
     have e : hi = lo := by omega
     subst e
     exact ⟨h2, a, b⟩
theorem below_at {xs : Array Nat} {j : Nat} (up : zT xs) : SetTable.below xs j <= xs.size /\ (∀ i, (h : i < xs.size) -> i < SetTable.below xs j -> xs[i] < j) /\ ∀ i, (h : i < xs.size) -> SetTable.below xs j <= i -> j <= xs[i] :=
 vq up _ _ _ (by omega) (Nat.zero_le _) (Nat.le_refl _) (fun i _ h => absurd h (Nat.not_lt_zero _)) (fun i h h' => absurd h (by omega))
theorem pR {xs : Array Nat} : zT xs ↔ xs.toList.Pairwise (· < ·) := by
 rw [List.pairwise_iff_getElem]
 constructor
 . intro h i j hi hj iD
   simpa using h i j (by simpa using hi) (by simpa using hj) iD
 . intro h i j hi hj iD
   have := h i j (by simpa using hi) (by simpa using hj) iD
   rw [Array.getElem_toList, Array.getElem_toList] at this
   exact this
theorem oZ {xs : Array Nat} {j : Nat} (up : zT xs) (hn : xs[SetTable.below xs j]? ≠ some j) : zT (SetTable.insertAt xs (SetTable.below xs j) j) := by
 obtain ⟨h0, h1, h2⟩ := below_at (j := j) up
 rw [pR, SetTable.toList_insertAt]
 have pw := pR.mp up
 have hd : ∀ x ∈ xs.toList.drop (SetTable.below xs j), j < x := by
  intro x hx
  obtain ⟨k, hk, e⟩ := List.getElem_of_mem hx
  rw [List.getElem_drop] at e
  have Fy : SetTable.below xs j + k < xs.size := by rw [List.length_drop] at hk; simp at hk; omega
  have e2 : xs[SetTable.below xs j + k] = x := by rw [<- e]; simp
  have := h2 _ Fy (by omega)
  rcases Nat.lt_or_ge j x with q | q
  . exact q
  . have hj : xs[SetTable.below xs j + k] = j := by omega
    rcases Nat.eq_zero_or_pos k with k0 | k0
    . subst k0
      exact absurd (by rw [Array.getElem?_eq_getElem (by omega)]; simpa using hj) hn
    . have a := up (SetTable.below xs j) _ (by omega) Fy (by omega)
      have b := h2 (SetTable.below xs j) (by omega) (Nat.le_refl _)
      omega
 rw [List.pairwise_append, List.pairwise_cons]
 refine ⟨pw.sublist (List.take_sublist _ _), ⟨hd, pw.sublist (List.drop_sublist _ _)⟩, fun x hx y hy => ?_⟩
 have Je : x < j := by
  obtain ⟨k, hk, e⟩ := List.getElem_of_mem hx
  rw [List.getElem_take] at e
  rw [List.length_take] at hk
  have Fy : k < xs.size := by simp at hk; omega
  have := h1 k Fy (by omega)
  rw [<- e]; simpa using this
 rcases List.mem_cons.mp hy with rfl | hy
 . exact Je
 . exact Nat.lt_trans Je (hd y hy)
structure Good (t : SetTable) : Prop where
 up : zT t.place
 nd : t.dummies = #[]
theorem rM (n : Nat) : zT (Array.range n) := fun i j hi hj h => by simpa using h
theorem cT {t : SetTable} {n : Nat} : Good (t.standIn n) := ⟨rM n, rfl⟩
theorem oM {t : SetTable} {b : Bool} (g : Good t) : Good { t with plain := b } := ⟨g.up, g.nd⟩
theorem pY {j : Nat} : SetTable.has #[] j = false := by simp [SetTable.has]
theorem pD {t : SetTable} {j : Nat} (g : Good t) (h : t.slot j = .empty) : t.place[SetTable.below t.place j]? ≠ some j := by
 intro e
 unfold SetTable.slot at h
 simp [e] at h
theorem tQ {t : SetTable} {f : Nat -> Int} {h : Int} (g : Good t) : ∀ (k : Nat) (p : SetTable.Probe) (j : Nat) (d : Option Nat), p.dummy = none -> SetTable.probe.go t f h k p = some (.empty j d) -> t.slot j = .empty /\ d = none := by
 intro k
 induction k with
 | zero => intro p j d _ e; simp [SetTable.probe.go] at e
 | succ k ih =>
   intro p j d hp e
   unfold SetTable.probe.go at e
   have Kt : ∀ q : SetTable.Probe, q.dummy = none -> (t.advance q).dummy = none := by
    intro q hq
    unfold SetTable.advance
    split <;> exact hq
   split at e
   . rename_i hs
     cases e
     exact ⟨hs, hp⟩
   . rename_i hs
     unfold SetTable.slot at hs
     dsimp only at hs
     split at hs
     . cases hs
     . rw [g.nd, pY] at hs
       cases hs
   . split at e
     . cases e
     . exact ih _ j d (Kt p hp) e
theorem oo {t : SetTable} {es : Array (Int × Value)} {h : Int} {x : Value} (g : Good t) : Good (layNew t es h x).2.1 /\ (layNew t es h x).2.1.led = t.led := by
 unfold layNew
 split
 . rename_i slot Kv e
   have hs : t.slot slot = .empty := by
    unfold SetTable.freeSlot at e
    split at e
    . rename_i j d hp
      obtain ⟨h1, rfl⟩ := tQ g _ _ _ _ rfl hp
      cases e
      exact h1
    . cases e
   have hn := pD g hs
   have gp : Good (t.put slot).1 := ⟨oZ g.up hn, by unfold SetTable.put; dsimp only; rw [g.nd, pY]; rfl⟩
   dsimp only
   unfold SetTable.orStandIn
   split
   . exact ⟨gp, rfl⟩
   . exact ⟨cT, rfl⟩
 . exact ⟨cT, rfl⟩
theorem ki {α : Type} (g : Nat -> Option α) : ∀ l : List Nat, ((l.filterMap fun j => (g j).map (j, ·)).map (·.1)) = l.filter fun j => (g j).isSome
 | [] => rfl
 | j :: r => by
   rw [List.filterMap_cons, List.filter_cons]
   cases hg : g j with
   | none => simpa using ki g r
   | some a => simpa using ki g r
theorem rS {mask finger moves : Nat} {led plain : Bool} {hs : Array Int} {t : SetTable} {o : Array Nat} (e : SetTable.laid mask finger moves led plain hs = some (t, o)) : Good t /\ t.led = led := by
 unfold SetTable.laid at e
 cases hl : SetTable.layClean mask hs with
 | none => rw [hl] at e; cases e
 | some owner =>
   rw [hl] at e
   have e' := Option.some.inj e
   cases e'
   refine ⟨⟨?_, rfl⟩, rfl⟩
   rw [pR]
   show List.Pairwise _ (List.map _ _)
   rw [ki]
   exact List.pairwise_lt_range.filter _
theorem o8 {t : SetTable} {es : Array (Int × Value)} {n : Nat} : Good (relayAll t es n).2.1 /\ (relayAll t es n).2.1.led = t.led := by
 unfold relayAll
 split
 . rename_i t' order e
   have := rS e
   dsimp only
   split
   . exact this
   . exact ⟨cT, rfl⟩
 . exact ⟨cT, rfl⟩
section
variable {prog : Program} {w : World} {A : Around} {E : Value -> Shared -> Prop} {s : Shared}
def dX (prog : Program) (w : World) (h : Heap) (a : Addr) (S : Int -> Bool) (n : Nat) : Prop :=
 ∃ o es ep t, h.get? a = some o /\ o.ExactSet /\ o.data = .set es ep t /\ ElemsOf (intKind prog w) es.toList /\ (∀ k, S k = true ↔ ∃ e ∈ es.toList, (intKind prog w).is k e.2 = true) /\ es.size < scanBound /\ t.fits es.size = true /\ es.size = n /\ Good t /\ t.led = !w.params.followText "set-order"
theorem dX.at {h h' : Heap} {a : Addr} {S : Int -> Bool} {n : Nat} (x : dX prog w h a S n) (k : ∀ o, h.get? a = some o -> h'.get? a = some o) : dX prog w h' a S n := by
 obtain ⟨o, es, ep, t, ho, r⟩ := x
 exact ⟨o, es, ep, t, k o ho, r⟩
theorem qV {h : Heap} {a : Addr} {o : Obj} {es dY : Array (Int × Value)} {ep : Nat} {t t1 : SetTable} {S : Int -> Bool} (ho : h.get? a = some o) (hx : o.ExactSet) (hd : o.data = .set es ep t)
 (h1 : ElemsOf (intKind prog w) dY.toList) (h2 : ∀ k, S k = true ↔ ∃ e ∈ dY.toList, (intKind prog w).is k e.2 = true) (h3 : dY.size < scanBound) (h4 : t1.fits dY.size = true) (h5 : Good t1) (h6 : t1.led = !w.params.followText "set-order") :
 (h.update a (Obj.putSet dY t1)).get? a = some { o with data := .set dY (ep + 1) t1 } /\ dX prog w (h.update a (Obj.putSet dY t1)) a S dY.size := by
 obtain ⟨e, _⟩ := SetOf_store (knd := intKind prog w) ho hx hd h1 h2 h3 h4
 exact ⟨e, _, dY, ep + 1, t1, e, hx, rfl, h1, h2, h3, h4, rfl, h5, h6⟩
theorem uM {g : Bool -> Sem Unit} (hg : ∀ (b : Bool) (s1 : Shared) (R : Unit -> Shared -> Prop), R () s1 -> wpAny (model prog w) A (g b) R E s1) {a : Addr} {o : Obj} {es dY : Array (Int × Value)} {ep : Nat} {t t1 : SetTable} {S : Int -> Bool} {wd : Bool} {R : Option Bool -> Shared -> Prop}
 (ho : s.heap.get? a = some o) (hx : o.ExactSet) (hd : o.data = .set es ep t) (h1 : ElemsOf (intKind prog w) dY.toList) (h2 : ∀ k, S k = true ↔ ∃ e ∈ dY.toList, (intKind prog w).is k e.2 = true) (h3 : dY.size < scanBound) (h4 : t1.fits dY.size = true) (h5 : Good t1) (h6 : t1.led = !w.params.followText "set-order")
 (k : ∀ h', Heap.SameBut a s.heap h' -> dX prog w h' a S dY.size -> R (some true) { s with heap := h' }) :
 wpAny (model prog w) A (do
  storeSet a dY t1
  if (!wd && t1.tooFull) = true then do
      g (relayAll t1 dY (SetTable.grown dY.size)).2.2
      storeSet a (relayAll t1 dY (SetTable.grown dY.size)).1 (relayAll t1 dY (SetTable.grown dY.size)).2.1
      pure (some true)
   else pure (some true)) R E s := by
 obtain ⟨e1, g1⟩ := qV (prog := prog) (w := w) ho hx hd h1 h2 h3 h4 h5 h6
 refine wpAny_bind (wpAny_storeSet_of ho hd ?_ (fits_of_scanBound h3))
 have sb := Heap.SameBut.update s.heap a (Obj.putSet dY t1)
 by_cases c : (!wd && t1.tooFull) = true
 . rw [if_pos c]
   have p1 := relayAll_perm t1 dY (SetTable.grown dY.size)
   have p2 := relayAll_fits t1 dY (SetTable.grown dY.size)
   obtain ⟨p3, p4⟩ := o8 (t := t1) (es := dY) (n := SetTable.grown dY.size)
   have sz : (relayAll t1 dY (SetTable.grown dY.size)).1.size = dY.size := by rw [<- Array.length_toList, p1.length_eq, Array.length_toList]
   have q2 : ∀ k, S k = true ↔ ∃ e ∈ (relayAll t1 dY (SetTable.grown dY.size)).1.toList, (intKind prog w).is k e.2 = true := fun k => by
    rw [h2 k]
    exact ⟨fun ⟨e, m, i⟩ => ⟨e, p1.mem_iff.mpr m, i⟩, fun ⟨e, m, i⟩ => ⟨e, p1.mem_iff.mp m, i⟩⟩
   have JK : (relayAll t1 dY (SetTable.grown dY.size)).1.size < scanBound := by rw [sz]; exact h3
   obtain ⟨_, g2⟩ := qV (prog := prog) (w := w) e1 hx rfl (h1.perm p1) q2 JK p2 p3 (p4.trans h6)
   refine wpAny_bind (hg _ _ _ (wpAny_bind (wpAny_storeSet_of e1 rfl ?_ (fits_of_scanBound JK))))
   rw [sz] at g2
   exact wpAny_pure (k _ (sb.trans (Heap.SameBut.update _ a _)) g2)
 . rw [if_neg c]
   exact wpAny_pure (k _ sb g1)
theorem Df {a : Addr} {S : Int -> Bool} {n : Nat} {k : Int} {x : Value} {Q : Bool -> Shared -> Prop} (hk : (intKind prog w).is k x = true) (hc : x.scannable = true) (hS : dX prog w s.heap a S n) (hr : n + 1 < scanBound)
 (h : ∀ h', Heap.SameBut a s.heap h' -> dX prog w h' a (fun i => S i || decide (i = k)) (if S k then n else n + 1) -> Q (!S k) { s with heap := h' }) : wpAny (model prog w) A (setAddHashed a x ((intKind prog w).hash k)) Q E s := by
 obtain ⟨o, es, ep, t, ho, hx, hd, h1, h2, h3, h4, h5, h6, h7⟩ := hS
 unfold setAddHashed setAddHashedIn
 refine wpAny_holding (wpAny_bind (wpAny_setState_of ho hd h4 ?_))
 dsimp only
 rw [byScan_of hc h3 h1]
 simp only [if_true]
 unfold setAddByScan
 refine wpAny_bind (wpAny_bind (wpAny_rule (wpAny_bind (wpAny_setScan_of hk ho hd h4 h1 ?_))))
 cases hf : List.findIdx? (fun e => (intKind prog w).is k e.2) es.toList with
 | some j =>
   obtain ⟨hj, hp, _⟩ := List.findIdx?_eq_some_iff_getElem.mp hf
   have e : S k = true := (h2 k).mpr ⟨_, List.getElem_mem hj, hp⟩
   rw [e] at h
   dsimp only
   refine wpAny_pure (wpAny_pure ?_)
   have z := h s.heap (Heap.SameBut.refl a s.heap) ⟨o, es, ep, t, ho, hx, hd, h1, fun i => by
    rw [Bool.or_eq_true, decide_eq_true_eq, <- h2 i]
    exact ⟨fun q => q.elim id fun z => z ▸ e, .inl⟩, h3, h4, by simpa using h5, h6, h7⟩
   cases s
   exact z
 | none =>
   have e : S k = false := by
    cases hb : S k with
    | false => rfl
    | true =>
      obtain ⟨y, m, i⟩ := (h2 k).mp hb
      rw [List.findIdx?_eq_none_iff.mp hf y m] at i
      cases i
   rw [e] at h
   dsimp only
   have p1 := layNew_perm t es ((intKind prog w).hash k) x
   have p2 := layNew_fits t es ((intKind prog w).hash k) x
   obtain ⟨p3, p4⟩ := oo (es := es) (h := (intKind prog w).hash k) (x := x) h6
   generalize layNew t es ((intKind prog w).hash k) x = L at p1 p2 p3 p4 ⊢
   obtain ⟨dY, t1, wd, gv⟩ := L
   dsimp only at p1 p2 p3 p4 ⊢
   rw [Array.toList_push] at p1
   have sz : dY.size = n + 1 := by rw [<- Array.length_toList, p1.length_eq, List.length_append, Array.length_toList, h5]; rfl
   have q1 : ElemsOf (intKind prog w) dY.toList := (h1.push hk hc).perm p1
   have q2 := mem_push_iff hk h2 p1
   have q3 : dY.size < scanBound := by rw [sz]; exact hr
   have fin : ∀ h', Heap.SameBut a s.heap h' -> dX prog w h' a (fun i => S i || decide (i = k)) dY.size -> Q true { s with heap := h' } := fun h' sb g => by
    rw [sz] at g
    exact h h' sb g
   refine wpAny_bind (m := match gv with | true => rule "set.scan.the-table-gave-way" | false => pure ()) ?_
   have gw : ∀ (b : Bool) (s1 : Shared) (R : Unit -> Shared -> Prop), R () s1 -> wpAny (model prog w) A (match b with | true => rule "set.scan.the-table-gave-way" | false => pure ()) R E s1 := fun b s1 R hq => by
    cases b
    . exact wpAny_pure hq
    . exact wpAny_rule hq
   refine gw gv _ _ ?_
   by_cases c : t1.plain = true
   . rw [if_pos c, hashByValue_scannable 8 hc]
     refine wpAny_bind (wpAny_pure ?_)
     refine uM gw ho hx hd q1 q2 q3 ?_ ?_ ?_ fun h' sb g => wpAny_pure (fin h' sb g)
     . split
       . exact p2
       . exact SetTable.fits_plain_off p2
     . split
       . exact p3
       . exact oM p3
     . split
       . exact p4.trans h7
       . exact p4.trans h7
   . rw [if_neg c]
     refine wpAny_bind (wpAny_pure ?_)
     simp only [if_true]
     exact uM gw ho hx hd q1 q2 q3 p2 p3 (p4.trans h7) fun h' sb g => wpAny_pure (fin h' sb g)
end
theorem gP {α : Type} : ∀ {xs : List α} {i : Nat} (h : i < xs.length), (xs[i] :: xs.eraseIdx i).Perm xs
 | a :: r, 0, _ => .refl _
 | a :: r, i + 1, h => by
   have h2 : i < r.length := by simpa using h
   show (r[i] :: a :: r.eraseIdx i).Perm (a :: r)
   exact (List.Perm.swap a _ _).trans (List.Perm.cons a (gP h2))
theorem w4 {α : Type} (f : Nat -> Nat) : ∀ (n k : Nat) (left : List α) (out : Array α), left.length <= n -> (pickOrder.go f n k left out).toList.Perm (out.toList ++ left) := by
 intro n
 induction n with
 | zero =>
   intro k left out h
   have : left = [] := List.length_eq_zero_iff.mp (by omega)
   subst this
   simp [pickOrder.go]
 | succ n ih =>
   intro k left out h
   unfold pickOrder.go
   cases left with
   | nil => simp
   | cons a r =>
     have ck : f k % (a :: r).length < (a :: r).length := Nat.mod_lt _ (by simp)
     rw [List.getElem?_eq_getElem ck]
     dsimp only
     refine (ih _ _ _ ?_).trans ?_
     . rw [List.length_eraseIdx, if_pos ck]; simp at h ⊢; omega
     . rw [Array.toList_push, List.append_assoc]
       exact List.Perm.append_left _ (gP ck)
theorem iQ {α : Type} (f : Nat -> Nat) (xs : Array α) : (pickOrder f xs).toList.Perm xs.toList := by
 unfold pickOrder
 simpa using w4 f xs.size 0 xs.toList #[] (by simp)
section
variable {prog : Program} {w : World} {A : Around} {E : Value -> Shared -> Prop} {s : Shared}
theorem wo {src : Source} {n : Nat} {Q : Nat -> Shared -> Prop} (hn : n ≠ 0) (h : ∀ i d, i < n -> Q i { s with drawn := d }) : wpAny (model prog w) A (choose src n) Q E s := fun Γ p _ => by
 show Sem.wp _ _ (.choose src n .pure) _ _ _ _
 rw [Sem.wp_choose]
 exact ⟨hn, h _ _ (Nat.mod_lt _ (Nat.pos_of_ne_zero hn))⟩
theorem tF {α : Type} : ∀ (n : Nat) (xs : List α) {s : Shared} {Q : List α -> Shared -> Prop}, xs.length <= n -> (∀ ys d, ys.Perm xs -> Q ys { s with drawn := d }) -> wpAny (model prog w) A (drawOrder n xs) Q E s := by
 intro n
 induction n with
 | zero =>
   intro xs s Q h k
   have : xs = [] := List.length_eq_zero_iff.mp (by omega)
   subst this
   exact wpAny_pure (k [] s.drawn .nil)
 | succ n ih =>
   intro xs s Q h k
   cases xs with
   | nil => exact wpAny_pure (k [] s.drawn .nil)
   | cons a r =>
     unfold drawOrder
     refine wpAny_bind (wo (by simp) fun i d hi => ?_)
     rw [List.getElem?_eq_getElem hi]
     dsimp only
     refine wpAny_bind (ih _ ?_ fun ys d2 hp => wpAny_pure (k _ _ ?_))
     . rw [List.length_eraseIdx, if_pos hi]; simp at h ⊢; omega
     . exact (List.Perm.cons _ hp).trans (gP hi)
end
set_option maxRecDepth 100000
theorem nH : Manifest.owners.lookup (String.ofList ['r', 'o', 't', 'a', 'r', 'e', 't', 'i', '_', 't', 'e', 's'].reverse) = some Manifest.sig_set_iterator := by kernel_rfl
theorem aK : Slot "set_iterator" "__next__" "set_iterator.__next__" :=
 .of (owner := "set_iterator") (n := "__next__") (by rw [typeLookup_type, builtinLookup_eq_fast]; kernel_rfl) (by decide +kernel) (by decide +kernel) (by decide +kernel) (by first | exact .inl (by decide +kernel) | exact .inr (by decide +kernel)) (by rw [isSubtype_type]; kernel_rfl)
theorem iu : Slot "set_iterator" "__iter__" "set_iterator.__iter__" :=
 .of (owner := "set_iterator") (n := "__iter__") (by rw [typeLookup_type, builtinLookup_eq_fast]; kernel_rfl) (by decide +kernel) (by decide +kernel) (by decide +kernel) (by first | exact .inl (by decide +kernel) | exact .inr (by decide +kernel)) (by rw [isSubtype_type]; kernel_rfl)
theorem cE : entryFor table "set_iterator.__next__" = some Builtin.«set_iterator.__next__» := entryFor_of_tree (by kernel_rfl)
theorem kG : entryFor table "set_iterator.__iter__" = some Builtin.«dict_keyiterator.__iter__» :=
 entryFor_alias (id' := "dict_keyiterator.__iter__") (by kernel_rfl) rfl (by decide +kernel) (by kernel_rfl)
theorem cZ (a : Value) : argsOk "set_iterator.__next__" ⟨[a], []⟩ := by
 unfold argsOk; rw [signature?_of (id := "set_iterator.__next__") (n := ['_', '_', 't', 'x', 'e', 'n', '_', '_']) (o := ['r', 'o', 't', 'a', 'r', 'e', 't', 'i', '_', 't', 'e', 's']) (by kernel_rfl) nH]; kernel_rfl
theorem mK (a : Value) : argsOk "set_iterator.__iter__" ⟨[a], []⟩ := by
 unfold argsOk; rw [signature?_of (id := "set_iterator.__iter__") (n := ['_', '_', 'r', 'e', 't', 'i', '_', '_']) (o := ['r', 'o', 't', 'a', 'r', 'e', 't', 'i', '_', 't', 'e', 's']) (by kernel_rfl) nH]; kernel_rfl
theorem jL : entryFor table "set.__iter__" = some Builtin.«frozenset.__iter__» :=
 entryFor_alias (id' := "frozenset.__iter__") (by kernel_rfl) rfl (by decide +kernel) (by kernel_rfl)
def eX (f : Value) (i : Nat) (a : Addr) (n ep : Nat) : Obj := { cls := .type "set_iterator", data := .fields #[f, rawInt i, .ref a, rawInt n, rawInt ep] }
section
variable {prog : Program} {w : World} {A : Around} {E : Value -> Shared -> Prop} {s : Shared} {it a : Addr} {o : Obj} {es : Array (Int × Value)} {ep : Nat} {t : SetTable}
theorem mh {f : Value} {i n : Nat} {Q : Value -> Shared -> Prop} (h : s.heap.get? it = some (eX f i a n ep)) (q : Q (.ref it) s) : wpAny (model prog w) A (pyIter (.ref it)) Q E s := by
 have hT : s.TypeIs (.ref it) "set_iterator" := ⟨_, h, rfl⟩
 refine wpAny_pyIter_slot hT iu (wpAny_call_entry iu hT kG ?_ (mK _))
 show wpAny _ _ (ret (.ref it)) _ _ s
 exact wpAny_pure ⟨_, rfl, "set_iterator", _, hT, aK.lookup, q⟩
end
section
variable {prog : Program} {w : World} {A : Around} {E : Value -> Shared -> Prop} {s : Shared} {it a : Addr} {o : Obj} {es : Array (Int × Value)} {ep : Nat} {t : SetTable}
theorem jP : isSubtype (.type "StopIteration") (.type "StopIteration") = pure true := by rw [isSubtype_type]; kernel_rfl
theorem qj {z z2 i : Nat} {x : Value} {Q : Option Value -> Shared -> Prop} (hit : s.heap.get? it = some (eX (rawInt z) i a es.size ep)) (ho : s.heap.get? a = some o) (hd : o.data = .set es ep t) (hf : t.fits es.size = true)
 (hn : ∀ (R : Option (Value × Nat) -> Shared -> Prop) (E : Value -> Shared -> Prop), R (some (x, z2)) s -> wpAny (model prog w) A.in1 (setNext a z i ep) R E s)
 (h : ∀ h', h'.get? it = some (eX (rawInt z2) (i + 1) a es.size ep) -> Heap.SameBut it s.heap h' -> Q (some x) { s with heap := h' }) : wpAny (model prog w) A (pyNext (.ref it)) Q E s := by
 have hT : s.TypeIs (.ref it) "set_iterator" := ⟨_, hit, rfl⟩
 unfold pyNext
 refine wpAny_bind (wpAny_attempt (wpAny_callSpecial?_slot (name := Str.ofString "__next__") hT aK (wpAny_call_entry aK hT cE ?_ (cZ _))))
 unfold Builtin.«set_iterator.__next__»
 refine wpAny_bind (wpAny_pure ?_)
 refine wpAny_bind (wpAny_fieldsOf hit rfl ?_)
 refine wpAny_bind (wpAny_setEntries_of ho hd hf ?_)
 rw [if_neg (by simp)]
 refine wpAny_bind (hn _ _ ?_)
 dsimp only
 refine wpAny_bind (wpAny_setField_rec hit (by simp) fun h1 e1 b1 => ?_)
 refine wpAny_bind (wpAny_setField_rec (s := { s with heap := h1 }) e1 (by simp) fun h2 e2 b2 => ?_)
 refine wpAny_pure ⟨_, rfl, wpAny_pure (h h2 ?_ (b1.trans b2))⟩
 rw [e2]
 unfold eX
 have e : ((i + 1 : Nat) : Int) = (i : Int) + 1 := by omega
 rw [e]
 rfl
theorem jX {z i : Nat} {Q : Option Value -> Shared -> Prop} (hh : A.handled = none) (hit : s.heap.get? it = some (eX (rawInt z) i a es.size ep)) (ho : s.heap.get? a = some o) (hd : o.data = .set es ep t) (hf : t.fits es.size = true)
 (hn : ∀ (R : Option (Value × Nat) -> Shared -> Prop) (E : Value -> Shared -> Prop), R none s -> wpAny (model prog w) A.in1 (setNext a z i ep) R E s)
 (h : ∀ h', Heap.ExtBut it s.heap h' -> Q none { s with heap := h' }) : wpAny (model prog w) A (pyNext (.ref it)) Q E s := by
 have hT : s.TypeIs (.ref it) "set_iterator" := ⟨_, hit, rfl⟩
 unfold pyNext
 refine wpAny_bind (wpAny_attempt (wpAny_callSpecial?_slot (name := Str.ofString "__next__") hT aK (wpAny_call_entry aK hT cE ?_ (cZ _))))
 unfold Builtin.«set_iterator.__next__»
 refine wpAny_bind (wpAny_pure ?_)
 refine wpAny_bind (wpAny_fieldsOf hit rfl ?_)
 refine wpAny_bind (wpAny_setEntries_of ho hd hf ?_)
 rw [if_neg (by simp)]
 refine wpAny_bind (hn _ _ ?_)
 dsimp only
 refine wpAny_bind (wpAny_setField_rec hit (by simp) fun h1 e1 b1 => ?_)
 refine wpAny_bind ?_
 simp only [newExc, newTuple]
 refine wpAny_bind (wpAny_newObj_type ?_ (by size_fits))
 refine wpAny_bind (m := firstArgMember _ _) (wpAny_of_eq (a := Value.none) (by first | rfl | (simp only [firstArgMember]; rfl)) ?_)
 refine wpAny_newObj_type ?_ (by size_fits)
 simp only [raiseNew]
 refine wpAny_bind (wpAny_handled ?_)
 rw [show A.in1.handled = none from hh]
 refine wpAny_bind (wpAny_pure (wpAny_throw ?_))
 refine wpAny_bind (wpAny_isInstance (T := "StopIteration") (b := true) ⟨_, Heap.get?_push_size _ rfl, rfl⟩ jP ?_)
 exact wpAny_pure (h _ ((b1.extBut.push _).push _))
theorem uH {p i j : Nat} {ps : List Nat} {x : Int × Value} {Q : Option Value -> Shared -> Prop} (hit : s.heap.get? it = some (eX (.ref p) i a es.size ep)) (hp : s.heap.get? p = some { cls := .type "tuple", data := .seq (ps.map fun (i : Nat) => rawInt i).toArray }) (ho : s.heap.get? a = some o) (hd : o.data = .set es ep t) (hf : t.fits es.size = true)
 (hi : ps[i]? = some j) (hj : es[j]? = some x) (h : ∀ h', h'.get? it = some (eX (.ref p) (i + 1) a es.size ep) -> Heap.SameBut it s.heap h' -> Q (some x.2) { s with heap := h' }) : wpAny (model prog w) A (pyNext (.ref it)) Q E s := by
 have hT : s.TypeIs (.ref it) "set_iterator" := ⟨_, hit, rfl⟩
 unfold pyNext
 refine wpAny_bind (wpAny_attempt (wpAny_callSpecial?_slot (name := Str.ofString "__next__") hT aK (wpAny_call_entry aK hT cE ?_ (cZ _))))
 unfold Builtin.«set_iterator.__next__»
 refine wpAny_bind (wpAny_pure ?_)
 refine wpAny_bind (wpAny_fieldsOf hit rfl ?_)
 refine wpAny_bind (wpAny_setEntries_of ho hd hf ?_)
 rw [if_neg (by simp)]
 refine wpAny_bind (wpAny_bind (wpAny_load hp (wpAny_pure ?_)))
 dsimp only
 have e0 : (ps.map fun (i : Nat) => rawInt i).toArray[(i : Int).toNat]? = some (rawInt j) := by
  rw [Int.toNat_natCast, List.getElem?_toArray, List.getElem?_map, hi]; rfl
 rw [e0]
 refine wpAny_bind ?_
 unfold setNextDrawn
 refine wpAny_bind (wpAny_setState_of ho hd hf ?_)
 dsimp only
 rw [if_neg (by simp), Int.toNat_natCast, hj]
 refine wpAny_pure (wpAny_bind (wpAny_setField_rec hit (by simp) fun h1 e1 b1 => wpAny_pure ⟨_, rfl, wpAny_pure (h h1 ?_ b1)⟩))
 rw [e1]
 unfold eX
 have e : ((i + 1 : Nat) : Int) = (i : Int) + 1 := by omega
 rw [e]
 rfl
theorem nV {p i : Nat} {ps : List Nat} {Q : Option Value -> Shared -> Prop} (hh : A.handled = none) (hit : s.heap.get? it = some (eX (.ref p) i a es.size ep)) (hp : s.heap.get? p = some { cls := .type "tuple", data := .seq (ps.map fun (i : Nat) => rawInt i).toArray }) (ho : s.heap.get? a = some o) (hd : o.data = .set es ep t) (hf : t.fits es.size = true)
 (hi : ps[i]? = none) (h : ∀ h', Heap.ExtBut it s.heap h' -> Q none { s with heap := h' }) : wpAny (model prog w) A (pyNext (.ref it)) Q E s := by
 have hT : s.TypeIs (.ref it) "set_iterator" := ⟨_, hit, rfl⟩
 unfold pyNext
 refine wpAny_bind (wpAny_attempt (wpAny_callSpecial?_slot (name := Str.ofString "__next__") hT aK (wpAny_call_entry aK hT cE ?_ (cZ _))))
 unfold Builtin.«set_iterator.__next__»
 refine wpAny_bind (wpAny_pure ?_)
 refine wpAny_bind (wpAny_fieldsOf hit rfl ?_)
 refine wpAny_bind (wpAny_setEntries_of ho hd hf ?_)
 rw [if_neg (by simp)]
 refine wpAny_bind (wpAny_bind (wpAny_load hp (wpAny_pure ?_)))
 dsimp only
 have e0 : (ps.map fun (i : Nat) => rawInt i).toArray[(i : Int).toNat]? = none := by
  rw [Int.toNat_natCast, List.getElem?_toArray, List.getElem?_map, hi]; rfl
 rw [e0]
 refine wpAny_bind (wpAny_setField_rec hit (by simp) fun h1 e1 b1 => ?_)
 refine wpAny_bind (wpAny_setField_rec (s := { s with heap := h1 }) e1 (by simp) fun h2 e2 b2 => ?_)
 refine wpAny_bind ?_
 simp only [newExc, newTuple]
 refine wpAny_bind (wpAny_newObj_type ?_ (by size_fits))
 refine wpAny_bind (m := firstArgMember _ _) (wpAny_of_eq (a := Value.none) (by first | rfl | (simp only [firstArgMember]; rfl)) ?_)
 refine wpAny_newObj_type ?_ (by size_fits)
 simp only [raiseNew]
 refine wpAny_bind (wpAny_handled ?_)
 rw [show A.in1.handled = none from hh]
 refine wpAny_bind (wpAny_pure (wpAny_throw ?_))
 refine wpAny_bind (wpAny_isInstance (T := "StopIteration") (b := true) ⟨_, Heap.get?_push_size _ rfl, rfl⟩ jP ?_)
 exact wpAny_pure (h _ (((b1.trans b2).extBut.push _).push _))
theorem pZ {A : Around} {z i : Nat} (hb : w.params.followText "set-order" = true) (ho : s.heap.get? a = some o) (hd : o.data = .set es ep t) (hf : t.fits es.size = true) (R : Option (Value × Nat) -> Shared -> Prop) (E : Value -> Shared -> Prop)
 (h : R ((((pickOrder (w.params.setOrder a ep) es).toList.map (·.2))[i]?).map fun x => (x, z)) s) : wpAny (model prog w) A (setNext a z i ep) R E s := by
 unfold setNext
 refine wpAny_bind (wpAny_setState_of ho hd hf ?_)
 unfold setsByText
 refine wpAny_bind (wpAny_bind (wpAny_askSetting (wpAny_pure ?_)))
 dsimp only
 rw [show (model prog w).w.params.followText "set-order" = true from hb, if_pos rfl, if_neg (by simp)]
 refine wpAny_bind ?_
 unfold setWalk setsByText
 refine wpAny_bind (wpAny_setState_of ho hd hf ?_)
 refine wpAny_bind (wpAny_bind (wpAny_askSetting (wpAny_pure ?_)))
 dsimp only
 rw [show (model prog w).w.params.followText "set-order" = true from hb, if_pos rfl]
 refine wpAny_bind (wpAny_askSetting (wpAny_pure (wpAny_pure ?_)))
 dsimp only
 rw [List.getElem?_map, Array.getElem?_toList, Option.map_map] at h
 exact h
theorem kN {A : Around} {z i k : Nat} (hb : w.params.followText "set-order" = false) (ho : s.heap.get? a = some o) (hd : o.data = .set es ep t) (hf : t.fits es.size = true) (vN : (!t.plain && decide (es.size > 1)) = false) (hl : t.led = true) (R : Option (Value × Nat) -> Shared -> Prop) (E : Value -> Shared -> Prop)
 (h : R (match es[SetTable.below t.place z]?, t.place[SetTable.below t.place z]? with | some (_, x), some j => some (x, j + 1) | _, _ => none) s) : wpAny (model prog w) A (setNext a z k ep) R E s := by
 unfold setNext
 refine wpAny_bind (wpAny_setState_of ho hd hf ?_)
 unfold setsByText
 refine wpAny_bind (wpAny_bind (wpAny_askSetting (wpAny_pure ?_)))
 dsimp only
 rw [show (model prog w).w.params.followText "set-order" = false from hb, if_neg (by simp)]
 split
 . rename_i c
   have c2 : (!t.plain && decide (es.size > 1)) = true := c
   rw [vN] at c2
   cases c2
 . refine wpAny_bind ?_
   show wpAny _ _ (if (!t.led && !es.isEmpty) = true then unsupported "set:maker-not-led" else pure ()) _ _ _
   rw [hl, if_neg (by simp)]
   exact wpAny_pure (wpAny_pure h)
theorem oz {t : SetTable} {i : Nat} (g : Good t) (hi : i < t.place.size) : SetTable.below t.place (t.place[i] + 1) = i + 1 := by
 obtain ⟨h0, h1, h2⟩ := below_at (j := t.place[i] + 1) g.up
 by_cases a : SetTable.below t.place (t.place[i] + 1) <= i
 . have := h2 i hi a; omega
 . by_cases b : i + 1 < SetTable.below t.place (t.place[i] + 1)
   . have c : i + 1 < t.place.size := by omega
     have := h1 (i + 1) c b
     have := g.up i (i + 1) hi c (by omega)
     omega
   . omega
theorem pj {t : SetTable} (g : Good t) : SetTable.below t.place 0 = 0 := by
 obtain ⟨h0, h1, h2⟩ := below_at (j := 0) g.up
 by_cases a : 0 < SetTable.below t.place 0
 . have := h1 0 (by omega) a; omega
 . omega
theorem sF (hh : A.handled = none) (hb : w.params.followText "set-order" = true) (hd : o.data = .set es ep t) (hf : t.fits es.size = true) (k8 : a ≠ it) (z : Nat) :
 Walks prog w A it [it, a] [it] es.size (fun i v => ((pickOrder (w.params.setOrder a ep) es).toList.map (·.2))[i]? = some v) (fun i h => h.get? it = some (eX (rawInt z) i a es.size ep) /\ h.get? a = some o) where
 sub := fun b hb => by simp at hb; simp [hb]
 frame := fun i h h' st k => ⟨k it (by simp) _ st.1, k a (by simp) _ st.2⟩
 item := fun i s Q E hi st hQ => by
  have hl : ((pickOrder (w.params.setOrder a ep) es).toList.map (·.2)).length = es.size := by rw [List.length_map, (iQ _ _).length_eq]; simp
  obtain ⟨x, hx⟩ : ∃ x, ((pickOrder (w.params.setOrder a ep) es).toList.map (·.2))[i]? = some x := ⟨_, List.getElem?_eq_getElem (by rw [hl]; exact hi)⟩
  refine qj (z2 := z) st.1 st.2 hd hf (fun R E h => pZ hb st.2 hd hf R E (by rw [hx]; exact h)) fun h' e sb => ?_
  exact hQ x h' s.toks hx ⟨e, (sb.2 a k8).trans st.2⟩ fun b o hb e => sb.extBut b o (by simpa using hb) e
 done := fun s Q E st hQ => by
  have hl : ((pickOrder (w.params.setOrder a ep) es).toList.map (·.2)).length = es.size := by rw [List.length_map, (iQ _ _).length_eq]; simp
  refine jX hh st.1 st.2 hd hf (fun R E h => pZ hb st.2 hd hf R E (by rw [List.getElem?_eq_none (by rw [hl]; exact Nat.le_refl _)]; exact h)) fun h' eb => hQ h' s.toks fun b o hb e => eb b o (by simpa using hb) e
 self := fun i s Q E st q => mh st.1 q
theorem m8 (hh : A.handled = none) (hb : w.params.followText "set-order" = false) (hd : o.data = .set es ep t) (hf : t.fits es.size = true) (hg : Good t) (vN : (!t.plain && decide (es.size > 1)) = false) (hl : t.led = true) (k8 : a ≠ it) :
 Walks prog w A it [it, a] [it] es.size (fun i v => (es.toList.map (·.2))[i]? = some v) (fun i h => (∃ z : Nat, SetTable.below t.place z = i /\ h.get? it = some (eX (rawInt z) i a es.size ep)) /\ h.get? a = some o) where
 sub := fun b hb => by simp at hb; simp [hb]
 frame := fun i h h' st k => let ⟨⟨z, e1, e2⟩, e3⟩ := st; ⟨⟨z, e1, k it (by simp) _ e2⟩, k a (by simp) _ e3⟩
 item := fun i s Q E hi st hQ => by
  obtain ⟨⟨z, e1, e2⟩, e3⟩ := st
  have hp : t.place.size = es.size := by unfold SetTable.fits at hf; simp at hf; exact hf.1
  have sA : i < t.place.size := by rw [hp]; exact hi
  have hx : (es.toList.map (·.2))[i]? = some es[i].2 := by rw [List.getElem?_map, Array.getElem?_toList, Array.getElem?_eq_getElem hi]; rfl
  refine qj (z2 := t.place[i] + 1) (x := es[i].2) e2 e3 hd hf (fun R E h => kN (i := i) hb e3 hd hf vN hl R E (by rw [e1, Array.getElem?_eq_getElem hi, Array.getElem?_eq_getElem sA]; exact h)) fun h' e sb => ?_
  exact hQ _ h' s.toks hx ⟨⟨_, oz hg sA, e⟩, (sb.2 a k8).trans e3⟩ fun b o hb e => sb.extBut b o (by simpa using hb) e
 done := fun s Q E st hQ => by
  obtain ⟨⟨z, e1, e2⟩, e3⟩ := st
  refine jX hh e2 e3 hd hf (fun R E h => kN (i := 0) hb e3 hd hf vN hl R E (by rw [e1, Array.getElem?_eq_none (Nat.le_refl _)]; exact h)) fun h' eb => hQ h' s.toks fun b o hb e => eb b o (by simpa using hb) e
 self := fun i s Q E st q => by
  obtain ⟨⟨z, e1, e2⟩, e3⟩ := st
  exact mh e2 q
theorem pL {p : Addr} {ps : List Nat} (hh : A.handled = none) (hd : o.data = .set es ep t) (hf : t.fits es.size = true) (k8 : a ≠ it) (Mb : p ≠ it) (sW : ps.Perm (List.range es.size)) :
 Walks prog w A it [it, a, p] [it] es.size (fun i v => (ps.map fun j => (es.getD j default).2)[i]? = some v) (fun i h => h.get? it = some (eX (.ref p) i a es.size ep) /\ h.get? a = some o /\ h.get? p = some { cls := .type "tuple", data := .seq (ps.map fun (i : Nat) => rawInt i).toArray }) where
 sub := fun b hb => by simp at hb; simp [hb]
 frame := fun i h h' st k => ⟨k it (by simp) _ st.1, k a (by simp) _ st.2.1, k p (by simp) _ st.2.2⟩
 item := fun i s Q E hi st hQ => by
  have hl : ps.length = es.size := by rw [sW.length_eq, List.length_range]
  have sA : i < ps.length := by rw [hl]; exact hi
  have hj : ps[i] < es.size := List.mem_range.mp (sW.mem_iff.mp (List.getElem_mem sA))
  have hx : (ps.map fun j => (es.getD j default).2)[i]? = some es[ps[i]].2 := by
   rw [List.getElem?_map, List.getElem?_eq_getElem sA]
   simp [Array.getD, hj]
  refine uH st.1 st.2.2 st.2.1 hd hf (List.getElem?_eq_getElem sA) (Array.getElem?_eq_getElem hj) fun h' e sb => ?_
  exact hQ _ h' s.toks hx ⟨e, (sb.2 a k8).trans st.2.1, (sb.2 p Mb).trans st.2.2⟩ fun b o hb e => sb.extBut b o (by simpa using hb) e
 done := fun s Q E st hQ => by
  have hl : ps.length = es.size := by rw [sW.length_eq, List.length_range]
  exact nV hh st.1 st.2.2 st.2.1 hd hf (List.getElem?_eq_none (by rw [hl]; exact Nat.le_refl _)) fun h' eb => hQ h' s.toks fun b o hb e => eb b o (by simpa using hb) e
 self := fun i s Q E st q => mh st.1 q
end
section
variable {prog : Program} {w : World} {A : Around} {E : Value -> Shared -> Prop} {s : Shared} {it a : Addr} {o : Obj} {es : Array (Int × Value)} {ep : Nat} {t : SetTable}
theorem pF {α : Type} [Inhabited α] (es : Array α) : (List.range es.size).map (fun j => es.getD j default) = es.toList := by
 refine List.ext_getElem (by simp) fun i h1 h2 => ?_
 have : i < es.size := by simpa using h1
 simp [Array.getD, this]
theorem vD {Q : Value -> Shared -> Prop} (ho : s.heap.get? a = some o) (hx : o.ExactSet) (hd : o.data = .set es ep t) (hf : t.fits es.size = true) (hg : Good t) (hl : t.led = !w.params.followText "set-order") (hz : es.size < scanBound)
 (h : ∀ (it : Addr) (fp : List Addr) (St : Nat -> Heap -> Prop) (ord : List Value) (h' : Heap) (d : Drawn), (∀ b u, s.heap.get? b = some u -> h'.get? b = some u) -> s.heap.objs.size <= it -> St 0 h' -> (∀ b ∈ fp, b < h'.objs.size) -> (∀ b ∈ fp, b = a \/ s.heap.objs.size <= b) -> it ∈ fp -> ord.Perm (es.toList.map (·.2)) ->
  (∀ A : Around, A.handled = none -> Walks prog w A it fp [it] es.size (fun i v => ord[i]? = some v) St) -> Q (.ref it) { s with heap := h', drawn := d }) : wpAny (model prog w) A (pyIter (.ref a)) Q E s := by
 have hT : s.TypeIs (.ref a) "set" := ⟨o, ho, hx.1⟩
 have rT : a < s.heap.objs.size := Heap.lt_size ho
 refine wpAny_pyIter_slot hT F.slot_set_iter (wpAny_call_entry F.slot_set_iter hT jL ?_ (F.args_set_iter_1 _))
 unfold Builtin.«frozenset.__iter__»
 refine wpAny_bind (wpAny_pure ?_)
 refine wpAny_bind ?_
 unfold Builtin.Frozenset.sizeOf
 refine wpAny_bind (wpAny_setEntries_of ho hd hf (wpAny_pure ?_))
 refine wpAny_bind ?_
 unfold setDrawn setsByText
 refine wpAny_bind (wpAny_setState_of ho hd hf ?_)
 refine wpAny_bind (wpAny_bind (wpAny_askSetting (wpAny_pure (wpAny_pure ?_))))
 dsimp only
 split
 . rename_i c
   have c2 : (!w.params.followText "set-order" && (!t.plain && decide (es.size > 1))) = true := c
   refine wpAny_bind (tF _ _ (by simp) fun ps d sW => ?_)
   have lF : ps.length = es.size := by rw [sW.length_eq, List.length_range]
   refine wpAny_bind (wpAny_newTuple (hsz := by rw [List.length_map, lF]; exact fits_of_scanBound hz) ?_)
   refine wpAny_bind (wpAny_setEpoch_of (o := o) (Heap.get?_push_of_some _ ho) hd hf ?_)
   refine wpAny_bind (wpAny_newObj_type (wpAny_pure ⟨_, rfl, "set_iterator", _, ⟨_, Heap.get?_push_size _ rfl, rfl⟩, aK.lookup, ?_⟩))
   have hsz : ∀ u : Obj, (s.heap.push u).objs.size = s.heap.objs.size + 1 := fun u => Heap.size_push ..
   refine h _ [_, a, s.heap.objs.size] _ (ps.map fun j => (es.getD j default).2) _ d (fun b u e => Heap.get?_push_of_some _ (Heap.get?_push_of_some _ e)) (by rw [hsz]; exact Nat.le_succ _) ⟨Heap.get?_push_size _ rfl, Heap.get?_push_of_some _ (Heap.get?_push_of_some _ ho), Heap.get?_push_of_some _ (Heap.get?_push_size _ rfl)⟩ ?_ ?_ (by simp) ?_ (fun A hh => pL hh hd hf ?_ ?_ sW)
   . intro b hb
     rw [Heap.size_push, hsz]
     have : b = s.heap.objs.size + 1 \/ b = a \/ b = s.heap.objs.size := by simpa using hb
     rcases this with rfl | rfl | rfl
     . exact Nat.lt_succ_self _
     . exact Nat.lt_succ_of_lt (Nat.lt_succ_of_lt rT)
     . exact Nat.lt_succ_of_lt (Nat.lt_succ_self _)
   . intro b hb
     have : b = s.heap.objs.size + 1 \/ b = a \/ b = s.heap.objs.size := by simpa using hb
     rcases this with rfl | rfl | rfl
     . exact .inr (Nat.le_succ _)
     . exact .inl rfl
     . exact .inr (Nat.le_refl _)
   . rw [<- pF es, List.map_map]
     exact sW.map _
   . rw [hsz]; exact Nat.ne_of_lt (Nat.lt_succ_of_lt rT)
   . rw [hsz]; exact Nat.ne_of_lt (Nat.lt_succ_self _)
 . rename_i c
   have c2 : ¬ (!w.params.followText "set-order" && (!t.plain && decide (es.size > 1))) = true := c
   refine wpAny_bind (wpAny_pure ?_)
   refine wpAny_bind (wpAny_setEpoch_of ho hd hf ?_)
   refine wpAny_bind (wpAny_newObj_type (wpAny_pure ⟨_, rfl, "set_iterator", _, ⟨_, Heap.get?_push_size _ rfl, rfl⟩, aK.lookup, ?_⟩))
   have JX : ∀ u : Obj, ∀ b ∈ [s.heap.objs.size, a], b < (s.heap.push u).objs.size := by
    intro u b hb
    rw [Heap.size_push]
    have : b = s.heap.objs.size \/ b = a := by simpa using hb
    rcases this with rfl | rfl
    . exact Nat.lt_succ_self _
    . exact Nat.lt_succ_of_lt rT
   have Jj : ∀ b ∈ [s.heap.objs.size, a], b = a \/ s.heap.objs.size <= b := by
    intro b hb
    have : b = s.heap.objs.size \/ b = a := by simpa using hb
    rcases this with rfl | rfl
    . exact .inr (Nat.le_refl _)
    . exact .inl rfl
   cases hb : w.params.followText "set-order" with
   | true =>
     exact h _ [s.heap.objs.size, a] _ _ _ s.drawn (fun b u e => Heap.get?_push_of_some _ e) (Nat.le_refl _) ⟨Heap.get?_push_size _ rfl, Heap.get?_push_of_some _ ho⟩ (JX _) Jj (by simp) ((iQ _ _).map _) (fun A hh => sF hh hb hd hf (Nat.ne_of_lt rT) 0)
   | false =>
     have vN : (!t.plain && decide (es.size > 1)) = false := by
      cases q : (!t.plain && decide (es.size > 1)) with
      | false => rfl
      | true => exact absurd (by rw [hb, q]; rfl) c2
     exact h _ [s.heap.objs.size, a] _ _ _ s.drawn (fun b u e => Heap.get?_push_of_some _ e) (Nat.le_refl _) ⟨⟨0, pj hg, Heap.get?_push_size _ rfl⟩, Heap.get?_push_of_some _ ho⟩ (JX _) Jj (by simp) (.refl _) (fun A hh => m8 hh hb hd hf hg vN (by rw [hl, hb]; rfl) (Nat.ne_of_lt rT))
end
end L2
namespace L2
open PySem PySem.Spec PyProof.Rows
section
variable {prog : Program} {w : World} {A : Around} {R : Result -> Shared -> Prop} {it y : Addr} {fp wr : List Addr} {G : Array GenState -> Array GenState -> Prop} {n : Nat} {Pv : Nat -> Value -> Prop} {St : Nat -> Shared -> Prop}
theorem dX.congr {h : Heap} {a : Addr} {S S' : Int -> Bool} {n n' : Nat} (x : dX prog w h a S n) (e : ∀ k, S k = S' k) (en : n = n') : dX prog w h a S' n' := by
 have : S = S' := funext e
 subst this; subst en; exact x
theorem wB (W : WalksS prog w A.in1 it fp wr G n Pv St) (hy : y ∉ fp) (f : Nat -> Int) (hf : ∀ i v, Pv i v -> ∃ t, v = .int (f i) t) (hb : n + 1 < scanBound) :
 ∀ (k i : Nat) (s : Shared), n - i = k -> i <= n -> St i s -> dX prog w s.heap y (fun k' => (firstMet f i).any (· == k')) (firstMet f i).length ->
   (∀ s', Moved (y :: wr) G s s' -> dX prog w s'.heap y (fun k' => (firstMet f n).any (· == k')) (firstMet f n).length -> R (.ok (.ret .none)) s') ->
   codeAny (model prog w) A (.builtin "set.update.loop" ⟨[.ref y, .ref it], []⟩) R s := by
 have IW : y ∉ wr := fun z => hy (W.sub _ z)
 intro k
 induction k with
 | zero =>
   intro i s ek li st hS fin
   obtain rfl : i = n := by omega
   refine codeAny_builtin PyProof.Rows.F.entry_set_update_loop ?_
   rw [Around.under_plainId PyProof.Rows.F.plain_set_update_loop _]
   show wpAny _ A.in1 (pyNext (.ref it) >>= _) _ _ s
   refine wpAny_bind (W.done s _ _ st fun s1 m1 => ?_)
   show wpAny _ A.in1 (ret Value.none) _ _ s1
   exact wpAny_pure (fin s1 (m1.mono fun b z => List.mem_cons_of_mem _ z) (hS.at fun o e => m1.heap y _ IW e))
 | succ k ih =>
   intro i s ek li st hS fin
   have DT : i < n := by omega
   refine codeAny_builtin PyProof.Rows.F.entry_set_update_loop ?_
   rw [Around.under_plainId PyProof.Rows.F.plain_set_update_loop _]
   show wpAny _ A.in1 (pyNext (.ref it) >>= _) _ _ s
   refine wpAny_bind (W.item i s _ _ DT st fun v s1 hv Mp m1 => ?_)
   obtain ⟨t, rfl⟩ := hf i v hv
   have L0 := hS.at (h' := s1.heap) fun o e => m1.heap y _ IW e
   show wpAny _ A.in1 (holding [Value.int (f i) t] (setAdd y (.int (f i) t)) >>= _) _ _ s1
   refine wpAny_bind (wpAny_holding ?_)
   unfold setAdd
   refine wpAny_holding (wpAny_bind ((intKind prog w).pyHash (k := f i) (intKind_is _ _ _ _) ?_))
   have hle := firstMet_length_le f i
   refine Df (s := { s1 with toks := s1.toks + 1 }) (intKind_is _ _ _ _) rfl L0 (by omega) fun h2 sb J6 => ?_
   have MD : dX prog w h2 y (fun k' => (firstMet f (i + 1)).any (· == k')) (firstMet f (i + 1)).length := J6.congr (fun k' => by rw [firstMet_succ, step_any]) (by rw [firstMet_succ, step_length])
   refine wpAny_pure ⟨plainId_quiet PyProof.Rows.F.plain_set_update_loop _, ih (i + 1) _ (by omega) DT (W.frame _ s1 _ _ Mp (Nat.le_succ _) fun b z o e => ?_) MD fun s3 m3 La => ?_⟩
   . rw [sb.2 b (fun z' : b = y => hy (z' ▸ z))]; exact e
   . refine fin s3 (Moved.trans W.gtrans ((m1.mono fun b z => List.mem_cons_of_mem _ z).then_heap (Nat.le_succ _) fun b o z e => ?_) m3) La
     rw [sb.2 b (fun z' : b = y => z (z' ▸ List.mem_cons_self))]; exact e
end
section
variable {prog : Program} {w : World} {A : Around} {E : Value -> Shared -> Prop} {s : Shared}
theorem mE (a : Value) {Q : Value -> Shared -> Prop} (h : Q (.ref s.heap.objs.size) { s with heap := s.heap.push { cls := .type "set", dict := none, data := .set #[] 0 (.fresh 0 0 (!w.params.followText "set-order")) } }) :
 codeAny (model prog w) A (.call (.builtin "set.__new__") ⟨[.type "set", a], []⟩) (wants Q E) s := by
 refine codeAny_of_tree ?_
 show wpAny _ A.in1 (do checkBuiltinCall "set.__new__" ⟨[.type "set", a], []⟩; again (.builtin "set.__new__" ⟨[.type "set", a], []⟩)) _ _ s
 refine wpAny_bind (wpAny_of_eq (PySem.F.newCall_set_1 a) (wpAny_pure ⟨plainId_quiet PySem.F.plain_set_new _, codeAny_builtin PySem.F.entry_set_new ?_⟩))
 rw [Around.under_plainId PySem.F.plain_set_new _]
 unfold Builtin.«set.__new__» Builtin.Frozenset.newClass
 have xB := sub_set_self
 obtain ⟨hp, g, d, tk, os⟩ := s
 dsimp only
 wp_walk
 refine wpAny_askSetting (wpAny_pure ?_)
 dsimp only
 simp only [newObj]
 exact wpAny_bind (wpAny_alloc (wpAny_pure (wpAny_pure h)))
theorem xa {h : Heap} {a : Addr} (e : h.get? a = some { cls := .type "set", dict := none, data := .set #[] 0 (.fresh 0 0 (!w.params.followText "set-order")) }) : dX prog w h a (fun _ => false) 0 :=
 ⟨_, #[], 0, _, e, ⟨rfl, rfl, rfl⟩, rfl, fun e he => by simp at he, fun k => by simp, by decide, by rfl, rfl, ⟨fun i j hi => by simp [SetTable.fresh] at hi, rfl⟩, rfl⟩
set_option maxRecDepth 100000 in
set_option maxHeartbeats 3200000 in
theorem kI {l : Addr} {az : Array Value} {ns : List Int} {Q : Value -> Shared -> Prop} (hh : A.handled = none) (hl : s.heap.IsList l az) (hi : IntsAre az.toList ns) (hb : az.size + 1 < scanBound)
 (fin : ∀ (h1 : Heap) (tk : Nat), dX prog w h1 s.heap.objs.size (fun k' => (firstMet (fun i => ns.getD i 0) az.size).any (· == k')) (firstMet (fun i => ns.getD i 0) az.size).length -> (∀ b o, b < s.heap.objs.size -> s.heap.get? b = some o -> h1.get? b = some o) -> Q (.ref s.heap.objs.size) { s with heap := h1, toks := tk }) :
 wpAny (model prog w) A (call (.type "set") [.ref l]) Q E s := by
 obtain ⟨c, tl, Mx⟩ := PySem.F.called_set.mro
 have JI := PySem.F.called_set.made
 have xB := PySem.F.called_set.sub
 refine wpAny_call (codeAny_of_tree ?_)
 show wpAny _ _ (callAny (.type "set") _) _ _ _
 refine wpAny_pure ⟨Code.quiet_builtin _ (by decide +kernel), codeAny_builtin PySem.F.entry_type_call ?_⟩
 rw [Around.under_plain (weight_type_call_type "set" [.ref l] []) rfl]
 have n1 := PySem.F.called_set.notType
 have n2 := PySem.F.called_set.canCreate
 have n3 := PySem.F.typeCall_set_1 (.ref l)
 repeat (any_goals (first | assumption | wp_step))
 let ob : Obj := { cls := .type "set", dict := none, data := .set #[] 0 (.fresh 0 0 (!w.params.followText "set-order")) }
 refine codeAny_mono (mE (.ref l) (E := E) (Q := fun u s1 => u = .ref s.heap.objs.size /\ s1 = { s with heap := s.heap.push ob }) ⟨rfl, rfl⟩) fun r s1 hr => ?_
 cases r with
 | error e => exact hr
 | ok fl =>
   cases fl with
   | ret u =>
     obtain ⟨rfl, rfl⟩ := hr
     have h0 : (s.heap.push ob).get? s.heap.objs.size = some ob := Heap.get?_push_size _ rfl
     have hT : Shared.TypeIs { s with heap := s.heap.push ob } (.ref s.heap.objs.size) "set" := ⟨_, h0, rfl⟩
     have g1 := PySem.F.called_set.init.lookup
     have g2 := PySem.F.called_set.init.bind (.ref s.heap.objs.size)
     repeat (any_goals (first | assumption | wp_step))
     refine codeAny_mono (codeAny_call_builtin (R := wants (fun r s2 => r = .none /\ ∃ h1 tk, s2 = { s with heap := h1, toks := tk } /\ dX prog w h1 s.heap.objs.size (fun k' => (firstMet (fun i => ns.getD i 0) az.size).any (· == k')) (firstMet (fun i => ns.getD i 0) az.size).length /\
      (∀ b o, b < s.heap.objs.size -> s.heap.get? b = some o -> h1.get? b = some o)) E) PySem.F.called_set.init.plain PySem.F.entry_set_init (check_set_init_1 hT ?_)) fun r2 s2 HP => ?_
     . obtain ⟨ol, IC, uI, nl, IG⟩ := hl
       obtain ⟨K6, Eu, IJ, Ag⟩ := ol
       simp only at uI IG
       subst uI; subst IG
       have k1 : (s.heap.push ob).get? l = some { cls := .type "list", dict := Eu, data := .seq az nl, slots := Ag } := Heap.get?_push_of_some _ IC
       have k2 := PySem.F.sub_list_set
       have k3 := PySem.F.sub_list_frozenset
       have k4 : (Value.type "list" == Value.type "dict") = false := by decide
       have E7 : (s.heap.push ob).IsList l az := ⟨_, k1, rfl, nl, rfl⟩
       unfold Builtin.«set.__init__» noKeywords Builtin.Frozenset.updateFrom
       generalize Ke : pyIter = PI
       wp_walk
       subst Ke
       refine wpAny_pyIter_list E7 (wpAny_bind (wpAny_runValue ?_))
       have ll : l < s.heap.objs.size := Heap.lt_size IC
       have sz : (s.heap.push ob).objs.size = s.heap.objs.size + 1 := Heap.size_push ..
       have KU : A.in1.in1.in1.handled = none := by simp [hh]
       have c1 : l ≠ (s.heap.push ob).objs.size := by rw [sz]; exact Nat.ne_of_lt (Nat.lt_succ_of_lt ll)
       have c2 : s.heap.objs.size ∉ [(s.heap.push ob).objs.size, l] := by
        rw [sz]
        intro z
        simp only [List.mem_cons, List.not_mem_nil, or_false] at z
        rcases z with z | z
        . exact absurd z (Nat.ne_of_lt (Nat.lt_succ_self _))
        . exact absurd z.symm (Nat.ne_of_lt ll)
       have c3 : ∀ (i : Nat) (v : Value), az[i]? = some v -> ∃ t, v = .int ((fun i => ns.getD i 0) i) t := fun i v hv => IntsAre.int_at hi i v (by simpa using hv)
       refine wB ((Walks.list KU _ l c1 az).toS) c2 (fun i => ns.getD i 0) c3 hb (az.size - 0) 0 _ (by omega) (Nat.zero_le _) ⟨⟨_, Heap.get?_push_size _ rfl, rfl, rfl⟩, (E7.push _)⟩ ?_ ?_
       . have kg : ((s.heap.push ob).push { cls := .type "list_iterator", data := .fields #[.ref l, .int 0 0] }).get? s.heap.objs.size = some ob := Heap.get?_push_of_some _ h0
         exact (xa kg).congr (fun _ => rfl) rfl
       . intro s3 hm hS
         obtain ⟨h3, g3, d3, LU, ME⟩ := s3
         have eg : g3 = s.gens := hm.gens
         have ed : d3 = s.drawn := hm.drawn
         have eo : ME = s.os := hm.os
         subst eg; subst ed; subst eo
         show wpAny _ _ _ _ _ _
         refine wpAny_pure ?_
         show wpAny _ _ (ret Value.none) _ _ _
         refine wpAny_pure ⟨rfl, h3, LU, rfl, hS, fun b o lb e => ?_⟩
         refine hm.heap b o ?_ (Heap.get?_push_of_some _ (Heap.get?_push_of_some _ e))
         intro z
         simp only [List.mem_cons, List.not_mem_nil, or_false] at z
         rw [sz] at z
         rcases z with z | z
         . exact absurd z (Nat.ne_of_lt lb)
         . exact absurd z (Nat.ne_of_lt (Nat.lt_succ_of_lt lb))
     . cases r2 with
       | error e => exact HP
       | ok f2 =>
         cases f2 with
         | ret r =>
           obtain ⟨rfl, h1, tk, rfl, hS, hk⟩ := HP
           repeat (any_goals (first | assumption | wp_step))
           exact fin _ _ hS hk
         | _ => exact HP.elim
   | _ => exact hr.elim
end
section
variable {prog : Program} {w : World} {A : Around} {E : Value -> Shared -> Prop} {s : Shared} {a : Addr} {S : Int -> Bool} {n : Nat}
theorem sJ {ord : List Value} {acc : Array Value} {n : Nat} (hl : ord.length = n) (h : ItemsOf (fun i v => ord[i]? = some v) acc n) : acc.toList = ord := by
 obtain ⟨h0, h1⟩ := h
 refine List.ext_getElem? fun i => ?_
 rw [Array.getElem?_toList]
 by_cases hi : i < acc.size
 . rw [Array.getElem?_eq_getElem hi]
   exact (h1 i _ (Array.getElem?_eq_getElem hi)).symm
 . rw [Array.getElem?_eq_none (by omega), List.getElem?_eq_none (by omega)]
theorem ng {Q : List Value -> Shared -> Prop} (hh : A.handled = none) (hS : dX prog w s.heap a S n)
 (h : ∀ (h' : Heap) (d : Drawn) (tk : Nat) (vs : List Value), (∀ b u, s.heap.get? b = some u -> h'.get? b = some u) -> (∃ es ep t o, s.heap.get? a = some o /\ o.data = .set es ep t /\ vs.Perm (es.toList.map (·.2))) -> vs.length = n -> s.heap.objs.size < h'.objs.size -> Q vs { s with heap := h', drawn := d, toks := tk }) : wpAny (model prog w) A (collect (.ref a)) Q E s := by
 obtain ⟨o, es, ep, t, ho, hx, hd, h1, h2, h3, h4, h5, h6, h7⟩ := hS
 have rT : a < s.heap.objs.size := Heap.lt_size ho
 unfold collect
 refine wpAny_bind (wpAny_runValue (codeAny_builtin entry_proto_collect' ?_))
 show wpAny _ _ (do again (.builtin "list.__iadd__" ⟨[<- newList [], .ref a], []⟩)) _ _ s
 refine wpAny_bind (wpAny_newList (wpAny_pure ⟨Code.quiet_builtin _ (by decide +kernel), codeAny_builtin entry_list_iadd' ?_⟩))
 show wpAny _ _ (Builtin.List.listExtendWith (.ref s.heap.objs.size) (.ref a) (.ref s.heap.objs.size)) _ _ { s with heap := s.heap.push (seqObj "list" #[] 0) }
 unfold Builtin.List.listExtendWith
 have Gw : (s.heap.push (seqObj "list" #[] 0)).get? a = some o := Heap.get?_push_of_some _ ho
 have KZ : (s.heap.push (seqObj "list" #[] 0)).get? s.heap.objs.size = some (seqObj "list" #[] 0) := Heap.get?_push_size _ rfl
 refine wpAny_bind (wpAny_typeOf (T := "set") ⟨o, Gw, hx.1⟩ ?_)
 have a1 : Builtin.List.listSameRef (.ref s.heap.objs.size) (.ref a) = false := by simp [Builtin.List.listSameRef, Ne.symm (Nat.ne_of_lt rT)]
 have a2 : (Value.type "set" == Value.type "list") = false := by decide
 have a3 : (Value.type "set" == Value.type "tuple") = false := by decide
 simp only [a1, a2, a3, Bool.or_self, Bool.false_eq_true, if_false]
 refine wpAny_bind (vD (s := { s with heap := s.heap.push (seqObj "list" #[] 0) }) Gw hx hd h4 h6 h7 h3 fun it fp St ord sM d kp lit st fl fn GI fX W => ?_)
 refine wpAny_bind (wpAny_holding ?_)
 have FX : Shared.TypeIs { s with heap := sM, drawn := d } (.ref a) "set" := ⟨o, kp a o Gw, hx.1⟩
 unfold Builtin.List.listLengthHint
 refine wpAny_bind (wpAny_specialOf FX F.slot_set_len.lookup ?_)
 generalize Jb : ("set.__len__" : String) = Ml
 wp_delta
 rw [show splitId Ml = some ("set", "__len__") from by subst Jb; decide +kernel]
 subst Jb
 refine wpAny_bind (wpAny_isInstance (T := "set") (b := true) FX (by rw [isSubtype_type]; kernel_rfl) ?_)
 refine wpAny_ite_split (fun CZ => absurd CZ (by decide)) (fun _ => ?_)
 refine wpAny_ite_split (fun _ => ?_) (fun CZ => absurd (by decide +kernel) CZ)
 refine wpAny_bind (wpAny_typeOf FX (wpAny_pure ?_))
 show wpAny _ _ (rule "list.extend.makes-room" >>= fun _ => Builtin.List.listTouch (.ref s.heap.objs.size) >>= fun _ =>
  again (.builtin "list.extend.loop" ⟨[.ref s.heap.objs.size, .ref it, .ref s.heap.objs.size], []⟩)) _ _ _
 refine wpAny_bind (wpAny_rule (wpAny_bind ?_))
 have Fp := kp _ _ KZ
 show wpAny _ _ (updateSeq s.heap.objs.size (·.push .none) >>= fun _ => updateSeq s.heap.objs.size (·.pop)) _ _ _
 refine wpAny_bind (wpAny_updateSeq Fp rfl ?_)
 have Jl := Heap.get?_update_self (Obj.mapSeq (·.push Value.none)) Fp rfl
 refine wpAny_updateSeq (hz := by seq_fits) Jl rfl ?_
 have Ku := Heap.get?_update_self (Obj.mapSeq (·.pop)) Jl rfl
 have ot : ∀ b u, b ≠ s.heap.objs.size -> sM.get? b = some u -> ((sM.update s.heap.objs.size (Obj.mapSeq (·.push Value.none))).update s.heap.objs.size (Obj.mapSeq (·.pop))).get? b = some u :=
  fun b u hb e => (Heap.get?_update_other _ _ (Ne.symm hb)).trans ((Heap.get?_update_other _ _ (Ne.symm hb)).trans e)
 have An : ord.length = es.size := by rw [fX.length_eq, List.length_map, Array.length_toList]
 have W1 := W A.in1 hh
 have HV : s.heap.objs.size ∉ fp := fun z => by
  rcases fn _ z with e | e
  . exact absurd e.symm (Nat.ne_of_lt rT)
  . have : s.heap.objs.size + 1 <= s.heap.objs.size := by rw [<- size_push' s.heap (seqObj "list" #[] 0)]; exact e
    exact absurd this (Nat.not_succ_le_self _)
 have Nw : s.heap.objs.size ≠ it := fun z => HV (z ▸ GI)
 refine wpAny_pure ⟨plainId_quiet F.plain_extend_loop _, codeAny_extend_loopS W1.toS (fits_of_scanBound h3) _ HV _ es.size 0 _ _ _ rfl (Nat.zero_le _) (W1.frame 0 _ _ st fun b hb u e => ot b u (fun z => HV (z ▸ hb)) e) Ku (ItemsOf.nil _) fun s' acc c hm hs gX => ?_⟩
 show wpAny _ _ (load s.heap.objs.size >>= _) _ _ s'
 refine wpAny_bind (wpAny_load hs (wpAny_pure ?_))
 have ea := sJ An gX
 obtain ⟨h9, g9, d9, K2, Kd⟩ := s'
 have eg : g9 = s.gens := hm.gens
 have ed : d9 = d := hm.drawn
 have eo : Kd = s.os := hm.os
 subst eg; subst ed; subst eo
 rw [ea]
 refine h h9 d9 K2 ord (fun b u e => ?_) ⟨es, ep, t, o, ho, hd, fX⟩ (An.trans h5) (Heap.lt_size hs)
 have hb : b ≠ s.heap.objs.size := Nat.ne_of_lt (Heap.lt_size e)
 have Hi : s.heap.objs.size + 1 <= it := by rw [<- size_push' s.heap (seqObj "list" #[] 0)]; exact lit
 have LZ : b ≠ it := Nat.ne_of_lt (Nat.lt_of_lt_of_le (Nat.lt_succ_of_lt (Heap.lt_size e)) Hi)
 exact hm.heap b u (by simp [hb, LZ]) (ot b u hb (kp b u (Heap.get?_push_of_some _ e)))
theorem uV {h : Heap} (hS : dX prog w h a S n) {es : Array (Int × Value)} {ep : Nat} {t : SetTable} {o : Obj} {vs : List Value} (ho : h.get? a = some o) (hd : o.data = .set es ep t) (hp : vs.Perm (es.toList.map (·.2))) :
 ∃ ms, IntsAre vs ms /\ ∀ k, S k = true ↔ k ∈ ms := by
 obtain ⟨o2, NS, Nf, t2, JN, hx, hd2, h1, h2, _⟩ := hS
 rw [ho] at JN
 cases JN
 rw [hd] at hd2
 cases hd2
 have key : ∀ l : List Value, (∀ v ∈ l, ∃ k t, v = Value.int k t) -> ∃ ms, IntsAre l ms /\ ∀ k, k ∈ ms ↔ ∃ v ∈ l, (intKind prog w).is k v = true := by
  intro l
  induction l with
  | nil => intro _; exact ⟨[], .nil, fun k => by simp⟩
  | cons v r ih =>
    intro hv
    obtain ⟨ms, hI, hm⟩ := ih fun u hu => hv u (List.mem_cons_of_mem _ hu)
    obtain ⟨k, tk, rfl⟩ := hv v List.mem_cons_self
    refine ⟨k :: ms, .cons k tk hI, fun j => ?_⟩
    rw [List.mem_cons, hm j]
    constructor
    . rintro (rfl | ⟨u, hu, e⟩)
      . exact ⟨_, List.mem_cons_self, intKind_is _ _ _ _⟩
      . exact ⟨u, List.mem_cons_of_mem _ hu, e⟩
    . rintro ⟨u, hu, e⟩
      rcases List.mem_cons.mp hu with rfl | hu
      . exact .inl ((intKind prog w).inj _ j k e (intKind_is _ _ _ _))
      . exact .inr ⟨u, hu, e⟩
 have hv : ∀ v ∈ vs, ∃ k t, v = Value.int k t := by
  intro v hv
  obtain ⟨e, he, rfl⟩ := List.mem_map.mp (hp.mem_iff.mp hv)
  obtain ⟨⟨k, hk, _⟩, _⟩ := h1 e he
  exact ⟨k, Value.isInt_shape hk⟩
 obtain ⟨ms, hI, hm⟩ := key vs hv
 refine ⟨ms, hI, fun k => ?_⟩
 rw [h2 k, hm k]
 constructor
 . rintro ⟨e, he, q⟩
   exact ⟨e.2, hp.mem_iff.mpr (List.mem_map.mpr ⟨e, he, rfl⟩), q⟩
 . rintro ⟨v, hv, q⟩
   obtain ⟨e, he, rfl⟩ := List.mem_map.mp (hp.mem_iff.mp hv)
   exact ⟨e, he, q⟩
theorem pQ {Q : Value -> Shared -> Prop} (hh : A.handled = none) (hS : dX prog w s.heap a S n) (xI : n < 64)
 (h : ∀ (q : Addr) (h' : Heap) (d : Drawn) (tk e : Nat) (us : List Value) (ns : List Int), s.heap.objs.size <= q -> (∀ b u, s.heap.get? b = some u -> h'.get? b = some u) -> h'.get? q = some { cls := .type "list", data := .seq us.toArray e } -> IntsAre us ns -> ns.length = n -> ns.Pairwise (· <= ·) -> (∀ k, S k = true ↔ k ∈ ns) -> Q (.ref q) { s with heap := h', drawn := d, toks := tk }) :
 wpAny (model prog w) A (call (.builtin "sorted") [.ref a]) Q E s := by
 refine Calls.call_function_entry kind_sorted plain_sorted entry_sorted (args_sorted1 _) ?_
 unfold Builtin.«sorted»
 refine wpAny_bind (m := checkCount "sorted" 1 1 _) (wpAny_pure ?_)
 refine wpAny_bind (ng (A := A.in1) hh hS fun h1 d tk vs kp ⟨es, ep, t, o, ho, hd, hp⟩ hn ck => ?_)
 obtain ⟨ms, hI, hm⟩ := uV hS ho hd hp
 refine wpAny_bind (wpAny_newList ?_ (hsz := by rw [hn, sizeLine_eq]; omega))
 have wc : (h1.push (seqObj "list" vs.toArray 0)).get? h1.objs.size = some (seqObj "list" vs.toArray 0) := Heap.get?_push_size _ rfl
 refine wpAny_bind (wpAny_holding (wpAny_call_entry slot_list_sort ⟨_, wc, rfl⟩ entry_list_sort (list_sort_tree wc hI (by rw [hn]; exact xI) fun out L8 a1 a2 a3 => ⟨_, rfl, ?_⟩) (args_list_sort _)))
 obtain ⟨e, he⟩ := sortedHeap_at (out := out) wc
 have hle : ∀ b u, s.heap.get? b = some u -> b < h1.objs.size := fun b u q => Heap.lt_size (kp b u q)
 refine wpAny_pure ⟨_, rfl, h h1.objs.size _ d tk e out.toList L8 ?_ (fun b u q => ?_) (by simpa [seqObj] using he) a1 ?_ a3 fun k => ?_⟩
 . exact Nat.le_of_lt ck
 . rw [sortedHeap_old (Nat.ne_of_lt (hle b u q)) (by rw [size_push']; exact Nat.lt_succ_of_lt (hle b u q))]
   exact Heap.get?_push_of_some _ (kp b u q)
 . rw [a2.length_eq, <- IntsAre.length hI, hn]
 . rw [hm k, a2.mem_iff]
end
end L2
namespace L2
open PySem PySem.Spec PyProof.Rows PySem.W
theorem kl {α : Type} [BEq α] [LawfulBEq α] : ∀ {xs ys : List α}, xs.Nodup -> (∀ x ∈ xs, x ∈ ys) -> xs.length = ys.length -> ys.Perm xs
 | [], ys, _, _, hl => by
   have : ys = [] := List.length_eq_zero_iff.mp hl.symm
   subst this; exact .nil
 | x :: xs, ys, hn, hs, hl => by
   have hx : x ∈ ys := hs x List.mem_cons_self
   have p1 : ys.Perm (x :: ys.erase x) := List.perm_cons_erase hx
   have Cu := List.nodup_cons.mp hn
   have uS : xs.length = (ys.erase x).length := by have := p1.length_eq; simp at hl this; omega
   refine p1.trans (List.Perm.cons x (kl Cu.2 (fun y hy => ?_) uS))
   have k8 : y ≠ x := fun e => Cu.1 (e ▸ hy)
   exact (List.mem_erase_of_ne k8).mpr (hs y (List.mem_cons_of_mem _ hy))
theorem ya {σ : List Int} {v : Int} (h : σ.Nodup) : (step_dedup σ v).Nodup := by
 unfold step_dedup
 split
 . exact h
 . rename_i c
   rw [List.nodup_append]
   refine ⟨h, by simp, fun a ha b hb => ?_⟩
   have : b = v := by simpa using hb
   subst this
   intro e
   subst e
   exact c (by rw [List.any_eq_true]; exact ⟨a, ha, by simp⟩)
theorem fH (f : Nat -> Int) : ∀ i, (firstMet f i).Nodup
 | 0 => by rw [firstMet_zero]; exact List.nodup_nil
 | i + 1 => by rw [firstMet_succ]; exact ya (fH f i)
theorem map_getD (ns : List Int) : (List.range ns.length).map (fun i => ns.getD i 0) = ns := by
 refine List.ext_getElem (by simp) fun i h1 h2 => ?_
 simp [h2]
theorem sk {ms : List Int} (h : ms.Pairwise (· <= ·)) (n : ms.Nodup) : ms.Pairwise (· < ·) := by
 rw [List.nodup_iff_pairwise_ne] at n
 exact (h.and n).imp fun ⟨a, b⟩ => by omega
theorem Inv.drew {X : Cx} {pins : List (Addr × Obj)} {σ : St} {H : Hp} {s : Shared} (I : Inv X pins σ H s) (d : Drawn) : Inv X pins σ H { s with drawn := d } :=
 I.call (g' := s.gens) (t' := s.toks) (d' := d) (ch := []) (h' := s.heap) Un.refl I.aI I.bare (fun _ z => nomatch z)
section
variable {X : Cx} {e : Expr} {te : TE} {p p2 pos rK : Pos}
def j3 : V -> Hp -> VK -> Prop := fun x H Q => ∃ ns : List Int, Dv H x (.list (ns.map PyData.int)) /\ ns.length < 64 /\ ∀ (q : Addr) (H' : Hp) (ms : List Int), ah H H' -> H q = none -> ms.Pairwise (· < ·) -> (∀ k, k ∈ ms ↔ k ∈ ns) -> bq H' q (ms.map PyData.int) -> Q (.ref q) H'
def nB (te : TE) : TE := fun σ H Q => te σ H fun x H1 => j3 x H1 Q
theorem fh {H : Hp} : ∀ (ns : List Int), aT H (ns.map V.int) (ns.map PyData.int)
 | [] => .nil
 | x :: r => .cons (.int x) (fh r)
theorem j9 (he : PE X e te) (hc : X.calm = true) (hg : Gl X "sorted") (hm : X.mg "sorted" = none) (HK : Gl X "set") (Ky : X.mg "set" = none)
 (h1 : starEach [e] X.env = (false, eval e X.env) :: starEach [] X.env := by rfl)
 (h2 : starEach [.Call (.Name "set" p2) [e] [] rK] X.env = (false, eval (.Call (.Name "set" p2) [e] [] rK) X.env) :: starEach [] X.env := by rfl) :
 PE X (.Call (.Name "sorted" p) [.Call (.Name "set" p2) [e] [] rK] [] pos) (nB te) := by
 intro pins s σ H Q I h
 refine wpAny_Call_Name_kw (eB I hg hm (by rfl) ?_ (by decide) (by decide))
 refine PyProof.Rows.callWith_builtin1 ?_ h2 rfl
 rw [h2]
 show wpAny _ _ (spliced ((false, eval (.Call (.Name "set" p2) [e] [] rK) X.env) :: backTo pos (starEach [] X.env))) _ _ s
 refine Calls.spliced_cons (wpAny_Call_Name_kw (eB I HK Ky (by rfl) ?_ (by decide) (by decide)))
 refine PyProof.Rows.callWith_type1 ?_ h1 rfl
 rw [h1]
 show wpAny _ _ (spliced ((false, eval e X.env) :: backTo rK (starEach [] X.env))) _ _ s
 refine Calls.spliced_cons (bF (he pins s σ H _ I h) fun u s1 ⟨x, H1, I1, r1, q1⟩ => ?_)
 refine Calls.spliced_nil ?_
 obtain ⟨ns, hd, hl, q⟩ := q1
 obtain ⟨a, ys, rfl, e, dv⟩ := hd.lst_inv
 obtain ⟨az, xr, pl, _⟩ := I1.list (e X.K)
 cases r1
 have hS := jx dv xr
 have hlen : az.length = ns.length := by rw [<- xr.length, dv.length, List.length_map]
 refine kI (I1.ok.hd hc) pl.isList (by simpa using hS) (by rw [List.size_toArray, hlen]; unfold scanBound; omega) fun h3 tk Et hk => ?_
 refine Calls.spliced_nil ?_
 have K3 : ∀ b u, s1.heap.get? b = some u -> h3.get? b = some u := fun b ob q => hk b ob (Heap.lt_size q) q
 have hle := firstMet_length_le (fun i => ns.getD i 0) az.toArray.size
 refine pQ (I1.ok.hd hc) Et (by rw [List.size_toArray, hlen] at hle; rw [List.size_toArray, hlen]; omega) fun qa h4 d Jf ep us ms hq kp Ho hI Ey Fv kH => ?_
 have kD : s1.heap.objs.size <= qa := by
  rcases Nat.lt_or_ge qa s1.heap.objs.size with z | z
  . have : s1.heap.objs.size < h3.objs.size := by
     obtain ⟨o, _, _, _, ho, _⟩ := Et
     exact Heap.lt_size ho
    exact absurd (Nat.lt_of_lt_of_le this hq) (Nat.not_lt.mpr (Nat.le_of_lt z))
  . exact z
 have Im : H1 qa = none := I1.aI.fresh kD
 have hm : ∀ k, k ∈ ms ↔ k ∈ ns := fun k => by
  have z := kH k
  rw [firstMet_any, List.size_toArray, hlen, map_getD, List.any_eq_true] at z
  rw [<- z]
  exact ⟨fun ⟨y, hy, e⟩ => by rw [<- beq_iff_eq.mp e]; exact hy, fun hk => ⟨k, hk, by simp⟩⟩
 have zg : ms.Nodup := by
  refine (kl (fH _ _) (fun k hk => ?_) Ey.symm).symm.nodup (fH _ _)
  exact (kH k).mp (by rw [List.any_eq_true]; exact ⟨k, hk, by simp⟩)
 have I2 : Inv X pins σ (upd H1 qa (.lst (ms.map V.int))) { s1 with heap := h4, toks := Jf } := I1.laid (t' := Jf) (fun b u e => kp b u (K3 b u e)) kD ⟨by
  rw [List.length_map]
  have := firstMet_length_le (fun i => ns.getD i 0) az.toArray.size
  rw [Ey, sizeLine_eq]
  rw [List.size_toArray, hlen] at this
  rw [List.size_toArray, hlen]
  omega, us, ep, iO hI, Ho⟩
 exact ⟨.ref qa, _, I2.drew d, rfl, q qa _ ms (aJ Im) Im (sk Fv zg) hm (il Im (fh ms) (bW (fun _ => rfl) _))⟩
end
section
variable {σ : St} {H : Hp} {Q : VK} {v : V}
theorem jz {te : TE} (h : te σ H fun x H1 => j3 x H1 Q) : nB te σ H Q := h
theorem kK {ns : List Int} (hp : Dv H v (.list (ns.map PyData.int))) (hl : ns.length < 64) (h : ∀ (q : Addr) (H' : Hp) (ms : List Int), ah H H' -> H q = none -> ms.Pairwise (· < ·) -> (∀ k, k ∈ ms ↔ k ∈ ns) -> bq H' q (ms.map PyData.int) -> Q (.ref q) H') : j3 v H Q := ⟨ns, hp, hl, h⟩
end
section
variable {X : Cx}
end
section
variable {σ : St} {H : Hp} {Q : VK} {K : PySem.W.Frag} {p : Addr} {m : List (Str × PyData)}
theorem e8.JB : ∀ {ax : List (Key × V)} {m : List (Str × PyData)}, e8 H ax m -> v5 H ax (m.map fun x => (.str x.1, x.2))
 | _, _, .nil => .nil
 | _, _, .cons h _ r => .cons h (e8.JB r)
theorem iX.dv (h : iX H p m) : Dv H (.ref p) (.dict (m.map fun x => (.str x.1, x.2))) := let ⟨_, e, d⟩ := h; .dct e d.JB
end
def Tr (h : Heap) (a T : Addr) (c : Value) : Prop := ∃ oe vs oT ts, h.get? a = some oe /\ oe.cls = c /\ oe.dict = none /\ oe.data = .fields vs /\ vs[1]? = some (.ref T) /\ T ≠ a /\ h.get? T = some oT /\ oT.data = .fields ts /\ ts[3]? = some .none /\ vs[2]? = some .none
structure Lv (l : List Env) (S : List Addr) (h h' : Heap) : Prop where
 keep : ∀ b o, b ∉ nq l -> b ∉ S -> h.get? b = some o -> h'.get? b = some o
 slot : ∀ b o, b ∈ nq l -> h.get? b = some o -> ∃ sl, h'.get? b = some { o with slots := sl }
section
variable {M : Model} {A : Around} {E : Value -> Shared -> Prop} {s : Shared} {env : Env} {outer : List Env} {L a T : Addr} {c : Value} {base : Heap} {Q : Unit -> Shared -> Prop}
end
def MM (P : Program) (w : World) : mV := fun outer H s E e s' => ∃ a T C H', e = .ref a /\ s'.os = s.os /\ AllBare s'.gens /\ Un (nq outer) [] H H' s.heap s'.heap /\ gE P w H' s'.heap /\ Tr s'.heap a T (.ref C) /\ s.heap.get? a = none /\ s.heap.get? T = none /\ H' a = none /\ H' T = none /\ E (.ref C) none H'
section
variable {P : Program} {w : World} {K : PySem.W.Frag} {mg : Str -> Option Value} {base : Heap} {N : List Str} {qual : Str} {scope : Scope} {f : Addr} {cd : Value} {A : Around} {outer : List Env} {s0 : Shared} {H0 : Hp} {E : XK} {CX : mV} {pins : List (Addr × Obj)} {σ : St} {H : Hp} {s : Shared}
end
section
variable {K : PySem.W.Frag} {h : Heap} {C : Addr} {Cj : List Value} {newId : String}
def A2 (h : Heap) (C : Addr) (Cj : List Value) (newId : String) : Prop := ∃ (bm : List Value) (N : Addr) (nm q : Str) (bs : List Value) (hd : Bool) (sn : List Str) (sub : List Value) (ab : Bool) (col : Option Bool) (dd : Option Addr) (k0 k1 k2 k3 k5 : Option Value) (mN : Str -> Option Value),
 h.get? C = some (excClassObj nm q C N bs bm hd sn sub ab col dd k0 k1 k2 k3 k5 newId) /\ h.Ns N mN /\ mN "__init__" = none /\ OwnTail h Cj bm
theorem Bo (X : K.In h) (q : excIn K C Cj newId = true) : A2 h C Cj newId := by
 unfold excIn at q
 split at q
 . rename_i dd cd sl ho
   split at q
   . rename_i C' bm k0 k1 k2 k3 n k5 hm hs
     simp only [Bool.and_eq_true, beq_iff_eq, Bool.not_eq_true'] at q
     obtain ⟨⟨⟨⟨⟨rfl, rfl⟩, Eh⟩, ht⟩, aI⟩, J1⟩ := q
     obtain ⟨nm, bs, mro, ns, qn, hd, sn, sub, ab, col, del⟩ := cd
     dsimp only at hm Eh aI J1
     subst hm Eh
     obtain ⟨l⟩ := sl
     dsimp only at hs
     subst hs
     exact ⟨bm, ns, nm, qn, bs, hd, sn, sub, ab, col, dd, k0, k1, k2, k3, k5, _, X _ _ ho, .of_isNs (isNs_of_in X aI), nsMap_none_of_in X aI J1, tail_of_in X ht⟩
   . cases q
 . cases q
end
abbrev F0 : List Value := [.type "ValueError", .type "Exception", .type "BaseException", .type "object"]
def zI (K : PySem.W.Frag) (C : Addr) : Prop := excIn K C F0 "ValueError.__new__" = true
section
variable {X : Cx} {pins : List (Addr × Obj)} {σ : St} {H : Hp} {s : Shared}
abbrev Cx.hand (X : Cx) (a : Addr) : Cx := { X with A := X.A.mark (some (.ref a)), calm := false, xe := fun _ _ => False }
end
section
variable {M : Model} {A : Around} {E : Value -> Shared -> Prop}
end
structure MN (K : PySem.W.Frag) (C : Addr) : Prop where
 ga : PySem.W.findIn K (.ref C) "__getattribute__" = some (some (.builtin "BaseException.__getattribute__"))
 gn : PySem.W.findIn K (.ref C) "__getattr__" = some none
 mb : PySem.W.mroIn K C (.type "BaseException") = some true
 hd : PySem.W.hasDictIn K C = true
 ty : Dg K C
section
variable {X : Cx}
end
section
variable {P : Program} {w : World} {K : PySem.W.Frag} {mg : Str -> Option Value} {base : Heap}
structure KY (P : Program) (w : World) (K : PySem.W.Frag) (mg : Str -> Option Value) (base : Heap) (k : Nat) (f : Addr) (ps : List Str) (gQ : List V) (sp : Sp) : Prop where
 ex : ∃ (fd : FuncData) (ds : List Value), bG P w K mg base (MM P w) k f fd ps sp /\ Binds K fd ps ds /\ Vals gQ ds
end
section
variable {X : Cx} {k : Nat} {f : Addr} {ps : List Str} {sp : Sp} {gQ : List V} {E : XK} {x : Str} {p pos : Pos} {e : Expr} {es : List Expr} {t : TA}
end
section
variable {σ : St} {H : Hp} {Q : VK} {D : Ends} {K : PySem.W.Frag} {E : XK} {C : Addr} {ta : TA}
end
def bU (z : Str) (lo hi : Option Int) : Str := ⟨((Builtin.Str.strSliceIndices lo hi 1 z.length).filterMap (z.cps[·]?)).toArray⟩
def C3 : V -> Option Int -> Option Int -> Hp -> VK -> Prop := fun x lo hi H Q => ∃ z : Str, x = .str z /\ z.length <= 4000 /\ Q (.str (bU z lo hi)) H
theorem w9 {lo hi : Option Int} {n : Nat} (h : (Builtin.Str.strSliceIndices lo hi 1 n).length = n) : Builtin.Str.strSliceIndices lo hi 1 n = List.range n := by
 have key : ∀ a b : Int, 0 <= a -> b <= n -> (sliceRange a b 1).length = n -> sliceRange a b 1 = List.range n := by
  intro a b ha hb hl
  unfold sliceRange at hl ⊢
  simp only [List.length_map, List.length_range, Int.ediv_one, show (1 : Int) > 0 by decide, if_true] at hl ⊢
  rw [hl]
  by_cases hn : n = 0
  . subst hn; rfl
  . have : a = 0 := by
     split at hl <;> omega
    subst this
    rw [show (fun k : Nat => ((0 : Int) + 1 * (k : Int)).toNat) = id from funext fun k => by simp, List.map_id]
 unfold Builtin.Str.strSliceIndices at h ⊢
 simp only [show (1 : Int) > 0 by decide, if_true] at h ⊢
 refine key _ _ ?_ ?_ h
 . cases lo <;> simp only [] <;> omega
 . cases hi <;> simp only [] <;> omega
theorem j2 : ∀ (l : List Nat), (List.range l.length).filterMap (fun i => l[i]?) = l
 | [] => rfl
 | c :: r => by
   rw [List.length_cons, List.range_succ_eq_map, List.filterMap_cons]
   simp only [List.getElem?_cons_zero, List.filterMap_map]
   have : ((fun i => (c :: r)[i]?) ∘ Nat.succ) = fun i => r[i]? := funext fun i => by simp
   rw [this, j2 r]
theorem qZ {z : Str} {lo hi : Option Int} (h : (Builtin.Str.strSliceIndices lo hi 1 z.length).length = z.length) : bU z lo hi = z := by
 unfold bU
 rw [w9 h]
 obtain ⟨⟨l⟩⟩ := z
 show (⟨((List.range l.length).filterMap fun i => (⟨l⟩ : Array Nat)[i]?).toArray⟩ : Str) = _
 have : (fun i => (⟨l⟩ : Array Nat)[i]?) = fun i => l[i]? := funext fun i => (Array.getElem?_toList (xs := ⟨l⟩)).symm
 rw [this, j2 l]
section
variable {X : Cx}
theorem fS : Hl X C3 := by
 intro pins s σ H x v vl vu lo hi sl Q I rx hs pl pu h
 obtain ⟨z, rfl, hz, q⟩ := h
 obtain ⟨t, rfl⟩ := rx
 obtain ⟨l, rfl, e1⟩ : ∃ l : Option (Int × Tok), vl = partValue l /\ l.map (·.1) = lo := by
  cases pl with
  | none => exact ⟨none, rfl, rfl⟩
  | int i t => exact ⟨some (i, t), rfl, rfl⟩
 obtain ⟨u, rfl, e2⟩ : ∃ u : Option (Int × Tok), vu = partValue u /\ u.map (·.1) = hi := by
  cases pu with
  | none => exact ⟨none, rfl, rfl⟩
  | int i t => exact ⟨some (i, t), rfl, rfl⟩
 refine ⟨"str", _, F.slot_str_getitem.lookup, typeIs_str _ _ _, ?_⟩
 refine wpAny_getItem_str_slice (l := l) (u := u) (st := none) hs rfl ?_
 have ep : slicePicked z l u none = Builtin.Str.strSliceIndices lo hi 1 z.length := by unfold slicePicked; rw [e1, e2]; rfl
 unfold sliceMade
 rw [ep]
 split
 . rename_i c
   rw [Bool.and_eq_true] at c
   have := qZ (z := z) (lo := lo) (hi := hi) (by simpa using c.2)
   rw [this] at q
   exact ⟨.str z, H, I, ⟨t, rfl⟩, q⟩
 . have hn : (List.filterMap (fun i => z.cps[i]?) (Builtin.Str.strSliceIndices lo hi 1 z.length)).length <= z.length := by
    refine Nat.le_trans (List.length_filterMap_le _ _) ?_
    exact qi _ _ _
   have hl : (Str.mk (List.filterMap (fun i => z.cps[i]?) (Builtin.Str.strSliceIndices lo hi 1 z.length)).toArray).length <= z.length := by
    show (List.filterMap (fun i => z.cps[i]?) (Builtin.Str.strSliceIndices lo hi 1 z.length)).toArray.size <= _
    rw [List.size_toArray]; exact hn
   exact ⟨Nat.le_trans hl (Nat.le_of_lt (dH hz)), .str _, H, I.tok _, ⟨_, rfl⟩, q⟩
end
section
variable {σ : St} {H : Hp} {Q : VK} {D : Ends} {K : PySem.W.Frag}
end
section
variable {X : Cx} {k : Nat} {f C : Addr} {ps : List Str} {sp : Sp} {gQ : List V} {E : XK} {x m : Str} {p pos apos : Pos} {e : Expr} {es : List Expr} {t : TA}
end
section
variable {prog : Program} {w : World} {A : Around} {E : Value -> Shared -> Prop} {s : Shared}
end
section
variable {σ : St} {H : Hp} {Q : VK} {D : Ends}
end
section
variable {X : Cx} {pins : List (Addr × Obj)} {σ : St} {H : Hp} {s : Shared} {h' : Heap}
theorem Inv.ye {t' : Nat} {i1 i2 : Addr} (I : Inv X pins σ H s) (k : ∀ b o, b ≠ i1 -> b ≠ i2 -> s.heap.get? b = some o -> h'.get? b = some o) (f1 : cq X pins H i1) (f2 : cq X pins H i2) : Inv X pins σ H { s with heap := h', toks := t' } := by
 have vW : ∀ b u, H b = some u -> b ≠ i1 /\ b ≠ i2 := fun b u e => ⟨fun z => (by rw [z, f1.1] at e; cases e), fun z => (by rw [z, f2.1] at e; cases e)⟩
 have nc : ∀ {b : Addr}, b ∉ [i1, i2] -> b ≠ i1 /\ b ≠ i2 := fun {b} h => by simpa using h
 refine I.step (g' := s.gens) (d' := s.drawn) (ch := [i1, i2]) (fun b hb => ?_) (fun b o _ _ hc e _ => k b o (nc hc).1 (nc hc).2 e) (fun b o _ _ hc e _ => ⟨o.slots, k b o (nc hc).1 (nc hc).2 e⟩) (fun _ _ _ _ n => n)
  (fun b o hc e => ⟨o, k b o (nc hc).1 (nc hc).2 e⟩) (fun _ _ e => e) (fun _ _ _ e => e) (fun b ps e => ⟨#[], by rw [e]; simp⟩) (fun m hm => ?_) (fun b u e => ?_) I.bare
 . have e : b = i1 \/ b = i2 := by simpa using hb
   rcases e with rfl | rfl
   . exact ⟨f1.2.2.2.1, f1.2.1, f1.2.2.2.2.1, f1.2.2.2.2.2⟩
   . exact ⟨f2.2.2.2.1, f2.2.1, f2.2.2.2.2.1, f2.2.2.2.2.2⟩
 . obtain ⟨o, es, ep, ho, r⟩ := hm
   exact ⟨o, es, ep, k _ o (Ne.symm f1.2.1) (Ne.symm f2.2.1) ho, r⟩
 . refine (I.aI b u e).mJ (fun c v hc q => k c v ?_ ?_ q) (fun _ q => q) fun _ _ q => q
   . rcases hc with z | z
     . rw [z]; exact (vW b u e).1
     . exact (vW c _ z).1
   . rcases hc with z | z
     . rw [z]; exact (vW b u e).2
     . exact (vW c _ z).2
end
theorem eY : entryFor table "enumerate.__iter__" = some Builtin.«dict_keyiterator.__iter__» :=
 entryFor_alias (id' := "dict_keyiterator.__iter__") (by kernel_rfl) rfl (by decide +kernel) (by kernel_rfl)
def Bg (K : PySem.W.Frag) (a : Addr) : It := ⟨fun i H => ∃ xs x, bp K H a xs /\ xs[i]? = some x, fun i H v H' => ∃ t x, (∀ xs, bp K H a xs -> xs[i]? = some x) /\ v = .ref t /\ H t = none /\ H' = upd H t (.tup [.int i, x]), fun i H => ∃ xs, bp K H a xs /\ xs.length <= i⟩
theorem rH {P : Program} {w : World} {K : PySem.W.Frag} {elts : List Expr} {x1} {pos : Pos} {e it a : Addr} (k8 : e ≠ it) :
 Turn P w K (.Tuple elts x1 pos) (Bg K a) [e, it] e (fun i h => (∃ old, IsEnum h e it (i : Nat) old) /\ h.IsListIter it a i) where
 mem := by simp
 obj := fun i h st b hb => by
  have e' : b = e \/ b = it := by simpa using hb
  obtain ⟨⟨old, q⟩, o, e1, c, d⟩ := st
  rcases e' with rfl | rfl
  . exact ⟨_, q, fun v z => by cases z⟩
  . exact ⟨o, e1, fun v z => by rw [d] at z; cases z⟩
 keep := fun i h h' st k => ⟨let ⟨old, q⟩ := st.1; ⟨old, k e (by simp) _ q⟩, st.2.at fun o q => k it (by simp) o q⟩
 item := by
  intro X hP hw hK hc i pins s σ H E I hf st hg
  subst hP hw hK
  have fe := hf e (by simp)
  have fi := hf it (by simp)
  obtain ⟨xs, x, hq, hx⟩ := hg
  obtain ⟨az, rv, p, hz⟩ := I.list hq
  obtain ⟨u, hu, ru⟩ := rv.get hx
  obtain ⟨⟨old, he⟩, hit⟩ := st
  have yC : e < s.heap.objs.size := Heap.lt_size he
  have v9 : it < s.heap.objs.size := by obtain ⟨o, ho, _⟩ := id hit; exact Heap.lt_size ho
  have hn : H s.heap.objs.size = none := I.aI.fresh (Nat.le_refl _)
  refine wpAny_pyNext_enum_item he hit p.isList (x := u) (by simpa using hu) k8 fun h' yL HC ht MA kk => ?_
  refine ⟨_, rfl, wpAny_letOwnedTupleGo_enum (s := { s with heap := h', toks := s.toks + 1 }) yL fun h2 Kr sb => ?_⟩
  replace sb : Heap.SameBut e h' h2 := sb
  let tb : Obj := { cls := .type "tuple", data := .seq #[.int i s.toks, u] }
  have I1 : Inv X pins σ (upd H s.heap.objs.size (.tup [.int i, x])) { s with heap := s.heap.push tb } :=
   I.laid (t' := s.toks) (fun b u e => Heap.get?_push_of_some _ e) (Nat.le_refl _) (show bM X.prog X.w _ _ _ (.tup [.int i, x]) from ⟨by rw [sizeLine_eq]; simp, [.int i s.toks, u], .cons ⟨_, rfl⟩ (.cons ru .nil), IsTup.new _ _⟩)
  have Dh : upd H s.heap.objs.size (.tup [.int i, x]) e = none := by rw [aw (Nat.ne_of_lt yC)]; exact fe.1
  have Ew : upd H s.heap.objs.size (.tup [.int i, x]) it = none := by rw [aw (Nat.ne_of_lt v9)]; exact fi.1
  have I2 : Inv X pins σ (upd H s.heap.objs.size (.tup [.int i, x])) { s with heap := h2, toks := s.toks + 1 } := by
   refine Inv.ye (s := { s with heap := s.heap.push tb }) (h' := h2) (t' := s.toks + 1) (i1 := e) (i2 := it) I1 (fun b u' Dq Fi q => ?_) ⟨Dh, fe.2⟩ ⟨Ew, fi.2⟩
   by_cases DV : b = s.heap.objs.size
   . subst DV
     have e0 : (s.heap.push tb).get? s.heap.objs.size = some tb := Heap.get?_push_size _ rfl
     have e1 := e0.symm.trans q
     cases e1
     exact (sb.2 _ Dq).trans ht
   . exact (sb.2 _ Dq).trans (kk b u' Dq Fi (ke q DV))
  refine ⟨.ref s.heap.objs.size, _, I2, rfl, ⟨_, x, fun ys hy => by rw [I.iB hy hq]; exact hx, rfl, hn, rfl⟩, ⟨⟨_, Kr⟩, HC.at fun o q => (sb.2 it (Ne.symm k8)).trans q⟩, fun b hb => ?_⟩
  have e' : b = e \/ b = it := by simpa using hb
  rcases e' with rfl | rfl
  . exact Dh
  . exact Ew
 done := by
  intro X hP hw hK hc i pins s σ H E I hf st hg
  subst hP hw hK
  obtain ⟨f0, f1, f2, f3, f4, f5⟩ := hf it (by simp)
  obtain ⟨xs, hq, hx⟩ := hg
  obtain ⟨az, rv, p, hz⟩ := I.list hq
  have hl := rv.length
  obtain ⟨⟨old, he⟩, hit⟩ := st
  exact wpAny_pyNext_enum_end (I.ok.hd hc) he hit p.isList (by simp; omega) fun h' eb => ⟨rfl, I.turned (t' := s.toks) (fun b o hb e => eb b o hb e) f0 f1 f3 f4 f5⟩
 self := fun A i s Q E st q => by
  obtain ⟨⟨old, he⟩, hit⟩ := st
  have hT : s.TypeIs (.ref e) "enumerate" := ⟨_, he, rfl⟩
  refine wpAny_pyIter_slot hT F.slot_enumerate_iter (wpAny_call_entry F.slot_enumerate_iter hT eY ?_ (F.args_enumerate_iter_1 _))
  show wpAny _ _ (ret (.ref e)) _ _ s
  exact wpAny_pure ⟨_, rfl, "enumerate", _, hT, F.slot_enumerate_next.lookup, q⟩
def uE (K : PySem.W.Frag) (ta : TA) : TI := fun σ H R => ta σ H fun vs H1 => ∃ a, vs = [.ref a] /\ (∃ xs, bp K H1 a xs) /\ R (Bg K a) H1
theorem mC {X : Cx} {elts : List Expr} {x1} {uL : Pos} {a : Expr} {ta : TA} {p pos : Pos} (hg : Gl X "enumerate") (hm : X.mg "enumerate" = none) (ha : PA X [a] ta) (hs : starEach [a] X.env = [(false, eval a X.env)] := by rfl) :
 PI X (.Tuple elts x1 uL) (.Call (.Name "enumerate" p) [a] [] pos) (uE X.K ta) := by
 intro pins s σ H R I h
 refine Call_ (eB I hg hm boot_enumerate (PyProof.Rows.callWith_type1 (bF (ha pos pins s σ H _ I h) fun us s1 ⟨vs, H1, I1, r1, q1⟩ => ?_) hs rfl))
 obtain ⟨l, e, ⟨xs, hq⟩, q⟩ := q1
 subst e
 cases r1 with
 | cons r rr =>
   cases rr
   cases r
   obtain ⟨az, rv, p, hz⟩ := I1.list hq
   refine call_enumerate_list p.isList fun h' he hit hsz hk => ?_
   have hT : (⟨h', s1.gens, s1.drawn, s1.toks, s1.os⟩ : Shared).TypeIs (.ref (s1.heap.objs.size + 1)) "enumerate" := ⟨_, he, rfl⟩
   refine wpAny_pyIter_slot hT F.slot_enumerate_iter (wpAny_call_entry F.slot_enumerate_iter hT eY ?_ (F.args_enumerate_iter_1 _))
   show wpAny _ _ (ret (.ref (s1.heap.objs.size + 1))) _ _ _
   refine wpAny_pure ⟨_, rfl, "enumerate", _, hT, F.slot_enumerate_next.lookup, ?_⟩
   refine ⟨s1.heap.objs.size + 1, [s1.heap.objs.size + 1, s1.heap.objs.size], _, _, H1, rfl, I1.kept (t' := s1.toks) hk, rH (a := l) (Nat.succ_ne_self _), ⟨⟨_, he⟩, hit⟩, fun b hb => ?_, q⟩
   have e : b = s1.heap.objs.size + 1 \/ b = s1.heap.objs.size := by simpa using hb
   rcases e with rfl | rfl
   . exact I1.j7 (Nat.le_succ _) (I1.aI.fresh (Nat.le_succ _))
   . exact I1.j7 (Nat.le_refl _) (I1.aI.fresh (Nat.le_refl _))
theorem qx (num : Nat -> Int) : ∀ k, argBest (fun i j => decide (num i > num j)) k <= k /\ ∀ j, j <= k -> num j <= num (argBest (fun i j => decide (num i > num j)) k)
 | 0 => ⟨Nat.le_refl _, fun j hj => by have : j = 0 := by omega
                                       subst this; exact Int.le_refl _⟩
 | k + 1 => by
   obtain ⟨h1, h2⟩ := qx num k
   unfold argBest
   by_cases h : num (k + 1) > num (argBest (fun i j => decide (num i > num j)) k)
   . rw [if_pos (decide_eq_true h)]
     refine ⟨Nat.le_refl _, fun j hj => ?_⟩
     by_cases hk : j = k + 1
     . subst hk; exact Int.le_refl _
     . exact Int.le_trans (h2 j (by omega)) (Int.le_of_lt h)
   . rw [if_neg (by simpa using h)]
     refine ⟨by omega, fun j hj => ?_⟩
     by_cases hk : j = k + 1
     . subst hk; omega
     . exact h2 j (by omega)
section
variable {X : Cx}
def zb : List V -> Hp -> VK -> Prop := fun xs H Q => ∃ (v : V) (ns : List Int), xs = [v] /\ Dv H v (.list (ns.map PyData.int)) /\ 0 < ns.length /\ ∀ m ∈ ns, (∀ k ∈ ns, k <= m) -> Q (.int m) H
theorem rE (hc : X.calm = true) : dh X (.builtin "max") zb := by
 intro pins s σ H xs us Q I r h
 obtain ⟨v, ns, rfl, hd, mL, q⟩ := h
 obtain ⟨u, rfl, ru⟩ := vals1 r
 obtain ⟨p, ys, rfl, e, dv⟩ := hd.lst_inv
 obtain ⟨az, xr, pl, _⟩ := I.list (e X.K)
 cases ru
 have hI := jx dv xr
 have hn : az.toArray.size = ns.length := by rw [List.size_toArray, hI.length]
 have ck : p < s.heap.objs.size := by obtain ⟨o, n, e1, _⟩ := pl; exact Heap.lt_size e1
 have hA : X.A.in1.handled = none := I.ok.hd hc
 refine call_max_walk (wpAny_pyIter_list pl.isList ?_)
 refine ⟨s.heap.objs.size, _, _, _, _, _, fun i j => decide (ns.getD i 0 > ns.getD j 0), rfl, Walks.list hA _ p (Nat.ne_of_lt ck) az.toArray, ⟨⟨_, Heap.get?_push_size _ rfl, rfl, rfl⟩, pl.isList.at fun o e => Heap.get?_push_of_some _ e⟩, ?_, by omega, CmpOf.ints_gt (fun i => ns.getD i 0) ?_, ?_⟩
 . intro b hb
   rw [Heap.size_push]
   have : b = s.heap.objs.size \/ b = p := by simpa using hb
   rcases this with rfl | rfl
   . exact Nat.lt_succ_self _
   . exact Nat.lt_succ_of_lt ck
 . intro i v hv
   exact hI.int_at i v (by simpa using hv)
 . intro v h' tk hP hk
   have b := qx (fun i => ns.getD i 0) (az.toArray.size - 1)
   generalize argBest (fun i j => decide (ns.getD i 0 > ns.getD j 0)) (az.toArray.size - 1) = ix at b hP
   obtain ⟨b1, b2⟩ := b
   obtain ⟨t, rfl⟩ := hI.int_at ix v (by simpa using hP)
   have I1 := I.kept (t' := s.toks) (h' := s.heap.push { cls := Value.type "list_iterator", data := Data.fields #[Value.ref p, Value.int 0 0] }) fun b o e => Heap.get?_push_of_some _ e
   have fp := I.j7 (H' := H) (Nat.le_refl _) (I.aI.fresh (Nat.le_refl _))
   have I2 := I1.turned (t' := tk) (h' := h') (it := s.heap.objs.size) (fun b o hb e => hk b o (by simpa using hb) e) fp.1 fp.2.1 fp.2.2.2.1 fp.2.2.2.2.1 fp.2.2.2.2.2
   have hb : ix < ns.length := by omega
   refine ⟨.int _, H, I2, ⟨t, rfl⟩, q _ ?_ ?_⟩
   . rw [List.getD_eq_getElem?_getD, List.getElem?_eq_getElem hb]; exact List.getElem_mem hb
   . intro k hk
     obtain ⟨j, hj, rfl⟩ := List.getElem_of_mem hk
     have := b2 j (by omega)
     rwa [List.getD_eq_getElem?_getD (i := j), List.getElem?_eq_getElem hj] at this
def tY : V -> Hp -> VK -> Prop := fun x H Q => ∃ (p : Addr) (m : List (Str × PyData)) (ns : List Int), x = .ref p /\ iX H p m /\ m.map (·.2) = ns.map PyData.int /\ Q (.int ns.sum) H
def y6 (te : TE) : TE := fun σ H Q => te σ H fun x H1 => tY x H1 Q
theorem p6 {e : Expr} {te : TE} {p pos apos c4 : Pos} (he : PE X e te) (hc : X.calm = true) (hg : Gl X "sum") (hm : X.mg "sum" = none)
 (vM : attributeBase e "values" X.env (eval e X.env) = eval e X.env := by rfl) (hline : (apos.endLine == c4.line) = true := by rfl)
 (h2 : starEach [.Call (.Attribute e "values" apos) [] [] c4] X.env = (false, eval (.Call (.Attribute e "values" apos) [] [] c4) X.env) :: starEach [] X.env := by rfl) :
 PE X (.Call (.Name "sum" p) [.Call (.Attribute e "values" apos) [] [] c4] [] pos) (y6 te) := by
 intro pins s σ H Q I h
 refine wpAny_Call_Name_kw (eB I hg hm boot_sum ?_ (by decide) (by decide))
 refine PyProof.Rows.callWith_builtin1 ?_ h2 rfl
 rw [h2]
 show wpAny _ _ (spliced ((false, eval (.Call (.Attribute e "values" apos) [] [] c4) X.env) :: backTo pos (starEach [] X.env))) _ _ s
 refine Calls.spliced_cons (wpAny_Call_method0_late vM hline (bF (he pins s σ H _ I h) fun v s1 ⟨y, H1, I1, r1, q1⟩ => ?_))
 obtain ⟨d, m, ns, rfl, ⟨ax, hd, dk⟩, FR, q⟩ := q1
 obtain ⟨h1, h2⟩ := vo I1 (T := "dict") r1 (.inr (.inr (.inl ⟨rfl, .inl ⟨ax, hd⟩⟩)))
 cases r1
 refine ⟨"dict", "dict.values", PySem.F.plainAttrs_dict, PySem.F.slot_dict_values, PySem.F.type_dict_values, h1, h2, Calls.callWith_builtin rfl (PySem.evalArgs_none ?_)⟩
 obtain ⟨_, hs, vs, kv, o, es, ep, ho, a2, a3, a4⟩ := (show bM X.prog X.w H1 s1.heap d (.dK ax) from I1.aI d _ hd)
 have da : s1.heap.DictAt (bh X.prog X.w) d vs ep := ⟨o, es, ho, a2, a3, a4⟩
 have ck : d < s1.heap.objs.size := Heap.lt_size ho
 have hlen : vs.length = ax.length := kv.length.symm
 refine call_meetsIn PySem.F.slot_dict_values da.dictOf.typeIs PySem.F.entry_dict_values (PySem.F.args_dict_values_1 _) (meets_dict_values (bh X.prog X.w) d hs) ⟨⟨vs, da.dictOf⟩, ?_⟩
 refine Calls.spliced_nil ?_
 have hsz : (s1.heap.push { cls := .type "dict_values", data := .fields #[.ref d] }).objs.size = s1.heap.objs.size + 1 := Heap.size_push ..
 have hA : X.A.in1.handled = none := I1.ok.hd hc
 have HN : ns.length = ax.length := by
  have := congrArg List.length FR
  rw [List.length_map, List.length_map] at this
  rw [<- this]; exact dk.length.symm
 refine call_sum_walkAnyB (wpAny_pyIter_values (v := s1.heap.objs.size) ⟨_, Heap.get?_push_size _ rfl, rfl, rfl⟩ (da.push _) ?_)
 refine ⟨_, _, _, _, _, _, _, fun i => ns.getD i 0, rfl, (Walks.dictValues (knd := bh X.prog X.w) hA _ d (Nat.ne_of_lt (by rw [hsz]; exact Nat.lt_succ_of_lt ck)) vs ep).toS, ⟨⟨_, Heap.get?_push_size _ rfl, rfl, rfl⟩, (da.push _).push _⟩, ?_, ?_, ?_⟩
 . intro b hb
   rw [Heap.size_push]
   have : b = (s1.heap.push { cls := .type "dict_values", data := .fields #[.ref d] }).objs.size \/ b = d := by simpa using hb
   rcases this with rfl | rfl
   . exact Nat.lt_succ_self _
   . rw [hsz]; exact Nat.lt_succ_of_lt (Nat.lt_succ_of_lt ck)
 . rintro i v ⟨k, hv⟩
   have hi : i < ax.length := by rw [<- hlen]; exact (List.getElem?_eq_some_iff.mp hv).1
   obtain ⟨y, hy, Fp⟩ := jJ kv (List.getElem?_eq_getElem hi)
   rw [hv] at hy
   cases hy
   obtain ⟨k', dd, LV, NQ, MB⟩ := dk.D8 (List.getElem?_eq_getElem hi)
   have DT : i < ns.length := by omega
   have LA : dd = .int (ns.getD i 0) := by
    have e1 : (m.map (·.2))[i]? = some dd := by rw [List.getElem?_map, LV]; rfl
    rw [FR, List.getElem?_map, List.getElem?_eq_getElem DT] at e1
    rw [List.getD_eq_getElem?_getD, List.getElem?_eq_getElem DT]
    exact (Option.some.inj e1).symm
   subst LA
   have hq := MB.int_inv
   have r2 := Fp.2
   rw [hq] at r2
   obtain ⟨t, ht⟩ := r2
   exact .inl ⟨t, ht⟩
 . intro s' t' FC
   rw [hlen, <- HN, fJ]
   obtain ⟨h', g', d', F3, Eb⟩ := s'
   have eg : g' = s1.gens := FC.gens
   have ed : d' = s1.drawn := FC.drawn
   have eo : Eb = s1.os := FC.os
   subst eg; subst ed; subst eo
   have I2 : Inv X pins σ H1 { s1 with heap := s1.heap.push { cls := .type "dict_values", data := .fields #[.ref d] } } := I1.kept (t' := s1.toks) fun b o e => Heap.get?_push_of_some _ e
   have fp := I2.j7 (H' := H1) (Nat.le_refl _) (I2.aI.fresh (Nat.le_refl _))
   have I3 := I2.turned (t' := F3) (h' := h') (it := (s1.heap.push { cls := .type "dict_values", data := .fields #[.ref d] }).objs.size) (fun b o hb e => FC.heap b o (by simpa using hb) (Heap.get?_push_of_some _ e)) fp.1 fp.2.1 fp.2.2.2.1 fp.2.2.2.2.1 fp.2.2.2.2.2
   exact ⟨.int ns.sum, H1, I3, ⟨t', rfl⟩, q⟩
end
section
variable {σ : St} {H : Hp} {Q : VK}
theorem Bq {v : V} {ns : List Int} (hp : Dv H v (.list (ns.map PyData.int))) (hl : 0 < ns.length) (h : ∀ m ∈ ns, (∀ k ∈ ns, k <= m) -> Q (.int m) H) : zb [v] H Q := ⟨v, ns, rfl, hp, hl, h⟩
theorem x6 {te : TE} (h : te σ H fun x H1 => tY x H1 Q) : y6 te σ H Q := h
theorem uJ {p : Addr} {m : List (Str × PyData)} {ns : List Int} (hp : iX H p m) (hm : m.map (·.2) = ns.map PyData.int) (h : Q (.int ns.sum) H) : tY (.ref p) H Q := ⟨p, m, ns, rfl, hp, hm, h⟩
end
section
variable {σ : St} {H : Hp} {Q : VK} {K : PySem.W.Frag} {v : V}
theorem Br {k : Nat} {ta : TA} {g : TG} {tc : TT} {te : TE} (h : ta σ H fun vs H1 => ∃ a, vs = [.ref a] /\ (∃ xs, bp K H1 a xs) /\ Ct k g tc te (nh Q) σ (Bg K a) H1) : Di k (uE K ta) g tc te σ H Q := h
theorem DY {k : Nat} {g : TG} {tc : TT} {te : TE} {α : Type} {cs : List α} {gd : α -> PyData} (pf : α × Nat -> Bool) (fd : α × Nat -> PyData) (hl : Dv H v (.list (cs.map gd))) (hlen : cs.length <= 4000) (hi : ∀ c, jm (fd c) = true)
 (turn : ∀ x c H' (N : Option V -> Hp -> Prop), c ∈ cs.zipIdx -> ah H H' -> Dv H' x (.tuple [.int c.2, gd c.1]) -> (pf c = true -> ∀ y H4, ah H' H4 -> Dv H4 y (fd c) -> N (some y) H4) -> (pf c = false -> ∀ H3, ah H' H3 -> N none H3) ->
  g x (List.replicate k none ++ σ) H' fun σ2 H2 => tc σ2 H2 fun b H3 => Fn te N σ2 b H3)
 (kk : ∀ q H', ah H H' -> H q = none -> bq H' q ((cs.zipIdx.filter pf).map fd) -> Q (.ref q) H') : ∃ a, [v] = [.ref a] /\ (∃ xs, bp K H a xs) /\ Ct k g tc te (nh Q) σ (Bg K a) H := by
 obtain ⟨p, xs, rfl, e, dv⟩ := hl.lst_inv
 have zr : bp K H p xs := e K
 have A4 : xs.length = cs.length := by rw [dv.length, List.length_map]
 have Ks : cs.zipIdx.length = cs.length := List.length_zipIdx
 refine ⟨p, rfl, ⟨xs, zr⟩, fun i m acc H' => i <= cs.length /\ m = cs.length - i /\ ah H H' /\ aT H' acc (((cs.zipIdx.take i).filter pf).map fd), ⟨cs.length, Nat.zero_le _, rfl, ah.refl _, by simpa using aT.nil⟩, ?_⟩
 rintro i m acc H' ⟨Ab, hm, sm, gX⟩
 have rO : bp K H' p xs := ah.seq sm zr
 have rT : acc.length <= cs.length := by
  rw [gX.length, List.length_map]
  exact Nat.le_trans (List.length_filter_le _ _) (by rw [List.length_take]; omega)
 by_cases hc : i = cs.length
 . left
   refine ⟨⟨xs, rO, by omega⟩, fun q hq => ?_⟩
   rw [hc, <- Ks, List.take_length] at gX
   have cm : ah H (upd H' q (.lst acc)) := sm.trans (aJ hq)
   exact kk q _ cm (sm.none hq) ⟨acc, aA, gX.keeps (aJ hq), bW hi _⟩
 . right
   have ck : i < cs.length := by omega
   have D9 : i < xs.length := by omega
   refine ⟨⟨xs, xs[i], rO, List.getElem?_eq_getElem D9⟩, dH (by omega), fun x H2 hy => ?_⟩
   obtain ⟨t, x', hy, rfl, ht, rfl⟩ := hy
   have hx := hy xs rO
   have yU : cs[i]? = some cs[i] := List.getElem?_eq_getElem ck
   obtain ⟨x2, Ea, hd⟩ := dv.get (i := i) (d := gd cs[i]) (by rw [List.getElem?_map, yU]; rfl)
   rw [hx] at Ea
   cases Ea
   have IB : cs.zipIdx[i]? = some (cs[i], i) := by rw [List.getElem?_zipIdx, yU]; simp
   have sO : cs.zipIdx.take (i + 1) = cs.zipIdx.take i ++ [(cs[i], i)] := by rw [List.take_add_one, IB]; rfl
   have Ga : ah H' (upd H' t (.tup [.int i, x'])) := aJ ht
   have cm := sm.trans Ga
   exact turn (.ref t) (cs[i], i) _ (fun o H4 => match o with | some y => ∃ m', m' < m /\ i + 1 <= cs.length /\ m' = cs.length - (i + 1) /\ ah H H4 /\ aT H4 (acc ++ [y]) (((cs.zipIdx.take (i + 1)).filter pf).map fd) | none => ∃ m', m' < m /\ i + 1 <= cs.length /\ m' = cs.length - (i + 1) /\ ah H H4 /\ aT H4 acc (((cs.zipIdx.take (i + 1)).filter pf).map fd))
    (List.mem_of_getElem? IB) cm (.tup aA (.cons (.int _) (.cons (hd.keeps cm) .nil)))
    (fun hp y H4 s4 d4 => ⟨cs.length - (i + 1), by omega, ck, rfl, cm.trans s4, by
     rw [sO, List.filter_append, List.map_append]
     simp only [List.filter_cons, hp, if_true, List.filter_nil, List.map_cons, List.map_nil]
     exact aT.append (gX.keeps (Ga.trans s4)) (.cons d4 .nil)⟩)
    (fun hp H3 s3 => ⟨cs.length - (i + 1), by omega, ck, rfl, cm.trans s3, by
     rw [sO, List.filter_append, List.map_append]
     simp only [List.filter_cons, hp, Bool.false_eq_true, if_false, List.filter_nil, List.map_nil, List.append_nil]
     exact gX.keeps (Ga.trans s3)⟩)
end
end L2
namespace L2
open PySem
theorem dc {z : Str} {lo hi : Option Int} : ∀ c ∈ (bU z lo hi).cps.toList, c ∈ z.cps.toList := by
 intro c hc
 unfold bU at hc
 have hc : c ∈ (Builtin.Str.strSliceIndices lo hi 1 z.length).filterMap (z.cps[·]?) := by simpa using hc
 obtain ⟨i, _, hi⟩ := List.mem_filterMap.mp hc
 have := Array.mem_of_getElem? hi
 simpa using this
theorem cw (z : Str) (lo hi : Option Int) : (bU z lo hi).length <= z.length := by
 show ((Builtin.Str.strSliceIndices lo hi 1 z.length).filterMap (z.cps[·]?)).toArray.size <= _
 rw [List.size_toArray]
 exact Nat.le_trans (List.length_filterMap_le _ _) (qi _ _ _)
section
variable {H : Hp} {Q : VK} {K : PySem.W.Frag}
theorem zW {z : Str} {lo hi : Option Int} (hl : z.length <= 4000) (h : (bU z lo hi).length <= z.length -> Q (.str (bU z lo hi)) H) : C3 (.str z) lo hi H Q := ⟨z, rfl, hl, h (cw z lo hi)⟩
theorem AX {z : Str} {i : Int} (hz : z.length <= 4000) (h0 : 0 <= i) (h1 : i < z.length) (h : ∀ c, z.cps.toList[i.toNat]? = some c -> Q (.str ⟨#[c]⟩) H) : kA K (.str z) (.int i) H Q := by
 obtain ⟨m, rfl⟩ := Int.eq_ofNat_of_zero_le h0
 have hi : m < z.cps.toList.length := by
  have : z.length = z.cps.toList.length := by show z.cps.size = _; simp
  omega
 exact B8 (Nat.le_of_lt (dH hz)) (fR (List.getElem?_eq_getElem hi)) (h _ (List.getElem?_eq_getElem hi))
end
end L2
namespace L2
open PySem PySem.Spec PyProof.Rows PySem.W
section
variable {X : Cx}
end
section
variable {σ : St} {H : Hp} {Q : VK}
end
section
variable {X : Cx} {pins : List (Addr × Obj)} {σ : St} {H : Hp} {s : Shared}
end
section
variable {σ : St} {H : Hp} {Q : VK}
end
section
variable {σ : St} {H : Hp} {Q : VK} {K : PySem.W.Frag} {p : Addr} {m : List (Str × PyData)} {k : Str}
end
def Iq (h : Heap) (a T : Addr) (c : Value) (od : Option Addr) : Prop := ∃ oe vs oT ts, h.get? a = some oe /\ oe.cls = c /\ oe.dict = od /\ oe.data = .fields vs /\ vs[1]? = some (.ref T) /\ T ≠ a /\ h.get? T = some oT /\ oT.data = .fields ts /\ ts[3]? = some .none /\ vs[2]? = some .none
section
variable {M : Model} {A : Around} {E : Value -> Shared -> Prop} {s : Shared} {env : Env} {outer : List Env} {L a T : Addr} {c : Value} {od : Option Addr} {base : Heap} {Q : Unit -> Shared -> Prop}
end
def MX (P : Program) (w : World) : mV := fun outer H s E e s' => ∃ a T C od H', e = .ref a /\ s'.os = s.os /\ AllBare s'.gens /\ Un (nq outer) [] H H' s.heap s'.heap /\ gE P w H' s'.heap /\ Iq s'.heap a T (.ref C) od /\ s.heap.get? a = none /\ s.heap.get? T = none /\ H' a = none /\ H' T = none /\ E (.ref C) od H'
section
variable {P : Program} {w : World} {K : PySem.W.Frag} {mg : Str -> Option Value} {base : Heap} {N : List Str} {qual : Str} {scope : Scope} {f : Addr} {cd : Value} {A : Around} {outer : List Env} {s0 : Shared} {H0 : Hp} {E : XK} {CX : mV} {pins : List (Addr × Obj)} {σ : St} {H : Hp} {s : Shared}
end
structure LX (P : Program) (w : World) (K : PySem.W.Frag) (mg : Str -> Option Value) (base : Heap) (k : Nat) (f : Addr) (ps : List Str) (gQ : List V) (sp : Sp) : Prop where
 ex : ∃ (fd : FuncData) (ds : List Value), bG P w K mg base (MX P w) k f fd ps sp /\ Binds K fd ps ds /\ Vals gQ ds
section
variable {X : Cx} {CX : mV} {k : Nat} {f C : Addr} {fd : FuncData} {ps : List Str} {sp : Sp} {gQ : List V} {ds : List Value} {E : St -> XK} {x m : Str} {p pos apos : Pos} {e o : Expr} {es : List Expr} {ta : TE} {t : TA}
end
section
variable {P : Program} {w : World} {K : PySem.W.Frag} {mg : Str -> Option Value} {base : Heap}
end
section
variable {prog : Program} {w : World} {A : Around} {E : Value -> Shared -> Prop} {s : Shared} {K : PySem.W.Frag} {x C : Addr} {ox : Obj} {name : Str} {v : Value} {cd : ClassData}
open Builtin.ObjectAttr in
open Builtin.ObjectAttr in
end
structure NR (K : PySem.W.Frag) (C W fI : Addr) : Prop where
 cls : ∃ (nm q : Str) (N : Addr) (bs : List Value) (sn : List Str) (sub : List Value) (ab : Bool) (col : Option Bool) (dd : Option Addr) (k0 k1 k2 k3 k5 : Option Value), K.lookup C = some (excClassObj nm q C N bs (.ref W :: F0) true sn sub ab col dd k0 k1 k2 k3 k5 "ValueError.__new__")
 up : zI K W
 init : PySem.W.findIn K (.ref C) "__init__" = some (some (.ref fI))
 fn : PySem.W.isFn K (.ref fI) = true
 te : MN K C
 sa : PySem.W.findIn K (.ref C) "__setattr__" = some (some (.builtin "object.__setattr__"))
 tk : PySem.W.takerIn K C "name" = some none
 nm : PySem.W.findIn K (.ref C) "name" = some none
def Ht (K : PySem.W.Frag) (C : Addr) : Prop := ∀ h : Heap, K.In h -> ∃ (bm : List Value) (N : Addr) (nm q : Str) (bs : List Value) (hd : Bool) (sn : List Str) (sub : List Value) (ab : Bool) (col : Option Bool) (dd : Option Addr) (k0 k1 k2 k3 k5 : Option Value),
 h.get? C = some (excClassObj nm q C N bs bm hd sn sub ab col dd k0 k1 k2 k3 k5 "ValueError.__new__") /\ OwnTail h F0 bm
theorem zI.o {K : PySem.W.Frag} {C : Addr} (h : zI K C) : Ht K C := fun hp X => by
 obtain ⟨bm, N, nm, q, bs, hd, sn, sub, ab, col, dd, k0, k1, k2, k3, k5, mN, hC, _, _, T⟩ := Bo X h
 exact ⟨bm, N, nm, q, bs, hd, sn, sub, ab, col, dd, k0, k1, k2, k3, k5, hC, T⟩
section
variable {prog : Program} {w : World} {A : Around} {E : Value -> Shared -> Prop} {h : Heap} {g : Array GenState} {d : Drawn} {t : Nat} {os : OsState}
variable {nm q : Str} {C N : Addr} {bs bm Cj : List Value} {FP : Bool} {sn : List Str} {sub : List Value} {ab : Bool} {col : Option Bool} {dd : Option Addr} {k0 k1 k2 k3 k5 : Option Value} {B newId Hs : String}
end
structure JW (K : PySem.W.Frag) (W : Addr) : Prop where
 ga : PySem.W.specialIn K (.ref W) "__getattribute__" = some (some (.builtin "type.__getattribute__"))
 rd : PySem.W.readsIn K W (.type "type") = true
 fd : PySem.W.findCls K (.ref W) (.type "type") "__init__" = some (.val (.builtin "ValueError.__init__"))
section
variable {X : Cx} {W : Addr} {x : Str} {p pos apos : Pos} {e : Expr} {es : List Expr} {t : TA} {pl : Sem Bool}
end
def del (H : Hp) (a : Addr) : Hp := fun b => if b = a then none else H b
section
variable {prog : Program} {w : World} {A : Around} {E : Value -> Shared -> Prop} {s : Shared} {env : Env}
variable {nm q : Str} {C N : Addr} {bs bm Cj : List Value} {FP : Bool} {sn : List Str} {sub : List Value} {ab : Bool} {col : Option Bool} {dd : Option Addr} {k0 k1 k2 k3 k5 : Option Value} {newId : String}
end
def Kn (X : Cx) (cl : Expr) (hit : Addr -> Bool -> Prop) : Prop := ∀ (a C T : Addr) (od : Option Addr) (pins : List (Addr × Obj)) (σ : St) (H : Hp) (s : Shared) (Q : Bool -> Shared -> Prop) (E : Value -> Shared -> Prop) (b : Bool), Inv X pins σ H s -> Iq s.heap a T (.ref C) od -> hit C b ->
 (∀ h', (∀ b o, s.heap.get? b = some o -> h'.get? b = some o) -> Q b { s with heap := h' }) ->
 wpAny (model X.prog X.w) (X.hand a).A (eval cl X.env) (fun c s1 => wpAny (model X.prog X.w) (X.hand a).A (excMatches (.ref a) c) Q E s1) E s
structure Ji where
 hit : Addr -> Bool -> Prop
 i : Option Nat
 ts : Addr -> TS
def zA (X : Cx) : Option Str -> Option Nat -> Prop
 | some n, some i => X.N[i]? = some n /\ X.env.scope.names.lookup n = some .local
 | none, none => True
 | _, _ => False
inductive u5 (X : Cx) : List ExceptHandler -> List Ji -> Prop
 | nil : u5 X [] []
 | cons {cl : Expr} {n : Option Str} {b0 : Stmt} {yy : List Stmt} {pos : Pos} {hs : List ExceptHandler} {hit : Addr -> Bool -> Prop} {i : Option Nat} {ts : Addr -> TS} {rs : List Ji} (hc : Kn X cl hit) (hb : ∀ a, oq (X.hand a) (b0 :: yy) (ts a)) (hn : zA X n i) (r : u5 X hs rs) :
  u5 X (.ExceptHandler (some cl) n (b0 :: yy) pos :: hs) (⟨hit, i, ts⟩ :: rs)
section
variable {X : Cx} {pins : List (Addr × Obj)} {σ : St} {H : Hp} {a C : Addr} {od : Option Addr} {Dn : Ends}
end
section
variable {X : Cx} {e : Expr} {te : TE} {y y2 : Str} {k k2 : Nat} {p1 p2 p3 pos : Pos}
end
section
variable {σ : St} {H : Hp} {Q : VK} {D : Ends} {K : PySem.W.Frag} {C : Addr} {E : St -> XK}
end
section
variable {prog : Program} {w : World} {A : Around} {R : Result -> Shared -> Prop} {I S : Addr} {fp wr : List Addr} {n : Nat} {P : Nat -> Value -> Prop} {St : Nat -> Heap -> Prop} {bt : Nat -> Nat -> Bool}
def we (P : Nat -> Value -> Prop) (bt : Nat -> Nat -> Bool) (j : Nat) (az : Array Value) : Prop := (j = 0 /\ az = #[]) \/ ∃ i v, j = i + 1 /\ P (argBest bt i) v /\ az = #[v, v]
end
section
variable {prog : Program} {w : World} {A : Around} {E : Value -> Shared -> Prop} {s : Shared}
end
section
variable {X : Cx}
end
section
variable {σ : St} {H : Hp} {Q : VK} {D : Ends} {K : PySem.W.Frag}
def DG (K : PySem.W.Frag) (vs : List V) (g : TG) (tb : TS) (D : Ends) (σ : St) (H1 : Hp) : Prop := ∃ a, vs = [.ref a] /\ (∃ xs, bp K H1 a xs) /\ ∃ W : Nat -> Nat -> St -> Hp -> Prop, (∃ m, W 0 m σ H1) /\ ∀ i m σ H, W i m σ H ->
 ((Bg K a).stop i H /\ D.nx σ H) \/ ((Bg K a).go i H /\ ∃ N : St -> Hp -> Prop, (∀ σ' H', N σ' H' -> ∃ m', m' < m /\ W (i + 1) m' σ' H') /\ ∀ x H', (Bg K a).xm i H x H' -> g x σ H' fun σ2 H2 => tb { D with nx := N, ct := N, bk := D.nx } σ2 H2)
theorem zC {ta : TA} {g : TG} {tb : TS} (h : ta σ H fun vs H1 => DG K vs g tb D σ H1) : tB (uE K ta) g tb D σ H := h
theorem zc {Hb : Hp} {v : V} {cs : List Int} {g : TG} {tb : TS} (hl : Dv Hb v (.list (cs.map PyData.int))) (Pv : Nat -> St -> Hp -> Prop) (h0 : Pv 0 σ H) (hk : ∀ i σ H', i <= cs.length -> Pv i σ H' -> ∀ a xs, v = .ref a -> bp K Hb a xs -> bp K H' a xs)
 (hs : ∀ i c t σ H', cs[i]? = some c -> Pv i σ H' -> H' t = none -> g (.ref t) σ (upd H' t (.tup [.int (i : Int), .int c])) fun σ2 H2 => tb { D with nx := Pv (i + 1), ct := Pv (i + 1), bk := D.nx } σ2 H2) (hd : ∀ σ H', Pv cs.length σ H' -> D.nx σ H') : DG K [v] g tb D σ H := by
 obtain ⟨p, xs, rfl, e, dv⟩ := hl.lst_inv
 have A4 : xs.length = cs.length := by rw [dv.length, List.length_map]
 have at' : ∀ i σ H', i <= cs.length -> Pv i σ H' -> bp K H' p xs := fun i σ H' hi hp => hk i σ H' hi hp p xs rfl (e K)
 refine ⟨p, rfl, ⟨xs, at' 0 σ H (Nat.zero_le _) h0⟩, fun i m σ H => i <= cs.length /\ m = cs.length - i /\ Pv i σ H, ⟨_, Nat.zero_le _, rfl, h0⟩, ?_⟩
 rintro i m σ H' ⟨hi, hm, hp⟩
 have rO := at' i σ H' hi hp
 by_cases hc : i = cs.length
 . subst hc
   exact .inl ⟨⟨xs, rO, by omega⟩, hd σ H' hp⟩
 . have D9 : i < xs.length := by omega
   refine .inr ⟨⟨xs, xs[i], rO, List.getElem?_eq_getElem D9⟩, Pv (i + 1), fun σ' H2 sV => ⟨cs.length - (i + 1), by omega, by omega, rfl, sV⟩, fun x H2 hy => ?_⟩
   obtain ⟨t, x', hy, rfl, ht, rfl⟩ := hy
   have hx := hy xs rO
   have yU : cs[i]? = some cs[i] := List.getElem?_eq_getElem (by omega)
   obtain ⟨x2, Ea, hd⟩ := dv.get (i := i) (d := .int cs[i]) (by rw [List.getElem?_map, yU]; rfl)
   rw [hx] at Ea
   cases Ea
   obtain rfl := hd.int_inv
   exact hs i cs[i] t σ H' yU hp ht
end
def Bl : Expr -> Option V
 | .Constant (.int i) _ _ => some (.int i)
 | .Constant (.str x) _ _ => some (.str x)
 | .Constant (.bool b) _ _ => some (.bl b)
 | .Constant .none _ _ => some .aZ
 | _ => none
def vx : List Expr -> Option (List V)
 | [] => some []
 | e :: es => match Bl e, vx es with
   | some v, some vs => some (v :: vs)
   | _, _ => none
def y7 (vs : List V) : TA := fun _ H Q => Q vs H
theorem qg {X : Cx} {e : Expr} {v : V} (h : Bl e = some v) : PE X e (tC v) /\ ∀ es : List Expr, starEach (e :: es) X.env = (false, eval e X.env) :: starEach es X.env := by
 unfold Bl at h
 split at h <;> cases h <;> refine ⟨?_, fun _ => rfl⟩
 . exact af
 . exact tJ
 . exact yA
 . exact gO
theorem qq {X : Cx} : ∀ {es : List Expr} {vs : List V}, vx es = some vs -> PA X es (y7 vs)
 | [], vs, h => by cases h; exact ag
 | e :: es, vs, h => by
   unfold vx at h
   split at h
   . rename_i v ND h1 h2
     cases h
     exact ae (qg h1).1 (qq h2) ((qg h1).2 es)
   . cases h
theorem A3 {σ : St} {H : Hp} {vs : List V} {Q : List V -> Hp -> Prop} (h : Q vs H) : y7 vs σ H Q := h
section
variable {σ : St} {H : Hp} {Q : VK} {K : PySem.W.Frag}
theorem vJ {p : Addr} {xs : List V} {y : V} (e : H p = some (.lst xs)) (hl : xs.length <= 4000) (h : Q .aZ (upd H p (.lst (xs ++ [y])))) : mI (.ref p) [y] H Q := ⟨p, xs, y, rfl, rfl, e, dH hl, h⟩
end
section
variable {X : Cx}
end
section
open PySem.SeqAt
open PySem.AutoSeq1 (wpAny_loadPart')
open PySem.MeetsSeq PySem.MeetsSeq2 PySem.MeetsSeq3
end
section
variable {X : Cx}
end
section
variable {σ : St} {H : Hp} {Q : VK} {D : Ends} {K : PySem.W.Frag}
end
section
variable {σ : St} {H : Hp} {Q : VK} {K : PySem.W.Frag}
end
section
variable {X : Cx} {pins : List (Addr × Obj)} {σ : St} {H : Hp} {s : Shared} {h' : Heap}
theorem Inv.qP {t' : Nat} {is : List Addr} (I : Inv X pins σ H s) (k : ∀ b o, b ∉ is -> s.heap.get? b = some o -> h'.get? b = some o) (f : ∀ i ∈ is, cq X pins H i) : Inv X pins σ H { s with heap := h', toks := t' } := by
 have vW : ∀ b u, H b = some u -> b ∉ is := fun b u e hb => by rw [(f b hb).1] at e; cases e
 refine I.step (g' := s.gens) (d' := s.drawn) (ch := is) (fun b hb => ?_) (fun b o _ _ hc e _ => k b o hc e) (fun b o _ _ hc e _ => ⟨o.slots, k b o hc e⟩) (fun _ _ _ _ n => n)
  (fun b o hc e => ⟨o, k b o hc e⟩) (fun _ _ e => e) (fun _ _ _ e => e) (fun b ps e => ⟨#[], by rw [e]; simp⟩) (fun m hm => ?_) (fun b u e => ?_) I.bare
 . exact ⟨(f b hb).2.2.2.1, (f b hb).2.1, (f b hb).2.2.2.2.1, (f b hb).2.2.2.2.2⟩
 . obtain ⟨o, es, ep, ho, r⟩ := hm
   exact ⟨o, es, ep, k _ o (fun hb => (f _ hb).2.1 rfl) ho, r⟩
 . refine (I.aI b u e).mJ (fun c v hc q => k c v ?_ q) (fun _ q => q) fun _ _ q => q
   rcases hc with z | z
   . rw [z]; exact vW b u e
   . exact vW c _ z
end
def EE (K : PySem.W.Frag) (a b : Addr) : It := ⟨fun i H => ∃ xs ys x y, bp K H a xs /\ bp K H b ys /\ xs[i]? = some x /\ ys[i]? = some y, fun i H v H' => ∃ t x y, (∀ xs, bp K H a xs -> xs[i]? = some x) /\ (∀ ys, bp K H b ys -> ys[i]? = some y) /\ v = .ref t /\ H t = none /\ H' = upd H t (.tup [x, y]), fun i H => ∃ xs ys, bp K H a xs /\ bp K H b ys /\ (xs.length <= i \/ ys.length <= i)⟩
structure uY (h : Heap) (z TI TO i1 i2 : Addr) (a b : Addr) (i : Nat) : Prop where
 zp : IsZip h z TI TO .none
 ti : IsPair h TI (.ref i1) (.ref i2)
 to : ∃ u v, IsPair h TO u v
 l1 : h.IsListIter i1 a i
 l2 : h.IsListIter i2 b i
structure ZA (z TI TO i1 i2 : Addr) : Prop where
 TIz : TI ≠ z
 TOz : TO ≠ z
 i1z : i1 ≠ z
 i2z : i2 ≠ z
 TITO : TI ≠ TO
 TIi1 : TI ≠ i1
 TIi2 : TI ≠ i2
 TOi1 : TO ≠ i1
 TOi2 : TO ≠ i2
 i12 : i1 ≠ i2
theorem zN (n : Nat) : ZA (n + 4) (n + 2) (n + 3) n (n + 1) := by
 have h : ∀ a b : Nat, ¬ a = b -> @Ne Addr a b := fun _ _ h => h
 constructor <;> (refine h _ _ ?_; omega)
theorem xg {n c : Nat} (h : c ∈ [n + 4, n + 2, n + 3, n, n + 1]) : n <= c := by
 have e' : c = n + 4 \/ c = n + 2 \/ c = n + 3 \/ c = n \/ c = n + 1 := by simpa using h
 omega
theorem cH {h : Heap} {l z : Addr} {az : Array Value} {o : Obj} (hl : h.IsList l az) (hz : h.get? z = some o) (hc : o.cls ≠ .type "list") : l ≠ z := by
 rintro rfl
 obtain ⟨o', e, c, _⟩ := hl
 rw [hz] at e
 cases e
 exact hc c
theorem cX {h : Heap} {l z : Addr} {az : Array Value} {b : Addr} {n : Nat} (hl : h.IsList l az) (hz : h.IsListIter z b n) : l ≠ z := by
 obtain ⟨o, e, c, _⟩ := hz
 exact cH hl e (by rw [c]; decide)
theorem uY.apart {h : Heap} {z TI TO i1 i2 a b : Addr} {i : Nat} {xs ys : Array Value} (st : uY h z TI TO i1 i2 a b i) (za : ZA z TI TO i1 i2) (h1 : h.IsList a xs) (h2 : h.IsList b ys) : ZipApart z TI TO i1 i2 a b := by
 obtain ⟨u, v, vt⟩ := st.to
 have nz : Value.type "zip" ≠ Value.type "list" := by decide
 have nt : Value.type "tuple" ≠ Value.type "list" := by decide
 exact ⟨za.TIz, za.TOz, za.i1z, za.i2z, za.TITO, za.TIi1, za.TIi2, za.TOi1, za.TOi2, za.i12, cH h1 st.zp nz, cH h1 vt nt, cX h1 st.l1, cX h1 st.l2, cH h2 st.zp nz, cH h2 vt nt, cX h2 st.l1, cX h2 st.l2⟩
theorem uG {P : Program} {w : World} {K : PySem.W.Frag} {elts : List Expr} {x1} {pos : Pos} {z TI TO i1 i2 a b : Addr} (za : ZA z TI TO i1 i2) :
 Turn P w K (.Tuple elts x1 pos) (EE K a b) [z, TI, TO, i1, i2] z (fun i h => uY h z TI TO i1 i2 a b i) where
 mem := by simp
 obj := fun i h st c hc => by
  have e' : c = z \/ c = TI \/ c = TO \/ c = i1 \/ c = i2 := by simpa using hc
  obtain ⟨u, v, vt⟩ := st.to
  rcases e' with rfl | rfl | rfl | rfl | rfl
  . exact ⟨_, st.zp, fun v z => by cases z⟩
  . exact ⟨_, st.ti, fun v z => by cases z⟩
  . exact ⟨_, vt, fun v z => by cases z⟩
  . obtain ⟨o, e1, c, d⟩ := st.l1
    exact ⟨o, e1, fun v z => by rw [d] at z; cases z⟩
  . obtain ⟨o, e1, c, d⟩ := st.l2
    exact ⟨o, e1, fun v z => by rw [d] at z; cases z⟩
 keep := fun i h h' st k => ⟨k z (by simp) _ st.zp, k TI (by simp) _ st.ti, let ⟨u, v, q⟩ := st.to; ⟨u, v, k TO (by simp) _ q⟩, st.l1.at fun o q => k i1 (by simp) o q, st.l2.at fun o q => k i2 (by simp) o q⟩
 item := by
  intro X hP hw hK hc i pins s σ H E I hf st hg
  subst hP hw hK
  obtain ⟨xs, ys, x, y, hq, mU, hx, hy⟩ := hg
  obtain ⟨az, rv, p, hz⟩ := I.list hq
  obtain ⟨vE, E5, p2, JC⟩ := I.list mU
  obtain ⟨u, hu, ru⟩ := rv.get hx
  obtain ⟨u2, LK, Ly⟩ := E5.get hy
  have ap := st.apart za p.isList p2.isList
  obtain ⟨ua, ub, vt⟩ := st.to
  have ck : ∀ c ∈ [z, TI, TO, i1, i2], c < s.heap.objs.size := by
   intro c hc
   have e' : c = z \/ c = TI \/ c = TO \/ c = i1 \/ c = i2 := by simpa using hc
   rcases e' with rfl | rfl | rfl | rfl | rfl
   . exact Heap.lt_size st.zp
   . exact Heap.lt_size st.ti
   . exact Heap.lt_size vt
   . obtain ⟨o, ho, _⟩ := st.l1; exact Heap.lt_size ho
   . obtain ⟨o, ho, _⟩ := st.l2; exact Heap.lt_size ho
  have hn : H s.heap.objs.size = none := I.aI.fresh (Nat.le_refl _)
  refine wpAny_pyNext_zip_item ap st.zp st.ti vt st.l1 st.l2 p.isList p2.isList (x := u) (y := u2) (by simpa using hu) (by simpa using LK) fun h' Lf HX Ab sA ht MA kk => ?_
  refine ⟨_, rfl, wpAny_letOwnedTupleGo_zip (s := { s with heap := h' }) Lf fun h2 GQ sb => ?_⟩
  replace sb : Heap.SameBut z h' h2 := sb
  let tb : Obj := { cls := .type "tuple", data := .seq #[u, u2] }
  have I1 : Inv X pins σ (upd H s.heap.objs.size (.tup [x, y])) { s with heap := s.heap.push tb } :=
   I.laid (t' := s.toks) (fun b u e => Heap.get?_push_of_some _ e) (Nat.le_refl _) (show bM X.prog X.w _ _ _ (.tup [x, y]) from ⟨by rw [sizeLine_eq]; simp, [u, u2], .cons ru (.cons Ly .nil), IsTup.new _ _⟩)
  have J2 : ∀ c ∈ [z, TI, TO, i1, i2], upd H s.heap.objs.size (.tup [x, y]) c = none := fun c hc => by
   rw [aw (Nat.ne_of_lt (ck c hc))]; exact (hf c hc).1
  have I2 : Inv X pins σ (upd H s.heap.objs.size (.tup [x, y])) { s with heap := h2 } := by
   refine Inv.qP (s := { s with heap := s.heap.push tb }) (h' := h2) (t' := s.toks) (is := [z, TI, TO, i1, i2]) I1 (fun b u' hb q => ?_) (fun c hc => ⟨J2 c hc, (hf c hc).2⟩)
   have sv : b ≠ z /\ b ≠ TI /\ b ≠ TO /\ b ≠ i1 /\ b ≠ i2 := by simpa using hb
   by_cases DV : b = s.heap.objs.size
   . subst DV
     have e0 : (s.heap.push tb).get? s.heap.objs.size = some tb := Heap.get?_push_size _ rfl
     have e1 := e0.symm.trans q
     cases e1
     exact (sb.2 _ sv.1).trans ht
   . exact (sb.2 _ sv.1).trans (kk b u' sv.1 sv.2.2.1 sv.2.2.2.1 sv.2.2.2.2 (ke q DV))
  refine ⟨.ref s.heap.objs.size, _, I2, rfl, ⟨_, x, y, fun ys hy => by rw [I.iB hy hq]; exact hx, fun ys Kf => by rw [I.iB Kf mU]; exact hy, rfl, hn, rfl⟩, ⟨GQ, ?_, ⟨u, u2, (sb.2 _ za.TOz).trans HX⟩, Ab.at fun o q => (sb.2 i1 za.i1z).trans q, sA.at fun o q => (sb.2 i2 za.i2z).trans q⟩, fun c hc => J2 c hc⟩
  exact (sb.2 _ za.TIz).trans (kk TI _ za.TIz za.TITO za.TIi1 za.TIi2 st.ti)
 done := by
  intro X hP hw hK hc i pins s σ H E I hf st hg
  subst hP hw hK
  obtain ⟨xs, ys, hq, mU, hx⟩ := hg
  obtain ⟨az, rv, p, hz⟩ := I.list hq
  obtain ⟨vE, E5, p2, JC⟩ := I.list mU
  have hl := rv.length
  have uS := E5.length
  have ap := st.apart za p.isList p2.isList
  obtain ⟨ua, ub, vt⟩ := st.to
  refine wpAny_pyNext_zip_end (I.ok.hd hc) ap st.zp st.ti vt st.l1 st.l2 p.isList p2.isList (hx.imp (fun h => by simp; omega) (fun h => by simp; omega)) fun h' eb => ⟨rfl, ?_⟩
  exact I.qP (t' := s.toks) (is := [z, TI, TO, i1, i2]) (fun b o hb e => by
   have sv : b ≠ z /\ b ≠ TI /\ b ≠ TO /\ b ≠ i1 /\ b ≠ i2 := by simpa using hb
   exact eb b o sv.1 sv.2.2.1 sv.2.2.2.1 sv.2.2.2.2 e) hf
 self := fun A i s Q E st q => by
  exact wpAny_pyIter_zip st.zp q
def Dc (K : PySem.W.Frag) (ta : TA) : TI := fun σ H R => ta σ H fun vs H1 => ∃ a b, vs = [.ref a, .ref b] /\ (∃ xs, bp K H1 a xs) /\ (∃ ys, bp K H1 b ys) /\ R (EE K a b) H1
theorem Aa {X : Cx} {elts : List Expr} {x1} {uL : Pos} {a b : Expr} {ta : TA} {p pos : Pos} (hg : Gl X "zip") (hm : X.mg "zip" = none) (ha : PA X [a, b] ta) (hs : starEach [a, b] X.env = (false, eval a X.env) :: starEach [b] X.env := by rfl) (Av : starEach [b] X.env = [(false, eval b X.env)] := by rfl) :
 PI X (.Tuple elts x1 uL) (.Call (.Name "zip" p) [a, b] [] pos) (Dc X.K ta) := by
 intro pins s σ H R I h
 refine Call_ (eB I hg hm boot_zip (PyProof.Rows.callWith_type1 (bF (ha pos pins s σ H _ I h) fun us s1 ⟨vs, H1, I1, r1, q1⟩ => ?_) hs (by rw [Av]; rfl)))
 obtain ⟨l, l2, e, ⟨xs, hq⟩, ⟨ys, mU⟩, q⟩ := q1
 subst e
 cases r1 with
 | cons r rr =>
   cases rr with
   | cons r2 rr =>
   cases rr
   cases r
   cases r2
   obtain ⟨az, rv, p, hz⟩ := I1.list hq
   obtain ⟨vE, E5, p2, JC⟩ := I1.list mU
   refine call_zip_2 p.isList p2.isList fun h' Jx F8 vt Ab sA hsz hk => ?_
   refine wpAny_pyIter_zip Jx ?_
   have za := zN s1.heap.objs.size
   refine ⟨s1.heap.objs.size + 4, [s1.heap.objs.size + 4, s1.heap.objs.size + 2, s1.heap.objs.size + 3, s1.heap.objs.size, s1.heap.objs.size + 1], _, _, H1, rfl, I1.kept (t' := s1.toks) hk, uG (a := l) (b := l2) za, ⟨Jx, F8, ⟨_, _, vt⟩, Ab, sA⟩, fun c hc => ?_, q⟩
   have hle : s1.heap.objs.size <= c := xg hc
   exact I1.j7 hle (I1.aI.fresh hle)
section
variable {σ : St} {H : Hp} {Q : VK} {D : Ends} {K : PySem.W.Frag}
def CW (K : PySem.W.Frag) (vs : List V) (g : TG) (tb : TS) (D : Ends) (σ : St) (H1 : Hp) : Prop := ∃ a b, vs = [.ref a, .ref b] /\ (∃ xs, bp K H1 a xs) /\ (∃ ys, bp K H1 b ys) /\ ∃ W : Nat -> Nat -> St -> Hp -> Prop, (∃ m, W 0 m σ H1) /\ ∀ i m σ H, W i m σ H ->
 ((EE K a b).stop i H /\ D.nx σ H) \/ ((EE K a b).go i H /\ ∃ N : St -> Hp -> Prop, (∀ σ' H', N σ' H' -> ∃ m', m' < m /\ W (i + 1) m' σ' H') /\ ∀ x H', (EE K a b).xm i H x H' -> g x σ H' fun σ2 H2 => tb { D with nx := N, ct := N, bk := D.nx } σ2 H2)
theorem zS {ta : TA} {g : TG} {tb : TS} (h : ta σ H fun vs H1 => CW K vs g tb D σ H1) : tB (Dc K ta) g tb D σ H := h
theorem HQ {a b : Addr} {xs ys : List V} {g : TG} {tb : TS} (h1 : bp K H a xs) (h2 : bp K H b ys) (Pv : Nat -> St -> Hp -> Prop) (h0 : Pv 0 σ H) (hk : ∀ i σ H', Pv i σ H' -> ah H H')
 (hs : ∀ i x y t σ H', xs[i]? = some x -> ys[i]? = some y -> Pv i σ H' -> H' t = none -> g (.ref t) σ (upd H' t (.tup [x, y])) fun σ2 H2 => tb { D with nx := Pv (i + 1), ct := Pv (i + 1), bk := D.nx } σ2 H2) (hd : ∀ σ H', Pv (min xs.length ys.length) σ H' -> D.nx σ H') : CW K [.ref a, .ref b] g tb D σ H := by
 refine ⟨a, b, rfl, ⟨xs, h1⟩, ⟨ys, h2⟩, fun i m σ H' => i <= min xs.length ys.length /\ m = min xs.length ys.length - i /\ Pv i σ H', ⟨_, Nat.zero_le _, rfl, h0⟩, ?_⟩
 rintro i m σ H' ⟨hi, hm, hp⟩
 have sm := hk i σ H' hp
 have k1 := ah.seq sm h1
 have k2 := ah.seq sm h2
 by_cases hc : i = min xs.length ys.length
 . subst hc
   refine .inl ⟨⟨xs, ys, k1, k2, ?_⟩, hd σ H' hp⟩
   omega
 . have hx : i < xs.length := by omega
   have hy : i < ys.length := by omega
   refine .inr ⟨⟨xs, ys, xs[i], ys[i], k1, k2, List.getElem?_eq_getElem hx, List.getElem?_eq_getElem hy⟩, Pv (i + 1), fun σ' H2 sV => ⟨min xs.length ys.length - (i + 1), by omega, by omega, rfl, sV⟩, fun v H2 Jv => ?_⟩
   obtain ⟨t, x, y, e1, e2, rfl, ht, rfl⟩ := Jv
   exact hs i x y t σ H' (e1 xs k1) (e2 ys k2) hp ht
end
end L2
set_option maxHeartbeats 4000000
namespace My
open PySem L2
local macro_rules | `(tactic| walk_at "same") => `(tactic| first
 | exact ah.refl _
 | assumption
 | (refine' ah.trans ?m ?s; (case s => assumption); (case m => walk_at "same")))
local macro_rules | `(tactic| walk_at "at") => `(tactic| first
 | assumption
 | exact aA
 | (refine' ah.at ?s ?m; (case s => assumption); (case m => walk_at "at")))
local macro_rules | `(tactic| walk_at "dat") => `(tactic| first
 | exact Dv.int _
 | exact Dv.aZ
 | exact Dv.bl _
 | exact Dv.str _
 | assumption
 | (refine' Dv.keeps ?s ?m; (case s => assumption); (case m => walk_at "dat")))
local macro_rules | `(tactic| walk_at "ins") => `(tactic| first
 | assumption
 | (refine' Kj.keeps ?s ?m; (case s => assumption); (case m => walk_at "ins")))
local macro_rules | `(tactic| walk_at "dats") => `(tactic| first
 | exact aT.nil
 | (refine' aT.cons ?m ?s; (case m => walk_at "dat"); (case s => walk_at "dats"))
 | assumption
 | (refine' aT.keeps ?s ?m; (case s => assumption); (case m => walk_at "dats")))
local macro_rules | `(tactic| walk_at "sql") => `(tactic| first
 | assumption
 | (refine' ah.seq ?s ?m; (case s => assumption); (case m => walk_at "sql")))
local macro_rules | `(tactic| walk_at "isq") => `(tactic| first
 | (refine' Or.inl ?m; case m => walk_at "dat")
 | (refine' Or.inr ?m; case m => walk_at "dat"))
set_option hygiene false in
local macro_rules | `(tactic| walk_at "side") => `(tactic| first
 | omega
 | assumption
 | exact (by decide)
 | exact DK (by omega) (by omega)
 | exact DL ⟨by omega, by omega⟩ ⟨by omega, by omega⟩
 | exact ⟨by decide, by decide, by decide⟩)
set_option hygiene false in
local macro_rules | `(tactic| walk_at "use") => `(tactic| fail)
set_option hygiene false in
local macro_rules | `(tactic| walk_at "lk") => `(tactic| fail)
set_option hygiene false in
local macro_rules | `(tactic| walk_at "put") => `(tactic| fail)
set_option hygiene false in
local macro_rules | `(tactic| walk_at "fin") => `(tactic| fail)
set_option hygiene false in
local macro_rules | `(tactic| walk_at "wds") => `(tactic| first
 | with_reducible refine oF (ws := [_]) rfl ?_
 | with_reducible refine oF (ws := [_, _]) rfl ?_
 | with_reducible refine oF (ws := [_, _, _]) rfl ?_
 | with_reducible refine oF (ws := [_, _, _, _]) rfl ?_
 | with_reducible refine oF (ws := [_, _, _, _, _]) rfl ?_
 | with_reducible refine oF (ws := [_, _, _, _, _, _]) rfl ?_
 | with_reducible refine oF (ws := []) rfl ?_)
set_option hygiene false in
local macro_rules | `(tactic| walk_at "mks") => `(tactic| first
 | fail)
local macro_rules | `(tactic| walk_at "br") => `(tactic| ((with_reducible refine CB (fun hb => ?_) (fun hb => ?_)) <;> (try simp only [id, decide_eq_true_eq, decide_eq_false_iff_not, Bool.not_eq_true', Bool.not_eq_false', Bool.not_true, Bool.not_false, V.int.injEq, Bool.true_eq_false, Bool.false_eq_true, reduceCtorEq, decide_true, decide_false, not_true, not_false_iff, PyData.eqv, PyData.eqvAll, Bool.and_eq_true, Bool.and_eq_false_iff, Bool.or_eq_true, Bool.or_eq_false_iff, beq_iff_eq, beq_eq_false_iff_ne, ne_eq, bne_iff_ne, Bool.and_true, Bool.and_false, Bool.and_self, beq_self_eq_true, isInt, isBool, isStr, EK, isTup, EZ, List.length_cons, List.length_nil] at hb) <;> (try (exfalso; omega)) <;> (try (exfalso; (refine' GU hb ?d); (case d => walk_at "dat")))))
local macro_rules | `(tactic| walk_at "rd1") => `(tactic| first
 | with_reducible refine zK ?_
 | with_reducible refine DM ?_
 | with_reducible refine yW ?_
 | with_reducible refine A8 ?_
 | with_reducible refine CQ ?_
 | ((with_reducible refine' uk ?e ?_); case e => exact rfl)
 | with_reducible refine MP ?_
 | with_reducible refine F2 ?_
 | with_reducible refine FH ?_
 | with_reducible refine HM ?_
 | ((with_reducible refine' Aw ?e1 ?e2 ?_); (case e1 => exact ⟨by decide, by decide, by decide⟩); (case e2 => ((conv => lhs; simp only [Int.reduceToNat]) <;> exact rfl)))
 | ((with_reducible refine' Kw ?e ?_); case e => walk_at "side")
 | with_reducible refine Lp ?_
 | with_reducible refine pP ?_
 | with_reducible refine yF ?_
 | with_reducible refine wA ?_
 | with_reducible refine GH ?_
 | with_reducible refine Ak ?_
 | with_reducible refine D4 ?_
 | with_reducible refine Hr ?_
 | with_reducible refine D6 ?_
 | with_reducible refine Ca ?_
 | with_reducible refine HW ?_
 | with_reducible refine zz ?_
 | with_reducible refine vj ?_
 | with_reducible refine sy ?_
 | walk_at "br"
 | with_reducible refine AG ?_
 | ((with_reducible refine' CA ?e ?_); case e => exact rfl)
 | ((with_reducible refine' y9 ?e1 ?e2 ?e3 ?e4 ?e5 ?_); (case e1 => walk_at "dat"); (case e2 => walk_at "dat"); (case e3 => first | rfl | assumption); (case e4 => first | rfl | assumption); (case e5 => first | exact Nat.le_of_ble_eq_true rfl | assumption))
 | ((with_reducible refine' qX ?e1 ?e2 ?_); (case e1 => walk_at "isq"); (case e2 => exact rfl))
 | ((with_reducible refine' uo ?e ?_); case e => walk_at "isq")
 | ((with_reducible refine' zH ?e ?_); case e => walk_at "sql")
 | with_reducible refine Au (fun _ _ _ _ => ?_)
 | with_reducible refine Am (fun _ _ _ _ => ?_)
 | ((with_reducible refine' zZ ?e (fun _ _ => ?_)); case e => walk_at "side")
 | with_reducible refine HR ?_
 | with_reducible refine lU ?_
 | with_reducible refine xW ?_
 | with_reducible refine yo (fun _ _ => ?_)
 | with_reducible refine tN ?_
 | ((with_reducible refine' B9 ?e1 ?e2 (fun _ _ _ _ => ?_)); (case e1 => exact fG rfl); (case e2 => walk_at "dats"))
 | with_reducible refine Bf ?_
 | ((with_reducible refine' vP ?e1 ?e2 (fun _ _ _ _ _ _ _ => ?_)); (case e1 => exact fG rfl); (case e2 => walk_at "dats"))
 | with_reducible refine Ba ?_
 | with_reducible refine DA ?_
 | with_reducible refine wC ?_
 | ((with_reducible refine' zB ?e1 ?e2 ?_); (case e1 => omega); (case e2 => omega))
 | with_reducible refine zV ?_
 | walk_at "wds"
 | walk_at "mks"
 | walk_at "use"
 | walk_at "fin")
local macro_rules | `(tactic| walk_at "lat") => `(tactic| first
 | assumption
 | (refine' bq.keeps ?s ?m; (case s => assumption); (case m => walk_at "lat"))
 | (refine' bq.mv ?s ?n ?m; (case s => assumption); (case n => walk_at "nin"); (case m => walk_at "lat"))
 | fail)
local macro_rules | `(tactic| walk_at "nin") => `(tactic| first
 | (refine' tT ?n1; (case n1 => walk_at "ne"))
 | (refine' pA ?n1 ?n2; (case n1 => walk_at "ne"); (case n2 => walk_at "ne"))
 | fail)
local macro_rules | `(tactic| walk_at "ne") => `(tactic| first
 | assumption
 | (refine Ne.symm ?_; assumption)
 | (refine' bq.ne ?h ?n; (case n => assumption); (case h => walk_at "lat"))
 | (refine' Ne.symm (bq.ne ?h ?n); (case n => assumption); (case h => walk_at "lat"))
 | fail)
local macro_rules | `(tactic| walk_at "dla") => `(tactic| first
 | assumption
 | (refine' iX.keeps ?s ?m; (case s => assumption); (case m => walk_at "dla"))
 | (refine' iX.mv ?s ?n ?m; (case s => assumption); (case n => walk_at "nin"); (case m => walk_at "dla"))
 | fail)
local macro_rules | `(tactic| walk_at "ne") => `(tactic| first
 | (refine' iX.ne ?h ?n; (case n => assumption); (case h => walk_at "dla"))
 | (refine' Ne.symm (iX.ne ?h ?n); (case n => assumption); (case h => walk_at "dla"))
 | fail)
local macro_rules | `(tactic| walk_at "imm") => `(tactic| first
 | rfl
 | assumption
 | exact bW (fun _ => rfl) _
 | (refine' bq.qW ?h; (case h => assumption))
 | fail)
local macro_rules | `(tactic| walk_at "dm") => `(tactic| first
 | exact fun _ h => h
 | (refine' uF ?a ?b; (case b => first | (refine' ah.KR ?c; (case c => assumption)) | (refine' Mv.dm ?c; (case c => assumption)) | fail); (case a => walk_at "dm"))
 | fail)
local macro_rules | `(tactic| walk_at "none") => `(tactic| first
 | assumption
 | (refine' BJ ?s ?m; (case m => assumption); (case s => walk_at "dm"))
 | fail)
local macro_rules | `(tactic| walk_at "same") => `(tactic| first
 | (refine' Mv.De ?s ?m ?n; (case m => assumption); (case s => walk_at "same"); (case n => walk_at "none"))
 | fail)
local macro_rules | `(tactic| walk_at "mv") => `(tactic| first
 | exact Mv.refl
 | assumption
 | (refine' Mv.uU ?m ?s; (case s => assumption); (case m => walk_at "mv"))
 | (refine' Mv.step ?m ?s ?h; (case s => assumption); (case m => walk_at "mv"); (case h => walk_at "ours"))
 | fail)
local macro_rules | `(tactic| walk_at "ours") => `(tactic| first
 | (refine' yx (Or.inr ?h); (case h => walk_at "none"))
 | exact yx (Or.inl (by simp))
 | fail)
local macro_rules | `(tactic| walk_at "dat") => `(tactic| first
 | (refine' bq.dv ?m; (case m => walk_at "lat"))
 | fail)
local macro_rules | `(tactic| walk_at "dats") => `(tactic| first
 | (refine' Mv.ym ?s ?i ?m; (case s => assumption); (case i => walk_at "imm"); (case m => walk_at "dats"))
 | fail)
set_option hygiene false in
local macro_rules | `(tactic| walk_at "len") => `(tactic| first
 | (simp only [List.length_map, List.length_append, List.length_cons, List.length_nil]; omega)
 | omega
 | fail)
local macro_rules | `(tactic| walk_at "rd1") => `(tactic| first
 | ((with_reducible refine' xT ?e ?_); case e => walk_at "len")
 | with_reducible refine xM ?_
 | with_reducible refine AB (fun _ _ _ _ _ => ?_)
 | with_reducible refine wJ ?_
 | with_reducible refine wx ?_
 | ((with_reducible refine' Ap ?e1 ?e2 ?e3 ?e4 (fun _ _ _ => ?_)); (case e1 => walk_at "dla"); (case e3 => walk_at "dat"); (case e2 => walk_at "len"); (case e4 => walk_at "imm"))
 | ((with_reducible refine' Bs ?e1 ?e2 ?_); (case e1 => walk_at "dla"); (case e2 => assumption))
 | with_reducible refine xA ?_
 | with_reducible refine F4 ?_
 | ((with_reducible refine' CL ?e ?_); case e => walk_at "lat")
 | ((with_reducible refine' E1 ?e1 ?e2 ?e3 ?e4 (fun _ _ _ => ?_)); (case e1 => walk_at "lat"); (case e3 => walk_at "dat"); (case e2 => walk_at "len"); (case e4 => walk_at "imm"))
 | ((with_reducible refine' zR ?e1 ?e2 ?e3 (fun _ _ _ _ _ => ?_)); (case e1 => exact fG rfl); (case e2 => walk_at "dats"); (case e3 => exact rfl))
 | with_reducible refine tf ?_
 | with_reducible refine FK ?_
 | with_reducible refine AH ?_
 | with_reducible refine uW ?_
 | with_reducible refine xQ ?_
 | with_reducible refine D2 ?_
 | ((with_reducible refine' ve ?e1 ?e2 (fun _ _ _ _ _ => ?_)); (case e1 => walk_at "dat"); (case e2 => walk_at "imm"))
 | ((with_reducible refine' B3 ?e ?_); case e => walk_at "dat")
 | ((with_reducible refine' BK ?e ?e2 ?_); (case e => walk_at "dat"); (case e2 => simp))
 | ((with_reducible refine' pC ?e ?_); case e => walk_at "dat")
 | ((with_reducible refine' Dd ?e ?_); case e => walk_at "dat")
 | ((with_reducible refine' A0 ?e ?_); case e => walk_at "len")
 | ((with_reducible refine' zM ?e ?_); case e => walk_at "dat")
 | ((with_reducible refine' qX ?e1 ?e2 ?_); (case e1 => walk_at "isq"); (case e2 => first | exact sD | (refine' uX ?a ?b; (case a => omega); (case b => walk_at "len")) | fail))
 | fail)
local macro_rules | `(tactic| walk_at "rd1") => `(tactic| first
 | ((with_reducible refine' zO _ ?e1 (fun _ _ _ _ _ => ?_)); (case e1 => walk_at "lat"))
 | ((with_reducible refine' t8 ?e1 ?e2 ?e3 (fun _ _ _ _ _ => ?_)); (case e1 => walk_at "lat"); (case e2 => walk_at "lat"); (case e3 => walk_at "len"))
 | fail)
local macro_rules | `(tactic| walk_at "rd1") => `(tactic| first
 | ((with_reducible refine' Bd ?e1 ?_); (case e1 => walk_at "dat"))
 | ((with_reducible refine' wV ?e1 ?e2 (fun _ _ _ _ _ _ _ _ => ?_)); (case e1 => walk_at "dat"); (case e2 => walk_at "len"))
 | fail)
set_option hygiene false in
local macro_rules | `(tactic| walk_at "rd1") => `(tactic| first
 | fail)
set_option hygiene false in
local macro_rules | `(tactic| walk_at "rd1") => `(tactic| first
 | fail)
set_option hygiene false in
local macro_rules | `(tactic| walk_at "rd1") => `(tactic| first
 | with_reducible refine Br ?_
 | with_reducible refine x6 ?_
 | fail)
set_option hygiene false in
local macro_rules | `(tactic| walk_at "rd1") => `(tactic| first
 | fail)
set_option hygiene false in
local macro_rules | `(tactic| walk_at "rd1") => `(tactic| first
 | fail)
set_option hygiene false in
local macro_rules | `(tactic| walk_at "rd1") => `(tactic| first
 | with_reducible refine zC ?_
 | with_reducible refine A3 ?_
 | fail)
set_option hygiene false in
local macro_rules | `(tactic| walk_at "rd1") => `(tactic| first
 | fail)
def top (i : Nat) : Stmt := PySem.Challenge.pw_wakefew_k49_whole_as_many_as_need_be.main.body.getD i (.Pass ⟨0, 0, 0, 0⟩)
set_option hygiene false in
local macro_rules | `(tactic| walk_at "scp") => `(tactic| exact ⟨rfl, rfl, rfl, by decide +kernel, rfl, by decide +kernel, by decide +kernel⟩)
abbrev iM : Stmt := top 1
theorem jV : aL ["claim"] ["claim"] (aq iM) := by walk_at "scp"
abbrev jQ : Stmt := top 2
theorem c9 : aL ["claims", "wakings", "apart", "name", "first", "last"] ["claims"] (aq jQ) := by walk_at "scp"
abbrev du : Stmt := top 3
theorem eV : aL ["wakings", "first", "last", "waking"] ["wakings", "first", "last"] (aq du) := by walk_at "scp"
abbrev iW : Stmt := top 5
theorem o7 : aL ["wakings", "claim"] ["wakings", "claim"] (aq iW) := by walk_at "scp"
abbrev et : Stmt := top 6
theorem nJ : aL ["wakings", "claims"] ["wakings", "claims"] (aq et) := by walk_at "scp"
abbrev bI : Stmt := top 7
theorem aE : aL ["price", "claims", "points", "loads", "shares", "name", "first", "last", "weight", "held", "place"] ["price", "claims"] (aq bI) := by walk_at "scp"
abbrev oJ : Stmt := top 9
theorem ql : aL ["claims", "most", "price"] ["claims", "most"] (aq oJ) := by walk_at "scp"
abbrev fq : Stmt := top 10
theorem mn : aL ["claims", "price"] ["claims", "price"] (aq fq) := by walk_at "scp"
abbrev d5 : Stmt := top 11
theorem bZ : aL ["claims", "most", "low", "high", "middle"] ["claims", "most"] (aq d5) := by walk_at "scp"
abbrev cU : Stmt := top 12
theorem kB : aL ["claims", "ahead", "waking"] ["claims", "ahead", "waking"] (aq cU) := by walk_at "scp"
abbrev d6 : Stmt := top 13
theorem dC : aL ["claims", "points", "gains", "place", "waking"] ["claims", "points"] (aq d6) := by walk_at "scp"
abbrev fD : Stmt := top 14
theorem b6 : aL ["chains", "gains", "waking", "best", "chain", "gain"] ["chains", "gains", "waking"] (aq fD) := by walk_at "scp"
abbrev b5 : Stmt := top 15
theorem ay : aL ["claims", "most", "points", "gains", "best", "chains", "turn", "longer", "place", "waking", "weight", "wakings"] ["claims", "most"] (aq b5) := by walk_at "scp"
abbrev dt : Stmt := top 17
theorem jq : aL ["_law_script", "_law_k"] ["_law_script", "_law_k"] (aq dt) := by walk_at "scp"
abbrev eF : Stmt := top 18
theorem dR : aL ["_law_number"] ["_law_number"] (aq eF) := by walk_at "scp"
abbrev gK : Stmt := top 19
theorem jk : aL ["_law_cell", "_law_number"] ["_law_cell"] (aq gK) := by walk_at "scp"
abbrev fB : Stmt := top 20
theorem bP : aL ["_law_cell", "_law_k", "_law_some", "_law_sign", "_law_rest", "_law_place", "_law_tail"] ["_law_cell", "_law_k"] (aq fB) := by walk_at "scp"
abbrev eu : Stmt := top 21
theorem cC : aL ["_law_script", "_law_many", "_law_found", "_law_number"] ["_law_script", "_law_many"] (aq eu) := by walk_at "scp"
abbrev dM : Stmt := top 22
theorem aB : aL ["_law_script", "_law_many", "_law_shape", "_law_cells_here", "_law_way", "_law_found", "_law_k", "_law_cell", "_law_other", "_law_first", "_law_last", "_law_weight"] ["_law_script", "_law_many"] (aq dM) := by walk_at "scp"
abbrev nZ : Stmt := top 23
theorem di : aL ["_law_script", "_law_claims_here", "_law_wakings", "_law_apart", "_law_needed", "_law_less", "_law_most", "_law_told", "_law_left", "_law_lost"] ["_law_script"] (aq nZ) := by walk_at "scp"
structure dW (K : PySem.W.Frag) (x q : Str) (s : Stmt) (d : Value) (f : Addr) : Prop where
 a : PySem.W.nsIn K mainGlobals x = some (some (.ref f))
 l : ∃ fd, cz K x q s f d fd
 k : PySem.W.keepIn K (.ref f) = true
structure Ms (K : PySem.W.Frag) (C : Addr) (x q : Str) (s : Stmt) (d : Value) (f : Addr) : Prop where
 a : PySem.W.findIn K (.ref C) x = some (some (.ref f))
 l : ∃ fd, cz K x q s f d fd
 k : PySem.W.keepIn K (.ref f) = true
 i : PySem.W.isFn K (.ref f) = true
structure MG (K : PySem.W.Frag) (C : Addr) : Prop where
 pg : PySem.W.plainGet K C Str.empty = true
 hd : PySem.W.hasDictIn K C = true
 po : PySem.W.plainOver K C = true
 sa : PySem.W.findIn K (.ref C) "__setattr__" = some (some (.builtin "object.__setattr__"))
 t1 : PySem.W.findIn K (.ref C) "__class__" = some (some (.builtin "object.__class__"))
 t2 : PySem.W.mroIn K C (.type "object") = some true
 t3 : PySem.W.typeIn K (.ref C) = some (.type "type")
set_option genSizeOf false in
set_option genInjectivity false in
structure Ad where
 bQ : Addr
 gN : FuncData
 cN : Addr
 lJ : FuncData
 aP : Addr
 eU : FuncData
 bY : Addr
 jU : FuncData
 bJ : Addr
 jc : FuncData
 bB : Addr
 iC : FuncData
 fm : Addr
 qe : FuncData
 bA : Addr
 g6 : FuncData
 bL : Addr
 i9 : FuncData
 a9 : Addr
 gm : FuncData
 bK : Addr
 iZ : FuncData
 bC : Addr
 ic : FuncData
 aQ : Addr
 eP : FuncData
 aO : Addr
 eS : FuncData
 bf : Addr
 gf : FuncData
 bH : Addr
 i7 : FuncData
 bD : Addr
 ik : FuncData
 a8 : Addr
 gk : FuncData
 aV : Addr
 fv : FuncData
 gy : Addr
 mO : FuncData
structure Txt (K : PySem.W.Frag) (mg : Str -> Option Value) (a : Ad) : Prop where
 dS : cz K "by_last" "by_last" iM a.bQ (.none) a.gN
 gZ : mg "by_last" = some (.ref a.bQ)
 j1 : cz K "fewest" "fewest" jQ a.cN (.none) a.lJ
 lL : PySem.W.keepIn K (.ref a.cN) = true
 kZ : mg "fewest" = some (.ref a.cN)
 dg : cz K "first_within" "first_within" du a.aP (.none) a.eU
 e7 : PySem.W.keepIn K (.ref a.aP) = true
 eT : mg "first_within" = some (.ref a.aP)
 iL : cz K "is_rung" "is_rung" iW a.bY (.none) a.jU
 kh : PySem.W.keepIn K (.ref a.bY) = true
 jM : mg "is_rung" = some (.ref a.bY)
 gI : cz K "gave_way" "gave_way" et a.bJ (.none) a.jc
 iY : PySem.W.keepIn K (.ref a.bJ) = true
 jg : mg "gave_way" = some (.ref a.bJ)
 e9 : cz K "shares_at" "shares_at" bI a.bB (.none) a.iC
 cR : PySem.W.keepIn K (.ref a.bB) = true
 cS : mg "shares_at" = some (.ref a.bB)
 oQ : cz K "thin" "thin" oJ a.fm (.none) a.qe
 qT : PySem.W.keepIn K (.ref a.fm) = true
 qC : mg "thin" = some (.ref a.fm)
 fg : cz K "share_sum" "share_sum" fq a.bA (.none) a.g6
 eD : PySem.W.keepIn K (.ref a.bA) = true
 eA : mg "share_sum" = some (.ref a.bA)
 gT : cz K "price_of" "price_of" d5 a.bL (.none) a.i9
 jd : PySem.W.keepIn K (.ref a.bL) = true
 jh : mg "price_of" = some (.ref a.bL)
 eO : cz K "new_weight" "new_weight" cU a.a9 (.none) a.gm
 gC : PySem.W.keepIn K (.ref a.a9) = true
 fZ : mg "new_weight" = some (.ref a.a9)
 gD : cz K "gains_of" "gains_of" d6 a.bK (.none) a.iZ
 je : PySem.W.keepIn K (.ref a.bK) = true
 jf : mg "gains_of" = some (.ref a.bK)
 fw : cz K "best_last" "best_last" fD a.bC (.none) a.ic
 iz : PySem.W.keepIn K (.ref a.bC) = true
 ip : mg "best_last" = some (.ref a.bC)
 dj : cz K "best_wakings" "best_wakings" b5 a.aQ (.none) a.eP
 eW : PySem.W.keepIn K (.ref a.aQ) = true
 eZ : mg "best_wakings" = some (.ref a.aQ)
 df : cz K "_law_cell_at" "_law_cell_at" dt a.aO (.none) a.eS
 a7 : PySem.W.keepIn K (.ref a.aO) = true
 a0 : mg "_law_cell_at" = some (.ref a.aO)
 eL : cz K "_law_mixed" "_law_mixed" eF a.bf (.none) a.gf
 cA : PySem.W.keepIn K (.ref a.bf) = true
 cB : mg "_law_mixed" = some (.ref a.bf)
 gY : cz K "_law_own" "_law_own" gK a.bH (.none) a.i7
 i5 : PySem.W.keepIn K (.ref a.bH) = true
 ja : mg "_law_own" = some (.ref a.bH)
 fM : cz K "_law_name" "_law_name" fB a.bD (.none) a.ik
 hJ : PySem.W.keepIn K (.ref a.bD) = true
 ig : mg "_law_name" = some (.ref a.bD)
 eI : cz K "_law_cells" "_law_cells" eu a.a8 (.none) a.gk
 f7 : PySem.W.keepIn K (.ref a.a8) = true
 f9 : mg "_law_cells" = some (.ref a.a8)
 dP : cz K "_law_claims" "_law_claims" dM a.aV (.none) a.fv
 fc : PySem.W.keepIn K (.ref a.aV) = true
 fE : mg "_law_claims" = some (.ref a.aV)
 vk : cz K "law" "law" nZ a.gy (.none) a.mO
 uf : mg "law" = some (.ref a.gy)
 bR : mg "enumerate" = none
 dz : mg "len" = none
 fW : mg "list" = none
 kn : mg "max" = none
 jR : mg "min" = none
 fF : mg "range" = none
 jA : mg "set" = none
 b3 : mg "sorted" = none
 gS : mg "sum" = none
 lR : mg "zip" = none
theorem Ay {K : PySem.W.Frag} {h : Heap} {mg : Str -> Option Value} {bQ cN aP bY bJ bB fm bA bL a9 bK bC aQ aO bf bH bD a8 aV gy : Addr}  (X : K.In h) (G : h.Ns mainGlobals mg)
 (iN : dW K "by_last" "by_last" iM (.none) bQ)
 (ib : dW K "fewest" "fewest" jQ (.none) cN)
 (cb : dW K "first_within" "first_within" du (.none) aP)
 (fU : dW K "is_rung" "is_rung" iW (.none) bY)
 (eG : dW K "gave_way" "gave_way" et (.none) bJ)
 (dE : dW K "shares_at" "shares_at" bI (.none) bB)
 (mB : dW K "thin" "thin" oJ (.none) fm)
 (dF : dW K "share_sum" "share_sum" fq (.none) bA)
 (eM : dW K "price_of" "price_of" d5 (.none) bL)
 (c5 : dW K "new_weight" "new_weight" cU (.none) a9)
 (ez : dW K "gains_of" "gains_of" d6 (.none) bK)
 (dG : dW K "best_last" "best_last" fD (.none) bC)
 (b9 : dW K "best_wakings" "best_wakings" b5 (.none) aQ)
 (cj : dW K "_law_cell_at" "_law_cell_at" dt (.none) aO)
 (c6 : dW K "_law_mixed" "_law_mixed" eF (.none) bf)
 (eh : dW K "_law_own" "_law_own" gK (.none) bH)
 (dD : dW K "_law_name" "_law_name" fB (.none) bD)
 (cW : dW K "_law_cells" "_law_cells" eu (.none) a8)
 (cF : dW K "_law_claims" "_law_claims" dM (.none) aV)
 (vA : dW K "law" "law" nZ (.none) gy)
 (bR : PySem.W.nsIn K mainGlobals "enumerate" = some none)
 (dz : PySem.W.nsIn K mainGlobals "len" = some none)
 (fW : PySem.W.nsIn K mainGlobals "list" = some none)
 (kn : PySem.W.nsIn K mainGlobals "max" = some none)
 (jR : PySem.W.nsIn K mainGlobals "min" = some none)
 (fF : PySem.W.nsIn K mainGlobals "range" = some none)
 (jA : PySem.W.nsIn K mainGlobals "set" = some none)
 (b3 : PySem.W.nsIn K mainGlobals "sorted" = some none)
 (gS : PySem.W.nsIn K mainGlobals "sum" = some none)
 (lR : PySem.W.nsIn K mainGlobals "zip" = some none)
 : ∃ a : Ad, a.gy = a.gy /\ Txt K mg a :=
 ⟨⟨bQ, iN.l.choose, cN, ib.l.choose, aP, cb.l.choose, bY, fU.l.choose, bJ, eG.l.choose, bB, dE.l.choose, fm, mB.l.choose, bA, dF.l.choose, bL, eM.l.choose, a9, c5.l.choose, bK, ez.l.choose, bC, dG.l.choose, aQ, b9.l.choose, aO, cj.l.choose, bf, c6.l.choose, bH, eh.l.choose, bD, dD.l.choose, a8, cW.l.choose, aV, cF.l.choose, gy, vA.l.choose⟩, rfl, {
   dS := iN.l.choose_spec,
   gZ := PySem.W.mg_of X G iN.a,
   j1 := ib.l.choose_spec,
   lL := ib.k,
   kZ := PySem.W.mg_of X G ib.a,
   dg := cb.l.choose_spec,
   e7 := cb.k,
   eT := PySem.W.mg_of X G cb.a,
   iL := fU.l.choose_spec,
   kh := fU.k,
   jM := PySem.W.mg_of X G fU.a,
   gI := eG.l.choose_spec,
   iY := eG.k,
   jg := PySem.W.mg_of X G eG.a,
   e9 := dE.l.choose_spec,
   cR := dE.k,
   cS := PySem.W.mg_of X G dE.a,
   oQ := mB.l.choose_spec,
   qT := mB.k,
   qC := PySem.W.mg_of X G mB.a,
   fg := dF.l.choose_spec,
   eD := dF.k,
   eA := PySem.W.mg_of X G dF.a,
   gT := eM.l.choose_spec,
   jd := eM.k,
   jh := PySem.W.mg_of X G eM.a,
   eO := c5.l.choose_spec,
   gC := c5.k,
   fZ := PySem.W.mg_of X G c5.a,
   gD := ez.l.choose_spec,
   je := ez.k,
   jf := PySem.W.mg_of X G ez.a,
   fw := dG.l.choose_spec,
   iz := dG.k,
   ip := PySem.W.mg_of X G dG.a,
   dj := b9.l.choose_spec,
   eW := b9.k,
   eZ := PySem.W.mg_of X G b9.a,
   df := cj.l.choose_spec,
   a7 := cj.k,
   a0 := PySem.W.mg_of X G cj.a,
   eL := c6.l.choose_spec,
   cA := c6.k,
   cB := PySem.W.mg_of X G c6.a,
   gY := eh.l.choose_spec,
   i5 := eh.k,
   ja := PySem.W.mg_of X G eh.a,
   fM := dD.l.choose_spec,
   hJ := dD.k,
   ig := PySem.W.mg_of X G dD.a,
   eI := cW.l.choose_spec,
   f7 := cW.k,
   f9 := PySem.W.mg_of X G cW.a,
   dP := cF.l.choose_spec,
   fc := cF.k,
   fE := PySem.W.mg_of X G cF.a,
   vk := vA.l.choose_spec,
   uf := PySem.W.mg_of X G vA.a,
   bR := PySem.W.mg_none_of X G bR,
   dz := PySem.W.mg_none_of X G dz,
   fW := PySem.W.mg_none_of X G fW,
   kn := PySem.W.mg_none_of X G kn,
   jR := PySem.W.mg_none_of X G jR,
   fF := PySem.W.mg_none_of X G fF,
   jA := PySem.W.mg_none_of X G jA,
   b3 := PySem.W.mg_none_of X G b3,
   gS := PySem.W.mg_none_of X G gS,
   lR := PySem.W.mg_none_of X G lR
 }⟩
def uc (K : PySem.W.Frag) : Sp := fun vs H Q _ => ∃ (l : Addr) (ns : List Int), vs = [.ref l] /\ bp K H l (ns.map V.int) /\ ns.length <= 63 /\ ∀ H', Q (.bl true) H'
section
variable {P : Program} {w : World} {K : PySem.W.Frag} {mg : Str -> Option Value} {base : Heap} {a : Ad}
def Jo : PyData -> Bool
 | .int _ => true
 | _ => false
theorem Dm {H : Hp} {Q : VK} {v : V} {ds : List PyData} {i : Int} (hp : Dv H v (.list ds)) (BF : ds.all Jo = true) (h0 : 0 <= i) (h1 : i < ds.length) (h : ∀ n, PyData.int n ∈ ds -> Q (.int n) H) : kA K v (.int i) H Q := by
 obtain ⟨m, rfl⟩ := Int.eq_ofNat_of_zero_le h0
 have hi : m < ds.length := by omega
 have hm : ds[m] ∈ ds := List.getElem_mem hi
 have hb : Jo ds[m] = true := List.all_eq_true.mp BF _ hm
 obtain ⟨n, hn⟩ : ∃ n, ds[m] = .int n := by
  cases e : ds[m] with
  | int n => exact ⟨n, rfl⟩
  | _ => rw [e] at hb; cases hb
 have e : kr ds (m : Int) = some (.int n) := fR (by rw [List.getElem?_eq_getElem hi, hn])
 exact qX (.inr hp) e (lU (h n (hn ▸ hm)))
local macro_rules | `(tactic| walk_at "rd1") => `(tactic| first
 | ((with_reducible refine' Dm ?e1 ?e2 ?e3 ?e4 (fun n hn => ?q)); (case e1 => walk_at "dat"); (case e2 => exact rfl); (case e3 => omega); (case e4 => (simp only [List.length_cons, List.length_nil]; omega)); (case' q => simp only [List.mem_cons, List.not_mem_nil, or_false, PyData.int.injEq] at hn))
 | fail)
def j5 : Sp := fun vs H Q _ => ∃ n, vs = [.int n] /\ ∀ r, 0 <= r -> r < 2147483647 -> Q (.int r) H
theorem lO {H : Hp} {Q : VK} {E : XK} {n : Int} (q : ∀ r, 0 <= r -> r < 2147483647 -> Q (.int r) H) : j5 [.int n] H Q E := ⟨n, rfl, q⟩
theorem vg (T : Txt K mg a) : bG P w K mg base hZ 1 a.bf a.gf ["_law_number"] j5 := by
 refine T.eL.ok dR (fun vs H Q E h => ?_) (fun cV A outer s H vs Q E hr h => ?_)
 . obtain ⟨_, rfl, _⟩ := h; rfl
 . obtain ⟨n, rfl, q⟩ := h
   refine ⟨_, (ai (av (i := 0) dR.nd rfl (Or.inl rfl) (aj aF (aj b8 (aj aW (aj aF (pv 0) af) af) af) af))
    (ai (av (i := 0) dR.nd rfl (Or.inl rfl) (aj aF (aj b8 (pv 0) (aj aW (aj aM (pv 0) af) af)) af))
    (au (aN (aj aF (aj b8 (aj aW (pv 0) af) (aj aW (aj aM (pv 0) af) af)) af))))), ?_⟩
   repeat' (walk_at "rd1")
   exact q _ (by assumption) (by omega)
theorem lj (T : Txt K mg a) : jD P w K mg base 1 a.bf ["_law_number"] [] j5 :=
 ⟨⟨_, _, vg T, T.eL.binds fun _ _ _ _ _ _ => .all fun us hl => match us, hl with | [_], _ => rfl, .nil⟩⟩
def oU : Sp := fun vs H Q _ => ∃ n, vs = [.int n] /\ ∀ r, Q (.int r) H
theorem EF {H : Hp} {Q : VK} {E : XK} {n : Int} (q : ∀ r, Q (.int r) H) : oU [.int n] H Q E := ⟨n, rfl, q⟩
theorem zu (T : Txt K mg a) : bG P w K mg base hZ 2 a.bH a.i7 ["_law_cell"] oU := by
 have cY := lj (P := P) (w := w) (base := base) T
 refine T.gY.ok jk (fun vs H Q E h => ?_) (fun cV A outer s H vs Q E hr h => ?_)
 . obtain ⟨_, rfl, _⟩ := h; rfl
 . obtain ⟨n, rfl, q⟩ := h
   refine ⟨_, (ai (fA (bu (pE hr.Dy) (aj aF (pv 0) af) af (bz _))
    (au (aN (aj aM (pv 0) af)))
    cD)
    (ai (av (i := 1) jk.nd rfl (Or.inl rfl) (aG cY (hr.mono (by decide)) rfl T.cB T.cA (ae (aj aM (pv 0) af) ag)))
    (au (aN (aj aW (pv 1) (aj b8 af (aG cY (hr.mono (by decide)) rfl T.cB T.cA (ae (aj aW (pv 1) af) ag)))))))), ?_⟩
   repeat' (walk_at "rd1")
   . exact q _
   . refine lO (fun r1 h1 h2 => ?_)
     repeat' (walk_at "rd1")
     refine lO (fun r2 h3 h4 => ?_)
     repeat' (walk_at "rd1")
     exact q _
theorem yn (T : Txt K mg a) : jD P w K mg base 2 a.bH ["_law_cell"] [] oU :=
 ⟨⟨_, _, zu T, T.gY.binds fun _ _ _ _ _ _ => .all fun us hl => match us, hl with | [_], _ => rfl, .nil⟩⟩
def ou (s : Str) : Prop := ∀ c ∈ s.cps.toList, c < 1114112
theorem ou.sub {s t : Str} (h : ou t) (k : ∀ c ∈ s.cps.toList, c ∈ t.cps.toList) : ou s := fun c hc => h c (k c hc)
theorem ou.app {s t : Str} (h : ou s) (k : ou t) : ou (s ++ t) := by
 intro c hc
 have : c ∈ (s.cps ++ t.cps).toList := hc
 rw [Array.toList_append] at this
 rcases List.mem_append.mp this with z | z
 . exact h c z
 . exact k c z
theorem ou.one {c : Nat} {t : Str} (h : ou t) (k : c ∈ t.cps.toList) : ou ⟨#[c]⟩ := by
 intro x hx
 have : x = c := by simpa using hx
 subst this; exact h x k
theorem ou.abc : ou "abcdefghijklmnopqrstuvwxyz" := by
 have h : ((Str.ofString "abcdefghijklmnopqrstuvwxyz").cps.toList.all fun c => decide (c < 1114112)) = true := by decide +kernel
 intro c hc
 exact of_decide_eq_true (List.all_eq_true.mp h c hc)
theorem iA : (Str.ofString "abcdefghijklmnopqrstuvwxyz").length = 26 := by decide +kernel
theorem qF (c : Nat) : (Str.mk #[c]).length = 1 := rfl
def Bk (s : Str) : Prop := s.length <= 200 /\ ou s
abbrev nr : Str := Str.ofString "abcdefghijklmnopqrstuvwxyz"
theorem Bi : ∀ i : Fin 26, nr.cps.toList[i.val]? = some (97 + i.val) := by decide +kernel
def j8 (c : Int) : Str := bU (bU nr (some (c / 156 % 20)) none) none (some (c / 3120 % 6))
def lQ (c : Int) : Int := c / 18720 % (((j8 c).length : Nat) + 1)
def js (c : Int) : Int := [1, 3, 5, 7, 9, 11].getD (c / 26 % 6).toNat 0
def oX (c k : Int) : Nat := 97 + ((c + k * js c) % 26).toNat
def yH (c k : Int) : Str := bU (bU nr (some (k * 7 % 26)) none) none (some (k % 3 * (c / 112320 % 2)))
def ug (c k : Int) : Str := ((bU (j8 c) none (some (lQ c)) ++ ⟨#[oX c k]⟩) ++ bU (j8 c) (some (lQ c)) none) ++ yH c k
theorem xN (x y : Str) : (x ++ y).cps.toList = x.cps.toList ++ y.cps.toList := by show (x.cps ++ y.cps).toList = _; simp
theorem tI (c : Int) : js c = 1 \/ js c = 3 \/ js c = 5 \/ js c = 7 \/ js c = 9 \/ js c = 11 := by
 unfold js
 have h0 : 0 <= c / 26 % 6 := by omega
 have h1 : c / 26 % 6 < 6 := by omega
 generalize c / 26 % 6 = z at *
 have : z = 0 \/ z = 1 \/ z = 2 \/ z = 3 \/ z = 4 \/ z = 5 := by omega
 rcases this with rfl | rfl | rfl | rfl | rfl | rfl <;> simp
theorem w5 {c k k' : Int} (h0 : 0 <= k) (h1 : k < 26) (h2 : 0 <= k') (h3 : k' < 26) (h : ug c k = ug c k') : k = k' := by
 have e := congrArg (fun s : Str => s.cps.toList) h
 simp only [ug, xN, List.append_assoc] at e
 have e2 := List.append_cancel_left e
 have e3 : oX c k = oX c k' := (List.cons.inj e2).1
 unfold oX at e3
 have e4 : (c + k * js c) % 26 = (c + k' * js c) % 26 := by omega
 rcases tI c with m | m | m | m | m | m <;> rw [m] at e4 <;> omega
theorem As (c k : Int) : Bk (ug c k) := by
 have al : nr.length = 26 := iA
 have l1 := cw nr (some (c / 156 % 20)) none
 have l2 : (j8 c).length <= _ := cw (bU nr (some (c / 156 % 20)) none) none (some (c / 3120 % 6))
 have l3 := cw (j8 c) none (some (lQ c))
 have l4 := cw (j8 c) (some (lQ c)) none
 have l5 := cw nr (some (k * 7 % 26)) none
 have l6 : (yH c k).length <= _ := cw (bU nr (some (k * 7 % 26)) none) none (some (k % 3 * (c / 112320 % 2)))
 have r : ou (j8 c) := (ou.abc.sub dc).sub dc
 have ck : oX c k < 1114112 := by
  unfold oX
  generalize c + k * js c = z
  omega
 refine ⟨?_, (((r.sub dc).app ?_).app (r.sub dc)).app ((ou.abc.sub dc).sub dc)⟩
 . simp only [ug, Str.length_append, qF]; omega
 . intro d hd
   have : d = oX c k := by simpa using hd
   omega
def jO : Sp := fun vs H Q _ => ∃ c k, vs = [.int c, .int k] /\ 0 <= k /\ k < 100 /\ ∀ H', ah H H' -> Q (.str (ug c k)) H'
theorem wz {H : Hp} {Q : VK} {E : XK} {c k : Int} (h : 0 <= k /\ k < 100) (q : ∀ H', ah H H' -> Q (.str (ug c k)) H') : jO [.int c, .int k] H Q E := ⟨c, k, rfl, h.1, h.2, q⟩
theorem B4 {H : Hp} {Q : VK} {v : V} {ls : List Int} {i : Int} (hp : Dv H v (.list (ls.map PyData.int))) (h0 : 0 <= i) (h1 : i < ls.length) (h : Q (.int (ls.getD i.toNat 0)) H) : kA K v (.int i) H Q := by
 obtain ⟨m, rfl⟩ := Int.eq_ofNat_of_zero_le h0
 have hi : m < ls.length := by omega
 refine qX (d := .int (ls.getD m 0)) (.inr hp) (fR (by rw [List.getElem?_map, List.getElem?_eq_getElem hi]; simp [List.getD_eq_getElem?_getD, hi])) (lU h)
theorem xi {H : Hp} {Q : VK} {i : Int} (h0 : 0 <= i) (h1 : i < 26) (h : Q (.str ⟨#[97 + i.toNat]⟩) H) : kA K (.str (Str.ofString "abcdefghijklmnopqrstuvwxyz")) (.int i) H Q :=
 AX (by rw [iA]; decide) h0 (by rw [iA]; omega) fun c hc => by
  have e := Bi ⟨i.toNat, by omega⟩
  have e2 : some c = some (97 + i.toNat) := hc.symm.trans e
  rw [Option.some.inj e2]; exact h
local macro_rules | `(tactic| walk_at "rd1") => `(tactic| first
 | ((with_reducible refine' B4 (ls := [1, 3, 5, 7, 9, 11]) ?e1 ?e2 ?e3 ?_); (case e1 => walk_at "dat"); (case e2 => omega); (case e3 => (simp only [List.length_cons, List.length_nil]; omega)))
 | ((with_reducible refine' zW ?e1 (fun _ => ?_)); (case e1 => walk_at "len"))
 | ((with_reducible refine' xi ?e1 ?e2 ?_); (case e1 => omega); (case e2 => omega))
 | fail)
set_option hygiene false in
local macro_rules | `(tactic| walk_at "len") => `(tactic| first
 | (simp only [Str.length_append, qF, iA] at *; omega)
 | fail)
theorem uQ (T : Txt K mg a) : bG P w K mg base hZ 1 a.bD a.ik ["_law_cell", "_law_k"] jO := by
 refine T.fM.ok bP (fun vs H Q E h => ?_) (fun cV A outer s H vs Q E hr h => ?_)
 . obtain ⟨_, _, rfl, _⟩ := h; rfl
 . obtain ⟨c, k, rfl, k0, k1, q⟩ := h
   have al := iA
   refine ⟨_, (ai (av (i := 2) bP.nd rfl (Or.inl rfl) tJ)
    (ai (av (i := 3) bP.nd rfl (Or.inl rfl) (aS dQ (pv 2) (aj aF (aj aW (pv 0) (aj b8 (pv 1) (aS dQ (bo (qq (vs := [.int 1, .int 3, .int 5, .int 7, .int 9, .int 11]) rfl)) (aj aF (aj aM (pv 0) af) af) (fun _ _ => rfl)))) af) (fun _ _ => rfl)))
    (ai (av (i := 4) bP.nd rfl (Or.inl rfl) (cf fS (cf fS (pv 2) (cG (aj aF (aj aM (pv 0) af) af)) dJ) dJ (cG (aj aF (aj aM (pv 0) af) af))))
    (ai (av (i := 5) bP.nd rfl (Or.inl rfl) (aj aF (aj aM (pv 0) af) (aj aW (aY bX rfl T.dz PySem.boot_len (ae (pv 4) ag)) af)))
    (ai (av (i := 6) bP.nd rfl (Or.inl rfl) (cf fS (cf fS (pv 2) (cG (aj aF (aj b8 (pv 1) af) af)) dJ) dJ (cG (aj b8 (aj aF (pv 1) af) (aj aF (aj aM (pv 0) af) af)))))
    (au (aN (aj mR (aj mR (aj mR (cf fS (pv 4) dJ (cG (pv 5))) (pv 3)) (cf fS (pv 4) (cG (pv 5)) dJ)) (pv 6))))))))), ?_⟩
   have hm : 0 <= [1, 3, 5, 7, 9, 11].getD (c / 26 % 6).toNat (0 : Int) /\ [1, 3, 5, 7, 9, 11].getD (c / 26 % 6).toNat (0 : Int) <= 11 := by
    have := tI c
    unfold js at this
    omega
   repeat' (walk_at "rd1")
   exact q _ (by walk_at "same")
theorem rg (T : Txt K mg a) : jD P w K mg base 1 a.bD ["_law_cell", "_law_k"] [] jO :=
 ⟨⟨_, _, uQ T, T.fM.binds fun _ _ _ _ _ _ => .all fun us hl => match us, hl with | [_, _], _ => rfl, .nil⟩⟩
theorem q9 (T : Txt K mg a) (s : Shared) (u : Value) : BindsTo s a.mO ⟨[u], []⟩ [("_law_script", u)] := by
 obtain ⟨oc, od, kV, doc, pm, an, cV, ct, vy, e, lk, rh⟩ := T.vk.ex
 rw [e]
 exact .of_eq rfl
theorem kc (T : Txt K mg a) : bG P w K mg base hZ 1 a.aO a.eS ["_law_script", "_law_k"] (pJ K) := by
 refine T.df.ok jq (fun vs H Q E h => ?_) (fun cV A outer s H vs Q E hr h => ?_)
 . obtain ⟨_, _, _, rfl, _⟩ := h; rfl
 . obtain ⟨l, ns, i, rfl, hl, h0, k⟩ := h
   refine ⟨_, (ai (fA (bu lD (pv 1) (aY bX rfl T.dz PySem.boot_len (ae (pv 0) ag)) (bz _))
    (au (aN (aS dQ (pv 0) (pv 1) (fun _ _ => rfl))))
    cD)
    (au (aN af))), ?_⟩
   repeat' (walk_at "rd1")
   . exact yY hl (xZ h0 (by assumption)) k
   . rw [wU h0 (by assumption)] at k; exact k
theorem cP (T : Txt K mg a) : jD P w K mg base 1 a.aO ["_law_script", "_law_k"] [] (pJ K) :=
 ⟨⟨_, _, kc T, T.df.binds fun _ _ _ _ _ _ => .all fun us hl => match us, hl with | [_, _], _ => rfl, .nil⟩⟩
def jB (K : PySem.W.Frag) : Sp := fun vs H Q _ => ∃ (l : Addr) (ns : List Int) (m : Int), vs = [.ref l, .int m] /\ bp K H l (ns.map V.int) /\ 0 <= m /\ m <= 200 /\ ∀ p H' (ms : List Int), ah H H' -> H p = none -> (ms.length : Int) = m -> bq H' p (ms.map PyData.int) -> Q (.ref p) H'
theorem xk {H : Hp} {Q : VK} {E : XK} {l : Addr} {ns : List Int} {m : Int} (h : bp K H l (ns.map V.int)) (h0 : 0 <= m) (h1 : m <= 200) (q : ∀ p H' (ms : List Int), ah H H' -> H p = none -> (ms.length : Int) = m -> bq H' p (ms.map PyData.int) -> Q (.ref p) H') : jB K [.ref l, .int m] H Q E := ⟨l, ns, m, rfl, h, h0, h1, q⟩
local macro_rules | `(tactic| walk_at "use") => `(tactic| first
 | with_reducible refine lO (fun _ _ _ => ?_)
 | with_reducible refine EF (fun _ => ?_)
 | ((with_reducible refine' BW ?e1 ?e2 ?_); (case e1 => walk_at "sql"); (case e2 => omega))
 | ((with_reducible refine' xk ?e1 ?e2 ?e3 (fun _ _ _ _ _ _ _ => ?_)); (case e1 => walk_at "sql"); (case e2 => omega); (case e3 => omega))
 | ((with_reducible refine' wz ?e1 (fun _ _ => ?_)); (case e1 => omega))
 | fail)
theorem tR (T : Txt K mg a) : bG P w K mg base hZ 2 a.a8 a.gk ["_law_script", "_law_many"] (jB K) := by
 have aX := cP (P := P) (w := w) (base := base) T
 have cY := lj (P := P) (w := w) (base := base) T
 refine T.eI.ok cC (fun vs H Q E h => ?_) (fun cV A outer s H vs Q E hr h => ?_)
 . obtain ⟨_, _, _, rfl, _⟩ := h; rfl
 . obtain ⟨l, ns, m, rfl, hl, m0, m1, q⟩ := h
   refine ⟨_, (ai (av (i := 2) cC.nd rfl (Or.inl rfl) (cf mD (pv 0) (cG af) (cG (aj aW af (pv 1)))))
    (ai (av (i := 3) cC.nd rfl (Or.inl rfl) (aG aX (hr.mono (by decide)) rfl T.a0 T.a7 (ae (pv 0) (ae af ag))))
    (ai (nP PassesOwn.never (bu lD (aY bX rfl T.dz PySem.boot_len (ae (pv 2) ag)) (pv 1) (bz _))
     (ai (av (i := 3) cC.nd rfl (Or.inl rfl) (aG cY (hr.mono (by decide)) rfl T.cB T.cA (ae (aj aW (pv 3) (aY bX rfl T.dz PySem.boot_len (ae (pv 2) ag))) ag)))
     (au (fQ (lu PySem.F.plainAttrs_list PySem.F.slot_list_append PySem.F.type_list_append c7 (pv 2) (ae (pv 3) ag))))))
    (au (aN (pv 2)))))), ?_⟩
   repeat' (walk_at "rd1")
   obtain ⟨M, rfl⟩ := Int.eq_ofNat_of_zero_le m0
   refine Ah 4 (4 + M) hl (fun p H1 gR qB hp => ?_)
   have Iw : ((ns.drop 4).take (4 + M - 4)).length <= M := by rw [List.length_take]; omega
   generalize (ns.drop 4).take (4 + M - 4) = J4 at *
   repeat' (walk_at "rd1")
   refine qH (fun r σ' H' => ∃ (num : Int) (ms : List Int), σ' = [some (.ref l), some (.int M), some (.ref p), some (.int num)] /\ Mv [p] H1 H' /\ bq H' p (ms.map PyData.int) /\ ms.length <= M /\ r = M - ms.length) ⟨_, _, J4, rfl, Mv.refl, hp, Iw, rfl⟩ ?_
   rintro r σ' H' ⟨num, ms, rfl, mv, yu, hle, rfl⟩
   repeat' (walk_at "rd1")
   . rename_i hb x x0 x1 H3 Nb Lh
     refine ⟨M - (ms.length + 1), by omega, x, ms ++ [x], rfl, by walk_at "mv", by rw [List.map_append]; exact Lh, by rw [List.length_append]; simp only [List.length_cons, List.length_nil]; omega, by rw [List.length_append]; rfl⟩
   . exact q p H' ms (by walk_at "same") qB (by omega) yu
theorem rW (T : Txt K mg a) : jD P w K mg base 2 a.a8 ["_law_script", "_law_many"] [] (jB K) :=
 ⟨⟨_, _, tR T, T.eI.binds fun _ _ _ _ _ _ => .all fun us hl => match us, hl with | [_, _], _ => rfl, .nil⟩⟩
abbrev C4 := Str × Int × Int × Int
def cQ (c : C4) : PyData := .tuple [.str c.1, .int c.2.1, .int c.2.2.1, .int c.2.2.2]
structure xf (cs : List C4) : Prop where
 nm : ∀ c ∈ cs, Bk c.1
 wd : ∀ c ∈ cs, c.2.1 <= c.2.2.1
structure fY (cs : List C4) : Prop where
 ok : xf cs
 w1 : ∀ c ∈ cs, 1 <= c.2.2.2 /\ c.2.2.2 <= 10 ^ 12
 nd : (cs.map (·.1)).Nodup
theorem uO (c : Int) : ∀ m : Nat, m <= 26 -> ((List.range m).map fun i => ug c (i : Nat)).Nodup := fun m hm => by
 rw [List.Nodup, List.pairwise_map]
 refine List.Pairwise.imp_of_mem (fun ha hb CZ e => CZ ?_) List.nodup_range
 have h1 := List.mem_range.mp ha
 have h2 := List.mem_range.mp hb
 have := w5 (by omega) (by omega) (by omega) (by omega) e
 omega
def gF (K : PySem.W.Frag) : Sp := fun vs H Q _ => ∃ (l : Addr) (ns : List Int) (m : Int), vs = [.ref l, .int m] /\ bp K H l (ns.map V.int) /\ 0 <= m /\ m <= 26 /\ ∀ p H' (cs : List C4), ah H H' -> H p = none -> (cs.length : Int) <= m -> fY cs -> bq H' p (cs.map cQ) -> Q (.ref p) H'
theorem sG {H : Hp} {Q : VK} {E : XK} {l : Addr} {ns : List Int} {m : Int} (h : bp K H l (ns.map V.int)) (h0 : 0 <= m) (h1 : m <= 26) (q : ∀ p H' (cs : List C4), ah H H' -> H p = none -> (cs.length : Int) <= m -> fY cs -> bq H' p (cs.map cQ) -> Q (.ref p) H') : gF K [.ref l, .int m] H Q E := ⟨l, ns, m, rfl, h, h0, h1, q⟩
set_option maxHeartbeats 0 in
theorem oI (T : Txt K mg a) : bG P w K mg base hZ 3 a.aV a.fv ["_law_script", "_law_many"] (gF K) := by
 have aX := cP (P := P) (w := w) (base := base) T
 have pI := yn (P := P) (w := w) (base := base) T
 have lT := rW (P := P) (w := w) (base := base) T
 have nE := rg (P := P) (w := w) (base := base) T
 refine T.dP.ok aB (fun vs H Q E h => ?_) (fun cV A outer s H vs Q E hr h => ?_)
 . obtain ⟨_, _, _, rfl, _⟩ := h; rfl
 . obtain ⟨l, ns, m, rfl, hl, m0, m1, q⟩ := h
   refine ⟨_, (ai (av (i := 2) aB.nd rfl (Or.inl rfl) (aG pI (hr.mono (by decide)) rfl T.ja T.i5 (ae (aG aX (hr.mono (by decide)) rfl T.a0 T.a7 (ae (pv 0) (ae af ag))) ag)))
    (nS (fA (bu (pE hr.Dy) (aj aF (aj aM (pv 2) af) af) af (bz _))
     (au (av (i := 1) aB.nd rfl (Or.inl rfl) (aj aF (pv 1) af)))
     cD)
    (ai (av (i := 3) aB.nd rfl (Or.inl rfl) (aG lT (hr.mono (by decide)) rfl T.f9 T.f7 (ae (pv 0) (ae (aj b8 af (pv 1)) ag))))
    (ai (av (i := 4) aB.nd rfl (Or.inl rfl) (aj aF (pv 2) af))
    (ai (av (i := 5) aB.nd rfl (Or.inl rfl) (bo ag))
    (ai (dq PassesOwn.never rfl (kL rfl T.fF (ae (pv 1) ag)) (ak (i := 6) aB.nd rfl (Or.inl rfl))
     (ai (av (i := 7) aB.nd rfl (Or.inl rfl) (aS dQ (pv 3) (aj b8 af (pv 6)) (fun _ _ => rfl)))
     (ai (av (i := 8) aB.nd rfl (Or.inl rfl) (aS dQ (pv 3) (aj aW (aj b8 af (pv 6)) af) (fun _ _ => rfl)))
     (ai (av (i := 9) aB.nd rfl (Or.inl rfl) (aj aW (aS dQ (bo (ae af (ae af (ae (aj km af af) (ae (aj gM af af) ag))))) (aj aF (aj aM (pv 2) af) af) (fun _ _ => rfl)) (aj aF (pv 7) (aS dQ (bo (ae af (ae af (ae (aj km af af) (ae (aj b8 af (pv 1)) ag))))) (pv 4) (fun _ _ => rfl)))))
     (ai (av (i := 10) aB.nd rfl (Or.inl rfl) (aj aW (pv 9) (aS dQ (bo (ae (aj aF (aj aM (pv 7) af) af) (ae (aj aF (aj aM (pv 7) af) af) (ae (aj aF (aj aM (pv 8) af) (aj km af af)) (ae (aj aF (aj aM (pv 7) af) af) ag))))) (pv 4) (fun _ _ => rfl))))
     (ai (av (i := 11) aB.nd rfl (Or.inl rfl) (aj aW af (aj aF (pv 8) (aS dQ (bo (ae af (ae af (ae (aj gM (aj km af af) af) ag)))) (aj aF (aj aM (pv 2) af) af) (fun _ _ => rfl)))))
     (au (fQ (lu PySem.F.plainAttrs_list PySem.F.slot_list_append PySem.F.type_list_append c7 (pv 5) (ae (cg (ae (aG nE (hr.mono (by decide)) rfl T.ig T.hJ (ae (aj aM (pv 2) af) (ae (pv 6) ag))) (ae (pv 9) (ae (pv 10) (ae (pv 11) ag))))) ag))))))))))
    (au (aN (pv 5))))))))), ?_⟩
   obtain ⟨M0, rfl⟩ := Int.eq_ofNat_of_zero_le m0
   repeat' (walk_at "rd1")
   rename_i sh
   refine uw (fun σ' H' => ∃ M : Nat, M <= M0 /\ σ' = [some (.ref l), some (.int M), some (.int sh), none, none, none, none, none, none, none, none, none] /\ H' = H) ?_ ?_
   . repeat' (walk_at "rd1")
     . rename_i hb
       exact ⟨(((M0 : Nat) : Int) % 8).toNat, by omega, by rw [Int.toNat_of_nonneg (by omega)]; rfl, rfl⟩
     . exact ⟨M0, Nat.le_refl _, rfl, rfl⟩
   rintro σ0 H0 ⟨M, hM, rfl, rfl⟩
   repeat' (walk_at "rd1")
   rename_i pc H1 ms gR qB Ey By w0 w1 pf H2 cm nu Fd
   refine lG (fun j σ' H' => ∃ z6 z7 z8 z9 ju mZ cs, σ' = [some (.ref l), some (.int M), some (.int sh), some (.ref pc), some (.int (sh % 4)), some (.ref pf), z6, z7, z8, z9, ju, mZ] /\ Mv [pf] H2 H' /\ bq H' pf (cs.map cQ) /\ cs.length = j /\ xf cs /\ (∀ c ∈ cs, 1 <= c.2.2.2 /\ c.2.2.2 <= 10 ^ 12) /\ cs.map (·.1) = (List.range j).map fun i => ug (sh / 48) (i : Nat)) ⟨_, _, _, _, _, _, [], rfl, Mv.refl, Fd, rfl, ⟨fun c h => by simp at h, fun c h => by simp at h⟩, fun c h => by simp at h, rfl⟩ ?_ ?_
   . rintro j σ' H' hj ⟨z6, z7, z8, z9, ju, mZ, cs, rfl, mv, yu, uI, aI, Io, GL⟩
     have Nj : j < M := by simpa using hj
     have fin : ∀ (c : C4) H3 (σ2 : St) (z6 z7 z8 z9 ju mZ : Option V), c.1 = ug (sh / 48) (0 + (j : Nat)) -> c.2.1 <= c.2.2.1 -> (1 <= c.2.2.2 /\ c.2.2.2 <= 10 ^ 12) -> Mv [pf] H2 H3 -> bq H3 pf (cs.map cQ ++ [cQ c]) -> σ2 = [some (.ref l), some (.int M), some (.int sh), some (.ref pc), some (.int (sh % 4)), some (.ref pf), z6, z7, z8, z9, ju, mZ] -> ∃ z6 z7 z8 z9 ju mZ cs, σ2 = [some (.ref l), some (.int M), some (.int sh), some (.ref pc), some (.int (sh % 4)), some (.ref pf), z6, z7, z8, z9, ju, mZ] /\ Mv [pf] H2 H3 /\ bq H3 pf (cs.map cQ) /\ cs.length = j + 1 /\ xf cs /\ (∀ c ∈ cs, 1 <= c.2.2.2 /\ c.2.2.2 <= 10 ^ 12) /\ cs.map (·.1) = (List.range (j + 1)).map fun i => ug (sh / 48) (i : Nat) := by
      intro c H3 σ2 z6 z7 z8 z9 ju mZ hn hw M3 m l2 e
      refine ⟨_, _, _, _, _, _, cs ++ [c], e, m, by rw [List.map_append]; exact l2, by simp [uI], ⟨fun d hd => ?_, fun d hd => ?_⟩, fun d hd => ?_, ?_⟩
      . rcases List.mem_append.mp hd with hd | hd
        . exact aI.nm d hd
        . have : d = c := by simpa using hd
          subst this; rw [hn]; exact As _ _
      . rcases List.mem_append.mp hd with hd | hd
        . exact aI.wd d hd
        . have : d = c := by simpa using hd
          subst this; exact hw
      . rcases List.mem_append.mp hd with hd | hd
        . exact Io d hd
        . have : d = c := by simpa using hd
          subst this; exact M3
      . rw [List.map_append, GL, List.range_succ, List.map_append, List.map_cons, List.map_nil, List.map_cons, List.map_nil, hn]
        rw [Int.zero_add]
     repeat' (walk_at "rd1")
     all_goals (refine' fin (_, _, _, _) _ _ _ _ _ _ _ _ ?e1 ?e2 ?e6 ?e3 ?e4 ?e5; (case e4 => assumption); (case e5 => exact rfl); (case e1 => exact rfl); (case e6 => (dsimp only; omega)); (case e3 => walk_at "mv"); (case e2 => (dsimp only; omega)))
   . rintro σ' H' ⟨z6, z7, z8, z9, ju, mZ, cs, rfl, mv, yu, uI, aI, Io, GL⟩
     repeat' (walk_at "rd1")
     exact q pf H' cs (by walk_at "same") (by walk_at "none") (by omega) ⟨aI, Io, by rw [GL]; exact uO _ _ (by omega)⟩ yu
theorem nF (T : Txt K mg a) : jD P w K mg base 3 a.aV ["_law_script", "_law_many"] [] (gF K) :=
 ⟨⟨_, _, oI T, T.dP.binds fun _ _ _ _ _ _ => .all fun us hl => match us, hl with | [_, _], _ => rfl, .nil⟩⟩
theorem zF {s : Str} (h : Bk s) : PyData.canLay0 (.str s) = true := by
 show s.cps.all (· < 0x110000) = true
 rw [Array.all_eq_true']
 intro c hc
 exact decide_eq_true (h.2 c (by simpa using hc))
set_option hygiene false in
local macro_rules | `(tactic| walk_at "rd1") => `(tactic| first
 | fail)
def bS (ts : List Int) (f l : Int) : Option Int := ts.find? fun t => decide (f <= t) && decide (t <= l)
def iJ : Sp := fun vs H Q _ => ∃ (v : V) (ts : List Int) (f l : Int), vs = [v, .int f, .int l] /\ Dv H v (.list (ts.map PyData.int)) /\ Q (ow (bS ts f l)) H
theorem sX {H : Hp} {Q : VK} {E : XK} {v : V} {ts : List Int} {f l : Int} (h : Dv H v (.list (ts.map PyData.int))) (q : Q (ow (bS ts f l)) H) : iJ [v, .int f, .int l] H Q E := ⟨v, ts, f, l, rfl, h, q⟩
theorem q0 (T : Txt K mg a) : bG P w K mg base hZ 1 a.aP a.eU ["wakings", "first", "last"] iJ := by
 refine T.dg.ok eV (fun vs H Q E h => ?_) (fun cV A outer s H vs Q E hr h => ?_)
 . obtain ⟨_, _, _, _, rfl, _⟩ := h; rfl
 . obtain ⟨v, ts, f, l, rfl, hv, q⟩ := h
   refine ⟨_, (ai (dq PassesOwn.never rfl (bx (pv 0)) (ak (i := 3) eV.nd rfl (Or.inl rfl))
    (au (fA (jZ ji ji (pv 1) (pv 3) (pv 2))
     (au (aN (pv 3)))
     cD)))
    (au (aN gO))), ?_⟩
   repeat' (walk_at "rd1")
   refine DE (cs := ts) (gd := PyData.int) hv (fun j σ' H' => ∃ z3, σ' = [some v, some (.int f), some (.int l), z3] /\ H' = H /\ bS (ts.drop j) f l = bS ts f l) ⟨_, rfl, rfl, by simp⟩ (fun i σ' H' _ ⟨_, _, e, _⟩ a' xs _ hx => by rw [e]; exact hx) ?_ ?_
   . rintro i c x σ' H' hc ⟨z3, rfl, rfl, he⟩ _ hd
     obtain rfl := (hd (ah.refl _)).int_inv
     have hi : i < ts.length := (List.getElem?_eq_some_iff.mp hc).1
     have vN : ts.drop i = c :: ts.drop (i + 1) := by
      rw [List.drop_eq_getElem_cons hi]
      rw [List.getElem?_eq_getElem hi] at hc
      rw [Option.some.inj hc]
     rw [vN] at he
     unfold bS at he
     rw [List.find?_cons] at he
     repeat' (walk_at "rd1")
     . rename_i h1 h2
       rw [show (decide (f <= c) && decide (c <= l)) = true by simp [h1, h2]] at he
       have : bS ts f l = some c := he.symm
       rw [this] at q
       exact q
     . rename_i h1 h2
       rw [show (decide (f <= c) && decide (c <= l)) = false by simp [h2]] at he
       exact ⟨_, rfl, rfl, he⟩
     . rename_i h1
       rw [show (decide (f <= c) && decide (c <= l)) = false by simp [h1]] at he
       exact ⟨_, rfl, rfl, he⟩
   . rintro σ' H' ⟨z3, rfl, rfl, he⟩
     rw [List.drop_length] at he
     repeat' (walk_at "rd1")
     rw [<- he] at q
     exact q
theorem oD (T : Txt K mg a) : jD P w K mg base 1 a.aP ["wakings", "first", "last"] [] iJ :=
 ⟨⟨_, _, q0 T, T.dg.binds fun _ _ _ _ _ _ => .all fun us hl => match us, hl with | [_, _, _], _ => rfl, .nil⟩⟩
local macro_rules | `(tactic| walk_at "use") => `(tactic| first
 | ((with_reducible refine' sX ?e1 ?_); (case e1 => walk_at "dat"))
 | fail)
def hit (ts : List Int) (c : C4) : Bool := (bS ts c.2.1 c.2.2.1).isSome
theorem wR (o : Option Int) : decide (ow o = .aZ) = !o.isSome := by cases o <;> rfl
def pN : Sp := fun vs H Q _ => ∃ (v u : V) (ts : List Int) (c : C4), vs = [v, u] /\ Dv H v (.list (ts.map PyData.int)) /\ Dv H u (cQ c) /\ Q (.bl (hit ts c)) H
theorem DI {H : Hp} {Q : VK} {E : XK} {v u : V} {ts : List Int} {c : C4} (h : Dv H v (.list (ts.map PyData.int))) (h2 : Dv H u (cQ c)) (q : Q (.bl (hit ts c)) H) : pN [v, u] H Q E := ⟨v, u, ts, c, rfl, h, h2, q⟩
theorem Be (T : Txt K mg a) : bG P w K mg base hZ 2 a.bY a.jU ["wakings", "claim"] pN := by
 have kd := oD (P := P) (w := w) (base := base) T
 refine T.iL.ok o7 (fun vs H Q E h => ?_) (fun cV A outer s H vs Q E hr h => ?_)
 . obtain ⟨_, _, _, _, rfl, _⟩ := h; rfl
 . obtain ⟨v, u, ts, c, rfl, hv, hu, q⟩ := h
   unfold cQ at hu
   refine ⟨_, (au (aN (iy x4 (aG kd (hr.mono (by decide)) rfl T.eT T.e7 (ae (pv 0) (ae (aS dQ (pv 1) af (fun _ _ => rfl)) (ae (aS dQ (pv 1) af (fun _ _ => rfl)) ag)))) gO (bz _)))), ?_⟩
   repeat' (walk_at "rd1")
   show Q (.bl (!decide (ow (bS ts c.2.1 c.2.2.1) = .aZ))) H
   rw [wR, Bool.not_not]
   exact q
theorem wF (T : Txt K mg a) : jD P w K mg base 2 a.bY ["wakings", "claim"] [] pN :=
 ⟨⟨_, _, Be T, T.iL.binds fun _ _ _ _ _ _ => .all fun us hl => match us, hl with | [_, _], _ => rfl, .nil⟩⟩
local macro_rules | `(tactic| walk_at "use") => `(tactic| first
 | ((with_reducible refine' DI ?e1 ?e2 ?_); (case e1 => walk_at "dat"); (case e2 => assumption))
 | fail)
def kq (ts : List Int) (cs : List C4) : Int := ((cs.filter (hit ts)).map (·.2.2.2)).sum
def pT (ts : List Int) (cs : List C4) : List Str := (cs.filter fun c => !hit ts c).map (·.1)
def oS : Sp := fun vs H Q _ => ∃ (v u : V) (ts : List Int) (cs : List C4), vs = [v, u] /\ Dv H v (.list (ts.map PyData.int)) /\ Dv H u (.list (cs.map cQ)) /\ cs.length <= 60 /\ ∀ q H' ss, ah H H' -> H q = none -> ss.Perm (pT ts cs) -> Ci ss -> bq H' q (ss.map PyData.str) -> Q (.ref q) H'
theorem DH {H : Hp} {Q : VK} {E : XK} {v u : V} {ts : List Int} {cs : List C4} (h : Dv H v (.list (ts.map PyData.int))) (h2 : Dv H u (.list (cs.map cQ))) (hl : cs.length <= 60) (q : ∀ q H' ss, ah H H' -> H q = none -> ss.Perm (pT ts cs) -> Ci ss -> bq H' q (ss.map PyData.str) -> Q (.ref q) H') : oS [v, u] H Q E := ⟨v, u, ts, cs, rfl, h, h2, hl, q⟩
theorem zL (T : Txt K mg a) : bG P w K mg base hZ 3 a.bJ a.jc ["wakings", "claims"] oS := by
 have rC := wF (P := P) (w := w) (base := base) T
 refine T.gI.ok nJ (fun vs H Q E h => ?_) (fun cV A outer s H vs Q E hr h => ?_)
 . obtain ⟨_, _, _, _, rfl, _⟩ := h; rfl
 . obtain ⟨v, u, ts, cs, rfl, hv, hu, hl, q⟩ := h
   refine ⟨_, (au (aN (aY pO rfl T.b3 PyProof.Rows.boot_sorted (ae (ie (T := ["claim"]) (M := ["wakings", "claims"]) (tV (aq et) ["wakings", "claims"] rfl rfl (by decide +kernel)) rfl (bx (pv 1)) (fun _ _ _ _ _ => (ak (i := 0) (show List.Nodup (["claim", "wakings", "claims"] : List Str) by decide +kernel) rfl (Or.inl rfl))) (de (by decide)) (fun _ _ _ _ _ => (jv (uD (rj (K := K) rfl (aG rC (hr.mono (by decide)) rfl T.jM T.kh (ae (pv 1) (ae (pv 0) ag))) (fun _ => rfl))))) (fun _ _ _ _ _ => (aS (nQ (K := K) rfl) (pv 0) af (fun _ _ => rfl)))) ag)))), ?_⟩
   repeat' (walk_at "rd1")
   refine kF (cs := cs) (gd := cQ) (fun c => !hit ts c) (fun c => .str c.1) hu (by omega) (fun _ => rfl) (fun x c H' N hc ml ia yes no => ?_) (fun pq H5 p5 yB M4 => ?_)
   . repeat' (walk_at "rd1")
     refine cJ (fun hb => ?_) (fun hb => no hb _ (ah.refl _))
     unfold cQ at ia
     repeat' (walk_at "rd1")
     exact yes hb _ _ (ah.refl _) (.str _)
   . have MR : bq H5 pq ((pT ts cs).map PyData.str) := by unfold pT; rw [List.map_map]; exact M4
     have tW : (pT ts cs).length < 64 := by
      unfold pT
      rw [List.length_map]
      have := List.length_filter_le (fun c => !hit ts c) cs
      omega
     repeat' (walk_at "rd1")
     rename_i q6 H6 ss rJ Cw K1 Fv MU
     exact q _ _ ss (by walk_at "same") (by walk_at "none") K1 Fv MU
theorem xj (T : Txt K mg a) : jD P w K mg base 3 a.bJ ["wakings", "claims"] [] oS :=
 ⟨⟨_, _, zL T, T.gI.binds fun _ _ _ _ _ _ => .all fun us hl => match us, hl with | [_, _], _ => rfl, .nil⟩⟩
theorem aU (ts : List Int) (c : C4) : hit ts c = true ↔ ∃ t ∈ ts, c.2.1 <= t /\ t <= c.2.2.1 := by
 unfold hit bS
 rw [List.find?_isSome]
 simp
theorem jT {l₁ l₂ : List Int} (h : l₁.Perm l₂) : l₁.sum = l₂.sum := by
 induction h with
 | nil => rfl
 | cons x _ ih => rw [List.sum_cons, List.sum_cons, ih]
 | swap x y l => simp only [List.sum_cons]; omega
 | trans _ _ h1 h2 => exact h1.trans h2
theorem take_snoc {α : Type} {l : List α} {j : Nat} {c : α} (h : l[j]? = some c) : l.take (j + 1) = l.take j ++ [c] := by
 rw [List.take_add_one, h]; rfl
theorem yf (xs ys : List Int) : (xs ++ ys).sum = xs.sum + ys.sum := by
 induction xs with
 | nil => simp
 | cons x r ih => simp only [List.cons_append, List.sum_cons, ih]; omega
def sf (P : C4 -> Bool) (g : C4 -> Int) (cs : List C4) : Int := ((cs.filter P).map g).sum
theorem gG (P : C4 -> Bool) (g : C4 -> Int) : sf P g [] = 0 := rfl
theorem bE (P : C4 -> Bool) (g : C4 -> Int) (c : C4) (cs : List C4) : sf P g (c :: cs) = (if P c = true then g c else 0) + sf P g cs := by
 unfold sf
 rw [List.filter_cons]
 split
 . rw [List.map_cons, List.sum_cons]
 . omega
theorem oG (P : C4 -> Bool) (g : C4 -> Int) (cs ds : List C4) : sf P g (cs ++ ds) = sf P g cs + sf P g ds := by
 unfold sf; rw [List.filter_append, List.map_append, yf]
theorem kW {P R : C4 -> Bool} {g h : C4 -> Int} : ∀ {cs : List C4}, (∀ c ∈ cs, P c = true -> R c = true /\ g c <= h c) -> (∀ c ∈ cs, R c = true -> 0 <= h c) -> sf P g cs <= sf R h cs
 | [], _, _ => by rw [gG, gG]; exact Int.le_refl _
 | c :: cs, h1, h2 => by
   have ih := kW (fun d hd => h1 d (List.mem_cons_of_mem _ hd)) (fun d hd => h2 d (List.mem_cons_of_mem _ hd))
   rw [bE, bE]
   by_cases hp : P c = true
   . obtain ⟨hr, hg⟩ := h1 c List.mem_cons_self hp
     rw [if_pos hp, if_pos hr]; omega
   . rw [if_neg hp]
     by_cases hr : R c = true
     . rw [if_pos hr]; have := h2 c List.mem_cons_self hr; omega
     . rw [if_neg hr]; omega
theorem tD {P R : C4 -> Bool} {g : C4 -> Int} : ∀ {cs : List C4}, (∀ c ∈ cs, 0 <= g c) -> sf (fun c => P c || R c) g cs <= sf P g cs + sf R g cs
 | [], _ => by rw [gG, gG, gG]; decide
 | c :: cs, h => by
   have ih := tD (P := P) (R := R) (fun d hd => h d (List.mem_cons_of_mem _ hd))
   have hc := h c List.mem_cons_self
   rw [bE, bE, bE]
   by_cases hp : P c = true
   . by_cases hr : R c = true
     . simp only [hp, hr, Bool.or_self, if_true]; omega
     . simp only [hp, hr, Bool.true_or, if_true, if_false, Bool.false_eq_true]; omega
   . by_cases hr : R c = true
     . simp only [hp, hr, Bool.or_true, if_true, if_false, Bool.false_eq_true]; omega
     . simp only [hp, hr, Bool.or_self, if_false, Bool.false_eq_true]; omega
theorem qf {P : C4 -> Bool} {g : C4 -> Int} {cs ds : List C4} (h : cs.Perm ds) : sf P g cs = sf P g ds := jT ((h.filter _).map _)
def con (p : Int) (c : C4) : Bool := decide (c.2.1 <= p) && decide (p <= c.2.2.1)
def load (f : Str -> Int) (cs : List C4) (p : Int) : Int := sf (con p) (fun c => f c.1) cs
theorem bw {p : Int} {c : C4} : con p c = true ↔ c.2.1 <= p /\ p <= c.2.2.1 := by simp [con]
theorem lq : ∀ (ds : List C4), ds ≠ [] -> ∃ c ∈ ds, ∀ d ∈ ds, d.2.1 <= c.2.1
 | [], h => absurd rfl h
 | [c], _ => ⟨c, by simp, fun d hd => by have : d = c := by simpa using hd
                                         rw [this]; exact Int.le_refl _⟩
 | c :: d :: r, _ => by
   obtain ⟨e, he, hm⟩ := lq (d :: r) (by simp)
   by_cases h : c.2.1 <= e.2.1
   . exact ⟨e, List.mem_cons_of_mem _ he, fun x hx => (List.mem_cons.mp hx).elim (fun z => z ▸ h) (hm x)⟩
   . exact ⟨c, List.mem_cons_self, fun x hx => (List.mem_cons.mp hx).elim (fun z => z ▸ Int.le_refl _) (fun z => by have := hm x z; omega)⟩
theorem n8 {f : Str -> Int} {cs : List C4} {pr : Int} (h0 : 0 <= pr) (hf : ∀ c ∈ cs, 0 <= f c.1) (hl : ∀ c ∈ cs, load f cs c.2.1 <= pr) (t : Int) : load f cs t <= pr := by
 by_cases h : cs.filter (con t) = []
 . unfold load sf; rw [h]; exact h0
 . obtain ⟨c, hc, hm⟩ := lq _ h
   obtain ⟨JP, C9⟩ := List.mem_filter.mp hc
   refine Int.le_trans (kW (fun d hd hp => ⟨?_, Int.le_refl _⟩) (fun d hd _ => hf d hd)) (hl c JP)
   have h1 := hm d (List.mem_filter.mpr ⟨hd, hp⟩)
   have h2 := bw.mp hp
   have h3 := bw.mp C9
   exact bw.mpr ⟨h1, by omega⟩
theorem nU (t : Int) (ts : List Int) (c : C4) : hit (t :: ts) c = (con t c || hit ts c) := by
 rw [Bool.eq_iff_iff, Bool.or_eq_true, aU, aU, bw]
 simp
theorem qA {f : Str -> Int} {cs : List C4} {pr : Int} (h0 : 0 <= pr) (hf : ∀ c ∈ cs, 0 <= f c.1) (hl : ∀ c ∈ cs, load f cs c.2.1 <= pr) : ∀ ts : List Int, sf (hit ts) (fun c => f c.1) cs <= ts.length * pr
 | [] => by
   have : cs.filter (hit []) = [] := List.filter_eq_nil_iff.mpr fun c _ => by rw [aU]; simp
   unfold sf; rw [this]; simp
 | t :: ts => by
   have ih := qA h0 hf hl ts
   have e : hit (t :: ts) = fun c => con t c || hit ts c := funext (nU t ts)
   have h1 := tD (P := con t) (R := hit ts) (g := fun c => f c.1) (cs := cs) hf
   have h2 := n8 h0 hf hl t
   unfold load at h2
   rw [e, List.length_cons]
   have : ((ts.length + 1 : Nat) : Int) * pr = ts.length * pr + pr := by rw [Int.natCast_add, Int.add_mul]; simp
   omega
theorem jN {P : C4 -> Bool} {g : C4 -> Int} : ∀ cs : List C4, sf P g cs + sf (fun c => !P c) g cs = (cs.map g).sum
 | [] => rfl
 | c :: cs => by
   have ih := jN (P := P) (g := g) cs
   rw [bE, bE, List.map_cons, List.sum_cons]
   by_cases hp : P c = true
   . simp only [hp, if_true, Bool.not_true, Bool.false_eq_true, if_false]; omega
   . simp only [hp, if_false, Bool.not_false, if_true, Bool.false_eq_true]; omega
structure wL (pr : Int) (cs : List C4) (f : Str -> Int) : Prop where
 nn : ∀ c ∈ cs, 0 <= f c.1
 le : ∀ c ∈ cs, f c.1 <= c.2.2.2
 ld : ∀ c ∈ cs, load f cs c.2.1 <= pr
theorem wL.first {pr : Int} {cs : List C4} {f : Str -> Int} (h0 : 0 <= pr) (h : wL pr cs f) (ts : List Int) : kq ts cs <= ts.length * pr + (cs.map fun c => c.2.2.2 - f c.1).sum := by
 have h1 := qA h0 h.nn h.ld ts
 have h2 := jN (P := hit ts) (g := fun c => c.2.2.2 - f c.1) cs
 have h3 : 0 <= sf (fun c => !hit ts c) (fun c => c.2.2.2 - f c.1) cs := by
  have := kW (P := fun _ => false) (R := fun c => !hit ts c) (g := fun _ => 0) (h := fun c => c.2.2.2 - f c.1) (cs := cs) (fun c _ z => by cases z) (fun c hc _ => by have := h.le c hc; omega)
  have e : sf (fun _ => false) (fun _ => 0) cs = 0 := by unfold sf; rw [List.filter_eq_nil_iff.mpr (fun _ _ z => by cases z)]; rfl
  omega
 have h4 : kq ts cs = sf (hit ts) (fun c => f c.1) cs + sf (hit ts) (fun c => c.2.2.2 - f c.1) cs := by
  unfold kq sf
  induction cs.filter (hit ts) with
  | nil => rfl
  | cons c r ih => simp only [List.map_cons, List.sum_cons] at ih ⊢; omega
 omega
def dA (f : Str -> Int) (n : Str) (v : Int) : Str -> Int := fun x => if x = n then v else f x
theorem nj {f : Str -> Int} {ds : List C4} {c : C4} {v p : Int} (hn : c.1 ∉ ds.map (·.1)) : load (dA f c.1 v) (ds ++ [c]) p = load f ds p + (if con p c = true then v else 0) := by
 unfold load
 rw [oG, bE, gG]
 have e1 : sf (con p) (fun d => dA f c.1 v d.1) ds = sf (con p) (fun d => f d.1) ds := by
  unfold sf
  congr 1
  refine List.map_congr_left fun d hd => ?_
  have : d.1 ≠ c.1 := fun z => hn (z ▸ List.mem_map_of_mem (List.mem_filter.mp hd).1)
  simp [dA, this]
 have e2 : dA f c.1 v c.1 = v := by simp [dA]
 rw [e1, e2]
 omega
def eQ (v : Int) (l : List Int) (hs : List Nat) : List Int := hs.foldl (fun l i => l.set i (l.getD i 0 + v)) l
theorem o9 (v : Int) (l : List Int) (hs : List Nat) (i : Nat) : eQ v l (hs ++ [i]) = (eQ v l hs).set i ((eQ v l hs).getD i 0 + v) := by unfold eQ; rw [List.foldl_append]; rfl
theorem iV (v : Int) : ∀ (hs : List Nat) (l : List Int), (eQ v l hs).length = l.length
 | [], _ => rfl
 | h :: hs, l => by show (eQ v (l.set h (l.getD h 0 + v)) hs).length = _; rw [iV v hs, List.length_set]
theorem kX (v : Int) : ∀ (hs : List Nat) (l : List Int), hs.Nodup -> ∀ i, i < l.length -> (eQ v l hs).getD i 0 = l.getD i 0 + (if i ∈ hs then v else 0)
 | [], l, _, i, _ => by show l.getD i 0 = _; simp
 | h :: hs, l, nd, i, hi => by
   obtain ⟨n1, n2⟩ := List.nodup_cons.mp nd
   show (eQ v (l.set h (l.getD h 0 + v)) hs).getD i 0 = _
   rw [kX v hs _ n2 i (by rw [List.length_set]; exact hi)]
   by_cases e : i = h
   . subst e
     have : (l.set i (l.getD i 0 + v)).getD i 0 = l.getD i 0 + v := by
      rw [List.getD_eq_getElem?_getD, List.getElem?_set_self hi]; rfl
     rw [this, if_neg n1, if_pos List.mem_cons_self]; omega
   . have : (l.set h (l.getD h 0 + v)).getD i 0 = l.getD i 0 := by
      rw [List.getD_eq_getElem?_getD, List.getElem?_set_ne (Ne.symm e), <- List.getD_eq_getElem?_getD]
     rw [this]
     by_cases m : i ∈ hs
     . rw [if_pos m, if_pos (List.mem_cons_of_mem _ m)]
     . rw [if_neg m, if_neg (by simp [e, m])]
def heldOf (ps : List Int) (c : C4) : List Nat := (ps.zipIdx.filter fun x => con x.1 c).map (·.2)
theorem dr {ps : List Int} {c : C4} {i : Nat} : i ∈ heldOf ps c ↔ ∃ p, ps[i]? = some p /\ con p c = true := by
 unfold heldOf
 rw [List.mem_map]
 constructor
 . rintro ⟨⟨p, j⟩, h, rfl⟩
   obtain ⟨h1, h2⟩ := List.mem_filter.mp h
   exact ⟨p, List.mk_mem_zipIdx_iff_getElem?.mp h1, h2⟩
 . rintro ⟨p, h1, h2⟩
   exact ⟨(p, i), List.mem_filter.mpr ⟨List.mk_mem_zipIdx_iff_getElem?.mpr h1, h2⟩, rfl⟩
theorem xx (ps : List Int) (c : C4) : (heldOf ps c).Nodup := by
 have h1 : (ps.zipIdx.map (·.2)).Nodup := by
  rw [List.zipIdx_map_snd]; exact List.nodup_range'
 exact h1.sublist (List.filter_sublist.map _)
theorem mw {ps : List Int} {c : C4} {i : Nat} (h : i ∈ heldOf ps c) : i < ps.length := by
 obtain ⟨p, h1, _⟩ := dr.mp h
 exact (List.getElem?_eq_some_iff.mp h1).1
theorem tu (ps : List Int) (c : C4) : (heldOf ps c).length <= ps.length := by
 unfold heldOf
 rw [List.length_map]
 exact Nat.le_trans (List.length_filter_le _ _) (by rw [List.length_zipIdx]; exact Nat.le_refl _)
theorem rl {ps : List Int} {c : C4} {v : Int} {g : Int -> Int} : eQ v (ps.map g) (heldOf ps c) = ps.map fun p => g p + (if con p c = true then v else 0) := by
 have hl : (eQ v (ps.map g) (heldOf ps c)).length = ps.length := by rw [iV, List.length_map]
 refine List.ext_getElem (by rw [hl, List.length_map]) fun i h1 h2 => ?_
 have hi : i < ps.length := by omega
 have h3 := kX v (heldOf ps c) (ps.map g) (xx ps c) i (by rw [List.length_map]; exact hi)
 rw [List.getD_eq_getElem?_getD, List.getElem?_eq_getElem h1, Option.getD_some] at h3
 rw [h3, List.getElem_map, List.getD_eq_getElem?_getD, List.getElem?_map, List.getElem?_eq_getElem hi]
 by_cases hc : con ps[i] c = true
 . rw [if_pos hc, if_pos (dr.mpr ⟨_, List.getElem?_eq_getElem hi, hc⟩)]; rfl
 . rw [if_neg hc, if_neg (fun z => by
    obtain ⟨p, e1, e2⟩ := dr.mp z
    rw [List.getElem?_eq_getElem hi] at e1
    cases e1
    exact hc e2)]; rfl
structure Pr (pr : Int) (ps : List Int) (f : Str -> Int) (ds : List C4) : Prop where
 nn : ∀ c ∈ ds, 0 <= f c.1 /\ f c.1 <= c.2.2.2
 ld : ∀ p ∈ ps, load f ds p <= pr
theorem Pr.step {pr mx v : Int} {ps : List Int} {f : Str -> Int} {ds : List C4} {c : C4} (h : Pr pr ps f ds) (hn : c.1 ∉ ds.map (·.1)) (hm : ∀ i ∈ heldOf ps c, (ps.map (load f ds)).getD i 0 <= mx) (hx : ∃ i ∈ heldOf ps c, mx = (ps.map (load f ds)).getD i 0) (hv : v = c.2.2.2 \/ v = pr - mx) (Cd : v <= c.2.2.2) (vT : v <= pr - mx) (hw : 1 <= c.2.2.2) : Pr pr ps (dA f c.1 v) (ds ++ [c]) := by
 have Fm : mx <= pr := by
  obtain ⟨i, hi, e⟩ := hx
  have hl := mw hi
  rw [List.getD_eq_getElem?_getD, List.getElem?_map, List.getElem?_eq_getElem hl] at e
  have : mx = load f ds ps[i] := e
  rw [this]; exact h.ld _ (List.getElem_mem hl)
 refine ⟨fun d hd => ?_, fun p hp => ?_⟩
 . rcases List.mem_append.mp hd with hd | hd
   . have : d.1 ≠ c.1 := fun z => hn (z ▸ List.mem_map_of_mem hd)
     simp only [dA, if_neg this]
     exact h.nn d hd
   . have : d = c := by simpa using hd
     subst this
     simp only [dA, if_true]
     omega
 . rw [nj hn]
   have := h.ld p hp
   by_cases hc : con p c = true
   . rw [if_pos hc]
     obtain ⟨i, hi, rfl⟩ := List.getElem_of_mem hp
     have := hm i (dr.mpr ⟨_, List.getElem?_eq_getElem hi, hc⟩)
     rw [List.getD_eq_getElem?_getD, List.getElem?_map, List.getElem?_eq_getElem hi] at this
     have : load f ds ps[i] <= mx := this
     omega
   . rw [if_neg hc]; omega
theorem Pr.shr {pr : Int} {ps : List Int} {f : Str -> Int} {ls cs : List C4} (h : Pr pr ps f ls) (hp : ls.Perm cs) (hm : ∀ c ∈ cs, c.2.1 ∈ ps) : wL pr cs f := by
 refine ⟨fun c hc => (h.nn c (hp.mem_iff.mpr hc)).1, fun c hc => (h.nn c (hp.mem_iff.mpr hc)).2, fun c hc => ?_⟩
 have := h.ld _ (hm c hc)
 unfold load at this ⊢
 rwa [qf hp] at this
theorem qY {H : Hp} {y : V} {d : PyData} (hy : Dv H y d) : ∀ {xs : List V} {ds : List PyData} (j : Nat), aT H xs ds -> aT H (xs.set j y) (ds.set j d)
 | [], [], _, _ => .nil
 | _ :: _, _ :: _, 0, .cons _ t => .cons hy t
 | _ :: _, _ :: _, j + 1, .cons h t => .cons h (qY hy j t)
theorem jC {d : PyData} (hd : jm d = true) {ds : List PyData} (j : Nat) (h : aR ds = true) : aR (ds.set j d) = true := by
 rw [dw] at h ⊢
 intro x hx
 rcases List.mem_or_eq_of_mem_set hx with h1 | rfl
 . exact h x h1
 . exact hd
theorem Bb {D : Ends} {σ : St} {H : Hp} {to ti te : TE} {t : wH} (h : te σ H fun v H1 => to σ H1 fun o H2 => ti σ H2 fun i H3 => t o i v H3 fun H4 => D.nx σ H4) : se te (DX to ti t) D σ H := h
theorem uA {H : Hp} {p : Addr} {ds : List PyData} {j : Nat} {k : Int} {y : V} {d : PyData} {R : Hp -> Prop} (hp : bq H p ds) (hk : rQ ds.length k = some j) (hy : Dv H y d) (hi : jm d = true) (h : ∀ H2, Mv [p] H H2 -> bq H2 p (ds.set j d) -> R H2) : yQ (.ref p) (.int k) y H R := by
 obtain ⟨xs, e, dv, im⟩ := hp
 have m : Mv [p] H (upd H p (.lst (xs.set j y))) := .oB e (by intro _ z; cases z)
 exact ⟨p, xs, k, j, rfl, rfl, e, by rw [dv.length]; exact hk, h _ m ⟨_, aA, m.ym (jC hi j im) (qY hy j dv), jC hi j im⟩⟩
local macro_rules | `(tactic| walk_at "rd1") => `(tactic| first
 | with_reducible refine Bb ?_
 | ((with_reducible refine' uA ?e1 ?e2 ?e3 ?e4 (fun _ _ _ => ?_)); (case e1 => walk_at "lat"); (case e2 => exact rfl); (case e3 => walk_at "dat"); (case e4 => exact rfl))
 | fail)
def gA (c : C4) : Int × Str := (c.2.2.1, c.1)
theorem wD (c : C4) : jm (cQ c) = true := rfl
theorem wZ {c d : C4} (h : cQ c = cQ d) : c = d := by
 obtain ⟨a, b, c, e⟩ := c
 obtain ⟨a', b', c', e'⟩ := d
 simp only [cQ, PyData.tuple.injEq, List.cons.injEq, PyData.str.injEq, PyData.int.injEq, and_true] at h
 obtain ⟨rfl, rfl, rfl, rfl⟩ := h
 rfl
def ft : Sp := fun vs H Q _ => ∃ (v : V) (c : C4), vs = [v] /\ Dv H v (cQ c) /\ ∀ y H', ah H H' -> Dv H' y (.tuple [.int (gA c).1, .str (gA c).2]) -> Q y H'
theorem o6 {H : Hp} {Q : VK} {E : XK} {v : V} {c : C4} (h : Dv H v (cQ c)) (q : ∀ y H', ah H H' -> Dv H' y (.tuple [.int (gA c).1, .str (gA c).2]) -> Q y H') : ft [v] H Q E := ⟨v, c, rfl, h, q⟩
theorem nk (T : Txt K mg a) : bG P w K mg base hZ 1 a.bQ a.gN ["claim"] ft := by
 refine T.dS.ok jV (fun vs H Q E h => ?_) (fun cV A outer s H vs Q E hr h => ?_)
 . obtain ⟨_, _, rfl, _⟩ := h; rfl
 . obtain ⟨v, c, rfl, hv, q⟩ := h
   have Dx : Dv H v (.tuple [.str c.1, .int c.2.1, .int c.2.2.1, .int c.2.2.2]) := hv
   refine ⟨_, (au (aN (cg (ae (aS dQ (pv 0) af (fun _ _ => rfl)) (ae (aS dQ (pv 0) af (fun _ _ => rfl)) ag))))), ?_⟩
   repeat' (walk_at "rd1")
   exact q _ _ (by walk_at "same") (by walk_at "dat")
theorem mM (T : Txt K mg a) : jD P w K mg base 1 a.bQ ["claim"] [] ft :=
 ⟨⟨_, _, nk T, T.dS.binds fun _ _ _ _ _ _ => .all fun us hl => match us, hl with | [_], _ => rfl, .nil⟩⟩
def Ar (pr : Int) (ps : List Int) (f : Str -> Int) (L : List C4) : Prop := ∀ i c, L[i]? = some c -> ∃ p0 ∈ ps, con p0 c = true /\ (∀ p ∈ ps, con p c = true -> load f (L.take i) p <= load f (L.take i) p0) /\ f c.1 <= c.2.2.2 /\ f c.1 <= pr - load f (L.take i) p0 /\ (f c.1 = c.2.2.2 \/ f c.1 = pr - load f (L.take i) p0)
theorem cK {f : Str -> Int} {ds : List C4} {n : Str} {v p : Int} (hn : n ∉ ds.map (·.1)) : load (dA f n v) ds p = load f ds p := by
 unfold load sf
 congr 1
 refine List.map_congr_left fun d hd => ?_
 have : d.1 ≠ n := fun z => hn (z ▸ List.mem_map_of_mem (List.mem_filter.mp hd).1)
 simp only [dA, if_neg this]
theorem Ar.step {pr mx v : Int} {ps : List Int} {f : Str -> Int} {ds : List C4} {c : C4} (h : Ar pr ps f ds) (hn : c.1 ∉ ds.map (·.1)) (hm : ∀ i ∈ heldOf ps c, (ps.map (load f ds)).getD i 0 <= mx) (hx : ∃ i ∈ heldOf ps c, mx = (ps.map (load f ds)).getD i 0) (hv : v = c.2.2.2 \/ v = pr - mx) (h1 : v <= c.2.2.2) (h2 : v <= pr - mx) : Ar pr ps (dA f c.1 v) (ds ++ [c]) := by
 intro i d hi
 by_cases ck : i < ds.length
 . rw [List.getElem?_append_left ck] at hi
   obtain ⟨p0, Cy, k1, k2, k3, k4, k5⟩ := h i d hi
   have hd : d.1 ≠ c.1 := fun z => hn (z ▸ List.mem_map_of_mem (List.mem_of_getElem? hi))
   have ht : (ds ++ [c]).take i = ds.take i := List.take_append_of_le_length (Nat.le_of_lt ck)
   have nu : c.1 ∉ (ds.take i).map (·.1) := fun z => hn (by rw [List.map_take] at z; exact List.mem_of_mem_take z)
   have e : dA f c.1 v d.1 = f d.1 := by simp only [dA, if_neg hd]
   refine ⟨p0, Cy, k1, fun p hp hc => ?_, ?_, ?_, ?_⟩
   . rw [ht, cK nu, cK nu]; exact k2 p hp hc
   . rw [e]; exact k3
   . rw [e, ht, cK nu]; exact k4
   . rw [e, ht, cK nu]; exact k5
 . have MC : i = ds.length := by
    have := (List.getElem?_eq_some_iff.mp hi).1
    rw [List.length_append, List.length_singleton] at this
    omega
   subst MC
   have hd : d = c := by simpa using hi.symm
   subst hd
   have ht : (ds ++ [d]).take ds.length = ds := by simp
   obtain ⟨j, hj, ej⟩ := hx
   obtain ⟨p0, Cy, Fh⟩ := dr.mp hj
   have e0 : mx = load f ds p0 := by rw [ej, List.getD_eq_getElem?_getD, List.getElem?_map, Cy]; rfl
   have e : dA f d.1 v d.1 = v := by simp only [dA, if_true]
   refine ⟨p0, List.mem_of_getElem? Cy, Fh, fun p hp hc => ?_, ?_, ?_, ?_⟩
   . rw [ht, cK hn, cK hn, <- e0]
     obtain ⟨k, hk, rfl⟩ := List.getElem_of_mem hp
     have := hm k (dr.mpr ⟨_, List.getElem?_eq_getElem hk, hc⟩)
     rwa [List.getD_eq_getElem?_getD, List.getElem?_map, List.getElem?_eq_getElem hk] at this
   . rw [e]; exact h1
   . rw [e, ht, cK hn, <- e0]; exact h2
   . rw [e, ht, cK hn, <- e0]; exact hv
def Exact (pr : Int) (cs : List C4) (f : Str -> Int) : Prop := ∃ (ls : List C4) (ps : List Int), ls.Perm cs /\ (ls.Pairwise fun c d => b4 (gA d) (gA c) = false) /\ (∀ x, x ∈ ps ↔ x ∈ cs.map (·.2.1)) /\ Ar pr ps f ls
def jl (f : Str -> Int) (cs : List C4) : List (Str × PyData) := cs.map fun c => (c.1, .int (f c.1))
theorem xR {f : Str -> Int} {n : Str} {v : Int} : ∀ {cs : List C4}, n ∈ cs.map (·.1) -> putD (jl f cs) n (.int v) = jl (dA f n v) cs := fun {cs} h => by
 have h1 : ((jl f cs).any fun kv => decide (kv.1 = n)) = true := by
  obtain ⟨c, hc, rfl⟩ := List.mem_map.mp h
  exact List.any_eq_true.mpr ⟨_, List.mem_map_of_mem hc, decide_eq_true rfl⟩
 unfold putD
 rw [if_pos h1]
 unfold jl
 rw [List.map_map]
 refine List.map_congr_left fun c _ => ?_
 simp only [Function.comp, dA]
 split <;> rfl
theorem wg {cs : List C4} {n : Str} (h : n ∉ cs.map (·.1)) : putD (jl (fun _ => 0) cs) n (.int 0) = jl (fun _ => 0) cs ++ [(n, .int 0)] := by
 have h1 : ¬ ((jl (fun _ => 0) cs).any fun kv => decide (kv.1 = n)) = true := by
  intro z
  obtain ⟨kv, K7, e⟩ := List.any_eq_true.mp z
  obtain ⟨c, hc, rfl⟩ := List.mem_map.mp K7
  exact h (List.mem_map.mpr ⟨c, hc, of_decide_eq_true e⟩)
 unfold putD
 rw [if_neg h1]
theorem yj {f : Str -> Int} {n : Str} {cs : List C4} (h : n ∈ cs.map (·.1)) : sN (jl f cs) n = some (.int (f n)) := by
 unfold sN
 cases e : (jl f cs).find? fun kv => decide (kv.1 = n) with
 | none =>
   obtain ⟨c, hc, rfl⟩ := List.mem_map.mp h
   have := List.find?_eq_none.mp e _ (List.mem_map_of_mem hc)
   simp at this
 | some kv =>
   have h1 := List.find?_some e
   obtain ⟨c, hc, rfl⟩ := List.mem_map.mp (List.mem_of_find?_eq_some e)
   have : c.1 = n := of_decide_eq_true h1
   subst this
   rfl
theorem eN {α : Type} (l : List α) : l.filter (fun _ => true) = l := List.filter_eq_self.mpr fun _ _ => rfl
theorem gH : ∀ {xs ys : List Int}, xs.Nodup -> (∀ x ∈ xs, x ∈ ys) -> xs.length <= ys.length
 | [], _, _, _ => Nat.zero_le _
 | x :: xs, ys, h, hs => by
   obtain ⟨h1, h2⟩ := List.nodup_cons.mp h
   have hx := hs x List.mem_cons_self
   have ih := gH (xs := xs) (ys := ys.erase x) h2 fun y hy => (List.mem_erase_of_ne (fun z : y = x => h1 (by rw [<- z]; exact hy))).mpr (hs y (List.mem_cons_of_mem _ hy))
   rw [List.length_erase_of_mem hx] at ih
   have : 0 < ys.length := List.length_pos_of_mem hx
   rw [List.length_cons]
   omega
theorem p9 {α β : Type} {f : α -> β} {l : List α} {j : Nat} {c : α} (h : (l.map f).Nodup) (hc : l[j]? = some c) : f c ∉ (l.take j).map f := by
 intro hm
 obtain ⟨d, hd, e⟩ := List.mem_map.mp hm
 obtain ⟨i, hi, rfl⟩ := List.getElem_of_mem hd
 have iD : i < j := by rw [List.length_take] at hi; omega
 have mS : j < l.length := (List.getElem?_eq_some_iff.mp hc).1
 rw [List.Nodup, List.pairwise_map] at h
 have := List.pairwise_iff_getElem.mp h i j (by omega) mS iD
 rw [List.getElem_take] at e
 have sT : l[j] = c := Option.some.inj ((List.getElem?_eq_getElem mS).symm.trans hc)
 rw [sT] at this
 exact this e
theorem p7 (f : Str -> Int) (cs : List C4) : (jl f cs).length = cs.length := List.length_map ..
theorem vB (f : Str -> Int) (cs : List C4) (c : C4) : jl f (cs ++ [c]) = jl f cs ++ [(c.1, .int (f c.1))] := by unfold jl; rw [List.map_append]; rfl
theorem xu {n i : Nat} (h : i < n) : rQ n (i : Int) = some i := by unfold rQ; rw [if_pos (Int.natCast_nonneg _), if_pos (Int.ofNat_lt.mpr h)]; rfl
theorem uv {x y b : Addr} (h : b ∈ [x]) : b ∈ [x, y] := by
 have : b = x := by simpa using h
 rw [this]; exact List.mem_cons_self
def iI : Sp := fun vs H Q _ => ∃ (pr : Int) (v : V) (cs : List C4), vs = [.int pr, v] /\ Dv H v (.list (cs.map cQ)) /\ fY cs /\ cs.length <= 60 /\ 0 <= pr /\ ∀ p H' f, ah H H' -> H p = none -> iX H' p (jl f cs) -> wL pr cs f -> Exact pr cs f -> Q (.ref p) H'
theorem jS {H : Hp} {Q : VK} {E : XK} {pr : Int} {v : V} {cs : List C4} (h : Dv H v (.list (cs.map cQ))) (ho : fY cs) (hl : cs.length <= 60) (h0 : 0 <= pr) (q : ∀ p H' f, ah H H' -> H p = none -> iX H' p (jl f cs) -> wL pr cs f -> Exact pr cs f -> Q (.ref p) H') : iI [.int pr, v] H Q E := ⟨pr, v, cs, rfl, h, ho, hl, h0, q⟩
theorem rk (T : Txt K mg a) : bG P w K mg base hZ 5 a.bB a.iC ["price", "claims"] iI := by
 have iT := mM (P := P) (w := w) (base := base) T
 refine T.e9.ok aE (fun vs H Q E h => ?_) (fun cV A outer s H vs Q E hr h => ?_)
 . obtain ⟨_, _, _, rfl, _⟩ := h; rfl
 . obtain ⟨pr, v, cs, rfl, hv, aI, hl, h0, q⟩ := h
   refine ⟨_, (ai (av (i := 2) aE.nd rfl (Or.inl rfl) (j9 (ie (T := ["name", "first", "last", "weight"]) (M := ["price", "claims", "points", "loads", "shares", "05", "06", "07", "08", "held", "place"]) (tV (aq bI) ["price", "claims", "points", "loads", "shares", "name", "first", "last", "weight", "held", "place"] rfl rfl (by decide +kernel)) rfl (bx (pv 1)) (fun _ _ _ _ _ => (iw (K := K) (n := 4) rfl rfl (ao (ak (i := 0) (show List.Nodup (["name", "first", "last", "weight", "price", "claims", "points", "loads", "shares", "05", "06", "07", "08", "held", "place"] : List Str) by decide +kernel) rfl (Or.inl rfl)) (ao (ak (i := 1) (show List.Nodup (["name", "first", "last", "weight", "price", "claims", "points", "loads", "shares", "05", "06", "07", "08", "held", "place"] : List Str) by decide +kernel) rfl (Or.inl rfl)) (ao (ak (i := 2) (show List.Nodup (["name", "first", "last", "weight", "price", "claims", "points", "loads", "shares", "05", "06", "07", "08", "held", "place"] : List Str) by decide +kernel) rfl (Or.inl rfl)) (ao (ak (i := 3) (show List.Nodup (["name", "first", "last", "weight", "price", "claims", "points", "loads", "shares", "05", "06", "07", "08", "held", "place"] : List Str) by decide +kernel) rfl (Or.inl rfl)) bO)))))) (fu (aD (by decide) (aD (by decide) (aD (by decide) (aD (by decide) dU))))) (fun _ _ _ _ _ => d0) (fun _ _ _ _ _ => (pv 1))) rfl rfl T.b3 rfl T.jA))
    (ai (av (i := 3) aE.nd rfl (Or.inr rfl) (ie (T := ["point"]) (M := ["price", "claims", "points", "loads", "shares", "name", "first", "last", "weight", "held", "place"]) (tV (aq bI) ["price", "claims", "points", "loads", "shares", "name", "first", "last", "weight", "held", "place"] rfl rfl (by decide +kernel)) rfl (bx (pv 2)) (fun _ _ _ _ _ => (ak (i := 0) (show List.Nodup (["point", "price", "claims", "points", "loads", "shares", "name", "first", "last", "weight", "held", "place"] : List Str) by decide +kernel) rfl (Or.inl rfl))) (de (by decide)) (fun _ _ _ _ _ => d0) (fun _ _ _ _ _ => af)))
    (ai (av (i := 4) aE.nd rfl (Or.inl rfl) uq)
    (ai (dq PassesOwn.never rfl (bx (pv 1)) (eE (n := 4) rfl (ao (ak (i := 5) aE.nd rfl (Or.inl rfl)) (ao (ak (i := 6) aE.nd rfl (Or.inr rfl)) (ao (ak (i := 7) aE.nd rfl (Or.inr rfl)) (ao (ak (i := 8) aE.nd rfl (Or.inl rfl)) bO)))))
     (au (qR (t4 hr) (pv 4) (pv 5) af rfl)))
    (ai (dq PassesOwn.never rfl (bx (n5 iT (hr.mono (by decide)) rfl T.b3 (qQ rfl T.gZ rfl) (ae (pv 1) ag))) (eE (n := 4) rfl (ao (ak (i := 5) aE.nd rfl (Or.inl rfl)) (ao (ak (i := 6) aE.nd rfl (Or.inr rfl)) (ao (ak (i := 7) aE.nd rfl (Or.inr rfl)) (ao (ak (i := 8) aE.nd rfl (Or.inl rfl)) bO)))))
     (ai (yS (i := 9) aE.nd rfl (Or.inl rfl) (T := ["place", "point"]) (M := ["price", "claims", "points", "loads", "shares", "name", "first", "last", "weight", "held", "010"]) (tV (aq bI) ["price", "claims", "points", "loads", "shares", "name", "first", "last", "weight", "held", "place"] rfl rfl (by decide +kernel)) rfl (mC rfl T.bR (ae (pv 2) ag)) (fun _ _ _ _ _ => (iw (K := K) (n := 2) rfl rfl (ao (ak (i := 0) (show List.Nodup (["place", "point", "price", "claims", "points", "loads", "shares", "name", "first", "last", "weight", "held", "010"] : List Str) by decide +kernel) rfl (Or.inl rfl)) (ao (ak (i := 1) (show List.Nodup (["place", "point", "price", "claims", "points", "loads", "shares", "name", "first", "last", "weight", "held", "010"] : List Str) by decide +kernel) rfl (Or.inl rfl)) bO)))) (fu (aD (by decide) (aD (by decide) dU))) (fun _ _ _ _ _ => (jv (jZ ji ji (pv 8) (pv 1) (pv 9)))) (fun _ _ _ _ _ => (pv 0)) rfl)
     (ai (qR (t4 hr) (pv 4) (pv 5) (aY (lE rfl) rfl T.jR PyProof.Rows.boot_min (ae (pv 8) (ae (aj gM (pv 0) (aY (rE rfl) rfl T.kn PyProof.Rows.boot_max (ae (ie (T := ["place"]) (M := ["price", "claims", "points", "loads", "shares", "name", "first", "last", "weight", "held", "010"]) (tV (aq bI) ["price", "claims", "points", "loads", "shares", "name", "first", "last", "weight", "held", "place"] rfl rfl (by decide +kernel)) rfl (bx (pv 9)) (fun _ _ _ _ _ => (ak (i := 0) (show List.Nodup (["place", "price", "claims", "points", "loads", "shares", "name", "first", "last", "weight", "held", "010"] : List Str) by decide +kernel) rfl (Or.inl rfl))) (de (by decide)) (fun _ _ _ _ _ => d0) (fun _ _ _ _ _ => (aS (nQ (K := K) rfl) (pv 4) (pv 0) (fun _ _ => rfl)))) ag))) ag))) rfl)
     (au (dq PassesOwn.never rfl (bx (pv 9)) (ak (i := 10) aE.nd rfl (Or.inl rfl))
      (au (u9 (aj aW (aS dQ (pv 3) (pv 10) (fun _ _ => rfl)) (xS (t4 hr) (pv 4) (pv 5) (fun _ _ => rfl))) (AZ (pv 3) (pv 10) set_list))))))))
    (au (aN (pv 4)))))))), ?_⟩
   repeat' (walk_at "rd1")
   refine jz ?_
   repeat' (walk_at "rd1")
   refine kF (cs := cs) (gd := cQ) (fun _ => true) (fun c => .int c.2.1) hv (by omega) (fun _ => rfl) (fun x c H2 N hc cm hx yes no => ?_) (fun q1 H1 gR qB kD => ?_)
   . have iq : Dv H2 x (.tuple [.str c.1, .int c.2.1, .int c.2.2.1, .int c.2.2.2]) := hx
     refine iG iq (fun v1 v2 v3 v4 e1 e2 e3 e4 => ?_)
     obtain rfl := e1.str_inv
     obtain rfl := e2.int_inv
     obtain rfl := e3.int_inv
     obtain rfl := e4.int_inv
     refine cJ (fun hb => ?_) (fun hb => by cases hb)
     repeat' (walk_at "rd1")
     exact yes rfl _ _ (ah.refl _) (.int _)
   have jr : Dv H1 (.ref q1) (.list ((cs.map (·.2.1)).map PyData.int)) := by
    have := kD.dv
    rw [eN] at this
    rw [List.map_map]; exact this
   refine kK jr (by rw [List.length_map]; omega) (fun q2 H2 ps cm nu ck kH mU => ?_)
   have lF : ps.length <= 60 := by
    have := gH (ck.imp fun h => Int.ne_of_lt h) (fun x hx => (kH x).mp hx)
    rw [List.length_map] at this
    omega
   repeat' (walk_at "rd1")
   refine kF (cs := ps) (gd := PyData.int) (fun _ => true) (fun _ => .int 0) mU.dv (by omega) (fun _ => rfl) (fun x c H3 N hc sm3 hx yes no => ?_) (fun q3 H3 sm3 uj Ef => ?_)
   . obtain rfl := hx.int_inv
     repeat' (walk_at "rd1")
     refine cJ (fun hb => ?_) (fun hb => by cases hb)
     repeat' (walk_at "rd1")
     exact yes rfl _ _ (ah.refl _) (.int _)
   rw [eN] at Ef
   repeat' (walk_at "rd1")
   rename_i q4 H4 lK sP Gm
   have sH : ah H H3 := (gR.trans cm).trans sm3
   refine uN (Hb := H) (cs := cs) (gd := cQ) hv (fun j σ' H' => ∃ z5 z6 z7 z8, σ' = [some (.int pr), some v, some (.ref q2), some (.ref q3), some (.ref q4), z5, z6, z7, z8, none, none] /\ ah H3 H' /\ iX H' q4 (jl (fun _ => 0) (cs.take j))) ⟨_, _, _, _, rfl, lK, Gm⟩ (fun i σ' H' _ ⟨_, _, _, _, _, ml, _⟩ a' xs _ hx => ah.seq (sH.trans ml) hx) ?_ ?_
   . rintro j c x σ' H' hc ⟨z5, z6, z7, z8, rfl, ml, ia⟩ _ hd
     have hx : Dv H' x (.tuple [.str c.1, .int c.2.1, .int c.2.2.1, .int c.2.2.2]) := hd (sH.trans ml)
     have Ey : (jl (fun _ => 0) (cs.take j)).length <= 60 := by rw [p7, List.length_take]; omega
     refine iG hx (fun v1 v2 v3 v4 e1 e2 e3 e4 => ?_)
     obtain rfl := e1.str_inv
     obtain rfl := e2.int_inv
     obtain rfl := e3.int_inv
     obtain rfl := e4.int_inv
     repeat' (walk_at "rd1")
     rename_i H5 NC Fj
     rw [wg (p9 aI.nd hc)] at Fj
     exact ⟨_, _, _, _, rfl, by walk_at "same", by rw [take_snoc hc, vB]; exact Fj⟩
   rintro σ' H' ⟨z5, z6, z7, z8, rfl, ml, ia⟩
   rw [List.take_length] at ia
   have FU := ml
   have Dx : Dv H' v (.list (cs.map cQ)) := hv.keeps (sH.trans ml)
   repeat' (walk_at "rd1")
   refine qO (cs := cs) cQ gA wD (fun c c' h => by rw [wZ h]) Dx (by omega) (fun c v' H' hc ml hd => o6 hd (fun y L6 s d => ⟨s, d⟩)) (fun sq H5 ls p5 yB gB fX GD => ?_)
   repeat' (walk_at "rd1")
   have E2 : bq H' q2 (ps.map PyData.int) := (mU.keeps sm3).keeps ml
   have En : bq H' q3 (ps.map fun _ => PyData.int 0) := Ef.keeps ml
   have Lk : q2 ≠ q3 := mU.ne uj
   have Ma : q2 ≠ q4 := (mU.keeps sm3).ne sP
   have G5 : q3 ≠ q4 := Ef.ne sP
   have M8 : q2 ≠ sq := E2.ne yB
   have Lz : q3 ≠ sq := En.ne yB
   have KH : q4 ≠ sq := ia.ne yB
   have Gz := E2.keeps p5
   have HZ := En.keeps p5
   have Fj := ia.keeps p5
   have Iw : ls.length = cs.length := gB.length_eq
   have zg : (ls.map (·.1)).Nodup := (gB.map _).nodup_iff.mpr aI.nd
   refine uN (Hb := H5) (cs := ls) (gd := cQ) GD.dv (fun j σ' H' => ∃ z5 z6 z7 z8 z9 ju f, σ' = [some (.int pr), some v, some (.ref q2), some (.ref q3), some (.ref q4), z5, z6, z7, z8, z9, ju] /\ Mv [q3, q4] H5 H' /\ iX H' q4 (jl f cs) /\ bq H' q3 ((ps.map (load f (ls.take j))).map PyData.int) /\ Pr pr ps f (ls.take j) /\ Ar pr ps f (ls.take j)) ⟨_, _, _, _, _, _, fun _ => 0, rfl, Mv.refl, Fj, by rw [List.map_map]; exact HZ, ⟨fun c hc => by simp at hc, fun p _ => h0⟩, fun i c h => by simp at h⟩ (fun i σ' H' _ ⟨_, _, _, _, _, _, _, _, mv, _⟩ a' xs e hx => by cases e; exact mv.sq (by simp [Ne.symm Lz, Ne.symm KH]) hx) ?_ ?_
   . rintro j c x σ' H' hc ⟨z5, z6, z7, z8, z9, ju, f, rfl, mv, ia, An, Fg, Cz⟩ hd _
     have hx : Dv H' x (.tuple [.str c.1, .int c.2.1, .int c.2.2.1, .int c.2.2.2]) := hd rfl mv.tp
     have mS : j < ls.length := (List.getElem?_eq_some_iff.mp hc).1
     have K9 : c ∈ ls := List.mem_of_getElem? hc
     have Bj : c ∈ cs := gB.mem_iff.mp K9
     have GY : c.1 ∈ cs.map (·.1) := List.mem_map_of_mem Bj
     have AQ := p9 zg hc
     have sO := take_snoc hc
     have hw := aI.w1 c Bj
     have Ey : (jl f cs).length <= 60 := by rw [p7]; exact hl
     have Ih : bq H' q2 (ps.map PyData.int) := Gz.mv mv (by simp [Lk, Ma])
     refine iG hx (fun v1 v2 v3 v4 e1 e2 e3 e4 => ?_)
     obtain rfl := e1.str_inv
     obtain rfl := e2.int_inv
     obtain rfl := e3.int_inv
     obtain rfl := e4.int_inv
     repeat' (walk_at "rd1")
     refine DY (cs := ps) (gd := PyData.int) (fun x => con x.1 c) (fun x => .int (x.2 : Nat)) Ih.dv (by omega) (fun _ => rfl) (fun y t Hx N ht cm hy yes no => ?_) (fun hq H6 rJ Cw K0 => ?_)
     . refine zX hy (fun w1 w2 f1 f2 => ?_)
       obtain rfl := f1.int_inv
       obtain rfl := f2.int_inv
       repeat' (walk_at "rd1")
       . rename_i h1
         refine cJ (fun hb => ?_) (fun hb => no (by simp [con, h1, of_decide_eq_false hb]) _ (ah.refl _))
         repeat' (walk_at "rd1")
         exact yes (by simp [con, h1, of_decide_eq_true hb]) _ _ (ah.refl _) (.int _)
       . rename_i h1
         exact cJ (fun hb => by cases hb) (fun _ => no (by simp [con, h1]) _ (ah.refl _))
     have CY : bq H6 hq ((heldOf ps c).map fun i => PyData.int (i : Nat)) := by unfold heldOf; rw [List.map_map]; exact K0
     have Nm := tu ps c
     have LQ := ia.keeps rJ
     have HE := An.keeps rJ
     have Km : q3 ≠ hq := An.ne Cw
     have Ko : q4 ≠ hq := ia.ne Cw
     have mL : 0 < ((heldOf ps c).map fun i => (ps.map (load f (ls.take j))).getD i 0).length := by
      rw [List.length_map]
      have hf : c.2.1 ∈ ps := (kH _).mpr (List.mem_map_of_mem Bj)
      obtain ⟨i, hi, e⟩ := List.getElem_of_mem hf
      exact List.length_pos_of_mem (dr.mpr ⟨c.2.1, by rw [List.getElem?_eq_getElem hi, e], bw.mpr ⟨Int.le_refl _, aI.ok.wd c Bj⟩⟩)
     repeat' (walk_at "rd1")
     refine kF (cs := heldOf ps c) (gd := fun i => .int (i : Nat)) (fun _ => true) (fun i => .int ((ps.map (load f (ls.take j))).getD i 0)) CY.dv (by omega) (fun _ => rfl) (fun y i Hx N hi qb hy yes no => ?_) (fun mq H7 qb Ft Ir => ?_)
     . obtain rfl := hy.int_inv
       have ck := mw hi
       repeat' (walk_at "rd1")
       refine cJ (fun hb => ?_) (fun hb => by cases hb)
       repeat' (walk_at "rd1")
       exact yes rfl _ _ (ah.refl _) (.int _)
     rw [eN] at Ir
     have GC : Dv H7 (.ref mq) (.list (((heldOf ps c).map fun i => (ps.map (load f (ls.take j))).getD i 0).map PyData.int)) := by rw [List.map_map]; exact Ir.dv
     have NM := LQ.keeps qb
     repeat' (walk_at "rd1")
     refine Bq GC mL (fun mx Fm E3 => ?_)
     repeat' (walk_at "rd1")
     rename_i vv hv Cd vT H8 F5 Ig
     rw [xR GY] at Ig
     have NP : sN (jl (dA f c.1 vv) cs) c.1 = some (.int vv) := by rw [yj GY]; simp [dA]
     have HI : bq H8 q3 ((ps.map (load f (ls.take j))).map PyData.int) := (HE.keeps qb).mv F5 (by simp [G5])
     have G6 : bq H8 hq ((heldOf ps c).map fun i => PyData.int (i : Nat)) := (CY.keeps qb).mv F5 (by simp [Ne.symm Ko])
     have Kz : Mv [q3, q4] H5 H8 := by
      refine ((mv.uU rJ).uU qb).step F5 ?_
      exact fun b hb => .inl (List.mem_cons_of_mem _ hb)
     refine uN (Hb := H8) (cs := heldOf ps c) (gd := fun i => PyData.int (i : Nat)) G6.dv (fun t σ' H' => ∃ ju, σ' = [some (.int pr), some v, some (.ref q2), some (.ref q3), some (.ref q4), some (.str c.1), some (.int c.2.1), some (.int c.2.2.1), some (.int c.2.2.2), some (.ref hq), ju] /\ Mv [q3] H8 H' /\ bq H' q3 ((eQ vv (ps.map (load f (ls.take j))) ((heldOf ps c).take t)).map PyData.int)) ⟨_, rfl, Mv.refl, HI⟩ (fun i σ' H' _ ⟨_, _, mv, _⟩ a' xs e hx => by cases e; exact mv.sq (by simp [Ne.symm Km]) hx) ?_ ?_
     . rintro t i x σ' H' hi ⟨ju, rfl, Cg, xE⟩ Fb _
       obtain rfl := (Fb rfl Cg.tp).int_inv
       have hit := mw (List.mem_of_getElem? hi)
       have Kk : iX H' q4 (jl (dA f c.1 vv) cs) := Ig.mv Cg (by simp [Ne.symm G5])
       have rT : (eQ vv (ps.map (load f (ls.take j))) ((heldOf ps c).take t)).length = ps.length := by rw [iV, List.length_map]
       repeat' (walk_at "rd1")
       refine uA (j := i) xE (xu (by rw [List.length_map, rT]; exact hit)) (Dv.int _) rfl (fun H9 GP EV => ?_)
       refine ⟨_, rfl, Cg.step GP fun b hb => .inl hb, ?_⟩
       rw [take_snoc hi, o9, List.map_set]
       exact EV
     . rintro σ' H' ⟨ju, rfl, Cg, xE⟩
       rw [List.take_length, rl] at xE
       refine ⟨_, _, _, _, _, _, dA f c.1 vv, rfl, ?_, Ig.mv Cg (by simp [Ne.symm G5]), ?_, ?_, ?_⟩
       . exact Kz.step Cg fun b hb => .inl (uv hb)
       . rw [sO]
         have : ps.map (load (dA f c.1 vv) (ls.take j ++ [c])) = ps.map fun p => load f (ls.take j) p + (if con p c = true then vv else 0) := List.map_congr_left fun p _ => nj AQ
         rw [this]; exact xE
       . rw [sO]
         obtain ⟨i, hi, e⟩ := List.mem_map.mp Fm
         exact Fg.step AQ (fun i hi => E3 _ (List.mem_map.mpr ⟨i, hi, rfl⟩)) ⟨i, hi, e.symm⟩ hv Cd vT hw.1
       . rw [sO]
         obtain ⟨i, hi, e⟩ := List.mem_map.mp Fm
         exact Cz.step AQ (fun i hi => E3 _ (List.mem_map.mpr ⟨i, hi, rfl⟩)) ⟨i, hi, e.symm⟩ hv Cd vT
   . rintro σ' H' ⟨z5, z6, z7, z8, z9, ju, f, rfl, mv, ia, An, Fg, Cz⟩
     rw [List.take_length] at Fg Cz
     repeat' (walk_at "rd1")
     refine q q4 H' f ?_ ?_ ia (Fg.shr gB fun c hc => (kH _).mpr (List.mem_map_of_mem hc)) ⟨ls, ps, gB, fX, kH, Cz⟩
     . have h3 : H q3 = none := (gR.trans cm).none uj
       have h4 : H q4 = none := sH.none sP
       intro b u e
       refine mv.kp b u (fun z => ?_) (p5 b u (FU b u (sH b u e)))
       have : b = q3 \/ b = q4 := by simpa using z
       rcases this with rfl | rfl
       . rw [h3] at e; cases e
       . rw [h4] at e; cases e
     . exact sH.none sP
theorem gJ (T : Txt K mg a) : jD P w K mg base 5 a.bB ["price", "claims"] [] iI :=
 ⟨⟨_, _, rk T, T.e9.binds fun _ _ _ _ _ _ => .all fun us hl => match us, hl with | [_, _], _ => rfl, .nil⟩⟩
theorem wj {f : Str -> Int} {G : List C4} (hf : ∀ d ∈ G, 0 <= f d.1) (p : Int) : 0 <= load f G p := by
 have := kW (P := fun _ => false) (R := con p) (g := fun _ => 0) (h := fun c => f c.1) (cs := G) (fun c _ z => by cases z) (fun c hc _ => hf c hc)
 have e : sf (fun _ => false) (fun _ => 0) G = 0 := by unfold sf; rw [List.filter_eq_nil_iff.mpr (fun _ _ z => by cases z)]; rfl
 unfold load
 omega
theorem fO {f : Str -> Int} {ls : List C4} (hf : ∀ d ∈ ls, 0 <= f d.1) {i j : Nat} (h : i <= j) (p : Int) : load f (ls.take i) p <= load f (ls.take j) p := by
 have e : ls.take j = ls.take i ++ (ls.take j).drop i := by
  have e0 := List.take_append_drop i (ls.take j)
  rw [List.take_take, Nat.min_eq_left h] at e0
  exact e0.symm
 rw [e]
 unfold load
 rw [oG]
 have : 0 <= sf (con p) (fun c => f c.1) ((ls.take j).drop i) := wj (f := f) (fun d hd => hf d (List.mem_of_mem_take (List.mem_of_mem_drop hd))) p
 omega
theorem sr {f : Str -> Int} {ds : List C4} {c : C4} {p : Int} : load f (ds ++ [c]) p = load f ds p + (if con p c = true then f c.1 else 0) := by
 unfold load; rw [oG, bE, gG]; omega
theorem qd : ∀ (ps : List Int), ps ≠ [] -> ∃ m ∈ ps, ∀ p ∈ ps, p <= m
 | [], h => absurd rfl h
 | [c], _ => ⟨c, by simp, fun d hd => by have : d = c := by simpa using hd
                                         rw [this]; exact Int.le_refl _⟩
 | c :: d :: r, _ => by
   obtain ⟨e, he, hm⟩ := qd (d :: r) (by simp)
   by_cases h : c <= e
   . exact ⟨e, List.mem_cons_of_mem _ he, fun x hx => (List.mem_cons.mp hx).elim (fun z => z ▸ h) (hm x)⟩
   . exact ⟨c, List.mem_cons_self, fun x hx => (List.mem_cons.mp hx).elim (fun z => z ▸ Int.le_refl _) (fun z => by have := hm x z; omega)⟩
structure BA (pr : Int) (ps : List Int) (f : Str -> Int) (ls : List C4) (i : Nat) (W : List Int) : Prop where
 mk' : ∀ w ∈ W, w ∈ ps /\ ∃ k d, i <= k /\ ls[k]? = some d /\ con w d = true /\ load f (ls.take (k + 1)) w = pr /\ ∀ p ∈ ps, con p d = true -> load f (ls.take (k + 1)) p = pr -> p <= w
 hit : ∀ k c, i <= k -> ls[k]? = some c -> f c.1 < c.2.2.2 -> hit W c = true
 one : ∀ c ∈ ls, 0 < f c.1 -> ∀ w ∈ W, ∀ w' ∈ W, con w c = true -> con w' c = true -> w = w'
 nd : W.Nodup
theorem rY {pr : Int} {ps : List Int} {f : Str -> Int} {ls : List C4} {i : Nat} {W : List Int} {c : C4} (hf : ∀ d ∈ ls, 0 <= f d.1) (zl : ∀ p ∈ ps, load f ls p <= pr) (fX : ∀ (i j : Nat) (c d : C4), i <= j -> ls[i]? = some c -> ls[j]? = some d -> c.2.2.1 <= d.2.2.1) (hg : Ar pr ps f ls) (hc : ls[i]? = some c) (h : BA pr ps f ls (i + 1) W) : ∃ W', BA pr ps f ls i W' := by
 have sO : ls.take (i + 1) = ls.take i ++ [c] := take_snoc hc
 have up : ∀ {j : Nat} {p : Int}, p ∈ ps -> load f (ls.take j) p <= pr := fun {j p} hp => by
  have h1 := fO hf (Nat.le_max_left j ls.length) p
  rw [List.take_of_length_le (Nat.le_max_right j ls.length)] at h1
  exact Int.le_trans h1 (zl p hp)
 by_cases hh : f c.1 < c.2.2.2 /\ My.hit W c = false
 . obtain ⟨ck, Fw⟩ := hh
   obtain ⟨p0, Cy, Fh, Fm, a1, b1, e1⟩ := hg i c hc
   have DW : load f (ls.take (i + 1)) p0 = pr := by rw [sO, sr, if_pos Fh]; omega
   have k8 : ps.filter (fun p => con p c && decide (load f (ls.take (i + 1)) p = pr)) ≠ [] := fun z => by
    have : p0 ∈ ps.filter (fun p => con p c && decide (load f (ls.take (i + 1)) p = pr)) := List.mem_filter.mpr ⟨Cy, by simp [Fh, DW]⟩
    rw [z] at this; simp at this
   obtain ⟨q, hq, Eo⟩ := qd _ k8
   obtain ⟨Ce, mU⟩ := List.mem_filter.mp hq
   rw [Bool.and_eq_true] at mU
   have FD := mU.1
   have M5 : load f (ls.take (i + 1)) q = pr := of_decide_eq_true mU.2
   have zE : ∀ w ∈ W, con w c = true -> False := fun w hw Cp => by
    have : My.hit W c = true := (aU W c).mpr ⟨w, hw, bw.mp Cp⟩
    rw [this] at Fw; cases Fw
   have qc := bw.mp FD
   have key : ∀ d ∈ ls, 0 < f d.1 -> con q d = true -> ∀ w ∈ W, con w d = true -> False := fun d hd mL JZ w hw Mq => by
    obtain ⟨t, ht, ed⟩ := List.getElem_of_mem hd
    have Iy : ls[t]? = some d := by rw [List.getElem?_eq_getElem ht, ed]
    have F8 : t <= i := by
     rcases Nat.lt_or_ge i t with h1 | h1
     . obtain ⟨p1, NF, JP, HH, a2, b2, e2⟩ := hg t d Iy
       have g1 := fO hf (show i + 1 <= t from h1) q
       have g2 := HH q Ce JZ
       omega
     . exact h1
    obtain ⟨NA, k, d2, hk, hd2, FY, NU, Cz⟩ := h.mk' w hw
    have l1 := fX t i d c F8 Iy hc
    have l2 := fX i k c d2 (by omega) hc hd2
    have x1 := bw.mp JZ
    have x2 := bw.mp Mq
    have x3 := bw.mp FY
    rcases Int.lt_trichotomy w q with h1 | h1 | h1
    . have h2 : con q d2 = true := bw.mpr ⟨by omega, by omega⟩
      have h3 : load f (ls.take (k + 1)) q = pr := by
       have g1 := fO hf (show i + 1 <= k + 1 by omega) q
       have g2 := up (j := k + 1) Ce
       omega
      have := Cz q Ce h2 h3
      omega
    . subst h1; exact zE w hw FD
    . exact zE w hw (bw.mpr ⟨by omega, by omega⟩)
   refine ⟨q :: W, ⟨fun w hw => ?_, fun k d hk hd wX => ?_, fun d hd mL w hw w' Mr Cp x8 => ?_, ?_⟩⟩
   . rcases List.mem_cons.mp hw with rfl | hw
     . exact ⟨Ce, i, c, Nat.le_refl _, hc, FD, M5, fun p hp Mu Mt => Eo p (List.mem_filter.mpr ⟨hp, by simp [Mu, Mt]⟩)⟩
     . obtain ⟨h1, k, d, h2, h3⟩ := h.mk' w hw
       exact ⟨h1, k, d, by omega, h3⟩
   . rcases Nat.lt_or_ge i k with h1 | h1
     . have := (aU W d).mp (h.hit k d h1 hd wX)
       obtain ⟨t, ht, h2⟩ := this
       exact (aU _ d).mpr ⟨t, List.mem_cons_of_mem _ ht, h2⟩
     . have FI : k = i := by omega
       subst FI
       rw [hc] at hd
       cases hd
       exact (aU _ c).mpr ⟨q, List.mem_cons_self, qc⟩
   . rcases List.mem_cons.mp hw with e1 | w1 <;> rcases List.mem_cons.mp Mr with e2 | w2
     . rw [e1, e2]
     . rw [e1] at Cp
       exact (key d hd mL Cp w' w2 x8).elim
     . rw [e2] at x8
       exact (key d hd mL x8 w w1 Cp).elim
     . exact h.one d hd mL w w1 w' w2 Cp x8
   . exact List.nodup_cons.mpr ⟨fun hw => zE q hw FD, h.nd⟩
 . refine ⟨W, ⟨fun w hw => ?_, fun k d hk hd wX => ?_, h.one, h.nd⟩⟩
   . obtain ⟨h1, k, d, h2, h3⟩ := h.mk' w hw
     exact ⟨h1, k, d, by omega, h3⟩
   . rcases Nat.lt_or_ge i k with h1 | h1
     . exact h.hit k d h1 hd wX
     . have FI : k = i := by omega
       subst FI
       rw [hc] at hd
       cases hd
       cases hx : My.hit W c with
       | true => rfl
       | false => exact absurd ⟨wX, hx⟩ hh
theorem nN {pr : Int} {ps : List Int} {f : Str -> Int} {ls : List C4} (hf : ∀ d ∈ ls, 0 <= f d.1) (zl : ∀ p ∈ ps, load f ls p <= pr) (fX : ∀ (i j : Nat) (c d : C4), i <= j -> ls[i]? = some c -> ls[j]? = some d -> c.2.2.1 <= d.2.2.1) (hg : Ar pr ps f ls) : ∀ n : Nat, n <= ls.length -> ∃ W, BA pr ps f ls (ls.length - n) W
 | 0, _ => ⟨[], ⟨fun w hw => by simp at hw, fun k c hk hc _ => by have := (List.getElem?_eq_some_iff.mp hc).1; omega, fun c _ _ w hw => by simp at hw, .nil⟩⟩
 | n + 1, hn => by
   obtain ⟨W, h⟩ := nN hf zl fX hg n (by omega)
   have hi : ls.length - (n + 1) < ls.length := by omega
   have e : ls.length - n = ls.length - (n + 1) + 1 := by omega
   rw [e] at h
   exact rY hf zl fX hg (List.getElem?_eq_getElem hi) h
def cnt (W : List Int) (c : C4) : Int := ((W.filter fun w => con w c).length : Nat)
theorem nL (f : Str -> Int) : ∀ (cs : List C4) (p : Int), load f cs p = (cs.map fun c => if con p c = true then f c.1 else 0).sum
 | [], _ => rfl
 | c :: cs, p => by
   have := nL f cs p
   unfold load at this ⊢
   rw [bE, List.map_cons, List.sum_cons, this]
theorem sum_add {α : Type} (g h : α -> Int) : ∀ l : List α, (l.map fun x => g x + h x).sum = (l.map g).sum + (l.map h).sum
 | [] => rfl
 | x :: l => by have := sum_add g h l; simp only [List.map_cons, List.sum_cons] at this ⊢; omega
theorem lH (f : Str -> Int) (cs : List C4) : ∀ W : List Int, (W.map (load f cs)).sum = (cs.map fun c => f c.1 * cnt W c).sum
 | [] => by
   have : (cs.map fun c => f c.1 * cnt [] c) = cs.map fun _ => 0 := List.map_congr_left fun c _ => by simp [cnt]
   rw [this]
   have z : ∀ l : List C4, (l.map fun _ => (0 : Int)).sum = 0 := fun l => by induction l with | nil => rfl | cons x r ih => simp only [List.map_cons, List.sum_cons, ih]; rfl
   rw [z]; rfl
 | w :: W => by
   have ih := lH f cs W
   rw [List.map_cons, List.sum_cons, ih, nL, <- sum_add]
   congr 1
   refine List.map_congr_left fun c _ => ?_
   unfold cnt
   rw [List.filter_cons]
   by_cases h : con w c = true
   . simp only [h, if_true, List.length_cons, Int.natCast_add, Int.mul_add]
     simp
     omega
   . simp only [h, if_false, Bool.false_eq_true]; omega
theorem xO {W : List Int} {c : C4} (hn : W.Nodup) (h : ∀ w ∈ W, ∀ w' ∈ W, con w c = true -> con w' c = true -> w = w') : cnt W c = if hit W c = true then 1 else 0 := by
 unfold cnt
 cases hl : W.filter (fun w => con w c) with
 | nil =>
   rw [if_neg]
   . rfl
   . intro hh
     obtain ⟨t, ht, h1⟩ := (aU W c).mp hh
     have : t ∈ W.filter (fun w => con w c) := List.mem_filter.mpr ⟨ht, bw.mpr h1⟩
     rw [hl] at this; simp at this
 | cons x r =>
   have hx : x ∈ W.filter (fun w => con w c) := by rw [hl]; exact List.mem_cons_self
   obtain ⟨x1, x2⟩ := List.mem_filter.mp hx
   rw [if_pos ((aU W c).mpr ⟨x, x1, bw.mp x2⟩)]
   have zg : (x :: r).Nodup := by rw [<- hl]; exact hn.filter _
   cases r with
   | nil => rfl
   | cons y r =>
     have hy : y ∈ W.filter (fun w => con w c) := by rw [hl]; simp
     obtain ⟨y1, y2⟩ := List.mem_filter.mp hy
     have := h x x1 y y1 x2 y2
     subst this
     exact absurd List.mem_cons_self (List.nodup_cons.mp zg).1
def eR (W : List Int) (cs : List C4) : Int := (cs.map fun c => if hit W c = true then 0 else c.2.2.2).sum
theorem xC {pr : Int} {cs : List C4} {f : Str -> Int} (hs : wL pr cs f) (hx : Exact pr cs f) : ∃ W : List Int, W.length <= cs.length /\ (cs.map fun c => f c.1).sum = W.length * pr + eR W cs := by
 obtain ⟨ls, ps, hp, ho, hm, hg⟩ := hx
 have hf : ∀ d ∈ ls, 0 <= f d.1 := fun d hd => hs.nn d (hp.mem_iff.mp hd)
 have zl : ∀ p ∈ ps, load f ls p <= pr := fun p Mm => by
  obtain ⟨c, hc, rfl⟩ := List.mem_map.mp ((hm p).mp Mm)
  have := hs.ld c hc
  unfold load at this ⊢
  rwa [qf hp]
 have fX : ∀ (i j : Nat) (c d : C4), i <= j -> ls[i]? = some c -> ls[j]? = some d -> c.2.2.1 <= d.2.2.1 := fun i j c d iD hi hj => by
  rcases Nat.lt_or_eq_of_le iD with h | rfl
  . obtain ⟨Ab, rfl⟩ := List.getElem?_eq_some_iff.mp hi
    obtain ⟨K8, rfl⟩ := List.getElem?_eq_some_iff.mp hj
    have h1 := (List.pairwise_iff_getElem.mp ho) i j Ab K8 h
    rcases Int.lt_or_le ls[j].2.2.1 ls[i].2.2.1 with ck | hle
    . have h3 : b4 (gA ls[j]) (gA ls[i]) = true := by
       unfold b4 gA
       rw [decide_eq_true ck]; rfl
      rw [h3] at h1; cases h1
    . exact hle
  . rw [hi] at hj; cases hj; exact Int.le_refl _
 obtain ⟨W, hD⟩ := nN hf zl fX hg ls.length (Nat.le_refl _)
 rw [Nat.sub_self] at hD
 refine ⟨W, ?_, ?_⟩
 . have := gH hD.nd (ys := cs.map (·.2.1)) fun w hw => (hm w).mp (hD.mk' w hw).1
   rwa [List.length_map] at this
 . have full : ∀ w ∈ W, load f ls w = pr := fun w hw => by
    obtain ⟨h1, k, d, _, _, _, h2, _⟩ := hD.mk' w hw
    have g1 := fO hf (Nat.le_max_left (k + 1) ls.length) w
    rw [List.take_of_length_le (Nat.le_max_right (k + 1) ls.length), h2] at g1
    have := zl w h1
    omega
   have e1 : (W.map (load f ls)).sum = W.length * pr := by
    have : W.map (load f ls) = W.map fun _ => pr := List.map_congr_left fun w hw => full w hw
    rw [this]
    have z : ∀ l : List Int, (l.map fun _ => pr).sum = l.length * pr := fun l => by
     induction l with
     | nil => simp
     | cons x r ih =>
       simp only [List.map_cons, List.sum_cons, ih, List.length_cons, Int.natCast_add, Int.add_mul]
       simp
       omega
    exact z W
   have e2 := lH f ls W
   have e3 : (ls.map fun c => f c.1).sum = (ls.map fun c => f c.1 * cnt W c).sum + (ls.map fun c => if hit W c = true then 0 else c.2.2.2).sum := by
    rw [<- sum_add]
    congr 1
    refine List.map_congr_left fun c hc => ?_
    have hn := hf c hc
    by_cases h0 : 0 < f c.1
    . rw [xO hD.nd (hD.one c hc h0)]
      by_cases hh : hit W c = true
      . simp only [hh, if_true]; omega
      . simp only [hh, if_false, Bool.false_eq_true]
        obtain ⟨k, hk, ek⟩ := List.getElem_of_mem hc
        have hw : ¬ f c.1 < c.2.2.2 := fun z => hh (hD.hit k c (Nat.zero_le _) (by rw [List.getElem?_eq_getElem hk, ek]) z)
        have := hs.le c (hp.mem_iff.mp hc)
        omega
    . have hz : f c.1 = 0 := by omega
      rw [hz]
      by_cases hh : hit W c = true
      . simp only [hh, if_true]; omega
      . simp only [hh, if_false, Bool.false_eq_true]
        obtain ⟨k, hk, ek⟩ := List.getElem_of_mem hc
        have hw : ¬ f c.1 < c.2.2.2 := fun z => hh (hD.hit k c (Nat.zero_le _) (by rw [List.getElem?_eq_getElem hk, ek]) z)
        have := hs.le c (hp.mem_iff.mp hc)
        omega
   have e4 : (cs.map fun c => f c.1).sum = (ls.map fun c => f c.1).sum := (jT (hp.map _)).symm
   have e5 : eR W cs = (ls.map fun c => if hit W c = true then 0 else c.2.2.2).sum := (jT (hp.map _)).symm
   rw [e4, e5, e3, <- e2, e1]
theorem sd {pr : Int} {cs : List C4} {g : C4 -> Int} (h0 : ∀ c ∈ cs, 0 <= g c) (hw : ∀ c ∈ cs, g c <= c.2.2.2) (hl : ∀ t : Int, sf (con t) g cs <= pr) : ∀ W : List Int, (cs.map g).sum <= W.length * pr + eR W cs := by
 intro W
 have e1 : (cs.map g).sum = sf (hit W) g cs + sf (fun c => !hit W c) g cs := (jN (P := hit W) (g := g) cs).symm
 have e2 : sf (fun c => !hit W c) g cs <= eR W cs := by
  have z : eR W cs = sf (fun c => !hit W c) (fun c => c.2.2.2) cs := by
   unfold eR
   clear h0 hw hl e1
   induction cs with
   | nil => rfl
   | cons c r ih =>
     rw [bE, List.map_cons, List.sum_cons, ih]
     by_cases hh : hit W c = true
     . simp [hh]
     . simp [hh]
  rw [z]
  exact kW (fun c hc hp => ⟨hp, hw c hc⟩) (fun c hc _ => Int.le_trans (h0 c hc) (hw c hc))
 have e3 : ∀ W : List Int, sf (hit W) g cs <= W.length * pr := by
  intro W
  induction W with
  | nil =>
    have : cs.filter (hit []) = [] := List.filter_eq_nil_iff.mpr fun c _ => by rw [aU]; simp
    unfold sf; rw [this]; simp
  | cons t ts ih =>
    have e : hit (t :: ts) = fun c => con t c || hit ts c := funext (nU t ts)
    have h1 := tD (P := con t) (R := hit ts) (g := g) (cs := cs) h0
    have h2 := hl t
    rw [e, List.length_cons]
    have : ((ts.length + 1 : Nat) : Int) * pr = ts.length * pr + pr := by rw [Int.natCast_add, Int.add_mul]; simp
    omega
 have := e3 W
 omega
abbrev qG (W : List Int) : Prop := W.Pairwise (· < ·)
def wt (c : C4) : Int := c.2.2.2
theorem j0 (W : List Int) (cs : List C4) : kq W cs = sf (hit W) wt cs := rfl
def x9 (a : Option Int) (c : C4) : Bool := match a with | none => true | some x => decide (x < c.2.1)
def jn (cs : List C4) (a : Option Int) (t : Int) : Int := sf (fun c => con t c && x9 a c) wt cs
theorem oj {W : List Int} {a : Int} (h : qG W) (hl : W.getLast? = some a) : ∀ w ∈ W, w <= a := by
 obtain ⟨V, rfl⟩ := List.getLast?_eq_some_iff.mp hl
 intro w hw
 rcases List.mem_append.mp hw with h1 | h1
 . exact Int.le_of_lt ((List.pairwise_append.mp h).2.2 w h1 a (by simp))
 . have : w = a := by simpa using h1
   omega
theorem uy (W : List Int) (t : Int) (c : C4) : hit (W ++ [t]) c = (hit W c || con t c) := by
 rw [Bool.eq_iff_iff, Bool.or_eq_true, aU, aU, bw]
 constructor
 . rintro ⟨u, hu, h⟩
   rcases List.mem_append.mp hu with h1 | h1
   . exact .inl ⟨u, h1, h⟩
   . have : u = t := by simpa using h1
     subst this
     exact .inr h
 . rintro (⟨u, hu, h⟩ | h)
   . exact ⟨u, List.mem_append_left _ hu, h⟩
   . exact ⟨t, by simp, h⟩
theorem lA {W : List Int} {t : Int} (h : qG W) (ht : ∀ w ∈ W, w < t) (cs : List C4) : kq (W ++ [t]) cs = kq W cs + jn cs W.getLast? t := by
 unfold jn
 rw [j0, j0]
 induction cs with
 | nil => rfl
 | cons c cs ih =>
   rw [bE, bE, bE, ih, uy]
   by_cases hc : con t c = true
   . obtain ⟨h1, h2⟩ := bw.mp hc
     cases hl : W.getLast? with
     | none =>
       have : W = [] := List.getLast?_eq_none_iff.mp hl
       subst this
       have hn : hit [] c = false := by
        cases hh : hit [] c with
        | false => rfl
        | true => obtain ⟨_, hm, _⟩ := (aU [] c).mp hh; simp at hm
       simp only [hc, hn, x9, Bool.and_self, Bool.or_true, if_true, Bool.false_eq_true, if_false]
       omega
     | some a =>
       have hle := oj h hl
       have JT : a ∈ W := List.mem_of_getLast? hl
       by_cases hk : a < c.2.1
       . have hn : hit W c = false := by
          cases hh : hit W c with
          | false => rfl
          | true => obtain ⟨w, hm, hw, _⟩ := (aU W c).mp hh; have := hle w hm; omega
         simp only [hc, hn, x9, hk, decide_true, Bool.and_self, Bool.or_true, if_true, Bool.false_eq_true, if_false]
         omega
       . have hn : hit W c = true := (aU W c).mpr ⟨a, JT, by omega, by have := ht a JT; omega⟩
         simp only [hc, hn, x9, hk, decide_false, Bool.and_false, Bool.or_true, if_true, Bool.false_eq_true, if_false]
         omega
   . simp only [hc, Bool.or_false, Bool.false_and, Bool.false_eq_true, if_false]
     omega
structure Ent (cs : List C4) (ps : List Int) (k : Nat) (o : Option Int) (e : Int × List Int) : Prop where
 inc : qG e.2
 sub : ∀ x ∈ e.2, x ∈ ps
 len : e.2.length <= k
 last : e.2.getLast? = o
 val : e.1 = kq e.2 cs
 opt : ∀ V : List Int, qG V -> (∀ x ∈ V, x ∈ ps) -> V.length <= k -> V.getLast? = o -> kq V cs <= e.1
structure wa (cs : List C4) (ps : List Int) (k : Nat) (cl : List (Int × List Int)) : Prop where
 nil : cl[0]? = some (0, [])
 len : cl.length = if k = 0 then 1 else ps.length + 1
 ent : 0 < k -> ∀ i p, ps[i]? = some p -> ∃ e, cl[i + 1]? = some e /\ Ent cs ps k (some p) e
theorem fP (cs : List C4) : kq [] cs = 0 := by
 have : cs.filter (hit []) = [] := List.filter_eq_nil_iff.mpr fun c _ => by rw [aU]; simp
 unfold kq; rw [this]; rfl
def d7 (ps : List Int) (i : Nat) : List (Option Int) := none :: (ps.take i).map some
def bN (cs : List C4) (ps : List Int) (i : Nat) (p : Int) : List Int := (d7 ps i).map fun a => jn cs a p
structure BL (el : List (Int × List Int)) (gl : List Int) (t : Int) (r : Int × List Int) : Prop where
 get : ∃ (j : Nat) (e : Int × List Int) (g : Int), el[j]? = some e /\ gl[j]? = some g /\ r = (e.1 + g, e.2 ++ [t])
 max : ∀ (j : Nat) (e : Int × List Int) (g : Int), el[j]? = some e -> gl[j]? = some g -> e.1 + g <= r.1
theorem xq {ps : List Int} (h : qG ps) {i j : Nat} {p q : Int} (hi : ps[i]? = some p) (hj : ps[j]? = some q) (hq : q < p) : j < i := by
 obtain ⟨h1, rfl⟩ := List.getElem?_eq_some_iff.mp hi
 obtain ⟨h2, rfl⟩ := List.getElem?_eq_some_iff.mp hj
 rcases Nat.lt_or_ge j i with h3 | h3
 . exact h3
 . rcases Nat.lt_or_eq_of_le h3 with h4 | rfl
   . have := (List.pairwise_iff_getElem.mp h) i j h1 h2 h4
     omega
   . omega
theorem wa.step {cs : List C4} {ps : List Int} {k i : Nat} {cl : List (Int × List Int)} {p : Int} {r : Int × List Int} (h : wa cs ps k cl) (sW : qG ps) (hi : ps[i]? = some p) (hb : BL (cl.take (i + 1)) (bN cs ps i p) p r) : Ent cs ps (k + 1) (some p) r := by
 have v9 : i < ps.length := (List.getElem?_eq_some_iff.mp hi).1
 have key : ∀ (j : Nat) (e : Int × List Int) (g : Int), (cl.take (i + 1))[j]? = some e -> (bN cs ps i p)[j]? = some g -> ∃ o : Option Int, Ent cs ps k o e /\ g = jn cs o p /\ ∀ w ∈ e.2, w < p := by
  intro j e g he hg
  have hj : j < i + 1 := by
   have := (List.getElem?_eq_some_iff.mp he).1
   rw [List.length_take] at this; omega
  rw [List.getElem?_take_of_lt hj] at he
  cases j with
  | zero =>
    rw [h.nil] at he
    cases he
    refine ⟨none, ⟨.nil, by simp, Nat.zero_le _, rfl, (fP cs).symm, fun V _ _ _ hl => ?_⟩, ?_, by simp⟩
    . rw [List.getLast?_eq_none_iff.mp hl, fP]; exact Int.le_refl _
    . have : (bN cs ps i p)[0]? = some (jn cs none p) := rfl
      rw [this] at hg; cases hg; rfl
  | succ j =>
    have hk : 0 < k := by
     rcases Nat.eq_zero_or_pos k with rfl | hk
     . have := (List.getElem?_eq_some_iff.mp he).1
       rw [h.len, if_pos rfl] at this; omega
     . exact hk
    have mS : j < ps.length := by omega
    obtain ⟨e', AK, hE⟩ := h.ent hk j _ (List.getElem?_eq_getElem mS)
    rw [he] at AK
    cases AK
    refine ⟨_, hE, ?_, fun w hw => ?_⟩
    . unfold bN d7 at hg
      rw [List.map_cons, List.getElem?_cons_succ, List.map_map, List.getElem?_map, List.getElem?_take_of_lt (by omega), List.getElem?_eq_getElem mS] at hg
      cases hg; rfl
    . have h1 := oj hE.inc hE.last w hw
      obtain ⟨_, rfl⟩ := List.getElem?_eq_some_iff.mp hi
      have h2 := (List.pairwise_iff_getElem.mp sW) j i mS v9 (by omega)
      omega
 obtain ⟨j, e, g, he, hg, rfl⟩ := hb.get
 obtain ⟨o, hE, rfl, ck⟩ := key j e g he hg
 refine ⟨?_, ?_, ?_, ?_, ?_, ?_⟩
 . refine List.pairwise_append.mpr ⟨hE.inc, by simp, fun w hw y hy => ?_⟩
   have : y = p := by simpa using hy
   subst this
   exact ck w hw
 . intro x hx
   rcases List.mem_append.mp hx with h1 | h1
   . exact hE.sub x h1
   . have : x = p := by simpa using h1
     subst this
     exact List.mem_of_getElem? hi
 . have := hE.len
   rw [List.length_append, List.length_singleton]; omega
 . simp
 . show e.1 + jn cs o p = kq (e.2 ++ [p]) cs
   rw [lA hE.inc ck, hE.last, hE.val]
 . intro V hV xB hlen DF
   obtain ⟨V', rfl⟩ := List.getLast?_eq_some_iff.mp DF
   obtain ⟨JU, _, LI⟩ := List.pairwise_append.mp hV
   have Ej : ∀ w ∈ V', w < p := fun w hw => LI w hw p (by simp)
   rw [lA JU Ej]
   rw [List.length_append, List.length_singleton] at hlen
   cases hl : V'.getLast? with
   | none =>
     have : V' = [] := List.getLast?_eq_none_iff.mp hl
     subst this
     have h1 : (cl.take (i + 1))[0]? = some (0, []) := by rw [List.getElem?_take_of_lt (by omega)]; exact h.nil
     have := hb.max 0 _ _ h1 (show (bN cs ps i p)[0]? = some (jn cs none p) from rfl)
     rw [fP]
     exact this
   | some q =>
     have Eo : q ∈ V' := List.mem_of_getLast? hl
     have Ce : q ∈ ps := xB q (List.mem_append_left _ Eo)
     obtain ⟨j, hj, ej⟩ := List.getElem_of_mem Ce
     have tP : ps[j]? = some q := by rw [List.getElem?_eq_getElem hj, ej]
     have BX : j < i := xq sW hi tP (Ej q Eo)
     have hk : 0 < k := by
      have := List.length_pos_of_mem Eo
      omega
     obtain ⟨e', AK, LY⟩ := h.ent hk j q tP
     have h1 := LY.opt V' JU (fun x hx => xB x (List.mem_append_left _ hx)) (by omega) hl
     have h2 : (cl.take (i + 1))[j + 1]? = some e' := by rw [List.getElem?_take_of_lt (by omega)]; exact AK
     have h3 : (bN cs ps i p)[j + 1]? = some (jn cs (some q) p) := by
      unfold bN d7
      rw [List.map_cons, List.getElem?_cons_succ, List.map_map, List.getElem?_map, List.getElem?_take_of_lt BX, tP]; rfl
     have := hb.max (j + 1) _ _ h2 h3
     show kq V' cs + jn cs (some q) p <= _
     omega
structure we (cs : List C4) (ps : List Int) (k : Nat) (e : Int × List Int) : Prop where
 inc : qG e.2
 sub : ∀ x ∈ e.2, x ∈ ps
 len : e.2.length <= k
 val : e.1 = kq e.2 cs
 opt : ∀ V : List Int, qG V -> (∀ x ∈ V, x ∈ ps) -> V.length <= k -> kq V cs <= e.1
theorem we.zero (cs : List C4) (ps : List Int) : we cs ps 0 (0, []) := ⟨.nil, by simp, Nat.le_refl _, (fP cs).symm, fun V _ _ h => by
 have : V = [] := List.length_eq_zero_iff.mp (by omega)
 rw [this, fP]; exact Int.le_refl _⟩
theorem wa.zero (cs : List C4) (ps : List Int) : wa cs ps 0 [(0, [])] := ⟨rfl, rfl, fun h => by omega⟩
def pick (b e : Int × List Int) : Int × List Int := if e.1 > b.1 then e else b
theorem kP : ∀ (cl : List (Int × List Int)) (b : Int × List Int), (cl.foldl pick b = b \/ cl.foldl pick b ∈ cl) /\ b.1 <= (cl.foldl pick b).1 /\ ∀ e ∈ cl, e.1 <= (cl.foldl pick b).1
 | [], b => ⟨.inl rfl, Int.le_refl _, by simp⟩
 | c :: cl, b => by
   obtain ⟨h1, h2, h3⟩ := kP cl (pick b c)
   rw [List.foldl_cons]
   have hp : (pick b c = b \/ pick b c = c) /\ b.1 <= (pick b c).1 /\ c.1 <= (pick b c).1 := by
    unfold pick
    by_cases h : c.1 > b.1
    . rw [if_pos h]; exact ⟨.inr rfl, by omega, Int.le_refl _⟩
    . rw [if_neg h]; exact ⟨.inl rfl, Int.le_refl _, by omega⟩
   refine ⟨?_, by omega, fun e he => ?_⟩
   . rcases h1 with h1 | h1
     . rw [h1]
       rcases hp.1 with h4 | h4
       . exact .inl h4
       . exact .inr (by rw [h4]; exact List.mem_cons_self)
     . exact .inr (List.mem_cons_of_mem _ h1)
   . rcases List.mem_cons.mp he with rfl | he
     . omega
     . exact h3 e he
theorem we.step {cs : List C4} {ps : List Int} {k : Nat} {b : Int × List Int} {cl : List (Int × List Int)} (h : we cs ps k b) (hc : wa cs ps (k + 1) cl) : we cs ps (k + 1) (cl.foldl pick b) := by
 obtain ⟨h1, h2, h3⟩ := kP cl b
 have u0 : ∀ V : List Int, qG V -> (∀ x ∈ V, x ∈ ps) -> V.length <= k + 1 -> kq V cs <= (cl.foldl pick b).1 := by
  intro V hV hs hl
  cases hq : V.getLast? with
  | none =>
    have : V = [] := List.getLast?_eq_none_iff.mp hq
    subst this
    exact Int.le_trans (h.opt [] .nil (by simp) (Nat.zero_le _)) h2
  | some q =>
    obtain ⟨j, hj, ej⟩ := List.getElem_of_mem (hs q (List.mem_of_getLast? hq))
    obtain ⟨e, he, hE⟩ := hc.ent (Nat.succ_pos _) j q (by rw [List.getElem?_eq_getElem hj, ej])
    exact Int.le_trans (hE.opt V hV hs hl hq) (h3 e (List.mem_of_getElem? he))
 rcases h1 with e | hm
 . rw [e] at u0 ⊢
   exact ⟨h.inc, h.sub, Nat.le_succ_of_le h.len, h.val, u0⟩
 . obtain ⟨j, hj, ej⟩ := List.getElem_of_mem hm
   have tP : cl[j]? = some (cl.foldl pick b) := by rw [List.getElem?_eq_getElem hj, ej]
   cases j with
   | zero =>
     rw [hc.nil] at tP
     have e := Option.some.inj tP
     rw [<- e] at u0 ⊢
     exact ⟨.nil, by simp, Nat.zero_le _, (fP cs).symm, u0⟩
   | succ j =>
     have mS : j < ps.length := by
      rw [hc.len, if_neg (by omega)] at hj; omega
     obtain ⟨e, he, hE⟩ := hc.ent (Nat.succ_pos _) j _ (List.getElem?_eq_getElem mS)
     rw [tP] at he
     have e2 := Option.some.inj he
     rw [<- e2] at hE
     exact ⟨hE.inc, hE.sub, hE.len, hE.val, u0⟩
theorem o5 {ps : List Int} (h : qG ps) {v p : Int} (hf : ps.find? (fun q => decide (v <= q)) = some p) : v <= p /\ p ∈ ps /\ ∀ q ∈ ps, v <= q -> p <= q := by
 refine ⟨by simpa using List.find?_some hf, List.mem_of_find?_eq_some hf, fun q hq hv => ?_⟩
 induction ps with
 | nil => simp at hq
 | cons x xs ih =>
   obtain ⟨h1, h2⟩ := List.pairwise_cons.mp h
   rw [List.find?_cons] at hf
   by_cases hx : v <= x
   . rw [decide_eq_true hx] at hf
     cases hf
     rcases List.mem_cons.mp hq with rfl | hq
     . exact Int.le_refl _
     . exact Int.le_of_lt (h1 q hq)
   . rw [decide_eq_false hx] at hf
     rcases List.mem_cons.mp hq with rfl | hq
     . exact absurd hv hx
     . exact ih h2 hf hq
theorem G0 {cs : List C4} {ps : List Int} (h : qG ps) (hm : ∀ c ∈ cs, c.2.2.1 ∈ ps) (hw : ∀ c ∈ cs, 0 <= wt c) (V : List Int) : ∃ V' : List Int, qG V' /\ (∀ x ∈ V', x ∈ ps) /\ V'.length <= V.length /\ kq V cs <= kq V' cs := by
 refine ⟨ps.filter fun p => decide (p ∈ V.filterMap fun v => ps.find? fun q => decide (v <= q)), h.filter _, fun x hx => (List.mem_filter.mp hx).1, ?_, ?_⟩
 . refine Nat.le_trans (gH ((h.filter _).imp fun h => Int.ne_of_lt h) (ys := V.filterMap fun v => ps.find? fun q => decide (v <= q)) fun x hx => of_decide_eq_true (List.mem_filter.mp hx).2) (List.length_filterMap_le _ _)
 . rw [j0, j0]
   refine kW (fun c hc hh => ⟨?_, Int.le_refl _⟩) (fun c hc _ => hw c hc)
   obtain ⟨v, hv, h1, h2⟩ := (aU V c).mp hh
   cases hf : ps.find? (fun q => decide (v <= q)) with
   | none =>
     have := List.find?_eq_none.mp hf _ (hm c hc)
     simp at this; omega
   | some p =>
     obtain ⟨g1, g2, g3⟩ := o5 h hf
     refine (aU _ c).mpr ⟨p, List.mem_filter.mpr ⟨g2, decide_eq_true (List.mem_filterMap.mpr ⟨v, hv, hf⟩)⟩, by omega, g3 _ (hm c hc) h2⟩
structure Bh (cs : List C4) (m : Int) (W : List Int) : Prop where
 inc : qG W
 len : (W.length : Int) <= m
 opt : ∀ V : List Int, (V.length : Int) <= m -> kq V cs <= kq W cs
theorem we.FZ {cs : List C4} {ps : List Int} {k : Nat} {m : Int} {b : Int × List Int} (h : we cs ps k b) (sW : qG ps) (hm : ∀ c ∈ cs, c.2.2.1 ∈ ps) (hw : ∀ c ∈ cs, 0 <= wt c) (h1 : (k : Int) <= m) (h2 : (k : Int) = m \/ k = ps.length) : Bh cs m b.2 := by
 refine ⟨h.inc, by have := h.len; omega, fun V hV => ?_⟩
 obtain ⟨V', g1, g2, g3, g4⟩ := G0 sW hm hw V
 refine Int.le_trans g4 ?_
 rw [<- h.val]
 refine h.opt V' g1 g2 ?_
 rcases h2 with h2 | h2
 . omega
 . have := gH (g1.imp fun h => Int.ne_of_lt h) g2
   omega
def RL {α : Type} (R : V -> α -> Prop) (xs : List V) (as : List α) : Prop := xs.length = as.length /\ ∀ (i : Nat) x c, xs[i]? = some x -> as[i]? = some c -> R x c
theorem RL.nil {α : Type} {R : V -> α -> Prop} : RL R [] [] := ⟨rfl, fun i x c h => by simp at h⟩
theorem RL.mono {α : Type} {R R' : V -> α -> Prop} {xs : List V} {as : List α} (h : RL R xs as) (k : ∀ x c, R x c -> R' x c) : RL R' xs as := ⟨h.1, fun i x c h1 h2 => k x c (h.2 i x c h1 h2)⟩
theorem RL.snoc {α : Type} {R : V -> α -> Prop} {xs : List V} {as : List α} {x : V} {c : α} (h : RL R xs as) (hx : R x c) : RL R (xs ++ [x]) (as ++ [c]) := by
 refine ⟨by simp [h.1], fun i y d h1 h2 => ?_⟩
 by_cases hi : i < xs.length
 . rw [List.getElem?_append_left hi] at h1
   rw [List.getElem?_append_left (by rw [<- h.1]; exact hi)] at h2
   exact h.2 i y d h1 h2
 . have hle := (List.getElem?_eq_some_iff.mp h1).1
   rw [List.length_append, List.length_singleton] at hle
   have e : i = xs.length := by omega
   subst e
   rw [List.getElem?_append_right (Nat.le_refl _), Nat.sub_self] at h1
   rw [h.1, List.getElem?_append_right (Nat.le_refl _), Nat.sub_self] at h2
   cases h1; cases h2; exact hx
theorem RL.take {α : Type} {R : V -> α -> Prop} {xs : List V} {as : List α} (h : RL R xs as) (n : Nat) : RL R (xs.take n) (as.take n) := by
 refine ⟨by rw [List.length_take, List.length_take, h.1], fun i x c h1 h2 => ?_⟩
 have hi : i < n := by
  have := (List.getElem?_eq_some_iff.mp h1).1
  rw [List.length_take] at this; omega
 rw [List.getElem?_take_of_lt hi] at h1 h2
 exact h.2 i x c h1 h2
theorem RL.get {α : Type} {R : V -> α -> Prop} {xs : List V} {as : List α} {i : Nat} {c : α} (h : RL R xs as) (hc : as[i]? = some c) : ∃ x, xs[i]? = some x /\ R x c := by
 have hi : i < xs.length := by rw [h.1]; exact (List.getElem?_eq_some_iff.mp hc).1
 exact ⟨xs[i], List.getElem?_eq_getElem hi, h.2 i _ c (List.getElem?_eq_getElem hi) hc⟩
def jw (H0 H : Hp) (x : V) (e : Int × List Int) : Prop := ∃ t l, x = .ref t /\ H0 l = none /\ H t = some (.tup [.int e.1, .ref l]) /\ H l = some (.lst (e.2.map V.int))
theorem jw.keeps {H0 H H' : Hp} {x : V} {e : Int × List Int} (s : ah H H') (h : jw H0 H x e) : jw H0 H' x e := let ⟨t, l, e1, e2, e3, e4⟩ := h; ⟨t, l, e1, e2, s _ _ e3, s _ _ e4⟩
theorem jw.old {H0 H1 H : Hp} {x : V} {e : Int × List Int} (s : ah H0 H1) (h : jw H1 H x e) : jw H0 H x e := let ⟨t, l, e1, e2, e3, e4⟩ := h; ⟨t, l, e1, s.none e2, e3, e4⟩
theorem jw.app {H0 H : Hp} {x : V} {e : Int × List Int} {p r : Addr} {xs ys : List V} (hp : H p = some (.lst (.ref r :: xs))) (h : jw H0 H x e) : jw H0 (upd H p (.lst ys)) x e := by
 obtain ⟨t, l, e1, e2, e3, e4⟩ := h
 refine ⟨t, l, e1, e2, ?_, ?_⟩
 . rw [aw (fun z => by rw [z, hp] at e3; cases e3)]; exact e3
 . rw [aw (fun z => by
    rw [z, hp] at e4
    have := Option.some.inj e4
    injection this with h1
    cases he : e.2 with
    | nil => rw [he] at h1; cases h1
    | cons y ys => rw [he] at h1; cases h1)]; exact e4
theorem dI {H : Hp} : ∀ ns : List Int, aT H (ns.map V.int) (ns.map PyData.int)
 | [] => .nil
 | n :: ns => .cons (.int n) (dI ns)
theorem jw.dv {H0 H : Hp} {x : V} {e : Int × List Int} (h : jw H0 H x e) : Dv H x (.tuple [.int e.1, .list (e.2.map PyData.int)]) := by
 obtain ⟨t, l, rfl, _, e3, e4⟩ := h
 exact .tup e3 (.cons (.int _) (.cons (.lst (.inl e4) (dI _)) .nil))
theorem fh : ∀ {H : Hp} {xs : List V} {ns : List Int}, aT H xs (ns.map PyData.int) -> xs = ns.map V.int
 | _, [], [], _ => rfl
 | _, x :: xs, n :: ns, h => by
   cases h with
   | cons h1 h2 => rw [h1.int_inv, fh h2]; rfl
theorem bq.ints {H : Hp} {p : Addr} {ns : List Int} (h : bq H p (ns.map PyData.int)) : H p = some (.lst (ns.map V.int)) := by
 obtain ⟨xs, e, d, _⟩ := h
 rw [fh d] at e
 exact e
theorem BE {H : Hp} {Q : VK} {p q : Addr} {xs zs : List V} (e : H p = some (.lst xs)) (e2 : H q = some (.lst zs)) (hl : xs.length + zs.length <= 4000) (k : ∀ r H', ah H H' -> H r = none -> H' r = some (.lst (xs ++ zs)) -> Q (.ref r) H') : Af (.ref p) (.ref q) H Q :=
 ⟨p, q, xs, zs, rfl, rfl, e, e2, small hl, fun r hr => k r _ (aJ hr) hr aA⟩
theorem AO {H : Hp} {Q : VK} {p : Addr} {xs : List V} (j : Nat) (e : H p = some (.lst xs)) (k : ∀ q H', ah H H' -> H q = none -> H' q = some (.lst (xs.take j)) -> Q (.ref q) H') : wY K (.ref p) none (some (j : Int)) H Q := by
 refine ⟨p, xs, rfl, bp.of e, fun q hq => ?_⟩
 rw [sY]
 exact k q _ (aJ hq) hq aA
theorem B2 {H : Hp} {Q : VK} {p : Addr} {xs : List V} {i : Int} {v : V} (h : H p = some (.tup xs)) (hi : kr xs i = some v) (g : Q v H) : zQ K (.ref p) (.int i) H Q := ⟨p, xs, i, v, rfl, rfl, nD.of h, hi, g⟩
theorem jK {K : PySem.W.Frag} {σ : St} {H : Hp} {t : Addr} {v1 v2 : V} {i j : Nat} {R : St -> Hp -> Prop} (ha : H t = some (.tup [v1, v2])) (h : R ((σ.set i (some v1)).set j (some v2)) H) : lV K 2 (cO (bT i) (cO (bT j) nK)) (.ref t) σ H R :=
 ⟨_, _, rfl, .of ha, rfl, _, _, rfl, _, _, rfl, rfl, h⟩
local macro_rules | `(tactic| walk_at "tpa") => `(tactic| first
 | assumption
 | (refine' ah.at ?s ?m; (case s => assumption); (case m => walk_at "tpa"))
 | fail)
theorem DR {K : PySem.W.Frag} {H : Hp} {p : Addr} {xs : List V} {R : Prop} (e : H p = some (.lst xs)) (h : R) : DN K "list" (.ref p) H /\ R := ⟨.inl ⟨rfl, xs, bp.of e⟩, h⟩
local macro_rules | `(tactic| walk_at "rd1") => `(tactic| first
 | ((with_reducible refine' DR ?e ?_); case e => walk_at "tpa")
 | ((with_reducible refine' B2 ?e1 ?e2 ?_); (case e1 => walk_at "tpa"); (case e2 => exact rfl))
 | fail)
theorem jw.mk {H0 H : Hp} {t l : Addr} {n : Int} {ws : List Int} (h0 : H0 l = none) (h1 : H t = some (.tup [.int n, .ref l])) (h2 : H l = some (.lst (ws.map V.int))) : jw H0 H (.ref t) (n, ws) := ⟨t, l, rfl, h0, h1, h2⟩
def ux : Sp := fun vs H Q _ => ∃ (p g : Addr) (xs : List V) (w : Int) (el : List (Int × List Int)) (gl : List Int), vs = [.ref p, .ref g, .int w] /\ H p = some (.lst xs) /\ (∃ H0, RL (jw H0 H) xs el) /\ H g = some (.lst (gl.map V.int)) /\ 0 < el.length /\ 0 < gl.length /\ (∀ e ∈ el, e.2.length <= 100) /\ ∀ t l H' r, ah H H' -> H t = none -> H l = none -> H' t = some (.tup [.int r.1, .ref l]) -> H' l = some (.lst (r.2.map V.int)) -> BL el gl w r -> Q (.ref t) H'
theorem FN {H H0 : Hp} {Q : VK} {E : XK} {p g : Addr} {xs : List V} {w : Int} {el : List (Int × List Int)} {gl : List Int} (h1 : H p = some (.lst xs)) (h2 : RL (jw H0 H) xs el) (h3 : H g = some (.lst (gl.map V.int))) (h4 : 0 < el.length) (h5 : 0 < gl.length) (h6 : ∀ e ∈ el, e.2.length <= 100) (q : ∀ t l H' r, ah H H' -> H t = none -> H l = none -> H' t = some (.tup [.int r.1, .ref l]) -> H' l = some (.lst (r.2.map V.int)) -> BL el gl w r -> Q (.ref t) H') : ux [.ref p, .ref g, .int w] H Q E := ⟨p, g, xs, w, el, gl, rfl, h1, ⟨H0, h2⟩, h3, h4, h5, h6, q⟩
structure GW (el : List (Int × List Int)) (gl : List Int) (i : Nat) (r : Int × List Int) : Prop where
 get : ∃ (j : Nat) (e : Int × List Int) (g : Int), j < i /\ el[j]? = some e /\ gl[j]? = some g /\ r = (e.1 + g, e.2)
 max : ∀ (j : Nat) (e : Int × List Int) (g : Int), j < i -> el[j]? = some e -> gl[j]? = some g -> e.1 + g <= r.1
theorem GW.fin {el : List (Int × List Int)} {gl : List Int} {r : Int × List Int} {t : Int} (h : GW el gl (min el.length gl.length) r) : BL el gl t (r.1, r.2 ++ [t]) := by
 obtain ⟨j, e, g, _, h1, h2, rfl⟩ := h.get
 refine ⟨⟨j, e, g, h1, h2, rfl⟩, fun j' e' g' k1 k2 => h.max j' e' g' ?_ k1 k2⟩
 have a1 := (List.getElem?_eq_some_iff.mp k1).1
 have a2 := (List.getElem?_eq_some_iff.mp k2).1
 omega
theorem EL (T : Txt K mg a) : bG P w K mg base hZ 1 a.bC a.ic ["chains", "gains", "waking"] ux := by
 refine T.fw.ok b6 (fun vs H Q E h => ?_) (fun cV A outer s H vs Q E hr h => ?_)
 . obtain ⟨_, _, _, _, _, _, rfl, _⟩ := h; rfl
 . obtain ⟨p, g, xs, w, el, gl, rfl, h1, ⟨H0, h2⟩, h3, h4, h5, h6, q⟩ := h
   refine ⟨_, (ai (av (i := 3) b6.nd rfl (Or.inl rfl) gO)
    (ai (dq PassesOwn.never rfl (Aa rfl T.lR (ae (pv 0) (ae (pv 1) ag))) (eE (n := 2) rfl (ao (ak (i := 4) b6.nd rfl (Or.inl rfl)) (ao (ak (i := 5) b6.nd rfl (Or.inl rfl)) bO)))
     (au (fA (PW.pt (vz (bu ur (pv 3) gO (bz _)) (o3 (bu yE (aj aW (aS ef (pv 4) af (fun _ _ => rfl)) (pv 5)) (aS ef (pv 3) af (fun _ _ => rfl)) (bz _)))))
      (au (av (i := 3) b6.nd rfl (Or.inl rfl) (cg (ae (aj aW (aS ef (pv 4) af (fun _ _ => rfl)) (pv 5)) (ae (aS ef (pv 4) af (fun _ _ => rfl)) ag)))))
      cD)))
    (au (aN (cg (ae (aS ef (pv 3) af (fun _ _ => rfl)) (ae (aj uB (aS ef (pv 3) af (fun _ _ => rfl)) (bo (ae (pv 2) ag))) ag))))))), ?_⟩
   repeat' (walk_at "rd1")
   refine zS ?_
   repeat' (walk_at "rd1")
   refine HQ (bp.of h1) (bp.of h3) (fun i σ' H' => ah H H' /\ ∃ z4 z5 b, σ' = [some (.ref p), some (.ref g), some (.int w), some b, z4, z5] /\ ((i = 0 /\ b = .aZ) \/ ∃ r, 0 < i /\ jw H0 H' b r /\ GW el gl i r)) ⟨ah.refl _, _, _, _, rfl, .inl ⟨rfl, rfl⟩⟩ (fun i σ' H' h => h.1) ?_ ?_
   . rintro i x y t σ' H' hx hy ⟨sm, z4, z5, b, rfl, hb⟩ ht
     have hi : i < el.length := by rw [<- h2.1]; exact (List.getElem?_eq_some_iff.mp hx).1
     have hg : i < gl.length := by have := (List.getElem?_eq_some_iff.mp hy).1; rwa [List.length_map] at this
     have yC : el[i]? = some el[i] := List.getElem?_eq_getElem hi
     have tW : gl[i]? = some gl[i] := List.getElem?_eq_getElem hg
     obtain ⟨t1, l1, rfl, n1, e1, e2⟩ := h2.2 i x _ hx yC
     rw [List.getElem?_map, tW] at hy
     cases hy
     generalize el[i] = e at *
     generalize gl[i] = gn at *
     refine jK aA ?_
     have gR : ah H' (upd H' t (.tup [.ref t1, .int gn])) := aJ ht
     generalize upd H' t (.tup [.ref t1, .int gn]) = H1 at *
     have cm := sm.trans gR
     have Gd := cm.at e1
     have E4 := cm.at e2
     rcases hb with ⟨rfl, rfl⟩ | ⟨r, mL, ⟨tb, lb, rfl, nb, b1, b2⟩, hB⟩
     . repeat' (walk_at "rd1")
       . refine gW (ds := [.int (e.1 + gn), .list (e.2.map PyData.int)]) (fG rfl) (.cons (.int _) (.cons (Dv.lst (.inl E4) (dI _)) .nil)) (fun tn H2 sm3 uj yk => ?_)
         repeat' (walk_at "rd1")
         refine ⟨cm.trans sm3, _, _, _, rfl, .inr ⟨(e.1 + gn, e.2), by omega, .mk n1 yk (sm3.at E4), ⟨⟨0, e, gn, by omega, yC, tW, rfl⟩, fun j e' g' hj k1 k2 => ?_⟩⟩⟩
         have : j = 0 := by omega
         subst this
         rw [yC] at k1; rw [tW] at k2
         cases k1; cases k2
         exact Int.le_refl _
       all_goals (rename_i hb; exact absurd rfl hb)
     . have KN := gR.at b1
       have Le := gR.at b2
       repeat' (walk_at "rd1")
       . rename_i BH
         refine gW (ds := [.int (e.1 + gn), .list (e.2.map PyData.int)]) (fG rfl) (.cons (.int _) (.cons (Dv.lst (.inl E4) (dI _)) .nil)) (fun tn H2 sm3 uj yk => ?_)
         repeat' (walk_at "rd1")
         refine ⟨cm.trans sm3, _, _, _, rfl, .inr ⟨(e.1 + gn, e.2), by omega, .mk n1 yk (sm3.at E4), ⟨⟨i, e, gn, by omega, yC, tW, rfl⟩, fun j e' g' hj k1 k2 => ?_⟩⟩⟩
         by_cases BX : j = i
         . subst BX
           rw [yC] at k1; rw [tW] at k2
           cases k1; cases k2
           exact Int.le_refl _
         . have := hB.max j e' g' (by omega) k1 k2
           have := BH
           show _ <= e.1 + gn
           omega
       . rename_i BH
         refine ⟨cm, _, _, _, rfl, .inr ⟨r, by omega, ⟨tb, lb, rfl, nb, KN, Le⟩, ⟨?_, fun j e' g' hj k1 k2 => ?_⟩⟩⟩
         . obtain ⟨j, e', g', hj, h⟩ := hB.get
           exact ⟨j, e', g', by omega, h⟩
         . by_cases BX : j = i
           . subst BX
             rw [yC] at k1; rw [tW] at k2
             cases k1; cases k2
             have := BH
             omega
           . exact hB.max j e' g' (by omega) k1 k2
   . rintro σ' H' ⟨sm, z4, z5, b, rfl, hb⟩
     have LL : 0 < min xs.length (List.map V.int gl).length := by rw [List.length_map, h2.1]; omega
     rcases hb with ⟨h0, rfl⟩ | ⟨r, mL, ⟨tb, lb, rfl, nb, b1, b2⟩, hB⟩
     . omega
     . rw [List.length_map, h2.1] at hB
       repeat' (walk_at "rd1")
       rename_i q1 H1 gR qB kD
       have jr : H1 q1 = some (.lst ([w].map V.int)) := bq.ints (ns := [w]) kD
       have Nq : r.2.length <= 100 := by
        obtain ⟨j, e, gg, _, k1, _, rfl⟩ := hB.get
        exact h6 e (List.mem_of_getElem? k1)
       refine BE (gR.at b2) jr (by simp; omega) (fun lc H2 cm nu He => ?_)
       rw [<- List.map_append] at He
       repeat' (walk_at "rd1")
       refine gW (ds := [.int r.1, .list ((r.2 ++ [w]).map PyData.int)]) (fG rfl) (.cons (.int _) (.cons (Dv.lst (.inl He) (dI _)) .nil)) (fun tn H3 sm3 uj yk => ?_)
       repeat' (walk_at "rd1")
       exact q tn lc H3 (r.1, r.2 ++ [w]) (((sm.trans gR).trans cm).trans sm3) (((sm.trans gR).trans cm).none uj) ((sm.trans gR).none nu) yk (sm3.at He) hB.fin
theorem Bp (T : Txt K mg a) : jD P w K mg base 1 a.bC ["chains", "gains", "waking"] [] ux :=
 ⟨⟨_, _, EL T, T.fw.binds fun _ _ _ _ _ _ => .all fun us hl => match us, hl with | [_, _, _], _ => rfl, .nil⟩⟩
def uh : Sp := fun vs H Q _ => ∃ (v : V) (o : Option Int) (t : Int) (cs : List C4), vs = [v, ow o, .int t] /\ Dv H v (.list (cs.map cQ)) /\ cs.length <= 60 /\ ∀ H', ah H H' -> Q (.int (jn cs o t)) H'
theorem Il {H : Hp} {Q : VK} {E : XK} {v : V} {o : Option Int} {t : Int} {cs : List C4} (h : Dv H v (.list (cs.map cQ))) (hl : cs.length <= 60) (q : ∀ H', ah H H' -> Q (.int (jn cs o t)) H') : uh [v, ow o, .int t] H Q E := ⟨v, o, t, cs, rfl, h, hl, q⟩
theorem Dw (T : Txt K mg a) : bG P w K mg base hZ 1 a.a9 a.gm ["claims", "ahead", "waking"] uh := by
 refine T.eO.ok kB (fun vs H Q E h => ?_) (fun cV A outer s H vs Q E hr h => ?_)
 . obtain ⟨_, _, _, _, rfl, _⟩ := h; rfl
 . obtain ⟨v, o, t, cs, rfl, hv, hl, q⟩ := h
   refine ⟨_, (au (aN (aY (kO rfl) rfl T.gS PyProof.Rows.boot_sum (ae (ie (T := ["name", "first", "last", "weight"]) (M := ["claims", "ahead", "waking"]) (tV (aq cU) ["claims", "ahead", "waking"] rfl rfl (by decide +kernel)) rfl (bx (pv 0)) (fun _ _ _ _ _ => (iw (K := K) (n := 4) rfl rfl (ao (ak (i := 0) (show List.Nodup (["name", "first", "last", "weight", "claims", "ahead", "waking"] : List Str) by decide +kernel) rfl (Or.inl rfl)) (ao (ak (i := 1) (show List.Nodup (["name", "first", "last", "weight", "claims", "ahead", "waking"] : List Str) by decide +kernel) rfl (Or.inl rfl)) (ao (ak (i := 2) (show List.Nodup (["name", "first", "last", "weight", "claims", "ahead", "waking"] : List Str) by decide +kernel) rfl (Or.inl rfl)) (ao (ak (i := 3) (show List.Nodup (["name", "first", "last", "weight", "claims", "ahead", "waking"] : List Str) by decide +kernel) rfl (Or.inl rfl)) bO)))))) (fu (aD (by decide) (aD (by decide) (aD (by decide) (aD (by decide) dU))))) (fun _ _ _ _ _ => (jv (PW.pt (AY (jZ ji ji (pv 1) (pv 6) (pv 2)) (xV (PW.pt (vz (bu ur (pv 5) gO (bz _)) (o3 (bu lD (pv 5) (pv 1) (bz _)))))))))) (fun _ _ _ _ _ => (pv 3))) ag)))), ?_⟩
   repeat' (walk_at "rd1")
   refine kF (cs := cs) (gd := cQ) (fun c => con t c && x9 o c) (fun c => .int (wt c)) hv (by omega) (fun _ => rfl) (fun x c H2 N hc cm hx yes no => ?_) (fun q1 H1 gR qB kD => ?_)
   . have iq : Dv H2 x (.tuple [.str c.1, .int c.2.1, .int c.2.2.1, .int c.2.2.2]) := hx
     refine iG iq (fun v1 v2 v3 v4 e1 e2 e3 e4 => ?_)
     obtain rfl := e1.str_inv
     obtain rfl := e2.int_inv
     obtain rfl := e3.int_inv
     obtain rfl := e4.int_inv
     cases o with
     | none =>
       unfold ow
       repeat' (walk_at "rd1")
       . rename_i h1 h2 _
         refine cJ (fun _ => ?_) (fun hb => by cases hb)
         repeat' (walk_at "rd1")
         exact yes (by simp [con, x9, h1, h2]) _ _ (ah.refl _) (.int _)
       . rename_i h1 h2
         exact cJ (fun hb => by cases hb) (fun _ => no (by simp [con, h1, h2]) _ (ah.refl _))
       . rename_i h1
         exact cJ (fun hb => by cases hb) (fun _ => no (by simp [con, h1]) _ (ah.refl _))
     | some n =>
       unfold ow
       repeat' (walk_at "rd1")
       . rename_i h1 h2 _
         refine cJ (fun hb => ?_) (fun hb => no (by simp [con, x9, h1, h2, of_decide_eq_false hb]) _ (ah.refl _))
         repeat' (walk_at "rd1")
         exact yes (by simp [con, x9, h1, h2, of_decide_eq_true hb]) _ _ (ah.refl _) (.int _)
       . rename_i h1 h2
         exact cJ (fun hb => by cases hb) (fun _ => no (by simp [con, h1, h2]) _ (ah.refl _))
       . rename_i h1
         exact cJ (fun hb => by cases hb) (fun _ => no (by simp [con, h1]) _ (ah.refl _))
   have jr : bq H1 q1 (((cs.filter fun c => con t c && x9 o c).map wt).map PyData.int) := by rw [List.map_map]; exact kD
   repeat' (walk_at "rd1")
   exact q _ (by walk_at "same")
theorem A5 (T : Txt K mg a) : jD P w K mg base 1 a.a9 ["claims", "ahead", "waking"] [] uh :=
 ⟨⟨_, _, Dw T, T.eO.binds fun _ _ _ _ _ _ => .all fun us hl => match us, hl with | [_, _, _], _ => rfl, .nil⟩⟩
def qu (H : Hp) (x : V) (ns : List Int) : Prop := ∃ q, x = .ref q /\ H q = some (.lst (ns.map V.int)) /\ 0 < ns.length
theorem qu.keeps {H H' : Hp} {x : V} {ns : List Int} (s : ah H H') (h : qu H x ns) : qu H' x ns := let ⟨q, e1, e2, e3⟩ := h; ⟨q, e1, s _ _ e2, e3⟩
theorem qu.app {H : Hp} {x : V} {ns : List Int} {p : Addr} {xs ys : List V} {rows : List (List Int)} (hp : H p = some (.lst xs)) (hr : RL (qu H) xs rows) (h : qu H x ns) : qu (upd H p (.lst ys)) x ns := by
 obtain ⟨q, e1, e2, e3⟩ := h
 refine ⟨q, e1, ?_, e3⟩
 rw [aw (fun z => by
  rw [z, hp] at e2
  have := Option.some.inj e2
  injection this with h1
  cases ns with
  | nil => simp at e3
  | cons n ns =>
    have h0 : xs[0]? = some (.int n) := by rw [h1]; rfl
    have ck : 0 < rows.length := by rw [<- hr.1]; exact (List.getElem?_eq_some_iff.mp h0).1
    obtain ⟨_, e, _⟩ := hr.2 0 _ _ h0 (List.getElem?_eq_getElem ck)
    cases e)]
 exact e2
theorem xo {H : Hp} {x : V} {o : Option Int} (h : Dv H x (Fl o)) : x = ow o := by
 cases o with
 | none => exact h.xn
 | some n => exact h.int_inv
theorem vC (ps : List Int) (i : Nat) : (d7 ps i).map Fl = [PyData.none] ++ (ps.map PyData.int).take i := by
 unfold d7
 rw [List.map_cons, List.map_map, List.map_take]
 rfl
def b7 (cs : List C4) (ps : List Int) : Nat -> List (List Int)
 | 0 => []
 | n + 1 => b7 cs ps n ++ [bN cs ps n (ps.getD n 0)]
def ka : Sp := fun vs H Q _ => ∃ (v : V) (p : Addr) (cs : List C4) (ps : List Int), vs = [v, .ref p] /\ Dv H v (.list (cs.map cQ)) /\ cs.length <= 60 /\ bq H p (ps.map PyData.int) /\ ps.length <= 60 /\ ∀ g H' xs, ah H H' -> H g = none -> H' g = some (.lst xs) -> RL (qu H') xs (b7 cs ps ps.length) -> Q (.ref g) H'
theorem xt {H : Hp} {Q : VK} {E : XK} {v : V} {p : Addr} {cs : List C4} {ps : List Int} (h : Dv H v (.list (cs.map cQ))) (hl : cs.length <= 60) (hp : bq H p (ps.map PyData.int)) (uS : ps.length <= 60) (q : ∀ g H' xs, ah H H' -> H g = none -> H' g = some (.lst xs) -> RL (qu H') xs (b7 cs ps ps.length) -> Q (.ref g) H') : ka [v, .ref p] H Q E := ⟨v, p, cs, ps, rfl, h, hl, hp, uS, q⟩
theorem vn (T : Txt K mg a) : bG P w K mg base hZ 2 a.bK a.iZ ["claims", "points"] ka := by
 have mQ := A5 (P := P) (w := w) (base := base) T
 refine T.gD.ok dC (fun vs H Q E h => ?_) (fun cV A outer s H vs Q E hr h => ?_)
 . obtain ⟨_, _, _, _, rfl, _⟩ := h; rfl
 . obtain ⟨v, p, cs, ps, rfl, hv, hl, hp, uS, q⟩ := h
   refine ⟨_, (ai (av (i := 2) dC.nd rfl (Or.inl rfl) (bo ag))
    (ai (dq PassesOwn.never rfl (mC rfl T.bR (ae (pv 1) ag)) (eE (n := 2) rfl (ao (ak (i := 3) dC.nd rfl (Or.inl rfl)) (ao (ak (i := 4) dC.nd rfl (Or.inr rfl)) bO)))
     (au (fQ (lu PySem.F.plainAttrs_list PySem.F.slot_list_append PySem.F.type_list_append c7 (pv 2) (ae (ie (T := ["ahead"]) (M := ["claims", "points", "gains", "place", "waking"]) (tV (aq d6) ["claims", "points", "gains", "place", "waking"] rfl rfl (by decide +kernel)) rfl (bx (aj uB (bo (ae gO ag)) (cf mD (pv 1) dJ (cG (pv 3))))) (fun _ _ _ _ _ => (ak (i := 0) (show List.Nodup (["ahead", "claims", "points", "gains", "place", "waking"] : List Str) by decide +kernel) rfl (Or.inl rfl))) (de (by decide)) (fun _ _ _ _ _ => d0) (fun _ _ _ _ _ => (aG mQ (hr.mono (by decide)) rfl T.fZ T.gC (ae (pv 1) (ae (pv 0) (ae (pv 5) ag)))))) ag)))))
    (au (aN (pv 2))))), ?_⟩
   repeat' (walk_at "rd1")
   rename_i g H1 gR qB Jp
   have Gs : H1 g = some (.lst []) := bq.ints (ns := []) Jp
   clear Jp
   have NK : p ≠ g := hp.ne qB
   refine zc (Hb := H) (cs := ps) hp.dv (fun i σ' H' => ∃ z3 z4 xs, σ' = [some v, some (.ref p), some (.ref g), z3, z4] /\ ah H H' /\ H' g = some (.lst xs) /\ RL (qu H') xs (b7 cs ps i)) ⟨_, _, _, rfl, gR, Gs, .nil⟩ (fun i σ' H' _ ⟨_, _, _, _, sm, _⟩ a' xs e hx => ah.seq sm hx) ?_ ?_
   . rintro i c t σ' H' hc ⟨z3, z4, xs, rfl, sm, hg, hR⟩ ht
     have v9 : i < ps.length := (List.getElem?_eq_some_iff.mp hc).1
     have A4 : xs.length <= 60 := by
      have : ∀ n, (b7 cs ps n).length = n := fun n => by
       induction n with
       | zero => rfl
       | succ n ih => rw [b7, List.length_append, ih]; rfl
      rw [hR.1, this]; omega
     refine jK aA ?_
     have gR : ah H' (upd H' t (.tup [.int (i : Int), .int c])) := aJ ht
     generalize upd H' t (.tup [.int (i : Int), .int c]) = H2 at *
     have cm := sm.trans gR
     have vT : Dv H2 v (.list (cs.map cQ)) := hv.keeps cm
     have sV : bq H2 p (ps.map PyData.int) := hp.keeps cm
     have HK := gR.at hg
     have w6 := hR.mono (R' := qu H2) fun x c h => h.keeps gR
     repeat' (walk_at "rd1")
     rename_i q4 H4 lK sP Gm q5 H5 p5 yB Mz
     refine t8 (Gm.keeps p5) Mz (by simp; omega) (fun q6 H6 rJ Cw MJ => ?_)
     have Hj : Dv H6 (.ref q6) (.list ((d7 ps i).map Fl)) := by rw [vC]; exact MJ.dv
     have CU := (lK.trans p5).trans rJ
     have LD : Dv H6 v (.list (cs.map cQ)) := vT.keeps CU
     repeat' (walk_at "rd1")
     refine kF (cs := d7 ps i) (gd := Fl) (fun _ => true) (fun o => .int (jn cs o c)) Hj (by unfold d7; simp; omega) (fun _ => rfl) (fun x o H7 N ho qb hx yes no => ?_) (fun q7 H7 qb Ft Ju => ?_)
     . obtain rfl := xo hx
       have MY : Dv H7 v (.list (cs.map cQ)) := LD.keeps qb
       repeat' (walk_at "rd1")
       refine cJ (fun hb => ?_) (fun hb => by cases hb)
       repeat' (walk_at "rd1")
       refine Il MY hl (fun H8 Cv => ?_)
       repeat' (walk_at "rd1")
       exact yes rfl _ _ Cv (.int _)
     . rw [eN] at Ju
       have FW : bq H7 q7 ((bN cs ps i c).map PyData.int) := by unfold bN; rw [List.map_map]; exact Ju
       have BI := CU.trans qb
       have GR := BI.at HK
       have GX := w6.mono (R' := qu H7) fun x c h => h.keeps BI
       repeat' (walk_at "rd1")
       refine vJ GR (by omega) ?_
       have Ic : qu H7 (.ref q7) (bN cs ps i c) := ⟨q7, rfl, bq.ints FW, by unfold bN d7; simp⟩
       have tW : ps.getD i 0 = c := by rw [List.getD_eq_getElem?_getD, hc]; rfl
       refine ⟨_, _, _, rfl, fun b u e => ?_, aA, ?_⟩
       . rw [aw (aC e qB)]; exact (cm.trans BI) b u e
       . rw [b7, tW]
         exact (GX.mono fun x c h => h.app GR GX).snoc (Ic.app GR GX)
   . rintro σ' H' ⟨z3, z4, xs, rfl, sm, hg, hR⟩
     repeat' (walk_at "rd1")
     exact q g H' xs sm qB hg hR
theorem sL (T : Txt K mg a) : jD P w K mg base 2 a.bK ["claims", "points"] [] ka :=
 ⟨⟨_, _, vn T, T.gD.binds fun _ _ _ _ _ _ => .all fun us hl => match us, hl with | [_, _], _ => rfl, .nil⟩⟩
theorem wa.FG {cs : List C4} {ps : List Int} {k : Nat} {cl : List (Int × List Int)} (h : wa cs ps k cl) : ∀ e ∈ cl, e.2.length <= k := by
 intro e he
 obtain ⟨j, hj, ej⟩ := List.getElem_of_mem he
 have tP : cl[j]? = some e := by rw [List.getElem?_eq_getElem hj, ej]
 cases j with
 | zero => rw [h.nil] at tP; cases tP; exact Nat.zero_le _
 | succ j =>
   have hk : 0 < k := by
    rcases Nat.eq_zero_or_pos k with rfl | hk
    . rw [h.len, if_pos rfl] at hj; omega
    . exact hk
   have mS : j < ps.length := by rw [h.len, if_neg (by omega)] at hj; omega
   obtain ⟨e', AK, hE⟩ := h.ent hk j _ (List.getElem?_eq_getElem mS)
   rw [tP] at AK
   cases AK
   exact hE.len
structure Cq (cs : List C4) (ps : List Int) (k i : Nat) (el : List (Int × List Int)) : Prop where
 nil : el[0]? = some (0, [])
 len : el.length = i + 1
 ent : ∀ j p, j < i -> ps[j]? = some p -> ∃ e, el[j + 1]? = some e /\ Ent cs ps (k + 1) (some p) e
theorem Cq.JY {cs : List C4} {ps : List Int} {k : Nat} {el : List (Int × List Int)} (h : Cq cs ps k ps.length el) : wa cs ps (k + 1) el :=
 ⟨h.nil, by rw [h.len, if_neg (by omega)], fun _ i p hp => h.ent i p (List.getElem?_eq_some_iff.mp hp).1 hp⟩
theorem Cq.snoc {cs : List C4} {ps : List Int} {k i : Nat} {el : List (Int × List Int)} {p : Int} {r : Int × List Int} (h : Cq cs ps k i el) (hi : ps[i]? = some p) (hr : Ent cs ps (k + 1) (some p) r) : Cq cs ps k (i + 1) (el ++ [r]) := by
 refine ⟨?_, by rw [List.length_append, h.len]; rfl, fun j q hj hq => ?_⟩
 . rw [List.getElem?_append_left (by rw [h.len]; omega)]; exact h.nil
 . by_cases BX : j < i
   . obtain ⟨e, he, hE⟩ := h.ent j q BX hq
     exact ⟨e, by rw [List.getElem?_append_left (by rw [h.len]; omega)]; exact he, hE⟩
   . have : j = i := by omega
     subst this
     rw [hi] at hq
     cases hq
     exact ⟨r, by rw [List.getElem?_append_right (by rw [h.len]; omega), h.len]; simp, hr⟩
theorem k9 (cs : List C4) (ps : List Int) {i : Nat} {p : Int} (hp : ps[i]? = some p) : ∀ n, i < n -> (b7 cs ps n)[i]? = some (bN cs ps i p)
 | 0, h => by omega
 | n + 1, h => by
   have hl : ∀ n, (b7 cs ps n).length = n := fun n => by
    induction n with
    | zero => rfl
    | succ n ih => rw [b7, List.length_append, ih]; rfl
   rw [b7]
   by_cases hi : i < n
   . rw [List.getElem?_append_left (by rw [hl]; exact hi)]; exact k9 cs ps hp n hi
   . have : i = n := by omega
     subst this
     rw [List.getElem?_append_right (by rw [hl]; exact Nat.le_refl _), hl, Nat.sub_self, List.getD_eq_getElem?_getD, hp]
     rfl
theorem ER {K : PySem.W.Frag} {H : Hp} {Q : VK} {p : Addr} {xs : List V} {i : Nat} {v : V} (h : H p = some (.lst xs)) (hi : xs[i]? = some v) (g : Q v H) : kA K (.ref p) (.int (i : Int)) H Q := yY (bp.of h) (fR hi) g
theorem Ao {H : Hp} {Q : VK} {n : Int} {l : Addr} (h : bq H l []) (k : ∀ p H2, ah H H2 -> H p = none -> H2 p = some (.tup [.int n, .ref l]) -> H2 l = some (.lst []) -> Q (.ref p) H2) : vS [.int n, .ref l] H Q :=
 gW (ds := [.int n, .list []]) (fG rfl) (.cons (.int _) (.cons h.dv .nil)) fun p H2 sm hn hp => k p H2 sm hn hp (sm.at (bq.ints (ns := []) h))
theorem z1 {H : Hp} {Q : VK} {n : Int} {t l : Addr} (h1 : H t = some (.tup [.int n, .ref l])) (h2 : H l = some (.lst [])) (k : ∀ p H2, ah H H2 -> H p = none -> H2 p = some (.lst [.ref t]) -> Q (.ref p) H2) : vO [.ref t] H Q :=
 vP (ds := [.tuple [.int n, .list []]]) (fG rfl) (.cons (.tup h1 (.cons (.int _) (.cons (.lst (.inl h2) .nil) .nil))) .nil) fun p H2 sm hn hp _ _ => k p H2 sm hn hp
local macro_rules | `(tactic| walk_at "rd1") => `(tactic| first
 | ((with_reducible refine' z1 ?e1 ?e2 (fun _ _ _ _ _ => ?_)); (case e1 => assumption); (case e2 => assumption))
 | ((with_reducible refine' Ao ?e (fun _ _ _ _ _ _ => ?_)); case e => walk_at "lat")
 | fail)
def uK : Sp := fun vs H Q _ => ∃ (v : V) (m : Int) (cs : List C4), vs = [v, .int m] /\ Dv H v (.list (cs.map cQ)) /\ fY cs /\ cs.length <= 60 /\ 0 <= m /\ ∀ l H' W, ah H H' -> H l = none -> H' l = some (.lst (W.map V.int)) -> Bh cs m W -> W.length <= 60 -> Q (.ref l) H'
theorem Hh {H : Hp} {Q : VK} {E : XK} {v : V} {m : Int} {cs : List C4} (h : Dv H v (.list (cs.map cQ))) (ho : fY cs) (hl : cs.length <= 60) (h0 : 0 <= m) (q : ∀ l H' W, ah H H' -> H l = none -> H' l = some (.lst (W.map V.int)) -> Bh cs m W -> W.length <= 60 -> Q (.ref l) H') : uK [v, .int m] H Q E := ⟨v, m, cs, rfl, h, ho, hl, h0, q⟩
theorem Ec (T : Txt K mg a) : bG P w K mg base hZ 3 a.aQ a.eP ["claims", "most"] uK := by
 have px := sL (P := P) (w := w) (base := base) T
 have nY := Bp (P := P) (w := w) (base := base) T
 refine T.dj.ok ay (fun vs H Q E h => ?_) (fun cV A outer s H vs Q E hr h => ?_)
 . obtain ⟨_, _, _, rfl, _⟩ := h; rfl
 . obtain ⟨v, m, cs, rfl, hv, aI, hl, m0, q⟩ := h
   refine ⟨_, (ai (av (i := 2) ay.nd rfl (Or.inl rfl) (j9 (ie (T := ["name", "first", "last", "weight"]) (M := ["claims", "most", "points", "gains", "best", "chains", "turn", "longer", "place", "waking", "010", "wakings"]) (tV (aq b5) ["claims", "most", "points", "gains", "best", "chains", "turn", "longer", "place", "waking", "weight", "wakings"] rfl rfl (by decide +kernel)) rfl (bx (pv 0)) (fun _ _ _ _ _ => (iw (K := K) (n := 4) rfl rfl (ao (ak (i := 0) (show List.Nodup (["name", "first", "last", "weight", "claims", "most", "points", "gains", "best", "chains", "turn", "longer", "place", "waking", "010", "wakings"] : List Str) by decide +kernel) rfl (Or.inl rfl)) (ao (ak (i := 1) (show List.Nodup (["name", "first", "last", "weight", "claims", "most", "points", "gains", "best", "chains", "turn", "longer", "place", "waking", "010", "wakings"] : List Str) by decide +kernel) rfl (Or.inl rfl)) (ao (ak (i := 2) (show List.Nodup (["name", "first", "last", "weight", "claims", "most", "points", "gains", "best", "chains", "turn", "longer", "place", "waking", "010", "wakings"] : List Str) by decide +kernel) rfl (Or.inl rfl)) (ao (ak (i := 3) (show List.Nodup (["name", "first", "last", "weight", "claims", "most", "points", "gains", "best", "chains", "turn", "longer", "place", "waking", "010", "wakings"] : List Str) by decide +kernel) rfl (Or.inl rfl)) bO)))))) (fu (aD (by decide) (aD (by decide) (aD (by decide) (aD (by decide) dU))))) (fun _ _ _ _ _ => d0) (fun _ _ _ _ _ => (pv 2))) rfl rfl T.b3 rfl T.jA))
    (ai (av (i := 3) ay.nd rfl (Or.inl rfl) (aG px (hr.mono (by decide)) rfl T.jf T.je (ae (pv 0) (ae (pv 2) ag))))
    (ai (av (i := 4) ay.nd rfl (Or.inl rfl) (cg (ae af (ae (bo ag) ag))))
    (ai (av (i := 5) ay.nd rfl (Or.inl rfl) (bo (ae (pv 4) ag)))
    (ai (dq PassesOwn.never rfl (kL rfl T.fF (ae (aY (lE rfl) rfl T.jR PyProof.Rows.boot_min (ae (pv 1) (ae (aY bX rfl T.dz PySem.boot_len (ae (pv 2) ag)) ag))) ag)) (ak (i := 6) ay.nd rfl (Or.inl rfl))
     (ai (av (i := 7) ay.nd rfl (Or.inl rfl) (bo (ae (cg (ae af (ae (bo ag) ag))) ag)))
     (ai (dq PassesOwn.never rfl (mC rfl T.bR (ae (pv 2) ag)) (eE (n := 2) rfl (ao (ak (i := 8) ay.nd rfl (Or.inl rfl)) (ao (ak (i := 9) ay.nd rfl (Or.inl rfl)) bO)))
      (au (fQ (lu PySem.F.plainAttrs_list PySem.F.slot_list_append PySem.F.type_list_append c7 (pv 7) (ae (aG nY (hr.mono (by decide)) rfl T.ip T.iz (ae (cf mD (pv 5) dJ (cG (aj aW (pv 8) af))) (ae (aS dQ (pv 3) (pv 8) (fun _ _ => rfl)) (ae (pv 9) ag)))) ag)))))
     (ai (av (i := 5) ay.nd rfl (Or.inl rfl) (pv 7))
     (au (dq PassesOwn.never rfl (bx (pv 5)) (eE (n := 2) rfl (ao (ak (i := 10) ay.nd rfl (Or.inl rfl)) (ao (ak (i := 11) ay.nd rfl (Or.inl rfl)) bO)))
      (au (fA (bu yE (pv 10) (aS ef (pv 4) af (fun _ _ => rfl)) (bz _))
       (au (av (i := 4) ay.nd rfl (Or.inl rfl) (cg (ae (pv 10) (ae (pv 11) ag)))))
       cD))))))))
    (au (aN (aS ef (pv 4) af (fun _ _ => rfl))))))))), ?_⟩
   repeat' (walk_at "rd1")
   refine jz ?_
   repeat' (walk_at "rd1")
   refine kF (cs := cs) (gd := cQ) (fun _ => true) (fun c => .int c.2.2.1) hv (by omega) (fun _ => rfl) (fun x c H2 N hc cm hx yes no => ?_) (fun q1 H1 gR qB kD => ?_)
   . have iq : Dv H2 x (.tuple [.str c.1, .int c.2.1, .int c.2.2.1, .int c.2.2.2]) := hx
     refine iG iq (fun v1 v2 v3 v4 e1 e2 e3 e4 => ?_)
     obtain rfl := e1.str_inv
     obtain rfl := e2.int_inv
     obtain rfl := e3.int_inv
     obtain rfl := e4.int_inv
     refine cJ (fun hb => ?_) (fun hb => by cases hb)
     repeat' (walk_at "rd1")
     exact yes rfl _ _ (ah.refl _) (.int _)
   have jr : Dv H1 (.ref q1) (.list ((cs.map (·.2.2.1)).map PyData.int)) := by
    have := kD.dv
    rw [eN] at this
    rw [List.map_map]; exact this
   refine kK jr (by rw [List.length_map]; omega) (fun q2 H2 ps cm nu ck kH mU => ?_)
   have lF : ps.length <= 60 := by
    have := gH (ck.imp fun h => Int.ne_of_lt h) (fun x hx => (kH x).mp hx)
    rw [List.length_map] at this
    omega
   have CU := gR.trans cm
   have vT : Dv H2 v (.list (cs.map cQ)) := hv.keeps CU
   clear kD jr
   repeat' (walk_at "rd1")
   refine xt vT hl mU lF (fun g H3 gs sm3 uj K4 MV => ?_)
   have Ef := mU.keeps sm3
   have BI := CU.trans sm3
   repeat' (walk_at "rd1")
   rename_i l0 H4 lK sP Nk t0 H5 p5 yB FV LJ Nh H6 rJ Cw Gk N hN M9 Nt
   have Hz : ah H3 H6 := (lK.trans p5).trans rJ
   have KJ : 0 <= N := by omega
   obtain ⟨n, rfl⟩ := Int.eq_ofNat_of_zero_le KJ
   have I9 : jw H H6 (.ref t0) (0, []) := .mk (BI.none sP) (rJ.at FV) (rJ.at LJ)
   refine lG (fun k σ' H' => ∃ (b : V) (ch : Addr) (z6 z7 z8 z9 ju mZ : Option V) (xs : List V) (cl : List (Int × List Int)) (bs : Int × List Int), σ' = [some v, some (.int m), some (.ref q2), some (.ref g), some b, some (.ref ch), z6, z7, z8, z9, ju, mZ] /\ ah H3 H' /\ jw H H' b bs /\ H' ch = some (.lst xs) /\ RL (jw H H') xs cl /\ wa cs ps k cl /\ we cs ps k bs) ⟨_, _, _, _, _, _, _, _, _, [(0, [])], (0, []), rfl, Hz, I9, Gk, RL.snoc RL.nil I9, wa.zero cs ps, we.zero cs ps⟩ ?_ ?_
   . rintro k σ' H' hk ⟨b, ch, z6, z7, z8, z9, ju, mZ, xs, cl, bs, rfl, ml, hb, rp, JV, hC, hB⟩
     have v7 : k < n := by simpa using hk
     have GA := Ef.keeps ml
     have Kb := ml.at K4
     have Kq := MV.mono (R' := qu H') fun x c h => h.keeps ml
     have Cm := BI.trans ml
     obtain ⟨tb, lb, rfl, nb, b1, b2⟩ := hb
     repeat' (walk_at "rd1")
     rename_i l1 H7 qb Ft NB t1 H8 Cv Ld MQ KL p H9 Ep IZ Li
     have uZ : ah H' H9 := (qb.trans Cv).trans Ep
     have Hk : H' p = none := (qb.trans Cv).none IZ
     have Kh : jw H H9 (.ref t1) (0, []) := .mk (Cm.none Ft) (Ep.at MQ) (Ep.at KL)
     refine zc (Hb := H') (cs := ps) GA.dv (fun i σ' H2 => ∃ (z8 z9 : Option V) (ys : List V) (el : List (Int × List Int)), σ' = [some v, some (.int m), some (.ref q2), some (.ref g), some (.ref tb), some (.ref ch), some (.int (0 + (k : Int))), some (.ref p), z8, z9, ju, mZ] /\ ah H' H2 /\ H2 p = some (.lst (.ref t1 :: ys)) /\ RL (jw H H2) (.ref t1 :: ys) el /\ Cq cs ps k i el) ⟨_, _, _, [(0, [])], rfl, uZ, Li, RL.snoc RL.nil Kh, ⟨rfl, rfl, fun j _ hj => by omega⟩⟩ (fun i σ' H' _ ⟨_, _, _, _, _, sm, _⟩ a' xs e hx => ah.seq sm hx) ?_ ?_
     . rintro i c t σ' H2 hc ⟨z8, z9, ys, el, rfl, cm, sV, w6, hL⟩ ht
       have v9 : i < ps.length := (List.getElem?_eq_some_iff.mp hc).1
       refine jK aA ?_
       have Gu : ah H2 (upd H2 t (.tup [.int (i : Int), .int c])) := aJ ht
       generalize upd H2 t (.tup [.int (i : Int), .int c]) = Ha at *
       have Gp := cm.trans Gu
       have GZ := Gp.at rp
       have J9 := Gp.at Kb
       have C7 := Gu.at sV
       repeat' (walk_at "rd1")
       rw [show ((i : Int) + 1) = ((i + 1 : Nat) : Int) from by omega]
       refine AO (i + 1) GZ (fun cu Hb E9 Nv MI => ?_)
       repeat' (walk_at "rd1")
       obtain ⟨gx, Md, gq, rfl, Ln, tW⟩ := Kq.get (k9 cs ps hc _ v9)
       refine ER (E9.at J9) Md ?_
       repeat' (walk_at "rd1")
       have xX := Gp.trans E9
       have Lb : 0 < cl.length := (List.getElem?_eq_some_iff.mp hC.nil).1
       refine FN (H0 := H) (el := cl.take (i + 1)) MI ((JV.mono fun x c h => h.keeps xX).take (i + 1)) (xX.at Ln) (by rw [List.length_take]; omega) tW (fun e he => by have := hC.FG e (List.mem_of_mem_take he); omega) (fun t2 l2 Hc r G8 Np HN Ki uS J8 => ?_)
       repeat' (walk_at "rd1")
       have HJ := xX.trans G8
       have By := (E9.trans G8).at C7
       have Jv : (V.ref t1 :: ys).length <= 100 := by rw [w6.1, hL.len]; omega
       refine vJ By (by omega) ?_
       have KC : RL (jw H Hc) (.ref t1 :: ys) el := w6.mono fun x c h => h.keeps (Gu.trans (E9.trans G8))
       have k8 : jw H Hc (.ref t2) r := ⟨t2, l2, rfl, (Cm.trans xX).none HN, Ki, uS⟩
       refine ⟨_, _, ys ++ [.ref t2], el ++ [r], rfl, fun b u e => ?_, aA, ?_, hL.snoc hc (hC.step ck hc J8)⟩
       . rw [aw (aC e Hk)]; exact HJ b u e
       . exact (KC.mono fun x c h => h.app By).snoc (k8.app By)
     . rintro σ' H2 ⟨z8, z9, ys, el, rfl, cm, sV, w6, hL⟩
       repeat' (walk_at "rd1")
       refine forL (bp.of sV) (fun j σ' H3 => ∃ (b : V) (ju mZ : Option V), σ' = [some v, some (.int m), some (.ref q2), some (.ref g), some b, some (.ref p), some (.int (0 + (k : Int))), some (.ref p), z8, z9, ju, mZ] /\ ah H2 H3 /\ jw H H3 b ((el.take j).foldl pick bs)) ⟨_, _, _, rfl, ah.refl _, tb, lb, rfl, nb, cm.at b1, cm.at b2⟩ (fun j σ' H3 _ ⟨_, _, _, _, sm, _⟩ => bp.of (sm.at sV)) ?_ ?_
       . rintro j x σ' H3 hx ⟨b, ju, mZ, rfl, sm3, hb⟩
         have mS : j < el.length := by rw [<- w6.1]; exact (List.getElem?_eq_some_iff.mp hx).1
         have IA : el[j]? = some el[j] := List.getElem?_eq_getElem mS
         obtain ⟨tx, lx, rfl, nx, x1, x2⟩ := (w6.2 j x _ hx IA).keeps sm3
         rw [take_snoc IA, List.foldl_append]
         generalize el[j] = e at *
         generalize (el.take j).foldl pick bs = bj at *
         obtain ⟨tc, lc, rfl, nc, c1, c2⟩ := hb
         refine jK x1 ?_
         repeat' (walk_at "rd1")
         . rename_i BH
           refine gW (ds := [.int e.1, .list (e.2.map PyData.int)]) (fG rfl) (.cons (.int _) (.cons (Dv.lst (.inl x2) (dI _)) .nil)) (fun tn H4 lK sP yk => ?_)
           repeat' (walk_at "rd1")
           refine ⟨_, _, _, rfl, sm3.trans lK, ?_⟩
           have : [e].foldl pick bj = e := by show (if e.1 > bj.1 then e else bj) = e; rw [if_pos BH]
           rw [this]
           exact ⟨tn, lx, rfl, nx, yk, lK.at x2⟩
         . rename_i BH
           refine ⟨_, _, _, rfl, sm3, ?_⟩
           have : [e].foldl pick bj = bj := by show (if e.1 > bj.1 then e else bj) = bj; rw [if_neg BH]
           rw [this]
           exact ⟨tc, lc, rfl, nc, c1, c2⟩
       . rintro σ' H3 ⟨b, ju, mZ, rfl, sm3, hb⟩
         rw [w6.1, List.take_length] at hb
         refine ⟨_, _, _, _, _, _, _, _, _, el, el.foldl pick bs, rfl, (ml.trans cm).trans sm3, hb, sm3.at sV, w6.mono fun x c h => h.keeps sm3, hL.JY, hB.step hL.JY⟩
   . rintro σ' H' ⟨b, ch, z6, z7, z8, z9, ju, mZ, xs, cl, bs, rfl, ml, hb, rp, JV, hC, hB⟩
     obtain ⟨tb, lb, rfl, nb, b1, b2⟩ := hb
     have Cm := BI.trans ml
     repeat' (walk_at "rd1")
     have hO : Bh cs m bs.2 := hB.FZ ck (fun c hc => (kH _).mpr (List.mem_map_of_mem hc)) (fun c hc => by have := (aI.w1 c hc).1; show 0 <= c.2.2.2; omega) (by simp; omega) (by simp; omega)
     exact q lb H' bs.2 Cm nb b2 hO (by have := hB.len; simp at this; omega)
theorem AA (T : Txt K mg a) : jD P w K mg base 3 a.aQ ["claims", "most"] [] uK :=
 ⟨⟨_, _, Ec T, T.dj.binds fun _ _ _ _ _ _ => .all fun us hl => match us, hl with | [_, _], _ => rfl, .nil⟩⟩
theorem qI : ∀ {cs : List C4}, (∀ c ∈ cs, 1 <= c.2.2.2 /\ c.2.2.2 <= 10 ^ 12) -> 0 <= (cs.map wt).sum /\ (cs.map wt).sum <= 10 ^ 12 * cs.length
 | [], _ => by simp
 | c :: cs, h => by
   have ih := qI (cs := cs) fun d hd => h d (List.mem_cons_of_mem _ hd)
   have hc := h c List.mem_cons_self
   rw [List.map_cons, List.sum_cons, List.length_cons]
   unfold wt at ih ⊢
   omega
def B5 (cs : List C4) (pr s : Int) : Prop := ∃ f, wL pr cs f /\ Exact pr cs f /\ s = (cs.map fun c => f c.1).sum
def Dn (cs : List C4) (m p : Int) : Prop := p = 0 \/ ∃ s0 s1, B5 cs (p - 1) s0 /\ B5 cs p s1 /\ m < s1 - s0
def Up (cs : List C4) (m p : Int) : Prop := p = (cs.map wt).sum \/ ∃ s0 s1, B5 cs p s0 /\ B5 cs (p + 1) s1 /\ s1 - s0 <= m
def mF : Sp := fun vs H Q _ => ∃ (v : V) (pr : Int) (cs : List C4), vs = [v, .int pr] /\ Dv H v (.list (cs.map cQ)) /\ fY cs /\ cs.length <= 60 /\ 0 <= pr /\ ∀ H' s, ah H H' -> B5 cs pr s -> Q (.int s) H'
theorem tZ {H : Hp} {Q : VK} {E : XK} {v : V} {pr : Int} {cs : List C4} (h : Dv H v (.list (cs.map cQ))) (ho : fY cs) (hl : cs.length <= 60) (h0 : 0 <= pr) (q : ∀ H' s, ah H H' -> B5 cs pr s -> Q (.int s) H') : mF [v, .int pr] H Q E := ⟨v, pr, cs, rfl, h, ho, hl, h0, q⟩
theorem wq (T : Txt K mg a) : bG P w K mg base hZ 6 a.bA a.g6 ["claims", "price"] mF := by
 have cI := gJ (P := P) (w := w) (base := base) T
 refine T.fg.ok mn (fun vs H Q E h => ?_) (fun cV A outer s H vs Q E hr h => ?_)
 . obtain ⟨_, _, _, rfl, _⟩ := h; rfl
 . obtain ⟨v, pr, cs, rfl, hv, aI, hl, p0, q⟩ := h
   refine ⟨_, (au (aN (p6 (aG cI (hr.mono (by decide)) rfl T.cS T.cR (ae (pv 1) (ae (pv 0) ag))) rfl rfl T.gS))), ?_⟩
   repeat' (walk_at "rd1")
   refine jS hv aI hl p0 (fun pd H5 f p5 yB hd sS hx => ?_)
   repeat' (walk_at "rd1")
   refine uJ (ns := cs.map fun c => f c.1) hd (by unfold jl; rw [List.map_map, List.map_map]; rfl) ?_
   repeat' (walk_at "rd1")
   exact q _ _ p5 ⟨f, sS, hx, rfl⟩
theorem tS (T : Txt K mg a) : jD P w K mg base 6 a.bA ["claims", "price"] [] mF :=
 ⟨⟨_, _, wq T, T.fg.binds fun _ _ _ _ _ _ => .all fun us hl => match us, hl with | [_, _], _ => rfl, .nil⟩⟩
def pS : Sp := fun vs H Q _ => ∃ (v : V) (m : Int) (cs : List C4), vs = [v, .int m] /\ Dv H v (.list (cs.map cQ)) /\ fY cs /\ cs.length <= 60 /\ ∀ H' p, ah H H' -> 0 <= p -> p <= (cs.map wt).sum -> Dn cs m p -> Up cs m p -> Q (.int p) H'
theorem D0 {H : Hp} {Q : VK} {E : XK} {v : V} {m : Int} {cs : List C4} (h : Dv H v (.list (cs.map cQ))) (ho : fY cs) (hl : cs.length <= 60) (q : ∀ H' p, ah H H' -> 0 <= p -> p <= (cs.map wt).sum -> Dn cs m p -> Up cs m p -> Q (.int p) H') : pS [v, .int m] H Q E := ⟨v, m, cs, rfl, h, ho, hl, q⟩
theorem AF (T : Txt K mg a) : bG P w K mg base hZ 7 a.bL a.i9 ["claims", "most"] pS := by
 have i6 := tS (P := P) (w := w) (base := base) T
 refine T.gT.ok bZ (fun vs H Q E h => ?_) (fun cV A outer s H vs Q E hr h => ?_)
 . obtain ⟨_, _, _, rfl, _⟩ := h; rfl
 . obtain ⟨v, m, cs, rfl, hv, aI, hl, q⟩ := h
   refine ⟨_, (ai (av (i := 2) bZ.nd rfl (Or.inl rfl) af)
    (ai (av (i := 3) bZ.nd rfl (Or.inl rfl) (aY (kO rfl) rfl T.gS PyProof.Rows.boot_sum (ae (ie (T := ["name", "first", "last", "weight"]) (M := ["claims", "most", "low", "high", "middle"]) (tV (aq d5) ["claims", "most", "low", "high", "middle"] rfl rfl (by decide +kernel)) rfl (bx (pv 0)) (fun _ _ _ _ _ => (iw (K := K) (n := 4) rfl rfl (ao (ak (i := 0) (show List.Nodup (["name", "first", "last", "weight", "claims", "most", "low", "high", "middle"] : List Str) by decide +kernel) rfl (Or.inl rfl)) (ao (ak (i := 1) (show List.Nodup (["name", "first", "last", "weight", "claims", "most", "low", "high", "middle"] : List Str) by decide +kernel) rfl (Or.inl rfl)) (ao (ak (i := 2) (show List.Nodup (["name", "first", "last", "weight", "claims", "most", "low", "high", "middle"] : List Str) by decide +kernel) rfl (Or.inl rfl)) (ao (ak (i := 3) (show List.Nodup (["name", "first", "last", "weight", "claims", "most", "low", "high", "middle"] : List Str) by decide +kernel) rfl (Or.inl rfl)) bO)))))) (fu (aD (by decide) (aD (by decide) (aD (by decide) (aD (by decide) dU))))) (fun _ _ _ _ _ => d0) (fun _ _ _ _ _ => (pv 3))) ag)))
    (ai (nP PassesOwn.never (bu lD (pv 2) (pv 3) (bz _))
     (ai (av (i := 4) bZ.nd rfl (Or.inl rfl) (aj aM (aj aW (pv 2) (pv 3)) af))
     (au (fA (bu ji (aj gM (aG i6 (hr.mono (by decide)) rfl T.eA T.eD (ae (pv 0) (ae (aj aW (pv 4) af) ag))) (aG i6 (hr.mono (by decide)) rfl T.eA T.eD (ae (pv 0) (ae (pv 4) ag)))) (pv 1) (bz _))
      (au (av (i := 3) bZ.nd rfl (Or.inl rfl) (pv 4)))
      (au (av (i := 2) bZ.nd rfl (Or.inl rfl) (aj aW (pv 4) af)))))))
    (au (aN (pv 2)))))), ?_⟩
   repeat' (walk_at "rd1")
   refine kF (cs := cs) (gd := cQ) (fun _ => true) (fun c => .int (wt c)) hv (by omega) (fun _ => rfl) (fun x c H2 N hc cm hx yes no => ?_) (fun q1 H1 gR qB kD => ?_)
   . have iq : Dv H2 x (.tuple [.str c.1, .int c.2.1, .int c.2.2.1, .int c.2.2.2]) := hx
     refine iG iq (fun v1 v2 v3 v4 e1 e2 e3 e4 => ?_)
     obtain rfl := e1.str_inv
     obtain rfl := e2.int_inv
     obtain rfl := e3.int_inv
     obtain rfl := e4.int_inv
     refine cJ (fun hb => ?_) (fun hb => by cases hb)
     repeat' (walk_at "rd1")
     exact yes rfl _ _ (ah.refl _) (.int _)
   rw [eN] at kD
   have jr : Dv H1 (.ref q1) (.list ((cs.map wt).map PyData.int)) := by rw [List.map_map]; exact kD.dv
   have hb := qI aI.w1
   repeat' (walk_at "rd1")
   clear kD jr
   have hU : Up cs m (cs.map wt).sum := .inl rfl
   generalize (cs.map wt).sum = tw at *
   refine qH (fun r σ' H' => ∃ (lo hi : Int) (z4 : Option V), σ' = [some v, some (.int m), some (.int lo), some (.int hi), z4] /\ ah H H' /\ 0 <= lo /\ lo <= hi /\ hi <= tw /\ Dn cs m lo /\ Up cs m hi /\ r = (hi - lo).toNat) ⟨_, 0, tw, _, rfl, gR, Int.le_refl _, hb.1, Int.le_refl _, .inl rfl, hU, rfl⟩ ?_
   rintro r σ' H' ⟨lo, hi, z4, rfl, sm, h0, h1, h2, hD, IK, rfl⟩
   have Dx : Dv H' v (.list (cs.map cQ)) := hv.keeps sm
   repeat' (walk_at "rd1")
   . rename_i ck
     refine tZ Dx aI hl (by omega) (fun H2 s1 cm JR => ?_)
     have vT : Dv H2 v (.list (cs.map cQ)) := Dx.keeps cm
     repeat' (walk_at "rd1")
     refine tZ vT aI hl (by omega) (fun H3 s0 sm3 Jm => ?_)
     repeat' (walk_at "rd1")
     . rename_i hle
       refine ⟨_, ?_, lo, (lo + hi) / 2, _, rfl, (sm.trans cm).trans sm3, h0, by omega, by omega, hD, .inr ⟨s0, s1, Jm, JR, hle⟩, rfl⟩
       omega
     . rename_i hle
       refine ⟨_, ?_, (lo + hi) / 2 + 1, hi, _, rfl, (sm.trans cm).trans sm3, by omega, by omega, by omega, .inr ⟨s0, s1, ?_, JR, by omega⟩, IK, rfl⟩
       . omega
       . rw [show (lo + hi) / 2 + 1 - 1 = (lo + hi) / 2 by omega]; exact Jm
   . rename_i ck
     have : lo = hi := by omega
     subst this
     exact q H' lo sm h0 h2 hD IK
theorem wK (T : Txt K mg a) : jD P w K mg base 7 a.bL ["claims", "most"] [] pS :=
 ⟨⟨_, _, AF T, T.gT.binds fun _ _ _ _ _ _ => .all fun us hl => match us, hl with | [_, _], _ => rfl, .nil⟩⟩
def mj : Sp := fun vs H Q _ => ∃ (v : V) (m : Int) (cs : List C4), vs = [v, .int m] /\ Dv H v (.list (cs.map cQ)) /\ fY cs /\ cs.length <= 60 /\ 0 <= m /\ ∀ t l d H' W p f, ah H H' -> H l = none -> H d = none -> H' t = some (.tup [.ref l, .int p, .ref d]) -> H' l = some (.lst (W.map V.int)) -> iX H' d (jl f cs) -> Bh cs m W -> W.length <= 60 -> 0 <= p -> p <= (cs.map wt).sum -> Dn cs m p -> Up cs m p -> wL p cs f -> Exact p cs f -> l ≠ d -> Q (.ref t) H'
theorem Bv {H : Hp} {Q : VK} {E : XK} {v : V} {m : Int} {cs : List C4} (h : Dv H v (.list (cs.map cQ))) (ho : fY cs) (hl : cs.length <= 60) (h0 : 0 <= m) (q : ∀ t l d H' W p f, ah H H' -> H l = none -> H d = none -> H' t = some (.tup [.ref l, .int p, .ref d]) -> H' l = some (.lst (W.map V.int)) -> iX H' d (jl f cs) -> Bh cs m W -> W.length <= 60 -> 0 <= p -> p <= (cs.map wt).sum -> Dn cs m p -> Up cs m p -> wL p cs f -> Exact p cs f -> l ≠ d -> Q (.ref t) H') : mj [v, .int m] H Q E := ⟨v, m, cs, rfl, h, ho, hl, h0, q⟩
theorem yt (T : Txt K mg a) : bG P w K mg base hZ 8 a.fm a.qe ["claims", "most"] mj := by
 have oW := wK (P := P) (w := w) (base := base) T
 have kj := AA (P := P) (w := w) (base := base) T
 have cI := gJ (P := P) (w := w) (base := base) T
 refine T.oQ.ok ql (fun vs H Q E h => ?_) (fun cV A outer s H vs Q E hr h => ?_)
 . obtain ⟨_, _, _, rfl, _⟩ := h; rfl
 . obtain ⟨v, m, cs, rfl, hv, aI, hl, m0, q⟩ := h
   refine ⟨_, (ai (av (i := 2) ql.nd rfl (Or.inl rfl) (aG oW (hr.mono (by decide)) rfl T.jh T.jd (ae (pv 0) (ae (pv 1) ag))))
    (au (aN (cg (ae (aG kj (hr.mono (by decide)) rfl T.eZ T.eW (ae (pv 0) (ae (pv 1) ag))) (ae (pv 2) (ae (aG cI (hr.mono (by decide)) rfl T.cS T.cR (ae (pv 2) (ae (pv 0) ag))) ag))))))), ?_⟩
   repeat' (walk_at "rd1")
   refine D0 hv aI hl (fun H1 p gR p0 p1 hD hU => ?_)
   have Cd : Dv H1 v (.list (cs.map cQ)) := hv.keeps gR
   repeat' (walk_at "rd1")
   refine Hh Cd aI hl m0 (fun l H2 W cm nu uS hO hW => ?_)
   have vT : Dv H2 v (.list (cs.map cQ)) := Cd.keeps cm
   repeat' (walk_at "rd1")
   refine jS vT aI hl p0 (fun d H3 f sm3 uj hd sS hx => ?_)
   repeat' (walk_at "rd1")
   have Gx := sm3.at uS
   refine gW (ds := [.list (W.map PyData.int), .int p, _]) (fG rfl) (.cons (.lst (.inl Gx) (dI _)) (.cons (.int _) (.cons hd.dv .nil))) (fun tn H4 lK sP yk => ?_)
   repeat' (walk_at "rd1")
   exact q tn l d H4 W p f (((gR.trans cm).trans sm3).trans lK) (gR.none nu) ((gR.trans cm).none uj) yk (lK.at Gx) (hd.keeps lK) hO hW p0 p1 hD hU sS hx (aC uS uj)
theorem vK (T : Txt K mg a) : jD P w K mg base 8 a.fm ["claims", "most"] [] mj :=
 ⟨⟨_, _, yt T, T.oQ.binds fun _ _ _ _ _ _ => .all fun us hl => match us, hl with | [_, _], _ => rfl, .nil⟩⟩
abbrev Cl := Str × Int × Int
def rG (c : Cl) : PyData := .tuple [.str c.1, .int c.2.1, .int c.2.2]
theorem wW (c : Cl) : jm (rG c) = true := rfl
theorem xH {c d : Cl} (h : rG c = rG d) : c = d := by
 obtain ⟨a, b, e⟩ := c
 obtain ⟨a', b', e'⟩ := d
 simp only [rG, PyData.tuple.injEq, List.cons.injEq, PyData.str.injEq, PyData.int.injEq, and_true] at h
 obtain ⟨rfl, rfl, rfl⟩ := h
 rfl
def gb (c : Cl) : Int × Str := (c.2.2, c.1)
def dO : List Cl -> List Int -> List Str -> List Int × List Str
 | [], w, a => (w, a)
 | c :: r, w, a => if w = [] \/ w.getLast?.getD 0 < c.2.1 then dO r (w ++ [c.2.2]) (a ++ [c.1]) else dO r w a
theorem ni {α : Type} (l : List α) : l = [] \/ ∃ i z, l = i ++ [z] := by
 rcases List.eq_nil_or_concat l with h | ⟨i, z, h⟩
 . exact .inl h
 . exact .inr ⟨i, z, by rw [h, List.concat_eq_append]⟩
def picks : Option Int -> List Cl -> List Cl
 | _, [] => []
 | l, c :: r => if l = none \/ l.getD 0 < c.2.1 then c :: picks (some c.2.2) r else picks l r
theorem eK : ∀ (cs : List Cl) (w : List Int) (a : List Str), dO cs w a = (w ++ (picks w.getLast? cs).map (·.2.2), a ++ (picks w.getLast? cs).map (·.1))
 | [], w, a => by simp [dO, picks]
 | c :: r, w, a => by
   unfold dO picks
   have e : (w = [] \/ w.getLast?.getD 0 < c.2.1) ↔ (w.getLast? = none \/ w.getLast?.getD 0 < c.2.1) := by simp
   by_cases h : w = [] \/ w.getLast?.getD 0 < c.2.1
   . rw [if_pos h, if_pos (e.mp h), eK r]
     simp
   . rw [if_neg h, if_neg (fun z => h (e.mpr z)), eK r]
theorem iH : ∀ (cs : List Cl) (l : Option Int), (picks l cs).Sublist cs
 | [], _ => by simp [picks]
 | c :: r, l => by
   unfold picks
   split
   . exact (iH r _).cons₂ c
   . exact (iH r _).cons c
def me (cs : List Cl) : Prop := cs.Pairwise fun c d => c.2.2 <= d.2.2
theorem iR.up {cs : List Cl} (h : cs.Pairwise fun c d => b4 (gb d) (gb c) = false) : me cs := h.imp fun {c d} e => by
 have := (cv.mp e).1
 simp only [gb] at this
 omega
theorem eJ : ∀ (cs : List Cl) (l : Int), me cs -> (∀ c ∈ cs, l <= c.2.2) -> ∀ d ∈ picks (some l) cs, l < d.2.1
 | [], _, _, _, d, h => by simp [picks] at h
 | c :: r, l, hu, hl, d, h => by
   have sR := List.pairwise_cons.mp hu
   unfold picks at h
   split at h
   . rename_i hc
     have sT : l < c.2.1 := by simpa using hc
     rcases List.mem_cons.mp h with rfl | h
     . exact sT
     . have := eJ r c.2.2 sR.2 (fun e he => sR.1 e he) d h
       have := hl c List.mem_cons_self
       omega
   . exact eJ r l sR.2 (fun e he => hl e (List.mem_cons_of_mem _ he)) d h
theorem fz : ∀ (cs : List Cl) (l : Option Int), me cs -> (picks l cs).Pairwise fun c d => c.2.2 < d.2.1
 | [], _, _ => by simp [picks]
 | c :: r, l, hu => by
   have sR := List.pairwise_cons.mp hu
   unfold picks
   split
   . refine List.pairwise_cons.mpr ⟨fun d hd => eJ r c.2.2 sR.2 (fun e he => sR.1 e he) d hd, fz r _ sR.2⟩
   . exact fz r _ sR.2
theorem FJ (cs : List Cl) : (dO cs [] []).2 = (picks none cs).map (·.1) := by rw [eK]; simp
theorem HB (cs : List Cl) : (dO cs [] []).1 = (picks none cs).map (·.2.2) := by rw [eK]; simp
theorem gU : ∀ (cs : List Cl) (l : Option Int), me cs -> (∀ x, l = some x -> ∀ c ∈ cs, x <= c.2.2) -> (∀ c ∈ cs, c.2.1 <= c.2.2) -> ∀ c ∈ cs, (∃ t ∈ (picks l cs).map (·.2.2), c.2.1 <= t /\ t <= c.2.2) \/ ∃ x, l = some x /\ c.2.1 <= x /\ x <= c.2.2
 | [], _, _, _, _, c, h => by cases h
 | d :: r, l, hu, hl, hw, c, h => by
   have sR := List.pairwise_cons.mp hu
   unfold picks
   split
   . rcases List.mem_cons.mp h with rfl | h
     . exact .inl ⟨c.2.2, by simp, hw c List.mem_cons_self, Int.le_refl _⟩
     . rcases gU r (some d.2.2) sR.2 (fun x e e2 he => by cases e; exact sR.1 e2 he) (fun e he => hw e (List.mem_cons_of_mem _ he)) c h with ⟨t, ht, h2⟩ | ⟨x, e, h2⟩
       . exact .inl ⟨t, List.mem_cons_of_mem _ ht, h2⟩
       . cases e
         exact .inl ⟨d.2.2, by simp, h2⟩
   . rename_i hc
     rcases List.mem_cons.mp h with rfl | h
     . right
       cases l with
       | none => simp at hc
       | some x =>
         have : ¬ x < c.2.1 := by simpa using hc
         exact ⟨x, rfl, by omega, hl x rfl c List.mem_cons_self⟩
     . exact gU r l sR.2 (fun x e e2 he => hl x e e2 (List.mem_cons_of_mem _ he)) (fun e he => hw e (List.mem_cons_of_mem _ he)) c h
def g0 : Sp := fun vs H Q _ => ∃ (v : V) (c : Cl), vs = [v] /\ Dv H v (rG c) /\ ∀ y H', ah H H' -> Dv H' y (.tuple [.int (gb c).1, .str (gb c).2]) -> Q y H'
theorem r6 {H : Hp} {Q : VK} {E : XK} {v : V} {c : Cl} (h : Dv H v (rG c)) (q : ∀ y H', ah H H' -> Dv H' y (.tuple [.int (gb c).1, .str (gb c).2]) -> Q y H') : g0 [v] H Q E := ⟨v, c, rfl, h, q⟩
def iR (cs : List Cl) : Prop := cs.Pairwise fun c d => b4 (gb d) (gb c) = false
def iF : Sp := fun vs H Q _ => ∃ (v : V) (cs : List Cl), vs = [v] /\ Dv H v (.list (cs.map rG)) /\ cs.length < 64 /\ ∀ (t pw pa : Addr) (H' : Hp) (dn : List Cl), ah H H' -> H t = none -> H pw = none -> H pa = none -> pw ≠ pa -> dn.Perm cs -> iR dn ->
 bq H' pw ((dO dn [] []).1.map PyData.int) -> bq H' pa ((dO dn [] []).2.map PyData.str) -> H' t = some (.tup [.ref pw, .ref pa]) -> Q (.ref t) H'
theorem uC {H : Hp} {Q : VK} {E : XK} {v : V} {cs : List Cl} (h : Dv H v (.list (cs.map rG))) (hl : cs.length < 64) (q : ∀ (t pw pa : Addr) (H' : Hp) (dn : List Cl), ah H H' -> H t = none -> H pw = none -> H pa = none -> pw ≠ pa -> dn.Perm cs -> iR dn ->
 bq H' pw ((dO dn [] []).1.map PyData.int) -> bq H' pa ((dO dn [] []).2.map PyData.str) -> H' t = some (.tup [.ref pw, .ref pa]) -> Q (.ref t) H') : iF [v] H Q E := ⟨v, cs, rfl, h, hl, q⟩
theorem oY (T : Txt K mg a) : bG P w K mg base hZ 1 a.bQ a.gN ["claim"] g0 := by
 refine T.dS.ok jV (fun vs H Q E h => ?_) (fun cV A outer s H vs Q E hr h => ?_)
 . obtain ⟨_, _, rfl, _⟩ := h; rfl
 . obtain ⟨v, c, rfl, hv, q⟩ := h
   unfold rG at hv
   refine ⟨_, (au (aN (cg (ae (aS dQ (pv 0) af (fun _ _ => rfl)) (ae (aS dQ (pv 0) af (fun _ _ => rfl)) ag))))), ?_⟩
   repeat' (walk_at "rd1")
   refine q _ _ ?_ ?_; walk_at "same"; walk_at "dat"
theorem nI (T : Txt K mg a) : jD P w K mg base 1 a.bQ ["claim"] [] g0 :=
 ⟨⟨_, _, oY T, T.dS.binds fun _ _ _ _ _ _ => .all fun us hl => match us, hl with | [_], _ => rfl, .nil⟩⟩
theorem rZ (T : Txt K mg a) : bG P w K mg base hZ 4 a.cN a.lJ ["claims"] iF := by
 have iT := nI (P := P) (w := w) (base := base) T
 refine T.j1.ok c9 (fun vs H Q E h => ?_) (fun cV A outer s H vs Q E hr h => ?_)
 . obtain ⟨_, _, rfl, _⟩ := h; rfl
 . obtain ⟨v, cs, rfl, hv, hl, q⟩ := h
   refine ⟨_, (ai (av (i := 1) c9.nd rfl (Or.inl rfl) (bo ag))
    (ai (av (i := 2) c9.nd rfl (Or.inl rfl) (bo ag))
    (ai (dq PassesOwn.never rfl (bx (n5 iT (hr.mono (by decide)) rfl T.b3 (qQ rfl T.gZ rfl) (ae (pv 0) ag))) (eE (n := 3) rfl (ao (ak (i := 3) c9.nd rfl (Or.inl rfl)) (ao (ak (i := 4) c9.nd rfl (Or.inl rfl)) (ao (ak (i := 5) c9.nd rfl (Or.inl rfl)) bO))))
     (au (fA (PW.pt (vz (uD (nW (pv 1) (fun _ => rfl))) (o3 (bu lD (aS dQ (pv 1) (EX BV af) (fun _ _ => rfl)) (pv 4) (bz _)))))
      (ai (fQ (lu PySem.F.plainAttrs_list PySem.F.slot_list_append PySem.F.type_list_append c7 (pv 1) (ae (pv 5) ag)))
      (au (fQ (lu PySem.F.plainAttrs_list PySem.F.slot_list_append PySem.F.type_list_append c7 (pv 2) (ae (pv 3) ag)))))
      cD)))
    (au (aN (cg (ae (pv 1) (ae (pv 2) ag)))))))), ?_⟩
   repeat' (walk_at "rd1")
   rename_i pw H1 gR qB lw pa H2 cm nu la
   refine qO (cs := cs) rG gb wW (fun c c' h => by rw [xH h]) (by walk_at "dat") hl (fun c v' H' hc ml hd => r6 hd (fun y L6 s d => ⟨s, d⟩)) (fun sq H3 dn sm3 uj gB fX GD => ?_)
   have Js : pw ≠ pa := by walk_at "ne"
   have KI : pw ≠ sq := by walk_at "ne"
   have Lq : pa ≠ sq := by walk_at "ne"
   have J5 : bq H3 pw [] := by walk_at "lat"
   have Mj : bq H3 pa [] := by walk_at "lat"
   refine DE (cs := dn) (gd := rG) (bq.dv GD) (fun j σ' H' => ∃ z3 z4 z5 wl al, σ' = [some v, some (.ref pw), some (.ref pa), z3, z4, z5] /\ Mv [pw, pa] H3 H' /\ bq H' pw (wl.map PyData.int) /\ bq H' pa (al.map PyData.str) /\ wl.length = al.length /\ wl.length <= j /\ j <= dn.length /\ dO (dn.drop j) wl al = dO dn [] [])
    ⟨_, _, _, [], [], rfl, Mv.refl, J5, Mj, rfl, Nat.zero_le _, Nat.zero_le _, by simp⟩ ?_ ?_ ?_
   . rintro i σ' H' hi ⟨z3, z4, z5, wl, al, rfl, m, _⟩ a' xs e hx
     cases e
     exact m.sq (pA (Ne.symm KI) (Ne.symm Lq)) hx
   . rintro j c x σ' H' hc ⟨z3, z4, z5, wl, al, rfl, m, hw, ha, Hg, Jn, mS, hf⟩ hd _
     have ia := hd rfl m.tp
     have Ff : j < dn.length := (List.getElem?_eq_some_iff.mp hc).1
     have uI : dn.length < 64 := by rw [gB.length_eq]; exact hl
     have vN : dn.drop j = c :: dn.drop (j + 1) := by
      rw [List.drop_eq_getElem_cons Ff]
      rw [List.getElem?_eq_getElem Ff] at hc
      rw [Option.some.inj hc]
     refine zy ia (fun v1 v2 v3 e1 e2 e3 => ?_)
     obtain rfl := e1.str_inv
     obtain rfl := e2.int_inv
     obtain rfl := e3.int_inv
     have DU : ∀ H2 σ2 z3 z4 z5, (wl = [] \/ wl.getLast?.getD 0 < c.2.1) -> Mv [pw, pa] H3 H2 -> bq H2 pw (wl.map PyData.int ++ [.int c.2.2]) -> bq H2 pa (al.map PyData.str ++ [.str c.1]) -> σ2 = [some v, some (.ref pw), some (.ref pa), z3, z4, z5] -> ∃ z3 z4 z5 wl al, σ2 = [some v, some (.ref pw), some (.ref pa), z3, z4, z5] /\ Mv [pw, pa] H3 H2 /\ bq H2 pw (wl.map PyData.int) /\ bq H2 pa (al.map PyData.str) /\ wl.length = al.length /\ wl.length <= j + 1 /\ j + 1 <= dn.length /\ dO (dn.drop (j + 1)) wl al = dO dn [] [] := by
      intro H2 σ2 z3 z4 z5 C9 m2 l1 l2 e
      refine ⟨_, _, _, wl ++ [c.2.2], al ++ [c.1], e, m2, by rw [List.map_append]; exact l1, by rw [List.map_append]; exact l2, by simp [Hg], by simp; omega, Ff, ?_⟩
      rw [<- hf, vN]
      conv => rhs; unfold dO
      rw [if_pos C9]
     have fin2 : ∀ H2 σ2 z3 z4 z5, ¬ (wl = [] \/ wl.getLast?.getD 0 < c.2.1) -> Mv [pw, pa] H3 H2 -> bq H2 pw (wl.map PyData.int) -> bq H2 pa (al.map PyData.str) -> σ2 = [some v, some (.ref pw), some (.ref pa), z3, z4, z5] -> ∃ z3 z4 z5 wl al, σ2 = [some v, some (.ref pw), some (.ref pa), z3, z4, z5] /\ Mv [pw, pa] H3 H2 /\ bq H2 pw (wl.map PyData.int) /\ bq H2 pa (al.map PyData.str) /\ wl.length = al.length /\ wl.length <= j + 1 /\ j + 1 <= dn.length /\ dO (dn.drop (j + 1)) wl al = dO dn [] [] := by
      intro H2 σ2 z3 z4 z5 C9 m2 l1 l2 e
      refine ⟨_, _, _, wl, al, e, m2, l1, l2, Hg, by omega, Ff, ?_⟩
      rw [<- hf, vN]
      conv => rhs; unfold dO
      rw [if_neg C9]
     rcases ni wl with rfl | ⟨Ip, z, rfl⟩
     . have M7 : bq H' pw [] := hw
       repeat' (walk_at "rd1")
       exact DU _ _ _ _ _ (.inl rfl) (by walk_at "mv") (by walk_at "lat") (by walk_at "lat") rfl
     . have hz : (Ip ++ [z]).getLast?.getD 0 = z := by simp
       have v9 : Ip.length + 1 <= 64 := by simp at Jn; omega
       have rT : al.length <= 64 := by omega
       repeat' (walk_at "rd1")
       . exact DU _ _ _ _ _ (.inr (by rw [hz]; assumption)) (by walk_at "mv") (by walk_at "lat") (by walk_at "lat") rfl
       . refine fin2 _ _ _ _ _ ?_ (by walk_at "mv") (by walk_at "lat") (by walk_at "lat") rfl
         rename_i hb
         rintro (h | h)
         . simp at h
         . rw [hz] at h; exact hb h
   . rintro σ' H' ⟨z3, z4, z5, wl, al, rfl, m, hw, ha, Hg, Jn, mS, hf⟩
     rw [List.drop_length] at hf
     have L7 : wl = (dO dn [] []).1 := by rw [<- hf]; rfl
     have Kx : al = (dO dn [] []).2 := by rw [<- hf]; rfl
     refine yW (tN (pP (uk rfl (pP (uk rfl (yF (gW (fG rfl) (.cons hw.dv (.cons ha.dv .nil)) (fun t H4 lK sP ht => ?_))))))))
     have Cm : ah H H3 := by walk_at "same"
     have IQ : H pw = none := qB
     have Jr : H pa = none := by walk_at "none"
     have Jq : ah H H' := fun a' o e => m.kp a' o (pA (aC e IQ) (aC e Jr)) (Cm a' o e)
     refine q t pw pa H4 dn (Jq.trans lK) (Jq.none sP) IQ Jr Js gB fX ?_ ?_ ht
     . rw [<- L7]; exact hw.keeps lK
     . rw [<- Kx]; exact ha.keeps lK
theorem oA (T : Txt K mg a) : jD P w K mg base 4 a.cN ["claims"] [] iF :=
 ⟨⟨_, _, rZ T, T.j1.binds fun _ _ _ _ _ _ => .all fun us hl => match us, hl with | [_], _ => rfl, .nil⟩⟩
theorem xD {W : List Int} {cs : List C4} (hn : (cs.map (·.1)).Nodup) {ss : List Str} (hp : ss.Perm (pT W cs)) : ∀ c ∈ cs, ss.contains c.1 = !hit W c := by
 intro c hc
 rw [Bool.eq_iff_iff, List.contains_iff_mem, hp.mem_iff]
 unfold pT
 constructor
 . intro h
   obtain ⟨d, hd, e⟩ := List.mem_map.mp h
   obtain ⟨h1, h2⟩ := List.mem_filter.mp hd
   obtain ⟨i, hi, ei⟩ := List.getElem_of_mem hc
   obtain ⟨j, hj, ej⟩ := List.getElem_of_mem h1
   have e' : (cs.map (·.1))[i]'(by rw [List.length_map]; exact hi) = (cs.map (·.1))[j]'(by rw [List.length_map]; exact hj) := by rw [List.getElem_map, List.getElem_map, ei, ej]; exact e.symm
   have iD : i = j := by
    rcases Nat.lt_trichotomy i j with k | k | k
    . exact absurd e' ((List.pairwise_iff_getElem.mp (List.nodup_iff_pairwise_ne.mp hn)) i j _ _ k)
    . exact k
    . exact absurd e'.symm ((List.pairwise_iff_getElem.mp (List.nodup_iff_pairwise_ne.mp hn)) j i _ _ k)
   subst iD
   rw [<- ei, ej]; exact h2
 . intro h
   exact List.mem_map.mpr ⟨c, List.mem_filter.mpr ⟨hc, h⟩, rfl⟩
def to3 (c : C4) : Cl := (c.1, c.2.1, c.2.2.1)
def m9 (W : List Int) (c : Cl) : Bool := (bS W c.2.1 c.2.2).isSome
theorem fC {W : List Int} {f l u : Int} (h : bS W f l = some u) : u ∈ W /\ f <= u /\ u <= l := by
 have h1 := List.find?_some h
 rw [Bool.and_eq_true] at h1
 exact ⟨List.mem_of_find?_eq_some h, of_decide_eq_true h1.1, of_decide_eq_true h1.2⟩
theorem nC (W : List Int) : ∀ pk : List Cl, (pk.filterMap fun c => bS W c.2.1 c.2.2).length = (pk.filter (m9 W)).length
 | [] => rfl
 | c :: pk => by
   have ih := nC W pk
   rw [List.filterMap_cons, List.filter_cons]
   unfold m9 at ih ⊢
   cases bS W c.2.1 c.2.2 with
   | none => exact ih
   | some u => simp only [Option.isSome_some, if_true, List.length_cons]; rw [ih]
theorem jI {W : List Int} {pk : List Cl} (h : pk.Pairwise fun c d => c.2.2 < d.2.1) : (pk.filter (m9 W)).length <= W.length := by
 rw [<- nC]
 refine gH ?_ fun u hu => ?_
 . refine List.Pairwise.imp (R := (· < ·)) (fun h => Int.ne_of_lt h) ?_
   refine List.pairwise_filterMap.mpr (h.imp fun {c d} rh u hu v hv => ?_)
   have h1 := fC hu
   have h2 := fC hv
   omega
 . obtain ⟨c, _, hc⟩ := List.mem_filterMap.mp hu
   exact (fC hc).1
theorem mP {α : Type} [DecidableEq α] : ∀ {xs ys : List α}, xs.Nodup -> (∀ x ∈ xs, x ∈ ys) -> xs.length <= ys.length
 | [], _, _, _ => Nat.zero_le _
 | x :: xs, ys, h, hs => by
   obtain ⟨h1, h2⟩ := List.nodup_cons.mp h
   have hx := hs x List.mem_cons_self
   have ih := mP (xs := xs) (ys := ys.erase x) h2 fun y hy => (List.mem_erase_of_ne (fun z : y = x => h1 (by rw [<- z]; exact hy))).mpr (hs y (List.mem_cons_of_mem _ hy))
   rw [List.length_erase_of_mem hx] at ih
   have : 0 < ys.length := List.length_pos_of_mem hx
   rw [List.length_cons]
   omega
structure wG (cs : List C4) (pk : List Cl) : Prop where
 ap : pk.Pairwise fun c d => c.2.2 < d.2.1
 sub : ∀ c ∈ pk, ∃ d ∈ cs, to3 d = c
 nd : (pk.map (·.1)).Nodup
 all : ∀ c ∈ cs, hit (pk.map (·.2.2)) c = true
theorem B1 {cs : List C4} {dn : List Cl} (aI : fY cs) (hp : dn.Perm (cs.map to3)) (ho : iR dn) : wG cs (picks none dn) := by
 have hs := iH dn none
 refine ⟨fz _ _ (iR.up ho), fun c hc => ?_, ?_, fun c hc => ?_⟩
 . obtain ⟨d, hd, e⟩ := List.mem_map.mp (hp.mem_iff.mp (hs.subset hc))
   exact ⟨d, hd, e⟩
 . refine List.Nodup.sublist (hs.map _) ((hp.map _).nodup_iff.mpr ?_)
   rw [List.map_map]
   exact aI.nd
 . have hm : to3 c ∈ dn := hp.mem_iff.mpr (List.mem_map_of_mem hc)
   rcases gU dn none (iR.up ho) (fun x e => by cases e) (fun d hd => by
    obtain ⟨d', ia, rfl⟩ := List.mem_map.mp (hp.mem_iff.mp hd)
    exact aI.ok.wd d' ia) (to3 c) hm with ⟨t, ht, h1, h2⟩ | ⟨x, e, _⟩
   . exact (aU _ c).mpr ⟨t, ht, h1, h2⟩
   . cases e
theorem kQ (W : List Int) : ∀ cs : List C4, kq W cs + eR W cs = (cs.map wt).sum
 | [] => rfl
 | c :: cs => by
   have ih := kQ W cs
   unfold eR at ih ⊢
   rw [j0] at ih ⊢
   rw [bE, List.map_cons, List.map_cons, List.sum_cons, List.sum_cons]
   by_cases h : hit W c = true
   . simp only [h, if_true]; omega
   . simp only [h, if_false, Bool.false_eq_true]; unfold wt at *; omega
theorem j6 {W : List Int} : ∀ {cs : List C4}, (∀ c ∈ cs, 1 <= c.2.2.2) -> ((pT W cs).length : Int) <= eR W cs
 | [], _ => Int.le_refl _
 | c :: cs, h => by
   have ih := j6 (W := W) (cs := cs) fun d hd => h d (List.mem_cons_of_mem _ hd)
   have hc := h c List.mem_cons_self
   unfold pT eR at ih ⊢
   rw [List.map_cons, List.sum_cons, List.filter_cons]
   by_cases hh : hit W c = true
   . simp only [hh, if_true, Bool.not_true, Bool.false_eq_true, if_false]; omega
   . have hf : hit W c = false := by simpa using hh
     simp only [hf, Bool.not_false, if_true, Bool.false_eq_true, if_false, List.map_cons, List.length_cons]
     omega
theorem lY {α : Type} (p : α -> Bool) : ∀ l : List α, (l.filter p).length + (l.filter fun x => !p x).length = l.length
 | [] => rfl
 | x :: l => by
   have ih := lY p l
   rw [List.filter_cons, List.filter_cons]
   cases p x <;> simp <;> omega
theorem wG.gone {cs : List C4} {pk : List Cl} (h : wG cs pk) (W : List Int) : (pk.filter fun c => !m9 W c).length <= (pT W cs).length := by
 have := mP (xs := (pk.filter fun c => !m9 W c).map (·.1)) (ys := pT W cs) (List.Nodup.sublist (List.filter_sublist.map _) h.nd) fun x hx => by
  obtain ⟨c, hc, rfl⟩ := List.mem_map.mp hx
  obtain ⟨h1, h2⟩ := List.mem_filter.mp hc
  obtain ⟨d, hd, rfl⟩ := h.sub c h1
  exact List.mem_map.mpr ⟨d, List.mem_filter.mpr ⟨hd, h2⟩, rfl⟩
 rwa [List.length_map] at this
theorem wG.S {cs : List C4} {pk : List Cl} (h : wG cs pk) (aI : fY cs) {s : Int} (hs : B5 cs 1 s) : s = pk.length := by
 obtain ⟨f, sS, hx, rfl⟩ := hs
 refine Int.le_antisymm ?_ ?_
 . have h1 := sd (pr := 1) (cs := cs) (g := fun c => f c.1) sS.nn sS.le (fun t => n8 (by omega) sS.nn sS.ld t) (pk.map (·.2.2))
   have h2 : eR (pk.map (·.2.2)) cs = 0 := by
    unfold eR
    have : (cs.map fun c => if hit (pk.map (·.2.2)) c = true then 0 else c.2.2.2) = cs.map fun _ => 0 := List.map_congr_left fun c hc => by rw [if_pos (h.all c hc)]
    rw [this]
    have z : ∀ l : List C4, (l.map fun _ => (0 : Int)).sum = 0 := fun l => by induction l with | nil => rfl | cons x r ih => simp only [List.map_cons, List.sum_cons, ih]; rfl
    exact z cs
   rw [List.length_map] at h1
   omega
 . obtain ⟨W, _, e⟩ := xC sS hx
   rw [e]
   have h1 := jI (W := W) h.ap
   have h2 := h.gone W
   have h3 := j6 (W := W) fun c hc => (aI.w1 c hc).1
   have h4 := lY (m9 W) pk
   omega
theorem wG.left {cs : List C4} {pk : List Cl} (h : wG cs pk) (aI : fY cs) {m : Int} {W : List Int} (hO : Bh cs m W) (hm : (pk.length : Int) <= m) : pT W cs = [] := by
 have h1 := hO.opt (pk.map (·.2.2)) (by rw [List.length_map]; exact hm)
 have h2 : kq (pk.map (·.2.2)) cs = (cs.map wt).sum := by
  unfold kq
  rw [List.filter_eq_self.mpr fun c hc => h.all c hc]
  rfl
 have h3 := kQ W cs
 have h4 := j6 (W := W) fun c hc => (aI.w1 c hc).1
 exact List.length_eq_zero_iff.mp (by omega)
theorem wG.Gr {cs : List C4} {pk : List Cl} (h : wG cs pk) (aI : fY cs) {W : List Int} {ss : List Str} (hp : ss.Perm (pT W cs)) : (pk.length : Int) - W.length <= ((pk.map (·.1)).filter fun n => ss.contains n).length := by
 have e : (pk.map (·.1)).filter (fun n => ss.contains n) = (pk.filter fun c => !m9 W c).map (·.1) := by
  rw [List.filter_map]
  congr 1
  refine List.filter_congr fun c hc => ?_
  obtain ⟨d, hd, rfl⟩ := h.sub c hc
  exact xD aI.nd hp d hd
 rw [e, List.length_map]
 have h1 := jI (W := W) h.ap
 have h4 := lY (m9 W) pk
 omega
theorem m6 : ∀ {ss : List Str}, (∀ x ∈ ss, Bk x) -> PyData.canLayAll0 (ss.map PyData.str) = true
 | [], _ => rfl
 | x :: r, h => by
   simp only [List.map_cons, PyData.canLayAll0, zF (h x List.mem_cons_self), Bool.true_and]
   exact m6 fun y hy => h y (List.mem_cons_of_mem _ hy)
theorem kU : ∀ ws : List Str, PyData.depthAll (ws.map PyData.str) <= 1
 | [] => by simp [PyData.depthAll]
 | _ :: r => by have := kU r; simp only [List.map_cons, PyData.depthAll, PyData.depth]; omega
theorem AU {ts : List Int} {cs : List C4} (h : xf cs) : ∀ x ∈ pT ts cs, Bk x := by
 intro x hx
 obtain ⟨c, hc, rfl⟩ := List.mem_map.mp hx
 exact h.nm c (List.mem_filter.mp hc).1
theorem om {H : Hp} {Q : VK} {f : Bool -> Bool} {x y : V} {ss : List Str} (h1 : Dv H x (.list (ss.map PyData.str))) (h2 : Dv H y (.list [])) (hs : ∀ x ∈ ss, Bk x) (h : Q (.bl (f ss.isEmpty)) H) : uP K f x y H Q := by
 have e : PyData.eqv (.list (ss.map PyData.str)) (.list []) = ss.isEmpty := by cases ss <;> rfl
 refine y9 h1 h2 (by rw [PyData.canLay0]; exact m6 hs) rfl ?_ (by rw [e]; exact h)
 have := kU ss
 rw [PyData.depth]
 omega
theorem Bn (T : Txt K mg a) : bG P w K mg base hZ 10 a.gy a.mO ["_law_script"] (uc K) := by
 have aX := cP (P := P) (w := w) (base := base) T
 have kx := nF (P := P) (w := w) (base := base) T
 have vR := oA (P := P) (w := w) (base := base) T
 have zU := vK (P := P) (w := w) (base := base) T
 have oC := xj (P := P) (w := w) (base := base) T
 have cI := gJ (P := P) (w := w) (base := base) T
 refine T.vk.ok di (fun vs H Q E h => ?_) (fun cV A outer s H vs Q E hr h => ?_)
 . obtain ⟨_, _, rfl, _⟩ := h; rfl
 . obtain ⟨l, ns, rfl, hl, hn, q⟩ := h
   refine ⟨_, (ai (av (i := 1) di.nd rfl (Or.inl rfl) (aG kx (hr.mono (by decide)) rfl T.fE T.fc (ae (pv 0) (ae (aj aF (aG aX (hr.mono (by decide)) rfl T.a0 T.a7 (ae (pv 0) (ae af ag))) af) ag))))
    (ai (u9 (aG vR (hr.mono (by decide)) rfl T.kZ T.lL (ae (ie (T := ["_law_one"]) (M := ["_law_script", "_law_claims_here", "_law_wakings", "_law_apart", "_law_needed", "_law_less", "_law_most", "_law_told", "_law_left", "_law_lost"]) (tV (aq nZ) ["_law_script", "_law_claims_here", "_law_wakings", "_law_apart", "_law_needed", "_law_less", "_law_most", "_law_told", "_law_left", "_law_lost"] rfl rfl (by decide +kernel)) rfl (bx (pv 1)) (fun _ _ _ _ _ => (ak (i := 0) (show List.Nodup (["_law_one", "_law_script", "_law_claims_here", "_law_wakings", "_law_apart", "_law_needed", "_law_less", "_law_most", "_law_told", "_law_left", "_law_lost"] : List Str) by decide +kernel) rfl (Or.inl rfl))) (de (by decide)) (fun _ _ _ _ _ => d0) (fun _ _ _ _ _ => (cg (ae (aS (nQ (K := K) rfl) (pv 0) af (fun _ _ => rfl)) (ae (aS (nQ (K := K) rfl) (pv 0) af (fun _ _ => rfl)) (ae (aS (nQ (K := K) rfl) (pv 0) af (fun _ _ => rfl)) ag)))))) ag)) (eE (n := 2) rfl (ao (ak (i := 2) di.nd rfl (Or.inl rfl)) (ao (ak (i := 3) di.nd rfl (Or.inl rfl)) bO))))
    (ai (av (i := 4) di.nd rfl (Or.inl rfl) (aY bX rfl T.dz PySem.boot_len (ae (pv 2) ag)))
    (ai (av (i := 5) di.nd rfl (Or.inl rfl) (aj gM (aj aF (aG aX (hr.mono (by decide)) rfl T.a0 T.a7 (ae (pv 0) (ae af ag))) af) af))
    (ai (av (i := 6) di.nd rfl (Or.inl rfl) (aY (rP rfl) rfl T.kn PyProof.Rows.boot_max (ae af (ae (aj gM (pv 4) (pv 5)) ag))))
    (nS (fA (bu lD (pv 5) af (bz _))
     (au (av (i := 6) di.nd rfl (Or.inl rfl) (aj aW (aj aW (pv 4) af) (aj aF (aG aX (hr.mono (by decide)) rfl T.a0 T.a7 (ae (pv 0) (ae af ag))) (aj km af af)))))
     cD)
    (ai (av (i := 7) di.nd rfl (Or.inl rfl) (aG zU (hr.mono (by decide)) rfl T.qC T.qT (ae (iS fj rfl T.fW PyProof.Rows.boot_list (ae (pv 1) ag)) (ae (pv 6) ag))))
    (ai (av (i := 8) di.nd rfl (Or.inr rfl) (aG oC (hr.mono (by decide)) rfl T.jg T.iY (ae (aS dQ (pv 7) af (fun _ _ => rfl)) (ae (iS fj rfl T.fW PyProof.Rows.boot_list (ae (pv 1) ag)) ag))))
    (ai (fA (bu (tK hr.Dy) (p6 (aG cI (hr.mono (by decide)) rfl T.cS T.cR (ae af (ae (iS fj rfl T.fW PyProof.Rows.boot_list (ae (pv 1) ag)) ag))) rfl rfl T.gS) (pv 4) (bz _))
     (au (aN yA))
     cD)
    (ai (fA (bu yZ (pv 6) (pv 4) (bz _))
     (au (aN (vI (iy (pE hr.Dy) (pv 8) (bo ag) (bz _)) (vG (iy ji (aY bX rfl T.dz PySem.boot_len (ae (aS dQ (pv 7) af (fun _ _ => rfl)) ag)) (pv 6) (bz _))))))
     cD)
    (ai (yS (i := 9) di.nd rfl (Or.inl rfl) (T := ["_law_name_here"]) (M := ["_law_script", "_law_claims_here", "_law_wakings", "_law_apart", "_law_needed", "_law_less", "_law_most", "_law_told", "_law_left", "_law_lost"]) (tV (aq nZ) ["_law_script", "_law_claims_here", "_law_wakings", "_law_apart", "_law_needed", "_law_less", "_law_most", "_law_told", "_law_left", "_law_lost"] rfl rfl (by decide +kernel)) rfl (bx (pv 3)) (fun _ _ _ _ _ => (ak (i := 0) (show List.Nodup (["_law_name_here", "_law_script", "_law_claims_here", "_law_wakings", "_law_apart", "_law_needed", "_law_less", "_law_most", "_law_told", "_law_left", "_law_lost"] : List Str) by decide +kernel) rfl (Or.inl rfl))) (de (by decide)) (fun _ _ _ _ _ => (jv (bu (zv (K := K) rfl) (pv 0) (pv 9) rfl))) (fun _ _ _ _ _ => (pv 0)) rfl)
    (au (aN (vI (iy (tK hr.Dy) (pv 8) (bo ag) (bz _)) (vG (iy yZ (aY bX rfl T.dz PySem.boot_len (ae (pv 9) ag)) (aj gM (pv 4) (pv 6)) (bz _))))))))))))))))), ?_⟩
   repeat' (walk_at "rd1")
   refine sG hl (by omega) (by omega) (fun pc H1 cs gR qB uI aI By => ?_)
   have GY : cs.length <= 26 := by omega
   have E7 : bp K H1 l (ns.map V.int) := by walk_at "sql"
   repeat' (walk_at "rd1")
   refine kF (cs := cs) (gd := cQ) (fun _ => true) (fun c => rG (to3 c)) By.dv (by omega) (fun _ => rfl) (fun x c H2 N hc cm hx yes no => ?_) (fun q1 H2 cm nu kD => ?_)
   . have iq : Dv H2 x (.tuple [.str c.1, .int c.2.1, .int c.2.2.1, .int c.2.2.2]) := hx
     repeat' (walk_at "rd1")
     refine cJ (fun hb => ?_) (fun hb => by cases hb)
     repeat' (walk_at "rd1")
     rename_i y H4 lK hy
     exact yes rfl _ _ lK hy
   rw [eN] at kD
   have jr : Dv H2 (.ref q1) (.list ((cs.map to3).map rG)) := by rw [List.map_map]; exact kD.dv
   repeat' (walk_at "rd1")
   refine uC jr (by rw [List.length_map]; omega) (fun t pw pa H3 dn sm3 nt nw na Js gB fX K5 C7 ht => ?_)
   rw [HB] at K5
   rw [FJ] at C7
   have hF := B1 aI gB fX
   generalize picks none dn = pk at *
   clear kD jr
   repeat' (walk_at "rd1")
   refine (show Dl _ _ _ _ _ _ _ from jK ht ?_)
   have Gx : bp K H3 l (ns.map V.int) := ah.seq (cm.trans sm3) E7
   have DZ := (By.keeps cm).keeps sm3
   repeat' (walk_at "rd1")
   have hN : (pk.map (fun x => x.2.2)).length = pk.length := List.length_map ..
   generalize (pk.map (fun x => x.2.2)).length = nd at *
   subst hN
   rename_i c0 c1 mm Ny NV M6
   refine uw (fun σ' H' => H3 = H' /\ ∃ m : Int, σ' = [some (.ref l), some (.ref pc), some (.ref pw), some (.ref pa), some (.int pk.length), some (.int (cell ns (Int.toNat 2) % 5 - 1)), some (.int m), none, none, none] /\ 0 <= m) ?_ ?_
   . repeat' (walk_at "rd1")
     . exact ⟨rfl, _, rfl, by omega⟩
     . exact ⟨rfl, _, rfl, by omega⟩
   rintro σ' H' ⟨rfl, m, rfl, m0⟩
   repeat' (walk_at "rd1")
   rename_i pb H4 lK sP JS
   refine Bv JS.dv aI (by omega) m0 (fun t lw d H5 W p f p5 yB zg FV L5 hd Gv Nx p0 p1 hD hU sS hx zl => ?_)
   have IH : Dv H5 (.ref t) (.tuple [.list (W.map PyData.int), .int p, _]) := .tup FV (.cons (.lst (.inl L5) (dI _)) (.cons (.int _) (.cons hd.dv .nil)))
   have CK := lK.trans p5
   have DP := DZ.keeps CK
   have Ei := C7.keeps CK
   clear JS hd C7 DZ
   repeat' (walk_at "rd1")
   rename_i vw JG pe H6 rJ Cw IV
   refine DH (JG.keeps rJ) IV.dv (by omega) (fun pl H7 ss qb Ft mz Fv lF => ?_)
   have BR := rJ.trans qb
   have Ie := DP.keeps BR
   have EB := Ei.keeps BR
   have Dt := IH.keeps BR
   clear IV IH JG Ei DP
   repeat' (walk_at "rd1")
   rename_i pf H8 Cv Ld Fd
   refine jS Fd.dv aI (by omega) (by omega) (fun pd H9 f1 Ep IZ Fb Ik MH => ?_)
   have uZ := Cv.trans Ep
   have FT := EB.keeps uZ
   have F1 := Dt.keeps uZ
   have Al := lF.keeps uZ
   clear Fd EB Ie Dt lF
   repeat' (walk_at "rd1")
   refine uJ (ns := cs.map fun c => f1 c.1) Fb (by unfold jl; rw [List.map_map, List.map_map]; rfl) ?_
   have hS := hF.S aI ⟨f1, Ik, MH, rfl⟩
   have IL : ∀ x ∈ ss, Bk x := fun x hx => AU aI.ok x (mz.mem_iff.mp hx)
   clear Fb
   repeat' (walk_at "rd1")
   . rename_i Dq Fi pz Jc rq G3 HL
     have Ij : ss = [] := by
      have h1 := hF.left aI Gv Fi
      rw [h1] at mz
      exact List.length_eq_zero_iff.mp mz.length_eq
     refine om (Al.keeps rq).dv HL.dv IL ?_
     have II := F1.keeps rq
     have hlen := Gv.len
     subst Ij
     repeat' (walk_at "rd1")
     all_goals first
      | (exfalso; simp at *; done)
      | (show Q (.bl (decide _)) _; rw [decide_eq_true (by first | omega | (rw [List.length_map]; omega))]; exact q _)
   . rename_i Dq Fi
     have L1 : pk.length <= 26 := by
      have := mP hF.nd (ys := cs.map (·.1)) fun x hx => by
       obtain ⟨c, hc, rfl⟩ := List.mem_map.mp hx
       obtain ⟨d, hd, rfl⟩ := hF.sub c hc
       exact List.mem_map.mpr ⟨d, hd, rfl⟩
      rw [List.length_map, List.length_map] at this
      omega
     refine kF (cs := pk.map (·.1)) (gd := PyData.str) (fun n => ss.contains n) (fun n => .str n) FT.dv (by rw [List.length_map]; omega) (fun _ => rfl) (fun x n Jc N hc rq hx yes no => ?_) (fun q1 Jc rq G3 kD => ?_)
     . obtain rfl := hx.str_inv
       have yM := Al.keeps rq
       repeat' (walk_at "rd1")
       refine cJ (fun hb => ?_) (fun hb => no hb _ (ah.refl _))
       repeat' (walk_at "rd1")
       exact yes hb _ _ (ah.refl _) (.str _)
     have CI := hF.Gr aI mz
     have hlen := Gv.len
     have k8 : ss ≠ [] := by
      rintro rfl
      have e : (pk.map (·.1)).filter (fun n => ([] : List Str).contains n) = [] := List.filter_eq_nil_iff.mpr (by simp)
      have e2 : (([] : List Str).length : Int) = 0 := rfl
      rw [e, e2] at CI
      omega
     have yM := Al.keeps rq
     repeat' (walk_at "rd1")
     rename_i pz NN Ez KW HL
     refine om (yM.keeps Ez).dv HL.dv IL ?_
     have MT := kD.keeps Ez
     have LN : ss.isEmpty = false := by cases ss with | nil => exact absurd rfl k8 | cons _ _ => rfl
     rw [LN]
     repeat' (walk_at "rd1")
     show Q (.bl (decide _)) _
     rw [decide_eq_true (by omega)]
     exact q _
end
end My
open PySem PySem.W PyProof.Rows
local macro_rules | `(tactic| walk_at "k_dg") => `(tactic| (refine' ⟨?a, ⟨_, L2.xc ?l ?c⟩, ?k⟩; (case a => k_is); (case l => k_is); (case c => k_is); (case k => k_is)))
theorem PySem.W.Fast.tw504889890818749091 : True := trivial
theorem PySem.W.Fast.tw1389516037660586186 : True := trivial
theorem PySem.W.Fast.tw2258418409758983006 : True := trivial
theorem PySem.W.Fast.tw11542070679161366961 : True := trivial
theorem PySem.W.Fast.tw16220417789366677987 : True := trivial
theorem PySem.W.Fast.tw9738881322819636032 : True := trivial
theorem PySem.W.Fast.tw15411031949432132026 : True := trivial
set_option maxRecDepth 100000 in
set_option maxHeartbeats 0 in
theorem PySem.Challenge.cw_wakefew_k49_whole_as_many_as_need_be_holds : PySem.Challenge.rw_wakefew_k49_whole_as_many_as_need_be.Holds := by
 w_on; o_law; k_head; (case hw => w_witness2)
 k_fill
 refine L2.vm (l := PySem.Challenge.rw_wakefew_k49_whole_as_many_as_need_be) (n := 63) (k := 14) (x := "_law_script") (CX := L2.hZ) (sp := My.uc) rfl (by decide) rfl ⟨rfl, by decide, by decide⟩ (fun w h Y => PySem.W.kIn_of Y) ?F ?S ?C
 case F =>
  intro w mg fa h KX G Du
  have T : ∃ a : My.Ad, a.gy = a.gy /\ My.Txt (L2.Jh KX) mg a := by
   dsimp only [L2.Jh]
   refine' My.Ay KX G ?h2 ?h3 ?h4 ?h5 ?h6 ?h7 ?h8 ?h9 ?h10 ?h11 ?h12 ?h13 ?h14 ?h15 ?h16 ?h17 ?h18 ?h19 ?h20 ?h21 ?h22 ?h23 ?h24 ?h25 ?h26 ?h27 ?h28 ?h29 ?h30 ?h31
   (case h2 => walk_at "k_dg")
   (case h3 => walk_at "k_dg")
   (case h4 => walk_at "k_dg")
   (case h5 => walk_at "k_dg")
   (case h6 => walk_at "k_dg")
   (case h7 => walk_at "k_dg")
   (case h8 => walk_at "k_dg")
   (case h9 => walk_at "k_dg")
   (case h10 => walk_at "k_dg")
   (case h11 => walk_at "k_dg")
   (case h12 => walk_at "k_dg")
   (case h13 => walk_at "k_dg")
   (case h14 => walk_at "k_dg")
   (case h15 => walk_at "k_dg")
   (case h16 => walk_at "k_dg")
   (case h17 => walk_at "k_dg")
   (case h18 => walk_at "k_dg")
   (case h19 => walk_at "k_dg")
   (case h20 => walk_at "k_dg")
   (case h21 => walk_at "k_dg")
   (case h22 => k_is)
   (case h23 => k_is)
   (case h24 => k_is)
   (case h25 => k_is)
   (case h26 => k_is)
   (case h27 => k_is)
   (case h28 => k_is)
   (case h29 => k_is)
   (case h30 => k_is)
   (case h31 => k_is)
  obtain ⟨a, _, T⟩ := T
  have e0 := Du.symm.trans T.uf
  cases e0
  exact ⟨a.mO, fun s u => My.q9 T s u, fun base kb nb => (My.Bn T).mono (by decide)⟩
 case S => exact fun K H l ns hl hO hS => ⟨l, ns, rfl, hS, hl, fun _ => rfl⟩
 case C => exact fun H s e s' h => h
