import PyProof.Rows.All
import Wide.All
import OpenK.AllK
import Wide.FinOn
import Lean
import PyProof.EqAt
import PyProof.EqKinds
import PyProof.TupleCall
import PyProof.StrLawsRepr
import PySem.Challenge.RW_wakefew_k48_whole_no_wakings_do_more
set_option compiler.extract_closed false
set_option Elab.async false
set_option linter.all false
set_option maxRecDepth 100000
namespace L2
open PySem PySem.Spec PyProof.Rows
abbrev Key := Sum Int Str
def lC : Key -> Value -> Bool
 | .inl k, v => Value.isInt k v
 | .inr x, v => Value.isStrOf x v
def Gm (w : World) : Key -> Int
 | .inl k => hashInt k
 | .inr x => hashStr w x
theorem bf : ∀ {k : Key} {v : Value}, lC k v = true -> (∃ i t, k = Sum.inl i /\ v = Value.int i t) \/ (∃ x t, k = Sum.inr x /\ v = Value.str x t)
 | .inl i, v, h => by
   obtain ⟨t, e⟩ := Value.isInt_shape (k := i) (v := v) h
   exact .inl ⟨i, t, rfl, e⟩
 | .inr x, v, h => by
   obtain ⟨t, e⟩ := Value.isStrOf_shape (x := x) (v := v) h
   exact .inr ⟨x, t, rfl, e⟩
theorem rl (i : Int) (t : Tok) : lC (.inl i) (.int i t) = true := by simp [lC, Value.isInt]
theorem rp (x : Str) (t : Tok) : lC (.inr x) (.str x t) = true := by simp [lC, Value.isStrOf]
theorem A1 (a b : Int) : decide ((Sum.inl a : Key) = Sum.inl b) = (a == b) := by
 by_cases e : a = b
 . subst e; simp
 . have h : ¬ (Sum.inl a : Key) = Sum.inl b := fun q => e (Sum.inl.inj q)
   rw [decide_eq_false h]
   exact (beq_eq_false_iff_ne.mpr e).symm
theorem Az (a b : Str) : decide ((Sum.inr a : Key) = Sum.inr b) = decide (a = b) := by
 by_cases e : a = b
 . subst e; simp
 . have h : ¬ (Sum.inr a : Key) = Sum.inr b := fun q => e (Sum.inr.inj q)
   rw [decide_eq_false h, decide_eq_false e]
theorem Ao (a : Int) (b : Str) : decide ((Sum.inl a : Key) = Sum.inr b) = false := decide_eq_false (fun q => nomatch q)
theorem Ar (a : Str) (b : Int) : decide ((Sum.inr a : Key) = Sum.inl b) = false := decide_eq_false (fun q => nomatch q)
def bb (prog : Program) (w : World) : PySem.KeyKind prog w Key where
 is := lC
 hash := Gm w
 inj := fun v a b ha hb => by
  rcases bf ha with ⟨i, t, rfl, rfl⟩ | ⟨x, t, rfl, rfl⟩
  . rcases bf hb with ⟨j, u, rfl, e⟩ | ⟨y, u, rfl, e⟩
    . injection e with e1 _; rw [e1]
    . exact nomatch e
  . rcases bf hb with ⟨j, u, rfl, e⟩ | ⟨y, u, rfl, e⟩
    . exact nomatch e
    . injection e with e1 _; rw [e1]
 byValue := fun k v h => by
  rcases bf h with ⟨i, t, rfl, rfl⟩ | ⟨x, t, rfl, rfl⟩ <;> rfl
 pyHash := fun hv h => by
  rcases bf hv with ⟨i, t, rfl, rfl⟩ | ⟨x, t, rfl, rfl⟩
  . exact wpAny_pyHash_int h
  . exact wpAny_pyHash_str h
 eqBool := fun hu hv h => by
  rcases bf hu with ⟨i, t, rfl, rfl⟩ | ⟨x, t, rfl, rfl⟩
  . rcases bf hv with ⟨j, u, rfl, rfl⟩ | ⟨y, u, rfl, rfl⟩
    . rw [A1] at h; exact wpAny_eqBool_int h
    . rw [Ao] at h; exact SeqAt.EqAt.int_str i t y u _ _ _ _ h
  . rcases bf hv with ⟨j, u, rfl, rfl⟩ | ⟨y, u, rfl, rfl⟩
    . rw [Ar] at h; exact SeqAt.EqAt.str_int x t j u _ _ _ _ h
    . rw [Az] at h; exact wpAny_eqBool_str h
 «strs» := fun k x t v h => by
  rcases bf h with ⟨i, u, rfl, e⟩ | ⟨y, u, rfl, e⟩
  . exact nomatch e
  . injection e with e1 _
    subst e1
    cases v <;> rfl
theorem mP (prog : Program) (w : World) (i : Int) (t : Tok) : (bb prog w).is (.inl i) (.int i t) = true := rl i t
theorem nA (prog : Program) (w : World) (x : Str) (t : Tok) : (bb prog w).is (.inr x) (.str x t) = true := rp x t
inductive V where
 | aZ | bl (b : Bool) | int (i : Int) | str (x : Str) | qL (b : Array UInt8) | BJ (b : UInt64) | ref (a : Addr) | ty (n : String)
 deriving DecidableEq
def RelV : V -> Value -> Prop
 | .aZ, u => u = Value.none
 | .bl b, u => u = Value.bool b
 | .int i, u => ∃ t, u = Value.int i t
 | .str x, u => ∃ t, u = Value.str x t
 | .qL b, u => ∃ t, u = Value.bytes b t
 | .BJ b, u => ∃ t, u = Value.float b t
 | .ref a, u => u = Value.ref a
 | .ty n, u => u = Value.type n
abbrev Vals : List V -> List Value -> Prop := Paired RelV
theorem Vals.length {xs : List V} {us : List Value} (r : Vals xs us) : xs.length = us.length := Paired.length r
theorem Vals.get : ∀ {xs : List V} {us : List Value} {i : Nat} {x : V}, Vals xs us -> xs[i]? = some x -> ∃ u, us[i]? = some u /\ RelV x u
 | _, _, _, _, .nil, e => by simp at e
 | _, _, 0, _, .cons r _, e => by simp at e; subst e; exact ⟨_, rfl, r⟩
 | _, _, i + 1, x, .cons _ t, e => by
   obtain ⟨u, h1, h2⟩ := Vals.get (i := i) (x := x) t (by simpa using e)
   exact ⟨u, by simpa using h1, h2⟩
theorem Vals.set {x : V} {u : Value} (r : RelV x u) : ∀ {xs : List V} {us : List Value} (i : Nat), Vals xs us -> Vals (xs.set i x) (us.set i u)
 | _, _, _, .nil => .nil
 | _, _, 0, .cons _ t => .cons r t
 | _, _, i + 1, .cons q t => .cons q (Vals.set r i t)
theorem Vals.append : ∀ {xs ys : List V} {us ws : List Value}, Vals xs us -> Vals ys ws -> Vals (xs ++ ys) (us ++ ws)
 | _, _, _, _, .nil, s => s
 | _, _, _, _, .cons r t, s => .cons r (Vals.append t s)
theorem Vals.take : ∀ {xs : List V} {us : List Value} (n : Nat), Vals xs us -> Vals (xs.take n) (us.take n)
 | _, _, 0, _ => .nil
 | _, _, _ + 1, .nil => .nil
 | _, _, n + 1, .cons r t => .cons r (Vals.take n t)
theorem Vals.drop : ∀ {xs : List V} {us : List Value} (n : Nat), Vals xs us -> Vals (xs.drop n) (us.drop n)
 | _, _, 0, r => r
 | _, _, _ + 1, .nil => .nil
 | _, _, n + 1, .cons _ t => Vals.drop n t
def kJ : Option V -> Option Value -> Prop
 | some v, some u => RelV v u
 | none, none => True
 | _, _ => False
def KV {κ : Type} : List (κ × V) -> List (κ × Value) -> Prop := Paired fun (p : κ × V) (q : κ × Value) => p.1 = q.1 /\ RelV p.2 q.2
def kV : Key -> V
 | .inl i => .int i
 | .inr x => .str x
inductive HO where
 | lst (xs : List V)
 | tup (xs : List V)
 | dK (ax : List (Key × V)) | dT (ax : List (List Key × V))
 | set (S : Int -> Bool) (n : Nat)
 | ins (C dx : Addr) (fs : List (Str × V))
 | own (x : Addr)
 | xd (fs : List (Str × V))
 | met (f x : Addr)
 | EJ (lo hi : Int)
 | rM (o : Obj) (u : HO)
 | Au (ps : Array Value)
 | ext (φ : Heap -> Prop)
abbrev Hp := Addr -> Option HO
def upd (H : Hp) (a : Addr) (o : HO) : Hp := fun b => if b = a then some o else H b
theorem aA {H : Hp} {a : Addr} {o : HO} : upd H a o a = some o := by unfold upd; rw [if_pos rfl]
theorem aw {H : Hp} {a b : Addr} {o : HO} (h : b ≠ a) : upd H a o b = H b := by unfold upd; rw [if_neg h]
theorem Dj {H : Hp} {a b : Addr} {o u : HO} (h : H a = some o) (h' : H b = some u) (d : o ≠ u) : a ≠ b := by
 intro e; subst e; rw [h] at h'; exact d (Option.some.inj h')
theorem aG {H : Hp} {a b : Addr} {o : HO} (h : H a = some o) (h' : H b = none) : a ≠ b := by
 intro e; subst e; rw [h] at h'; cases h'
section
variable (P : Program) (w : World)
def bQ (H : Hp) (h : Heap) (a : Addr) : HO -> Prop
 | .lst xs => xs.length <= sizeLine /\ ∃ (az : List Value) (n : Nat), Vals xs az /\ h.get? a = some { cls := .type "list", data := .seq az.toArray n }
 | .tup xs => xs.length <= sizeLine /\ ∃ az : List Value, Vals xs az /\ IsTup h a az.toArray
 | .dK ax => ax.length <= sizeLine /\ (a == sysModules) = false /\ ∃ vs, KV ax vs /\ h.DictOf (bb P w) a vs
 | .dT ax => ax.length <= sizeLine /\ (a == sysModules) = false /\ ∃ xs : List (List Key × Addr × Value),
  Paired (fun (p : List Key × V) (q : List Key × Addr × Value) => p.1 = q.1 /\ H q.2.1 = some (.tup (p.1.map kV)) /\ RelV p.2 q.2.2) ax xs /\
  ∃ o es ep, h.get? a = some o /\ o.ExactDict /\ o.data = .dict es ep /\ es.toList = xs.map (entryOfKey (tupleKind (bb P w))) /\ (xs.map (·.1)).Nodup
 | .set S n => h.SetOf (intKind P w) a S n
 | .ins C dx fs => H dx = some (.own a) /\ fs.length <= 1000 /\ dx ≠ a /\ h.get? a = some (PySem.W.instObj C dx) /\
  ∃ mA, h.Ns1 dx mA /\ (∀ f, kJ (fs.lookup f) (mA f)) /\ PySem.Within mA (fs.map (·.1))
 | .own _ => ∃ o, h.get? a = some o
 | .xd fs => ∃ mA, h.Ns1 a mA /\ ∀ f, kJ (fs.lookup f) (mA f)
 | .EJ lo hi => ∃ t u v, h.get? a = some { cls := .type "range", data := .fields #[.int lo t, .int hi u, .int 1 v] }
 | .rM o u => h.get? a = some o /\ bQ H h a u
 | .Au ps => h.get? a = some { cls := .none, data := .fields ps }
 | .met f x => h.get? a = some (PySem.W.methodObj (.ref f) (.ref x))
 | .ext φ => φ h /\ (∃ o, h.get? a = some o) /\ ∀ h1 h2 : Heap, φ h1 -> (∀ o, h1.get? a = some o -> h2.get? a = some o) -> φ h2
def gN (H : Hp) (h : Heap) : Prop := ∀ a o, H a = some o -> bQ P w H h a o
end
section
variable {P : Program} {w : World} {H H' : Hp} {h h' : Heap} {a : Addr} {o : HO}
theorem bQ.lt (x : bQ P w H h a o) : a < h.objs.size := by
 cases o with
 | lst xs => obtain ⟨_, _, _, _, e⟩ := x; exact Heap.lt_size e
 | tup xs => obtain ⟨_, _, _, p⟩ := x; exact p.lt
 | dK ax => obtain ⟨_, _, _, _, o, _, _, e, _⟩ := x; exact Heap.lt_size e
 | dT ax => obtain ⟨_, _, _, _, o, _, _, e, _⟩ := x; exact Heap.lt_size e
 | set S n => obtain ⟨o, _, _, _, e, _⟩ := x; exact Heap.lt_size e
 | ins C dx fs => obtain ⟨_, _, _, e, _⟩ := x; exact Heap.lt_size e
 | own y => obtain ⟨_, e⟩ := x; exact Heap.lt_size e
 | xd fs => obtain ⟨_, ⟨_, _, _, e, _⟩, _⟩ := x; exact Heap.lt_size e
 | EJ lo hi => obtain ⟨_, _, _, e⟩ := x; exact Heap.lt_size e
 | rM ob u => obtain ⟨e, _⟩ := x; exact Heap.lt_size e
 | Au ps => exact Heap.lt_size (show h.get? a = some _ from x)
 | met f y => exact Heap.lt_size (show h.get? a = some _ from x)
 | ext φ => obtain ⟨_, ⟨_, e⟩, _⟩ := x; exact Heap.lt_size e
theorem Paired.AK {α β : Type} {F G : α -> β -> Prop} : ∀ {l₁ : List α} {l₂ : List β}, Paired F l₁ l₂ -> (∀ a b, F a b -> G a b) -> Paired G l₁ l₂
 | _, _, .nil, _ => .nil
 | _, _, .cons r t, f => .cons (f _ _ r) (Paired.AK t f)
theorem bQ.mn (x : bQ P w H h a o) (k : ∀ b u, (b = a \/ H b = some (.own a)) -> h.get? b = some u -> h'.get? b = some u)
 (ho : ∀ b, H b = some (.own a) -> H' b = some (.own a)) (ht : ∀ b xs, H b = some (.tup xs) -> H' b = some (.tup xs)) : bQ P w H' h' a o := by
 induction o with
 | lst xs => obtain ⟨z, az, n, r, e⟩ := x; exact ⟨z, az, n, r, k _ _ (.inl rfl) e⟩
 | tup xs => obtain ⟨z, az, r, ob, e, c⟩ := x; exact ⟨z, az, r, ob, k _ _ (.inl rfl) e, c⟩
 | dK ax => obtain ⟨z, y, vs, r, ob, es, ep, e, c⟩ := x; exact ⟨z, y, vs, r, ob, es, ep, k _ _ (.inl rfl) e, c⟩
 | dT ax =>
   obtain ⟨z, y, xs, r, ob, es, ep, e, c⟩ := x
   exact ⟨z, y, xs, Paired.AK r fun p q z => ⟨z.1, ht _ _ z.2.1, z.2.2⟩, ob, es, ep, k _ _ (.inl rfl) e, c⟩
 | set S n => obtain ⟨ob, es, ep, t, e, c⟩ := x; exact ⟨ob, es, ep, t, k _ _ (.inl rfl) e, c⟩
 | ins C dx fs =>
   obtain ⟨d, z, ne, e, mA, ⟨od, es, ep, e2, c⟩, r⟩ := x
   exact ⟨ho _ d, z, ne, k _ _ (.inl rfl) e, mA, ⟨od, es, ep, k _ _ (.inr d) e2, c⟩, r⟩
 | own y => obtain ⟨ob, e⟩ := x; exact ⟨ob, k _ _ (.inl rfl) e⟩
 | xd fs => obtain ⟨mA, ⟨od, es, ep, e, c⟩, r⟩ := x; exact ⟨mA, ⟨od, es, ep, k _ _ (.inl rfl) e, c⟩, r⟩
 | EJ lo hi => obtain ⟨t, u, v, e⟩ := x; exact ⟨t, u, v, k _ _ (.inl rfl) e⟩
 | rM ob u ih => obtain ⟨e, q⟩ := x; exact ⟨k _ _ (.inl rfl) e, ih q⟩
 | Au ps =>
   have e : h.get? a = some { cls := .none, data := .fields ps } := x
   show h'.get? a = some { cls := .none, data := .fields ps }
   exact k a _ (.inl rfl) e
 | met f y =>
   have e : h.get? a = some (PySem.W.methodObj (.ref f) (.ref y)) := x
   show h'.get? a = some (PySem.W.methodObj (.ref f) (.ref y))
   exact k a _ (.inl rfl) e
 | ext φ => obtain ⟨p, ⟨o, e⟩, st⟩ := x; exact ⟨st _ _ p fun o q => k _ _ (.inl rfl) q, ⟨o, k _ _ (.inl rfl) e⟩, st⟩
theorem gN.lt (x : gN P w H h) (e : H a = some o) : a < h.objs.size := (x a o e).lt
theorem gN.fresh (x : gN P w H h) (e : h.objs.size <= a) : H a = none := by
 cases q : H a with
 | none => rfl
 | some u => exact absurd (Nat.lt_of_lt_of_le (x.lt q) e) (Nat.lt_irrefl _)
theorem gN.kept (x : gN P w H h) (k : ∀ b u, h.get? b = some u -> h'.get? b = some u) : gN P w H h' := fun a o e =>
 (x a o e).mn (fun b u _ q => k b u q) (fun _ q => q) fun _ _ q => q
theorem gN.laid (x : gN P w H h) (k : ∀ b u, h.get? b = some u -> h'.get? b = some u) (hp : h.objs.size <= a) (new : bQ P w (upd H a o) h' a o) : gN P w (upd H a o) h' := fun b u e => by
 have hn := x.fresh hp
 by_cases hb : b = a
 . subst hb; rw [aA] at e; cases e; exact new
 . rw [aw hb] at e
   exact (x b u e).mn (fun c v _ q => k c v q) (fun c q => by rw [aw (aG q hn)]; exact q) fun c xs q => by rw [aw (aG q hn)]; exact q
end
def Rd (H : Hp) (a : Addr) (u : HO) : Prop := H a = some u \/ ∃ o, H a = some (.rM o u)
theorem Rd.of {H : Hp} {a : Addr} {u : HO} (h : H a = some u) : Rd H a u := .inl h
theorem Rd.ok {P : Program} {w : World} {H : Hp} {h : Heap} {a : Addr} {u : HO} (r : Rd H a u) (x : gN P w H h) : bQ P w H h a u := by
 rcases r with r | ⟨o, r⟩
 . exact x a u r
 . obtain ⟨_, q⟩ := x a _ r
   exact q
def DI : Option HO -> Prop
 | some (.lst _) => True
 | some (.dK _) => True
 | some (.dT _) => True
 | some (.set _ _) => True
 | some (.ins _ _ _) => True
 | some (.ext _) => True
 | _ => False
section
variable {P : Program} {w : World} {H : Hp} {h h' : Heap} {x e : Addr} {o' : HO}
theorem gN.write (ok : gN P w H h) (mu : DI (H x)) (he : e = x \/ H e = some (.own x)) (k : ∀ b u, b ≠ e -> h.get? b = some u -> h'.get? b = some u) (yl : ∃ u, h'.get? e = some u)
 (new : bQ P w (upd H x o') h' x o') : gN P w (upd H x o') h' := fun b u q => by
 have BK : ∀ c y, H c = some (.own y) -> c ≠ x := fun c y r z => by subst z; rw [r] at mu; exact mu
 have F4 : ∀ c xs, H c = some (.tup xs) -> c ≠ x := fun c xs r z => by subst z; rw [r] at mu; exact mu
 by_cases hb : b = x
 . subst hb; rw [aA] at q; cases q; exact new
 . rw [aw hb] at q
   by_cases Ax : b = e
   . have q' : H b = some (.own x) := by
      rcases he with z | z
      . exact absurd (Ax.trans z) hb
      . rw [Ax]; exact z
     rw [q] at q'; cases q'
     obtain ⟨v, hv⟩ := yl
     exact ⟨v, by rw [Ax]; exact hv⟩
   . refine (ok b u q).mn (fun c v hc r => k c v ?_ r) (fun c r => by rw [aw (BK c b r)]; exact r) fun c xs r => by rw [aw (F4 c xs r)]; exact r
     rcases hc with rfl | hc
     . exact Ax
     . rintro rfl
       rcases he with z | z
       . exact BK c b hc z
       . rw [hc] at z; cases z; exact hb rfl
end
structure Un (fs ex : List Addr) (H H' : Hp) (h h' : Heap) : Prop where
 keep : ∀ b o, h.get? b = some o -> H b = none -> b ∉ fs -> b ∉ ex -> h'.get? b = some o
 slot : ∀ b o, h.get? b = some o -> H b = none -> b ∈ fs -> b ∉ ex -> ∃ sl, h'.get? b = some { o with slots := sl }
 free : ∀ b o, h.get? b = some o -> H b = none -> b ∉ ex -> H' b = none
 there : ∀ b o, h.get? b = some o -> b ∉ ex -> ∃ o', h'.get? b = some o'
 jt : ∀ b xs, H b = some (.tup xs) -> H' b = some (.tup xs)
 iQ : ∀ b o u, H b = some (.rM o u) -> H' b = some (.rM o u)
 kH : ∀ b ps, H b = some (.Au ps) -> ∃ more, H' b = some (.Au (ps ++ more))
section
variable {fs IV ex LX : List Addr} {H H1 H2 : Hp} {h h1 h2 h' : Heap} {a x e : Addr} {o : HO}
theorem Un.any (u : Un fs ex H H1 h h1) {b : Addr} {ob : Obj} (q : h.get? b = some ob) (n : H b = none) (hx : b ∉ ex) : ∃ sl, h1.get? b = some { ob with slots := sl } := by
 by_cases hb : b ∈ fs
 . exact u.slot b ob q n hb hx
 . exact ⟨ob.slots, u.keep b ob q n hb hx⟩
theorem Un.kept (k : ∀ b u, h.get? b = some u -> h'.get? b = some u) : Un fs ex H H h h' :=
 ⟨fun b ob q _ _ _ => k b ob q, fun b ob q _ _ _ => ⟨ob.slots, k b ob q⟩, fun _ _ _ n _ => n, fun b ob q _ => ⟨ob, k b ob q⟩, fun _ _ q => q, fun _ _ _ q => q, fun _ ps q => ⟨#[], by rw [q]; simp⟩⟩
theorem Un.refl : Un fs ex H H h h := Un.kept fun _ _ q => q
theorem Un.laid (k : ∀ b u, h.get? b = some u -> h'.get? b = some u) (hp : h.objs.size <= a) (hn : H a = none) : Un fs ex H (upd H a o) h h' where
 keep := fun b u q _ _ _ => k b u q
 slot := fun b u q _ _ _ => ⟨u.slots, k b u q⟩
 free := fun b u q n _ => by rw [aw (Nat.ne_of_lt (Nat.lt_of_lt_of_le (Heap.lt_size q) hp))]; exact n
 there := fun b u q _ => ⟨u, k b u q⟩
 jt := fun b xs q => by rw [aw (aG q hn)]; exact q
 iQ := fun b u xs q => by rw [aw (aG q hn)]; exact q
 kH := fun b ps q => ⟨#[], by rw [aw (aG q hn), q]; simp⟩
theorem Un.write (mu : DI (H x)) (he : e = x \/ H e = some (.own x)) (k : ∀ b u, b ≠ e -> h.get? b = some u -> h'.get? b = some u) (yl : ∃ u, h'.get? e = some u) : Un fs ex H (upd H x o) h h' := by
 have hx : ∀ b, H b = none -> b ≠ x := fun b n z => by subst z; rw [n] at mu; exact mu
 have hb : ∀ b, H b = none -> b ≠ e := fun b n z => by
  subst z
  rcases he with r | r
  . exact hx b n r
  . rw [n] at r; cases r
 have hm : ∀ b u, H b = some u -> ¬ DI (some u) -> b ≠ x := fun b u q nm z => by subst z; rw [q] at mu; exact nm mu
 refine ⟨fun b u q n _ _ => k b u (hb b n) q, fun b u q n _ _ => ⟨u.slots, k b u (hb b n) q⟩, fun b u q n _ => by rw [aw (hx b n)]; exact n, fun b u q _ => ?_,
  fun b xs q => by rw [aw (hm b _ q fun z => z)]; exact q, fun b u xs q => by rw [aw (hm b _ q fun z => z)]; exact q, fun b ps q => ⟨#[], by rw [aw (hm b _ q fun z => z), q]; simp⟩⟩
 by_cases Ax : b = e
 . subst Ax; exact yl
 . exact ⟨u, k b u Ax q⟩
end
def Ep (h : Heap) (H : Hp) : List Addr := (List.range h.objs.size).filter fun a => (H a).isSome
def lZ (h : Heap) (H : Hp) : Heap := PySem.W.hideAll h (Ep h H)
theorem qB (h : Heap) (H : Hp) : (lZ h H).objs.size = h.objs.size := PySem.W.hideAll_size _ _
theorem uq {h : Heap} {H : Hp} {b : Addr} {o : Obj} (e : h.get? b = some o) (n : H b = none) : (lZ h H).get? b = some o :=
 PySem.W.hideAll_get _ e fun hm => by
  have q : (H b).isSome = true := (List.mem_filter.mp hm).2
  rw [n] at q; simp at q
theorem v8 {h : Heap} {H : Hp} {b : Addr} {o : Obj} (e : (lZ h H).get? b = some o) : h.get? b = some o /\ H b = none := by
 have e' : h.get? b = some o := PySem.W.of_hideAll (Ep h H) e
 refine ⟨e', ?_⟩
 cases q : H b with
 | none => rfl
 | some x =>
   have hm : b ∈ Ep h H := List.mem_filter.mpr ⟨List.mem_range.mpr (Heap.lt_size e'), by simp [q]⟩
   have z : (lZ h H).get? b = none := PySem.W.hideAll_none (Ep h H) hm
   rw [z] at e; cases e
def wc (g h : Heap) (L : Addr) : List (Addr × Obj) := (List.range h.objs.size).filterMap fun a => if a = L \/ (g.get? a).isSome = true then none else (h.get? a).map fun o => (a, o)
def rest (g h : Heap) (L d : Addr) : List (Addr × Obj) := (wc g h L).filter fun p => decide (p.1 ≠ d)
structure Mod (K : PySem.W.Frag) (mg : Str -> Option Value) (base : Heap) : Prop where
 E2 : K.In base
 glob : base.Ns mainGlobals mg
 blt : ∃ mb, base.Ns builtinsNs mb /\ ∀ x : Str, x ≠ "__name__" -> mb x = bootBuiltins x
 nolimit : base.NoLimit
structure Cx where
 prog : Program
 w : World
 K : PySem.W.Frag
 mg : Str -> Option Value
 base : Heap
 A : Around
 N : List Str
 cA : Shared
 uc : Hp
 env : Env
 outer : List Env
 stack : List Env
 ex : List Addr
 fn : Str -> Bool
 calm : Bool
 pn : List (Addr × Obj)
 xe : Value -> Shared -> Prop
def nq (l : List Env) : List Addr := l.filterMap (·.frame)
abbrev Cx.fs (X : Cx) : List Addr := nq X.outer
def Cj (sc : Scope) (x : Str) : Prop := sc.names.lookup x = some .local \/ sc.names.lookup x = some .cell \/ sc.names.lookup x = some .free
def Loc (sc : Scope) (x : Str) : Prop := sc.names.lookup x = some .local \/ sc.names.lookup x = some .cell
def Look (env : Env) (h : Heap) (m : Str -> Option Value) (x : Str) (u : Value) : Prop :=
 (env.kindOf x = some .local /\ m x = some u) \/ ((env.kindOf x = some .cell \/ env.kindOf x = some .free) /\ ∃ c, env.cells.lookup x = some c /\ h.IsCell c (some u))
structure Cx.Ok (X : Cx) : Prop where
 mod : Mod X.K X.mg X.base
 kind : X.env.scope.kind = .function
 glob : X.env.globals = mainGlobals
 blt : X.env.builtins = builtinsNs
 above : X.cA.heap.objs.size <= X.env.locals
 inj : ∀ x y c, X.env.cells.lookup x = some c -> X.env.cells.lookup y = some c -> x = y
 has : ∀ x, (X.env.kindOf x = some .cell \/ X.env.kindOf x = some .free) -> ∃ c, X.env.cells.lookup x = some c
 Bj : ∀ x c, X.fn x = true -> X.env.cells.lookup x = some c -> X.cA.heap.objs.size <= c
 hd : X.calm = true -> X.A.handled = none
 frames : X.A.frames = some X.stack
 DL : X.stack = X.outer \/ (X.stack = X.env :: X.outer /\ X.env.frame = some X.env.locals)
 BG : ∀ b ∈ X.ex, b ≠ X.env.locals /\ ∀ x c, X.env.cells.lookup x = some c -> c ≠ b
 bs : ∀ b o, X.base.get? b = some o -> X.cA.heap.get? b = some o /\ X.uc b = none
 vf : X.base.objs.size <= X.cA.heap.objs.size
 qx : ∀ b o, X.base.get? b = some o -> b ∉ X.ex
 qQ : ∀ b ∈ X.ex, b ∉ X.fs
 iF : X.cA.heap.FunFrames X.base X.outer
 ya : ∀ b ∈ X.fs, X.uc b = none
structure Inv (X : Cx) (pins : List (Addr × Obj)) (σ : List (Option V)) (H : Hp) (s : Shared) : Prop where
 ok : X.Ok
 os : s.os = X.cA.os
 bare : AllBare s.gens
 base : Un X.fs X.ex X.uc H X.cA.heap s.heap
 loc : ∃ m, s.heap.Ns X.env.locals m /\ ∀ (i : Nat) (x : Str) (v : V), X.N[i]? = some x -> σ[i]? = some (some v) -> Cj X.env.scope x -> ∃ u, RelV v u /\ Look X.env s.heap m x u
 cell : ∀ x c, X.env.cells.lookup x = some c -> ∃ v, s.heap.IsCell c v
 free : H X.env.locals = none
 dW : ∀ x c, X.env.cells.lookup x = some c -> H c = none
 pin : ∀ p ∈ X.pn ++ pins, s.heap.get? p.1 = some p.2 /\ H p.1 = none /\ p.1 ≠ X.env.locals /\ p.1 ∉ X.fs /\ ∀ v, p.2.data ≠ .cell v
 aQ : gN X.prog X.w H s.heap
 len : σ.length = X.N.length
section
variable {X : Cx} {pins : List (Addr × Obj)} {σ : List (Option V)} {H H' : Hp} {s : Shared} {h' : Heap}
theorem Cx.Ok.FL (ok : X.Ok) {b : Addr} {o : Obj} (e : X.base.get? b = some o) : b ∉ X.fs := fun hb => by
 have := (ok.iF.mem hb).1
 rw [e] at this; cases this
theorem Inv.bs (I : Inv X pins σ H s) : ∀ b o, X.base.get? b = some o -> s.heap.get? b = some o /\ H b = none := fun b o e =>
 ⟨I.base.keep b o (I.ok.bs b o e).1 (I.ok.bs b o e).2 (I.ok.FL e) (I.ok.qx b o e), I.base.free b o (I.ok.bs b o e).1 (I.ok.bs b o e).2 (I.ok.qx b o e)⟩
theorem Inv.bk (I : Inv X pins σ H s) : ∀ b o, X.base.get? b = some o -> s.heap.get? b = some o := fun b o e => (I.bs b o e).1
theorem Inv.mod (I : Inv X pins σ H s) : Mod X.K X.mg X.base := I.ok.mod
theorem Inv.A5 (I : Inv X pins σ H s) : X.K.In s.heap := I.ok.mod.E2.keeps I.bk
theorem Inv.lt (I : Inv X pins σ H s) : X.env.locals < s.heap.objs.size := let ⟨_, hn, _⟩ := I.loc; hn.lt
theorem Inv.sz (I : Inv X pins σ H s) : X.cA.heap.objs.size <= s.heap.objs.size := Nat.le_trans I.ok.above (Nat.le_of_lt I.lt)
theorem Inv.Ew (I : Inv X pins σ H s) {a : Addr} (h : s.heap.objs.size <= a) : a ∉ X.fs := fun hb => by
 obtain ⟨_, o, ho, _⟩ := I.ok.iF.mem hb
 exact absurd (Nat.lt_of_lt_of_le (Heap.lt_size ho) (Nat.le_trans I.sz h)) (Nat.lt_irrefl _)
theorem Inv.zv (I : Inv X pins σ H s) : ∀ x c, X.env.cells.lookup x = some c -> c ≠ X.env.locals := fun x c e z => by
 obtain ⟨v, o, ho, hd⟩ := I.cell x c e
 obtain ⟨m, ⟨o', es, ep, qK, iD, _⟩, _⟩ := I.loc
 rw [z, qK] at ho; cases ho; rw [iD] at hd; cases hd
theorem Inv.iF (I : Inv X pins σ H s) : s.heap.FunFrames X.base X.outer := by
 have all : ∀ (l : List Env), (∀ b ∈ nq l, b ∈ X.fs) -> X.cA.heap.FunFrames X.base l -> s.heap.FunFrames X.base l := by
  intro l
  induction l with
  | nil => intro _ _; trivial
  | cons env r ih =>
    intro hs hl
    obtain ⟨hk, ⟨L, o, hf, hn, ho, hd⟩, hr⟩ := hl
    have hL : L ∈ X.fs := hs L (by unfold nq; rw [List.filterMap_cons, hf]; exact List.mem_cons_self)
    obtain ⟨sl, e⟩ := I.base.slot L o ho (I.ok.ya L hL) hL fun z => I.ok.qQ L z hL
    exact ⟨hk, ⟨L, _, hf, hn, e, hd⟩, ih (fun b hb => hs b (by unfold nq; rw [List.filterMap_cons, hf]; exact List.mem_cons_of_mem _ hb)) hr⟩
 exact all X.outer (fun _ hb => hb) I.ok.iF
theorem Inv.stack (I : Inv X pins σ H s) : s.heap.FunFrames X.base X.stack := by
 rcases I.ok.DL with e | ⟨e, hf⟩
 . rw [e]; exact I.iF
 . rw [e]
   obtain ⟨m, hn, _⟩ := I.loc
   refine .cons (by rw [I.ok.kind]; decide) hf hn ?_ I.iF
   exact Heap.get?_none_of_le (Nat.le_trans I.ok.vf I.ok.above)
theorem Inv.o6 (I : Inv X pins σ H s) : ∀ b ∈ nq X.stack, b ∈ X.env.locals :: X.fs := fun b hb => by
 rcases I.ok.DL with e | ⟨e, hf⟩
 . rw [e] at hb; exact List.mem_cons_of_mem _ hb
 . rw [e] at hb
   unfold nq at hb
   rw [List.filterMap_cons, hf] at hb
   exact hb
theorem Inv.ph (I : Inv X pins σ H s) : ∀ b ∈ nq X.stack, H b = none := fun b hb => by
 rcases List.mem_cons.mp (I.o6 b hb) with e | hb
 . rw [e]; exact I.free
 . obtain ⟨_, o, ho, _⟩ := I.ok.iF.mem hb
   exact I.base.free b o ho (I.ok.ya b hb) fun z => I.ok.qQ b z hb
theorem Inv.step {g' : Array GenState} {t' : Nat} {d' : Drawn} {ch : List Addr} (I : Inv X pins σ H s)
 (qJ : ∀ b ∈ ch, (b ∈ X.ex \/ X.cA.heap.objs.size <= b) /\ b ≠ X.env.locals /\ (∀ x c, X.env.cells.lookup x = some c -> c ≠ b) /\ ∀ p ∈ X.pn ++ pins, p.1 ≠ b)
 (keep : ∀ b o, b ≠ X.env.locals -> b ∉ X.fs -> b ∉ ch -> s.heap.get? b = some o -> H b = none -> h'.get? b = some o)
 (slot : ∀ b o, b ≠ X.env.locals -> b ∈ X.fs -> b ∉ ch -> s.heap.get? b = some o -> H b = none -> ∃ sl, h'.get? b = some { o with slots := sl }) (free : ∀ b o, b ∉ ch -> s.heap.get? b = some o -> H b = none -> H' b = none)
 (there : ∀ b o, b ∉ ch -> s.heap.get? b = some o -> ∃ o', h'.get? b = some o')
 (jt : ∀ b xs, H b = some (.tup xs) -> H' b = some (.tup xs)) (iQ : ∀ b o u, H b = some (.rM o u) -> H' b = some (.rM o u)) (kH : ∀ b ps, H b = some (.Au ps) -> ∃ more, H' b = some (.Au (ps ++ more)))
 (ns : ∀ m, s.heap.Ns X.env.locals m -> h'.Ns X.env.locals m) (aQ : gN X.prog X.w H' h') (hg : AllBare g') :
 Inv X pins σ H' { s with heap := h', gens := g', drawn := d', toks := t' } := by
 have HW : ∀ b o, X.cA.heap.get? b = some o -> b ≠ X.env.locals := fun b o e => Nat.ne_of_lt (Nat.lt_of_lt_of_le (Heap.lt_size e) I.ok.above)
 have Eb : ∀ b o, X.cA.heap.get? b = some o -> b ∉ X.ex -> b ∉ ch := fun b o e hx hb => by
  rcases (qJ b hb).1 with z | z
  . exact hx z
  . exact absurd (Nat.lt_of_lt_of_le (Heap.lt_size e) z) (Nat.lt_irrefl _)
 have cellK : ∀ x c, X.env.cells.lookup x = some c -> ∀ v, s.heap.IsCell c v -> h'.IsCell c v := fun x c e v ⟨o, ho, hd⟩ => by
  have CT : c ∉ ch := fun z => (qJ c z).2.2.1 x c e rfl
  by_cases hc : c ∈ X.fs
  . obtain ⟨sl, q⟩ := slot c o (I.zv x c e) hc CT ho (I.dW x c e)
    exact ⟨_, q, hd⟩
  . exact ⟨o, keep c o (I.zv x c e) hc CT ho (I.dW x c e), hd⟩
 refine ⟨I.ok, I.os, hg, ⟨fun b o e n hb hx => ?_, fun b o e n hb hx => ?_, fun b o e n hx => ?_, fun b o e hx => ?_, fun b xs e => jt b xs (I.base.jt b xs e), fun b o xs e => iQ b o xs (I.base.iQ b o xs e), fun b ps e => ?_⟩, ?_, fun x c e => ?_, ?_, fun x c e => ?_, fun p hp => ?_, aQ, I.len⟩
 . exact keep b o (HW b o e) hb (Eb b o e hx) (I.base.keep b o e n hb hx) (I.base.free b o e n hx)
 . obtain ⟨sl, e1⟩ := I.base.slot b o e n hb hx
   obtain ⟨Ku, e2⟩ := slot b _ (HW b o e) hb (Eb b o e hx) e1 (I.base.free b o e n hx)
   exact ⟨Ku, e2⟩
 . obtain ⟨o', e1⟩ := I.base.there b o e hx
   exact free b o' (Eb b o e hx) e1 (I.base.free b o e n hx)
 . obtain ⟨o', e1⟩ := I.base.there b o e hx
   exact there b o' (Eb b o e hx) e1
 . obtain ⟨m1, e1⟩ := I.base.kH b ps e
   obtain ⟨m2, e2⟩ := kH b _ e1
   exact ⟨m1 ++ m2, by rw [e2, Array.append_assoc]⟩
 . obtain ⟨m, hn, hl⟩ := I.loc
   refine ⟨m, ns m hn, fun i x v e1 e2 e3 => ?_⟩
   obtain ⟨u, r, l⟩ := hl i x v e1 e2 e3
   refine ⟨u, r, ?_⟩
   rcases l with l | ⟨k, c, e, z⟩
   . exact .inl l
   . exact .inr ⟨k, c, e, cellK x c e _ z⟩
 . obtain ⟨v, z⟩ := I.cell x c e
   exact ⟨v, cellK x c e v z⟩
 . obtain ⟨m, ⟨o, _, _, ho, _⟩, _⟩ := I.loc
   exact free _ o (fun z => (qJ _ z).2.1 rfl) ho I.free
 . obtain ⟨v, o, ho, hd⟩ := I.cell x c e
   exact free c o (fun z => (qJ c z).2.2.1 x c e rfl) ho (I.dW x c e)
 . obtain ⟨e, n, ne, nf, d⟩ := I.pin p hp
   have CT : p.1 ∉ ch := fun z => (qJ p.1 z).2.2.2 p hp rfl
   exact ⟨keep p.1 p.2 ne nf CT e n, free p.1 p.2 CT e n, ne, nf, d⟩
theorem Inv.un {t' : Nat} (I : Inv X pins σ H s) (u : Un X.fs [] H H' s.heap h') (aQ : gN X.prog X.w H' h') : Inv X pins σ H' { s with heap := h', toks := t' } := by
 obtain ⟨m, ⟨o, es, ep, ho, r⟩, _⟩ := id I.loc
 obtain ⟨sl, hL⟩ := u.any ho I.free (by simp)
 exact I.step (g' := s.gens) (d' := s.drawn) (ch := []) (fun _ z => nomatch z) (fun b o _ hb _ e n => u.keep b o e n hb (by simp)) (fun b o _ hb _ e n => u.slot b o e n hb (by simp)) (fun b o _ e n => u.free b o e n (by simp)) (fun b o _ e => u.there b o e (by simp)) u.jt u.iQ u.kH (fun m' hm => by
  obtain ⟨o', GJ, Er, qK, r'⟩ := hm
  rw [ho] at qK; cases qK
  exact ⟨_, GJ, Er, hL, r'⟩) aQ I.bare
theorem Inv.call {g' : Array GenState} {t' : Nat} {d' : Drawn} {ch : List Addr} (I : Inv X pins σ H s) (u : Un (nq X.stack) ch H H' s.heap h') (aQ : gN X.prog X.w H' h') (hg : AllBare g')
 (qJ : ∀ b ∈ ch, (b ∈ X.ex \/ X.cA.heap.objs.size <= b) /\ b ≠ X.env.locals /\ (∀ x c, X.env.cells.lookup x = some c -> c ≠ b) /\ ∀ p ∈ X.pn ++ pins, p.1 ≠ b) :
 Inv X pins σ H' { s with heap := h', gens := g', drawn := d', toks := t' } := by
 obtain ⟨m, ⟨o, es, ep, ho, r⟩, _⟩ := id I.loc
 obtain ⟨sl, hL⟩ := u.any ho I.free fun z => (qJ _ z).2.1 rfl
 exact I.step (ch := ch) qJ (fun b o hL hb hc e n => u.keep b o e n (fun z => (List.mem_cons.mp (I.o6 b z)).elim hL hb) hc) (fun b o _ _ hc e n => u.any e n hc) (fun b o hc e n => u.free b o e n hc) (fun b o hc e => u.there b o e hc) u.jt u.iQ u.kH (fun m' hm => by
  obtain ⟨o', GJ, Er, qK, r'⟩ := hm
  rw [ho] at qK; cases qK
  exact ⟨_, GJ, Er, hL, r'⟩) aQ hg
theorem Inv.turned {t' : Nat} {it : Addr} (I : Inv X pins σ H s) (k : ∀ b o, b ≠ it -> s.heap.get? b = some o -> h'.get? b = some o) (hn : H it = none) (hL : it ≠ X.env.locals)
 (h1 : it ∈ X.ex \/ X.cA.heap.objs.size <= it) (h2 : ∀ x c, X.env.cells.lookup x = some c -> c ≠ it) (h3 : ∀ p ∈ X.pn ++ pins, p.1 ≠ it) : Inv X pins σ H { s with heap := h', toks := t' } := by
 have vj : ∀ b u, H b = some u -> b ≠ it := fun b u e z => by rw [z, hn] at e; cases e
 refine I.step (g' := s.gens) (d' := s.drawn) (ch := [it]) (fun b hb => ?_) (fun b o _ _ hc e _ => k b o (fun z => hc (by simp [z])) e) (fun b o _ _ hc e _ => ⟨o.slots, k b o (fun z => hc (by simp [z])) e⟩) (fun _ _ _ _ n => n)
  (fun b o hc e => ⟨o, k b o (fun z => hc (by simp [z])) e⟩) (fun _ _ e => e) (fun _ _ _ e => e) (fun b ps e => ⟨#[], by rw [e]; simp⟩) (fun m hm => ?_) (fun b u e => ?_) I.bare
 . have e : b = it := by simpa using hb
   subst e
   exact ⟨h1, hL, h2, h3⟩
 . obtain ⟨o, es, ep, ho, r⟩ := hm
   exact ⟨o, es, ep, k _ o (Ne.symm hL) ho, r⟩
 . refine (I.aQ b u e).mn (fun c v hc q => k c v ?_ q) (fun _ q => q) fun _ _ q => q
   rcases hc with z | z
   . rw [z]; exact vj b u e
   . exact vj c _ z
theorem Inv.tok (I : Inv X pins σ H s) (t : Nat) : Inv X pins σ H { s with toks := t } := I.un (h' := s.heap) (t' := t) Un.refl I.aQ
theorem Inv.kept {t' : Nat} (I : Inv X pins σ H s) (k : ∀ b u, s.heap.get? b = some u -> h'.get? b = some u) : Inv X pins σ H { s with heap := h', toks := t' } := I.un (Un.kept k) (I.aQ.kept k)
theorem Inv.laid {a : Addr} {o : HO} {t' : Nat} (I : Inv X pins σ H s) (k : ∀ b u, s.heap.get? b = some u -> h'.get? b = some u) (hp : s.heap.objs.size <= a) (new : bQ X.prog X.w (upd H a o) h' a o) :
 Inv X pins σ (upd H a o) { s with heap := h', toks := t' } := I.un (Un.laid k hp (I.aQ.fresh hp)) (I.aQ.laid k hp new)
theorem Inv.write {x e : Addr} {o : HO} {t' : Nat} (I : Inv X pins σ H s) (mu : DI (H x)) (he : e = x \/ H e = some (.own x)) (k : ∀ b u, b ≠ e -> s.heap.get? b = some u -> h'.get? b = some u) (yl : ∃ u, h'.get? e = some u)
 (new : bQ X.prog X.w (upd H x o) h' x o) : Inv X pins σ (upd H x o) { s with heap := h', toks := t' } := I.un (Un.write mu he k yl) (I.aQ.write mu he k yl new)
theorem Inv.weak {σ' : List (Option V)} (I : Inv X pins σ H s) (hl : σ'.length = σ.length) (w : ∀ (i : Nat) v, σ'[i]? = some (some v) -> σ[i]? = some (some v)) : Inv X pins σ' H s :=
 ⟨I.ok, I.os, I.bare, I.base, let ⟨m, hn, qT⟩ := I.loc; ⟨m, hn, fun i x v e1 e2 e3 => qT i x v e1 (w i v e2) e3⟩, I.cell, I.free, I.dW, I.pin, I.aQ, hl.trans I.len⟩
theorem Inv.gb {xU : List (Addr × Obj)} (I : Inv X pins σ H s) (h : ∀ p ∈ xU, s.heap.get? p.1 = some p.2 /\ H p.1 = none /\ p.1 ≠ X.env.locals /\ p.1 ∉ X.fs /\ ∀ v, p.2.data ≠ .cell v) : Inv X xU σ H s :=
 ⟨I.ok, I.os, I.bare, I.base, I.loc, I.cell, I.free, I.dW, fun p hp => (List.mem_append.mp hp).elim (fun z => I.pin p (List.mem_append_left _ z)) (h p), I.aQ, I.len⟩
theorem mM {N : List Str} (hN : N.Nodup) {i j : Nat} {x : Str} (a : N[i]? = some x) (b : N[j]? = some x) : i = j := by
 obtain ⟨h1, e1⟩ := List.getElem?_eq_some_iff.mp a
 obtain ⟨h2, e2⟩ := List.getElem?_eq_some_iff.mp b
 exact (List.getElem_inj hN).mp (e1.trans e2.symm)
theorem k8 {M : Model} {A : Around} {E : Value -> Shared -> Prop} {i : Nat} {x : Str} {v : V} {u : Value} {Q : Unit -> Shared -> Prop} (I : Inv X pins σ H s) (hN : X.N.Nodup) (hi : X.N[i]? = some x) (hx : Loc X.env.scope x) (r : RelV v u)
 (h : ∀ s', Inv X pins (σ.set i (some v)) H s' -> (∃ a, Heap.SameBut a s.heap s'.heap /\ (a = X.env.locals \/ X.env.cells.lookup x = some a)) -> Q () s') (hf : X.fn x = true \/ X.env.scope.names.lookup x = some .local := by first | exact .inl rfl | exact .inr rfl | assumption) : wpAny M A (storeName X.env x u) Q E s := by
 obtain ⟨m, hn, hl⟩ := id I.loc
 have GI : (X.env.scope.kind == .class || (X.env.scope.kind == .module && X.env.locals != X.env.globals)) = false := by rw [I.ok.kind]; rfl
 have De : i < σ.length := by rw [I.len]; exact (List.getElem?_eq_some_iff.mp hi).1
 have zv := I.zv
 have tracked : ∀ {a : Addr} {h' : Heap}, (∃ o, s.heap.get? a = some o /\ H a = none) -> Heap.SameBut a s.heap h' -> gN X.prog X.w H h' := fun {a h'} ha hs b ob e => by
  obtain ⟨_, _, x9⟩ := ha
  refine (I.aQ b ob e).mn (fun c w' hc q => (hs.2 c ?_).trans q) (fun _ q => q) fun _ _ q => q
  rintro rfl
  rcases hc with rfl | hc
  . rw [x9] at e; cases e
  . rw [x9] at hc; cases hc
 rcases hx with hk | hk
 . refine wpAny_storeName_local hk hn (fun h' Bi hs => ?_) GI
   obtain ⟨oL, _, _, u3, _⟩ := id hn
   refine h _ ⟨I.ok, I.os, I.bare, ⟨fun b o e n hb hx => ?_, fun b o e n hb hx => ?_, I.base.free, fun b o e hx => ?_, I.base.jt, I.base.iQ, I.base.kH⟩, ⟨_, Bi, fun j y v' e1 e2 e3 => ?_⟩, fun y c e => ?_, I.free, I.dW, fun p hp => ?_, tracked ⟨oL, u3, I.free⟩ hs, by simpa using I.len⟩ ⟨_, hs, .inl rfl⟩
   . exact (hs.2 b (Nat.ne_of_lt (Nat.lt_of_lt_of_le (Heap.lt_size e) I.ok.above))).trans (I.base.keep b o e n hb hx)
   . obtain ⟨sl, e1⟩ := I.base.slot b o e n hb hx
     exact ⟨sl, (hs.2 b (Nat.ne_of_lt (Nat.lt_of_lt_of_le (Heap.lt_size e) I.ok.above))).trans e1⟩
   . obtain ⟨o', e1⟩ := I.base.there b o e hx
     exact ⟨o', (hs.2 b (Nat.ne_of_lt (Nat.lt_of_lt_of_le (Heap.lt_size e) I.ok.above))).trans e1⟩
   . by_cases hj : j = i
     . subst hj
       rw [hi] at e1; cases e1
       rw [List.getElem?_set_self De] at e2
       cases e2
       exact ⟨u, r, .inl ⟨hk, by simp⟩⟩
     . rw [List.getElem?_set_ne (Ne.symm hj)] at e2
       obtain ⟨u', r', q⟩ := hl j y v' e1 e2 e3
       refine ⟨u', r', ?_⟩
       rcases q with ⟨k, e⟩ | ⟨k, c, e, z⟩
       . refine .inl ⟨k, ?_⟩
         have : y ≠ x := fun e => hj (mM hN e1 (e ▸ hi))
         simp [this, e]
       . exact .inr ⟨k, c, e, z.sameBut hs (zv y c e)⟩
   . obtain ⟨w', z⟩ := I.cell y c e
     exact ⟨w', z.sameBut hs (zv y c e)⟩
   . obtain ⟨e, n, ne, nf, d⟩ := I.pin p hp
     exact ⟨(hs.2 p.1 ne).trans e, n, ne, nf, d⟩
 . have E1 : X.fn x = true := by
    rcases hf with z | z
    . exact z
    . rw [z] at hk; cases hk
   obtain ⟨c, hc⟩ := I.ok.has x (.inl hk)
   obtain ⟨w', z⟩ := I.cell x c hc
   refine wpAny_storeName_cell I.ok.kind hk hc z (fun h' u5 hs => ?_)
   obtain ⟨oc, G8, Fi⟩ := id z
   refine h { s with heap := h' } ⟨I.ok, I.os, I.bare, ⟨fun b o e n hb hx => ?_, fun b o e n hb hx => ?_, I.base.free, fun b o e hx => ?_, I.base.jt, I.base.iQ, I.base.kH⟩, ⟨m, hn.sameBut hs (Ne.symm (zv x c hc)), fun j y v' e1 e2 e3 => ?_⟩, fun y c' e => ?_, I.free, I.dW, fun p hp => ?_, tracked ⟨oc, G8, I.dW x c hc⟩ hs, by simpa using I.len⟩ ⟨c, hs, .inr hc⟩
   . exact (hs.2 b (Nat.ne_of_lt (Nat.lt_of_lt_of_le (Heap.lt_size e) (I.ok.Bj x c E1 hc)))).trans (I.base.keep b o e n hb hx)
   . obtain ⟨sl, e1⟩ := I.base.slot b o e n hb hx
     exact ⟨sl, (hs.2 b (Nat.ne_of_lt (Nat.lt_of_lt_of_le (Heap.lt_size e) (I.ok.Bj x c E1 hc)))).trans e1⟩
   . obtain ⟨o', e1⟩ := I.base.there b o e hx
     exact ⟨o', (hs.2 b (Nat.ne_of_lt (Nat.lt_of_lt_of_le (Heap.lt_size e) (I.ok.Bj x c E1 hc)))).trans e1⟩
   . by_cases hj : j = i
     . subst hj
       rw [hi] at e1; cases e1
       rw [List.getElem?_set_self De] at e2
       cases e2
       exact ⟨u, r, .inr ⟨.inl hk, c, hc, u5⟩⟩
     . rw [List.getElem?_set_ne (Ne.symm hj)] at e2
       obtain ⟨u', r', q⟩ := hl j y v' e1 e2 e3
       refine ⟨u', r', ?_⟩
       rcases q with q | ⟨k, c', e, z'⟩
       . exact .inl q
       . refine .inr ⟨k, c', e, z'.sameBut hs ?_⟩
         rintro rfl
         exact hj (mM hN e1 (I.ok.inj _ _ _ e hc ▸ hi))
   . by_cases zF : c' = c
     . subst zF; exact ⟨_, u5⟩
     . obtain ⟨w2, z2⟩ := I.cell y c' e
       exact ⟨w2, z2.sameBut hs zF⟩
   . obtain ⟨e, n, ne, nf, d⟩ := I.pin p hp
     refine ⟨(hs.2 p.1 ?_).trans e, n, ne, nf, d⟩
     intro q
     rw [q, G8] at e
     have q' : oc = p.2 := Option.some.inj e
     exact d w' (by rw [<- q']; exact Fi)
theorem nj {M : Model} {A : Around} {E : Value -> Shared -> Prop} {i : Nat} {x : Str} {v : V} {u : Value} {Q : Unit -> Shared -> Prop} (I : Inv X pins σ H s) (hN : X.N.Nodup) (hi : X.N[i]? = some x) (hx : Loc X.env.scope x) (r : RelV v u)
 (h : ∀ s', Inv X pins (σ.set i (some v)) H s' -> Q () s') (hf : X.fn x = true \/ X.env.scope.names.lookup x = some .local := by first | exact .inl rfl | exact .inr rfl | assumption) : wpAny M A (storeName X.env x u) Q E s :=
 k8 I hN hi hx r (fun s' I' _ => h s' I') hf
theorem Inv.Cb {s' : Shared} {ch : List Addr} (I : Inv X pins σ H s) (ho : s'.os = s.os) (u : Un (nq X.stack) ch H H' s.heap s'.heap) (aQ : gN X.prog X.w H' s'.heap) (hg : AllBare s'.gens)
 (qJ : ∀ b ∈ ch, (b ∈ X.ex \/ X.cA.heap.objs.size <= b) /\ b ≠ X.env.locals /\ (∀ x c, X.env.cells.lookup x = some c -> c ≠ b) /\ ∀ p ∈ X.pn ++ pins, p.1 ≠ b) : Inv X pins σ H' s' := by
 obtain ⟨h', g', d', t', o'⟩ := s'
 have e : o' = s.os := ho
 subst e
 exact I.call (g' := g') (t' := t') (d' := d') u aQ hg qJ
end
abbrev XK := Value -> Option Addr -> Hp -> Prop
abbrev St := List (Option V)
abbrev VK := V -> Hp -> Prop
abbrev TE := St -> Hp -> VK -> Prop
abbrev TT := St -> Hp -> (Bool -> Hp -> Prop) -> Prop
abbrev TA := St -> Hp -> (List V -> Hp -> Prop) -> Prop
structure Ends where
 nx : St -> Hp -> Prop
 rt : VK
 bk : St -> Hp -> Prop := fun _ _ => False
 ct : St -> Hp -> Prop := fun _ _ => False
abbrev TS := Ends -> St -> Hp -> Prop
def EP (X : Cx) (pins : List (Addr × Obj)) (σ : St) (Q : VK) (u : Value) (s' : Shared) : Prop := ∃ v H', Inv X pins σ H' s' /\ RelV v u /\ Q v H'
def TP (X : Cx) (pins : List (Addr × Obj)) (σ : St) (Q : Bool -> Hp -> Prop) (b : Bool) (s' : Shared) : Prop := ∃ H', Inv X pins σ H' s' /\ Q b H'
def AP (X : Cx) (pins : List (Addr × Obj)) (σ : St) (Q : List V -> Hp -> Prop) (us : List Value) (s' : Shared) : Prop := ∃ vs H', Inv X pins σ H' s' /\ Vals vs us /\ Q vs H'
def SP (X : Cx) (pins : List (Addr × Obj)) (D : Ends) (f : Flow) (s' : Shared) : Prop :=
 match f with
 | .next => ∃ σ' H', Inv X pins σ' H' s' /\ D.nx σ' H'
 | .brk => ∃ σ' H', Inv X pins σ' H' s' /\ D.bk σ' H'
 | .cont => ∃ σ' H', Inv X pins σ' H' s' /\ D.ct σ' H'
 | .ret u => ∃ v σ' H', Inv X pins σ' H' s' /\ RelV v u /\ D.rt v H'
def PE (X : Cx) (e : Expr) (t : TE) : Prop :=
 ∀ (pins : List (Addr × Obj)) (s : Shared) (σ : St) (H : Hp) (Q : VK), Inv X pins σ H s -> t σ H Q -> wpAny (model X.prog X.w) X.A (eval e X.env) (EP X pins σ Q) X.xe s
def PT (X : Cx) (e : Expr) (t : TT) : Prop :=
 ∀ (pins : List (Addr × Obj)) (s : Shared) (σ : St) (H : Hp) (Q : Bool -> Hp -> Prop), Inv X pins σ H s -> t σ H Q -> wpAny (model X.prog X.w) X.A (isTrue e X.env (eval e X.env)) (TP X pins σ Q) X.xe s
def PW (X : Cx) (e : Expr) (t : TT) : Prop :=
 ∀ (whole : Sem Value) (pins : List (Addr × Obj)) (s : Shared) (σ : St) (H : Hp) (Q : Bool -> Hp -> Prop), Inv X pins σ H s -> t σ H Q -> wpAny (model X.prog X.w) X.A (isTrue e X.env whole) (TP X pins σ Q) X.xe s
theorem PW.pt {X : Cx} {e : Expr} {t : TT} (h : PW X e t) : PT X e t := h _
def PA (X : Cx) (es : List Expr) (t : TA) : Prop :=
 ∀ (pos : Pos) (pins : List (Addr × Obj)) (s : Shared) (σ : St) (H : Hp) (Q : List V -> Hp -> Prop), Inv X pins σ H s -> t σ H Q -> wpAny (model X.prog X.w) X.A (spliced (backTo pos (starEach es X.env))) (AP X pins σ Q) X.xe s
def PS (X : Cx) (st : Stmt) (t : TS) : Prop :=
 ∀ (pins : List (Addr × Obj)) (s : Shared) (σ : St) (H : Hp) (D : Ends), Inv X pins σ H s -> t D σ H -> wpAny (model X.prog X.w) X.A (exec st X.env) (SP X pins D) X.xe s
def nM (X : Cx) (st : List Stmt) (t : TS) : Prop :=
 ∀ (pins : List (Addr × Obj)) (s : Shared) (σ : St) (H : Hp) (D : Ends), Inv X pins σ H s -> t D σ H -> wpAny (model X.prog X.w) X.A (execs st X.env) (SP X pins D) X.xe s
theorem bF {α : Type} {t : Sem α} {Q Q' : α -> Shared -> Prop} {M : Model} {A : Around} {E : Value -> Shared -> Prop} {s : Shared} (h : wpAny M A t Q E s) (hQ : ∀ a s, Q a s -> Q' a s) : wpAny M A t Q' E s := wpAny_mono h hQ fun _ _ x => x
section
variable {X : Cx}
def yU (i : Nat) : TE := fun σ H Q => ∃ v, σ[i]? = some (some v) /\ Q v H
def tC (v : V) : TE := fun _ H Q => Q v H
theorem zW {i : Nat} {x : Str} {pos : Pos} (hN : X.N[i]? = some x) (hv : Cj X.env.scope x) (hd : (x == ("__debug__" : Str)) = false := by decide) (rH : (x == ("__classdict__" : Str)) = false := by decide) : PE X (.Name x pos) (yU i) := by
 intro pins s σ H Q I h
 obtain ⟨v, e, h⟩ := h
 obtain ⟨m, hn, hl⟩ := I.loc
 obtain ⟨u, r, l⟩ := hl i x v hN e hv
 have fin : EP X pins σ Q u s := ⟨v, H, I, r, h⟩
 rcases l with ⟨hk, hm⟩ | ⟨hk, c, hc, kX⟩
 . exact wpAny_Name (wpAny_loadName_local I.ok.kind hk hn hm fin) hd
 . rcases hk with hk | hk
   . exact wpAny_Name (wpAny_loadName_cell I.ok.kind hk hc kX fin) hd
   . exact wpAny_Name (wpAny_loadName_free I.ok.kind hk hc kX fin rH) hd
theorem af {i j pos} : PE X (.Constant (.int i) j pos) (tC (.int i)) := fun _ _ _ H _ I h => wpAny_Constant_int ⟨.int i, H, I.tok _, ⟨_, rfl⟩, h⟩
theorem ql {b j pos} : PE X (.Constant (.bool b) j pos) (tC (.bl b)) := fun _ _ _ H _ I h => Constant_bool ⟨.bl b, H, I, rfl, h⟩
theorem gS {j pos} : PE X (.Constant .none j pos) (tC .aZ) := fun _ _ _ H _ I h => Constant_none ⟨.aZ, H, I, rfl, h⟩
theorem ud {x j pos} : PE X (.Constant (.str x) j pos) (tC (.str x)) := fun _ _ _ H _ I h => Calls.Constant_str ⟨.str x, H, I.tok _, ⟨_, rfl⟩, h⟩
def Gl (X : Cx) (x : Str) : Prop := X.env.kindOf x = some .globalImplicit
theorem pW {E : Value -> Shared -> Prop} {pins : List (Addr × Obj)} {s : Shared} {σ : St} {H : Hp} {x : Str} {u : Value} {pos : Pos} {Q : Value -> Shared -> Prop} (I : Inv X pins σ H s) (hg : Gl X x) (hm : X.mg x = some u) (h : Q u s)
 (hd : (x == ("__debug__" : Str)) = false := by decide) : wpAny (model X.prog X.w) X.A (eval (.Name x pos) X.env) Q E s :=
 Calls.Name_function_global I.ok.kind hg (Calls.loadGlobal_global (by rw [I.ok.glob]; exact I.mod.glob.keeps I.bk) hm h) hd
theorem eV {E : Value -> Shared -> Prop} {pins : List (Addr × Obj)} {s : Shared} {σ : St} {H : Hp} {x : Str} {u : Value} {pos : Pos} {Q : Value -> Shared -> Prop} (I : Inv X pins σ H s) (hg : Gl X x) (hm : X.mg x = none) (hv : bootBuiltins x = some u) (h : Q u s)
 (hn : x ≠ "__name__" := by decide) (hd : (x == ("__debug__" : Str)) = false := by decide) : wpAny (model X.prog X.w) X.A (eval (.Name x pos) X.env) Q E s := by
 obtain ⟨mb, h1, h2⟩ := I.mod.blt
 exact Calls.Name_function_global I.ok.kind hg (Calls.loadGlobal_builtin (by rw [I.ok.glob]; exact I.mod.glob.keeps I.bk) hm (by rw [I.ok.blt]; exact h1.keeps I.bk) ((h2 x hn).trans hv) h) hd
theorem xo {x : Str} {v : V} {u : Value} {pos : Pos} (hg : Gl X x) (hm : X.mg x = some u) (r : RelV v u) (hd : (x == ("__debug__" : Str)) = false := by decide) : PE X (.Name x pos) (tC v) :=
 fun _ _ _ H _ I h => pW I hg hm ⟨v, H, I, r, h⟩ hd
variable {a b : Expr} {ta tb : TE} {pos : Pos}
variable {tA D6 : TT} {rest : List Expr}
def CY (t u : TT) : TT := fun σ H Q => t σ H fun c H1 => if c = true then u σ H1 Q else Q false H1
def HP (t u : TT) : TT := fun σ H Q => t σ H fun c H1 => if c = true then Q true H1 else u σ H1 Q
def Dk (t : TT) : TT := fun σ H Q => t σ H fun c H1 => Q (!c) H1
theorem pj (ha : PT X a tA) : PW X (.BoolOp .And [a] pos) tA := by
 intro wh pins s σ H Q I h
 refine isTrue_and (bF (ha pins s σ H Q I h) fun c s1 e => ?_)
 cases c with
 | true => exact isTrue_and_nil e
 | false => exact e
theorem sU (ha : PT X a tA) : PW X (.BoolOp .Or [a] pos) tA := by
 intro wh pins s σ H Q I h
 refine isTrue_or (bF (ha pins s σ H Q I h) fun c s1 e => ?_)
 cases c with
 | false => exact isTrue_or_nil e
 | true => exact e
theorem uJ (ha : PT X a tA) (hb : PW X (.BoolOp .And (b :: rest) pos) D6) : PW X (.BoolOp .And (a :: b :: rest) pos) (CY tA D6) := by
 intro wh pins s σ H Q I h
 refine isTrue_and (bF (ha pins s σ H _ I h) fun c s1 ⟨H1, I1, q1⟩ => ?_)
 cases c with
 | true => exact hb wh pins s1 σ H1 Q I1 q1
 | false => exact ⟨H1, I1, q1⟩
theorem yt (ha : PT X a tA) (hb : PW X (.BoolOp .Or (b :: rest) pos) D6) : PW X (.BoolOp .Or (a :: b :: rest) pos) (HP tA D6) := by
 intro wh pins s σ H Q I h
 refine isTrue_or (bF (ha pins s σ H _ I h) fun c s1 ⟨H1, I1, q1⟩ => ?_)
 cases c with
 | true => exact ⟨H1, I1, q1⟩
 | false => exact hb wh pins s1 σ H1 Q I1 q1
theorem zg (ha : PT X a tA) : PT X (.UnaryOp .Not a pos) (Dk tA) := by
 intro pins s σ H Q I h
 exact isTrue_not (ha pins s σ H (fun c H1 => Q (!c) H1) I h)
end
def bh (K : PySem.W.Frag) (H : Hp) (a : Addr) (xs : List V) : Prop :=
 Rd H a (.lst xs) \/
  ∃ (o : Obj) (az : Array Value) (n : Nat), K.lookup a = some o /\ o.cls = .type "list" /\ o.dict = none /\ o.data = .seq az n /\ az.size <= sizeLine /\ Vals xs az.toList
def mW (K : PySem.W.Frag) (H : Hp) (a : Addr) (xs : List V) : Prop :=
 Rd H a (.tup xs) \/
  ∃ (o : Obj) (az : Array Value) (n : Nat), K.lookup a = some o /\ o.cls = .type "tuple" /\ o.data = .seq az n /\ az.size <= sizeLine /\ Vals xs az.toList
def Fn : Value -> Option V
 | .none => some .aZ
 | .bool b => some (.bl b)
 | .int i _ => some (.int i)
 | .str x _ => some (.str x)
 | .bytes b _ => some (.qL b)
 | .float b _ => some (.BJ b)
 | .ref a => some (.ref a)
 | .type n => some (.ty n)
 | _ => none
theorem RelV.abs {x : V} {u : Value} (r : RelV x u) : Fn u = some x := by
 cases x with
 | aZ => cases r; rfl
 | bl _ => cases r; rfl
 | int _ => obtain ⟨t, rfl⟩ := r; rfl
 | str _ => obtain ⟨t, rfl⟩ := r; rfl
 | qL _ => obtain ⟨t, rfl⟩ := r; rfl
 | BJ _ => obtain ⟨t, rfl⟩ := r; rfl
 | ref _ => cases r; rfl
 | ty _ => cases r; rfl
theorem RelV.inj {x y : V} {u : Value} (r : RelV x u) (q : RelV y u) : x = y := Option.some.inj (r.abs.symm.trans q.abs)
theorem Vals.inj : ∀ {xs ys : List V} {us : List Value}, Vals xs us -> Vals ys us -> xs = ys
 | _, _, _, .nil, .nil => rfl
 | _, _, _, .cons r t, .cons r' t' => by rw [r.inj r', Vals.inj t t']
section
variable {X : Cx} {pins : List (Addr × Obj)} {σ : St} {H : Hp} {s : Shared} {a : Addr} {xs ys : List V}
theorem bh.of {K : PySem.W.Frag} (h : H a = some (.lst xs)) : bh K H a xs := .inl (.inl h)
theorem mW.of {K : PySem.W.Frag} (h : H a = some (.tup xs)) : mW K H a xs := .inl (.inl h)
theorem Inv.list (I : Inv X pins σ H s) (h : bh X.K H a xs) : ∃ az : List Value, Vals xs az /\ PlainL s.heap a az.toArray /\ xs.length <= sizeLine := by
 rcases h with h | ⟨o, az, n, hk, hc, hd, hs, hz, r⟩
 . obtain ⟨z, az, n, r, e⟩ := h.ok I.aQ
   exact ⟨az, r, ⟨_, n, e, rfl, rfl, rfl⟩, z⟩
 . refine ⟨az.toList, r, ⟨o, n, I.A5 a o hk, hc, hd, by simpa using hs⟩, ?_⟩
   have e := r.length
   simp only [Array.length_toList] at e
   omega
theorem Inv.tuple (I : Inv X pins σ H s) (h : mW X.K H a xs) : ∃ az : List Value, Vals xs az /\ IsTup s.heap a az.toArray /\ xs.length <= sizeLine := by
 rcases h with h | ⟨o, az, n, hk, hc, hs, hz, r⟩
 . obtain ⟨z, az, r, p⟩ := h.ok I.aQ
   exact ⟨az, r, p, z⟩
 . refine ⟨az.toList, r, ⟨o, I.A5 a o hk, hc, n, by simpa using hs⟩, ?_⟩
   have e := r.length
   simp only [Array.length_toList] at e
   omega
theorem Inv.ip (I : Inv X pins σ H s) (h : bh X.K H a xs) (h' : bh X.K H a ys) : xs = ys := by
 obtain ⟨az, r, ⟨o, n, e, _, _, d⟩, _⟩ := I.list h
 obtain ⟨its', r', ⟨o', n', e', _, _, d'⟩, _⟩ := I.list h'
 rw [e] at e'; cases e'
 rw [d] at d'
 injection d' with d1 _
 have : az = its' := by simpa using congrArg Array.toList d1
 subst this
 exact r.inj r'
end
abbrev Cx.kB (X : Cx) (E : Value -> Shared -> Prop) : Cx := { X with xe := E }
abbrev Cx.Eo (X : Cx) : Cx := X.kB fun _ _ => False
theorem Cx.Ok.kB {X : Cx} (ok : X.Ok) (E : Value -> Shared -> Prop) : (X.kB E).Ok :=
 ⟨ok.mod, ok.kind, ok.glob, ok.blt, ok.above, ok.inj, ok.has, ok.Bj, ok.hd, ok.frames, ok.DL, ok.BG, ok.bs, ok.vf, ok.qx, ok.qQ, ok.iF, ok.ya⟩
theorem Cx.Ok.fJ {X : Cx} {E : Value -> Shared -> Prop} (ok : (X.kB E).Ok) : X.Ok :=
 ⟨ok.mod, ok.kind, ok.glob, ok.blt, ok.above, ok.inj, ok.has, ok.Bj, ok.hd, ok.frames, ok.DL, ok.BG, ok.bs, ok.vf, ok.qx, ok.qQ, ok.iF, ok.ya⟩
section
variable {X : Cx} {pins : List (Addr × Obj)} {σ : St} {H : Hp} {s : Shared} {E : Value -> Shared -> Prop}
theorem Inv.kB (I : Inv X pins σ H s) (E : Value -> Shared -> Prop) : Inv (X.kB E) pins σ H s := ⟨I.ok.kB E, I.os, I.bare, I.base, I.loc, I.cell, I.free, I.dW, I.pin, I.aQ, I.len⟩
theorem Inv.fJ (I : Inv (X.kB E) pins σ H s) : Inv X pins σ H s := ⟨I.ok.fJ, I.os, I.bare, I.base, I.loc, I.cell, I.free, I.dW, I.pin, I.aQ, I.len⟩
theorem SP.fJ {D : Ends} {f : Flow} {s' : Shared} (h : SP (X.kB E) pins D f s') : SP X pins D f s' := by
 cases f with
 | next => obtain ⟨σ', H', I, q⟩ := h; exact ⟨σ', H', I.fJ, q⟩
 | brk => obtain ⟨σ', H', I, q⟩ := h; exact ⟨σ', H', I.fJ, q⟩
 | cont => obtain ⟨σ', H', I, q⟩ := h; exact ⟨σ', H', I.fJ, q⟩
 | ret u => obtain ⟨v, σ', H', I, r, q⟩ := h; exact ⟨v, σ', H', I.fJ, r, q⟩
theorem nM.Eo {st : List Stmt} {t : TS} (h : nM X.Eo st t) : nM X st t := fun pins s σ H D I hw =>
 wpAny_mono (h pins s σ H D (I.kB _) hw) (fun _ _ q => q.fJ) fun _ _ z => False.elim z
end
section
variable {X : Cx} {st : Stmt} {rest : List Stmt} {t u : TS} {e : Expr} {te : TE} {pos : Pos}
def x4 : TS := fun D σ H => D.nx σ H
theorem cI : nM X [] x4 := fun _ _ σ H _ I h => wpAny_execs_nil ⟨σ, H, I, h⟩
theorem ao (h1 : PS X st t) : nM X [st] t := by
 intro pins s σ H D I h
 refine wpAny_execs_cons (bF (h1 pins s σ H D I h) fun f s1 q => ?_)
 cases f with
 | next => exact wpAny_execs_nil q
 | ret v => exact q
 | brk => exact q
 | cont => exact q
theorem Inv.quiet {pins : List (Addr × Obj)} {σ : St} {H : Hp} {s : Shared} (I : Inv X pins σ H s) : interactive X.env = false := by simp [interactive, I.ok.kind]
def ym (te : TE) : TS := fun D σ H => te σ H fun _ H1 => D.nx σ H1
theorem f7 (he : PE X e te) (hs : swapsWith e none pos.line X.env = pure false := by rfl) : PS X (.Expr e pos) (ym te) := by
 intro pins s σ H D I h
 exact wpAny_Expr_any (bF (he pins s σ H _ I h) fun v s1 ⟨x, H1, I1, r1, q1⟩ => ⟨σ, H1, I1, q1⟩) I.quiet hs
def CW (te : TE) : TS := fun D σ H => te σ H D.rt
theorem aP (he : PE X e te) : PS X (.Return (some e) pos) (CW te) := by
 intro pins s σ H D I h
 exact wpAny_Return_some (bF (he pins s σ H _ I h) fun v s1 ⟨x, H1, I1, r1, q1⟩ => ⟨x, σ, H1, I1, r1, q1⟩)
def BM (c : TT) (t u : TS) : TS := fun D σ H => c σ H fun b H1 => if b = true then t D σ H1 else u D σ H1
theorem fB {c : Expr} {a b : List Stmt} {tc : TT} (hc : PT X c tc) (ha : nM X a t) (hb : nM X b u) : PS X (.If c a b pos) (BM tc t u) := by
 intro pins s σ H D I h
 refine wpAny_If (bF (hc pins s σ H _ I h) fun d s1 ⟨H1, I1, q1⟩ => ?_)
 cases d with
 | true => exact ha pins s1 σ H1 D I1 q1
 | false => exact hb pins s1 σ H1 D I1 q1
end
abbrev TG := V -> St -> Hp -> (St -> Hp -> Prop) -> Prop
abbrev sZ := List V -> St -> Hp -> (St -> Hp -> Prop) -> Prop
def PG (X : Cx) (target : Expr) (t : TG) : Prop :=
 ∀ (pins : List (Addr × Obj)) (s : Shared) (σ : St) (H : Hp) (v : V) (u : Value) (Q : St -> Hp -> Prop), Inv X pins σ H s -> RelV v u -> t v σ H Q ->
   wpAny (model X.prog X.w) X.A (assign target X.env u) (fun _ s' => ∃ σ' H', Inv X pins σ' H' s' /\ Q σ' H') X.xe s
def BD (X : Cx) (ts : List Expr) (t : sZ) : Prop :=
 ∀ (pins : List (Addr × Obj)) (s : Shared) (σ : St) (H : Hp) (vs : List V) (us : List Value) (Q : St -> Hp -> Prop), Inv X pins σ H s -> Vals vs us -> t vs σ H Q ->
   wpAny (model X.prog X.w) X.A (assignInOrder ((assignEach ts X.env).map (·.2)) us) (fun _ s' => ∃ σ' H', Inv X pins σ' H' s' /\ Q σ' H') X.xe s
abbrev wK := V -> V -> V -> Hp -> (Hp -> Prop) -> Prop
def Df (X : Cx) (t : wK) : Prop :=
 ∀ (pins : List (Addr × Obj)) (s : Shared) (σ : St) (H : Hp) (o i v : V) (ov iv u : Value) (Q : Hp -> Prop), Inv X pins σ H s -> RelV o ov -> RelV i iv -> RelV v u -> t o i v H Q ->
   wpAny (model X.prog X.w) X.A (setItem ov iv u) (fun _ s' => ∃ H', Inv X pins σ H' s' /\ Q H') X.xe s
section
variable {X : Cx} {pos : Pos}
def di (i : Nat) : TG := fun v σ H Q => Q (σ.set i (some v)) H
theorem aq {i : Nat} {x : Str} (hN : X.N.Nodup) (hi : X.N[i]? = some x) (hx : Loc X.env.scope x) (hf : X.fn x = true \/ X.env.scope.names.lookup x = some .local := by first | exact .inl rfl | exact .inr rfl | assumption) : PG X (.Name x pos) (di i) := by
 intro pins s σ H v u Q I r h
 exact wpAny_assign_Name (nj I hN hi hx r (fun s' I' => ⟨_, H, I', h⟩) hf)
def tj : sZ := fun vs σ H Q => vs = [] /\ Q σ H
def gy (t : TG) (u : sZ) : sZ := fun vs σ H Q => ∃ v r, vs = v :: r /\ t v σ H fun σ' H' => u r σ' H' Q
theorem cf : BD X [] tj := by
 intro pins s σ H vs us Q I r h
 obtain ⟨e, h⟩ := h
 subst e
 cases r
 exact assignInOrder_nil ⟨σ, H, I, h⟩
theorem av {e : Expr} {es : List Expr} {t : TG} {u : sZ} (h1 : PG X e t) (h2 : BD X es u)
 (hs : (assignEach (e :: es) X.env).map (·.2) = assign e X.env :: (assignEach es X.env).map (·.2) := by rfl) : BD X (e :: es) (gy t u) := by
 intro pins s σ H vs us Q I r h
 obtain ⟨v, vr, e1, h⟩ := h
 subst e1
 cases r with
 | cons r rr =>
   rw [hs]
   refine assignInOrder_cons (bF (h1 pins s σ H _ _ _ I r h) fun _ s1 ⟨σ1, H1, I1, q1⟩ => ?_)
   exact h2 pins s1 σ1 H1 _ _ Q I1 rr q1
def qD (K : PySem.W.Frag) (n : Nat) (t : sZ) : TG := fun v σ H Q => ∃ a xs, v = .ref a /\ mW K H a xs /\ xs.length = n /\ t xs σ H Q
theorem gP {es : List Expr} {k : Nat} {t : sZ} {n : Nat} (hc : X.calm = true) (h : BD X es t)
 (hn : (assignEach es X.env).length = n := by rfl) (yw : (assignEach es X.env).findIdx? (·.1) = none := by rfl) : PG X (.Tuple es k pos) (qD X.K n t) := by
 intro pins s σ H v u Q I r hw
 obtain ⟨a, xs, e1, hq, hl, hw⟩ := hw
 subst e1
 cases r
 obtain ⟨az, rv, ht, hz⟩ := I.tuple hq
 refine assign_Tuple_tuple (I.ok.hd hc) ht (by simp [hn, <- hl, rv.length]) yw fun h' hx => ?_
 have I1 : Inv X pins σ H { s with heap := h' } := I.kept (t' := s.toks) fun b o e => hx b o (Nat.ne_of_lt (Heap.lt_size e)) e
 exact h pins _ σ H xs _ Q I1 (by simpa using rv) hw
def DH (to ti : TE) (t : wK) : TG := fun v σ H Q => to σ H fun o H1 => ti σ H1 fun i H2 => t o i v H2 fun H3 => Q σ H3
theorem zI {o i : Expr} {to ti : TE} {t : wK} (ho : PE X o to) (hi : PE X i ti) (hs : Df X t)
 (ha : ∀ v, assign (.Subscript o i pos) X.env v = (do
  let ov <- holding [v] (eval o X.env)
  let iv <- holding [v, ov] (eval i X.env)
  standAt pos
  holding [v, ov, iv] (setItem ov iv v)
  release [v, ov, iv] []) := by intro _; rfl) : PG X (.Subscript o i pos) (DH to ti t) := by
 intro pins s σ H v u Q I r h
 rw [ha]
 refine wpAny_bind (wpAny_holding (bF (ho pins s σ H _ I h) fun ov s1 ⟨x, H1, I1, r1, q1⟩ => ?_))
 refine wpAny_bind (wpAny_holding (bF (hi pins s1 σ H1 _ I1 q1) fun iv s2 ⟨y, H2, I2, r2, q2⟩ => ?_))
 refine wpAny_bind (wpAny_standAt (wpAny_bind (wpAny_holding (bF (hs pins s2 σ H2 x y v ov iv u _ I2 r1 r2 r q2) fun _ s3 ⟨H3, I3, q3⟩ => ?_))))
 exact wpAny_release ⟨σ, H3, I3, q3⟩
def sF (te : TE) (g : TG) : TS := fun D σ H => te σ H fun x H1 => g x σ H1 D.nx
theorem zj {tg e : Expr} {te : TE} {g : TG} (he : PE X e te) (hg : PG X tg g) (hs : swapsWithSole [tg] e pos.line X.env = pure false := by rfl) (hw : swappedStores [tg] e X.env = pure none := by rfl)
 (h1 : (assignEach [tg] X.env).map (·.2) = [assign tg X.env] := by rfl) : PS X (.Assign [tg] e pos) (sF te g) := by
 intro pins s σ H D I h
 refine wpAny_Assign_stores (bF (he pins s σ H _ I h) fun v s1 ⟨x, H1, I1, r1, q1⟩ => ?_) hs hw
 rw [h1]
 exact bF (hg pins s1 σ H1 x v _ I1 r1 q1) fun _ s2 q => q
theorem au {i : Nat} {x : Str} {e : Expr} {te : TE} {pos' : Pos} (hN : X.N.Nodup) (hi : X.N[i]? = some x) (hx : Loc X.env.scope x) (he : PE X e te) (hs : swapsWith e (some (.Name x pos')) pos.line X.env = pure false := by rfl) (hf : X.fn x = true \/ X.env.scope.names.lookup x = some .local := by first | exact .inl rfl | exact .inr rfl | assumption) :
 PS X (.Assign [.Name x pos'] e pos) (sF te (di i)) := by
 intro pins s σ H D I h
 refine wpAny_Assign_Name (bF (he pins s σ H _ I h) fun v s1 ⟨y, H1, I1, r1, q1⟩ => ?_) hs
 exact nj I1 hN hi hx r1 (fun s2 I2 => ⟨_, H1, I2, q1⟩) hf
end
section
variable {X : Cx} {pos : Pos}
def sJ (c : TT) (tb : TS) : TS := fun D σ H => ∃ W : Nat -> St -> Hp -> Prop, (∃ m, W m σ H) /\ ∀ m σ H, W m σ H ->
 c σ H fun b H1 => if b = true then ∃ N : St -> Hp -> Prop, (∀ σ' H', N σ' H' -> ∃ m', m' < m /\ W m' σ' H') /\ tb { D with nx := N, ct := N, bk := D.nx } σ H1 else D.nx σ H1
theorem mZ {c : Expr} {body : List Stmt} {tc : TT} {tb : TS} (hp : PassesOwn (model X.prog X.w) X.A X.env X.xe) (hc : PT X c tc) (hb : nM X body tb) : PS X (.While c body [] pos) (sJ tc tb) := by
 intro pins s σ H D I h
 obtain ⟨W, ⟨m0, w0⟩, turn⟩ := h
 refine wpAny_While (codeAny_whileLoop (fun n s' => ∃ σ' H', Inv X pins σ' H' s' /\ W n σ' H') ?_ m0 ⟨σ, H, I, w0⟩)
 rintro n s1 ⟨σ1, H1, I1, w1⟩
 refine wpAny_passesOwn hp (bF (hc pins s1 σ1 H1 _ I1 (turn n σ1 H1 w1)) fun b s2 ⟨H2, I2, q2⟩ => ?_)
 cases b with
 | true =>
   obtain ⟨N, hN, q2⟩ := q2
   rw [if_pos rfl]
   refine wpAny_passesOwn hp (bF (hb pins s2 σ1 H2 _ I2 q2) fun f s3 q3 => ?_)
   cases f with
   | next =>
     obtain ⟨σ3, H3, I3, n3⟩ := q3
     obtain ⟨m', hm, w3⟩ := hN σ3 H3 n3
     exact ⟨m', hm, σ3, H3, I3, w3⟩
   | cont =>
     obtain ⟨σ3, H3, I3, n3⟩ := q3
     obtain ⟨m', hm, w3⟩ := hN σ3 H3 n3
     exact ⟨m', hm, σ3, H3, I3, w3⟩
   | brk => exact q3
   | ret v => exact q3
 | false =>
   rw [if_neg Bool.false_ne_true]
   exact wpAny_execs_nil ⟨σ1, H2, I2, q2⟩
end
structure It where
 go : Nat -> Hp -> Prop
 wo : Nat -> Hp -> V -> Hp -> Prop
 stop : Nat -> Hp -> Prop
def cv (X : Cx) (pins : List (Addr × Obj)) (H : Hp) (b : Addr) : Prop :=
 H b = none /\ b ≠ X.env.locals /\ b ∉ X.fs /\ (b ∈ X.ex \/ X.cA.heap.objs.size <= b) /\ (∀ x c, X.env.cells.lookup x = some c -> c ≠ b) /\ ∀ p ∈ X.pn ++ pins, p.1 ≠ b
theorem Inv.jJ {X : Cx} {pins : List (Addr × Obj)} {σ : St} {H H' : Hp} {s : Shared} {b : Addr} (I : Inv X pins σ H s) (hb : s.heap.objs.size <= b) (hn : H' b = none) : cv X pins H' b := by
 refine ⟨hn, Nat.ne_of_gt (Nat.lt_of_lt_of_le I.lt hb), I.Ew hb, .inr (Nat.le_trans I.sz hb), fun x c e z => ?_, fun p hp z => ?_⟩
 . obtain ⟨v, q⟩ := I.cell x c e
   exact absurd (Nat.lt_of_lt_of_le q.lt (by rw [z]; exact hb)) (Nat.lt_irrefl _)
 . exact absurd (Nat.lt_of_lt_of_le (Heap.lt_size (I.pin p hp).1) (by rw [z]; exact hb)) (Nat.lt_irrefl _)
structure Turn (P : Program) (w : World) (K : PySem.W.Frag) (tg : Expr) (J : It) (fp : List Addr) (it : Addr) (tn : Nat -> Heap -> Prop) : Prop where
 mem : it ∈ fp
 obj : ∀ i h, tn i h -> ∀ b ∈ fp, ∃ o, h.get? b = some o /\ ∀ v, o.data ≠ .cell v
 keep : ∀ i h h', tn i h -> (∀ b ∈ fp, ∀ o, h.get? b = some o -> h'.get? b = some o) -> tn i h'
 item : ∀ (X : Cx), X.prog = P -> X.w = w -> X.K = K -> X.calm = true -> ∀ (i : Nat) (pins : List (Addr × Obj)) (s : Shared) (σ : St) (H : Hp) (E : Value -> Shared -> Prop), Inv X pins σ H s -> (∀ b ∈ fp, cv X pins H b) -> tn i s.heap -> J.go i H ->
  wpAny (model P w) X.A (pyNext (.ref it)) (fun r s1 => ∃ u, r = some u /\
   wpAny (model P w) X.A (letOwnedTupleGo tg (.ref it) u) (fun _ s2 => ∃ x H', Inv X pins σ H' s2 /\ RelV x u /\ J.wo i H x H' /\ tn (i + 1) s2.heap /\ ∀ b ∈ fp, H' b = none) E s1) E s
 done : ∀ (X : Cx), X.prog = P -> X.w = w -> X.K = K -> X.calm = true -> ∀ (i : Nat) (pins : List (Addr × Obj)) (s : Shared) (σ : St) (H : Hp) (E : Value -> Shared -> Prop), Inv X pins σ H s -> (∀ b ∈ fp, cv X pins H b) -> tn i s.heap -> J.stop i H ->
  wpAny (model P w) X.A (pyNext (.ref it)) (fun r s1 => r = none /\ Inv X pins σ H s1) E s
 self : ∀ (A : Around) (i : Nat) (s : Shared) (Q : Value -> Shared -> Prop) (E : Value -> Shared -> Prop), tn i s.heap -> Q (.ref it) s -> wpAny (model P w) A (pyIter (.ref it)) Q E s
abbrev TI := St -> Hp -> (It -> Hp -> Prop) -> Prop
def IB (X : Cx) (pins : List (Addr × Obj)) (σ : St) (tg : Expr) (R : It -> Hp -> Prop) (Eh : Value) (s2 : Shared) : Prop :=
 ∃ (it : Addr) (fp : List Addr) (tn : Nat -> Heap -> Prop) (J : It) (H' : Hp), Eh = .ref it /\ Inv X pins σ H' s2 /\ Turn X.prog X.w X.K tg J fp it tn /\ tn 0 s2.heap /\ (∀ b ∈ fp, cv X pins H' b) /\ R J H'
def PI (X : Cx) (tg iter : Expr) (wi : TI) : Prop :=
 ∀ (pins : List (Addr × Obj)) (s : Shared) (σ : St) (H : Hp) (R : It -> Hp -> Prop), Inv X pins σ H s -> wi σ H R ->
   wpAny (model X.prog X.w) X.A (eval iter X.env) (fun v s1 => wpAny (model X.prog X.w) X.A (pyIter v) (IB X pins σ tg R) X.xe s1) X.xe s
theorem yq {M : Model} {A : Around} {E : Value -> Shared -> Prop} {s : Shared} {tg : Expr} {it : Addr} {u : Value} {o : Obj} {n : String} {vs : Array Value} {Q : Unit -> Shared -> Prop} (ho : s.heap.get? it = some o) (hc : o.cls = .type n) (hd : o.data = .fields vs)
 (hn : ["enumerate", "zip", "dict_itemiterator", "dict_reverseitemiterator", "odict_iterator", "itertools.zip_longest", "itertools.pairwise"].contains n = false) (hQ : Q () s) : wpAny M A (letOwnedTupleGo tg (.ref it) u) Q E s := by
 unfold letOwnedTupleGo
 cases tg <;> first
  | exact wpAny_pure hQ
  | (cases u <;> first
   | exact wpAny_pure hQ
   | (refine wpAny_bind (wpAny_load ho ?_)
      rw [hc, hd]
      show wpAny M A (if (["enumerate", "zip", "dict_itemiterator", "dict_reverseitemiterator", "odict_iterator", "itertools.zip_longest", "itertools.pairwise"].contains n && vs[0]? == some (rawInt _)) = true then _ else _) Q E s
      rw [if_neg (by intro h; rw [hn, Bool.false_and] at h; cases h)]
      exact wpAny_pure hQ))
def u9 (K : PySem.W.Frag) (a : Addr) : It :=
 ⟨fun i H => ∃ xs x, bh K H a xs /\ xs[i]? = some x, fun i H x H' => H' = H /\ ∀ xs, bh K H a xs -> xs[i]? = some x, fun i H => ∃ xs, bh K H a xs /\ xs.length <= i⟩
def wL (lo : Int) (n : Nat) : It := ⟨fun i _ => i < n, fun i H x H' => H' = H /\ x = .int (lo + i), fun i _ => n <= i⟩
theorem qC {P : Program} {w : World} {K : PySem.W.Frag} {tg : Expr} (a it : Addr) : Turn P w K tg (u9 K a) [it] it (fun i h => h.IsListIter it a i) where
 mem := by simp
 obj := fun i h st b hb => by
  have e : b = it := by simpa using hb
  subst e
  obtain ⟨o, e, c, d⟩ := st
  exact ⟨o, e, fun v z => by rw [d] at z; cases z⟩
 keep := fun i h h' st k => st.at fun o e => k it (by simp) o e
 item := by
  intro X hP hw hK hc i pins s σ H E I hf st hg
  subst hP hw hK
  obtain ⟨xs, x, hq, hx⟩ := hg
  obtain ⟨az, rv, p, hz⟩ := I.list hq
  obtain ⟨u, hu, ru⟩ := rv.get hx
  obtain ⟨f0, f1, f2, f3, f4, f5⟩ := hf it (by simp)
  refine wpAny_pyNext_list_item st p.isList (x := u) (by simpa using hu) fun h' u0 sb => ?_
  have I1 : Inv X pins σ H { s with heap := h' } := I.turned (t' := s.toks) (fun b o hb e => (sb.2 b hb).trans e) f0 f1 f3 f4 f5
  obtain ⟨o, e, c, d⟩ := id u0
  exact ⟨u, rfl, yq (s := { s with heap := h' }) e c d (by decide) ⟨x, H, I1, ru, ⟨rfl, fun ys hy => by rw [I.ip hy hq]; exact hx⟩, u0, fun b hb => (hf b hb).1⟩⟩
 done := by
  intro X hP hw hK hc i pins s σ H E I hf st hg
  subst hP hw hK
  obtain ⟨xs, hq, hx⟩ := hg
  obtain ⟨az, rv, p, hz⟩ := I.list hq
  obtain ⟨f0, f1, f2, f3, f4, f5⟩ := hf it (by simp)
  have hl := rv.length
  exact wpAny_pyNext_list_end (I.ok.hd hc) st p.isList (by simp; omega) fun h' eb => ⟨rfl, I.turned (t' := s.toks) (fun b o hb e => eb b o hb e) f0 f1 f3 f4 f5⟩
 self := fun _ _ _ _ _ st h => wpAny_pyIter_listiter st h
theorem oH {P : Program} {w : World} {K : PySem.W.Frag} {tg : Expr} (it : Addr) (lo : Int) (n : Nat) : Turn P w K tg (wL lo n) [it] it (fun i h => IsRangeIter h it (lo + (i : Nat) * 1) ((n : Int) - (i : Nat)) 1) where
 mem := by simp
 obj := fun i h st b hb => by
  have e : b = it := by simpa using hb
  subst e
  exact ⟨_, st, fun v z => by
   have z' : Data.fields _ = Data.cell v := z
   cases z'⟩
 keep := fun i h h' st k => k it (by simp) _ st
 item := by
  intro X hP hw hK hc i pins s σ H E I hf st hg
  subst hP hw hK
  obtain ⟨f0, f1, f2, f3, f4, f5⟩ := hf it (by simp)
  have W := Walks.range (prog := X.prog) (w := X.w) (I.ok.hd hc) it lo 1 n
  refine W.item i s _ _ hg st fun v h' tk hv u0 kk => ?_
  obtain ⟨t, rfl⟩ := hv
  have I1 : Inv X pins σ H { s with heap := h', toks := tk } := I.turned (fun b o hb e => kk b o (by simpa using hb) e) f0 f1 f3 f4 f5
  refine ⟨_, rfl, yq (s := { s with heap := h', toks := tk }) (n := "range_iterator") u0 rfl rfl (by decide) ⟨.int (lo + i), H, I1, ⟨t, ?_⟩, ⟨rfl, rfl⟩, u0, fun b hb => (hf b hb).1⟩⟩
  rw [Int.mul_one]
 done := by
  intro X hP hw hK hc i pins s σ H E I hf st hg
  subst hP hw hK
  obtain ⟨f0, f1, f2, f3, f4, f5⟩ := hf it (by simp)
  exact wpAny_pyNext_range_end (I.ok.hd hc) st (by have : n <= i := hg; omega) fun h' eb => ⟨rfl, I.turned (t' := s.toks) (fun b o hb e => eb b o hb e) f0 f1 f3 f4 f5⟩
 self := fun _ _ _ _ _ st h => wpAny_pyIter_rangeiter st h
section
variable {X : Cx} {tg : Expr}
def su (K : PySem.W.Frag) (tl : TE) : TI := fun σ H R => tl σ H fun x H1 => ∃ a, x = .ref a /\ (∃ xs, bh K H1 a xs) /\ R (u9 K a) H1
theorem bp {l : Expr} {tl : TE} (hl : PE X l tl) : PI X tg l (su X.K tl) := by
 intro pins s σ H R I h
 refine bF (hl pins s σ H _ I h) fun v s1 ⟨x, H1, I1, r1, q1⟩ => ?_
 obtain ⟨a, e, ⟨xs, hq⟩, q⟩ := q1
 subst e
 cases r1
 obtain ⟨az, rv, p, hz⟩ := I1.list hq
 refine wpAny_pyIter_list p.isList ?_
 refine ⟨s1.heap.objs.size, [s1.heap.objs.size], _, _, H1, rfl, I1.kept (t' := s1.toks) fun b o e => Heap.get?_push_of_some _ e, qC a _, ⟨_, Heap.get?_push_size _ rfl, rfl, rfl⟩, fun b hb => ?_, q⟩
 have e : b = s1.heap.objs.size := by simpa using hb
 subst e
 exact I1.jJ (Nat.le_refl _) (I1.aQ.fresh (Nat.le_refl _))
theorem uA {pins : List (Addr × Obj)} {σ : St} {H : Hp} {s : Shared} {R : It -> Hp -> Prop} {E : Value -> Shared -> Prop} {lo hi : Int} {t u v : Tok} {tk : Nat} (I : Inv X pins σ H s) (h1 : -(2 ^ 62) <= lo) (h2 : lo < 2 ^ 62) (h3 : -(2 ^ 62) <= hi) (h4 : hi < 2 ^ 62)
 (q : R (wL lo (hi - lo).toNat) H) : wpAny (model X.prog X.w) X.A (pyIter (.ref s.heap.objs.size)) (IB X pins σ tg R) E { s with heap := s.heap.push { cls := .type "range", data := .fields #[.int lo t, .int hi u, .int 1 v] }, toks := tk } := by
 refine wpAny_pyIter_range (IsRange.new ..) (small_one h1 h2 h3 h4) ?_
 have I1 : Inv X pins σ H { s with heap := s.heap.push { cls := .type "range", data := .fields #[.int lo t, .int hi u, .int 1 v] }, toks := tk } := I.kept fun b o e => Heap.get?_push_of_some _ e
 refine ⟨(s.heap.push { cls := .type "range", data := .fields #[.int lo t, .int hi u, .int 1 v] }).objs.size, [(s.heap.push { cls := .type "range", data := .fields #[.int lo t, .int hi u, .int 1 v] }).objs.size], _, _, H, rfl,
  I1.kept (t' := tk) fun b o e => Heap.get?_push_of_some _ e, oH _ lo (hi - lo).toNat, ?_, fun b hb => ?_, q⟩
 . have e1 : lo + ((0 : Nat) : Int) * 1 = lo := by simp
   have e2 : (((hi - lo).toNat : Nat) : Int) - ((0 : Nat) : Int) = Builtin.Range.rangeSize lo hi 1 := by rw [rangeSize_one]; split <;> omega
   show IsRangeIter _ _ (lo + ((0 : Nat) : Int) * 1) ((((hi - lo).toNat : Nat) : Int) - ((0 : Nat) : Int)) 1
   rw [e1, e2]
   exact Heap.get?_push_size _ rfl
 . have e : b = (s.heap.push { cls := .type "range", data := .fields #[.int lo t, .int hi u, .int 1 v] }).objs.size := by simpa using hb
   subst e
   exact I1.jJ (Nat.le_refl _) (I1.aQ.fresh (Nat.le_refl _))
def xZ (ta : TA) : TI := fun σ H R => ta σ H fun vs H1 => ∃ j : Int, vs = [.int j] /\ -(2 ^ 62) <= j /\ j < 2 ^ 62 /\ R (wL 0 j.toNat) H1
theorem fV {a : Expr} {ta : TA} {p pos : Pos} (hg : Gl X "range") (hm : X.mg "range" = none) (ha : PA X [a] ta) (hs : starEach [a] X.env = [(false, eval a X.env)] := by rfl) : PI X tg (.Call (.Name "range" p) [a] [] pos) (xZ ta) := by
 intro pins s σ H R I h
 refine Call_ (eV I hg hm boot_range (PyProof.Rows.callWith_type1 (bF (ha pos pins s σ H _ I h) fun us s1 ⟨vs, H1, I1, r1, q1⟩ => ?_) hs rfl))
 obtain ⟨j, e, q1, q2, q⟩ := q1
 subst e
 cases r1 with
 | cons r rr =>
   cases rr
   obtain ⟨t, rfl⟩ := r
   exact call_range_1 (uA I1 (by omega) (by omega) q1 q2 (by simpa using q))
def uP (wi : TI) (g : TG) (tb : TS) : TS := fun D σ H => wi σ H fun J H1 => ∃ W : Nat -> Nat -> St -> Hp -> Prop, (∃ m, W 0 m σ H1) /\ ∀ i m σ H, W i m σ H ->
 (J.stop i H /\ D.nx σ H) \/ (J.go i H /\ ∃ N : St -> Hp -> Prop, (∀ σ' H', N σ' H' -> ∃ m', m' < m /\ W (i + 1) m' σ' H') /\ ∀ x H', J.wo i H x H' -> g x σ H' fun σ2 H2 => tb { D with nx := N, ct := N, bk := D.nx } σ2 H2)
def jI (fp : List Addr) (h : Heap) : List (Addr × Obj) := fp.filterMap fun b => (h.get? b).map fun o => (b, o)
theorem eI {fp : List Addr} {h : Heap} {b : Addr} {o : Obj} (hb : b ∈ fp) (e : h.get? b = some o) : (b, o) ∈ jI fp h := List.mem_filterMap.mpr ⟨b, hb, by rw [e]; rfl⟩
theorem rh {fp : List Addr} {h : Heap} {p : Addr × Obj} (hp : p ∈ jI fp h) : p.1 ∈ fp /\ h.get? p.1 = some p.2 := by
 obtain ⟨b, hb, e⟩ := List.mem_filterMap.mp hp
 cases q : h.get? b with
 | none => rw [q] at e; cases e
 | some o =>
   rw [q] at e
   have e' : (b, o) = p := Option.some.inj e
   subst e'
   exact ⟨hb, q⟩
theorem Inv.pinned {pins : List (Addr × Obj)} {σ : St} {H : Hp} {s : Shared} {fp : List Addr} (I : Inv X pins σ H s) (hf : ∀ b ∈ fp, cv X pins H b) (ho : ∀ b ∈ fp, ∃ o, s.heap.get? b = some o /\ ∀ v, o.data ≠ .cell v) : Inv X (pins ++ jI fp s.heap) σ H s :=
 I.gb fun p hp => (List.mem_append.mp hp).elim (fun z => I.pin p (List.mem_append_right _ z)) fun z => by
  obtain ⟨hb, e⟩ := rh z
  obtain ⟨f0, f1, f2, _⟩ := hf p.1 hb
  obtain ⟨o, e', d⟩ := ho p.1 hb
  rw [e] at e'; cases e'
  exact ⟨e, f0, f1, f2, d⟩
theorem Inv.il {pins pl : List (Addr × Obj)} {σ : St} {H : Hp} {s : Shared} (I : Inv X (pins ++ pl) σ H s) : Inv X pins σ H s := I.gb fun p hp => I.pin p (List.mem_append_right _ (List.mem_append_left _ hp))
theorem cH {iter : Expr} {body : List Stmt} {wi : TI} {g : TG} {tb : TS} {pos : Pos} (hp : PassesOwn (model X.prog X.w) X.A X.env X.xe) (hc : X.calm = true) (hi : PI X tg iter wi) (hg : PG X tg g) (hb : nM X body tb)
 (hs : ∀ x, foldedSetIterable iter X.env x = pure x := by intro _; rfl) : PS X (.For tg iter body [] pos) (uP wi g tb) := by
 intro pins s σ H D I h
 refine wpAny_For (bF (hi pins s σ H _ I h) fun v s1 h1 => bF h1 fun Eh s2 h2 => ?_) hs
 obtain ⟨it, fp, tn, J, H2, e, I2, T, Jg, f2, W, ⟨m0, w0⟩, turn⟩ := h2
 subst e
 have stat : ∀ {H' : Hp}, (∀ b ∈ fp, H' b = none) -> ∀ b ∈ fp, cv X pins H' b := fun hn b hb => ⟨hn b hb, (f2 b hb).2⟩
 refine codeAny_forLoop_any (fun n s' => ∃ i σ' H', Inv X pins σ' H' s' /\ tn i s'.heap /\ (∀ b ∈ fp, H' b = none) /\ W i n σ' H') ?_ m0 ⟨0, σ, H2, I2, Jg, fun b hb => (f2 b hb).1, w0⟩
 rintro n s3 ⟨i, σ3, H3, I3, CO, Du, w3⟩
 rcases turn i n σ3 H3 w3 with ⟨stop, qn⟩ | ⟨go, N, hN, step⟩
 . refine wpAny_passesOwn hp (bF (T.done X rfl rfl rfl hc i pins s3 σ3 H3 X.xe I3 (stat Du) CO stop) fun r s4 ⟨hr, I4⟩ => ?_)
   subst hr
   exact wpAny_execs_nil ⟨σ3, H3, I4, qn⟩
 . refine wpAny_passesOwn hp (bF (T.item X rfl rfl rfl hc i pins s3 σ3 H3 X.xe I3 (stat Du) CO go) fun r s4 ⟨u, hr, h4⟩ => ?_)
   subst hr
   refine wpAny_passesOwn hp (bF h4 fun _ s5 ⟨x, H5, I5, r5, y5, zl, Gr⟩ => ?_)
   have FI := I5.pinned (stat Gr) (T.obj _ _ zl)
   refine wpAny_passesOwn hp (bF (hg _ s5 σ3 H5 x u _ FI r5 (step x H5 y5)) fun _ s6 ⟨σ6, H6, I6, q6⟩ => ?_)
   refine wpAny_passesOwn hp (bF (hb _ s6 σ6 H6 _ I6 q6) fun f s7 q7 => ?_)
   have again : ∀ {σ7 : St} {H7 : Hp}, Inv X (pins ++ jI fp s5.heap) σ7 H7 s7 -> N σ7 H7 -> ∃ m, m < n /\ ∃ i σ' H', Inv X pins σ' H' s7 /\ tn i s7.heap /\ (∀ b ∈ fp, H' b = none) /\ W i m σ' H' := fun {σ7 H7} I7 n7 => by
    obtain ⟨m', hm, w7⟩ := hN σ7 H7 n7
    refine ⟨m', hm, i + 1, σ7, H7, I7.il, T.keep _ _ _ zl fun b hb o e => (I7.pin (b, o) (List.mem_append_right _ (List.mem_append_right _ (eI hb e)))).1, fun b hb => ?_, w7⟩
    obtain ⟨o, e, d⟩ := T.obj _ _ zl b hb
    exact (I7.pin (b, o) (List.mem_append_right _ (List.mem_append_right _ (eI hb e)))).2.1
   cases f with
   | next => obtain ⟨σ7, H7, I7, n7⟩ := q7; exact again I7 n7
   | cont => obtain ⟨σ7, H7, I7, n7⟩ := q7; exact again I7 n7
   | brk => obtain ⟨σ7, H7, I7, q7⟩ := q7; exact ⟨σ7, H7, I7.il, q7⟩
   | ret v => obtain ⟨x7, σ7, H7, I7, r7, q7⟩ := q7; exact ⟨x7, σ7, H7, I7.il, r7, q7⟩
end
theorem sS {K : PySem.W.Frag} {a : Addr} {xs : List V} {g : TG} {tb : TS} {D : Ends} {σ : St} {H : Hp} (Pv : Nat -> St -> Hp -> Prop) (h0 : Pv 0 σ H) (hl : ∀ i σ H, i <= xs.length -> Pv i σ H -> bh K H a xs)
 (hs : ∀ i x σ H, xs[i]? = some x -> Pv i σ H -> g x σ H fun σ2 H2 => tb { D with nx := Pv (i + 1), ct := Pv (i + 1), bk := D.nx } σ2 H2) (hd : ∀ σ H, Pv xs.length σ H -> D.nx σ H) :
 ∃ W : Nat -> Nat -> St -> Hp -> Prop, (∃ m, W 0 m σ H) /\ ∀ i m σ H, W i m σ H ->
   ((u9 K a).stop i H /\ D.nx σ H) \/ ((u9 K a).go i H /\ ∃ N : St -> Hp -> Prop, (∀ σ' H', N σ' H' -> ∃ m', m' < m /\ W (i + 1) m' σ' H') /\ ∀ x H', (u9 K a).wo i H x H' -> g x σ H' fun σ2 H2 => tb { D with nx := N, ct := N, bk := D.nx } σ2 H2) := by
 refine ⟨fun i m σ H => m = xs.length - i /\ i <= xs.length /\ Pv i σ H, ⟨xs.length, by simp, Nat.zero_le _, h0⟩, ?_⟩
 rintro i m σ H ⟨rfl, hi, p⟩
 have q := hl i σ H hi p
 by_cases cq : i < xs.length
 . refine .inr ⟨⟨xs, xs[i], q, by simp [cq]⟩, Pv (i + 1), fun σ' H' p' => ⟨xs.length - (i + 1), by omega, rfl, cq, p'⟩, fun x H' y => ?_⟩
   obtain ⟨e, y⟩ := y
   subst e
   exact hs i x σ _ (y xs q) p
 . have e : i = xs.length := by omega
   subst e
   exact .inl ⟨⟨xs, q, Nat.le_refl _⟩, hd σ H p⟩
theorem fY {lo : Int} {n : Nat} {g : TG} {tb : TS} {D : Ends} {σ : St} {H : Hp} (Pv : Nat -> St -> Hp -> Prop) (h0 : Pv 0 σ H)
 (hs : ∀ i σ H, i < n -> Pv i σ H -> g (.int (lo + i)) σ H fun σ2 H2 => tb { D with nx := Pv (i + 1), ct := Pv (i + 1), bk := D.nx } σ2 H2) (hd : ∀ σ H, Pv n σ H -> D.nx σ H) :
 ∃ W : Nat -> Nat -> St -> Hp -> Prop, (∃ m, W 0 m σ H) /\ ∀ i m σ H, W i m σ H ->
   ((wL lo n).stop i H /\ D.nx σ H) \/ ((wL lo n).go i H /\ ∃ N : St -> Hp -> Prop, (∀ σ' H', N σ' H' -> ∃ m', m' < m /\ W (i + 1) m' σ' H') /\ ∀ x H', (wL lo n).wo i H x H' -> g x σ H' fun σ2 H2 => tb { D with nx := N, ct := N, bk := D.nx } σ2 H2) := by
 refine ⟨fun i m σ H => m = n - i /\ i <= n /\ Pv i σ H, ⟨n, by simp, Nat.zero_le _, h0⟩, ?_⟩
 rintro i m σ H ⟨rfl, hi, p⟩
 by_cases cq : i < n
 . refine .inr ⟨cq, Pv (i + 1), fun σ' H' p' => ⟨n - (i + 1), by omega, rfl, cq, p'⟩, fun x H' y => ?_⟩
   obtain ⟨e, y⟩ := y
   subst e y
   exact hs i σ _ cq p
 . have e : i = n := by omega
   subst e
   exact .inl ⟨Nat.le_refl _, hd σ H p⟩
abbrev R2 := V -> V -> Hp -> VK -> Prop
def gf (X : Cx) (f : Value -> Value -> Sem Value) (r : R2) : Prop :=
 ∀ (pins : List (Addr × Obj)) (s : Shared) (σ : St) (H : Hp) (x y : V) (v u : Value) (Q : VK), Inv X pins σ H s -> RelV x v -> RelV y u -> r x y H Q ->
   wpAny (model X.prog X.w) X.A (f v u) (EP X pins σ Q) X.xe s
def dX (X : Cx) (f : Value) (r : List V -> Hp -> VK -> Prop) : Prop :=
 ∀ (pins : List (Addr × Obj)) (s : Shared) (σ : St) (H : Hp) (xs : List V) (us : List Value) (Q : VK), Inv X pins σ H s -> Vals xs us -> r xs H Q ->
   wpAny (model X.prog X.w) X.A (call f us) (EP X pins σ Q) X.xe s
def F1 (X : Cx) (r : V -> Hp -> (Bool -> Hp -> Prop) -> Prop) : Prop :=
 ∀ (pins : List (Addr × Obj)) (s : Shared) (σ : St) (H : Hp) (x : V) (v : Value) (Q : Bool -> Hp -> Prop), Inv X pins σ H s -> RelV x v -> r x H Q ->
   wpAny (model X.prog X.w) X.A (truthy v) (TP X pins σ Q) X.xe s
def Dm (r : R2) (ta tb : TE) : TE := fun σ H Q => ta σ H fun x H1 => tb σ H1 fun y H2 => r x y H2 Q
def rI (C : Int -> Int -> Prop) (g : Int -> Int -> V) : R2 := fun x y H Q => ∃ i j, x = .int i /\ y = .int j /\ C i j /\ Q (g i j) H
def yb (g : Int -> Int -> V) : R2 := fun x y H Q => ∃ i j, x = .int i /\ y = .int j /\ Q (g i j) H
section
variable {X : Cx} {a b c : Expr} {ta tb tc : TE} {pos : Pos}
theorem zV (ha : PE X a ta) (hb : PE X b tb) {pins : List (Addr × Obj)} {s : Shared} {σ : St} {H : Hp} {R : V -> V -> Hp -> Prop} (I : Inv X pins σ H s)
 (h : ta σ H fun x H1 => tb σ H1 fun y H2 => R x y H2) {Q : Value -> Shared -> Prop} {f : Value -> Value -> Sem Value}
 (hf : ∀ v u s2 x y H2, Inv X pins σ H2 s2 -> RelV x v -> RelV y u -> R x y H2 -> wpAny (model X.prog X.w) X.A (f v u) Q X.xe s2) :
 wpAny (model X.prog X.w) X.A (eval a X.env) (fun v s₁ => wpAny (model X.prog X.w) X.A (eval b X.env) (fun u s₂ => wpAny (model X.prog X.w) X.A (f v u) Q X.xe s₂) X.xe s₁) X.xe s := by
 refine bF (ha pins s σ H _ I h) fun v s1 ⟨x, H1, I1, r1, q1⟩ => ?_
 refine bF (hb pins s1 σ H1 _ I1 q1) fun u s2 ⟨y, H2, I2, r2, q2⟩ => ?_
 exact hf v u s2 x y H2 I2 r1 r2 q2
theorem aj {op : Operator} {r : R2} (ho : gf X (binaryOp op) r) (ha : PE X a ta) (hb : PE X b tb) : PE X (.BinOp a op b pos) (Dm r ta tb) := by
 intro pins s σ H Q I h
 exact wpAny_BinOp (zV ha hb I h fun v u s2 x y H2 I2 rx ry q => ho pins s2 σ H2 x y v u Q I2 rx ry q)
theorem DY {f : Value -> Value -> Sem Value} {C : Int -> Int -> Prop} {g : Int -> Int -> Int}
 (rule : ∀ (i j : Int) (t u : Tok) (s : Shared) (Q : Value -> Shared -> Prop) (E : Value -> Shared -> Prop), C i j -> Q (.int (g i j) s.toks) { s with toks := s.toks + 1 } -> wpAny (model X.prog X.w) X.A (f (.int i t) (.int j u)) Q E s) :
 gf X f (rI C fun i j => .int (g i j)) := by
 intro pins s σ H x y v u Q I rx ry h
 obtain ⟨i, j, rfl, rfl, hc, q⟩ := h
 obtain ⟨t, rfl⟩ := rx
 obtain ⟨t', rfl⟩ := ry
 exact rule i j t t' s _ _ hc ⟨.int (g i j), H, I.tok _, ⟨_, rfl⟩, q⟩
theorem Dt {f : Value -> Value -> Sem Value} {g : Int -> Int -> Int}
 (rule : ∀ (i j : Int) (t u : Tok) (s : Shared) (Q : Value -> Shared -> Prop) (E : Value -> Shared -> Prop), Q (.int (g i j) s.toks) { s with toks := s.toks + 1 } -> wpAny (model X.prog X.w) X.A (f (.int i t) (.int j u)) Q E s) :
 gf X f (yb fun i j => .int (g i j)) := by
 intro pins s σ H x y v u Q I rx ry h
 obtain ⟨i, j, rfl, rfl, q⟩ := h
 obtain ⟨t, rfl⟩ := rx
 obtain ⟨t', rfl⟩ := ry
 exact rule i j t t' s _ _ ⟨.int (g i j), H, I.tok _, ⟨_, rfl⟩, q⟩
theorem A9 {f : Value -> Value -> Sem Value} {g : Int -> Int -> Bool}
 (rule : ∀ (i j : Int) (t u : Tok) (s : Shared) (Q : Value -> Shared -> Prop) (E : Value -> Shared -> Prop), Q (.bool (g i j)) s -> wpAny (model X.prog X.w) X.A (f (.int i t) (.int j u)) Q E s) :
 gf X f (yb fun i j => .bl (g i j)) := by
 intro pins s σ H x y v u Q I rx ry h
 obtain ⟨i, j, rfl, rfl, q⟩ := h
 obtain ⟨t, rfl⟩ := rx
 obtain ⟨t', rfl⟩ := ry
 exact rule i j t t' s _ _ ⟨.bl (g i j), H, I, rfl, q⟩
def zQ (i j : Int) : Prop := 0 <= j /\ j <= 1000000 /\ i.natAbs < 2 ^ 64
theorem aN : gf X (binaryOp .Add) (yb fun i j => .int (i + j)) := Dt fun _ _ _ _ _ _ _ q => add_int q
theorem eM : gf X (binaryOp .Sub) (yb fun i j => .int (i - j)) := Dt fun _ _ _ _ _ _ _ q => sub_int q
theorem y7 : gf X (binaryOp .Mod) (rI (fun _ j => 0 < j) fun i j => .int (i % j)) := DY fun i j _ _ _ _ _ hc q => by
 have h1 : (0 : Int) < j := hc
 exact mod_int' (by omega) (by rw [Int.fmod_eq_emod_of_nonneg i (by omega)]; exact q)
theorem me : gf X (binaryOp .Pow) (rI zQ fun i j => .int (i ^ j.toNat)) := DY fun _ _ _ _ _ _ _ hc q => pow_int_small hc.1 hc.2.1 hc.2.2 q
end
def vO : V -> V -> Bool
 | .aZ, .aZ => true | .aZ, .int _ => true | .int _, .aZ => true | .aZ, .bl _ => true | .bl _, .aZ => true | .aZ, .str _ => true | .str _, .aZ => true
 | .int _, .int _ => true | .bl _, .bl _ => true | .str _, .str _ => true | .qL _, .qL _ => true
 | .int _, .str _ => true | .str _, .int _ => true | .bl _, .str _ => true | .str _, .bl _ => true
 | _, _ => false
def K7 : R2 := fun x y H Q => vO x y = true /\ Q (.bl (decide (x = y))) H
def Jj : R2 := fun x y H Q => vO x y = true /\ Q (.bl (!decide (x = y))) H
theorem qo {i j : Int} : decide (V.int i = V.int j) = (i == j) := by
 rw [Bool.eq_iff_iff]
 simp
theorem sT {i j : Bool} : decide (V.bl i = V.bl j) = (i == j) := by
 rw [Bool.eq_iff_iff]
 simp
theorem qe {i j : Str} : decide (V.str i = V.str j) = (i == j) := by
 rw [Bool.eq_iff_iff]
 simp
theorem qd {i j : Array UInt8} : decide (V.qL i = V.qL j) = (i.toList == j.toList) := by
 rw [Bool.eq_iff_iff]
 cases i
 cases j
 simp
section
variable {X : Cx} {a b c : Expr} {ta tb tc : TE} {pos : Pos}
theorem aH {pins : List (Addr × Obj)} {σ : St} {H : Hp} {s : Shared} {Q : VK} {k k' : Bool} (I : Inv X pins σ H s) (q : Q (.bl k) H) (e : k = k') : EP X pins σ Q (.bool k') s := by
 subst e
 exact ⟨.bl k, H, I, rfl, q⟩
theorem B2 : gf X (compareOp .Eq) K7 := by
 intro pins s σ H x y v u Q I rx ry h
 obtain ⟨hs, q⟩ := h
 cases x with
 | aZ =>
   cases rx
   cases y with
   | aZ => cases ry; exact PySem.EqNone.eq_none_none (aH I q (by simp))
   | bl j => cases ry; exact PySem.EqNone.eq_none_bool (aH I q (by simp))
   | int j => obtain ⟨t', rfl⟩ := ry; exact PySem.EqNone.eq_none_int (aH I q (by simp))
   | str j => obtain ⟨t', rfl⟩ := ry; exact PySem.EqNone.eq_none_str (aH I q (by simp))
   | _ => exact absurd (show false = true from hs) Bool.false_ne_true
 | bl i =>
   cases rx
   cases y with
   | aZ => cases ry; exact PySem.EqNone.eq_bool_none (aH I q (by simp))
   | bl j => cases ry; exact eq_bool (aH I q sT)
   | str j => obtain ⟨t', rfl⟩ := ry; exact PySem.EqMixed.eq_bool_str (aH I q (by simp))
   | _ => exact absurd (show false = true from hs) Bool.false_ne_true
 | int i =>
   obtain ⟨t, rfl⟩ := rx
   cases y with
   | aZ => cases ry; exact PySem.EqNone.eq_int_none (aH I q (by simp))
   | int j => obtain ⟨t', rfl⟩ := ry; exact eq_int (aH I q qo)
   | str j => obtain ⟨t', rfl⟩ := ry; exact PySem.EqMixed.eq_int_str (aH I q (by simp))
   | _ => exact absurd (show false = true from hs) Bool.false_ne_true
 | str i =>
   obtain ⟨t, rfl⟩ := rx
   cases y with
   | aZ => cases ry; exact PySem.EqNone.eq_str_none (aH I q (by simp))
   | bl j => cases ry; exact PySem.EqMixed.eq_str_bool (aH I q (by simp))
   | int j => obtain ⟨t', rfl⟩ := ry; exact PySem.EqMixed.eq_str_int (aH I q (by simp))
   | str j => obtain ⟨t', rfl⟩ := ry; exact eq_str (aH I q qe)
   | _ => exact absurd (show false = true from hs) Bool.false_ne_true
 | qL i =>
   obtain ⟨t, rfl⟩ := rx
   cases y with
   | qL j => obtain ⟨t', rfl⟩ := ry; exact PySem.W.eq_bytes (aH I q qd)
   | _ => exact absurd (show false = true from hs) Bool.false_ne_true
 | _ => cases y <;> exact absurd (show false = true from hs) Bool.false_ne_true
theorem DJ : gf X (compareOp .NotEq) Jj := by
 intro pins s σ H x y v u Q I rx ry h
 obtain ⟨hs, q⟩ := h
 cases x with
 | aZ =>
   cases rx
   cases y with
   | aZ => cases ry; exact PySem.EqNone.ne_none_none (aH I q (by simp))
   | bl j => cases ry; exact PySem.EqNone.ne_none_bool (aH I q (by simp))
   | int j => obtain ⟨t', rfl⟩ := ry; exact PySem.EqNone.ne_none_int (aH I q (by simp))
   | str j => obtain ⟨t', rfl⟩ := ry; exact PySem.EqNone.ne_none_str (aH I q (by simp))
   | _ => exact absurd (show false = true from hs) Bool.false_ne_true
 | bl i =>
   cases rx
   cases y with
   | aZ => cases ry; exact PySem.EqNone.ne_bool_none (aH I q (by simp))
   | bl j => cases ry; exact ne_bool (aH I q (congrArg not sT))
   | str j => obtain ⟨t', rfl⟩ := ry; exact PySem.EqMixed.ne_bool_str (aH I q (by simp))
   | _ => exact absurd (show false = true from hs) Bool.false_ne_true
 | int i =>
   obtain ⟨t, rfl⟩ := rx
   cases y with
   | aZ => cases ry; exact PySem.EqNone.ne_int_none (aH I q (by simp))
   | int j => obtain ⟨t', rfl⟩ := ry; exact ne_int (aH I q (congrArg not qo))
   | str j => obtain ⟨t', rfl⟩ := ry; exact PySem.EqMixed.ne_int_str (aH I q (by simp))
   | _ => exact absurd (show false = true from hs) Bool.false_ne_true
 | str i =>
   obtain ⟨t, rfl⟩ := rx
   cases y with
   | aZ => cases ry; exact PySem.EqNone.ne_str_none (aH I q (by simp))
   | bl j => cases ry; exact PySem.EqMixed.ne_str_bool (aH I q (by simp))
   | int j => obtain ⟨t', rfl⟩ := ry; exact PySem.EqMixed.ne_str_int (aH I q (by simp))
   | str j => obtain ⟨t', rfl⟩ := ry; exact ne_str (aH I q (congrArg not qe))
   | _ => exact absurd (show false = true from hs) Bool.false_ne_true
 | qL i =>
   obtain ⟨t, rfl⟩ := rx
   cases y with
   | qL j => obtain ⟨t', rfl⟩ := ry; exact PySem.W.ne_bytes (aH I q (congrArg not qd))
   | _ => exact absurd (show false = true from hs) Bool.false_ne_true
 | _ => cases y <;> exact absurd (show false = true from hs) Bool.false_ne_true
theorem pN : gf X (compareOp .Lt) (yb fun i j => .bl (decide (i < j))) := A9 fun _ _ _ _ _ _ _ q => lt_int q
theorem iz : gf X (compareOp .LtE) (yb fun i j => .bl (decide (i <= j))) := A9 fun _ _ _ _ _ _ _ q => le_int q
theorem ur : gf X (compareOp .Gt) (yb fun i j => .bl (decide (j < i))) := A9 fun _ _ _ _ _ _ _ q => gt_int q
theorem uI : gf X (compareOp .Is) (fun x y H Q => y = .aZ /\ Q (.bl (decide (x = .aZ))) H) := by
 intro pins s σ H x y v u Q I rx ry h
 obtain ⟨rfl, q⟩ := h
 cases ry
 refine is_none_gen (aH I q ?_)
 cases x <;> first
  | (cases rx; rfl)
  | (obtain ⟨t, rfl⟩ := rx; rfl)
theorem wq : gf X (compareOp .IsNot) (fun x y H Q => y = .aZ /\ Q (.bl (!decide (x = .aZ))) H) := by
 intro pins s σ H x y v u Q I rx ry h
 obtain ⟨rfl, q⟩ := h
 cases ry
 refine isnot_none_gen (aH I q ?_)
 cases x <;> first
  | (cases rx; rfl)
  | (obtain ⟨t, rfl⟩ := rx; rfl)
theorem bM (b : Expr) {op : CmpOp} (h : op ≠ .In := by decide) (h2 : op ≠ .NotIn := by decide) : behindInMarks op b = false := by
 have e1 : (op == CmpOp.In) = false := by cases op <;> first | rfl | exact absurd rfl h
 have e2 : (op == CmpOp.NotIn) = false := by cases op <;> first | rfl | exact absurd rfl h2
 cases b <;> simp [behindInMarks, e1, e2]
theorem vZ {op : CmpOp} {r : R2} (ho : gf X (compareOp op) r) (ha : PE X a ta) (hb : PE X b tb) (hm : behindInMarks op b = false) : PE X (.Compare a [op] [b] pos) (Dm r ta tb) := by
 intro pins s σ H Q I h
 exact wpAny_Compare1 (zV ha hb I h fun v u s2 x y H2 I2 rx ry q => ho pins s2 σ H2 x y v u Q I2 rx ry q) hm
def uY (t : TE) : TT := fun σ H Q => t σ H fun x H' => ∃ k, x = .bl k /\ Q k H'
theorem a7 {op : CmpOp} {r : R2} (ho : gf X (compareOp op) r) (ha : PE X a ta) (hb : PE X b tb) (hm : behindInMarks op b = false) : PT X (.Compare a [op] [b] pos) (uY (Dm r ta tb)) := by
 intro pins s σ H Q I h
 refine wpAny_isTrue_Compare1 (bF (ha pins s σ H _ I h) fun v s1 ⟨x, H1, I1, r1, q1⟩ => bF (hb pins s1 σ H1 _ I1 q1) fun u s2 ⟨y, H2, I2, r2, q2⟩ =>
  bF (ho pins s2 σ H2 x y v u _ I2 r1 r2 q2) fun c s3 ⟨z, H3, I3, r3, k, e, q3⟩ => ?_) hm
 subst e
 cases r3
 exact wpAny_truthy_bool ⟨H3, I3, q3⟩
def oS (r r' : R2) (ta tb tc : TE) : TE := fun σ H Q => ta σ H fun x H1 => tb σ H1 fun y H2 => r x y H2 fun z H3 => ∃ k, z = .bl k /\
 (if k = true then tc σ H3 fun w' H4 => r' y w' H4 Q else Q (.bl false) H3)
theorem uZ {op Aw : CmpOp} {r r' : R2} (ho : gf X (compareOp op) r) (qK : gf X (compareOp Aw) r') (ha : PE X a ta) (hb : PE X b tb) (hc : PE X c tc)
 (hm : lastMarks [op, Aw] [b, c] = false := by with_unfolding_all rfl) : PE X (.Compare a [op, Aw] [b, c] pos) (oS r r' ta tb tc) := by
 intro pins s σ H Q I h
 refine Compare_chain (bF (ha pins s σ H _ I h) fun v s1 ⟨x, H1, I1, r1, q1⟩ => chain_link (bF (hb pins s1 σ H1 _ I1 q1) fun u s2 ⟨y, H2, I2, r2, q2⟩ =>
  bF (ho pins s2 σ H2 x y v u _ I2 r1 r2 q2) fun d s3 ⟨z, H3, I3, r3, k, e, q3⟩ => ?_)) hm
 subst e
 cases r3
 refine wpAny_truthy_bool ?_
 cases k with
 | false => exact ite_ff ⟨.bl false, H3, I3, rfl, q3⟩
 | true => exact ite_tt (chain_last (bF (hc pins s3 σ H3 _ I3 q3) fun w' s4 ⟨z', H4, I4, r4, q4⟩ => qK pins s4 σ H4 y z' u w' Q I4 r2 r4 q4))
theorem jF {op Aw : CmpOp} {r r' : R2} (ho : gf X (compareOp op) r) (qK : gf X (compareOp Aw) r') (ha : PE X a ta) (hb : PE X b tb) (hc : PE X c tc)
 (hm : lastMarks [op, Aw] [b, c] = false := by with_unfolding_all rfl) : PT X (.Compare a [op, Aw] [b, c] pos) (uY (oS r r' ta tb tc)) := by
 intro pins s σ H Q I h
 refine isTrue_chain (bF (ha pins s σ H _ I h) fun v s1 ⟨x, H1, I1, r1, q1⟩ => test_link (bF (hb pins s1 σ H1 _ I1 q1) fun u s2 ⟨y, H2, I2, r2, q2⟩ =>
  bF (ho pins s2 σ H2 x y v u _ I2 r1 r2 q2) fun d s3 ⟨z, H3, I3, r3, k, e, q3⟩ => ?_)) hm
 subst e
 cases r3
 refine wpAny_truthy_bool ?_
 cases k with
 | false =>
   obtain ⟨k', e', q'⟩ := q3
   cases e'
   exact ite_ff ⟨H3, I3, q'⟩
 | true =>
   refine ite_tt (test_last (bF (hc pins s3 σ H3 _ I3 q3) fun w' s4 ⟨z', H4, I4, r4, q4⟩ => bF (qK pins s4 σ H4 y z' u w' _ I4 r2 r4 q4) fun d' s5 ⟨z2, H5, I5, r5, k2, e2, q5⟩ => ?_))
   subst e2
   cases r5
   exact wpAny_truthy_bool ⟨H5, I5, q5⟩
def vK (K : PySem.W.Frag) (x : V) (H : Hp) (k : Bool) : Prop :=
 match x with
 | .aZ => k = false
 | .bl b => k = b
 | .int i => k = (i != 0)
 | .str y => y.length <= sizeLine /\ k = ((y.length : Int) != 0)
 | .qL y => y.size <= sizeLine /\ k = ((y.size : Int) != 0)
 | .ref p => (∃ xs, bh K H p xs /\ k = !xs.isEmpty) \/ (∃ xs, mW K H p xs /\ k = !xs.isEmpty) \/ ∃ ax, H p = some (.dK ax) /\ k = !ax.isEmpty
 | _ => False
theorem nP {κ : Type} {ax : List (κ × V)} {vs : List (κ × Value)} (r : KV ax vs) : (!vs.isEmpty) = !ax.isEmpty := by
 cases r <;> rfl
theorem kj {xs : List V} {az : List Value} (r : Vals xs az) : (!az.toArray.isEmpty) = !xs.isEmpty := by
 cases r <;> simp
theorem gZ : (sizeLine : Nat) < 2 ^ 63 := by rw [sizeLine_eq]; decide
theorem yJ : F1 X (fun x H Q => ∃ k, vK X.K x H k /\ Q k H) := by
 intro pins s σ H x v Q I rx h
 obtain ⟨k, e, q⟩ := h
 have hl := gZ
 have hs : sizeLine = 16777216 := sizeLine_eq
 cases x with
 | aZ =>
   cases rx
   have e' : k = false := e
   subst e'
   exact truthy_none ⟨H, I, q⟩
 | bl b =>
   cases rx
   have e' : k = b := e
   subst e'
   exact wpAny_truthy_bool ⟨H, I, q⟩
 | int i =>
   obtain ⟨t, rfl⟩ := rx
   have e' : k = (i != 0) := e
   subst e'
   exact PySem.P.truthy_int ⟨H, I, q⟩
 | str y =>
   obtain ⟨t, rfl⟩ := rx
   obtain ⟨hy, e'⟩ : y.length <= sizeLine /\ k = ((y.length : Int) != 0) := e
   subst e'
   exact PySem.P.truthy_str (by omega) ⟨H, I.tok _, q⟩
 | qL y =>
   obtain ⟨t, rfl⟩ := rx
   obtain ⟨hy, e'⟩ : y.size <= sizeLine /\ k = ((y.size : Int) != 0) := e
   subst e'
   exact PySem.W.truthy_bytes (by omega) ⟨H, I.tok _, q⟩
 | ref p =>
   cases rx
   have e' : (∃ xs, bh X.K H p xs /\ k = !xs.isEmpty) \/ (∃ xs, mW X.K H p xs /\ k = !xs.isEmpty) \/ ∃ ax, H p = some (.dK ax) /\ k = !ax.isEmpty := e
   rcases e' with ⟨xs, hx, e'⟩ | ⟨xs, hx, e'⟩ | ⟨ax, hx, e'⟩
   . subst e'
     obtain ⟨az, r, pl, hz⟩ := I.list hx
     have hlen := r.length
     exact wpAny_truthy_list pl.isList (by simp only [List.size_toArray]; omega) ⟨H, I.tok _, by rw [kj r]; exact q⟩
   . subst e'
     obtain ⟨az, r, pl, hz⟩ := I.tuple hx
     have hlen := r.length
     exact truthy_tuple pl (by simp only [List.size_toArray]; omega) ⟨H, I.tok _, by rw [kj r]; exact q⟩
   . subst e'
     obtain ⟨hz, hS, vs, r, m⟩ : ax.length <= sizeLine /\ (p == sysModules) = false /\ ∃ vs, KV ax vs /\ s.heap.DictOf (bb X.prog X.w) p vs := I.aQ p _ hx
     have hlen : ax.length = vs.length := Paired.length r
     exact wpAny_truthy_dict hS m (by omega) ⟨H, I.tok _, by rw [nP r]; exact q⟩
 | _ => exact (show False from e).elim
theorem s9 (ha : PE X a ta) (he : ∀ whole, isTrue a X.env whole = (do let v <- whole; standAt a.pos; holding [v] (truthy v))) :
 PT X a (fun σ H Q => ta σ H fun x H' => ∃ k, vK X.K x H' k /\ Q k H') := by
 intro pins s σ H Q I h
 exact isTrue_plain (bF (ha pins s σ H _ I h) fun v s1 ⟨x, H1, I1, r1, q1⟩ => yJ pins s1 σ H1 x v Q I1 r1 q1) (he _)
theorem oY : gf X (binaryOp .Add) (fun x y H Q => ∃ i j, x = .str i /\ y = .str j /\ i.length + j.length <= sizeLine /\ Q (.str (i ++ j)) H) := by
 intro pins s σ H x y v u Q I rx ry h
 obtain ⟨i, j, rfl, rfl, hz, q⟩ := h
 obtain ⟨t, rfl⟩ := rx
 obtain ⟨t', rfl⟩ := ry
 exact add_str (fun t' tk => ⟨.str (i ++ j), H, I.tok _, ⟨_, rfl⟩, q⟩) hz
theorem vals1 {x : V} {us : List Value} (r : Vals [x] us) : ∃ u, us = [u] /\ RelV x u := by
 cases r with
 | cons r1 r2 => cases r2; exact ⟨_, rfl, r1⟩
theorem vals2 {x y : V} {us : List Value} (r : Vals [x, y] us) : ∃ u w', us = [u, w'] /\ RelV x u /\ RelV y w' := by
 cases r with
 | cons r1 r2 =>
   cases r2 with
   | cons r3 r4 => cases r4; exact ⟨_, _, rfl, r1, r3⟩
theorem qU (hc : X.calm = true) : dX X (.builtin "min") (fun xs H Q => ∃ i j, xs = [.int i, .int j] /\ Q (.int (if j < i then j else i)) H) := by
 intro pins s σ H xs us Q I r h
 obtain ⟨i, j, rfl, q⟩ := h
 obtain ⟨u, w', rfl, ⟨t, rfl⟩, ⟨t', rfl⟩⟩ := vals2 r
 refine min_two_ints (I.ok.hd hc) fun h' tk k => ⟨_, H, I.kept k, ?_, q⟩
 by_cases hj : j < i
 . rw [if_pos hj, if_pos hj]; exact ⟨_, rfl⟩
 . rw [if_neg hj, if_neg hj]; exact ⟨_, rfl⟩
end
structure K8 (h : Heap) (x dx C : Addr) (mA : Str -> Option Value) : Prop where
 obj : h.get? x = some (PySem.W.instObj C dx)
 ns : h.Ns1 dx mA
 ne : dx ≠ x
section
variable {prog : Program} {w : World} {A : Around} {E : Value -> Shared -> Prop} {s : Shared} {K : PySem.W.Frag} {x dx C f : Addr} {mA : Str -> Option Value} {name : Str} {v : Value}
end
theorem kJ.some_of {v : V} {o : Option Value} (r : kJ (some v) o) : ∃ u, o = some u /\ RelV v u := by
 cases o with
 | none => exact (show False from r).elim
 | some u => exact ⟨u, rfl, r⟩
section
variable {P : Program} {w : World} {H H' : Hp} {h h' : Heap} {a C dx : Addr} {fs IV : List (Str × V)}
end
structure IT (K : PySem.W.Frag) (C : Addr) : Prop where
 pg : PySem.W.plainGet K C Str.empty = true
 hd : PySem.W.hasDictIn K C = true
 po : PySem.W.plainOver K C = true
 sa : PySem.W.findIn K (.ref C) "__setattr__" = some (some (.builtin "object.__setattr__"))
structure L7 (K : PySem.W.Frag) (C : Addr) (f : Str) (v : V) (u : Value) : Prop where
 at_ : PySem.W.findIn K (.ref C) f = some (some u)
 rel : RelV v u
 get : PySem.W.specialIn K u "__get__" = some none
 cp : PySem.W.copiedNames.contains f = false
structure Meth (K : PySem.W.Frag) (C : Addr) (m : Str) (f : Addr) : Prop where
 at_ : PySem.W.findIn K (.ref C) m = some (some (.ref f))
 fn : PySem.W.isFn K (.ref f) = true
 kp : PySem.W.keepIn K (.ref f) = true
section
variable {X : Cx} {pins : List (Addr × Obj)} {σ : St} {H : Hp} {s : Shared} {a C dx : Addr} {fs : List (Str × V)} {f : Str} {v : V} {A : Around} {E : Value -> Shared -> Prop}
end
section
variable {X : Cx} {o e value : Expr} {f : Str} {pos pos' sH : Pos} {ta tv : TE}
end
section
variable {X : Cx} {pins : List (Addr × Obj)} {σ : St} {H : Hp} {s : Shared} {A : Around} {E : Value -> Shared -> Prop} {Q : Value -> Shared -> Prop} {c : Value} {b : Bool}
inductive kc (K : PySem.W.Frag) (H : Hp) : V -> Value -> Prop where
 | aZ : kc K H .aZ (.type "NoneType")
 | bl (x : Bool) : kc K H (.bl x) (.type "bool")
 | int (i : Int) : kc K H (.int i) (.type "int")
 | str (x : Str) : kc K H (.str x) (.type "str")
 | BJ (x : UInt64) : kc K H (.BJ x) (.type "float")
 | lst {a : Addr} {xs : List V} (e : H a = some (.lst xs)) : kc K H (.ref a) (.type "list")
 | rM {a : Addr} {o : Obj} {xs : List V} (e : H a = some (.rM o (.lst xs))) : kc K H (.ref a) (.type "list")
 | tup {a : Addr} {xs : List V} (e : H a = some (.tup xs)) : kc K H (.ref a) (.type "tuple")
 | dK {a : Addr} {ax : List (Key × V)} (e : H a = some (.dK ax)) : kc K H (.ref a) (.type "dict")
 | dT {a : Addr} {ax : List (List Key × V)} (e : H a = some (.dT ax)) : kc K H (.ref a) (.type "dict")
 | ins {a C dx : Addr} {fs : List (Str × V)} (e : H a = some (.ins C dx fs)) (cl : IT K C) (ha : PySem.W.findIn K (.ref C) "__class__" = some (some (.builtin "object.__class__")))
  (hn : PySem.W.specialIn K (.builtin "object.__class__") "__get__" = some (some (.builtin "getset_descriptor.__get__"))) (va : PySem.W.takesIn K (.builtin "object.__class__") = some true)
  (hm : PySem.W.mroIn K C (.type "object") = some true) : kc K H (.ref a) (.ref C)
end
structure b3 (k : Nat) (A : Around) : Prop where
 hd : A.handled = none
 dp : A.depth + 3 * k + 5 < recursionLimit
 un : A.units + 16 * k + 200 < cLine
theorem b3.mono {j k : Nat} {A : Around} (r : b3 k A) (h : j <= k) : b3 j A := ⟨r.hd, by have := r.dp; omega, by have := r.un; omega⟩
theorem b3.deeper {k : Nat} {A : Around} (r : b3 (k + 1) A) (env : Env) : b3 k (A.deeper env) :=
 ⟨r.hd, by have := r.dp; show A.depth + 1 + 3 * k + 5 < _; omega, by have := r.un; show A.units + 3 + 16 * k + 200 < _; omega⟩
theorem b3.in1 {k : Nat} {A : Around} (r : b3 (k + 1) A) : b3 k A.in1 :=
 ⟨r.hd, by have := r.dp; show A.depth + 3 * k + 5 < _; omega, by have := r.un; show A.units + 1 + 16 * k + 200 < _; omega⟩
theorem b3.depth {k : Nat} {A : Around} (r : b3 k A) : A.depth < recursionLimit := by have := r.dp; omega
theorem b3.units {k : Nat} {A : Around} (r : b3 k A) : A.units + 64 < cLine := by have := r.un; omega
def yN : TA := fun _ H Q => Q [] H
def tD (ta : TE) (tr : TA) : TA := fun σ H Q => ta σ H fun x H1 => tr σ H1 fun xs H2 => Q (x :: xs) H2
section
variable {X : Cx} {e : Expr} {es : List Expr} {te : TE} {t : TA} {pos : Pos}
theorem ah : PA X [] yN := fun _ _ _ _ H Q I h => Calls.spliced_nil ⟨[], H, I, .nil, h⟩
theorem ae (ha : PE X e te) (hr : PA X es t) (hs : starEach (e :: es) X.env = (false, eval e X.env) :: starEach es X.env := by rfl) : PA X (e :: es) (tD te t) := by
 intro pos pins s σ H Q I h
 rw [hs]
 show wpAny _ _ (spliced ((false, eval e X.env) :: backTo pos (starEach es X.env))) _ _ s
 refine Calls.spliced_cons (bF (ha pins s σ H _ I h) fun u s1 ⟨x, H1, I1, r1, q1⟩ => ?_)
 exact bF (hr pos pins s1 σ H1 _ I1 q1) fun us s2 ⟨xs, H2, I2, r2, q2⟩ => ⟨x :: xs, H2, I2, .cons r1 r2, q2⟩
def Gi (t : TA) : TE := fun σ H Q => t σ H fun xs H1 => xs.length <= sizeLine /\ ∀ p, H1 p = none -> Q (.ref p) (upd H1 p (.tup xs))
def Gn (t : TA) : TE := fun σ H Q => t σ H fun xs H1 => xs.length <= sizeLine /\ ∀ p, H1 p = none -> Q (.ref p) (upd H1 p (.lst xs))
theorem yX {x1} (h : PA X es t) : PE X (.Tuple es x1 pos) (Gi t) := by
 intro pins s σ H Q I hq
 refine wpAny_Tuple_spliced (bF (h pos pins s σ H _ I hq) fun us s1 ⟨xs, H1, I1, r, z, q⟩ => ⟨by rw [<- r.length]; exact z, ?_⟩)
 have hf : H1 s1.heap.objs.size = none := I1.aQ.fresh (Nat.le_refl _)
 refine ⟨.ref s1.heap.objs.size, upd H1 s1.heap.objs.size (.tup xs), I1.laid (t' := s1.toks) (fun b u e => Heap.get?_push_of_some _ e) (Nat.le_refl _) ?_, rfl, q _ hf⟩
 exact ⟨z, us, r, ⟨_, Heap.get?_push_size _ rfl, rfl, _, rfl⟩⟩
theorem Ah (h : PA X es t) : PE X (.List es pos) (Gn t) := by
 intro pins s σ H Q I hq
 refine wpAny_List_spliced (bF (h pos pins s σ H _ I hq) fun us s1 ⟨xs, H1, I1, r, z, q⟩ => ⟨by rw [<- r.length]; exact z, ?_⟩)
 have hf : H1 s1.heap.objs.size = none := I1.aQ.fresh (Nat.le_refl _)
 refine ⟨.ref s1.heap.objs.size, upd H1 s1.heap.objs.size (.lst xs), I1.laid (t' := s1.toks) (fun b u e => Heap.get?_push_of_some _ e) (Nat.le_refl _) ?_, rfl, q _ hf⟩
 exact ⟨z, us, 0, r, Heap.get?_push_size _ rfl⟩
end
abbrev Sp := List V -> Hp -> VK -> XK -> Prop
abbrev mH := List Env -> Hp -> Shared -> XK -> Value -> Shared -> Prop
structure oZ (P : Program) (w : World) (K : PySem.W.Frag) (mg : Str -> Option Value) (base : Heap) (A : Around) (outer : List Env) (s : Shared) (H : Hp) : Prop where
 frames : A.frames = some outer
 mod : Mod K mg base
 bs : ∀ b o, base.get? b = some o -> s.heap.get? b = some o /\ H b = none
 vf : base.objs.size <= s.heap.objs.size
 iF : s.heap.FunFrames base outer
 ya : ∀ b ∈ nq outer, H b = none
 aQ : gN P w H s.heap
 bare : AllBare s.gens
def CE (outer : List Env) (P : Program) (w : World) (H : Hp) (s : Shared) (Q : VK) (u : Value) (s' : Shared) : Prop :=
 ∃ v H', s'.os = s.os /\ AllBare s'.gens /\ Un (nq outer) [] H H' s.heap s'.heap /\ gN P w H' s'.heap /\ RelV v u /\ Q v H'
def CR (CX : mH) (outer : List Env) (P : Program) (w : World) (H : Hp) (s : Shared) (Q : VK) (E : XK) (r : Result) (s' : Shared) : Prop :=
 match r with
 | .ok (.ret u) => CE outer P w H s Q u s'
 | .ok _ => False
 | .error e => CX outer H s E e s'
structure bJ (P : Program) (w : World) (K : PySem.W.Frag) (mg : Str -> Option Value) (base : Heap) (CX : mH) (k : Nat) (f : Addr) (fd : FuncData) (ps : List Str) (sp : Sp) : Prop where
 len : ∀ vs H Q E, sp vs H Q E -> vs.length = ps.length
 run : ∀ (A : Around) (outer : List Env) (s : Shared) (H : Hp) (args : Args) (us : List Value) (vs : List V) (Q : VK) (E : XK), b3 k A -> oZ P w K mg base A outer s H -> BindsTo s fd args (ps.zip us) -> Vals vs us -> sp vs H Q E ->
  codeAny (model P w) A (.call (.ref f) args) (CR CX outer P w H s Q E) s
theorem bJ.mono {P : Program} {w : World} {K : PySem.W.Frag} {mg : Str -> Option Value} {base : Heap} {CX : mH} {j k : Nat} {f : Addr} {fd : FuncData} {ps : List Str} {sp : Sp} (F : bJ P w K mg base CX j f fd ps sp) (h : j <= k) :
 bJ P w K mg base CX k f fd ps sp := ⟨F.len, fun A outer s H args us vs Q E hr => F.run A outer s H args us vs Q E (hr.mono h)⟩
theorem oZ.in1 {P : Program} {w : World} {K : PySem.W.Frag} {mg : Str -> Option Value} {base : Heap} {A : Around} {outer : List Env} {s : Shared} {H : Hp} (e : oZ P w K mg base A outer s H) :
 oZ P w K mg base A.in1 outer s H := ⟨e.frames, e.mod, e.bs, e.vf, e.iF, e.ya, e.aQ, e.bare⟩
section
variable {X : Cx} {pins : List (Addr × Obj)} {σ : St} {H : Hp} {s s' : Shared}
theorem Inv.Dp (I : Inv X pins σ H s) : oZ X.prog X.w X.K X.mg X.base X.A X.stack s H :=
 ⟨I.ok.frames, I.ok.mod, I.bs, Nat.le_trans I.ok.vf I.sz, I.stack, I.ph, I.aQ, I.bare⟩
theorem Inv.after {Q : VK} {u : Value} (I : Inv X pins σ H s) (h : CE X.stack X.prog X.w H s Q u s') : EP X pins σ Q u s' := by
 obtain ⟨v, H', os, bare, un, aQ, r, q⟩ := h
 obtain ⟨hh, g, d, t, B1⟩ := s'
 obtain rfl : B1 = s.os := os
 exact ⟨v, H', I.call (h' := hh) (g' := g) (d' := d) (t' := t) (ch := []) un aQ bare (fun b z => absurd z (by simp)), r, q⟩
end
def pC (sp : Sp) (gO : List V) (E : XK) (t : TA) : TE := fun σ H Q => t σ H fun vs H1 => sp (vs ++ gO) H1 Q E
def Binds (K : PySem.W.Frag) (fd : FuncData) (ps : List Str) (ds : List Value) : Prop :=
 ∀ (s : Shared) (us : List Value), K.In s.heap -> (us ++ ds).length = ps.length -> BindsTo s fd ⟨us, []⟩ (ps.zip (us ++ ds))
theorem Binds.all {K : PySem.W.Frag} {fd : FuncData} {ps : List Str} (h : ∀ us : List Value, us.length = ps.length -> bindArgs fd ⟨us, []⟩ = pure (ps.zip us)) : Binds K fd ps [] := fun s us _ hl => by
 rw [List.append_nil] at hl ⊢
 exact .of_eq (h us hl)
def Passes (CX : mH) (X : Cx) (E : XK) : Prop := ∀ (pins : List (Addr × Obj)) (σ : St) (H : Hp) (s : Shared) (e : Value) (s' : Shared), Inv X pins σ H s -> CX X.stack H s E e s' -> X.xe e s'
section
variable {X : Cx} {CX : mH} {k : Nat} {f C : Addr} {fd : FuncData} {ps : List Str} {sp : Sp} {gO : List V} {ds : List Value} {E : XK} {x m : Str} {p pos apos : Pos} {e o : Expr} {es : List Expr} {ta : TE} {t : TA}
theorem Am {pins : List (Addr × Obj)} {σ : St} {H : Hp} {s : Shared} {Q : VK} {us : List Value} {vs : List V} (F : bJ X.prog X.w X.K X.mg X.base CX k f fd ps sp) (hr : b3 k X.A) (hb : Binds X.K fd ps ds) (hd : Vals gO ds) (hx : Passes CX X E)
 (I : Inv X pins σ H s) (r : Vals vs us) (h : sp (vs ++ gO) H Q E) : wpAny (model X.prog X.w) X.A (call (.ref f) us) (EP X pins σ Q) X.xe s := by
 have r2 : Vals (vs ++ gO) (us ++ ds) := r.append hd
 have hl : (us ++ ds).length = ps.length := by rw [<- r2.length]; exact F.len _ _ _ _ h
 refine wpAny_call (codeAny_mono (F.run X.A X.stack s H ⟨us, []⟩ (us ++ ds) (vs ++ gO) Q E hr I.Dp (hb s us I.A5 hl) r2 h) fun r s' hq => ?_)
 cases r with
 | error e => exact hx pins σ H s e s' I hq
 | ok fl =>
   cases fl with
   | ret u => exact I.after hq
   | next => exact False.elim hq
   | brk => exact False.elim hq
   | cont => exact False.elim hq
theorem vA (F : bJ X.prog X.w X.K X.mg X.base CX k f fd ps sp) (hr : b3 k X.A) (hg : Gl X x) (hm : X.mg x = some (.ref f)) (hk : PySem.W.keepIn X.K (.ref f) = true) (hb : Binds X.K fd ps ds) (hd : Vals gO ds) (hx : Passes CX X E)
 (ha : PA X (e :: es) t) (vR : (x == ("__debug__" : Str)) = false := by decide) (he : starEach (e :: es) X.env = (false, eval e X.env) :: starEach es X.env := by rfl) (mE : (backTo pos (starEach es X.env)).any (·.1) = false := by rfl) :
 PE X (.Call (.Name x p) (e :: es) [] pos) (pC sp gO E t) := by
 intro pins s σ H Q I h
 refine wpAny_Call_Name_kw (pW I hg hm ?_ vR)
 refine PySem.W.callWith_K (h₀ := X.base) I.ok.mod.E2 hk (bF (ha pos pins s σ H _ I h) fun us s1 ⟨vs, H1, I1, r, q⟩ => ⟨I1.A5, ?_⟩) he mE
 exact Am F hr hb hd hx I1 r q
structure Mk (K : PySem.W.Frag) (C f : Addr) : Prop where
 makes : PySem.W.makesIn K C = true
 init : PySem.W.findIn K (.ref C) "__init__" = some (some (.ref f))
 fn : PySem.W.isFn K (.ref f) = true
 kp : PySem.W.keepIn K (.ref C) = true
end
def PK (X : Cx) (DX : List Keyword) (t : TA) : Prop :=
 ∀ (pos : Pos) (pins : List (Addr × Obj)) (s : Shared) (σ : St) (H : Hp) (Q : List V -> Hp -> Prop), Inv X pins σ H s -> t σ H Q -> wpAny (model X.prog X.w) X.A (evalAll ((backToKw pos (keywordEach DX X.env)).map (·.2))) (AP X pins σ Q) X.xe s
section
variable {X : Cx} {CX : mH} {k : Nat} {f C : Addr} {fd : FuncData} {ps ks : List Str} {sp : Sp} {E : XK} {x m : Str} {p pos apos zD : Pos} {e o : Expr} {es : List Expr} {DX : List Keyword} {te ta : TE} {t tk : TA} {nm : Option Str}
theorem yC : PK X [] yN := fun _ _ _ _ H Q I h => wpAny_evalAll_nil ⟨[], H, I, .nil, h⟩
theorem wB (ha : PE X e te) (hr : PK X DX t) : PK X (⟨nm, e, zD⟩ :: DX) (tD te t) := by
 intro pos pins s σ H Q I h
 show wpAny _ _ (evalAll ((do let v <- eval e X.env; standAt pos; pure v) :: (backToKw pos (keywordEach DX X.env)).map (·.2))) _ _ s
 refine wpAny_evalAll_cons (wpAny_bind (bF (ha pins s σ H _ I h) fun u s1 ⟨x, H1, I1, r1, q1⟩ => wpAny_bind (wpAny_standAt (wpAny_pure ?_))))
 exact bF (hr pos pins s1 σ H1 _ I1 q1) fun us s2 ⟨xs, H2, I2, r2, q2⟩ => ⟨x :: xs, H2, I2, .cons r1 r2, q2⟩
structure Ge (K : PySem.W.Frag) (fd : FuncData) (ps ks : List Str) (g : List Value -> List Value -> List Value) (gV : List V -> List V -> List V) : Prop where
 to : ∀ (s : Shared) (us ws : List Value), K.In s.heap -> (g us ws).length = ps.length -> BindsTo s fd ⟨us, ks.zip ws⟩ (ps.zip (g us ws))
 rel : ∀ {vs : List V} {us : List Value} {zs : List V} {ws : List Value}, Vals vs us -> Vals zs ws -> Vals (gV vs zs) (g us ws)
variable {g : List Value -> List Value -> List Value} {gV : List V -> List V -> List V}
end
structure aJ (N P : List Str) (sc : Scope) : Prop where
 kind : sc.kind = .function
 co : sc.isCoroutine = false
 gen : sc.isGenerator = false
 nd : N.Nodup
 pre : N.take P.length = P
 par : ∀ x ∈ P, sc.names.lookup x = some .local \/ sc.names.lookup x = some .cell
 zT : ∀ y ∈ sc.names, y.2 ≠ .free
theorem kR {kindOf : Str -> Option NameKind} {x : Str} : ∀ {binds : List (Str × Value)} {m : Str -> Option Value}, (∀ v, (x, v) ∉ binds) -> bindL kindOf binds m x = m x
 | [], _, _ => rfl
 | (n, v) :: r, m, h => by
   unfold bindL
   rw [kR fun w hw => h w (List.mem_cons_of_mem _ hw)]
   split
   . have : x ≠ n := by rintro rfl; exact h v List.mem_cons_self
     simp [this]
   . rfl
theorem kP {kindOf : Str -> Option NameKind} {x : Str} : ∀ {binds : List (Str × Value)} {m : Str -> Option Value}, (∀ v, (x, v) ∉ binds) -> bindC kindOf binds m x = m x
 | [], _, _ => rfl
 | (n, v) :: r, m, h => by
   unfold bindC
   rw [kP fun w hw => h w (List.mem_cons_of_mem _ hw)]
   split
   . rfl
   . have : x ≠ n := by rintro rfl; exact h v List.mem_cons_self
     simp [this]
theorem lq {kindOf : Str -> Option NameKind} {x : Str} {v : Value} : ∀ {P : List Str} {vs : List Value} {i : Nat} {m : Str -> Option Value}, P.Nodup -> P[i]? = some x -> vs[i]? = some v -> kindOf x = some .local ->
 bindL kindOf (P.zip vs) m x = some v
 | [], _, _, _, _, h, _, _ => by simp at h
 | _ :: _, [], _, _, _, _, h, _ => by simp at h
 | p :: P, w :: vs, 0, m, nd, h1, h2, hk => by
   simp at h1 h2; subst h1; subst h2
   show bindL kindOf ((p, w) :: P.zip vs) m p = _
   unfold bindL
   rw [kR fun v hv => (List.nodup_cons.mp nd).1 (List.of_mem_zip hv).1, if_pos hk]
   simp
 | p :: P, w :: vs, i + 1, m, nd, h1, h2, hk => by
   show bindL kindOf ((p, w) :: P.zip vs) m x = _
   unfold bindL
   exact lq (i := i) (List.nodup_cons.mp nd).2 (by simpa using h1) (by simpa using h2) hk
theorem kM {kindOf : Str -> Option NameKind} {x : Str} {v : Value} : ∀ {P : List Str} {vs : List Value} {i : Nat} {m : Str -> Option Value}, P.Nodup -> P[i]? = some x -> vs[i]? = some v -> kindOf x ≠ some .local ->
 bindC kindOf (P.zip vs) m x = some v
 | [], _, _, _, _, h, _, _ => by simp at h
 | _ :: _, [], _, _, _, _, h, _ => by simp at h
 | p :: P, w :: vs, 0, m, nd, h1, h2, hk => by
   simp at h1 h2; subst h1; subst h2
   show bindC kindOf ((p, w) :: P.zip vs) m p = _
   unfold bindC
   rw [kP fun v hv => (List.nodup_cons.mp nd).1 (List.of_mem_zip hv).1, if_neg hk]
   simp
 | p :: P, w :: vs, i + 1, m, nd, h1, h2, hk => by
   show bindC kindOf ((p, w) :: P.zip vs) m x = _
   unfold bindC
   exact kM (i := i) (List.nodup_cons.mp nd).2 (by simpa using h1) (by simpa using h2) hk
def start (N : List Str) (vs : List V) : St := vs.map some ++ List.replicate (N.length - vs.length) none
def rB (CX : mH) (P : Program) (w : World) (K : PySem.W.Frag) (mg : Str -> Option Value) (base : Heap) (N : List Str) (qual : Str) (scope : Scope) (f : Addr) (cd : Value) (A : Around) (outer : List Env) (s : Shared) (H : Hp) (E : XK) : Cx where
 prog := P
 w := w
 K := K
 mg := mg
 base := base
 A := A.deeper (envOfC qual scope s.heap.objs.size f cd)
 N := N
 cA := s
 uc := H
 env := envOfC qual scope s.heap.objs.size f cd
 outer := outer
 stack := envOfC qual scope s.heap.objs.size f cd :: outer
 ex := []
 calm := true
 fn := fun _ => true
 pn := []
 xe := fun e s' => wpAny (model P w) (A.deeper (envOfC qual scope s.heap.objs.size f cd)) (leaving (envOfC qual scope s.heap.objs.size f cd) e) (fun _ FK => CX outer H s E e FK) (fun e' FK => CX outer H s E e' FK) s'
theorem mS {sc : Scope} {n : Nat} {x : Str} (h : sc.names.lookup x = some .cell) : ∃ c, (cellsFrom n sc.names []).lookup x = some c := by
 have q := PySem.W.cellsFrom_some sc.names n [] (.inl h)
 exact Option.isSome_iff_exists.mp q
theorem qY {CX : mH} {P : Program} {w : World} {K : PySem.W.Frag} {mg : Str -> Option Value} {base : Heap} {N ps : List Str} {qual : Str} {scope : Scope} {f : Addr} {cd : Value} {A : Around} {outer : List Env} {s s1 : Shared} {H : Hp} {E : XK} {us : List Value} {vs : List V}
 (S : aJ N ps scope) (hd : A.handled = none) (e0 : oZ P w K mg base A outer s H) (hl : vs.length = ps.length) (r : Vals vs us)
 (x : InCallC s s.heap.objs.size (bindL (envOfC qual scope s.heap.objs.size f cd).kindOf (ps.zip us) fun _ => none) (cellsFrom (s.heap.objs.size + 1) scope.names []) (bindC (envOfC qual scope s.heap.objs.size f cd).kindOf (ps.zip us) fun _ => none) s1) :
 Inv (rB CX P w K mg base N qual scope f cd A outer s H E) [] (start N vs) H s1 := by
 have mE : ps.length <= N.length := by have := congrArg List.length S.pre; rw [List.length_take] at this; omega
 obtain ⟨h1, tk, rfl, hk⟩ := x.done
 have Cm : ∀ b : Addr, b ∉ (rB CX P w K mg base N qual scope f cd A outer s H E).ex := fun b z => absurd (show b ∈ ([] : List Addr) from z) (by simp)
 refine ⟨⟨e0.mod, S.kind, rfl, rfl, Nat.le_refl _, fun y z c h1 h2 => ?_, fun y hy => ?_, fun y c _ h => ?_, fun _ => hd, Around.frames_deeper e0.frames, .inr ⟨rfl, rfl⟩, fun b z => absurd z (Cm b), e0.bs, e0.vf, fun b _ _ => Cm b, fun b z => absurd z (Cm b), e0.iF, e0.ya⟩,
  rfl, e0.bare, Un.kept hk, ⟨_, x.toInCall.ns, fun i y v h1 h2 h3 => ?_⟩, fun y c h => ⟨_, x.cell y c h⟩, e0.aQ.fresh (Nat.le_refl _), fun y c h => ?_, fun p hp => absurd (show p ∈ ([] : List (Addr × Obj)) from hp) (by simp), e0.aQ.kept hk, ?_⟩
 . exact name_of_addr x.apart (PySem.mem_of_lookup h1) (PySem.mem_of_lookup h2)
 . have hy : scope.names.lookup y = some .cell \/ scope.names.lookup y = some .free := hy
   rcases hy with hy | hy
   . exact mS hy
   . exact absurd rfl (S.zT _ (PySem.mem_of_lookup hy))
 . exact Nat.le_of_lt (x.above y c (PySem.mem_of_lookup h))
 . have hi : i < vs.length := by
    unfold start at h2
    by_cases hi : i < vs.length
    . exact hi
    . rw [List.getElem?_append_right (by simpa using hi)] at h2
      rw [List.getElem?_replicate] at h2
      split at h2 <;> cases h2
   have ha : vs[i]? = some v := by
    unfold start at h2
    rw [List.getElem?_append_left (by simpa using hi), List.getElem?_map] at h2
    cases e : vs[i]? with
    | none => rw [e] at h2; cases h2
    | some a => rw [e] at h2; cases h2; rfl
   obtain ⟨u, hu, rv⟩ := r.get ha
   have hp : ps[i]? = some y := by
    rw [<- S.pre, List.getElem?_take_of_lt (by omega)]; exact h1
   have HJ : ps.Nodup := by rw [<- S.pre]; exact S.nd.sublist (List.take_sublist _ _)
   refine ⟨u, rv, ?_⟩
   rcases S.par y (List.mem_of_getElem? hp) with k | k
   . exact .inl ⟨k, lq HJ hp hu k⟩
   . obtain ⟨c, e⟩ := mS (n := s.heap.objs.size + 1) k
     refine .inr ⟨.inl k, c, e, ?_⟩
     have q := x.cell y c e
     rw [kM HJ hp hu (by show scope.names.lookup y ≠ _; rw [k]; decide)] at q
     exact q
 . exact e0.aQ.fresh (Nat.le_of_lt (x.above y c (PySem.mem_of_lookup h)))
 . unfold start
   show _ = N.length
   rw [List.length_append, List.length_map, List.length_replicate]
   omega
theorem BI {CX : mH} {P : Program} {w : World} {K : PySem.W.Frag} {mg : Str -> Option Value} {base : Heap} {k : Nat} {f : Addr} {name qual : Str} {params : Arguments} {body : List Stmt} {scope : Scope} {dV kV doc pm cV ct oc : Value} {an od : Option Addr}
 {r9 : Array (Option Value)} {N ps : List Str} {sp : Sp} (lk : K.lookup f = some ⟨oc, od, .func (PySem.W.fnOf name qual params body scope dV kV doc pm an cV ct), r9⟩) (rH : PySem.W.codeIn K cV qual = true) (S : aJ N ps scope)
 (len : ∀ vs H Q E, sp vs H Q E -> vs.length = ps.length)
 (kU : ∀ (A : Around) (outer : List Env) (s : Shared) (H : Hp) (vs : List V) (Q : VK) (E : XK), b3 k (A.deeper (envOfC qual scope s.heap.objs.size f cV)) -> sp vs H Q E ->
  ∃ t, nM (rB CX P w K mg base N qual scope f cV A outer s H E) body t /\ t { nx := fun _ H' => Q .aZ H', rt := Q } (start N vs) H) :
 bJ P w K mg base CX (k + 1) f (PySem.W.fnOf name qual params body scope dV kV doc pm an cV ct) ps sp := by
 refine ⟨len, fun A outer s H args us vs Q E hr e0 hb r u6 => ?_⟩
 have hl := len _ _ _ _ u6
 have KX : K.In s.heap := e0.mod.E2.keeps fun b o e => (e0.bs b o e).1
 have lim : s.heap.NoLimit := e0.mod.nolimit.keeps fun b o e => (e0.bs b o e).1
 have Cy : ∀ y ∈ ps.zip us, scope.names.lookup y.1 = some .local \/ (scope.names.lookup y.1 = some .cell /\ ((cellsFrom (s.heap.objs.size + 1) scope.names []).lookup y.1).isSome = true) := fun ⟨n, v⟩ hy => by
  rcases S.par n (List.of_mem_zip hy).1 with q | q
  . exact .inl q
  . exact .inr ⟨q, PySem.W.cellsFrom_some _ _ _ (.inl q)⟩
 refine codeAny_call_function hr.depth (KX _ _ lk) rfl S.co S.gen rfl (PySem.W.codeRec_of KX rH) (hb _ _ _ _ ?_)
 refine wpAny_newFunctionEnv_cells S.kind Cy fun env he s1 x => ?_
 subst he
 refine ⟨lim.keeps x.toInCall.keep, codeAny_func ?_⟩
 obtain ⟨t, ht, hq⟩ := kU A outer s H vs Q E (hr.deeper _) u6
 have I : Inv (rB CX P w K mg base N qual scope f cV A outer s H E) [] (start N vs) H s1 := qY S hr.hd e0 hl r x
 refine wpAny_mono (ht [] s1 (start N vs) H _ I hq) (fun fl s' hs => ?_) fun e s' hs => hs
 have fin : ∀ {σ' : St} {H' : Hp} {v : V} {u : Value}, Inv (rB CX P w K mg base N qual scope f cV A outer s H E) [] σ' H' s' -> RelV v u -> Q v H' -> CE outer P w H s Q u s' :=
  fun {σ' H' v u} J rv q => ⟨v, H', J.os, J.bare, J.base, J.aQ, rv, q⟩
 cases fl with
 | ret u =>
   obtain ⟨v, σ', H', J, rv, q⟩ := hs
   exact fin J rv q
 | next =>
   obtain ⟨σ', H', J, q⟩ := hs
   exact fin (v := V.aZ) (u := Value.none) J rfl q
 | brk =>
   obtain ⟨_, _, _, q⟩ := hs
   exact False.elim q
 | cont =>
   obtain ⟨_, _, _, q⟩ := hs
   exact False.elim q
section
variable {X : Cx} {x : Str} {p pos : Pos} {e : Expr} {es : List Expr} {t : TA} {id T : String} {r : List V -> Hp -> VK -> Prop}
def FG (r : List V -> Hp -> VK -> Prop) (t : TA) : TE := fun σ H Q => t σ H fun vs H1 => r vs H1 Q
theorem aW (hc : dX X (.builtin id) r) (hg : Gl X x) (hm : X.mg x = none) (hv : bootBuiltins x = some (.builtin id)) (ha : PA X (e :: es) t) (hn : x ≠ "__name__" := by decide) (vR : (x == ("__debug__" : Str)) = false := by decide)
 (he : starEach (e :: es) X.env = (false, eval e X.env) :: starEach es X.env := by rfl) (mE : (backTo pos (starEach es X.env)).any (·.1) = false := by rfl) : PE X (.Call (.Name x p) (e :: es) [] pos) (FG r t) := by
 intro pins s σ H Q I h
 refine wpAny_Call_Name_kw (eV I hg hm hv ?_ hn vR)
 exact PyProof.Rows.callWith_builtin1 (bF (ha pos pins s σ H _ I h) fun us s1 ⟨vs, H1, I1, r1, q1⟩ => hc pins s1 σ H1 vs us Q I1 r1 q1) he mE
theorem f9 (hc : dX X (.type T) r) (hg : Gl X x) (hm : X.mg x = none) (hv : bootBuiltins x = some (.type T)) (ha : PA X (e :: es) t) (hn : x ≠ "__name__" := by decide) (vR : (x == ("__debug__" : Str)) = false := by decide)
 (he : starEach (e :: es) X.env = (false, eval e X.env) :: starEach es X.env := by rfl) (mE : (backTo pos (starEach es X.env)).any (·.1) = false := by rfl) : PE X (.Call (.Name x p) (e :: es) [] pos) (FG r t) := by
 intro pins s σ H Q I h
 refine wpAny_Call_Name_kw (eV I hg hm hv ?_ hn vR)
 exact PyProof.Rows.callWith_type1 (bF (ha pos pins s σ H _ I h) fun us s1 ⟨vs, H1, I1, r1, q1⟩ => hc pins s1 σ H1 vs us Q I1 r1 q1) he mE
end
end L2
namespace HT
open PySem PyProof.Rows
section
open PySem.SeqAt
open PySem.AutoSeq1 (wpAny_loadPart')
open PySem.MeetsSeq PySem.MeetsSeq2 PySem.MeetsSeq3
end
section
variable {prog : Program} {w : World} {A : Around} {E : Value -> Shared -> Prop} {s : Shared}
def ky (n d : Nat) : Option Int -> Nat
 | none => d
 | some v => if v < 0 then (v + (n : Int)).toNat else min v.toNat n
theorem p6 (n d k : Nat) : ky n d (some (k : Int)) = min k n := by
 show (if (k : Int) < 0 then ((k : Int) + (n : Int)).toNat else min (k : Int).toNat n) = min k n
 rw [if_neg (by omega), Int.toNat_natCast]
end
end HT
namespace L2
open PySem PySem.Spec PyProof.Rows
abbrev TO := St -> Hp -> (Option Int -> Hp -> Prop) -> Prop
def PO (X : Cx) (e : Option Expr) (t : TO) : Prop :=
 ∀ (pins : List (Addr × Obj)) (s : Shared) (σ : St) (H : Hp) (Q : Option Int -> Hp -> Prop), Inv X pins σ H s -> t σ H Q ->
   wpAny (model X.prog X.w) X.A (evalPart e X.env) (fun u s' => ∃ o H', Inv X pins σ H' s' /\ IsPart u o /\ Q o H') X.xe s
def qp : TO := fun _ H Q => Q none H
def xN (t : TE) : TO := fun σ H Q => t σ H fun x H1 => ∃ i, x = .int i /\ Q (some i) H1
section
variable {X : Cx} {e : Expr} {te : TE} {lo hi : Option Expr} {tl th : TO} {pos p2 : Pos}
theorem dz : PO X none qp := by
 intro pins s σ H Q I h
 rw [evalPart_none]
 exact wpAny_pure ⟨none, H, I, .none, h⟩
theorem b4 (h : PE X e te) : PO X (some e) (xN te) := by
 intro pins s σ H Q I hw
 rw [evalPart_some]
 refine bF (h pins s σ H _ I hw) fun u s1 ⟨x, H1, I1, r1, q1⟩ => ?_
 obtain ⟨i, rfl, q⟩ := q1
 obtain ⟨t, rfl⟩ := r1
 exact ⟨some i, H1, I1, .int i t, q⟩
def Es (X : Cx) (r : V -> Option Int -> Option Int -> Hp -> VK -> Prop) : Prop :=
 ∀ (pins : List (Addr × Obj)) (s : Shared) (σ : St) (H : Hp) (x : V) (v vl vu : Value) (lo hi : Option Int) (sl : Addr) (Q : VK), Inv X pins σ H s -> RelV x v -> s.heap.IsSliceOf sl vl vu .none -> IsPart vl lo -> IsPart vu hi -> r x lo hi H Q ->
   ∃ T id, typeLookup (.type T) "__getitem__" = pure (some (.builtin id)) /\ s.TypeIs v T /\ wpAny (model X.prog X.w) X.A (getItem v (.ref sl)) (EP X pins σ Q) X.xe s
def Hd (r : V -> Option Int -> Option Int -> Hp -> VK -> Prop) (te : TE) (tl th : TO) : TE := fun σ H Q => te σ H fun x H1 => tl σ H1 fun l H2 => th σ H2 fun u H3 => r x l u H3 Q
theorem bX {r : V -> Option Int -> Option Int -> Hp -> VK -> Prop} (hr : Es X r) (he : PE X e te) (hl : PO X lo tl) (hu : PO X hi th) : PE X (.Subscript e (.Slice lo hi none p2) pos) (Hd r te tl th) := by
 intro pins s σ H Q I h
 refine Subscript_ (bF (he pins s σ H _ I h) fun v s1 ⟨x, H1, I1, r1, q1⟩ => ?_)
 refine wpAny_Slice (bF (hl pins s1 σ H1 _ I1 q1) fun vl s2 ⟨l, H2, I2, pl, q2⟩ => bF (hu pins s2 σ H2 _ I2 q2) fun vu s3 ⟨u, H3, I3, pu, q3⟩ => ?_)
 rw [evalPart_none]
 refine wpAny_pure ?_
 have I4 : Inv X pins σ H3 { s3 with heap := s3.heap.push { cls := .type "slice", data := .fields #[vl, vu, .none] } } := I3.kept (t' := s3.toks) fun b ob q => Heap.get?_push_of_some _ q
 obtain ⟨T, id, hT, ht, hg⟩ := hr pins { s3 with heap := s3.heap.push { cls := .type "slice", data := .fields #[vl, vu, .none] } } σ H3 x v vl vu l u s3.heap.objs.size Q I4 r1 (Heap.IsSliceOf.new ..) pl pu q3
 show wpAny (model X.prog X.w) X.A (subscriptTail e (.Slice lo hi none p2) v (.ref s3.heap.objs.size)) (EP X pins σ Q) X.xe { s3 with heap := s3.heap.push { cls := .type "slice", data := .fields #[vl, vu, .none] } }
 exact tail_any (ops := [.ref s3.heap.objs.size, v]) ht hT hg (by with_unfolding_all rfl)
def nW (xs : List V) (lo hi : Option Int) : List V := (xs.drop (HT.ky xs.length 0 lo)).take (HT.ky xs.length xs.length hi - HT.ky xs.length 0 lo)
theorem ng (xs : List V) (lo hi : Option Int) : (nW xs lo hi).length <= xs.length := by
 unfold nW
 rw [List.length_take, List.length_drop]
 omega
end
def sW (n : Nat) (i : Int) : Option Nat := if 0 <= i then (if i < n then some i.toNat else none) else if -(n : Int) <= i then some (i + n).toNat else none
def kF {α : Type} (xs : List α) (i : Int) : Option α := (sW xs.length i).bind fun j => xs[j]?
theorem qb {n : Nat} {i : Int} {j : Nat} (h : sW n i = some j) : seqIndex? i n = some j /\ j < n /\ -(n : Int) <= i /\ i < n := by
 unfold sW at h
 by_cases h0 : 0 <= i
 . rw [if_pos h0] at h
   by_cases h1 : i < n
   . rw [if_pos h1] at h
     have e : i.toNat = j := Option.some.inj h
     exact ⟨by rw [seqIndex_of h0 h1, e], by omega, by omega, h1⟩
   . rw [if_neg h1] at h; cases h
 . rw [if_neg h0] at h
   by_cases h1 : -(n : Int) <= i
   . rw [if_pos h1] at h
     have e : (i + n).toNat = j := Option.some.inj h
     exact ⟨by rw [seqIndex_neg (by omega) h1, e], by omega, h1, by omega⟩
   . rw [if_neg h1] at h; cases h
theorem lW {α : Type} {xs : List α} {i : Int} {v : α} (h : kF xs i = some v) : ∃ j, seqIndex? i xs.length = some j /\ xs[j]? = some v /\ j < xs.length /\ -(xs.length : Int) <= i /\ i < xs.length := by
 unfold kF at h
 cases e : sW xs.length i with
 | none => rw [e] at h; cases h
 | some j =>
   rw [e] at h
   obtain ⟨h1, h2, h3, h4⟩ := qb e
   exact ⟨j, h1, h, h2, h3, h4⟩
theorem ez {α : Type} {xs : List α} {j : Nat} {v : α} (h : xs[j]? = some v) : kF xs (j : Int) = some v := by
 have hj : j < xs.length := (List.getElem?_eq_some_iff.mp h).1
 have e : sW xs.length (j : Int) = some j := by
  unfold sW
  rw [if_pos (by omega), if_pos (by omega)]; simp
 unfold kF; rw [e]; exact h
def vt (b : Expr) : Prop := ∀ o i, subscripted b false o i = operate [o, i] (getItem o i)
def rO (X : Cx) (r : R2) : Prop :=
 ∀ (value slice : Expr) (pins : List (Addr × Obj)) (s : Shared) (σ : St) (H : Hp) (x y : V) (v u : Value) (Q : VK), Inv X pins σ H s -> RelV x v -> RelV y u -> r x y H Q ->
   subscripted slice false v u = operate [v, u] (getItem v u) -> wpAny (model X.prog X.w) X.A (subscriptTail value slice v u) (EP X pins σ Q) X.xe s
def Jf (X : Cx) (id : String) (r : V -> List V -> Hp -> VK -> Prop) : Prop :=
 ∀ (pins : List (Addr × Obj)) (s : Shared) (σ : St) (H : Hp) (x : V) (xs : List V) (v : Value) (us : List Value) (Q : VK), Inv X pins σ H s -> RelV x v -> Vals xs us -> r x xs H Q ->
   wpAny (model X.prog X.w) X.A (call (.builtin id) (v :: us)) (EP X pins σ Q) X.xe s
section
variable {X : Cx} {a b : Expr} {ta tb : TE} {pos : Pos}
theorem rO.or {r r' : R2} (h : rO X r) (h' : rO X r') : rO X (fun x y H Q => r x y H Q \/ r' x y H Q) := by
 intro value slice pins s σ H x y v u Q I rx ry q hs
 rcases q with q | q
 . exact h value slice pins s σ H x y v u Q I rx ry q hs
 . exact h' value slice pins s σ H x y v u Q I rx ry q hs
theorem aI {r : R2} (hr : rO X r) (ha : PE X a ta) (hb : PE X b tb) (hs : vt b) : PE X (.Subscript a b pos) (Dm r ta tb) := by
 intro pins s σ H Q I h
 exact Subscript_ (zV ha hb I h fun v u s2 x y H2 I2 rx ry q => hr a b pins s2 σ H2 x y v u Q I2 rx ry q (hs _ _))
def AH (K : PySem.W.Frag) : R2 := fun x y H Q => ∃ p xs i v, x = .ref p /\ y = .int i /\ bh K H p xs /\ kF xs i = some v /\ Q v H
def AU (K : PySem.W.Frag) : R2 := fun x y H Q => ∃ p xs i v, x = .ref p /\ y = .int i /\ mW K H p xs /\ kF xs i = some v /\ Q v H
def yL : R2 := fun x y H Q => ∃ z i c, x = .str z /\ y = .int i /\ z.length <= sizeLine /\ kF z.cps.toList i = some c /\ Q (.str ⟨#[c]⟩) H
theorem pQ : rO X (AH X.K) := by
 intro value slice pins s σ H x y v u Q I rx ry h hs
 obtain ⟨p, xs, i, z, rfl, rfl, hq, he, q⟩ := h
 cases rx
 obtain ⟨t, rfl⟩ := ry
 obtain ⟨az, r, pl, hz⟩ := I.list hq
 obtain ⟨j, h1, h2, h3, h4, h5⟩ := lW he
 obtain ⟨w, ew, uQ⟩ := r.get h2
 have hl := r.length
 have hn := gZ
 have fin : EP X pins σ Q w s := ⟨z, H, I, uQ, q⟩
 by_cases h0 : 0 <= i
 . have hj : i.toNat = j := by
    rw [seqIndex_of h0 h5] at h1
    exact Option.some.inj h1
   exact item_listR pl.isList h0 (by omega) (by rw [hj]; simpa using ew) fin hs
 . have hj : (i + (az.toArray.size : Int)).toNat = j := by
    rw [seqIndex_neg (by omega) h4] at h1
    rw [List.size_toArray, <- hl]
    exact Option.some.inj h1
   exact subscriptTail_builtinR (x := w) pl.isList.typeIs slot_list_getitem.lookup
    (wpAny_getItem_list_neg (Q := fun r s' => r = w /\ EP X pins σ Q r s') pl.isList (by omega) (by rw [List.size_toArray] <;> omega) (by omega) (by rw [hj]; simpa using ew) ⟨rfl, fin⟩) hs
theorem eA : rO X (AU X.K) := by
 intro value slice pins s σ H x y v u Q I rx ry h hs
 obtain ⟨p, xs, i, z, rfl, rfl, hq, he, q⟩ := h
 cases rx
 obtain ⟨t, rfl⟩ := ry
 obtain ⟨az, r, pl, hz⟩ := I.tuple hq
 obtain ⟨j, h1, h2, h3, h4, h5⟩ := lW he
 obtain ⟨w, ew, uQ⟩ := r.get h2
 have hl := r.length
 have hn := gZ
 have fin : EP X pins σ Q w s := ⟨z, H, I, uQ, q⟩
 exact subscriptTail_builtinR (x := w) pl.typeIs slot_tuple_getitem.lookup
  (getItem_tuple (j := j) (Q := fun r s' => r = w /\ EP X pins σ Q r s') pl (by omega) (by omega) (by rw [List.size_toArray, <- hl]; exact h1) (by simpa using ew) ⟨rfl, fin⟩) hs
theorem AO : rO X yL := by
 intro value slice pins s σ H x y v u Q I rx ry h hs
 obtain ⟨z, i, c, rfl, rfl, hz, he, q⟩ := h
 obtain ⟨t, rfl⟩ := rx
 obtain ⟨t', rfl⟩ := ry
 obtain ⟨j, h1, h2, h3, h4, h5⟩ := lW he
 have hl : z.cps.toList.length = z.length := by simp [Str.length]
 rw [hl] at h1 h4 h5
 have hn := gZ
 exact tail_any (typeIs_str s z t) slot_str_getitem.lookup (getItem_str (c := c) (by
  have e1 : decide (i < -(2 ^ 63 : Int)) = false := decide_eq_false (by omega)
  have e2 : decide (i ≥ 2 ^ 63) = false := decide_eq_false (by omega)
  rw [e1, e2, Bool.or_false]) (by rw [h1]; simpa using h2) ⟨.str ⟨#[c]⟩, H, I.tok _, ⟨_, rfl⟩, q⟩) hs
def Ik (K : PySem.W.Frag) : R2 := fun x y H Q => AH K x y H Q \/ AU K x y H Q \/ yL x y H Q
theorem y9 : rO X (Ik X.K) := pQ.or (eA.or AO)
theorem nU (az : List Value) (n j : Nat) (u : Value) : Obj.mapSeq (·.setIfInBounds j u) { cls := .type "list", data := .seq az.toArray n } = { cls := .type "list", data := .seq (az.set j u).toArray n } := by
 simp [Obj.mapSeq]
theorem Inv.lst {pins : List (Addr × Obj)} {σ : St} {H : Hp} {s : Shared} {p : Addr} {xs : List V} (I : Inv X pins σ H s) (h : H p = some (.lst xs)) :
 ∃ (az : List Value) (n : Nat), Vals xs az /\ s.heap.get? p = some { cls := .type "list", data := .seq az.toArray n } /\ xs.length <= sizeLine := by
 obtain ⟨z, az, n, r, e⟩ := I.aQ p _ h
 exact ⟨az, n, r, e, z⟩
theorem Inv.zU {pins : List (Addr × Obj)} {σ : St} {H : Hp} {s : Shared} {p : Addr} {xs ys : List V} {az its' : List Value} {n n' : Nat} {f : Obj -> Obj} (I : Inv X pins σ H s) (h : H p = some (.lst xs))
 (ho : s.heap.get? p = some { cls := .type "list", data := .seq az.toArray n }) (hf : f { cls := .type "list", data := .seq az.toArray n } = { cls := .type "list", data := .seq its'.toArray n' }) (r : Vals ys its') (hz : ys.length <= sizeLine) (t : Nat) :
 Inv X pins σ (upd H p (.lst ys)) { s with heap := s.heap.update p f, toks := t } := by
 have e : (s.heap.update p f).get? p = some { cls := .type "list", data := .seq its'.toArray n' } := by
  rw [Heap.get?_update_self f ho (by rw [hf] <;> rfl), hf]
 refine I.write (x := p) (e := p) (by rw [h]; trivial) (.inl rfl) (fun b u hb q => (Heap.get?_update_other _ _ (Ne.symm hb)).trans q) ⟨_, e⟩ ?_
 exact ⟨hz, its', n', r, e⟩
def xJ : V -> V -> V -> Hp -> (Hp -> Prop) -> Prop := fun o i v H Q => ∃ p xs k j, o = .ref p /\ i = .int k /\ H p = some (.lst xs) /\ sW xs.length k = some j /\ Q (upd H p (.lst (xs.set j v)))
theorem set_list : Df X xJ := by
 intro pins s σ H o i v ov iv u Q I ro ri rv h
 obtain ⟨p, xs, k, j, rfl, rfl, hp, hj, q⟩ := h
 cases ro
 obtain ⟨t, rfl⟩ := ri
 obtain ⟨az, n, r, ho, hz⟩ := I.lst hp
 obtain ⟨h1, h2, h3, h4⟩ := qb hj
 have hl := r.length
 have hn := gZ
 have I' : Inv X pins σ (upd H p (.lst (xs.set j v))) { s with heap := s.heap.update p (Obj.mapSeq (·.setIfInBounds j u)) } :=
  I.zU hp ho (nU az n j u) (r.set rv j) (by rw [List.length_set]; exact hz) s.toks
 by_cases h0 : 0 <= k
 . have hk : k.toNat = j := by
    rw [seqIndex_of h0 h4] at h1
    exact Option.some.inj h1
   exact PySem.W.ki_setAt ho h0 (by omega) (by rw [List.size_toArray, <- hl]; exact h4) (by rw [hk]; exact ⟨_, I', q⟩)
 . have hk : (k + (az.toArray.size : Int)).toNat = j := by
    rw [seqIndex_neg (by omega) h3] at h1
    rw [List.size_toArray, <- hl]
    exact Option.some.inj h1
   exact PySem.W.ki_setBack ho (by omega) (by rw [List.size_toArray, <- hl]; exact h3) (by omega) (by rw [hk]; exact ⟨_, I', q⟩)
theorem lN (lo hi : Option Int) (n : Nat) : (sliceBounds lo hi none n).1 = ((HT.ky n 0 lo : Nat) : Int) /\ (sliceBounds lo hi none n).2.1 = ((HT.ky n n hi : Nat) : Int) /\ (sliceBounds lo hi none n).2.2 = 1 := by
 refine ⟨?_, ?_, rfl⟩
 . cases lo with
   | none => simp [sliceBounds, HT.ky]
   | some i =>
     simp only [sliceBounds, HT.ky, Option.getD_none, show (1 : Int) > 0 by decide, if_true]
     by_cases h : i < 0
     . simp only [h, if_true] <;> omega
     . simp only [h, if_false] <;> omega
 . cases hi with
   | none => simp [sliceBounds, HT.ky]
   | some i =>
     simp only [sliceBounds, HT.ky, Option.getD_none, show (1 : Int) > 0 by decide, if_true]
     by_cases h : i < 0
     . simp only [h, if_true] <;> omega
     . simp only [h, if_false] <;> omega
theorem kD (az : List Value) (lo hi : Option Int) : slicePick az.toArray lo hi none = ((az.drop (HT.ky az.length 0 lo)).take (HT.ky az.length az.length hi - HT.ky az.length 0 lo)).toArray := by
 obtain ⟨h1, h2, h3⟩ := lN lo hi az.toArray.size
 unfold slicePick
 rw [h1, h2, h3]
 simp only [sliceRange_one, pick_run, List.size_toArray] <;> rfl
def wM (K : PySem.W.Frag) : V -> Option Int -> Option Int -> Hp -> VK -> Prop := fun x lo hi H Q => ∃ a xs, x = .ref a /\ bh K H a xs /\ ∀ p, H p = none -> Q (.ref p) (upd H p (.lst (nW xs lo hi)))
theorem jz : Es X (wM X.K) := by
 intro pins s σ H x v vl vu lo hi sl Q I rx hs pl pu h
 obtain ⟨a, xs, rfl, hx, q⟩ := h
 cases rx
 obtain ⟨az, r, ht, hz⟩ := I.list hx
 have hlen := r.length
 refine ⟨"list", _, slot_list_getitem.lookup, ht.isList.typeIs, ?_⟩
 refine wpAny_getItem_list_slice ht.isList hs pl pu .none (by simp) ?_ (by rw [List.size_toArray] <;> omega)
 rw [kD, <- hlen]
 refine ⟨.ref s.heap.objs.size, _, I.laid (t' := s.toks) (o := .lst (nW xs lo hi)) (fun b ob q => Heap.get?_push_of_some _ q) (Nat.le_refl _) ?_, rfl, q _ (I.aQ.fresh (Nat.le_refl _))⟩
 exact ⟨Nat.le_trans (ng xs lo hi) hz, _, 0, (r.drop (HT.ky xs.length 0 lo)).take (HT.ky xs.length xs.length hi - HT.ky xs.length 0 lo), Heap.get?_push_size _ rfl⟩
def gH : V -> Bool
 | .aZ => true
 | .bl _ => true
 | .int _ => true
 | .str _ => true
 | _ => false
def vV : V -> V -> Bool
 | .aZ, .aZ => true
 | .bl a, .bl b => a == b
 | .bl a, .int b => (if a then 1 else 0) == b
 | .int a, .bl b => a == (if b then 1 else 0)
 | .int a, .int b => a == b
 | .str a, .str b => a == b
 | _, _ => false
theorem Av {A : Around} {s : Shared} {y x : V} {u v : Value} (ry : RelV y u) (rx : RelV x v) (fy : gH y = true) (fx : gH x = true) : SeqAt.EqAt A s u v (vV y x) := by
 cases y with
 | aZ =>
   cases ry
   cases x with
   | aZ => cases rx; exact SeqAt.EqAt.same _
   | bl b => cases rx; exact SeqAt.EqAt.none_bool b
   | int b => obtain ⟨t, rfl⟩ := rx; exact SeqAt.EqAt.none_int b t
   | str b => obtain ⟨t, rfl⟩ := rx; exact SeqAt.EqAt.none_str b t
   | _ => exact absurd (show false = true from fx) Bool.false_ne_true
 | bl a =>
   cases ry
   cases x with
   | aZ => cases rx; exact SeqAt.EqAt.bool_none a
   | bl b => cases rx; exact SeqAt.EqAt.bool_bool a b
   | int b => obtain ⟨t, rfl⟩ := rx; exact SeqAt.EqAt.bool_int a b t
   | str b => obtain ⟨t, rfl⟩ := rx; exact SeqAt.EqAt.bool_str a b t
   | _ => exact absurd (show false = true from fx) Bool.false_ne_true
 | int a =>
   obtain ⟨t', rfl⟩ := ry
   cases x with
   | aZ => cases rx; exact SeqAt.EqAt.int_none a t'
   | bl b => cases rx; exact SeqAt.EqAt.int_bool a t' b
   | int b => obtain ⟨t, rfl⟩ := rx; exact SeqAt.EqAt.int_int a t' b t
   | str b => obtain ⟨t, rfl⟩ := rx; exact SeqAt.EqAt.int_str a t' b t
   | _ => exact absurd (show false = true from fx) Bool.false_ne_true
 | str a =>
   obtain ⟨t', rfl⟩ := ry
   cases x with
   | aZ => cases rx; exact SeqAt.EqAt.str_none a t'
   | bl b => cases rx; exact SeqAt.EqAt.str_bool a t' b
   | int b => obtain ⟨t, rfl⟩ := rx; exact SeqAt.EqAt.str_int a t' b t
   | str b => obtain ⟨t, rfl⟩ := rx; exact SeqAt.EqAt.str_str a t' b t
   | _ => exact absurd (show false = true from fx) Bool.false_ne_true
 | _ => exact absurd (show false = true from fy) Bool.false_ne_true
def xf (x : V) (u : Value) : Bool := match u with
 | .none => vV .aZ x
 | .bool b => vV (.bl b) x
 | .int i _ => vV (.int i) x
 | .str z _ => vV (.str z) x
 | _ => false
theorem sN {x y : V} {u : Value} (r : RelV y u) (f : gH y = true) : xf x u = vV y x := by
 cases y with
 | aZ => cases r; rfl
 | bl b => cases r; rfl
 | int i => obtain ⟨t, rfl⟩ := r; rfl
 | str z => obtain ⟨t, rfl⟩ := r; rfl
 | _ => exact absurd (show false = true from f) Bool.false_ne_true
theorem lF {x : V} : ∀ {xs : List V} {us : List Value}, Vals xs us -> xs.all gH = true -> us.any (xf x) = xs.any fun y => vV y x
 | _, _, .nil, _ => rfl
 | y :: xs, u :: us, .cons r t, f => by
   rw [List.all_cons, Bool.and_eq_true] at f
   rw [List.any_cons, List.any_cons, sN r f.1, lF t f.2]
theorem j9 {A : Around} {s : Shared} {x : V} {v : Value} (rx : RelV x v) (fx : gH x = true) : ∀ {xs : List V} {us : List Value}, Vals xs us -> xs.all gH = true -> ∀ u ∈ us, SeqAt.EqAt A s u v (xf x u)
 | _, _, .nil, _ => fun u hu => by cases hu
 | y :: xs, u :: us, .cons r t, f => fun u' hu => by
   rw [List.all_cons, Bool.and_eq_true] at f
   rcases List.mem_cons.mp hu with rfl | hu
   . rw [sN r f.1]; exact Av r rx f.1 fx
   . exact j9 rx fx t f.2 u' hu
def DZ (x : V) (xs : List V) : Bool := xs.any fun y => vV y x
def EB (K : PySem.W.Frag) (neg : Bool) : R2 := fun x y H Q => ∃ p xs, y = .ref p /\ (bh K H p xs \/ mW K H p xs) /\ gH x = true /\ xs.all gH = true /\ Q (.bl (if neg then !DZ x xs else DZ x xs)) H
theorem qV : gf X (compareOp .In) (EB X.K false) := by
 intro pins s σ H x y v u Q I rx ry h
 obtain ⟨p, xs, rfl, hq, fx, fs, q⟩ := h
 cases ry
 rcases hq with hq | hq
 . obtain ⟨az, r, pl, hz⟩ := I.list hq
   refine SeqAt.in_listAt (xf x) pl.isList (fun w hw => j9 rx fx r fs w (by simpa using hw)) ⟨.bl _, H, I, rfl, ?_⟩
   rw [show az.toArray.any (xf x) = az.any (xf x) by simp, lF r fs]
   exact q
 . obtain ⟨az, r, pl, hz⟩ := I.tuple hq
   refine SeqAt.in_tupleAt (xf x) pl (fun w hw => j9 rx fx r fs w (by simpa using hw)) ⟨.bl _, H, I, rfl, ?_⟩
   rw [show az.toArray.any (xf x) = az.any (xf x) by simp, lF r fs]
   exact q
theorem eF : dX X (.builtin "len") (fun xs H Q => ∃ p ys, xs = [.ref p] /\ (bh X.K H p ys \/ mW X.K H p ys) /\ Q (.int ys.length) H) := by
 intro pins s σ H xs us Q I r h
 obtain ⟨p, ys, rfl, hq, q⟩ := h
 obtain ⟨u, rfl, rx⟩ := vals1 r
 cases rx
 have hn := gZ
 rcases hq with hq | hq
 . obtain ⟨az, r', pl, hz⟩ := I.list hq
   have hlen := r'.length
   exact Calls.call_len_list pl.isList (by simp only [List.size_toArray] <;> omega) ⟨.int ys.length, H, I.tok _, ⟨s.toks + 1, by rw [List.size_toArray, hlen]⟩, q⟩
 . obtain ⟨az, r', pl, hz⟩ := I.tuple hq
   have hlen := r'.length
   exact len_tuple pl (by simp only [List.size_toArray] <;> omega) ⟨.int ys.length, H, I.tok _, ⟨s.toks + 1, by rw [List.size_toArray, hlen]⟩, q⟩
theorem lV : dX X (.builtin "len") (fun xs H Q => ∃ z, xs = [.str z] /\ z.length <= sizeLine /\ Q (.int z.length) H) := by
 intro pins s σ H xs us Q I r h
 obtain ⟨z, rfl, hz, q⟩ := h
 obtain ⟨u, rfl, t, rfl⟩ := vals1 r
 have hn := gZ
 exact len_str (by omega) ⟨.int z.length, H, I.tok _, ⟨_, rfl⟩, q⟩
theorem lR : dX X (.type "list") (fun xs H Q => ∃ p ys, xs = [.ref p] /\ (bh X.K H p ys \/ mW X.K H p ys) /\ ∀ l, H l = none -> Q (.ref l) (upd H l (.lst ys))) := by
 intro pins s σ H xs us Q I r h
 obtain ⟨p, ys, rfl, hq, q⟩ := h
 obtain ⟨u, rfl, rx⟩ := vals1 r
 cases rx
 have fin : ∀ (az : List Value), Vals ys az -> ys.length <= sizeLine -> ∀ (h' : Heap) (c' : Nat), (∀ b o', s.heap.get? b = some o' -> h'.get? b = some o') ->
  h'.get? s.heap.objs.size = some { cls := .type "list", dict := none, data := .seq az.toArray c', slots := #[] } -> EP X pins σ Q (.ref s.heap.objs.size) { s with heap := h' } := fun az r' hz h' c' kp e =>
  ⟨.ref s.heap.objs.size, _, I.laid (t' := s.toks) kp (Nat.le_refl _) (show bQ X.prog X.w _ h' _ (.lst ys) from ⟨hz, az, c', r', e⟩), rfl, q _ (I.aQ.fresh (Nat.le_refl _))⟩
 rcases hq with hq | hq
 . obtain ⟨az, r', pl, hz⟩ := I.list hq
   have hlen := r'.length
   obtain ⟨o, ho, hc, n, hd⟩ := pl.isList
   exact call_list_seq p (.inl rfl) ho hc hd (fun h' c' kp e => fin az r' hz h' c' kp e) (by simp only [List.size_toArray] <;> omega)
 . obtain ⟨az, r', pl, hz⟩ := I.tuple hq
   have hlen := r'.length
   obtain ⟨o, ho, hc, n, hd⟩ := pl
   exact call_list_seq p (.inr rfl) ho hc hd (fun h' c' kp e => fin az r' hz h' c' kp e) (by simp only [List.size_toArray] <;> omega)
def DG (K : PySem.W.Frag) (T : String) (x : V) (H : Hp) : Prop := match x with
 | .str _ => T = "str"
 | .int _ => T = "int"
 | .ref p => (T = "list" /\ ∃ xs, bh K H p xs) \/ (T = "tuple" /\ ∃ o, K.lookup p = some o /\ o.cls = .type "tuple" /\ o.dict = none) \/
  (T = "dict" /\ ((∃ ax, H p = some (.dK ax)) \/ ∃ ax, H p = some (.dT ax))) \/ (T = "set" /\ ∃ S n, H p = some (.set S n))
 | _ => False
theorem sg {pins : List (Addr × Obj)} {σ : St} {H : Hp} {s : Shared} {T : String} {x : V} {v : Value} (I : Inv X pins σ H s) (r : RelV x v) (ty : DG X.K T x H) :
 s.TypeIs v T /\ ∀ a, v = .ref a -> ∃ ob, s.heap.get? a = some ob /\ ob.dict = none := by
 cases x with
 | str z =>
   obtain ⟨t, rfl⟩ := r
   cases (show T = "str" from ty)
   exact ⟨typeIs_str s z t, fun _ e => nomatch e⟩
 | int i =>
   obtain ⟨t, rfl⟩ := r
   cases (show T = "int" from ty)
   exact ⟨typeIs_int s i t, fun _ e => nomatch e⟩
 | ref p =>
   cases r
   rcases ty with ⟨rfl, xs, hq⟩ | ⟨rfl, o, hk, hc, hd⟩ | ⟨rfl, hk⟩ | ⟨rfl, S, n, hk⟩
   . obtain ⟨az, _, pl, _⟩ := I.list hq
     refine ⟨pl.isList.typeIs, fun a e => ?_⟩
     cases e
     obtain ⟨o, n, e, c, hd, _⟩ := pl
     exact ⟨o, e, hd⟩
   . refine ⟨⟨o, I.A5 p o hk, hc⟩, fun a e => ?_⟩
     cases e
     exact ⟨o, I.A5 _ o hk, hd⟩
   . have z : ∃ o, s.heap.get? p = some o /\ o.ExactDict := by
      rcases hk with ⟨ax, hk⟩ | ⟨ax, hk⟩
      . obtain ⟨_, _, _, _, o, _, _, e, ex, _⟩ := I.aQ p _ hk
        exact ⟨o, e, ex⟩
      . obtain ⟨_, _, _, _, o, _, _, e, ex, _⟩ := I.aQ p _ hk
        exact ⟨o, e, ex⟩
     obtain ⟨o, e, ex⟩ := z
     refine ⟨⟨o, e, ex.1⟩, fun a e2 => ?_⟩
     cases e2
     exact ⟨o, e, ex.2.1⟩
   . obtain ⟨o, _, _, _, e, ex, _⟩ := I.aQ p _ hk
     refine ⟨⟨o, e, ex.1⟩, fun a e2 => ?_⟩
     cases e2
     exact ⟨o, e, ex.2.1⟩
 | _ => exact False.elim ty
def Hk (K : PySem.W.Frag) (T : String) (r : V -> List V -> Hp -> VK -> Prop) (to : TE) (t : TA) : TE := fun σ H Q => to σ H fun x H1 => DG K T x H1 /\ t σ H1 fun xs H2 => r x xs H2 Q
variable {o e : Expr} {es : List Expr} {to : TE} {t : TA} {name : Str} {apos cS : Pos} {T id : String} {r : V -> List V -> Hp -> VK -> Prop}
theorem lA (pa : PlainAttrs T) (slot : Slot T name id) (Lb : typeOf (.builtin id) = pure (.type "method_descriptor")) (hm : Jf X id r) (ho : PE X o to) (ha : PA X (e :: es) t)
 (uF : attributeBase o name X.env (eval o X.env) = eval o X.env := by rfl)
 (Fz : ((backTo cS (starEach (e :: es) X.env)).all (fun x => !x.1) && (backToKw cS (keywordEach [] X.env)).all (fun x => x.1.isSome)
  && decide ((e :: es).length + ([] : List Keyword).length + (if ([] : List Keyword).isEmpty then 0 else 1) < 30)) = true := by rfl)
 (hline : (apos.endLine == cS.line) = true := by rfl) (hs : starEach (e :: es) X.env = (false, eval e X.env) :: starEach es X.env := by rfl) (zA : (backTo cS (starEach es X.env)).any (·.1) = false := by rfl) :
 PE X (.Call (.Attribute o name apos) (e :: es) [] cS) (Hk X.K T r to t) := by
 intro pins s σ H Q I h
 refine wpAny_Call_method_late uF Fz hline rfl (bF (ho pins s σ H _ I h) fun v s1 ⟨x, H1, I1, r1, ty, q1⟩ => ?_)
 obtain ⟨h1, h2⟩ := sg I1 r1 ty
 refine ⟨T, id, pa, slot, Lb, h1, h2, ?_⟩
 have hA := ha cS pins s1 σ H1 _ I1 q1
 rw [hs] at hA ⊢
 refine Calls.callWith_builtin (by show (false || (backTo cS (starEach es X.env)).any (·.1)) = false; rw [zA] <;> rfl) (Calls.evalArgs_plain ?_)
 exact bF hA fun us s2 ⟨vs, H2, I2, r2, q2⟩ => hm pins s2 σ H2 x vs v us Q I2 r1 r2 q2
end
def Js (X : Cx) (id : String) (r : V -> List V -> Hp -> VK -> Prop) : Prop :=
 ∀ (pins : List (Addr × Obj)) (s : Shared) (σ : St) (H : Hp) (x : V) (xs : List V) (v : Value) (us : List Value) (Q : VK), Inv X pins σ H s -> RelV x v -> Vals xs us -> r x xs H Q ->
   wpAny (model X.prog X.w) X.A (call (.builtin id) (v :: us)) (EP X pins σ Q) X.xe s
theorem Vals.one : ∀ {x : V} {us : List Value}, Vals [x] us -> ∃ u, us = [u] /\ RelV x u
 | _, _, .cons r .nil => ⟨_, rfl, r⟩
section
variable {X : Cx} {pins : List (Addr × Obj)} {σ : St} {H : Hp} {s : Shared} {l b : Addr} {xs ys zs : List V}
theorem Inv.Fw {az its' : List Value} {n : Nat} {f : Array Value -> Array Value} {t' : Nat} (I : Inv X pins σ H s) (hH : H l = some (.lst xs))
 (e : s.heap.get? l = some { cls := .type "list", data := .seq az.toArray n }) (hf : f az.toArray = its'.toArray) (hv : Vals ys its') (hz : ys.length <= sizeLine) :
 Inv X pins σ (upd H l (.lst ys)) { s with heap := s.heap.update l (Obj.mapSeq f), toks := t' } := by
 have q := PySem.IsL.update e f
 rw [hf] at q
 refine I.write (x := l) (e := l) (by rw [hH]; exact trivial) (.inl rfl) (fun b' u hb hu => (Heap.get?_update_other s.heap (Obj.mapSeq f) (Ne.symm hb)).trans hu) ⟨_, q⟩ ?_
 exact ⟨hz, its', _, hv, q⟩
theorem Inv.Gz {az : List Value} {t' : Nat} (I : Inv X pins σ H s) (hv : Vals ys az) (hz : ys.length <= sizeLine) :
 Inv X pins σ (upd H s.heap.objs.size (.lst ys)) { s with heap := s.heap.push { cls := .type "list", data := .seq az.toArray }, toks := t' } :=
 I.laid (fun _ _ q => Heap.get?_push_of_some _ q) (Nat.le_refl _) ⟨hz, az, 0, hv, Heap.get?_push_size _ rfl⟩
theorem Inv.fresh (I : Inv X pins σ H s) : H s.heap.objs.size = none := I.aQ.fresh (Nat.le_refl _)
theorem Inv.Ai (I : Inv X pins σ H s) (hH : H l = some (.lst xs)) : xs.length <= sizeLine /\ ∃ (az : List Value) (n : Nat), Vals xs az /\ xs.length = az.length /\ s.heap.get? l = some { cls := .type "list", data := .seq az.toArray n } := by
 obtain ⟨z, az, n, r, e⟩ := I.aQ l _ hH
 exact ⟨z, az, n, r, r.length, e⟩
end
section
variable {X : Cx}
def lO : V -> List V -> Hp -> VK -> Prop := fun x vs H Q => ∃ l xs y, x = .ref l /\ vs = [y] /\ H l = some (.lst xs) /\ xs.length < sizeLine /\ Q .aZ (upd H l (.lst (xs ++ [y])))
theorem c7 : Js X "list.append" lO := by
 intro pins s σ H x vs v us Q I rx rv h
 obtain ⟨l, xs, y, rfl, rfl, hH, hz, q⟩ := h
 cases rx
 obtain ⟨u, rfl, ru⟩ := rv.one
 obtain ⟨z, az, n, r, hl, e⟩ := I.Ai hH
 refine call_meets F.slot_list_append ⟨_, e, rfl⟩ F.entry_list_append (F.args_list_append_2 _ _) (PySem.list_append l az.toArray n u (by rw [List.size_toArray]; omega)) ⟨e, ?_⟩
 refine ⟨.aZ, _, I.Fw (its' := az ++ [u]) hH e (by simp) (r.append (.cons ru .nil)) ?_, rfl, q⟩
 rw [List.length_append, List.length_singleton]
 omega
def A6 : R2 := fun x y H Q => ∃ l b xs zs, x = .ref l /\ y = .ref b /\ H l = some (.lst xs) /\ H b = some (.lst zs) /\ xs.length + zs.length <= sizeLine /\ ∀ p, H p = none -> Q (.ref p) (upd H p (.lst (xs ++ zs)))
theorem sI : gf X (binaryOp .Add) A6 := by
 intro pins s σ H x y v u Q I rx ry h
 obtain ⟨l, b, xs, zs, rfl, rfl, hH, hB, hz, q⟩ := h
 cases rx
 cases ry
 obtain ⟨z, az, n, r, hl, e⟩ := I.Ai hH
 obtain ⟨z2, t4, n2, r2, qf, e2⟩ := I.Ai hB
 refine PySem.P.add_list e e2 ?_ (by rw [List.size_toArray, List.size_toArray]; omega)
 have ea : az.toArray ++ t4.toArray = (az ++ t4).toArray := by simp
 rw [ea]
 exact ⟨.ref _, _, I.Gz (t' := s.toks) (r.append r2) (by rw [List.length_append]; omega), rfl, q _ I.fresh⟩
end
section
variable {prog : Program} {w : World} {A : Around} {E : Value -> Shared -> Prop} {s : Shared}
set_option maxRecDepth 100000 in
end
section
variable {X : Cx}
end
section
variable {κ : Type} [DecidableEq κ]
def iV (ax : List (κ × V)) (k : κ) : Option V := (ax.find? fun kv => decide (kv.1 = k)).map (·.2)
def putK (ax : List (κ × V)) (k : κ) (v : V) : List (κ × V) :=
 if (ax.any fun kv => decide (kv.1 = k)) = true then ax.map (fun kv => if kv.1 = k then (kv.1, v) else kv) else ax ++ [(k, v)]
theorem iu {p : κ × V} {r : List (κ × V)} {k : κ} (e : p.1 = k) : iV (p :: r) k = some p.2 := by simp [iV, List.find?_cons, e]
theorem fA {p : κ × V} {r : List (κ × V)} {k : κ} (e : ¬ p.1 = k) : iV (p :: r) k = iV r k := by simp [iV, List.find?_cons, e]
theorem mR (k : κ) : ∀ ax : List (κ × V), (ax.any fun kv => decide (kv.1 = k)) = (iV ax k).isSome
 | [] => rfl
 | p :: r => by
   rw [List.any_cons]
   by_cases e : p.1 = k
   . simp only [iu e, decide_eq_true e, Bool.true_or, Option.isSome_some]
   . rw [fA e, decide_eq_false e, Bool.false_or]; exact mR k r
theorem jc (ax : List (κ × V)) (k : κ) (v : V) : (putK ax k v).length <= ax.length + 1 := by
 unfold putK
 split
 . rw [List.length_map]; omega
 . rw [List.length_append, List.length_cons, List.length_nil]; omega
theorem kJ.rq {o : Option V} {u : Option Value} (r : kJ o u) : o.isSome = u.isSome := by
 cases o with
 | none => cases u with
   | none => rfl
   | some _ => exact (show False from r).elim
 | some _ => cases u with
   | none => exact (show False from r).elim
   | some _ => rfl
theorem KV.val {ax : List (κ × V)} {vs : List (κ × Value)} (r : KV ax vs) (k : κ) : kJ (iV ax k) (valueAt vs k) := by
 unfold KV at r
 induction r with
 | nil => exact True.intro
 | @cons p q ps qs h t ih =>
   obtain ⟨h1, h2⟩ := h
   by_cases e : p.1 = k
   . have e' : q.1 = k := h1.symm.trans e
     have b : valueAt (q :: qs) k = some q.2 := by simp [valueAt, List.find?_cons, e']
     rw [iu e, b]; exact h2
   . have e' : ¬ q.1 = k := fun z => e (h1.trans z)
     have b : valueAt (q :: qs) k = valueAt qs k := by simp [valueAt, List.find?_cons, e']
     rw [fA e, b]; exact ih
theorem KV.any {ax : List (κ × V)} {vs : List (κ × Value)} (r : KV ax vs) (k : κ) : (ax.any fun kv => decide (kv.1 = k)) = vs.any fun kv => decide (kv.1 = k) := by
 unfold KV at r
 induction r with
 | nil => rfl
 | cons h t ih => rw [List.any_cons, List.any_cons, ih, h.1]
theorem KV.repl {ax : List (κ × V)} {vs : List (κ × Value)} (r : KV ax vs) (k : κ) {y : V} {u : Value} (ry : RelV y u) :
 KV (ax.map fun kv => if kv.1 = k then (kv.1, y) else kv) (vs.map fun kv => if kv.1 = k then (kv.1, u) else kv) := by
 unfold KV at r ⊢
 induction r with
 | nil => exact .nil
 | @cons p q ps qs h t ih =>
   rw [List.map_cons, List.map_cons]
   refine .cons ?_ ih
   obtain ⟨h1, h2⟩ := h
   by_cases e : p.1 = k
   . rw [if_pos e, if_pos (h1.symm.trans e)]; exact ⟨h1, ry⟩
   . rw [if_neg e, if_neg (fun z => e (h1.trans z))]; exact ⟨h1, h2⟩
theorem KV.put {ax : List (κ × V)} {vs : List (κ × Value)} (r : KV ax vs) (k : κ) {y : V} {u : Value} (ry : RelV y u) : KV (putK ax k y) (stored vs k u) := by
 unfold putK stored
 rw [r.any k]
 by_cases e : (vs.any fun kv => decide (kv.1 = k)) = true
 . rw [if_pos e, if_pos e]; exact r.repl k ry
 . rw [if_neg e, if_neg e]; exact Paired.snoc r ⟨rfl, ry⟩
theorem KV.length {ax : List (κ × V)} {vs : List (κ × Value)} (r : KV ax vs) : ax.length = vs.length := Paired.length r
end
theorem tN {P : Program} {w : World} {k : Key} {u : Value} (r : RelV (kV k) u) : (bb P w).is k u = true := by
 cases k with
 | inl i => obtain ⟨t, e⟩ := (show ∃ t, u = Value.int i t from r); subst e; exact mP P w i t
 | inr x => obtain ⟨t, e⟩ := (show ∃ t, u = Value.str x t from r); subst e; exact nA P w x t
theorem k9 {P : Program} {w : World} : ∀ {ks : List Key} {us : List Value}, Vals (ks.map kV) us -> ItemsAre (bb P w) ks us
 | [], _, r => by rw [List.map_nil] at r; cases r; exact .nil
 | k :: ks, _, r => by
   rw [List.map_cons] at r
   cases r with
   | cons h t => exact .cons (tN h) (k9 t)
abbrev KT (H : Hp) : List (List Key × V) -> List (List Key × Addr × Value) -> Prop := Paired fun p q => p.1 = q.1 /\ H q.2.1 = some (.tup (p.1.map kV)) /\ RelV p.2 q.2.2
theorem KT.val {H : Hp} {ax : List (List Key × V)} {xs : List (List Key × Addr × Value)} (r : KT H ax xs) (k : List Key) : kJ (iV ax k) ((atKey xs k).map (·.2)) := by
 induction r with
 | nil => exact True.intro
 | @cons p q ps qs h t ih =>
   obtain ⟨h1, _, h2⟩ := h
   by_cases e : p.1 = k
   . have e' : q.1 = k := h1.symm.trans e
     have b : atKey (q :: qs) k = some q.2 := by simp [atKey, List.find?_cons, e']
     rw [iu e, b]; exact h2
   . have e' : ¬ q.1 = k := fun z => e (h1.trans z)
     have b : atKey (q :: qs) k = atKey qs k := by simp [atKey, List.find?_cons, e']
     rw [fA e, b]; exact ih
theorem KT.repl {H : Hp} {ax : List (List Key × V)} {xs : List (List Key × Addr × Value)} (r : KT H ax xs) (k : List Key) {y : V} {u : Value} (ry : RelV y u) :
 KT H (ax.map fun kv => if kv.1 = k then (kv.1, y) else kv) (xs.map (putAt k u)) := by
 induction r with
 | nil => exact .nil
 | @cons p q ps qs h t ih =>
   rw [List.map_cons, List.map_cons]
   refine .cons ?_ ih
   obtain ⟨h1, h2, h3⟩ := h
   unfold putAt
   by_cases e : p.1 = k
   . rw [if_pos e, if_pos (h1.symm.trans e)]; exact ⟨h1, h2, ry⟩
   . rw [if_neg e, if_neg (fun z => e (h1.trans z))]; exact ⟨h1, h2, h3⟩
theorem KT.put {H : Hp} {ax : List (List Key × V)} {xs : List (List Key × Addr × Value)} (r : KT H ax xs) (k : List Key) {b : Addr} {y : V} {u : Value} (hb : H b = some (.tup (k.map kV))) (ry : RelV y u) :
 KT H (putK ax k y) (storedH xs k b u) := by
 have e : (ax.any fun kv => decide (kv.1 = k)) = (atKey xs k).isSome := by
  rw [mR, (r.val k).rq, Option.isSome_map]
 unfold putK storedH
 rw [e]
 by_cases q : (atKey xs k).isSome = true
 . rw [if_pos q, if_pos q]; exact r.repl k ry
 . rw [if_neg q, if_neg q]; exact Paired.snoc r ⟨rfl, hb, ry⟩
theorem KT.keeps {H H' : Hp} {ax : List (List Key × V)} {xs : List (List Key × Addr × Value)} (r : KT H ax xs) (ht : ∀ b ys, H b = some (.tup ys) -> H' b = some (.tup ys)) : KT H' ax xs :=
 Paired.AK r fun _ _ z => ⟨z.1, ht _ _ z.2.1, z.2.2⟩
section
variable {P : Program} {w : World} {H : Hp} {h : Heap} {a : Addr}
theorem xY {u : HO} (ok : gN P w H h) (e : Rd H a u) : bQ P w H h a u := e.ok ok
theorem sR {ax : List (Key × V)} (ok : gN P w H h) (e : Rd H a (.dK ax)) : ax.length <= sizeLine /\ (a == sysModules) = false /\ ∃ vs, KV ax vs /\ h.DictOf (bb P w) a vs :=
 show bQ P w H h a (.dK ax) from xY ok e
theorem Cv {ax : List (Key × V)} (ok : gN P w H h) (e : H a = some (.dK ax)) : ax.length <= sizeLine /\ (a == sysModules) = false /\ ∃ vs, KV ax vs /\ h.DictOf (bb P w) a vs := sR ok (.inl e)
theorem oE {ks : List Key} (ok : gN P w H h) (e : H a = some (.tup (ks.map kV))) : (tupleKind (bb P w)).is h ks a := by
 obtain ⟨_, az, r, o, h1, h2, n, h3⟩ := (show bQ P w H h a (.tup (ks.map kV)) from ok a _ e)
 exact ⟨o, az.toArray, n, h1, h2, h3, by simpa using k9 r⟩
theorem sv {ax : List (List Key × V)} (ok : gN P w H h) (e : Rd H a (.dT ax)) : ax.length <= sizeLine /\ (a == sysModules) = false /\
 ∃ xs, KT H ax xs /\ h.DictOfH (tupleKind (bb P w)) a xs := by
 obtain ⟨z, y, xs, r, o, es, ep, h1, h2, h3, h4, h5⟩ := (show bQ P w H h a (.dT ax) from xY ok e)
 refine ⟨z, y, xs, r, o, es, ep, h1, h2, h3, h4, fun x hx => ?_, h5⟩
 have all : ∀ {l : List (List Key × V)} {m : List (List Key × Addr × Value)}, KT H l m -> ∀ x ∈ m, (tupleKind (bb P w)).is h x.1 x.2.1 := by
  intro l m q
  induction q with
  | nil => intro x hx; exact nomatch hx
  | @cons p q ps qs hq t ih =>
    intro x hx
    rcases List.mem_cons.mp hx with e | hx
    . subst e
      exact oE ok (by rw [<- hq.1]; exact hq.2.1)
    . exact ih x hx
 exact all r x hx
theorem C6 {ax : List (List Key × V)} (ok : gN P w H h) (e : H a = some (.dT ax)) : ax.length <= sizeLine /\ (a == sysModules) = false /\
 ∃ xs, KT H ax xs /\ h.DictOfH (tupleKind (bb P w)) a xs := sv ok (.inl e)
end
def nu (H : Hp) (a : Addr) (y : V) (r : Option V) : Prop :=
 (∃ ax k, Rd H a (.dK ax) /\ y = kV k /\ r = iV ax k) \/ ∃ ax k b, Rd H a (.dT ax) /\ y = .ref b /\ H b = some (.tup (k.map kV)) /\ r = iV ax k
def oo (H : Hp) (a : Addr) (y v : V) (H' : Hp) : Prop :=
 (∃ ax k, H a = some (.dK ax) /\ y = kV k /\ ax.length < sizeLine /\ H' = upd H a (.dK (putK ax k v))) \/
 ∃ ax k b, H a = some (.dT ax) /\ y = .ref b /\ H b = some (.tup (k.map kV)) /\ ax.length < sizeLine /\ H' = upd H a (.dT (putK ax k v))
theorem nu.k {H : Hp} {a : Addr} {ax : List (Key × V)} {k : Key} (e : H a = some (.dK ax)) : nu H a (kV k) (iV ax k) := .inl ⟨ax, k, .inl e, rfl, rfl⟩
theorem oo.k {H : Hp} {a : Addr} {ax : List (Key × V)} {k : Key} {v : V} (e : H a = some (.dK ax)) (hl : ax.length < sizeLine) : oo H a (kV k) v (upd H a (.dK (putK ax k v))) := .inl ⟨ax, k, e, rfl, hl, rfl⟩
section
variable {X : Cx} {pins : List (Addr × Obj)} {σ : St} {H : Hp} {s : Shared} {a : Addr} {y v : V} {u r : Value} {o : Option V} {A : Around} {E : Value -> Shared -> Prop}
theorem Inv.big (I : Inv X pins σ H s) : sysModules < s.heap.objs.size := by
 have h : mainGlobals < s.heap.objs.size := (I.mod.glob.keeps I.bk).lt
 exact Nat.lt_trans (by decide) h
theorem qw {Q : Value -> Shared -> Prop} (hu : A.units + 1 < cLine) (I : Inv X pins σ H s) (g : nu H a y (some v)) (ry : RelV y u) (h : ∀ w' s', Inv X pins σ H s' -> RelV v w' -> Q w' s') :
 wpAny (model X.prog X.w) A (getItem (.ref a) u) Q E s := by
 rcases g with ⟨ax, k, e, ey, l⟩ | ⟨ax, k, b, e, ey, eb, l⟩
 . subst ey
   obtain ⟨z, hd, vs, rel, dd⟩ := sR I.aQ e
   obtain ⟨w', hw, uQ⟩ := kJ.some_of (v := v) (o := valueAt vs k) (by rw [l]; exact rel.val k)
   exact wpAny_getItem_of (tN ry) dd.mapOf hw (h w' _ (I.tok _) uQ)
 . subst ey
   cases (show u = Value.ref b from ry)
   obtain ⟨z, hd, xs, rel, dd⟩ := sv I.aQ e
   obtain ⟨w', hw, uQ⟩ := kJ.some_of (v := v) (o := (atKey xs k).map (·.2)) (by rw [l]; exact rel.val k)
   obtain ⟨p, hp, rL⟩ := Option.map_eq_some_iff.mp hw
   refine wpAny_getItem_heap (tupleKind_room_in1 hu) (oE I.aQ eb) dd hp ?_
   rw [rL]
   exact h w' _ (I.tok _) uQ
theorem pB {h' : Heap} {t' : Nat} {ob : HO} (I : Inv X pins σ H s) (mu : DI (H a)) (hs : Heap.SameBut a s.heap h') (he : ∃ q, h'.get? a = some q) (new : bQ X.prog X.w (upd H a ob) h' a ob) :
 Inv X pins σ (upd H a ob) { s with heap := h', toks := t' } :=
 I.write (x := a) (e := a) mu (.inl rfl) (fun b q hb z => (hs.2 b hb).trans z) he new
theorem Ap {P : Program} {w : World} {H' : Hp} {h' : Heap} {ax : List (Key × V)} {vs : List (Key × Value)} (z : ax.length <= sizeLine) (hd : (a == sysModules) = false) (rel : KV ax vs) (dd : h'.DictOf (bb P w) a vs) :
 bQ P w H' h' a (.dK ax) := ⟨z, hd, vs, rel, dd⟩
theorem qF {H' : Hp} {Q : Unit -> Shared -> Prop} (hu : A.units + 1 < cLine) (I : Inv X pins σ H s) (g : oo H a y v H') (ry : RelV y u) (rv : RelV v r) (h : ∀ s', Inv X pins σ H' s' -> Q () s') :
 wpAny (model X.prog X.w) A (setItem (.ref a) u r) Q E s := by
 rcases g with ⟨ax, k, e, ey, l, eH⟩ | ⟨ax, k, b, e, ey, eb, l, eH⟩
 . subst ey eH
   obtain ⟨z, hd, vs, rel, dd⟩ := Cv I.aQ e
   have hz : vs.length <= sizeLine := by rw [<- rel.length]; exact z
   have hl : (putK ax k v).length <= sizeLine := by have := jc ax k v; omega
   refine wpAny_setItem_pairs (hsz := hz) (tN ry) dd fun h' D9 hs => h _ ?_
   have he : ∃ q, h'.get? a = some q := let ⟨q, _, _, hq, _⟩ := D9; ⟨q, hq⟩
   exact pB I (by rw [e]; exact True.intro) hs he (Ap hl hd (rel.put k rv) D9)
 . subst ey eH
   cases (show u = Value.ref b from ry)
   obtain ⟨z, hd, xs, rel, dd⟩ := C6 I.aQ e
   have hz : xs.length <= sizeLine := by rw [<- Paired.length rel]; exact z
   have hl : (putK ax k v).length <= sizeLine := by have := jc ax k v; omega
   refine wpAny_setItem_heap (hsz := hz) (tupleKind_room_in1 hu) (oE I.aQ eb) dd fun h' D9 hs => h _ ?_
   obtain ⟨q, es, ep, hq, h2, h3, h4, _, h5⟩ := D9
   refine pB I (by rw [e]; exact True.intro) hs ⟨q, hq⟩ ⟨hl, hd, _, (rel.put k eb rv).keeps fun c ys ec => ?_, q, es, ep, hq, h2, h3, h4, h5⟩
   rw [aw (Dj ec e (fun z => nomatch z))]
   exact ec
end
section
variable {X : Cx} {pins : List (Addr × Obj)} {σ : St} {H : Hp} {s : Shared} {a : Addr} {ax : List (Key × V)} {k : Key} {u : Value} {A : Around} {E : Value -> Shared -> Prop}
end
def Cz (i : Expr) : Prop := ∀ ov iv, subscripted i false ov iv = operate [ov, iv] (getItem ov iv)
theorem wu {prog : Program} {w : World} {A : Around} {E : Value -> Shared -> Prop} {s : Shared} {env : Env} {value slice : Expr} {pos : Pos} {T id : String} {Q : Value -> Shared -> Prop}
 (hl : typeLookup (.type T) "__getitem__" = pure (some (.builtin id))) (hs : Cz slice)
 (h : wpAny (model prog w) A (eval value env) (fun o s₁ => wpAny (model prog w) A (eval slice env) (fun i s₂ => s₂.TypeIs o T /\ wpAny (model prog w) A (getItem o i) Q E s₂) E s₁) E s) :
 wpAny (model prog w) A (eval (.Subscript value slice pos) env) Q E s := by
 refine Subscript_ (wpAny_mono h (fun o s₁ h₁ => wpAny_mono h₁ (fun i s₂ h₂ => ?_) fun _ _ x => x) fun _ _ x => x)
 obtain ⟨hT, h₂⟩ := h₂
 unfold subscriptTail
 refine wpAny_bind ?_
 rw [getitemInPython_of_ne hT.not_modules]
 refine wpAny_bind (wpAny_specialOf hT hl ?_)
 have fin : wpAny (model prog w) A (subscripted slice false o i) (fun r s₃ => wpAny (model prog w) A (letTemporaryGo value o r >>= fun _ => pure r) Q E s₃) E s₂ := by
  rw [hs o i]
  exact wpAny_operating (wpAny_mono h₂ (fun r s₃ h₃ => wpAny_bind (wpAny_letTemporaryGo (wpAny_pure h₃))) fun _ _ x => x)
 first
  | exact wpAny_pure (wpAny_bind fin)
  | exact wpAny_bind (wpAny_pure (wpAny_bind fin))
  | exact wpAny_bind fin
theorem nh {X : Cx} {pins : List (Addr × Obj)} {σ : St} {H : Hp} {s : Shared} {a : Addr} {y : V} {o : Option V} (I : Inv X pins σ H s) (g : nu H a y o) : s.TypeIs (.ref a) "dict" := by
 rcases g with ⟨ax, k, e, _, _⟩ | ⟨ax, k, b, e, _, _, _⟩
 . obtain ⟨_, _, vs, _, dd⟩ := sR I.aQ e
   exact dd.typeIs
 . obtain ⟨_, _, xs, _, dd⟩ := sv I.aQ e
   exact dd.typeIs
def xQ (td ty : TE) : TE := fun σ H Q => td σ H fun x H1 => ty σ H1 fun y H2 => ∃ a v, x = .ref a /\ nu H2 a y (some v) /\ Q v H2
def yd (td ty tv : TE) : TS := fun D σ H => tv σ H fun v H1 => td σ H1 fun x H2 => ty σ H2 fun y H3 => ∃ a H4, x = .ref a /\ oo H3 a y v H4 /\ D.nx σ H4
section
variable {X : Cx} {o i e value : Expr} {pos pos' sH : Pos} {td ty tv : TE}
theorem vS (hu : X.A.units + 1 < cLine) (ho : PE X o td) (hi : PE X i ty) (hs : Cz i) : PE X (.Subscript o i pos) (xQ td ty) := by
 intro pins s σ H Q I h
 refine wu PySem.F.slot_dict_getitem.lookup hs (bF (ho pins s σ H _ I h) fun u s1 ⟨x, H1, I1, rx, q1⟩ => bF (hi pins s1 σ H1 _ I1 q1) fun iv s2 ⟨y, H2, I2, ry, a, v, ex, g, q2⟩ => ?_)
 subst ex
 obtain rfl : u = Value.ref a := rx
 exact ⟨nh I2 g, qw hu I2 g ry fun w' s3 I3 uQ => ⟨v, H2, I3, uQ, q2⟩⟩
theorem qj (hu : X.A.units + 1 < cLine) (ho : PE X o td) (hi : PE X i ty) (hv : PE X value tv) (hs : swapsWith value (some (.Subscript o i pos')) pos.line X.env = pure false) :
 PS X (.Assign [.Subscript o i pos'] value pos) (yd td ty tv) := by
 intro pins s σ H D I h
 refine wpAny_Assign_Subscript (bF (hv pins s σ H _ I h) fun r s1 ⟨v, H1, I1, rv, q1⟩ => bF (ho pins s1 σ H1 _ I1 q1) fun u s2 ⟨x, H2, I2, rx, q2⟩ => bF (hi pins s2 σ H2 _ I2 q2) fun iv s3 ⟨y, H3, I3, ry, a, H4, ex, g, q3⟩ => ?_) hs
 subst ex
 obtain rfl : u = Value.ref a := rx
 exact qF hu I3 g ry rv fun s4 I4 => ⟨σ, H4, I4, q3⟩
end
theorem sD {P : Program} {w : World} {H : Hp} (h : Heap) (hb : sysModules < h.objs.size) : bQ P w H (h.push { cls := .type "dict", data := .dict #[] }) h.objs.size (.dK []) :=
 ⟨Nat.zero_le _, beq_eq_false_iff_ne.mpr (Ne.symm (Nat.ne_of_lt hb)), [], .nil, Heap.DictOf.new h⟩
def sC : TE := fun _ H Q => ∀ p, H p = none -> Q (.ref p) (upd H p (.dK []))
section
variable {X : Cx} {pos : Pos}
theorem uM : PE X (.Dict [] [] pos) sC := fun pins s σ H Q I h =>
 wpAny_Dict_empty ⟨.ref s.heap.objs.size, _, I.laid (a := s.heap.objs.size) (o := .dK []) (t' := s.toks) (fun _ _ q => Heap.get?_push_of_some _ q) (Nat.le_refl _) (sD s.heap I.big), rfl, h _ (I.aQ.fresh (Nat.le_refl _))⟩
end
structure M1 (X : Cx) (o : Expr) (m : Str) (apos : Pos) (e : Expr) (cS : Pos) : Prop where
 base : attributeBase o m X.env (eval o X.env) = eval o X.env
 few : ((backTo cS (starEach [e] X.env)).all (fun x => !x.1) && (backToKw cS (keywordEach [] X.env)).all (fun x => x.1.isSome)
  && decide (([e] : List Expr).length + ([] : List Keyword).length + (if ([] : List Keyword).isEmpty then 0 else 1) < 30)) = true
 line : (apos.endLine == cS.line) = true
 trees : backTo cS (starEach [e] X.env) = [(false, eval e X.env)]
structure M2 (X : Cx) (o : Expr) (m : Str) (apos : Pos) (e f : Expr) (cS : Pos) : Prop where
 base : attributeBase o m X.env (eval o X.env) = eval o X.env
 few : ((backTo cS (starEach [e, f] X.env)).all (fun x => !x.1) && (backToKw cS (keywordEach [] X.env)).all (fun x => x.1.isSome)
  && decide (([e, f] : List Expr).length + ([] : List Keyword).length + (if ([] : List Keyword).isEmpty then 0 else 1) < 30)) = true
 line : (apos.endLine == cS.line) = true
 trees : backTo cS (starEach [e, f] X.env) = [(false, eval e X.env), (false, eval f X.env)]
section
variable {X : Cx} {pins : List (Addr × Obj)} {σ : St} {H : Hp} {s : Shared} {a : Addr} {y d : V} {u r : Value} {o : Option V} {A : Around} {E : Value -> Shared -> Prop}
end
section
variable {X : Cx} {o e f : Expr} {apos cS : Pos} {td ty tx : TE}
end
section
variable {X : Cx} {pins : List (Addr × Obj)} {σ : St} {H : Hp} {s : Shared} {a : Addr} {ax : List (Key × V)} {A : Around} {E : Value -> Shared -> Prop}
end
section
variable {X : Cx} {pins : List (Addr × Obj)} {σ : St} {H : Hp} {s : Shared} {a : Addr} {y : V} {u : Value} {A : Around} {E : Value -> Shared -> Prop}
end
end L2
namespace Ic
open PySem PySem.W PySem.Calls PyProof.Rows
theorem jw {P : Params} {h : Heap} : ∀ (ns : List Int) (vs : List Value), WellAll P h vs (ns.map WData.int) -> IntsAre vs ns := by
 intro ns
 induction ns with
 | nil =>
   intro vs w
   rw [List.map_nil] at w
   cases w
   exact .nil
 | cons n ns ih =>
   intro vs w
   rw [List.map_cons] at w
   cases w with
   | cons a b =>
     cases a
     exact .cons _ _ (ih _ b)
theorem rk {l : OpenLaw} {n : Nat} (hn : l.most = some n) {P : Params} {h : Heap} {args : List WData} {vals : List Value}
 (wa : l.row.toRowW.claim.pre args = true) (vx : WellAll P h vals args) :
 ∃ a vs ns, vals = [Value.ref a] /\ args = [WData.list (ns.map WData.int)] /\ h.get? a = some { cls := .type "list", data := .seq vs.toArray } /\ IntsAre vs ns /\ ns.length <= n := by
 have Bo : WShape.hasAll [] args [.list .int] = true := (pre_splitW wa).1
 have hc : l.pre.holds [] { args := args } = true := (pre_splitW wa).2
 obtain ⟨d, r, rfl, h1, h2⟩ := hasAllW_cons Bo
 obtain rfl := hasAllW_nil h2
 obtain ⟨xs, rfl, h3⟩ := hasW_list h1
 obtain ⟨ns, rfl⟩ := items_int h3
 have hlen : ns.length <= n := by
  unfold OpenLaw.pre at hc
  have h4 : (WTm.not (.lt (.lit (.int (n : Int))) (.len (.arg 0)))).holds [] { args := [.list (ns.map .int)] } = true := by
   have h4 := (holds_andW hc).1
   rw [hn] at h4
   exact h4
  have h5 := condW_of h4 (w_not (w_lt w_lit (w_len_list (w_arg rfl))))
  rw [List.length_map] at h5
  refine Nat.le_of_not_lt fun q => ?_
  have q' : (n : Int) < ((ns.length : Nat) : Int) := by omega
  first
   | (rw [decide_eq_true q'] at h5; exact absurd h5 (by decide))
   | (simp at h5; omega)
 cases vx with
 | cons w1 w2 =>
   cases w2
   cases w1 with
   | list ho zm => exact ⟨_, _, ns, rfl, rfl, ho, jw ns _ zm, hlen⟩
theorem rm (l : OpenLaw) (args : List WData) : l.row.toRowW.claim.post args (.bool true) args = true :=
 postW_of (r := l.row.toRowW) (X := (true == true))
  (show WShape.has [] (.bool true) .bool = true by first | rfl | decide | simp [WShape.has, WShape.arms, WShape.armsAll])
  (show (WTm.eq .res (.lit (.bool true))).value [] { args := args, res := some (.bool true), after := args } = some (.bool (true == true)) from w_eq_bool (w_res rfl) w_lit) rfl
theorem m9 {l : OpenLaw} {n : Nat} {q : Program} {loose : List Str} {XP : (Str -> Option Value) -> Heap -> Prop} {YP : World -> Heap -> Prop} {d : DefRec}
 (hn : l.most = some n) (C0 : d.params.defaults = [])
 (call : ∀ (w : World) (cA s₁ : Shared) (mg mb : Str -> Option Value) (fa : Addr) (o : Obj) (pm cd doc : Value) (a : Addr) (vs : List Value) (ns : List Int),
  Ground q loose [] XP w cA mg mb s₁.heap -> YP w s₁.heap ->
  s₁.heap.get? fa = some o -> o.data = .func (docDef d.name d.params d.body d.scope pm cd doc) -> s₁.heap.CodeRec cd d.name -> mg d.name = some (.ref fa) ->
  s₁.heap.get? a = some { cls := .type "list", data := .seq vs.toArray } -> IntsAre vs ns -> ns.length <= n -> s₁.gens = #[] ->
  codeAny (model l.prog w) callerA (.call (.ref fa) ⟨[.ref a], []⟩) (fun r s' => r = .ok (.ret (.bool true)) /\ OldK s₁.heap s'.heap /\ s'.os = s₁.os /\ AllBare s'.gens) s₁) :
 WalkO q loose XP YP l.row.toRowW d [] (fun f vs => PySem.call f vs) := by
 intro w cA s₁ mg mb G Y fa o pm cd doc dV kV ho hd rH hD B4 hg args vals as wa JW LA vx yG
 obtain rfl : dV = .none := Dflts.none hD C0
 obtain rfl : kV = .none := Dflts.noKw hD
 obtain ⟨a, vs, ns, rfl, rfl, z1, hints, hlen⟩ := rk hn wa vx
 refine enter_call (codeAny_mono (call w cA s₁ mg mb fa o pm cd doc a vs ns G Y ho (fd_plain hd) rH B4 z1 hints hlen hg) fun r s' hq => ?_)
 obtain ⟨rfl, h2, h3, h4⟩ := hq
 exact ⟨.inl ⟨.bool true, .bool true, [], rfl, fun _ => rfl, .bool true, rm l _, fun _ => ⟨List.Pairwise.nil, fun _ hm => (nomatch hm)⟩⟩, h2, h3, h4⟩
section
variable {prog : Program} {w : World} {A : Around} {E : Value -> Shared -> Prop} {s : Shared} {K : Frag}
end
end Ic
namespace L2
open PySem PySem.Spec PyProof.Rows
theorem iO : ∀ {vs : List Value} {ns : List Int}, IntsAre vs ns -> Vals (ns.map V.int) vs
 | _, _, .nil => .nil
 | _, _, .cons n t h => .cons ⟨t, rfl⟩ (iO h)
def xI (H : Hp) : Prop := ∀ b, H b = none \/ ∃ o xs, H b = some (.rM o (.lst xs))
theorem tY {P : Program} {w : World} {K : PySem.W.Frag} {mg mb : Str -> Option Value} {CX : mH} {k : Nat} {fa a : Addr} {fd : FuncData} {x : Str} {sp : Sp} {s₁ : Shared} {vs : List Value} {ns : List Int}
 (KX : K.In s₁.heap) (Hy : s₁.heap.Ns mainGlobals mg) (hb : s₁.heap.Ns builtinsNs mb) (FE : ∀ x : Str, x ≠ "__name__" -> mb x = bootBuiltins x) (E6 : s₁.heap.NoLimit) (hg : s₁.gens = #[])
 (ha : s₁.heap.get? a = some { cls := .type "list", data := .seq vs.toArray }) (hi : IntsAre vs ns) (hl : ns.length <= sizeLine) (hr : b3 k callerA)
 (F : ∀ base : Heap, K.In base -> base.Ns mainGlobals mg -> bJ P w K mg base CX k fa fd [x] sp) (DE : ∀ (s : Shared) (u : Value), BindsTo s fd ⟨[u], []⟩ [(x, u)])
 (u6 : ∀ H : Hp, xI H -> bh K H a (ns.map V.int) -> sp [.ref a] H (fun v _ => v = .bl true) fun _ _ _ => False)
 (CZ : ∀ H e s', CX [] H s₁ (fun _ _ _ => False) e s' -> False) :
 codeAny (model P w) callerA (.call (.ref fa) ⟨[.ref a], []⟩) (fun r s' => r = .ok (.ret (.bool true)) /\ OldK s₁.heap s'.heap /\ s'.os = s₁.os /\ AllBare s'.gens) s₁ := by
 have rv := iO hi
 have GA := hi.length
 have core : ∀ H : Hp, xI H -> bh K H a (ns.map V.int) -> gN P w H s₁.heap -> (∀ b, H b ≠ none -> b = a) -> (H a ≠ none -> K.lookup a = none) ->
  codeAny (model P w) callerA (.call (.ref fa) ⟨[.ref a], []⟩) (fun r s' => r = .ok (.ret (.bool true)) /\ OldK s₁.heap s'.heap /\ s'.os = s₁.os /\ AllBare s'.gens) s₁ := by
  intro H hO hS aQ hA hK
  have qc : ∀ {b : Addr} {o : Obj}, s₁.heap.get? b = some o -> H b = none -> (lZ s₁.heap H).get? b = some o := fun e n => uq e n
  have Cm : ∀ {b : Addr} {o : Obj} {es : Array DictEntry} {ep : Nat}, s₁.heap.get? b = some o -> o.data = .dict es ep -> H b = none := fun {b o es ep} e d => by
   cases q : H b with
   | none => rfl
   | some u =>
     have e' : b = a := hA b (by rw [q]; simp)
     subst e'
     rw [ha] at e; cases e
     have d' : Data.seq vs.toArray _ = Data.dict es ep := d
     cases d'
  have En : ∀ {b : Addr} {m : Str -> Option Value}, s₁.heap.Ns b m -> (lZ s₁.heap H).Ns b m := fun {b m} ⟨o, es, ep, e, d, r⟩ => ⟨o, es, ep, qc e (Cm e d), d, r⟩
  have Iy : K.In (lZ s₁.heap H) := fun b o e => qc (KX b o e) (by
   cases q : H b with
   | none => rfl
   | some u =>
     have e' : b = a := hA b (by rw [q]; simp)
     subst e'
     rw [hK (by rw [q]; simp)] at e; cases e)
  have hM : Mod K mg (lZ s₁.heap H) := ⟨Iy, En Hy, ⟨mb, En hb, FE⟩, let ⟨mc, h1, h2⟩ := E6; ⟨mc, En h1, h2⟩⟩
  have e0 : oZ P w K mg (lZ s₁.heap H) callerA [] s₁ H := ⟨rfl, hM, fun b o e => v8 e, Nat.le_of_eq (qB _ _), trivial, fun b hb => absurd (show b ∈ ([] : List Addr) from hb) (by simp), aQ, .of_eq hg⟩
  refine codeAny_mono ((F _ Iy (En Hy)).run callerA [] s₁ H ⟨[.ref a], []⟩ [.ref a] [.ref a] _ _ hr e0 (DE s₁ (.ref a)) (.cons rfl .nil) (u6 H hO hS)) fun r s' h => ?_
  cases r with
  | error e => exact (CZ H e s' h).elim
  | ok fl =>
    cases fl with
    | next => exact False.elim h
    | brk => exact False.elim h
    | cont => exact False.elim h
    | ret u =>
      obtain ⟨v, H', os, bare, un, E4, r', q⟩ := h
      have q' : v = .bl true := q
      subst q'
      obtain rfl : u = Value.bool true := r'
      refine ⟨rfl, OldK.of_keep fun b o e => ?_, os, bare⟩
      cases q : H b with
      | none => exact un.keep b o e q (by intro z; exact absurd (show b ∈ ([] : List Addr) from z) (by simp)) (by simp)
      | some u =>
        rcases hO b with z | ⟨ob, xs, z⟩
        . rw [q] at z; cases z
        . have z2 := un.iQ b ob _ z
          obtain ⟨e1, _⟩ := aQ b _ z
          obtain ⟨e2, _⟩ := E4 b _ z2
          rw [e] at e1; cases e1
          exact e2
 cases hk : K.lookup a with
 | some o =>
   have e := KX a o hk
   rw [ha] at e
   cases e
   refine core (fun _ => none) (fun _ => .inl rfl) (.inr ⟨_, vs.toArray, _, hk, rfl, rfl, rfl, by rw [List.size_toArray, GA]; exact hl, by simpa using rv⟩) (fun b u z => by have z' : (none : Option HO) = some u := z; cases z') (fun b z => absurd rfl z) fun z => absurd rfl z
 | none =>
   refine core (fun b => if b = a then some (.rM { cls := .type "list", data := .seq vs.toArray } (.lst (ns.map V.int))) else none) (fun b => ?_) (.inl (.inr ⟨{ cls := .type "list", data := .seq vs.toArray }, if_pos rfl⟩)) (fun b u z => ?_) (fun b z => ?_) fun _ => hk
   . by_cases hb : b = a
     . exact .inr ⟨_, _, if_pos hb⟩
     . exact .inl (if_neg hb)
   . by_cases hb : b = a
     . have z' := (if_pos hb).symm.trans z
       cases z'
       subst hb
       exact ⟨ha, by rw [List.length_map]; exact hl, vs, _, rv, ha⟩
     . have z' := (if_neg hb).symm.trans z
       cases z'
   . by_cases hb : b = a
     . exact hb
     . exact absurd (if_neg hb) z
abbrev Il {K : PySem.W.Frag} {h : Heap} (_ : K.In h) : PySem.W.Frag := K
theorem wF {l : PySem.W.OpenLaw} {n k : Nat} {q : Program} {loose : List Str} {XP : (Str -> Option Value) -> Heap -> Prop} {YP : World -> Heap -> Prop} {d : DefRec} {K : Params -> PySem.W.Frag} {CX : World -> mH} {sp : World -> Sp} {x : Str}
 (hn : l.most = some n) (mF : n <= sizeLine) (C0 : d.params.defaults = []) (hr : b3 k callerA)
 (hY : ∀ (w : World) (h : Heap), YP w h -> (K w.params).In h)
 (F : ∀ (w : World) (mg : Str -> Option Value) (fa : Addr) (h : Heap), (K w.params).In h -> h.Ns mainGlobals mg -> mg d.name = some (.ref fa) ->
  ∃ fd : FuncData, (∀ (s : Shared) (u : Value), BindsTo s fd ⟨[u], []⟩ [(x, u)]) /\
    ∀ base : Heap, (K w.params).In base -> base.Ns mainGlobals mg -> bJ l.prog w (K w.params) mg base (CX w) k fa fd [x] (sp w))
 (u6 : ∀ (w : World) (H : Hp) (a : Addr) (ns : List Int), ns.length <= n -> xI H -> bh (K w.params) H a (ns.map V.int) -> sp w [.ref a] H (fun v _ => v = .bl true) fun _ _ _ => False)
 (CZ : ∀ (w : World) (H : Hp) (s : Shared) (e : Value) (s' : Shared), CX w [] H s (fun _ _ _ => False) e s' -> False) :
 PySem.W.WalkO q loose XP YP l.row.toRowW d [] (fun f vs => PySem.call f vs) := by
 refine Ic.m9 hn C0 fun w cA s₁ mg mb fa o pm cd doc a vs ns G Y ho hd rH B4 z1 hints hlen hg => ?_
 have KX := hY w _ Y
 obtain ⟨fd, hb, hF⟩ := F w mg fa _ KX G.T.g B4
 exact tY KX G.T.g G.T.b G.T.builtins G.T.nolimit hg z1 hints (Nat.le_trans hlen mF) hr hF hb (fun H hO hS => u6 w H a ns hlen hO hS) fun H e s' => CZ w H s₁ e s'
theorem rW {l : PySem.W.OpenLaw} {n k : Nat} {q : Program} {loose : List Str} {XP : (Str -> Option Value) -> Heap -> Prop} {YP : World -> Heap -> Prop} {d : DefRec} {K : Params -> PySem.W.Frag} {CX : mH} {sp : PySem.W.Frag -> Sp} {x : Str}
 (hn : l.most = some n) (mF : n <= sizeLine) (C0 : d.params.defaults = []) (hr : b3 k callerA)
 (hY : ∀ (w : World) (h : Heap), YP w h -> (K w.params).In h)
 (F : ∀ (w : World) (mg : Str -> Option Value) (fa : Addr) (h : Heap), (K w.params).In h -> h.Ns mainGlobals mg -> mg d.name = some (.ref fa) ->
  ∃ fd : FuncData, (∀ (s : Shared) (u : Value), BindsTo s fd ⟨[u], []⟩ [(x, u)]) /\
    ∀ base : Heap, (K w.params).In base -> base.Ns mainGlobals mg -> bJ l.prog w (K w.params) mg base CX k fa fd [x] (sp (K w.params)))
 (u6 : ∀ (K : PySem.W.Frag) (H : Hp) (a : Addr) (ns : List Int), ns.length <= n -> xI H -> bh K H a (ns.map V.int) -> sp K [.ref a] H (fun v _ => v = .bl true) fun _ _ _ => False)
 (CZ : ∀ (H : Hp) (s : Shared) (e : Value) (s' : Shared), CX [] H s (fun _ _ _ => False) e s' -> False) :
 PySem.W.WalkO q loose XP YP l.row.toRowW d [] (fun f vs => PySem.call f vs) :=
 wF (K := K) (CX := fun _ => CX) (sp := fun w => sp (K w.params)) hn mF C0 hr hY F (fun w H a ns h1 h2 h3 => u6 (K w.params) H a ns h1 h2 h3) fun _ H s e s' => CZ H s e s'
def iC (s : Stmt) : Arguments := match s with
 | .FunctionDef _ a _ _ _ _ _ _ _ _ => a
 | _ => { posonlyargs := [], args := [], vararg := none, kwonlyargs := [], kw_defaults := [], kwarg := none, defaults := [] }
def fX (s : Stmt) : List Stmt := match s with
 | .FunctionDef _ _ b _ _ _ _ _ _ _ => b
 | _ => []
def ak (s : Stmt) : Scope := match s with
 | .FunctionDef _ _ _ _ _ _ sc _ _ _ => sc
 | _ => { kind := .function, names := [], isGenerator := false, isCoroutine := false }
abbrev ic : mH := fun _ _ _ _ _ _ => False
abbrev E0 : XK := fun _ _ _ => False
theorem BH {X : Cx} : Passes ic X E0 := fun _ _ _ _ _ _ _ h => h.elim
structure LR (K : PySem.W.Frag) (x qual : Str) (st : Stmt) (f : Addr) (fd : FuncData) : Prop where
 ex : ∃ (oc : Value) (od : Option Addr) (kV doc pm : Value) (an : Option Addr) (cV ct : Value) (r9 : Array (Option Value)),
  fd = PySem.W.fnOf x qual (iC st) (fX st) (ak st) .none kV doc pm an cV ct /\ K.lookup f = some ⟨oc, od, .func fd, r9⟩ /\ PySem.W.codeIn K cV qual = true
 kp : PySem.W.keepIn K (.ref f) = true
section
variable {P : Program} {w : World} {K : PySem.W.Frag} {mg : Str -> Option Value} {base : Heap}
end
theorem tf {A : Around} {k : Nat} (hr : b3 k A) : A.units + 1 < cLine := Nat.lt_of_le_of_lt (Nat.add_le_add_left (by decide : 1 <= 64) _) hr.units
section
variable {X : Cx}
theorem pv (i : Nat) {x : Str} {pos : Pos} (hN : X.N[i]? = some x := by rfl) (hv : Cj X.env.scope x := by first | exact Or.inl rfl | exact Or.inr (Or.inl rfl) | exact Or.inr (Or.inr rfl)) (hd : (x == ("__debug__" : Str)) = false := by decide)
 (rH : (x == ("__classdict__" : Str)) = false := by decide) : PE X (.Name x pos) (yU i) := zW hN hv hd rH
end
theorem EI {A B : Prop} (h : B) : if false = true then A else B := by
 rw [if_neg Bool.false_ne_true]
 exact h
theorem GX {A B : Prop} (h : A) : if true = true then A else B := by
 rw [if_pos rfl]
 exact h
def ag (H H' : Hp) : Prop := ∀ b o, H b = some o -> H' b = some o
theorem ag.refl (H : Hp) : ag H H := fun _ _ h => h
theorem ag.trans {H H1 H2 : Hp} (a : ag H H1) (b : ag H1 H2) : ag H H2 := fun c o h => b c o (a c o h)
theorem ag.seq {K : PySem.W.Frag} {H H' : Hp} {a : Addr} {xs : List V} (e : ag H H') (h : bh K H a xs) : bh K H' a xs := by
 rcases h with (h | ⟨o, h⟩) | h
 . exact .inl (.inl (e _ _ h))
 . exact .inl (.inr ⟨o, e _ _ h⟩)
 . exact .inr h
section
variable {κ : Type} [DecidableEq κ]
end
section
variable {X : Cx}
def qq (i j : Int) : Prop := i.natAbs < 2 ^ 2000 /\ j.natAbs < 2 ^ 2000
theorem qq.ok {i j : Int} (h : qq i j) : IntMulOk i j := by
 have h1 : Builtin.Int.intBits i <= 2000 := PyProof.Rows.intBits_le h.1
 have h2 : Builtin.Int.intBits j <= 2000 := PyProof.Rows.intBits_le h.2
 have h3 : Builtin.Int.intTooBig ((Builtin.Int.intBits i + Builtin.Int.intBits j : Nat) : Int) = false := by
  unfold Builtin.Int.intTooBig
  have : (bitsLine : Nat) = 134217728 := rfl
  refine decide_eq_false ?_
  omega
 unfold IntMulOk
 have h4 : Builtin.Int.intTooBig (Builtin.Int.intBits i + Builtin.Int.intBits j) = false := by
  have e : ((Builtin.Int.intBits i : Int) + (Builtin.Int.intBits j : Int)) = ((Builtin.Int.intBits i + Builtin.Int.intBits j : Nat) : Int) := by omega
  rw [e]; exact h3
 rw [h4]
 simp
theorem b5 : gf X (binaryOp .Mult) (rI qq fun i j => .int (i * j)) := DY fun _ _ _ _ _ _ _ hc q => mul_int q hc.ok
def yo (_ j : Int) : Prop := 0 < j /\ j.natAbs < 2 ^ 2000
theorem aM : gf X (binaryOp .FloorDiv) (rI yo fun i j => .int (i / j)) := DY fun i j _ _ _ _ _ hc q => by
 have e : i.fdiv j = i / j := Int.fdiv_eq_ediv_of_nonneg _ (Int.le_of_lt hc.1)
 have hl : j.natAbs.log2 < 9000 := by
  have h0 : j.natAbs ≠ 0 := by have := hc.1; omega
  have h2 : j.natAbs.log2 < 2000 := (Nat.log2_lt h0).mpr hc.2
  omega
 refine floordiv_int (by have := hc.1; omega) ?_ (.inl (PyProof.noPylong_of_log2 hl))
 rw [e]; exact q
inductive C9 : V -> Value -> Prop where
 | ty (n : String) : C9 (.ty n) (.type n)
 | ref (C : Addr) : C9 (.ref C) (.ref C)
structure IH (K : PySem.W.Frag) (C : Addr) (m : Str) (f : Addr) : Prop where
 ga : PySem.W.specialIn K (.ref C) "__getattribute__" = some (some (.builtin "type.__getattribute__"))
 rd : PySem.W.readsIn K C (.type "type") = true
 fd : PySem.W.findCls K (.ref C) (.type "type") m = some (.val (.ref f))
 kp : PySem.W.keepIn K (.ref f) = true
end
mutual
inductive fL (K : PySem.W.Frag) (H : Hp) : V -> PyData -> Prop where
 | aZ : fL K H .aZ .none
 | bl (b : Bool) : fL K H (.bl b) (.bool b)
 | int (i : Int) : fL K H (.int i) (.int i)
 | str (x : Str) : fL K H (.str x) (.str x)
 | tup {a : Addr} {xs : List V} {ds : List PyData} (h : mW K H a xs) (r : cM K H xs ds) : fL K H (.ref a) (.tuple ds)
 | lst {a : Addr} {xs : List V} {ds : List PyData} (h : bh K H a xs) (r : cM K H xs ds) : fL K H (.ref a) (.list ds)
inductive cM (K : PySem.W.Frag) (H : Hp) : List V -> List PyData -> Prop where
 | nil : cM K H [] []
 | cons {x : V} {d : PyData} {xs : List V} {ds : List PyData} (h : fL K H x d) (r : cM K H xs ds) : cM K H (x :: xs) (d :: ds)
end
theorem mW.keeps {K : PySem.W.Frag} {H H' : Hp} {a : Addr} {xs : List V} (e : ag H H') (h : mW K H a xs) : mW K H' a xs := by
 rcases h with (h | ⟨o, h⟩) | h
 . exact .inl (.inl (e _ _ h))
 . exact .inl (.inr ⟨o, e _ _ h⟩)
 . exact .inr h
mutual
theorem fL.keeps {K : PySem.W.Frag} {H H' : Hp} (e : ag H H') : ∀ {v : V} {d : PyData}, fL K H v d -> fL K H' v d
 | _, _, .aZ => .aZ
 | _, _, .bl b => .bl b
 | _, _, .int i => .int i
 | _, _, .str x => .str x
 | _, _, .tup h r => .tup (mW.keeps e h) (cM.keeps e r)
 | _, _, .lst h r => .lst (ag.seq e h) (cM.keeps e r)
theorem cM.keeps {K : PySem.W.Frag} {H H' : Hp} (e : ag H H') : ∀ {vs : List V} {ds : List PyData}, cM K H vs ds -> cM K H' vs ds
 | _, _, .nil => .nil
 | _, _, .cons h r => .cons (fL.keeps e h) (cM.keeps e r)
end
section
variable {X : Cx} {pins : List (Addr × Obj)} {σ : St} {H : Hp} {s : Shared}
mutual
theorem fL.reads (I : Inv X pins σ H s) : ∀ {v : V} {d : PyData} {u : Value}, fL X.K H v d -> RelV v u -> ∃ as, Reads s.heap u d as
 | _, _, _, .aZ, r => by cases r; exact ⟨_, .none⟩
 | _, _, _, .bl b, r => by cases r; exact ⟨_, .bool b⟩
 | _, _, _, .int i, r => by obtain ⟨t, rfl⟩ := r; exact ⟨_, .int i t⟩
 | _, _, _, .str x, r => by obtain ⟨t, rfl⟩ := r; exact ⟨_, .str x t⟩
 | _, _, _, .tup h q, r => by
   cases r
   obtain ⟨az, rv, ⟨o, h1, h2, n, h3⟩, _⟩ := I.tuple h
   obtain ⟨as, ra⟩ := cM.reads I q rv
   exact ⟨_, .tuple h1 h2 h3 (by simpa using ra)⟩
 | _, _, _, .lst h q, r => by
   cases r
   obtain ⟨az, rv, ⟨o, n, h1, h2, _, h3⟩, _⟩ := I.list h
   obtain ⟨as, ra⟩ := cM.reads I q rv
   exact ⟨_, .list h1 h2 h3 (by simpa using ra)⟩
theorem cM.reads (I : Inv X pins σ H s) : ∀ {vs : List V} {ds : List PyData} {us : List Value}, cM X.K H vs ds -> Vals vs us -> ∃ as, ReadsAll s.heap us ds as
 | _, _, _, .nil, r => by cases r; exact ⟨_, .nil⟩
 | _, _, _, .cons h q, r => by
   cases r with
   | cons r1 r2 =>
     obtain ⟨as, ra⟩ := fL.reads I h r1
     obtain ⟨bs, rb⟩ := cM.reads I q r2
     exact ⟨_, .cons ra rb⟩
end
end
section
variable {X : Cx}
def Dz (K : PySem.W.Frag) (f : Bool -> Bool) : R2 := fun x y H Q => ∃ d e, fL K H x d /\ fL K H y e /\ d.canLay0 = true /\ e.canLay0 = true /\ d.depth <= 8 /\ Q (.bl (f (PyData.eqv d e))) H
theorem Al (hu : X.A.units + 8 < cLine) : gf X (compareOp .Eq) (Dz X.K id) := by
 intro pins s σ H x y v u Q I rx ry h
 obtain ⟨d, e, hd, he, c1, c2, hn, q⟩ := h
 obtain ⟨as, ra⟩ := hd.reads I rx
 obtain ⟨bs, rb⟩ := he.reads I ry
 exact SeqAt.compareEq_reads ra rb c1 c2 (by have := Nat.min_le_left d.depth e.depth; omega) ⟨.bl _, H, I, rfl, q⟩
theorem zR (hu : X.A.units + 8 < cLine) : gf X (compareOp .NotEq) (Dz X.K not) := by
 intro pins s σ H x y v u Q I rx ry h
 obtain ⟨d, e, hd, he, c1, c2, hn, q⟩ := h
 obtain ⟨as, ra⟩ := hd.reads I rx
 obtain ⟨bs, rb⟩ := he.reads I ry
 exact SeqAt.compareNe_reads ra rb c1 c2 (by have := Nat.min_le_left d.depth e.depth; omega) ⟨.bl _, H, I, rfl, q⟩
end
structure ki (P : Program) (w : World) (K : PySem.W.Frag) (mg : Str -> Option Value) (base : Heap) (k : Nat) (f : Addr) (ps : List Str) (gO : List V) (sp : Sp) : Prop where
 ex : ∃ (fd : FuncData) (ds : List Value), bJ P w K mg base ic k f fd ps sp /\ Binds K fd ps ds /\ Vals gO ds
section
variable {X : Cx} {k : Nat} {f C : Addr} {ps : List Str} {sp : Sp} {gO : List V} {x m : Str} {p pos apos : Pos} {e o : Expr} {es : List Expr} {ta : TE} {t : TA}
theorem xh (c : ki X.prog X.w X.K X.mg X.base k f ps gO sp) (hr : b3 k X.A) (hg : Gl X x) (hm : X.mg x = some (.ref f)) (hk : PySem.W.keepIn X.K (.ref f) = true)
 (ha : PA X (e :: es) t) (vR : (x == ("__debug__" : Str)) = false := by decide) (he : starEach (e :: es) X.env = (false, eval e X.env) :: starEach es X.env := by rfl) (mE : (backTo pos (starEach es X.env)).any (·.1) = false := by rfl) :
 PE X (.Call (.Name x p) (e :: es) [] pos) (pC sp gO E0 t) := by
 obtain ⟨fd, ds, F, hb, hd⟩ := c.ex
 exact vA F hr hg hm hk hb hd BH ha vR he mE
end
structure cw (K : PySem.W.Frag) (x qual : Str) (st : Stmt) (f : Addr) (dV : Value) (fd : FuncData) : Prop where
 ex : ∃ (oc : Value) (od : Option Addr) (kV doc pm : Value) (an : Option Addr) (cV ct : Value) (r9 : Array (Option Value)),
  fd = PySem.W.fnOf x qual (iC st) (fX st) (ak st) dV kV doc pm an cV ct /\ K.lookup f = some ⟨oc, od, .func fd, r9⟩ /\ PySem.W.codeIn K cV qual = true
theorem vX {K : PySem.W.Frag} {x qual : Str} {st : Stmt} {f : Addr} {oc : Value} {od an : Option Addr} {r9 : Array (Option Value)} {dV kV doc pm cV ct : Value} (l : K.lookup f = some ⟨oc, od, .func (PySem.W.fnOf x qual (iC st) (fX st) (ak st) dV kV doc pm an cV ct), r9⟩)
 (c : PySem.W.codeIn K cV qual = true) : cw K x qual st f dV (PySem.W.fnOf x qual (iC st) (fX st) (ak st) dV kV doc pm an cV ct) := ⟨⟨oc, od, kV, doc, pm, an, cV, ct, r9, rfl, l, c⟩⟩
section
variable {P : Program} {w : World} {K : PySem.W.Frag} {mg : Str -> Option Value} {base : Heap}
theorem cw.ok {x qual : Str} {st : Stmt} {f : Addr} {dV : Value} {fd : FuncData} {N ps : List Str} {k : Nat} {sp : Sp} (F : cw K x qual st f dV fd) (S : aJ N ps (ak st)) (len : ∀ vs H Q E, sp vs H Q E -> vs.length = ps.length)
 (kU : ∀ (cV : Value) (A : Around) (outer : List Env) (s : Shared) (H : Hp) (vs : List V) (Q : VK) (E : XK), b3 k (A.deeper (envOfC qual (ak st) s.heap.objs.size f cV)) -> sp vs H Q E ->
  ∃ t, nM (rB ic P w K mg base N qual (ak st) f cV A outer s H E).Eo (fX st) t /\ t { nx := fun _ H' => Q .aZ H', rt := Q } (start N vs) H) : bJ P w K mg base ic (k + 1) f fd ps sp := by
 obtain ⟨oc, od, kV, doc, pm, an, cV, ct, r9, rfl, lk, rH⟩ := F.ex
 refine BI lk rH S len fun A outer s H vs Q E hr u6 => ?_
 obtain ⟨t, h, q⟩ := kU cV A outer s H vs Q E hr u6
 exact ⟨t, h.Eo, q⟩
theorem cw.binds {x qual : Str} {st : Stmt} {f : Addr} {dV : Value} {fd : FuncData} {ps : List Str} {ds : List Value} (F : cw K x qual st f dV fd)
 (h : ∀ (kV doc pm : Value) (an : Option Addr) (cV ct : Value), Binds K (PySem.W.fnOf x qual (iC st) (fX st) (ak st) dV kV doc pm an cV ct) ps ds) : Binds K fd ps ds := by
 obtain ⟨oc, od, kV, doc, pm, an, cV, ct, r9, rfl, lk, rH⟩ := F.ex
 exact h kV doc pm an cV ct
end
structure Lf (K : PySem.W.Frag) (T : Addr) (items : Array Value) : Prop where
 ex : ∃ (o : Obj) (n : Nat), K.lookup T = some o /\ o.data = .seq items n
structure Di (K : PySem.W.Frag) (C : Addr) : Prop where
 ha : PySem.W.findIn K (.ref C) "__class__" = some (some (.builtin "object.__class__"))
 hn : PySem.W.specialIn K (.builtin "object.__class__") "__get__" = some (some (.builtin "getset_descriptor.__get__"))
 ht : PySem.W.takesIn K (.builtin "object.__class__") = some true
 hm : PySem.W.mroIn K C (.type "object") = some true
section
variable {σ : St} {H : Hp} {Q : VK} {D : Ends} {K : PySem.W.Frag}
theorem zS (h : D.nx σ H) : x4 D σ H := h
theorem CI {te : TE} (h : te σ H D.rt) : CW te D σ H := h
theorem zH {te : TE} (h : te σ H fun _ H1 => D.nx σ H1) : ym te D σ H := h
theorem BU {c : TT} {t u : TS} (h : c σ H fun b H1 => if b = true then t D σ H1 else u D σ H1) : BM c t u D σ H := h
theorem C5 {te : TE} {i : Nat} (h : te σ H fun x H1 => D.nx (σ.set i (some x)) H1) : sF te (di i) D σ H := h
theorem C2 {i : Nat} {v : V} (e : σ[i]? = some (some v)) (h : Q v H) : yU i σ H Q := ⟨v, e, h⟩
theorem J1 {v : V} (h : Q v H) : tC v σ H Q := h
theorem Fy {r : R2} {ta tb : TE} (h : ta σ H fun x H1 => tb σ H1 fun y H2 => r x y H2 Q) : Dm r ta tb σ H Q := h
theorem EY {g : Int -> Int -> V} {i j : Int} (h : Q (g i j) H) : yb g (.int i) (.int j) H Q := ⟨i, j, rfl, rfl, h⟩
theorem K3 {C : Int -> Int -> Prop} {g : Int -> Int -> V} {i j : Int} (c : C i j) (h : Q (g i j) H) : rI C g (.int i) (.int j) H Q := ⟨i, j, rfl, rfl, c, h⟩
theorem zc {t : TE} {Q : Bool -> Hp -> Prop} (h : t σ H fun x H' => ∃ k, x = .bl k /\ Q k H') : uY t σ H Q := h
theorem DP {t u : TT} {Q : Bool -> Hp -> Prop} (h : t σ H fun c H1 => if c = true then u σ H1 Q else Q false H1) : CY t u σ H Q := h
theorem G0 {t u : TT} {Q : Bool -> Hp -> Prop} (h : t σ H fun c H1 => if c = true then Q true H1 else u σ H1 Q) : HP t u σ H Q := h
theorem Dc {t : TT} {Q : Bool -> Hp -> Prop} (h : t σ H fun c H1 => Q (!c) H1) : Dk t σ H Q := h
theorem GC {b : Bool} {R : Bool -> Prop} (h : R b) : ∃ k, V.bl b = .bl k /\ R k := ⟨b, rfl, h⟩
theorem DT {Q : List V -> Hp -> Prop} (h : Q [] H) : yN σ H Q := h
theorem yK {ta : TE} {tr : TA} {Q : List V -> Hp -> Prop} (h : ta σ H fun x H1 => tr σ H1 fun xs H2 => Q (x :: xs) H2) : tD ta tr σ H Q := h
theorem Fl {r : List V -> Hp -> VK -> Prop} {t : TA} (h : t σ H fun vs H1 => r vs H1 Q) : FG r t σ H Q := h
theorem sy {A B : Prop} (h : A) : if true = true then A else B := by rw [if_pos rfl]; exact h
theorem qW {A B : Prop} (h : B) : if false = true then A else B := by rw [if_neg Bool.false_ne_true]; exact h
end
section
variable {X : Cx} {e : Expr} {es : List Expr}
theorem PE.weak {t u : TE} (h1 : PE X e t) (h : ∀ σ H Q, u σ H Q -> t σ H Q) : PE X e u := fun pins s σ H Q I q => h1 pins s σ H Q I (h σ H Q q)
def mA (t : TA) : TA := fun σ H Q => ∃ Q' : List V -> Hp -> Prop, t σ H Q' /\ ∀ v H', Q' v H' -> Q v H'
theorem PA.m {t : TA} (h : PA X es t) : PA X es (mA t) := fun pos pins s σ H Q I ⟨Q', q, m⟩ => bF (h pos pins s σ H Q' I q) fun _ _ ⟨v, H', I', r, z⟩ => ⟨v, H', I', r, m v H' z⟩
end
def EG : Key -> PyData
 | .inl i => .int i
 | .inr x => .str x
mutual
inductive Dv (H : Hp) : V -> PyData -> Prop where
 | aZ : Dv H .aZ .none
 | bl (b : Bool) : Dv H (.bl b) (.bool b)
 | int (i : Int) : Dv H (.int i) (.int i)
 | str (x : Str) : Dv H (.str x) (.str x)
 | tup {a : Addr} {xs : List V} {ds : List PyData} (h : H a = some (.tup xs)) (r : aX H xs ds) : Dv H (.ref a) (.tuple ds)
 | lst {a : Addr} {xs : List V} {ds : List PyData} (h : Rd H a (.lst xs)) (r : aX H xs ds) : Dv H (.ref a) (.list ds)
 | dct {a : Addr} {ax : List (Key × V)} {ds : List (PyData × PyData)} (h : H a = some (.dK ax)) (r : vb H ax ds) : Dv H (.ref a) (.dict ds)
inductive vb (H : Hp) : List (Key × V) -> List (PyData × PyData) -> Prop where
 | nil : vb H [] []
 | cons {k : Key} {x : V} {d : PyData} {xs : List (Key × V)} {ds : List (PyData × PyData)} (h : Dv H x d) (r : vb H xs ds) : vb H ((k, x) :: xs) ((EG k, d) :: ds)
inductive aX (H : Hp) : List V -> List PyData -> Prop where
 | nil : aX H [] []
 | cons {x : V} {d : PyData} {xs : List V} {ds : List PyData} (h : Dv H x d) (r : aX H xs ds) : aX H (x :: xs) (d :: ds)
end
mutual
theorem Dv.has {K : PySem.W.Frag} {H : Hp} : ∀ {v : V} {d : PyData}, Dv H v d -> d.canLay0 = true -> fL K H v d
 | _, _, .aZ, _ => .aZ
 | _, _, .bl b, _ => .bl b
 | _, _, .int i, _ => .int i
 | _, _, .str x, _ => .str x
 | _, _, .tup h r, c => .tup (.of h) (aX.has r (by simpa [PyData.canLay0] using c))
 | _, _, .lst h r, c => .lst (.inl h) (aX.has r (by simpa [PyData.canLay0] using c))
 | _, _, .dct h r, c => by simp [PyData.canLay0] at c
theorem aX.has {K : PySem.W.Frag} {H : Hp} : ∀ {v : List V} {d : List PyData}, aX H v d -> PyData.canLayAll0 d = true -> cM K H v d
 | _, _, .nil, _ => .nil
 | _, _, .cons h r, c => by
   have c' := c
   simp only [PyData.canLayAll0, Bool.and_eq_true] at c'
   exact .cons (Dv.has h c'.1) (aX.has r c'.2)
end
theorem ag.rd {H H' : Hp} {a : Addr} {u : HO} (e : ag H H') (h : Rd H a u) : Rd H' a u := by
 rcases h with h | ⟨o, h⟩
 . exact .inl (e _ _ h)
 . exact .inr ⟨o, e _ _ h⟩
mutual
theorem Dv.keeps {H H' : Hp} (e : ag H H') : ∀ {v : V} {d : PyData}, Dv H v d -> Dv H' v d
 | _, _, .aZ => .aZ
 | _, _, .bl b => .bl b
 | _, _, .int i => .int i
 | _, _, .str x => .str x
 | _, _, .tup h r => .tup (e _ _ h) (aX.keeps e r)
 | _, _, .lst h r => .lst (e.rd h) (aX.keeps e r)
 | _, _, .dct h r => .dct (e _ _ h) (vb.keeps e r)
theorem vb.keeps {H H' : Hp} (e : ag H H') : ∀ {v : List (Key × V)} {d : List (PyData × PyData)}, vb H v d -> vb H' v d
 | _, _, .nil => .nil
 | _, _, .cons h r => .cons (Dv.keeps e h) (vb.keeps e r)
theorem aX.keeps {H H' : Hp} (e : ag H H') : ∀ {v : List V} {d : List PyData}, aX H v d -> aX H' v d
 | _, _, .nil => .nil
 | _, _, .cons h r => .cons (Dv.keeps e h) (aX.keeps e r)
end
theorem aX.length {H : Hp} : ∀ {xs : List V} {ds : List PyData}, aX H xs ds -> xs.length = ds.length
 | _, _, .nil => rfl
 | _, _, .cons _ r => by simp [aX.length r]
theorem aX.get {H : Hp} : ∀ {xs : List V} {ds : List PyData} {i : Nat} {d : PyData}, aX H xs ds -> ds[i]? = some d -> ∃ x, xs[i]? = some x /\ Dv H x d
 | _, _, _, _, .nil, e => by simp at e
 | _, _, 0, _, .cons h _, e => by simp at e; subst e; exact ⟨_, rfl, h⟩
 | _, _, i + 1, x, .cons _ r, e => by
   obtain ⟨d, h1, h2⟩ := aX.get (i := i) (d := x) r (by simpa using e)
   exact ⟨d, by simpa using h1, h2⟩
theorem aX.append {H : Hp} : ∀ {xs ys : List V} {ds es : List PyData}, aX H xs ds -> aX H ys es -> aX H (xs ++ ys) (ds ++ es)
 | _, _, _, _, .nil, s => s
 | _, _, _, _, .cons r t, s => .cons r (aX.append t s)
theorem aX.ints {H : Hp} : ∀ (ns : List Int), aX H (ns.map V.int) (ns.map PyData.int)
 | [] => .nil
 | n :: ns => .cons (.int n) (aX.ints ns)
theorem Dv.int_inv {H : Hp} {v : V} {i : Int} (h : Dv H v (.int i)) : v = .int i := by cases h; rfl
theorem Dv.xG {H : Hp} {v : V} (h : Dv H v .none) : v = .aZ := by cases h; rfl
theorem Dv.str_inv {H : Hp} {v : V} {i : Str} (h : Dv H v (.str i)) : v = .str i := by cases h; rfl
def kE (H : Hp) (d : PyData) (Q : VK) : Prop := match d with
 | .none => Q .aZ H
 | .bool b => Q (.bl b) H
 | .int i => Q (.int i) H
 | .str x => Q (.str x) H
 | d => ∀ v, Dv H v d -> Q v H
theorem kE.use {H : Hp} {d : PyData} {Q : VK} (g : kE H d Q) {v : V} (h : Dv H v d) : Q v H := by
 cases h with
 | aZ => exact g
 | bl b => exact g
 | int i => exact g
 | str x => exact g
 | tup h r => exact g _ (.tup h r)
 | lst h r => exact g _ (.lst h r)
 | dct h r => exact g _ (.dct h r)
theorem pM {H : Hp} {xs : List V} {ds : List PyData} {i : Int} {d : PyData} (r : aX H xs ds) (h : kF ds i = some d) : ∃ x, kF xs i = some x /\ Dv H x d := by
 unfold kF at h ⊢
 rw [r.length]
 cases e : sW ds.length i with
 | none => rw [e] at h; simp at h
 | some j =>
   rw [e] at h
   have h' : ds[j]? = some d := by simpa using h
   obtain ⟨x, h1, h2⟩ := r.get h'
   exact ⟨x, by simpa using h1, h2⟩
def kT (H : Hp) (v : V) (ds : List PyData) : Prop := Dv H v (.tuple ds) \/ Dv H v (.list ds)
def BF : R2 := fun x y H Q => ∃ ds i d, y = .int i /\ kT H x ds /\ kF ds i = some d /\ kE H d Q
theorem xc {K : PySem.W.Frag} {x y : V} {H : Hp} {Q : VK} (h : BF x y H Q) : Ik K x y H Q := by
 obtain ⟨ds, i, d, rfl, hs, hi, g⟩ := h
 rcases hs with hs | hs
 . cases hs with
   | tup h r =>
     obtain ⟨v, h1, h2⟩ := pM r hi
     exact .inr (.inl ⟨_, _, i, v, rfl, rfl, .of h, h1, g.use h2⟩)
 . cases hs with
   | lst h r =>
     obtain ⟨v, h1, h2⟩ := pM r hi
     exact .inl ⟨_, _, i, v, rfl, rfl, .inl h, h1, g.use h2⟩
section
variable {X : Cx}
def zP : R2 := fun x y H Q => BF x y H Q \/ yL x y H Q
theorem EL : rO X zP := fun value slice pins s σ H x y v u Q I r1 r2 h => y9 value slice pins s σ H x y v u Q I r1 r2 (h.elim xc fun z => .inr (.inr z))
def ux : List V -> Hp -> VK -> Prop := fun xs H Q => (∃ v ds, xs = [v] /\ kT H v ds /\ Q (.int (ds.length : Nat)) H) \/ ∃ z, xs = [.str z] /\ z.length <= sizeLine /\ Q (.int (z.length : Nat)) H
theorem qu : dX X (.builtin "len") ux := fun pins s σ H xs us Q I r h => by
 rcases h with ⟨v, ds, rfl, hs, q⟩ | h
 . rcases hs with hs | hs
   . cases hs with
     | tup h t => exact eF pins s σ H _ us Q I r ⟨_, _, rfl, .inr (.of h), by rw [t.length]; exact q⟩
   . cases hs with
     | lst h t => exact eF pins s σ H _ us Q I r ⟨_, _, rfl, .inl (.inl h), by rw [t.length]; exact q⟩
 . exact lV pins s σ H _ us Q I r h
def sj (K : PySem.W.Frag) (f : Bool -> Bool) : R2 := fun x y H Q => (vO x y = true /\ Q (.bl (f (decide (x = y)))) H) \/ ∃ d e, Dv H x d /\ Dv H y e /\ d.canLay0 = true /\ e.canLay0 = true /\ d.depth <= 8 /\ Q (.bl (f (PyData.eqv d e))) H
theorem n6 (hu : X.A.units + 8 < cLine) : gf X (compareOp .Eq) (sj X.K id) := fun pins s σ H x y v u Q I rx ry h => by
 rcases h with h | ⟨d, e, h1, h2, h3, h4, h5, h6⟩
 . exact B2 pins s σ H x y v u Q I rx ry h
 . exact Al hu pins s σ H x y v u Q I rx ry ⟨d, e, h1.has h3, h2.has h4, h3, h4, h5, h6⟩
theorem oD (hu : X.A.units + 8 < cLine) : gf X (compareOp .NotEq) (sj X.K not) := fun pins s σ H x y v u Q I rx ry h => by
 rcases h with h | ⟨d, e, h1, h2, h3, h4, h5, h6⟩
 . exact DJ pins s σ H x y v u Q I rx ry h
 . exact zR hu pins s σ H x y v u Q I rx ry ⟨d, e, h1.has h3, h2.has h4, h3, h4, h5, h6⟩
variable {es : List Expr} {t : TA} {pos : Pos}
def rV (xs : List V) (H1 : Hp) (Q : VK) : Prop := xs.length <= sizeLine /\ ∃ ds, aX H1 xs ds /\ ∀ p H2, ag H1 H2 -> H1 p = none -> H2 p = some (.tup xs) -> Dv H2 (.ref p) (.tuple ds) -> Q (.ref p) H2
def t6 (xs : List V) (H1 : Hp) (Q : VK) : Prop := xs.length <= sizeLine /\ ∃ ds, aX H1 xs ds /\ ∀ p H2, ag H1 H2 -> H1 p = none -> H2 p = some (.lst xs) -> aX H2 xs ds -> Dv H2 (.ref p) (.list ds) -> Q (.ref p) H2
def ye (t : TA) : TE := fun σ H Q => t σ H fun xs H1 => rV xs H1 Q
theorem dG {x1} (h : PA X es t) : PE X (.Tuple es x1 pos) (ye t) := PE.weak (yX h.m) fun σ H Q q => ⟨_, q, fun xs H1 ⟨hl, ds, hd, k⟩ => ⟨hl, fun p hp => by
 have sm : ag H1 (upd H1 p (.tup xs)) := fun b u e => by rw [aw (aG e hp)]; exact e
 exact k p _ sm hp aA (.tup aA (hd.keeps sm))⟩⟩
def x5 (t : TA) : TE := fun σ H Q => t σ H fun xs H1 => t6 xs H1 Q
theorem a9 (h : PA X es t) : PE X (.List es pos) (x5 t) := PE.weak (Ah h.m) fun σ H Q q => ⟨_, q, fun xs H1 ⟨hl, ds, hd, k⟩ => ⟨hl, fun p hp => by
 have sm : ag H1 (upd H1 p (.lst xs)) := fun b u e => by rw [aw (aG e hp)]; exact e
 exact k p _ sm hp aA (hd.keeps sm) (.lst (.of aA) (hd.keeps sm))⟩⟩
variable {st : Stmt} {rest : List Stmt}
def yI (t u : TS) : TS := fun D σ H => ∃ R : St -> Hp -> Prop, t { D with nx := R } σ H /\ ∀ σ' H', R σ' H' -> u D σ' H'
theorem ai {t u : TS} (h1 : PS X st t) (h2 : nM X rest u) : nM X (st :: rest) (yI t u) := by
 intro pins s σ H D I ⟨R, h, k⟩
 refine wpAny_execs_cons (bF (h1 pins s σ H { D with nx := R } I h) fun f s1 q => ?_)
 cases f with
 | next =>
   obtain ⟨σ', H', I', q⟩ := q
   exact h2 pins s1 σ' H' D I' (k _ _ q)
 | ret v => exact q
 | brk => exact q
 | cont => exact q
end
section
variable {σ : St} {H : Hp} {Q : VK} {D : Ends} {K : PySem.W.Frag}
theorem zr {t u : TS} (h : t { D with nx := u D } σ H) : yI t u D σ H := ⟨u D, h, fun _ _ z => z⟩
theorem zz {t : TA} (h : t σ H fun xs H1 => rV xs H1 Q) : ye t σ H Q := h
theorem Ay {xs : List V} {ds : List PyData} (hl : xs.length <= sizeLine) (hd : aX H xs ds) (k : ∀ v H2, ag H H2 -> Dv H2 v (.tuple ds) -> Q v H2) : rV xs H Q := ⟨hl, ds, hd, fun p H2 s _ _ d => k (.ref p) H2 s d⟩
theorem iT {xs : List V} {ds : List PyData} (hl : xs.length <= sizeLine) (hd : aX H xs ds) (k : ∀ p H2, ag H H2 -> H p = none -> H2 p = some (.tup xs) -> Q (.ref p) H2) : rV xs H Q := ⟨hl, ds, hd, fun p H2 s n e _ => k p H2 s n e⟩
theorem AB {t : TA} (h : t σ H fun xs H1 => t6 xs H1 Q) : x5 t σ H Q := h
theorem B9 {f : Bool -> Bool} {x y : V} (e : vO x y = true) (h : Q (.bl (f (decide (x = y)))) H) : sj K f x y H Q := .inl ⟨e, h⟩
theorem yf {f : Bool -> Bool} {x y : V} {d e : PyData} (h1 : Dv H x d) (h2 : Dv H y e) (h3 : d.canLay0 = true) (h4 : e.canLay0 = true) (h5 : d.depth <= 8) (h : Q (.bl (f (PyData.eqv d e))) H) : sj K f x y H Q := .inr ⟨d, e, h1, h2, h3, h4, h5, h⟩
theorem Dy {x : V} {ds : List PyData} {i : Int} {d : PyData} (hs : kT H x ds) (hi : kF ds i = some d) (g : kE H d Q) : zP x (.int i) H Q := .inl ⟨ds, i, d, rfl, hs, hi, g⟩
theorem zq {v : V} {ds : List PyData} (hs : kT H v ds) (h : Q (.int (ds.length : Nat)) H) : ux [v] H Q := .inl ⟨v, ds, rfl, hs, h⟩
theorem jB {i : Int} (h : Q (.int i) H) : kE H (.int i) Q := h
theorem vI {i : Str} (h : Q (.str i) H) : kE H (.str i) Q := h
theorem qi {ds : List PyData} (h : ∀ v, Dv H v (.tuple ds) -> Q v H) : kE H (.tuple ds) Q := h
theorem vT {ds : List PyData} (h : ∀ v, Dv H v (.list ds) -> Q v H) : kE H (.list ds) Q := h
theorem CP {b : Bool} {A B : Prop} (h1 : b = true -> A) (h2 : b = false -> B) : if b = true then A else B := by
 cases b
 . exact EI (h2 rfl)
 . exact GX (h1 rfl)
end
theorem b3.Bw {k : Nat} {A : Around} (r : b3 k A) : A.units + 8 < cLine := Nat.lt_of_le_of_lt (by omega) r.units
theorem ag.at {H H' : Hp} {a : Addr} {o : HO} (s : ag H H') (h : H a = some o) : H' a = some o := s a o h
theorem aL {H : Hp} {t : Addr} {o : HO} (h : H t = none) : ag H (upd H t o) := fun b u e => by rw [aw (aG e h)]; exact e
section
variable {σ : St} {H : Hp} {Q : VK} {D : Ends} {K : PySem.W.Frag}
end
def isInt : PyData -> Bool | .int _ => true | .bool _ => true | _ => false
def isBool : PyData -> Bool | .bool _ => true | _ => false
def isStr : PyData -> Bool | .str _ => true | _ => false
def Ca : PyData -> Bool | .list _ => true | _ => false
def isTup : PyData -> Bool | .tuple _ => true | _ => false
def CF : PyData -> Bool | .dict _ => true | _ => false
section
variable {K : PySem.W.Frag} {H : Hp} {v : V} {d : PyData} {Q : VK}
def JE (H : Hp) (v : V) (C : Addr) (fs : List (Str × V)) : Prop := ∃ p dx, v = .ref p /\ H p = some (.ins C dx fs)
end
section
variable {X : Cx}
def js (K : PySem.W.Frag) : R2 := fun x y H Q => zP x y H Q \/ AH K x y H Q
theorem cz : rO X (js X.K) := fun value slice pins s σ H x y v u Q I r1 r2 h => h.elim (EL value slice pins s σ H x y v u Q I r1 r2) (pQ value slice pins s σ H x y v u Q I r1 r2)
def mX (K : PySem.W.Frag) : List V -> Hp -> VK -> Prop := fun xs H Q => ux xs H Q \/ ∃ p ys, xs = [.ref p] /\ bh K H p ys /\ Q (.int ys.length) H
theorem cF : dX X (.builtin "len") (mX X.K) := fun pins s σ H xs us Q I r h => by
 rcases h with h | ⟨p, ys, e, hl, q⟩
 . exact qu pins s σ H xs us Q I r h
 . exact eF pins s σ H xs us Q I r ⟨p, ys, e, .inl hl, q⟩
end
section
variable {σ : St} {H : Hp} {Q : VK} {D : Ends} {K : PySem.W.Frag}
theorem lj {x : V} {ds : List PyData} {i : Int} {d : PyData} (hs : kT H x ds) (hi : kF ds i = some d) (g : kE H d Q) : js K x (.int i) H Q := .inl (Dy hs hi g)
theorem x3 {p : Addr} {xs : List V} {i : Int} {v : V} (hs : bh K H p xs) (hi : kF xs i = some v) (g : Q v H) : js K (.ref p) (.int i) H Q := .inr ⟨p, xs, i, v, rfl, rfl, hs, hi, g⟩
theorem sV {v : V} {ds : List PyData} (hs : kT H v ds) (h : Q (.int (ds.length : Nat)) H) : mX K [v] H Q := .inl (zq hs h)
theorem yO {p : Addr} {xs : List V} (hs : bh K H p xs) (h : Q (.int xs.length) H) : mX K [.ref p] H Q := .inr ⟨p, xs, rfl, hs, h⟩
theorem FH {R : Prop} (h : R) : V.aZ = V.aZ /\ R := ⟨rfl, h⟩
end
theorem bg {i : Int} (h1 : -(10 ^ 200) < i) (h2 : i < 10 ^ 200) : i.natAbs < 2 ^ 2000 := by
 have : (10 : Nat) ^ 200 < 2 ^ 2000 := by decide +kernel
 have h3 : i.natAbs < 10 ^ 200 := by
  have e : ((10 : Nat) ^ 200 : Nat) = ((10 : Int) ^ 200).toNat := by decide +kernel
  rw [e]
  generalize (10 : Int) ^ 200 = m at h1 h2 ⊢
  omega
 exact Nat.lt_trans h3 this
theorem C1 {i j : Int} (h1 : -(10 ^ 200) < i /\ i < 10 ^ 200) (h2 : -(10 ^ 200) < j /\ j < 10 ^ 200) : qq i j := ⟨bg h1.1 h1.2, bg h2.1 h2.2⟩
theorem Bx {i j : Int} (h1 : 0 < j) (h2 : j < 10 ^ 200) : yo i j := ⟨h1, bg (Int.lt_trans (by decide) h1) h2⟩
def cell (ns : List Int) (k : Nat) : Int := ns.getD k 0
def oq (K : PySem.W.Frag) : Sp := fun vs H Q _ => ∃ l ns k, vs = [.ref l, .int k] /\ bh K H l (ns.map V.int) /\ 0 <= k /\ Q (.int (cell ns k.toNat)) H
theorem zo {K : PySem.W.Frag} {H : Hp} {Q : VK} {E : XK} {l : Addr} {ns : List Int} {k : Int} (h : bh K H l (ns.map V.int)) (hk : 0 <= k) (q : Q (.int (cell ns k.toNat)) H) : oq K [.ref l, .int k] H Q E := ⟨l, ns, k, rfl, h, hk, q⟩
theorem vQ {ns : List Int} {k : Int} (h0 : 0 <= k) (h : k < (ns.map V.int).length) : kF (ns.map V.int) k = some (.int (cell ns k.toNat)) := by
 obtain ⟨n, rfl⟩ := Int.eq_ofNat_of_zero_le h0
 refine ez ?_
 have hn : n < ns.length := by simpa using h
 simp [cell, hn, List.getD_eq_getElem?_getD]
theorem wz {ns : List Int} {k : Int} (h0 : 0 <= k) (h : ¬ k < (ns.map V.int).length) : cell ns k.toNat = 0 := by
 have : ns.length <= k.toNat := by simp at h; omega
 simp [cell, List.getD_eq_getElem?_getD, this]
def qg (sp : Sp) (vs : List V) (H : Hp) (Q : VK) (E : XK) : Prop := ∃ ws, vs = ws /\ sp ws H Q E
theorem tG (sp : Sp) (vs : List V) (H : Hp) (Q : VK) (E : XK) : qg sp vs H Q E = sp vs H Q E := propext ⟨fun ⟨_, e, h⟩ => e ▸ h, fun h => ⟨vs, rfl, h⟩⟩
def my (sp : Sp) (gO : List V) (E : XK) (t : TA) : TE := fun σ H Q => t σ H fun vs H1 => qg sp (vs ++ gO) H1 Q E
theorem qI (sp : Sp) (gO : List V) (E : XK) (t : TA) : my sp gO E t = pC sp gO E t := by
 funext σ H Q; unfold my pC; congr 1; funext vs H1; exact tG _ _ _ _ _
section
variable {X : Cx} {k : Nat} {f C : Addr} {ps : List Str} {sp : Sp} {gO : List V} {x m : Str} {p pos apos : Pos} {e o : Expr} {es : List Expr} {ta : TE} {t : TA}
theorem aF (c : ki X.prog X.w X.K X.mg X.base k f ps gO sp) (hr : b3 k X.A) (hg : Gl X x) (hm : X.mg x = some (.ref f)) (hk : PySem.W.keepIn X.K (.ref f) = true)
 (ha : PA X (e :: es) t) (vR : (x == ("__debug__" : Str)) = false := by decide) (he : starEach (e :: es) X.env = (false, eval e X.env) :: starEach es X.env := by rfl) (mE : (backTo pos (starEach es X.env)).any (·.1) = false := by rfl) :
 PE X (.Call (.Name x p) (e :: es) [] pos) (my sp gO E0 t) := by rw [qI]; exact xh c hr hg hm hk ha vR he mE
end
section
variable {σ : St} {H : Hp} {Q : VK} {D : Ends} {K : PySem.W.Frag}
theorem wG {sp : Sp} {gO : List V} {E : XK} {t : TA} (h : t σ H fun vs H1 => qg sp (vs ++ gO) H1 Q E) : my sp gO E t σ H Q := h
theorem oB {sp : Sp} {vs ws : List V} {E : XK} (e : vs = ws) (h : sp ws H Q E) : qg sp vs H Q E := ⟨ws, e, h⟩
theorem zu {b : Bool} {R : Bool -> Prop} (h : R b) : ∃ k, vK K (.bl b) H k /\ R k := ⟨b, rfl, h⟩
end
theorem gm {n : Nat} (h : Nat.ble n 64 = true) : n <= sizeLine := Nat.le_trans (Nat.le_of_ble_eq_true h) (by decide)
section
variable {X : Cx} {st : Stmt} {rest : List Stmt}
def xM (t u : TS) : TS := yI t u
theorem ug {t u : TS} (h1 : PS X st t) (h2 : nM X rest u) : nM X (st :: rest) (xM t u) := ai h1 h2
end
section
variable {σ : St} {H : Hp} {Q : VK} {D : Ends} {K : PySem.W.Frag}
theorem yR {t u : TS} (R : St -> Hp -> Prop) (h : t { D with nx := R } σ H) (k : ∀ σ' H', R σ' H' -> u D σ' H') : xM t u D σ H := ⟨R, h, k⟩
theorem tX {xs : List V} {ds : List PyData} (hl : xs.length <= sizeLine) (hd : aX H xs ds) (k : ∀ p H2, ag H H2 -> H p = none -> H2 p = some (.lst xs) -> aX H2 xs ds -> Dv H2 (.ref p) (.list ds) -> Q (.ref p) H2) : t6 xs H Q := ⟨hl, ds, hd, k⟩
def we (K : PySem.W.Frag) (x : V) (g : TG) (tb : TS) (D : Ends) (σ : St) (H1 : Hp) : Prop := ∃ a, x = .ref a /\ (∃ xs, bh K H1 a xs) /\ ∃ W : Nat -> Nat -> St -> Hp -> Prop, (∃ m, W 0 m σ H1) /\ ∀ i m σ H, W i m σ H ->
 ((u9 K a).stop i H /\ D.nx σ H) \/ ((u9 K a).go i H /\ ∃ N : St -> Hp -> Prop, (∀ σ' H', N σ' H' -> ∃ m', m' < m /\ W (i + 1) m' σ' H') /\ ∀ x H', (u9 K a).wo i H x H' -> g x σ H' fun σ2 H2 => tb { D with nx := N, ct := N, bk := D.nx } σ2 H2)
theorem Ck {tl : TE} {g : TG} {tb : TS} (h : tl σ H fun x H1 => we K x g tb D σ H1) : uP (su K tl) g tb D σ H := h
theorem forL {a : Addr} {xs : List V} {g : TG} {tb : TS} (hl : bh K H a xs) (Pv : Nat -> St -> Hp -> Prop) (h0 : Pv 0 σ H) (hk : ∀ i σ H, i <= xs.length -> Pv i σ H -> bh K H a xs)
 (hs : ∀ i x σ H, xs[i]? = some x -> Pv i σ H -> g x σ H fun σ2 H2 => tb { D with nx := Pv (i + 1), ct := Pv (i + 1), bk := D.nx } σ2 H2) (hd : ∀ σ H, Pv xs.length σ H -> D.nx σ H) : we K (.ref a) g tb D σ H :=
 ⟨a, rfl, ⟨xs, hl⟩, sS Pv h0 hk hs hd⟩
def F3 (lo : Int) (n : Nat) (g : TG) (tb : TS) (D : Ends) (σ : St) (H1 : Hp) : Prop := ∃ W : Nat -> Nat -> St -> Hp -> Prop, (∃ m, W 0 m σ H1) /\ ∀ i m σ H, W i m σ H ->
 ((wL lo n).stop i H /\ D.nx σ H) \/ ((wL lo n).go i H /\ ∃ N : St -> Hp -> Prop, (∀ σ' H', N σ' H' -> ∃ m', m' < m /\ W (i + 1) m' σ' H') /\ ∀ x H', (wL lo n).wo i H x H' -> g x σ H' fun σ2 H2 => tb { D with nx := N, ct := N, bk := D.nx } σ2 H2)
theorem w4 {ta : TA} {g : TG} {tb : TS} (h : ta σ H fun vs H1 => ∃ j : Int, vs = [.int j] /\ -(2 ^ 62) <= j /\ j < 2 ^ 62 /\ F3 0 j.toNat g tb D σ H1) : uP (xZ ta) g tb D σ H := h
theorem zB {j : Int} {R : Int -> Prop} (h1 : -(2 ^ 62) <= j) (h2 : j < 2 ^ 62) (h : R j) : ∃ i : Int, [V.int j] = [.int i] /\ -(2 ^ 62) <= i /\ i < 2 ^ 62 /\ R i := ⟨j, rfl, h1, h2, h⟩
end
section
variable {X : Cx}
def xR : List V -> Hp -> VK -> Prop := fun xs H Q => ∃ i j, xs = [.int i, .int j] /\ ∀ k, (k = i \/ k = j) -> k <= i -> k <= j -> Q (.int k) H
theorem k7 (hc : X.calm = true) : dX X (.builtin "min") xR := fun pins s σ H xs us Q I r ⟨i, j, e, h⟩ => qU hc pins s σ H xs us Q I r ⟨i, j, e, by
 split
 . exact h _ (.inr rfl) (by omega) (by omega)
 . exact h _ (.inl rfl) (by omega) (by omega)⟩
def xK : R2 := fun x y H Q => ∃ i j, x = .int i /\ y = .int j /\ 0 < j /\ (0 <= i % j -> i % j < j -> Q (.int (i % j)) H)
theorem aB : gf X (binaryOp .Mod) xK := fun pins s σ H x y v u Q I rx ry ⟨i, j, e1, e2, hj, h⟩ => y7 pins s σ H x y v u Q I rx ry ⟨i, j, e1, e2, hj, h (Int.emod_nonneg _ (by omega)) (Int.emod_lt_of_pos _ hj)⟩
end
section
variable {σ : St} {H : Hp} {Q : VK} {D : Ends} {K : PySem.W.Frag}
theorem zN {i j : Int} (h : ∀ k, (k = i \/ k = j) -> k <= i -> k <= j -> Q (.int k) H) : xR [.int i, .int j] H Q := ⟨i, j, rfl, h⟩
theorem A3 {i j : Int} (hj : 0 < j) (h : 0 <= i % j -> i % j < j -> Q (.int (i % j)) H) : xK (.int i) (.int j) H Q := ⟨i, j, rfl, rfl, hj, h⟩
end
section
variable {σ : St} {H : Hp} {Q : VK} {D : Ends} {K : PySem.W.Frag}
def yk (Pv : Nat -> St -> Hp -> Prop) (m : Nat) (tb : TS) (D : Ends) (σ : St) (H1 : Hp) : Prop := ∃ N : St -> Hp -> Prop, (∀ σ' H', N σ' H' -> ∃ m', m' < m /\ Pv m' σ' H') /\ tb { D with nx := N, ct := N, bk := D.nx } σ H1
theorem AI {Pv : Nat -> St -> Hp -> Prop} {m : Nat} {tb : TS} (h : tb { D with nx := fun σ' H' => ∃ m', m' < m /\ Pv m' σ' H', ct := fun σ' H' => ∃ m', m' < m /\ Pv m' σ' H', bk := D.nx } σ H) : yk Pv m tb D σ H := ⟨_, fun _ _ h => h, h⟩
theorem px {c : TT} {tb : TS} (Pv : Nat -> St -> Hp -> Prop) (h0 : ∃ m, Pv m σ H) (hs : ∀ m σ H, Pv m σ H -> c σ H fun b H1 => if b = true then yk Pv m tb D σ H1 else D.nx σ H1) : sJ c tb D σ H := ⟨Pv, h0, hs⟩
end
end L2
namespace L2
end L2
namespace L2
open PySem PySem.Spec PyProof.Rows
section
variable {X : Cx}
end
section
variable {σ : St} {H : Hp} {Q : VK} {D : Ends} {K : PySem.W.Frag}
end
theorem AJ {H : Hp} {Q : VK} {i j p : Int} (c : zQ i j) (e : i ^ j.toNat = p) (h : Q (.int p) H) : rI zQ (fun i j => .int (i ^ j.toNat)) (.int i) (.int j) H Q := ⟨i, j, rfl, rfl, c, by show Q (.int (i ^ j.toNat)) H; rw [e]; exact h⟩
section
variable {X : Cx} {e : Expr}
end
section
variable {σ : St} {H : Hp} {Q : VK} {D : Ends} {K : PySem.W.Frag}
end
end L2
namespace L2
end L2
namespace L2
open PySem PySem.Spec PyProof.Rows PySem.W
structure JZ (lt : Nat -> Nat -> Bool) : Prop where
 C8 : ∀ a, lt a a = false
 DA : ∀ a b, lt a b = true -> lt b a = false
 vi : ∀ a b c, lt a b = false -> lt b c = false -> lt a c = false
section
variable {lt : Nat -> Nat -> Bool} {n : Nat} {S : Shared -> Prop} {cmp : Nat -> Nat -> (Bool -> Shared -> Prop) -> Shared -> Prop}
def Up (lt : Nat -> Nat -> Bool) (p : Array Nat) (k : Nat) : Prop := ∀ i j, i < j -> j < k -> lt (p.getD j 0) (p.getD i 0) = false
def Down (lt : Nat -> Nat -> Bool) (p : Array Nat) (k : Nat) : Prop := ∀ i j, i < j -> j < k -> lt (p.getD i 0) (p.getD j 0) = false
def Alike (lt : Nat -> Nat -> Bool) (p : Array Nat) (a b : Nat) : Prop := ∀ i j, a <= i -> i < b -> a <= j -> j < b -> lt (p.getD i 0) (p.getD j 0) = false
structure Ix (n : Nat) (p : Array Nat) : Prop where
 sz : p.size = n
 pm : p.toList.Perm (List.range n)
theorem Ix.low {p : Array Nat} (h : Ix n p) {i : Nat} (hi : i < n) : p.getD i 0 < n := by
 have xO : i < p.size := by rw [h.sz]; exact hi
 have e : p.getD i 0 = p[i] := by simp [Array.getD, xO]
 rw [e]
 have : p[i] ∈ p.toList := by simp
 exact List.mem_range.mp (h.pm.mem_iff.mp this)
theorem Ix.perm {p q : Array Nat} (h : Ix n p) (hq : q.Perm p) : Ix n q := ⟨hq.size_eq.trans h.sz, (Array.perm_iff_toList_perm.mp hq).trans h.pm⟩
theorem cP {p : Array Nat} {i j : Nat} (hj : j <= p.size) (k : Nat) : (kas_rev p i j).getD k 0 = if i <= k /\ k < j then p.getD (i + j - 1 - k) 0 else p.getD k 0 := by
 unfold kas_rev
 rw [Array.getD_eq_getD_getElem?, getElem?_mirror_all hj k]
 by_cases h : i <= k /\ k < j
 . rw [if_pos h, if_pos h, Array.getD_eq_getD_getElem?]
 . rw [if_neg h, if_neg h, Array.getD_eq_getD_getElem?]
theorem jE {p : Array Nat} (h : Ix n p) (i j : Nat) : Ix n (kas_rev p i j) := h.perm (mirror_perm _ _ _ _)
theorem mQ {p : Array Nat} {k d : Nat} (hk : k < p.size) (hd : d <= k) (i : Nat) : (bubble p k d).getD i 0 = if i = k - d then p.getD k 0 else if k - d < i /\ i <= k then p.getD (i - 1) 0 else p.getD i 0 := by
 rw [Array.getD_eq_getD_getElem?, getElem?_bubble hk d hd i]
 by_cases h : i = k - d
 . rw [if_pos h, if_pos h, Array.getD_eq_getD_getElem?]
 . rw [if_neg h, if_neg h]
   by_cases h2 : k - d < i /\ i <= k
   . rw [if_pos h2, if_pos h2, Array.getD_eq_getD_getElem?]
   . rw [if_neg h2, if_neg h2, Array.getD_eq_getD_getElem?]
def BQ (n : Nat) (lt : Nat -> Nat -> Bool) (S : Shared -> Prop) (cmp : Nat -> Nat -> (Bool -> Shared -> Prop) -> Shared -> Prop) : Prop :=
 ∀ i j C s, i < n -> j < n -> S s -> (∀ s', S s' -> C (lt i j) s') -> cmp i j C s
variable (w : JZ lt) (ha : BQ n lt S cmp)
include w ha
theorem oP {p : Array Nat} (hp : Ix n p) {Q : Nat -> Shared -> Prop} : ∀ (f k : Nat), 1 <= k -> k + f <= n -> Up lt p k -> (∀ m s, S s -> k <= m -> m <= k + f -> Up lt p m -> (m = k + f \/ (m < k + f /\ lt (p.getD m 0) (p.getD (m - 1) 0) = true)) -> Q m s) -> ∀ s, S s -> (kas_asc p f k).kasWp cmp Q s
 | 0, k, _, _, hu, hq, s, hs => hq k s hs (Nat.le_refl _) (Nat.le_refl _) hu (.inl rfl)
 | f + 1, k, h1, hf, hu, hq, s, hs => by
   refine ha _ _ _ _ (hp.low (by omega)) (hp.low (by omega)) hs fun s' mI => ?_
   cases e : lt (p.getD k 0) (p.getD (k - 1) 0) with
   | true => exact hq k s' mI (Nat.le_refl _) (by omega) hu (.inr ⟨by omega, e⟩)
   | false =>
     refine oP hp f (k + 1) (by omega) (by omega) (fun i j jd hj => ?_) (fun m s hs a b c d => hq m s hs (by omega) (by omega) c (by rcases d with d | d; exact .inl (by omega); exact .inr ⟨by omega, d.2⟩)) s' mI
     by_cases zK : j < k
     . exact hu i j jd zK
     . have : j = k := by omega
       subst this
       by_cases hi : i = j - 1
       . rw [hi]; exact e
       . exact w.vi _ _ _ e (hu i (j - 1) (by omega) (by omega))
theorem jx {Q : Array Nat × Nat × Nat -> Shared -> Prop} : ∀ (f : Nat) (p : Array Nat) (k q : Nat), Ix n p -> k + f <= n -> q + 1 <= k -> Down lt p k -> Alike lt p (k - (q + 1)) k ->
 (∀ p' k' q' s, S s -> Ix n p' -> k <= k' -> k' <= k + f -> q' + 1 <= k' -> Down lt p' k' -> Alike lt p' (k' - (q' + 1)) k' -> Q (p', k', q') s) -> ∀ s, S s -> (kas_desc f p k q).kasWp cmp Q s
 | 0, p, k, q, hp, _, h1, hd, hl, hq, s, hs => hq p k q s hs hp (Nat.le_refl _) (Nat.le_refl _) h1 hd hl
 | f + 1, p, k, q, hp, hf, h1, hd, hl, hq, s, hs => by
   refine ha _ _ _ _ (hp.low (by omega)) (hp.low (by omega)) hs fun s' mI => ?_
   cases e : lt (p.getD k 0) (p.getD (k - 1) 0) with
   | true =>
     have o5 : ∀ i, i < k -> lt (p.getD i 0) (p.getD k 0) = false := fun i hi => by
      by_cases h : i = k - 1
      . rw [h]; exact w.DA _ _ e
      . exact w.vi _ _ _ (hd i (k - 1) (by omega) (by omega)) (w.DA _ _ e)
     by_cases h0 : q > 0
     . simp only [if_true, if_pos h0]
       have hk : k <= p.size := by rw [hp.sz]; omega
       refine jx f _ (k + 1) 0 (jE hp _ _) (by omega) (by omega) (fun i j jd hj => ?_) (fun i j a b c d => ?_) (fun p' k' q' s hs a b c d e f => hq p' k' q' s hs a (by omega) (by omega) d e f) s' mI
       . rw [cP hk, cP hk]
         by_cases zK : j = k
         . subst zK
           rw [if_neg (show ¬ (j - (q + 1) <= j /\ j < j) by omega)]
           by_cases hi : j - (q + 1) <= i /\ i < j
           . rw [if_pos hi]; exact o5 _ (by omega)
           . rw [if_neg hi]; exact o5 _ jd
         . by_cases hi : k - (q + 1) <= i /\ i < k
           . rw [if_pos hi, if_pos (show k - (q + 1) <= j /\ j < k by omega)]
             exact hl _ _ (by omega) (by omega) (by omega) (by omega)
           . rw [if_neg hi]
             by_cases xT : k - (q + 1) <= j /\ j < k
             . rw [if_pos xT]; exact hd _ _ (by omega) (by omega)
             . rw [if_neg xT]; exact hd _ _ jd (by omega)
       . have : i = k := by omega
         have : j = k := by omega
         subst_vars
         exact w.C8 _
     . simp only [if_true, if_neg h0]
       refine jx f _ (k + 1) 0 hp (by omega) (by omega) (fun i j jd hj => ?_) (fun i j a b c d => ?_) (fun p' k' q' s hs a b c d e f => hq p' k' q' s hs a (by omega) (by omega) d e f) s' mI
       . by_cases zK : j = k
         . subst zK; exact o5 _ jd
         . exact hd _ _ jd (by omega)
       . have : i = k := by omega
         have : j = k := by omega
         subst_vars
         exact w.C8 _
   | false =>
     simp only [Bool.false_eq_true, if_false]
     refine ha _ _ _ _ (hp.low (by omega)) (hp.low (by omega)) mI fun s2 y4 => ?_
     cases e2 : lt (p.getD (k - 1) 0) (p.getD k 0) with
     | true => simp only [if_true]; exact hq p k q s2 y4 hp (Nat.le_refl _) (by omega) h1 hd hl
     | false =>
       simp only [Bool.false_eq_true, if_false]
       refine jx f _ (k + 1) (q + 1) hp (by omega) (by omega) (fun i j jd hj => ?_) (fun i j a b c d => ?_) (fun p' k' q' s hs a b c d e f => hq p' k' q' s hs a (by omega) (by omega) d e f) s2 y4
       . by_cases zK : j = k
         . subst zK
           by_cases h : i = j - 1
           . rw [h]; exact e2
           . exact w.vi _ _ _ (hd i (j - 1) (by omega) (by omega)) e2
         . exact hd _ _ jd (by omega)
       . by_cases hi : i = k
         . by_cases hj : j = k
           . rw [hi, hj]; exact w.C8 _
           . rw [hi]; exact w.vi _ _ _ e (hl _ _ (by omega) (by omega) (by omega) (by omega))
         . by_cases hj : j = k
           . rw [hj]; exact w.vi _ _ _ (hl _ _ (by omega) (by omega) (by omega) (by omega)) e2
           . exact hl _ _ (by omega) (by omega) (by omega) (by omega)
theorem mU {Q : Nat × Array Nat -> Shared -> Prop} {p : Array Nat} {k : Nat} (hp : Ix n p) (h1 : 1 <= k) (hk : k <= n) (hd : Down lt p k) (hq : ∀ m p' s, S s -> Ix n p' -> 1 <= m -> m <= n -> Up lt p' m -> Q (m, p') s) (s : Shared) (hs : S s) : (kas_tail3 k n p).kasWp cmp Q s := by
 unfold kas_tail3
 rw [KasT.kasWp_bind]
 have vg : k <= p.size := by rw [hp.sz]; exact hk
 refine oP w ha (jE hp 0 k) (n - k) k h1 (by omega) (fun i j jd hj => ?_) (fun m s hs a b c _ => hq m _ s hs (jE hp _ _) (by omega) (by omega) c) s hs
 rw [cP vg, cP vg, if_pos (by omega), if_pos (by omega)]
 exact hd _ _ (by omega) (by omega)
theorem jh {Q : Nat × Array Nat -> Shared -> Prop} {p : Array Nat} {k : Nat} (hp : Ix n p) (h1 : 1 <= k) (hk : k + 1 <= n) (hd : Down lt p (k + 1)) (hq : ∀ m p' s, S s -> Ix n p' -> 1 <= m -> m <= n -> Up lt p' m -> Q (m, p') s) (s : Shared) (hs : S s) : (kas_descPart k n p).kasWp cmp Q s := by
 unfold kas_descPart
 rw [KasT.kasWp_bind]
 refine jx w ha _ p (k + 1) 0 hp (by omega) (by omega) hd (fun i j a b c d => ?_) (fun p' k' q' s hs sP a b c iD hl => ?_) s hs
 . have : i = k := by omega
   have : j = k := by omega
   subst_vars
   exact w.C8 _
 . by_cases h0 : q' > 0
   . simp only [if_pos h0]
     have vg : k' <= p'.size := by rw [sP.sz]; omega
     refine mU w ha (jE sP _ _) (by omega) (by omega) (fun i j jd hj => ?_) hq s hs
     rw [cP vg, cP vg]
     by_cases hi : k' - (q' + 1) <= i /\ i < k'
     . rw [if_pos hi, if_pos (by omega)]; exact hl _ _ (by omega) (by omega) (by omega) (by omega)
     . rw [if_neg hi]
       by_cases xT : k' - (q' + 1) <= j /\ j < k'
       . rw [if_pos xT]; exact iD _ _ (by omega) (by omega)
       . rw [if_neg xT]; exact iD _ _ jd (by omega)
   . simp only [if_neg h0]
     exact mU w ha sP (by omega) (by omega) iD hq s hs
theorem tW {Q : Nat × Array Nat -> Shared -> Prop} {p : Array Nat} (hn : 1 <= n) (hp : Ix n p) (hq : ∀ m p' s, S s -> Ix n p' -> 1 <= m -> m <= n -> Up lt p' m -> Q (m, p') s) (s : Shared) (hs : S s) : (kas_count n p).kasWp cmp Q s := by
 unfold kas_count
 rw [KasT.kasWp_bind]
 refine oP w ha hp (n - 1) 1 (Nat.le_refl _) (by omega) (fun i j _ _ => by omega) (fun m s hs a b hu hc => ?_) s hs
 by_cases hm : (m == n) = true
 . simp only [if_pos hm]; exact hq m p s hs hp a (by have := beq_iff_eq.mp hm; omega) hu
 . simp only [if_neg hm]
   have EC : m ≠ n := fun z => hm (beq_iff_eq.mpr z)
   have cq : m < n := by omega
   have u5 : lt (p.getD m 0) (p.getD (m - 1) 0) = true := by
    rcases hc with hc | hc
    . omega
    . exact hc.2
   by_cases h1 : m > 1
   . simp only [if_pos h1]
     refine ha _ _ _ _ (hp.low (by omega)) (hp.low (by omega)) hs fun s2 y4 => ?_
     cases e : lt (p.getD 0 0) (p.getD (m - 1) 0) with
     | true => simp only [if_true]; exact hq m p s2 y4 hp a (by omega) hu
     | false =>
       simp only [Bool.false_eq_true, if_false]
       have hk : m <= p.size := by rw [hp.sz]; omega
       have al : ∀ i j, i < m -> j < m -> lt (p.getD i 0) (p.getD j 0) = false := fun i j hi hj => by
        have h1 : lt (p.getD i 0) (p.getD 0 0) = false := by
         by_cases h : i = 0
         . rw [h]; exact w.C8 _
         . exact hu 0 i (by omega) hi
        have h2 : lt (p.getD i 0) (p.getD (m - 1) 0) = false := w.vi _ _ _ h1 e
        by_cases h : j = m - 1
        . rw [h]; exact h2
        . exact w.vi _ _ _ h2 (hu j (m - 1) (by omega) (by omega))
       refine jh w ha (jE hp _ _) a (by omega) (fun i j jd hj => ?_) hq s2 y4
       rw [cP hk, cP hk, if_pos (by omega)]
       by_cases LI : j < m
       . rw [if_pos (by omega)]; exact al _ _ (by omega) (by omega)
       . rw [if_neg (by omega)]
         have : j = m := by omega
         subst this
         exact w.vi _ _ _ (al _ (j - 1) (by omega) (by omega)) (w.DA _ _ u5)
   . simp only [if_neg h1]
     refine jh w ha hp a (by omega) (fun i j jd hj => ?_) hq s hs
     have h1 : m = 1 := by omega
     have hi : i = m - 1 := by omega
     have hj : j = m := by omega
     rw [hi, hj]
     exact w.DA _ _ u5
theorem ku {p : Array Nat} {k : Nat} (hp : Ix n p) (hk : k < n) (hu : Up lt p k) {Q : Nat -> Shared -> Prop} : ∀ (f l r : Nat), l <= r -> r <= k -> r - l <= f -> (∀ i, i < l -> lt (p.getD k 0) (p.getD i 0) = false) -> (∀ i, r <= i -> i < k -> lt (p.getD k 0) (p.getD i 0) = true) ->
 (∀ l s, S s -> l <= k -> (∀ i, i < l -> lt (p.getD k 0) (p.getD i 0) = false) -> (∀ i, l <= i -> i < k -> lt (p.getD k 0) (p.getD i 0) = true) -> Q l s) -> ∀ s, S s -> (kas_place p k f l r).kasWp cmp Q s
 | 0, l, r, Kf, hr, hf, h1, h2, hq, s, hs => hq l s hs (by omega) h1 (fun i a b => h2 i (by omega) b)
 | f + 1, l, r, Kf, hr, hf, h1, h2, hq, s, hs => by
   unfold kas_place
   by_cases h : l ≥ r
   . rw [if_pos h]; exact hq l s hs (by omega) h1 (fun i a b => h2 i (by omega) b)
   . rw [if_neg h]
     refine ha _ _ _ _ (hp.low hk) (hp.low (by omega)) hs fun s' mI => ?_
     cases e : lt (p.getD k 0) (p.getD ((l + r) / 2) 0) with
     | true =>
       simp only [if_true]
       refine ku hp hk hu f l ((l + r) / 2) (by omega) (by omega) (by omega) h1 (fun i a b => ?_) hq s' mI
       by_cases hi : i = (l + r) / 2
       . rw [hi]; exact e
       . cases e3 : lt (p.getD k 0) (p.getD i 0) with
         | true => rfl
         | false => rw [w.vi _ _ _ e3 (hu ((l + r) / 2) i (by omega) b)] at e; exact e
     | false =>
       simp only [Bool.false_eq_true, if_false]
       refine ku hp hk hu f ((l + r) / 2 + 1) r (by omega) (by omega) (by omega) (fun i a => ?_) h2 hq s' mI
       by_cases hi : i = (l + r) / 2
       . rw [hi]; exact e
       . exact w.vi _ _ _ e (hu i ((l + r) / 2) (by omega) (by omega))
theorem tO {Q : Array Nat -> Shared -> Prop} : ∀ (f : Nat) (p : Array Nat) (k : Nat), Ix n p -> k + f = n -> Up lt p k -> (∀ p' s, S s -> Ix n p' -> Up lt p' n -> Q p' s) -> ∀ s, S s -> (kas_bin f p k).kasWp cmp Q s
 | 0, p, k, hp, hf, hu, hq, s, hs => by
   have : k = n := by omega
   subst this
   exact hq p s hs hp hu
 | f + 1, p, k, hp, hf, hu, hq, s, hs => by
   unfold kas_bin
   rw [KasT.kasWp_bind]
   refine ku w ha hp (by omega) hu k 0 k (by omega) (Nat.le_refl _) (by omega) (fun i h => by omega) (fun i a b => by omega) (fun l s hs hl h1 h2 => ?_) s hs
   have hk : k < p.size := by rw [hp.sz]; omega
   refine tO f _ (k + 1) (hp.perm (bubble_perm _ _ _)) (by omega) (fun i j jd hj => ?_) hq s hs
   rw [mQ hk (by omega), mQ hk (by omega)]
   have el : k - (k - l) = l := by omega
   rw [el]
   by_cases nL : j = l
   . rw [if_pos nL, if_neg (by omega), if_neg (by omega)]; exact h1 i (by omega)
   . rw [if_neg nL]
     by_cases xB : i = l
     . rw [if_pos xB, if_pos (by omega)]; exact w.DA _ _ (h2 _ (by omega) (by omega))
     . rw [if_neg xB]
       by_cases oK : l < i /\ i <= k
       . rw [if_pos oK, if_pos (by omega)]; exact hu _ _ (by omega) (by omega)
       . rw [if_neg oK]
         by_cases xT : l < j /\ j <= k
         . rw [if_pos xT]; exact hu _ _ (by omega) (by omega)
         . rw [if_neg xT]; exact hu _ _ jd (by omega)
theorem vD {Q : Array Nat -> Shared -> Prop} (hn : 1 <= n) (hq : ∀ p' s, S s -> Ix n p' -> Up lt p' n -> Q p' s) (s : Shared) (hs : S s) : (kas_sort n).kasWp cmp Q s := by
 unfold kas_sort
 rw [KasT.kasWp_bind]
 refine tW w ha hn ⟨by simp, by simp⟩ (fun m p' s hs hp h1 hm hu => ?_) s hs
 by_cases h : m < n
 . simp only [if_pos h]
   have : max m 1 = m := by omega
   rw [this]
   exact tO w ha _ p' m hp (by omega) hu hq s hs
 . simp only [if_neg h]
   have : m = n := by omega
   subst this
   exact hq p' s hs hp hu
end
section
variable {X : Cx} {pins : List (Addr × Obj)} {σ : St} {H H' : Hp} {s : Shared} {a : Addr}
theorem Inv.uz {f : Obj -> Obj} (I : Inv X pins σ H s) (fa : cv X pins H a) : Inv X pins σ H { s with heap := s.heap.update a f } :=
 I.turned (t' := s.toks) (fun b o hb e => by rw [Heap.get?_update_ne _ _ _ _ hb]; exact e) fa.1 fa.2.1 fa.2.2.2.1 fa.2.2.2.2.1 fa.2.2.2.2.2
theorem Inv.p7 {o : Obj} (I : Inv X pins σ H s) : Inv X pins σ H { s with heap := s.heap.push o } := I.kept (t' := s.toks) fun b u e => Heap.get?_push_of_some _ e
theorem cv.keep (fa : cv X pins H a) (h : H' a = none) : cv X pins H' a := ⟨h, fa.2⟩
theorem Inv.Dh {acc : List V} {az : List Value} {n : Nat} (I : Inv X pins σ H s) (fa : cv X pins H a) (vW : X.cA.heap.objs.size <= a) (hl : acc.length <= sizeLine) (r : Vals acc az) (hd : s.heap.get? a = some { cls := .type "list", data := .seq az.toArray n }) :
 Inv X pins σ (upd H a (.lst acc)) s := by
 have ne : ∀ b u, H b = some u -> b ≠ a := fun b u e => aG e fa.1
 have old : ∀ b o, X.cA.heap.get? b = some o -> b ≠ a := fun b o e => Nat.ne_of_lt (Nat.lt_of_lt_of_le (Heap.lt_size e) vW)
 have U := I.base
 refine ⟨I.ok, I.os, I.bare, ⟨U.keep, U.slot, fun b o e n hx => ?_, U.there, fun b xs e => ?_, fun b o u e => ?_, fun b ps e => ?_⟩, I.loc, I.cell, ?_, fun x c e => ?_, fun p hp => ?_, fun b u e => ?_, I.len⟩
 . rw [aw (old b o e)]; exact U.free b o e n hx
 . rw [aw (ne b _ (U.jt b xs e))]; exact U.jt b xs e
 . rw [aw (ne b _ (U.iQ b o u e))]; exact U.iQ b o u e
 . obtain ⟨more, q⟩ := U.kH b ps e
   exact ⟨more, by rw [aw (ne b _ q)]; exact q⟩
 . rw [aw (Ne.symm fa.2.1)]; exact I.free
 . rw [aw (fa.2.2.2.2.1 x c e)]; exact I.dW x c e
 . obtain ⟨e1, e2, e3⟩ := I.pin p hp
   exact ⟨e1, by rw [aw (fa.2.2.2.2.2 p hp)]; exact e2, e3⟩
 . by_cases hb : b = a
   . subst hb
     rw [aA] at e
     cases e
     exact ⟨hl, az, n, r, hd⟩
   . rw [aw hb] at e
     exact (I.aQ b u e).mn (fun c v _ q => q) (fun c q => by rw [aw (ne c _ q)]; exact q) fun c xs q => by rw [aw (ne c _ q)]; exact q
end
def pP (a b : Str) : Bool := decide (a.cps.toList < b.cps.toList)
def cQ (a b : Int × Str) : Bool := decide (a.1 < b.1) || (decide (a.1 = b.1) && pP a.2 b.2)
theorem vY (a : Str) : pP a a = false := decide_eq_false (List.lt_irrefl _)
theorem xi {a b : Str} (h : pP a b = true) : pP b a = false := decide_eq_false (List.lt_asymm (of_decide_eq_true h))
theorem pk {a b c : Str} (h : pP a b = false) (h2 : pP b c = false) : pP a c = false := by
 unfold pP at *
 have rN : b.cps.toList <= a.cps.toList := List.not_lt.mp (of_decide_eq_false h)
 have CB : c.cps.toList <= b.cps.toList := List.not_lt.mp (of_decide_eq_false h2)
 exact decide_eq_false (List.not_lt.mpr (List.le_trans CB rN))
theorem t5 {a b : Int × Str} : cQ a b = true ↔ a.1 < b.1 \/ (a.1 = b.1 /\ pP a.2 b.2 = true) := by
 unfold cQ; simp
theorem c6 {a b : Int × Str} : cQ a b = false ↔ ¬ a.1 < b.1 /\ (a.1 = b.1 -> pP a.2 b.2 = false) := by
 unfold cQ; simp
theorem nB (a : Int × Str) : cQ a a = false := c6.mpr ⟨by omega, fun _ => vY _⟩
theorem tm {a b : Int × Str} (h : cQ a b = true) : cQ b a = false := by
 rcases t5.mp h with h | ⟨h, h2⟩
 . exact c6.mpr ⟨by omega, fun _ => by omega⟩
 . exact c6.mpr ⟨by omega, fun _ => xi h2⟩
theorem se {a b c : Int × Str} (h : cQ a b = false) (h2 : cQ b c = false) : cQ a c = false := by
 obtain ⟨h1, h3⟩ := c6.mp h
 obtain ⟨h4, h5⟩ := c6.mp h2
 refine c6.mpr ⟨by omega, fun e => ?_⟩
 exact pk (h3 (by omega)) (h5 (by omega))
section
variable {prog : Program} {w : World} {A : Around} {E : Value -> Shared -> Prop} {s : Shared}
theorem vE {x y : Addr} {i j : Int} {t u t2 u2 : Tok} {c d : Str} {Q : Bool -> Shared -> Prop} (hx : IsTup s.heap x #[.int i t, .str c t2]) (hy : IsTup s.heap y #[.int j u, .str d u2]) (h : Q (cQ (i, c) (j, d)) s) :
 wpAny (model prog w) A (keyLt' (tuples' true) (.ref x) (.ref y)) Q E s := by
 obtain ⟨ox, I9, cx, nx, dx⟩ := hx
 obtain ⟨oy, Kz, cy, ny, dy⟩ := hy
 refine kat_lt I9 dx Kz dy ?_
 refine kat_cons (wpAny_eqBool_int ?_)
 by_cases e : i = j
 . rw [show (i == j) = true from beq_iff_eq.mpr e]
   refine kat_yes (kat_cons (wpAny_eqBool_str ?_))
   by_cases e2 : c = d
   . rw [decide_eq_true e2]
     refine kat_yes (kat_nil ?_)
     have : cQ (i, c) (j, d) = false := by rw [e, e2]; exact nB _
     rw [this] at h
     exact h
   . rw [decide_eq_false e2]
     refine kat_no (kat_one _ _ (lt_str ?_))
     have : cQ (i, c) (j, d) = pP c d := by unfold cQ; simp [e]
     rw [this] at h
     exact h
 . rw [show (i == j) = false from beq_eq_false_iff_ne.mpr e]
   refine kat_no (oneLt_int ?_)
   have : cQ (i, c) (j, d) = decide (i < j) := by unfold cQ; simp [e]
   rw [this] at h
   exact h
end
def oh (sp : Sp) (kf : V -> Int × Str) (H : Hp) (xs : List V) : Prop := ∀ v ∈ xs, ∀ H', ag H H' -> sp [v] H' (fun y H2 => ag H' H2 /\ Dv H2 y (.tuple [.int (kf v).1, .str (kf v).2])) E0
def md {α : Type} (lt : α -> α -> Bool) (kf : V -> α) (ys xs : List V) : Prop := ys.Perm xs /\ ys.Pairwise fun x y => lt (kf y) (kf x) = false
section
variable {X : Cx} {pins : List (Addr × Obj)} {σ : St} {H : Hp} {s : Shared} {k : Nat} {f : Addr} {fd : FuncData} {ps : List Str} {sp : Sp} {kf : V -> Int × Str} {A : Around}
theorem wD {H' : Hp} {s' : Shared} {v : V} {u : Value} {pl : List (Addr × Obj)} (F : bJ X.prog X.w X.K X.mg X.base ic k f fd ps sp) (hb : Binds X.K fd ps []) (hr : b3 (k + 2) X.A) (I : Inv X pl σ H' s') (r : RelV v u)
 (hs : sp [v] H' (fun y H2 => ag H' H2 /\ Dv H2 y (.tuple [.int (kf v).1, .str (kf v).2])) E0) :
 wpAny (model X.prog X.w) X.A.in1.in1 (call (.ref f) [u]) (EP X pl σ fun y H2 => ag H' H2 /\ Dv H2 y (.tuple [.int (kf v).1, .str (kf v).2])) (fun _ _ => False) s' := by
 have r2 : Vals [v] [u] := .cons r .nil
 have hl : ([u] ++ []).length = ps.length := by have := F.len _ _ _ _ hs; simpa using this
 have qM := hb s' [u] I.A5 hl
 refine wpAny_call (codeAny_mono (F.run X.A.in1.in1 X.stack s' H' ⟨[u], []⟩ [u] [v] _ E0 (b3.in1 (b3.in1 hr)) (I.Dp.in1.in1) (by simpa using qM) r2 hs) fun r s2 hq => ?_)
 cases r with
 | error e => exact hq.elim
 | ok fl =>
   cases fl with
   | ret u => exact I.after hq
   | next => exact False.elim hq
   | brk => exact False.elim hq
   | cont => exact False.elim hq
structure yA (X : Cx) (pins : List (Addr × Obj)) (σ : St) (H : Hp) (kf : V -> Int × Str) (a kS : Addr) (oa : Obj) (xs : List V) (s' : Shared) : Prop where
 mk ::
 ex : ∃ H' us e ys, Inv X pins σ H' s' /\ ag H H' /\ H' a = none /\ H' kS = none /\ s'.heap.get? a = some oa /\ s'.heap.get? kS = some (seqObj "list" (List.toArray us) e) /\ Vals ys us /\ aX H' ys (xs.map fun v => .tuple [.int (kf v).1, .str (kf v).2])
theorem lh {kS : Addr} {oa : Obj} {body : Value -> PUnit -> Sem (ForInStep PUnit)} {E : Value -> Shared -> Prop} (F : bJ X.prog X.w X.K X.mg X.base ic k f fd ps sp) (hb : Binds X.K fd ps []) (hr : b3 (k + 2) X.A) (Hv : ∀ v, oa.data ≠ .cell v)
 (kU : ∀ x (s' : Shared) (R : Shared -> Prop), wpAny (model X.prog X.w) X.A.in1.in1 (call (.ref f) [x]) (fun k s2 => ∃ us e, s2.heap.get? kS = some (seqObj "list" (List.toArray us) e) /\ us.length < 64 /\ R { s2 with heap := s2.heap.update kS (Obj.mapSeq (·.push k)) }) (fun _ _ => False) s' ->
  wpAny (model X.prog X.w) X.A.in1.in1 (body x ⟨⟩) (fun r s2 => r = .yield ⟨⟩ /\ R s2) E s')
 (fa : cv X pins H a) (fk : cv X pins H kS) (vk : a ≠ kS) : ∀ (rx : List V) (r : List Value) (xs : List V) (s' : Shared), Vals rx r -> oh sp kf H rx -> xs.length + rx.length < 64 -> yA X pins σ H kf a kS oa xs s' ->
  wpAny (model X.prog X.w) X.A.in1.in1 (forIn r PUnit.unit body) (fun _ s2 => yA X pins σ H kf a kS oa (xs ++ rx) s2) E s'
 | [], _, xs, s', hv, _, _, hK => by
   cases hv
   rw [List.forIn_nil, List.append_nil]
   exact wpAny_pure hK
 | v :: rx, _, xs, s', .cons (b := u) (l₂ := r) hu hv, Ij, hlen, ⟨H', us, e, ys, I, sm, ha, hk, IZ, J9, rv, dv⟩ => by
   rw [List.forIn_cons]
   have LJ := fa.keep (H' := H') ha
   have L9 := fk.keep (H' := H') hk
   have I' : Inv X (pins ++ [(a, oa), (kS, seqObj "list" (List.toArray us) e)]) σ H' s' := by
    refine I.gb fun p hp => ?_
    rcases List.mem_append.mp hp with hp | hp
    . exact I.pin p (List.mem_append_right _ hp)
    . rcases List.mem_cons.mp hp with rfl | hp
      . exact ⟨IZ, ha, fa.2.1, fa.2.2.1, Hv⟩
      . have : p = (kS, seqObj "list" (List.toArray us) e) := by simpa using hp
        subst this
        exact ⟨J9, hk, fk.2.1, fk.2.2.1, fun v z => by cases z⟩
   have KJ : us.length = xs.length := by rw [<- rv.length, dv.length, List.length_map]
   refine wpAny_bind (wpAny_mono (kU u s' (fun s2 => yA X pins σ H kf a kS oa (xs ++ [v]) s2) (wpAny_mono (wD F hb hr I' hu (Ij v List.mem_cons_self H' sm)) (fun kv s2 hq => ?_) fun _ _ z => z)) (fun q s2 hq => ?_) fun _ _ z => z)
   . obtain ⟨y, H2, I2, ry, ck, dy⟩ := hq
     have p1 := I2.pin (a, oa) (List.mem_append_right _ (List.mem_append_right _ List.mem_cons_self))
     have p2 := I2.pin (kS, seqObj "list" (List.toArray us) e) (List.mem_append_right _ (List.mem_append_right _ (List.mem_cons_of_mem _ List.mem_cons_self)))
     have I3 : Inv X pins σ H2 s2 := I2.il
     refine ⟨us, e, p2.1, by simp at hlen; omega, ?_⟩
     obtain ⟨c, hc⟩ : ∃ c, (s2.heap.update kS (Obj.mapSeq (·.push kv))).get? kS = some (seqObj "list" (List.toArray (us ++ [kv])) c) := by
      have ea : (List.toArray us).push kv = List.toArray (us ++ [kv]) := by simp
      rw [<- ea]
      exact ⟨_, get?_update_seq p2.1 (·.push kv)⟩
     refine ⟨H2, us ++ [kv], c, ys ++ [y], I3.uz (fk.keep p2.2.1), sm.trans ck, p1.2.1, p2.2.1, ?_, hc, rv.append (.cons ry .nil), ?_⟩
     . show (s2.heap.update kS _).get? a = some oa
       rw [Heap.get?_update_ne _ _ _ _ vk]; exact p1.1
     . rw [List.map_append]
       exact (dv.keeps ck).append (.cons dy .nil)
   . obtain ⟨rfl, hq⟩ := hq
     have := lh F hb hr Hv kU fa fk vk rx r (xs ++ [v]) s2 hv (fun z hz => Ij z (List.mem_cons_of_mem _ hz)) (by simp at hlen ⊢; omega) hq
     rw [List.append_assoc] at this
     exact this
theorem uH {xs : List V} {p : Array Nat} {α : Type} {lt : α -> α -> Bool} {kf : V -> α} (hp : Ix xs.length p) (hu : Up (fun i j => lt (kf (xs.getD i .aZ)) (kf (xs.getD j .aZ))) p xs.length) : md lt kf (p.toList.map fun i => xs.getD i .aZ) xs := by
 refine ⟨?_, ?_⟩
 . have h := hp.pm.map fun i => xs.getD i .aZ
   have e : (List.range xs.length).map (fun i => xs.getD i .aZ) = xs := by
    refine List.ext_getElem? fun i => ?_
    rw [List.getElem?_map]
    by_cases hi : i < xs.length
    . rw [List.getElem?_range hi]; simp [hi]
    . rw [List.getElem?_eq_none (by simpa using hi), List.getElem?_eq_none (by simpa using hi)]; rfl
   rw [e] at h
   exact h
 . rw [List.pairwise_map, List.pairwise_iff_getElem]
   intro i j hi hj jd
   have hsz : p.toList.length = xs.length := by simp [hp.sz]
   have := hu i j jd (by omega)
   have gi : p.getD i 0 = p.toList[i] := by simp [Array.getD, show i < p.size by rw [hp.sz]; omega]
   have gj : p.getD j 0 = p.toList[j] := by simp [Array.getD, show j < p.size by rw [hp.sz]; omega]
   rw [gi, gj] at this
   exact this
theorem iI : ∀ {xs : List V} {us : List Value} (i : Nat), Vals xs us -> RelV (xs.getD i .aZ) (us.getD i Value.none)
 | _, _, _, .nil => rfl
 | _, _, 0, .cons r _ => r
 | _, _, i + 1, .cons _ t => by simpa using iI i t
theorem lg {xs : List V} {us : List Value} (r : Vals xs us) : ∀ l : List Nat, Vals (l.map fun i => xs.getD i .aZ) (l.map fun i => us.getD i Value.none)
 | [] => .nil
 | i :: l => .cons (iI i r) (lg r l)
theorem ni {H : Hp} {g : V -> PyData} : ∀ {ys : List V} {xs : List V} {i : Nat}, aX H ys (xs.map g) -> i < xs.length -> Dv H (ys.getD i .aZ) (g (xs.getD i .aZ))
 | _, [], _, _, h => by simp at h
 | _, _ :: _, 0, .cons h _, _ => h
 | _, _ :: _, i + 1, .cons _ t, hi => by simpa using ni (i := i) t (by simpa using hi)
def qm (X : Cx) (pins : List (Addr × Obj)) (σ : St) (H : Hp) {α : Type} (lt : α -> α -> Bool) (kf : V -> α) (xs : List V) (Q : VK) : Prop :=
 ∀ a ys H', ag H H' -> H a = none -> H' a = none -> md lt kf ys xs -> Q (.ref a) (upd H' a (.lst ys))
theorem q8 {H' : Hp} {s' : Shared} {xs ys : List V} {us : List Value} {A : Around} (I : Inv X pins σ H' s') (rv : Vals ys us) (dv : aX H' ys (xs.map fun v => .tuple [.int (kf v).1, .str (kf v).2])) :
 BQ xs.length (fun i j => cQ (kf (xs.getD i .aZ)) (kf (xs.getD j .aZ))) (fun z => z = s') (kas_ask X.prog X.w A (tuples' true) us) := by
 intro i j C z hi hj hz hC
 subst hz
 have one : ∀ i, i < xs.length -> ∃ x t t2, us.getD i Value.none = .ref x /\ IsTup z.heap x #[.int (kf (xs.getD i .aZ)).1 t, .str (kf (xs.getD i .aZ)).2 t2] := fun i hi => by
  have d := ni dv hi
  have r := iI i rv
  generalize ys.getD i .aZ = y at d r
  generalize us.getD i Value.none = u at r
  cases d with
  | tup h q =>
    have r' : u = .ref _ := r
    obtain ⟨az, rr, tt, _⟩ := I.tuple (.of h)
    cases q with
    | cons h1 q =>
      cases q with
      | cons h2 q =>
        cases q
        cases h1; cases h2
        cases rr with
        | cons r1 rr =>
          cases rr with
          | cons r2 rr =>
            cases rr
            obtain ⟨t1, rfl⟩ := r1
            obtain ⟨t2, rfl⟩ := r2
            exact ⟨_, t1, t2, r', tt⟩
 obtain ⟨x, t, t2, e1, hx⟩ := one i hi
 obtain ⟨y, u, u2, e2, hy⟩ := one j hj
 show wpAny (model X.prog X.w) A (keyLt' (tuples' true) (us.getD i Value.none) (us.getD j Value.none)) C (fun _ _ => False) z
 rw [e1, e2]
 exact vE hx hy (hC _ rfl)
theorem j3 {H' : Hp} {s' : Shared} : ∀ {xs ys : List V} {us : List Value}, Inv X pins σ H' s' -> Vals ys us -> aX H' ys (xs.map fun v => .tuple [.int (kf v).1, .str (kf v).2]) ->
 ∃ fs, KatTups s'.heap us fs /\ fs.length = us.length /\ ∀ v ∈ fs, Looks (model X.prog X.w) s'.heap (typeOf v) (.type "int")
 | [], _, _, I, rv, dv => by
   cases dv
   cases rv
   exact ⟨[], trivial, rfl, fun _ z => nomatch z⟩
 | x :: xs, _, _, I, rv, dv => by
   cases dv with
   | cons d dv =>
     cases rv with
     | cons r rv =>
       obtain ⟨fs, h1, h2, h3⟩ := j3 I rv dv
       cases d with
       | tup h q =>
         obtain ⟨az, rr, tt, _⟩ := I.tuple (.of h)
         cases q with
         | cons q1 q =>
           cases q with
           | cons q2 q =>
             cases q
             cases q1; cases q2
             cases rr with
             | cons r1 rr =>
               cases rr with
               | cons r2 rr =>
                 cases rr
                 obtain ⟨t1, rfl⟩ := r1
                 obtain ⟨t2, rfl⟩ := r2
                 cases r
                 obtain ⟨o, ho, hc, n, hd⟩ := tt
                 refine ⟨_ :: fs, KatTups.cons ho hc hd rfl h1, by simp [h2], fun v hv => ?_⟩
                 rcases List.mem_cons.mp hv with rfl | hv
                 . exact .now
                 . exact h3 v hv
end
section
variable {X : Cx} {pins : List (Addr × Obj)} {σ : St} {H : Hp} {s : Shared} {k : Nat} {f : Addr} {fd : FuncData} {ps : List Str} {sp : Sp} {kf : V -> Int × Str} {A : Around}
theorem k6 {H' : Hp} {s' : Shared} {a kS : Addr} {e e1 : Nat} {us out : List Value} {ys : List V} {st : SortSt} {E : Value -> Shared -> Prop} {P : PySem.Fin -> Shared -> Prop} (I : Inv X pins σ H' s') (fa : cv X pins H' a) (fk : cv X pins H' kS) (vk : a ≠ kS) (vW : X.cA.heap.objs.size <= a)
 (oa : s'.heap.get? a = some (seqObj "list" #[] e1)) (ok : s'.heap.get? kS = some (seqObj "list" (List.toArray us) e)) (hz : us.length < 64) (EW : (arrOf st).map (·.2) = List.toArray out) (ho : out.length < 64) (hf : failedOf st = none) (rv : Vals ys out)
 (h : ∀ s2, Inv X pins σ (upd H' a (.lst ys)) s2 -> P (.done (.ret .none)) s2) : wpAny (model X.prog X.w) A (ksk_tail a false e1 (.ref kS) st) P E s' := by
 have G7 : (64 : Nat) <= sizeLine := by decide
 unfold ksk_tail
 dsimp only
 rw [EW]
 refine wpAny_bind (listUpdate_at ok rfl ?_ (by rw [List.size_toArray]; omega) (Nat.zero_le _))
 refine wpAny_bind (wpAny_letGo ?_)
 have ER : (s'.heap.update kS (Obj.mapSeq fun _ => (#[] : Array Value))).get? a = some (seqObj "list" #[] e1) := by rw [Heap.get?_update_ne _ _ _ _ vk]; exact oa
 have I1 : Inv X pins σ H' { s' with heap := s'.heap.update kS (Obj.mapSeq fun _ => (#[] : Array Value)) } := I.uz fk
 refine wpAny_bind (seqEpoch_at ER rfl ?_)
 refine wpAny_bind (listUpdate_at ER rfl ?_ (Nat.zero_le _) (by show (List.toArray out).size <= _; rw [List.size_toArray]; omega))
 rw [hf]
 simp only [bne_self_eq_false, Bool.false_eq_true, if_false]
 refine wpAny_pure (h _ ?_)
 have I2 := I1.uz (f := Obj.mapSeq fun _ => List.toArray out) fa
 exact I2.Dh fa vW (by rw [rv.length]; omega) rv (get?_update_seq ER fun _ => List.toArray out)
theorem uE {H' : Hp} {s' : Shared} {a kS : Addr} {e e1 : Nat} {us vs : List Value} {xs ys : List V} {Q : VK} {E : Value -> Shared -> Prop} {P : PySem.Fin -> Shared -> Prop} (sm : ag H H') (Ih : H a = none) (I : Inv X pins σ H' s') (fa : cv X pins H' a) (fk : cv X pins H' kS) (vk : a ≠ kS) (vW : X.cA.heap.objs.size <= a)
 (oa : s'.heap.get? a = some (seqObj "list" #[] e1)) (ok : s'.heap.get? kS = some (seqObj "list" (List.toArray us) e)) (xD : xs.length < 64) (rx : Vals xs vs) (ry : Vals ys us) (dv : aX H' ys (xs.map fun v => .tuple [.int (kf v).1, .str (kf v).2]))
 (fin : qm X pins σ H cQ kf xs Q) (h : ∀ s2, EP X pins σ Q (.ref a) s2 -> P (.done (.ret .none)) s2) : wpAny (model X.prog X.w) A (ksk_end a false vs.toArray e1 (.ref kS) (List.toArray us)) P E s' := by
 have lx := rx.length
 have ly := ry.length
 have ld := dv.length
 rw [List.length_map] at ld
 unfold ksk_end
 simp only [Bool.false_eq_true, if_false]
 by_cases h2 : vs.toArray.size < 2
 . rw [if_pos h2, if_pos h2]
   refine wpAny_bind (wpAny_pure ?_)
   rw [StateT.run_pure]
   refine wpAny_bind (wpAny_pure ?_)
   refine k6 (out := vs) (ys := xs) I fa fk vk vW oa ok (by omega) ?_ (by omega) rfl rx (fun s2 I2 => h s2 ⟨.ref a, _, I2, rfl, fin a xs H' sm Ih fa.1 ⟨List.Perm.refl _, ?_⟩⟩)
   . show ((List.toArray us).zip vs.toArray).map (·.2) = List.toArray vs
     apply Array.toList_inj.mp
     have : us.length = vs.length := by omega
     simp [List.map_snd_zip, this]
   . rw [List.size_toArray] at h2
     match xs, lx with
     | [], _ => exact .nil
     | [_], _ => exact List.pairwise_singleton _ _
     | _ :: _ :: _, lx => simp at lx; omega
 . rw [if_neg h2, if_neg h2]
   rw [List.size_toArray] at h2
   obtain ⟨fs, k1, k2, k3⟩ := j3 I ry dv
   refine wpAny_bind (kat_kind k1 (by omega) k3 (by decide) ?_)
   have HN : us.length = vs.length := by omega
   refine wpAny_bind (wpAny_mono (kat_run (Q := fun u0 s2 => s2 = s' /\ ∃ p : Array Nat, Ix xs.length p /\ arrOf u0 = p.map (kas_item ((List.toArray us).zip (List.toArray vs))) /\ failedOf u0 = none /\ Up (fun i j => cQ (kf (xs.getD i .aZ)) (kf (xs.getD j .aZ))) p xs.length)
    (G := fun p s2 => s2 = s' /\ Ix xs.length p /\ Up (fun i j => cQ (kf (xs.getD i .aZ)) (kf (xs.getD j .aZ))) p xs.length) HN (by omega) (by omega) (fun p u0 s2 a1 a2 a3 ⟨a4, a5, a6⟩ => ⟨a4, p, a5, a2, a3, a6⟩) ?_) ?_ fun _ _ z => z)
   . rw [show vs.length = xs.length by omega]
     refine vD (lt := fun i j => cQ (kf (xs.getD i .aZ)) (kf (xs.getD j .aZ))) (S := fun z => z = s') ⟨fun _ => nB _, fun _ _ => tm, fun _ _ _ => se⟩ (q8 I ry dv) (by omega) (fun p s2 hs hp hu => ⟨hs, hp, hu⟩) s' rfl
   . rintro ⟨⟨⟩, u0⟩ s2 ⟨rfl, p, hp, Km, hf, hu⟩
     dsimp only
     refine k6 (out := p.toList.map fun i => vs.getD i Value.none) (ys := p.toList.map fun i => xs.getD i .aZ) I fa fk vk vW oa ok (by omega) (kat_snds HN Km) (by simp [hp.sz]; omega) hf (lg rx _) (fun s3 I3 => h s3 ⟨.ref a, _, I3, rfl, fin a _ H' sm Ih fa.1 (uH hp hu)⟩)
theorem o4 {l : Addr} {xs : List V} {Q : VK} {E : Value -> Shared -> Prop} (I : Inv X pins σ H s) (hl : bh X.K H l xs) (xD : xs.length < 64) (F : bJ X.prog X.w X.K X.mg X.base ic k f fd ps sp) (hb : Binds X.K fd ps []) (hr : b3 (k + 2) X.A)
 (hk : oh sp kf H xs) (fin : qm X pins σ H cQ kf xs Q) : wpAny (model X.prog X.w) X.A (call (.builtin "sorted") [.ref l] [(Str.ofString "key", .ref f)]) (EP X pins σ Q) E s := by
 have G7 : (64 : Nat) <= sizeLine := by decide
 obtain ⟨vs, rv, p, hz⟩ := I.list hl
 have lx := rv.length
 refine call_function_entry_kw kind_sorted plain_sorted entry_sorted (ksk_s1 _ _) ?_
 unfold Builtin.«sorted»
 refine wpAny_bind (m := checkCount "sorted" 1 1 _) (wpAny_pure ?_)
 refine wpAny_bind (collect_list p.isList ?_ (by omega))
 refine wpAny_bind (wpAny_newList ?_ (by omega))
 have K2 : cv X pins H s.heap.objs.size := I.jJ (Nat.le_refl _) (I.aQ.fresh (Nat.le_refl _))
 have I2 : Inv X pins σ H { s with heap := (s.heap.push (seqObj "list" #[] 0)).update s.heap.objs.size (Obj.mapSeq (· ++ vs.toArray)) } := (I.p7 (o := seqObj "list" #[] 0)).uz K2
 have hsz : ((s.heap.push (seqObj "list" #[] 0)).update s.heap.objs.size (Obj.mapSeq (· ++ vs.toArray))).objs.size = s.heap.objs.size + 1 := by rw [Heap.size_update, size_push']
 generalize hG : (s.heap.push (seqObj "list" #[] 0)).update s.heap.objs.size (Obj.mapSeq (· ++ vs.toArray)) = h2 at I2 hsz ⊢
 have u3 : (h2.push (seqObj "list" vs.toArray 0)).get? h2.objs.size = some (seqObj "list" vs.toArray 0) := Heap.get?_push_size _ rfl
 have I3 : Inv X pins σ H { s with heap := h2.push (seqObj "list" vs.toArray 0) } := I2.p7
 have fa : cv X pins H h2.objs.size := I2.jJ (Nat.le_refl _) (I2.aQ.fresh (Nat.le_refl _))
 have vW : X.cA.heap.objs.size <= h2.objs.size := I2.sz
 show wpAny _ _ _ _ _ { s with heap := h2.push (seqObj "list" vs.toArray 0) }
 generalize h2.objs.size = a at *
 refine wpAny_bind (wpAny_holding (wpAny_call_entry_kw slot_list_sort ⟨_, u3, rfl⟩ entry_list_sort ?body (ksk_l1 _ _)))
 case body =>
  show wpAny (model X.prog X.w) X.A.in1.in1 (Builtin.«list.sort» ⟨[.ref a], [(Str.ofString "key", .ref f)]⟩) _ _ _
  rw [ksk_t1]
  generalize h2.push (seqObj "list" vs.toArray 0) = h3 at *
  unfold ksk_tree
  refine wpAny_bind (listItems_at u3 rfl ?_)
  refine wpAny_bind (listUpdate_at u3 rfl ?_ (by rw [List.size_toArray]; omega) (Nat.zero_le _))
  have I4 : Inv X pins σ H { s with heap := h3.update a (Obj.mapSeq fun _ => (#[] : Array Value)) } := I3.uz fa
  obtain ⟨e1, oa⟩ : ∃ e1, (h3.update a (Obj.mapSeq fun _ => (#[] : Array Value))).get? a = some (seqObj "list" #[] e1) := ⟨_, get?_update_seq u3 fun _ => #[]⟩
  generalize h3.update a (Obj.mapSeq fun _ => (#[] : Array Value)) = h4 at *
  refine wpAny_bind (seqEpoch_at oa rfl ?_)
  refine wpAny_bind (wpAny_newTuple ?_ (by show vs.length <= _; omega))
  have I5 : Inv X pins σ H { s with heap := h4.push (seqObj "tuple" vs.toArray 0) } := I4.p7
  have HA : (h4.push (seqObj "tuple" vs.toArray 0)).get? a = some (seqObj "list" #[] e1) := Heap.get?_push_of_some _ oa
  show wpAny _ _ _ _ _ { s with heap := h4.push (seqObj "tuple" vs.toArray 0) }
  generalize h4.push (seqObj "tuple" vs.toArray 0) = h5 at *
  refine wpAny_bind (wpAny_newList ?_ (Nat.zero_le _))
  have I6 : Inv X pins σ H { s with heap := h5.push (seqObj "list" #[] 0) } := I5.p7
  have fk : cv X pins H h5.objs.size := I5.jJ (Nat.le_refl _) (I5.aQ.fresh (Nat.le_refl _))
  have Jh : (h5.push (seqObj "list" #[] 0)).get? a = some (seqObj "list" #[] e1) := Heap.get?_push_of_some _ HA
  have Jw : (h5.push (seqObj "list" #[] 0)).get? h5.objs.size = some (seqObj "list" #[] 0) := Heap.get?_push_size _ rfl
  have vk : a ≠ h5.objs.size := Nat.ne_of_lt (Heap.lt_size HA)
  show wpAny _ _ _ _ _ { s with heap := h5.push (seqObj "list" #[] 0) }
  show wpAny _ _ (holding [_, .ref h5.objs.size] (ksk_rest a (.ref f) false vs.toArray e1 (.ref h5.objs.size))) _ _ _
  generalize h5.objs.size = kS at *
  generalize h5.push (seqObj "list" #[] 0) = h6 at *
  refine wpAny_holding ?_
  unfold ksk_rest
  refine wpAny_bind (wpAny_rule ?_)
  first
   | rw [List.forIn_toArray]
   | (rw [<- Array.forIn_toList]; simp only [List.toList_toArray])
  refine wpAny_bind (wpAny_mono (lh (kf := kf) F hb hr (oa := seqObj "list" #[] e1) (fun v z => by cases z) (fun x s' R hx => ?_) fa fk vk xs vs [] { s with heap := h6 } rv hk (by simpa using xD) ⟨H, [], 0, [], I6, ag.refl _, fa.1, fk.1, Jh, Jw, .nil, .nil⟩) (fun _ s7 hK => ?_) fun _ _ z => z)
  . refine wpAny_bind (wpAny_attempt (wpAny_mono hx (fun kv s2 hq => ?_) fun _ _ z => z.elim))
    obtain ⟨us, e, ok, cq, hR⟩ := hq
    dsimp only
    refine wpAny_bind (listUpdate_at ok rfl ?_ (by rw [List.size_toArray]; omega) (by rw [Array.size_push, List.size_toArray]; omega))
    exact wpAny_pure ⟨rfl, hR⟩
  . obtain ⟨H', us, e, ys, I7, sm, Ko, Lk, JB, Hr, ry, dv⟩ := hK
    try dsimp only
    refine wpAny_bind (listItems_at Hr rfl ?_)
    refine uE sm fa.1 I7 (fa.keep Ko) (fk.keep Lk) vk vW JB Hr xD rv ry (by simpa using dv) fin (fun s8 h8 => ⟨_, rfl, wpAny_pure ⟨_, rfl, h8⟩⟩)
end
def oA (sp : Sp) (K : PySem.W.Frag) (vs : List V) (H : Hp) (Q : VK) : Prop := ∃ a xs kf, vs = [.ref a] /\ bh K H a xs /\ xs.length < 64 /\ oh sp kf H xs /\ ∀ l ys H', ag H H' -> H l = none -> H' l = none -> md cQ kf ys xs -> Q (.ref l) (upd H' l (.lst ys))
def r6 (K : PySem.W.Frag) (sp : Sp) (t : TA) : TE := fun σ H Q => t σ H fun vs H1 => oA sp K vs H1 Q
section
variable {X : Cx} {k : Nat} {f : Addr} {ps : List Str} {sp : Sp} {e : Expr} {t : TA} {x : Str} {p p2 pos zD : Pos}
theorem tU (c : ki X.prog X.w X.K X.mg X.base k f ps [] sp) (hr : b3 (k + 2) X.A) (hg : Gl X "sorted") (hm : X.mg "sorted" = none) (hf : PE X (.Name x p2) (tC (.ref f))) (ha : PA X [e] t)
 (yw : backTo pos (starEach [e] X.env) = (false, eval e X.env) :: backTo pos (starEach [] X.env) := by rfl) (mE : (backTo pos (starEach [e] X.env)).any (·.1) = false := by rfl) : PE X (.Call (.Name "sorted" p) [e] [⟨some "key", .Name x p2, zD⟩] pos) (r6 X.K sp t) := by
 intro pins s σ H Q I h
 obtain ⟨fd, ds, F, hb, hd⟩ := c.ex
 cases hd
 refine wpAny_Call_Name_kw (eV I hg hm boot_sorted ?_)
 refine callWith_kw (bF (ha pos pins s σ H _ I h) fun us s1 ⟨vs, H1, I1, r1, q1⟩ => ?_) yw mE
 refine bF (wB hf yC pos pins s1 σ H1 (fun zs H2 => zs = [.ref f] /\ H2 = H1) I1 ⟨rfl, rfl⟩) fun ws s2 ⟨zs, H2, I2, rz, q2, q3⟩ => ?_
 subst q2; subst q3
 obtain ⟨a, xs, kf, e1, hl, xD, hk, fin⟩ := q1
 subst e1
 obtain ⟨u, rfl, ru⟩ := vals1 r1
 obtain ⟨w', rfl, uQ⟩ := vals1 rz
 have e1 : u = .ref a := ru
 have e2 : w' = .ref f := uQ
 subst e1; subst e2
 exact o4 I2 hl xD F hb hr hk (fun a ys H' => fin a ys H')
end
end L2
namespace L2
open PySem PySem.Spec PyProof.Rows
theorem ko {scope : Scope} {env : Env} (h : ∀ x ∈ scope.names, x.2 = .free -> ∃ c, env.cells.lookup x.1 = some c) :
 ∃ cl, closureFor scope env = pure cl /\ (∀ x c, cl.lookup x = some c -> env.cells.lookup x = some c) /\ ∀ x ∈ scope.names, x.2 = .free -> ∃ c, cl.lookup x.1 = some c := by
 have key : ∀ (l : List (Str × NameKind)) (acc : List (Str × Addr)), (∀ x ∈ l, x.2 = .free -> ∃ c, env.cells.lookup x.1 = some c) -> (∀ x c, acc.lookup x = some c -> env.cells.lookup x = some c) ->
  ∃ cl, (forIn l acc (fun (x : Str × NameKind) (r : List (Str × Addr)) => (match x with
    | (name, kind) => if (kind == NameKind.free) = true then (do let c <- cellOf env name; pure (ForInStep.yield ((name, c) :: r))) else pure (ForInStep.yield r) : Sem (ForInStep (List (Str × Addr))))) : Sem _) = pure cl /\
    (∀ x c, cl.lookup x = some c -> env.cells.lookup x = some c) /\ (∀ x ∈ l, x.2 = .free -> ∃ c, cl.lookup x.1 = some c) /\ ∀ x, (∃ c, acc.lookup x = some c) -> ∃ c, cl.lookup x = some c := by
  intro l
  induction l with
  | nil => intro acc _ ha; exact ⟨acc, rfl, ha, fun _ z => (nomatch z), fun _ z => z⟩
  | cons p r ih =>
    intro acc hl ha
    obtain ⟨n, k⟩ := p
    rw [List.forIn_cons]
    by_cases hk : k = .free
    . subst hk
      obtain ⟨c, hc⟩ := hl (n, .free) List.mem_cons_self rfl
      have kX : cellOf env n = pure c := by unfold cellOf; rw [hc]
      obtain ⟨cl, e, h1, h2, h3⟩ := ih ((n, c) :: acc) (fun x hx => hl x (List.mem_cons_of_mem _ hx)) (fun x d hd => by
       rw [List.lookup_cons] at hd
       by_cases hx : x = n
       . subst hx; rw [beq_self_eq_true] at hd; cases hd; exact hc
       . rw [beq_eq_false_iff_ne.mpr hx] at hd; exact ha x d hd)
      refine ⟨cl, ?_, h1, fun x hx hf => ?_, fun x ⟨d, hd⟩ => h3 x ?_⟩
      . simp only [beq_self_eq_true, if_true, kX]
        exact e
      . rcases List.mem_cons.mp hx with rfl | hx
        . exact h3 n ⟨c, by rw [List.lookup_cons, beq_self_eq_true]⟩
        . exact h2 x hx hf
      . rw [List.lookup_cons]
        by_cases hx : x = n
        . subst hx; rw [beq_self_eq_true]; exact ⟨c, rfl⟩
        . rw [beq_eq_false_iff_ne.mpr hx]; exact ⟨d, hd⟩
    . obtain ⟨cl, e, h1, h2, h3⟩ := ih acc (fun x hx => hl x (List.mem_cons_of_mem _ hx)) ha
      refine ⟨cl, ?_, h1, fun x hx hf => ?_, h3⟩
      . have : (k == NameKind.free) = false := by simpa using hk
        simp only [this, Bool.false_eq_true, if_false]
        exact e
      . rcases List.mem_cons.mp hx with rfl | hx
        . exact absurd hf hk
        . exact h2 x hx hf
 obtain ⟨cl, e, h1, h2, _⟩ := key scope.names [] h (fun _ _ z => by simp at z)
 refine ⟨cl, ?_, h1, h2⟩
 unfold closureFor
 show (forIn scope.names [] _ >>= fun cs => pure cs) = _
 refine Eq.trans (congrArg (· >>= _) e) rfl
theorem eL {env : Env} {scope : Scope} {x : Str} : (relabel scope env).names.lookup x = (scope.names.lookup x).map fun k => if (k == NameKind.free && env.scope.kind == .function && env.kindOf x == some .cell) = true then .cell else k := by
 unfold relabel
 show List.lookup x (List.map _ scope.names) = _
 generalize scope.names = l
 induction l with
 | nil => rfl
 | cons p r ih =>
   obtain ⟨n, k⟩ := p
   rw [List.map_cons]
   dsimp only
   by_cases hx : x = n
   . subst hx
     by_cases hc : (k == NameKind.free && env.scope.kind == .function && env.kindOf x == some .cell) = true
     . rw [if_pos hc, List.lookup_cons, List.lookup_cons, beq_self_eq_true]; simp only [Option.map_some, if_pos hc]
     . rw [if_neg hc, List.lookup_cons, List.lookup_cons, beq_self_eq_true]; simp only [Option.map_some, if_neg hc]
   . have hb : (x == n) = false := beq_eq_false_iff_ne.mpr hx
     by_cases hc : (k == NameKind.free && env.scope.kind == .function && env.kindOf n == some .cell) = true
     . rw [if_pos hc, List.lookup_cons, List.lookup_cons, hb]; exact ih
     . rw [if_neg hc, List.lookup_cons, List.lookup_cons, hb]; exact ih
theorem mem_lookup {α : Type} {x : Str} {k : α} : ∀ {l : List (Str × α)}, l.lookup x = some k -> (x, k) ∈ l
 | [], h => by simp at h
 | (n, j) :: r, h => by
   rw [List.lookup_cons] at h
   by_cases hx : x = n
   . subst hx; rw [beq_self_eq_true] at h; cases h; exact List.mem_cons_self
   . rw [beq_eq_false_iff_ne.mpr hx] at h; exact List.mem_cons_of_mem _ (mem_lookup h)
def dt (X : Cx) (N : List Str) (scope : Scope) (cl : List (Str × Addr)) (C : Addr) (s : Shared) (H : Hp) (fp : List Addr) : Cx :=
 { X with N := N, cA := s, uc := H, env := compEnvC scope cl C X.env, outer := X.stack, stack := X.stack, ex := fp, fn := fun _ => false, pn := [], xe := fun _ _ => False }
structure fZ (X : Cx) (T M : List Str) (scope : Scope) : Prop where
 kind : scope.kind = .function
 cell : ∀ y ∈ scope.names, y.2 ≠ .cell
 names : ∀ y ∈ scope.names, y.2 = .local -> scope.names.lookup y.1 = some .local
 free : ∀ y ∈ scope.names, y.2 = .free -> X.env.scope.names.lookup y.1 = some .cell \/ X.env.scope.names.lookup y.1 = some .free
 len : M.length = X.N.length
 old : ∀ (i : Nat) x, M[i]? = some x -> X.N[i]? = some x /\ scope.names.lookup x = some .free \/ scope.names.lookup x = none
section
variable {X : Cx} {pins : List (Addr × Obj)} {σ : St} {H : Hp} {s : Shared} {T M : List Str} {scope : Scope} {cl : List (Str × Addr)} {fp : List Addr}
theorem BE {C : Addr} (I : Inv X pins σ H s) (hN : fZ X T M scope) (h1 : ∀ x c, cl.lookup x = some c -> X.env.cells.lookup x = some c) (h2 : ∀ x ∈ scope.names, x.2 = .free -> ∃ c, cl.lookup x.1 = some c)
 (hC : s.heap.objs.size <= C) (hf : ∀ b ∈ fp, cv X pins H b) (Bf : ∀ b ∈ fp, b < s.heap.objs.size) : (dt X (T ++ M) scope cl C s H fp).Ok where
 mod := I.ok.mod
 kind := hN.kind
 glob := I.ok.glob
 blt := I.ok.blt
 above := hC
 inj := fun x y c e1 e2 => I.ok.inj x y c (h1 x c e1) (h1 y c e2)
 has := fun x hx => by
  have g0 : (relabel scope X.env).names.lookup x = some .cell \/ (relabel scope X.env).names.lookup x = some .free := hx
  rw [eL] at g0
  cases e : scope.names.lookup x with
  | none => rw [e] at g0; simp at g0
  | some k =>
    have hm := mem_lookup e
    have hk : k = .free := by
     rw [e] at g0
     simp only [Option.map_some, Option.some.injEq] at g0
     by_cases hf : k = .free
     . exact hf
     . have : (k == NameKind.free) = false := by simpa using hf
       simp only [this, Bool.false_and, Bool.false_eq_true, if_false] at g0
       rcases g0 with g0 | g0
       . exact absurd g0 (hN.cell _ hm)
       . exact g0
    exact h2 (x, k) hm hk
 Bj := fun _ _ z => by cases z
 hd := I.ok.hd
 frames := I.ok.frames
 DL := .inl rfl
 BG := fun b hb => ⟨Nat.ne_of_lt (Nat.lt_of_lt_of_le (Bf b hb) hC), fun x c e => (hf b hb).2.2.2.2.1 x c (h1 x c e)⟩
 bs := I.bs
 vf := Nat.le_trans I.ok.vf I.sz
 qx := fun b o e hb => by
  rcases (hf b hb).2.2.2.1 with z | z
  . exact I.ok.qx b o e z
  . exact absurd (Nat.lt_of_lt_of_le (Heap.lt_size e) (Nat.le_trans I.ok.vf z)) (Nat.lt_irrefl _)
 qQ := fun b hb z => by
  rcases List.mem_cons.mp (I.o6 b z) with e | e
  . exact (hf b hb).2.1 e
  . exact (hf b hb).2.2.1 e
 iF := I.stack
 ya := I.ph
theorem r0 {C : Addr} {h₁ : Heap} {tk : Nat} (I : Inv X pins σ H s) (hN : fZ X T M scope) (h1 : ∀ x c, cl.lookup x = some c -> X.env.cells.lookup x = some c) (h2 : ∀ x ∈ scope.names, x.2 = .free -> ∃ c, cl.lookup x.1 = some c)
 (hC : s.heap.objs.size <= C) (hf : ∀ b ∈ fp, cv X pins H b) (Bf : ∀ b ∈ fp, b < s.heap.objs.size)
 {m : Str -> Option Value} (hn : h₁.Ns C m) (old : ∀ b o, s.heap.get? b = some o -> h₁.get? b = some o) :
 Inv (dt X (T ++ M) scope cl C s H fp) [] (List.replicate T.length none ++ σ) H { s with heap := h₁, toks := tk } where
 ok := BE I hN h1 h2 hC hf Bf
 os := rfl
 bare := I.bare
 base := Un.kept old
 loc := by
  refine ⟨m, hn, fun i x v e1 e2 e3 => ?_⟩
  have Gf : (T ++ M)[i]? = some x := e1
  by_cases hi : i < T.length
  . rw [List.getElem?_append_left (by simpa using hi), List.getElem?_replicate, if_pos hi] at e2
    cases e2
  . have xO : T.length <= i := Nat.le_of_not_lt hi
    rw [List.getElem?_append_right xO] at Gf
    rw [List.getElem?_append_right (by simpa using xO), List.length_replicate] at e2
    have FA : Cj (relabel scope X.env) x := e3
    rcases hN.old _ x Gf with ⟨hx, Fs⟩ | JK
    . obtain ⟨m0, vW, yW⟩ := I.loc
      have hk := hN.free _ (mem_lookup Fs) rfl
      have vg : X.env.scope.names.lookup x = some .cell \/ X.env.scope.names.lookup x = some .free := hk
      obtain ⟨u, r, l⟩ := yW _ x v hx e2 (.inr vg)
      refine ⟨u, r, .inr ?_⟩
      rcases l with ⟨z, _⟩ | ⟨_, c, hc, kX⟩
      . have z' : X.env.scope.names.lookup x = some .local := z
        rw [z'] at vg; rcases vg with q | q <;> cases q
      . obtain ⟨c', u5⟩ := h2 _ (mem_lookup Fs) rfl
        have : c' = c := by have := h1 _ _ u5; rw [hc] at this; exact (Option.some.inj this).symm
        subst this
        refine ⟨?_, c', u5, ?_⟩
        . show (relabel scope X.env).names.lookup x = some .cell \/ (relabel scope X.env).names.lookup x = some .free
          rw [eL, Fs]
          simp only [Option.map_some, Option.some.injEq]
          by_cases hc : (NameKind.free == NameKind.free && X.env.scope.kind == .function && X.env.kindOf x == some .cell) = true
          . left; rw [if_pos hc]
          . right; rw [if_neg hc]
        . obtain ⟨o, ho, hd⟩ := kX
          exact ⟨o, old _ _ ho, hd⟩
    . unfold Cj at FA
      rw [eL, JK] at FA
      simp at FA
 cell := fun x c e => by
  obtain ⟨v, o, ho, hd⟩ := I.cell x c (h1 x c e)
  exact ⟨v, o, old _ _ ho, hd⟩
 free := I.aQ.fresh hC
 dW := fun x c e => I.dW x c (h1 x c e)
 pin := fun p hp => nomatch hp
 aQ := I.aQ.kept old
 len := by
  show (List.replicate T.length none ++ σ).length = (T ++ M).length
  rw [List.length_append, List.length_append, List.length_replicate, hN.len, I.len]
theorem wZ {C D : Addr} {s' : Shared} {σ' : St} {H' : Hp} {acc : List V} {az : List Value} {n : Nat} (I : Inv X pins σ H s) (I' : Inv (dt X (T ++ M) scope cl C s H fp) [] σ' H' s')
 (hf : ∀ b ∈ fp, cv X pins H b) (hD : s.heap.objs.size <= D) (hn : H' D = none) (hl : acc.length <= sizeLine) (r : Vals acc az) (hd : s'.heap.get? D = some { cls := .type "list", data := .seq az.toArray n }) :
 Inv X pins σ (upd H' D (.lst acc)) s' := by
 have U : Un (nq X.stack) fp H H' s.heap s'.heap := I'.base
 have J8 : ∀ b o, s.heap.get? b = some o -> b ≠ D := fun b o e => Nat.ne_of_lt (Nat.lt_of_lt_of_le (Heap.lt_size e) hD)
 have neT : ∀ b u, H' b = some u -> b ≠ D := fun b u e => aG e hn
 refine I.Cb (ch := fp) I'.os ⟨U.keep, U.slot, fun b o e1 e2 e3 => ?_, U.there, fun b xs e => ?_, fun b o u e => ?_, fun b ps e => ?_⟩ (fun b u e => ?_) I'.bare (fun b hb => ⟨(hf b hb).2.2.2.1, (hf b hb).2.1, (hf b hb).2.2.2.2.1, (hf b hb).2.2.2.2.2⟩)
 . rw [aw (J8 b o e1)]; exact U.free b o e1 e2 e3
 . rw [aw (neT b _ (U.jt b xs e))]; exact U.jt b xs e
 . rw [aw (neT b _ (U.iQ b o u e))]; exact U.iQ b o u e
 . obtain ⟨more, q⟩ := U.kH b ps e
   exact ⟨more, by rw [aw (neT b _ q)]; exact q⟩
 . by_cases hb : b = D
   . subst hb
     rw [aA] at e
     cases e
     exact ⟨hl, az, n, r, hd⟩
   . rw [aw hb] at e
     exact (I'.aQ b u e).mn (fun c v _ q => q) (fun c q => by rw [aw (neT c _ q)]; exact q) fun c xs q => by rw [aw (neT c _ q)]; exact q
end
theorem n5 {prog : Program} {w : World} {A : Around} {R : Result -> Shared -> Prop} {s : Shared} {elt target iter : Expr} {ifs : List Expr} {scope : Scope} {pos : Pos} {it acc : Value} {env : Env} (I : Nat -> Shared -> Prop)
 (turn : ∀ n s, I n s -> wpAny (model prog w) A (pyNext it) (fun r s₁ => match r with
  | none => R (.ok .next) s₁
  | some v => wpAny (model prog w) A (letOwnedTupleGo target it v) (fun _ xV => wpAny (model prog w) A (assign target env v) (fun _ s₂ =>
   wpAny (model prog w) A (forIn ifs true fun c r => if r = true then do let ok <- isTrue c env (eval c env); pure (ForInStep.yield ok) else pure (ForInStep.yield r)) (fun ok s₃ =>
    if ok = true then wpAny (model prog w) A (eval elt env) (fun x s₄ =>
     wpAny (model prog w) A (call (.builtin "list.append") [acc, x]) (fun _ s₅ => ∃ m, m < n /\ I m s₅) (fun _ _ => False) s₄) (fun _ _ => False) s₃
    else ∃ m, m < n /\ I m s₃) (fun _ _ => False) s₂) (fun _ _ => False) xV) (fun _ _ => False) s₁) (fun _ _ => False) s)
 (n : Nat) (h : I n s) :
 codeAny (model prog w) A (.compLoop (.ListComp elt [⟨target, iter, ifs, 0⟩] scope pos) 0 it acc env) R s := by
 refine codeAny_loop rfl I (fun n s hI => ?_) n h
 show wpAny _ A ((compTurn (.ListComp elt [⟨target, iter, ifs, 0⟩] scope pos) 0 it acc env).onRaise (fun x => do noteFrame x env; theTreesLotGoes x)) _ _ s
 refine wpAny_noted ?_
 rw [compTurn_list]
 refine wpAny_bind (wpAny_standAt (wpAny_bind (wpAny_mono (turn n s hI) (fun r s₁ h₁ => ?_) fun _ _ h' => h'.elim)))
 cases r with
 | none => exact wpAny_pure h₁
 | some v =>
   refine wpAny_bind (wpAny_mono h₁ (fun _ xV Cq => ?_) fun _ _ h' => h'.elim)
   refine wpAny_bind (wpAny_mono Cq (fun _ s₂ h₂ => wpAny_bind (wpAny_mono h₂ (fun ok s₃ h₃ => ?_) fun _ _ h' => h'.elim)) fun _ _ h' => h'.elim)
   cases ok with
   | false => exact wpAny_pure ⟨rfl, h₃⟩
   | true =>
     exact wpAny_bind (wpAny_bind (wpAny_mono h₃ (fun x s₄ h₄ => wpAny_bind (wpAny_mono h₄ (fun _ s₅ h₅ => wpAny_pure (wpAny_pure ⟨rfl, h₅⟩)) fun _ _ h' => h'.elim)) fun _ _ h' => h'.elim))
def B8 (X : Cx) (ifs : List Expr) (t : TT) : Prop :=
 ∀ (pins : List (Addr × Obj)) (s : Shared) (σ : St) (H : Hp) (Q : Bool -> Hp -> Prop), Inv X pins σ H s -> t σ H Q ->
   wpAny (model X.prog X.w) X.A (forIn ifs true fun c r => if r = true then do let ok <- isTrue c X.env (eval c X.env); pure (ForInStep.yield ok) else pure (ForInStep.yield r)) (TP X pins σ Q) X.xe s
def GY : TT := fun _ H Q => Q true H
theorem eP {X : Cx} : B8 X [] GY := fun _ _ _ H _ I h => wpAny_tests_nil ⟨H, I, h⟩
theorem ik {X : Cx} {c : Expr} {t : TT} (h : PT X c t) : B8 X [c] t := fun pins s σ H Q I q => wpAny_tests_one (h pins s σ H Q I q)
def Bg (k : Nat) (g : TG) (tc : TT) (te : TE) (Fin : List V -> Hp -> Prop) (σ : St) (J : It) (H1 : Hp) : Prop :=
 ∃ W : Nat -> Nat -> List V -> Hp -> Prop, (∃ m, W 0 m [] H1) /\ ∀ i m acc H, W i m acc H ->
   (J.stop i H /\ Fin acc H) \/ (J.go i H /\ acc.length < sizeLine /\ ∀ x H', J.wo i H x H' -> g x (List.replicate k none ++ σ) H' fun σ2 H2 => tc σ2 H2 fun b H3 =>
    if b = true then te σ2 H3 fun y H4 => ∃ m', m' < m /\ W (i + 1) m' (acc ++ [y]) H4 else ∃ m', m' < m /\ W (i + 1) m' acc H3)
section
variable {X : Cx} {pins : List (Addr × Obj)} {σ : St} {H : Hp} {s : Shared} {T M : List Str} {scope : Scope} {cl : List (Str × Addr)} {fp : List Addr} {g : TG} {tc : TT} {te : TE} {tg elt iter : Expr} {ifs : List Expr} {pos : Pos}
theorem Inv.forget {X : Cx} {pins : List (Addr × Obj)} {σ σ' : St} {H : Hp} {s : Shared} (I : Inv X pins σ' H s) (k : Nat) (hk : k + σ.length = σ'.length) (h : σ'.drop k = σ) : Inv X pins (List.replicate k none ++ σ) H s := by
 refine I.weak (by simp [hk]) (fun i v e => ?_)
 by_cases hi : i < k
 . rw [List.getElem?_append_left (by simpa using hi), List.getElem?_replicate, if_pos hi] at e; cases e
 . rw [List.getElem?_append_right (by simpa using hi), List.length_replicate, <- h, List.getElem?_drop] at e
   have : k + (i - k) = i := by omega
   rw [this] at e; exact e
theorem uO {it : Addr} {tn : Nat -> Heap -> Prop} {J : It} {RR : Value -> Addr -> Result -> Shared -> Prop} {Fin : List V -> Hp -> Prop} {E : Value -> Shared -> Prop}
 (hN : fZ X T M scope) (lu : X.calm = true) (h1 : ∀ x c, cl.lookup x = some c -> X.env.cells.lookup x = some c) (h2 : ∀ x ∈ scope.names, x.2 = .free -> ∃ c, cl.lookup x.1 = some c)
 (hg : ∀ cl C s H fp, PG (dt X (T ++ M) scope cl C s H fp) tg g) (IU : ∀ v H Q, g v (List.replicate T.length none ++ σ) H Q -> g v (List.replicate T.length none ++ σ) H fun σ2 H2 => Q σ2 H2 /\ T.length + σ.length = σ2.length /\ σ2.drop T.length = σ)
 (hc : ∀ cl C s H fp, B8 (dt X (T ++ M) scope cl C s H fp) ifs tc) (he : ∀ cl C s H fp, PE (dt X (T ++ M) scope cl C s H fp) elt te)
 (I : Inv X pins σ H s) (Tn : Turn X.prog X.w X.K tg J fp it tn) (st : tn 0 s.heap) (hf : ∀ b ∈ fp, cv X pins H b) (hW : Bg T.length g tc te Fin σ J H)
 (hR : ∀ D C s' H' acc m, s.heap.objs.size <= D -> s.heap.objs.size <= C -> C ≠ D -> s'.heap.Ns C m -> H' C = none -> H' D = none -> Inv X pins σ (upd H' D (.lst acc)) s' -> Fin acc H' -> RR (.ref D) C (.ok .next) s') :
 wpAny (model X.prog X.w) X.A (newList []) (fun acc s₃ => wpAny (model X.prog X.w) X.A (newFunctionEnv scope X.env.globals cl [] X.env.qual none .none (some X.env)) (fun C7 s₄ =>
  codeAny (model X.prog X.w) X.A (.compStart (.ListComp elt [⟨tg, iter, ifs, 0⟩] scope pos) 0 (.ref it) acc { C7 with scope := relabel scope X.env }) (RR acc C7.locals) s₄) E s₃) E s := by
 refine wpAny_newObj_type (wpAny_newFunctionEnv hN.cell (by intro y hy; simp at hy) (fun h₁ oO lJ => ?_) hN.kind)
 dsimp only at oO lJ ⊢
 generalize Gd : s.heap.push { cls := .type "list", dict := none, data := .seq ([] : List Value).toArray } = H2 at oO lJ ⊢
 have hC : H2.objs.size = s.heap.objs.size + 1 := by rw [<- Gd, Heap.size_push]
 have Ee : s.heap.objs.size ≠ H2.objs.size := by rw [hC]; exact Nat.ne_of_lt (Nat.lt_succ_self _)
 have zC : s.heap.objs.size <= H2.objs.size := by rw [hC]; exact Nat.le_succ _
 have Bf : ∀ b ∈ fp, b < s.heap.objs.size := fun b hb => by obtain ⟨o, ho, _⟩ := Tn.obj _ _ st b hb; exact Heap.lt_size ho
 have old : ∀ b o, s.heap.get? b = some o -> h₁.get? b = some o := fun b o e => lJ.extBut b o (Nat.ne_of_lt (Nat.lt_of_lt_of_le (Heap.lt_size e) zC)) (Heap.get?_push_of_some _ (Gd ▸ Heap.get?_push_of_some _ e))
 have gR : h₁.PlainList s.heap.objs.size #[] := ⟨_, lJ.extBut _ _ Ee (Heap.get?_push_of_some _ (Gd ▸ Heap.get?_push_size _ rfl))⟩
 generalize AY : s.heap.objs.size = D at *
 generalize Ml : H2.objs.size = C at *
 have I0 : Inv (dt X (T ++ M) scope cl C s H fp) [] (List.replicate T.length none ++ σ) H { s with heap := h₁, toks := s.toks + ([] : List (Str × Value)).length } :=
  r0 I hN h1 h2 (by rw [AY]; exact zC) hf (by rw [AY]; exact Bf) oO old
 have Ht : tn 0 h₁ := Tn.keep _ _ _ st fun b _ o e => old b o e
 obtain ⟨W, ⟨m0, w0⟩, turn⟩ := hW
 have Hq : ∀ b ∈ fp, b ≠ D := fun b hb => Nat.ne_of_lt (Bf b hb)
 have stat : ∀ {H' : Hp} {pl : List (Addr × Obj)}, (∀ b ∈ fp, H' b = none) -> (∀ p ∈ pl, p.1 = D) -> ∀ b ∈ fp, cv (dt X (T ++ M) scope cl C s H fp) pl H' b := fun {H' pl} hn hp b hb => by
  have ok := I0.ok
  refine ⟨hn b hb, (ok.BG b hb).1, ok.qQ b hb, .inl hb, (ok.BG b hb).2, fun p hq => ?_⟩
  have Fh : p ∈ pl := hq
  rw [hp p Fh]; exact Ne.symm (Hq b hb)
 have loop : codeAny (model X.prog X.w) X.A (.compLoop (.ListComp elt [⟨tg, iter, ifs, 0⟩] scope pos) 0 (.ref it) (.ref D) (compEnvC scope cl C X.env)) (RR (.ref D) C) { s with heap := h₁, toks := s.toks + ([] : List (Str × Value)).length } := by
  refine n5 (fun n s' => ∃ i acc H' az, Inv (dt X (T ++ M) scope cl C s H fp) [] (List.replicate T.length none ++ σ) H' s' /\ tn i s'.heap /\ (∀ b ∈ fp, H' b = none) /\ s'.heap.PlainList D az /\ H' D = none /\ Vals acc az.toList /\ acc.length <= sizeLine /\ W i n acc H') ?_ m0
   ⟨0, [], H, #[], I0, Ht, fun b hb => (hf b hb).1, gR, I.aQ.fresh (by rw [AY]; exact Nat.le_refl _), .nil, Nat.zero_le _, w0⟩
  rintro n s3 ⟨i, acc, H3, az, I3, CO, Du, ⟨nn, ho⟩, Gh, hv, hlen, w3⟩
  have F0 : ∀ {H'} {s'} {σ'} {o : Obj}, Inv (dt X (T ++ M) scope cl C s H fp) [] σ' H' s' -> s'.heap.get? D = some o -> (∀ v, o.data ≠ .cell v) -> H' D = none -> Inv (dt X (T ++ M) scope cl C s H fp) [(D, o)] σ' H' s' := fun {H' s' σ' o} I' e d hn => by
   refine I'.gb fun p hp => ?_
   have e' : p = (D, o) := by simpa using hp
   subst e'
   refine ⟨e, hn, Ee, fun z => ?_, d⟩
   have z' : D ∈ nq X.stack := z
   obtain ⟨_, o', qK, _⟩ := I.stack.mem z'
   exact absurd (Heap.lt_size qK) (by rw [AY]; exact Nat.lt_irrefl _)
  have HL := F0 I3 ho (fun v z => by cases z) Gh
  rcases turn i n acc H3 w3 with ⟨stop, fin⟩ | ⟨go, hl, step⟩
  . refine bF (Tn.done (dt X (T ++ M) scope cl C s H fp) rfl rfl rfl lu i _ s3 _ H3 _ HL (stat Du (by simp)) CO stop) fun r s4 ⟨hr, I4⟩ => ?_
    subst hr
    have e4 := (I4.pin (D, _) (List.mem_append_right _ List.mem_cons_self)).1
    have Gx : Inv (dt X (T ++ M) scope cl C s H fp) [] (List.replicate T.length none ++ σ) H3 s4 := I4.gb fun p hp => nomatch hp
    obtain ⟨m4, n4, _⟩ := Gx.loc
    exact hR D C s4 H3 acc m4 (Nat.le_refl _) zC (Ne.symm Ee) n4 Gx.free Gh (wZ I Gx hf (by rw [AY]; exact Nat.le_refl _) Gh hlen hv (by simpa using e4)) fin
  . refine bF (Tn.item (dt X (T ++ M) scope cl C s H fp) rfl rfl rfl lu i _ s3 _ H3 _ HL (stat Du (by simp)) CO go) fun r s4 ⟨u, hr, h4⟩ => ?_
    subst hr
    refine bF h4 fun _ s5 ⟨x, H5, I5, r5, y5, zl, Gr⟩ => ?_
    have FI := I5.pinned (stat Gr (by simp)) (Tn.obj _ _ zl)
    refine bF (hg _ _ _ _ _ _ s5 _ H5 x u _ FI r5 (IU _ _ _ (step x H5 y5))) fun _ s6 ⟨σ6, H6, I6, q6, Jy, Ln⟩ => ?_
    refine bF (hc _ _ _ _ _ _ s6 σ6 H6 _ I6 q6) fun b s7 ⟨H7, I7, q7⟩ => ?_
    have rest : ∀ {s8 : Shared} {H8 : Hp}, Inv (dt X (T ++ M) scope cl C s H fp) ([(D, _)] ++ jI fp s5.heap) σ6 H8 s8 -> tn (i + 1) s8.heap /\ (∀ b ∈ fp, H8 b = none) /\ s8.heap.PlainList D az /\ H8 D = none /\ Inv (dt X (T ++ M) scope cl C s H fp) [] (List.replicate T.length none ++ σ) H8 s8 := fun {s8 H8} I8 => by
     refine ⟨Tn.keep _ _ _ zl fun b hb o e => (I8.pin (b, o) (List.mem_append_right _ (List.mem_append_right _ (eI hb e)))).1, fun b hb => ?_, ⟨nn, (I8.pin (D, _) (List.mem_append_right _ (List.mem_append_left _ List.mem_cons_self))).1⟩, (I8.pin (D, _) (List.mem_append_right _ (List.mem_append_left _ List.mem_cons_self))).2.1, (I8.forget T.length Jy Ln).gb fun p hp => nomatch hp⟩
     obtain ⟨o, e, d⟩ := Tn.obj _ _ zl b hb
     exact (I8.pin (b, o) (List.mem_append_right _ (List.mem_append_right _ (eI hb e)))).2.1
    cases b with
    | false =>
      obtain ⟨m', hm, w7⟩ := q7
      obtain ⟨a1, a2, a3, a4, a5⟩ := rest I7
      exact ⟨m', hm, i + 1, acc, H7, az, a5, a1, a2, a3, a4, hv, hlen, w7⟩
    | true =>
      refine bF (he _ _ _ _ _ _ s7 σ6 H7 _ I7 q7) fun y s8 ⟨yv, H8, I8, r8, m', hm, w8⟩ => ?_
      obtain ⟨a1, a2, a3, a4, a5⟩ := rest I8
      have hsz : az.size <= sizeLine := by have := hv.length; simp at this; omega
      refine wpAny_list_append_plain (hsz := hsz) a3 fun h9 Jp Hg => ?_
      refine ⟨m', hm, i + 1, acc ++ [yv], H8, az.push y, ?_, ?_, a2, Jp, a4, ?_, by simp; omega, w8⟩
      . exact a5.turned (t' := s8.toks) (it := D) (fun b o hb e => (Hg.2 b hb).trans e) a4 Ee (.inr (by show s.heap.objs.size <= D; rw [AY]; exact Nat.le_refl _)) (fun x c e z => by
         obtain ⟨v, o, ho, _⟩ := I.cell x c (h1 x c e)
         exact absurd (Heap.lt_size ho) (by rw [AY, z]; exact Nat.lt_irrefl _)) (fun p hp => nomatch hp)
      . exact Tn.keep _ _ _ a1 fun b hb o e => (Hg.2 b (Hq b hb)).trans e
      . simpa using Vals.append hv (.cons r8 .nil)
 exact codeAny_compStart_list loop (Tn.self _ _ _ _ _ Ht loop)
end
def xn (k : Nat) (g : TG) : Prop := ∀ v (τ σ : St) H Q, τ.length = k -> g v (τ ++ σ) H Q -> g v (τ ++ σ) H fun σ2 H2 => Q σ2 H2 /\ ∃ τ', τ'.length = k /\ σ2 = τ' ++ σ
def o7 (k : Nat) (g : sZ) : Prop := ∀ vs (τ σ : St) H Q, τ.length = k -> g vs (τ ++ σ) H Q -> g vs (τ ++ σ) H fun σ2 H2 => Q σ2 H2 /\ ∃ τ', τ'.length = k /\ σ2 = τ' ++ σ
theorem cD {k i : Nat} (h : i < k) : xn k (di i) := fun v τ σ H Q hl q => by
 have e : (τ ++ σ).set i (some v) = τ.set i (some v) ++ σ := List.set_append_left _ _ (by omega)
 exact ⟨q, τ.set i (some v), by simp [hl], e⟩
theorem dU {k : Nat} : o7 k tj := fun vs τ σ H Q hl ⟨e, q⟩ => ⟨e, q, τ, hl, rfl⟩
theorem aD {k i : Nat} {u : sZ} (h : i < k) (h2 : o7 k u) : o7 k (gy (di i) u) := fun vs τ σ H Q hl ⟨v, r, e, q⟩ => by
 have e1 : (τ ++ σ).set i (some v) = τ.set i (some v) ++ σ := List.set_append_left _ _ (by omega)
 refine ⟨v, r, e, ?_⟩
 show u r ((τ ++ σ).set i (some v)) H _
 rw [e1]
 have q' : u r ((τ ++ σ).set i (some v)) H Q := q
 rw [e1] at q'
 exact h2 r _ σ H Q (by simp [hl]) q'
theorem fR {K : PySem.W.Frag} {k n : Nat} {u : sZ} (h : o7 k u) : xn k (qD K n u) := fun v τ σ H Q hl ⟨a, xs, e, hq, hn, q⟩ => ⟨a, xs, e, hq, hn, h xs τ σ H Q hl q⟩
def nE (Q : VK) (acc : List V) (H : Hp) : Prop := ∀ p, H p = none -> Q (.ref p) (upd H p (.lst acc))
def B7 (k : Nat) (wi : TI) (g : TG) (tc : TT) (te : TE) : TE := fun σ H Q => wi σ H fun J H1 => Bg k g tc te (nE Q) σ J H1
section
variable {X : Cx} {T M : List Str} {scope : Scope} {g : TG} {tc : TT} {te : TE} {wi : TI} {tg elt iter : Expr} {ifs : List Expr} {pos : Pos}
theorem fN (hN : fZ X T M scope) (lu : X.calm = true) (hi : PI X tg iter wi) (hg : ∀ cl C s H fp, PG (dt X (T ++ M) scope cl C s H fp) tg g) (E8 : xn T.length g)
 (hc : ∀ cl C s H fp, B8 (dt X (T ++ M) scope cl C s H fp) ifs tc) (he : ∀ cl C s H fp, PE (dt X (T ++ M) scope cl C s H fp) elt te)
 (hs : ∀ x, foldedSetIterable iter X.env x = pure x := by intro _; rfl) : PE X (.ListComp elt [⟨tg, iter, ifs, 0⟩] scope pos) (B7 T.length wi g tc te) := by
 intro pins s σ H Q I h
 obtain ⟨cl, q9, h1, h2⟩ := ko (scope := scope) (env := X.env) fun x hx hf => I.ok.has x.1 (hN.free x hx hf)
 rw [eval_ListComp]
 refine wpAny_comprehension_free (use := none) rfl hs q9 hN.kind hN.names (bF (hi pins s σ H _ I h) fun xv s1 rN => bF rN fun Eh s2 CB => ?_)
 obtain ⟨it, fp, tn, J, H2, e, I2, Tn, st, hf, hW⟩ := CB
 subst e
 refine uO (RR := fun acc C => compPost (model X.prog X.w) X.A X.xe none (EP X pins σ Q) acc C) hN lu h1 h2 hg (fun v H Q q => ?_) hc he I2 Tn st hf hW ?_
 . have := E8 v (List.replicate T.length none) σ H Q (by simp) q
   refine (by
    have e : (fun (σ2 : St) (H2 : Hp) => Q σ2 H2 /\ T.length + σ.length = σ2.length /\ σ2.drop T.length = σ) = fun σ2 H2 => Q σ2 H2 /\ ∃ τ' : St, τ'.length = T.length /\ σ2 = τ' ++ σ := by
     funext σ2 H2
     refine propext ⟨fun ⟨a, b, c⟩ => ⟨a, σ2.take T.length, by rw [List.length_take]; omega, by rw [<- c, List.take_append_drop]⟩, fun ⟨a, τ', b, c⟩ => ⟨a, by rw [c, List.length_append, b], by rw [c, <- b, List.drop_left]⟩⟩
    rw [e]; exact this)
 . intro D C s' H' acc m hD hC nN hn Gq F5 Ib fin
   refine ⟨m, hn, fun h' mI => ⟨.ref D, _, ?_, rfl, fin D F5⟩⟩
   exact Ib.turned (t' := s'.toks) (it := C) (fun b o hb e => (mI.2 b hb).trans e) (by rw [aw nN]; exact Gq) (Nat.ne_of_gt (Nat.lt_of_lt_of_le I2.lt hC)) (.inr (Nat.le_trans I2.sz hC)) (fun x c e z => by
    obtain ⟨v, q⟩ := I2.cell x c e
    exact absurd (Nat.lt_of_lt_of_le q.lt (by rw [z]; exact hC)) (Nat.lt_irrefl _)) (fun p hp z => absurd (Nat.lt_of_lt_of_le (Heap.lt_size (I2.pin p hp).1) (by rw [z]; exact hC)) (Nat.lt_irrefl _))
theorem CG {i : Nat} {y : Str} {py DV : Pos} (Bh : X.N.Nodup) (xO : X.N[i]? = some y) (hy : Loc X.env.scope y) (hN : fZ X T M scope) (lu : X.calm = true) (hi : PI X tg iter wi) (hg : ∀ cl C s H fp, PG (dt X (T ++ M) scope cl C s H fp) tg g) (E8 : xn T.length g)
 (hc : ∀ cl C s H fp, B8 (dt X (T ++ M) scope cl C s H fp) ifs tc) (he : ∀ cl C s H fp, PE (dt X (T ++ M) scope cl C s H fp) elt te)
 (KD : swapsWith (.ListComp elt [⟨tg, iter, ifs, 0⟩] scope pos) (some (.Name y py)) DV.line X.env = pure true)
 (hs : ∀ x, foldedSetIterable iter X.env x = pure x := by intro _; rfl) (Jt : X.fn y = true \/ X.env.scope.names.lookup y = some .local := by first | exact .inl rfl | exact .inr rfl | assumption) :
 PS X (.Assign [.Name y py] (.ListComp elt [⟨tg, iter, ifs, 0⟩] scope pos) DV) (sF (B7 T.length wi g tc te) (di i)) := by
 intro pins s σ H D' I h
 have h : B7 T.length wi g tc te σ H fun x H1 => D'.nx (σ.set i (some x)) H1 := h
 obtain ⟨cl, q9, h1, h2⟩ := ko (scope := scope) (env := X.env) fun x hx hf => I.ok.has x.1 (hN.free x hx hf)
 rw [exec_Assign_Name_used _ _ _ _ KD]
 refine wpAny_bind (wpAny_standAt (wpAny_bind ?_))
 show wpAny _ X.A (do let _ <- comprehension (.ListComp elt [⟨tg, iter, ifs, 0⟩] scope pos) scope X.env _ (newList []) false (eval iter X.env) (some (assign (.Name y py) X.env))) _ _ s
 refine wpAny_bind (wpAny_mono (wpAny_comprehension_free (use := some (assign (.Name y py) X.env)) (Q := fun _ s' => SP X pins D' .next s') rfl hs q9 hN.kind hN.names
  (bF (hi pins s σ H _ I h) fun xv s1 rN => bF rN fun Eh s2 CB => ?_)) (fun _ s' hq => wpAny_pure (wpAny_pure hq)) fun _ _ e => e)
 obtain ⟨it, fp, tn, J, H2, e, I2, Tn, st, hf, hW⟩ := CB
 subst e
 refine uO (RR := fun acc C => compPost (model X.prog X.w) X.A X.xe (some (assign (.Name y py) X.env)) (fun _ s' => SP X pins D' .next s') acc C) hN lu h1 h2 hg (fun v H Q q => ?_) hc he I2 Tn st hf hW ?_
 . have := E8 v (List.replicate T.length none) σ H Q (by simp) q
   refine (by
    have e : (fun (σ2 : St) (H2 : Hp) => Q σ2 H2 /\ T.length + σ.length = σ2.length /\ σ2.drop T.length = σ) = fun σ2 H2 => Q σ2 H2 /\ ∃ τ' : St, τ'.length = T.length /\ σ2 = τ' ++ σ := by
     funext σ2 H2
     refine propext ⟨fun ⟨a, b, c⟩ => ⟨a, σ2.take T.length, by rw [List.length_take]; omega, by rw [<- c, List.take_append_drop]⟩, fun ⟨a, τ', b, c⟩ => ⟨a, by rw [c, List.length_append, b], by rw [c, <- b, List.drop_left]⟩⟩
    rw [e]; exact this)
 . intro D C s' H' acc m hD hC nN hn Gq F5 Ib fin
   show wpAny _ X.A (assign (.Name y py) X.env (.ref D)) _ _ _
   refine wpAny_assign_Name (k8 Ib Bh xO hy (v := .ref D) rfl (fun s3 I3 ⟨a, sb, ha⟩ => ?_) Jt)
   have G9 : C ≠ X.env.locals := Nat.ne_of_gt (Nat.lt_of_lt_of_le I2.lt hC)
   have Hm : ∀ x c, X.env.cells.lookup x = some c -> c ≠ C := fun x c e z => by
    obtain ⟨v, q⟩ := I2.cell x c e
    exact absurd (Nat.lt_of_lt_of_le q.lt (by rw [z]; exact hC)) (Nat.lt_irrefl _)
   have Ju : C ≠ a := by
    rcases ha with rfl | ha
    . exact G9
    . exact Ne.symm (Hm _ _ ha)
   refine ⟨m, hn.sameBut sb Ju, fun h' mI => ⟨_, _, ?_, fin D F5⟩⟩
   exact I3.turned (t' := s3.toks) (it := C) (fun b o hb e => (mI.2 b hb).trans e) (by rw [aw nN]; exact Gq) G9 (.inr (Nat.le_trans I2.sz hC)) Hm (fun p hp z => absurd (Nat.lt_of_lt_of_le (Heap.lt_size (I2.pin p hp).1) (by rw [z]; exact hC)) (Nat.lt_irrefl _))
end
end L2
namespace L2
open PySem PySem.Spec PyProof.Rows PySem.W
mutual
def jA : PyData -> Bool
 | .none => true
 | .bool _ => true
 | .int _ => true
 | .str _ => true
 | .tuple ds => aV ds
 | .list _ => false
 | .dict _ => false
def aV : List PyData -> Bool
 | [] => true
 | d :: ds => jA d && aV ds
end
theorem dg : ∀ {ds : List PyData}, aV ds = true ↔ ∀ d ∈ ds, jA d = true
 | [] => by simp [aV]
 | d :: ds => by simp [aV, dg (ds := ds)]
theorem dP {ds es : List PyData} (h1 : aV ds = true) (h2 : aV es = true) : aV (ds ++ es) = true := by
 rw [dg] at *
 intro d hd
 rcases List.mem_append.mp hd with h | h
 . exact h1 d h
 . exact h2 d h
theorem b6 {α : Type} {f : α -> PyData} (h : ∀ x, jA (f x) = true) (xs : List α) : aV (xs.map f) = true := by
 rw [dg]
 intro d hd
 obtain ⟨x, _, rfl⟩ := List.mem_map.mp hd
 exact h x
structure Mv (S : List Addr) (H H' : Hp) : Prop where
 kp : ∀ a o, a ∉ S -> H a = some o -> H' a = some o
 tp : ∀ a xs, H a = some (.tup xs) -> H' a = some (.tup xs)
 dm : ∀ a, H' a = none -> H a = none
theorem Mv.refl {S : List Addr} {H : Hp} : Mv S H H := ⟨fun _ _ _ h => h, fun _ _ h => h, fun _ h => h⟩
theorem ag.mv {S : List Addr} {H H' : Hp} (s : ag H H') : Mv S H H' := ⟨fun a o _ h => s a o h, fun a xs h => s a _ h, fun a h => by
 cases e : H a with
 | none => rfl
 | some o => rw [s a o e] at h; cases h⟩
theorem Mv.trans {S : List Addr} {H H1 H2 : Hp} (m : Mv S H H1) (m2 : Mv S H1 H2) : Mv S H H2 := ⟨fun a o n h => m2.kp a o n (m.kp a o n h), fun a xs h => m2.tp a xs (m.tp a xs h), fun a h => m.dm a (m2.dm a h)⟩
theorem Mv.step {S S1 : List Addr} {H H1 H2 : Hp} (m : Mv S H H1) (m2 : Mv S1 H1 H2) (hs : ∀ a ∈ S1, a ∈ S \/ H a = none) : Mv S H H2 := by
 refine ⟨fun a o n h => ?_, fun a xs h => m2.tp a xs (m.tp a xs h), fun a h => m.dm a (m2.dm a h)⟩
 refine m2.kp a o (fun z => ?_) (m.kp a o n h)
 rcases hs a z with q | q
 . exact n q
 . rw [q] at h; cases h
theorem Mv.uU {S : List Addr} {H H1 H2 : Hp} (m : Mv S H H1) (s : ag H1 H2) : Mv S H H2 := m.trans s.mv
theorem Mv.at {S : List Addr} {H H' : Hp} {a : Addr} {o : HO} (m : Mv S H H') (n : a ∉ S) (h : H a = some o) : H' a = some o := m.kp a o n h
theorem ag.none {H H' : Hp} {a : Addr} (m : ag H H') (h : H' a = none) : H a = none := (m.mv (S := [])).dm a h
theorem Mv.o3 {H : Hp} {p : Addr} {o u : HO} (h : H p = some u) (nt : ∀ xs, u ≠ .tup xs) : Mv [p] H (upd H p o) := ⟨fun a v n e => by
 rw [aw (fun z => n (by simp [z]))]; exact e, fun a xs e => by
 rw [aw (fun z => by subst z; rw [h] at e; exact nt xs (Option.some.inj e))]; exact e, fun a e => by
 by_cases z : a = p
 . subst z; rw [aA] at e; cases e
 . rw [aw z] at e; exact e⟩
mutual
theorem Dv.pe {H H' : Hp} (t : ∀ a xs, H a = some (.tup xs) -> H' a = some (.tup xs)) : ∀ {v : V} {d : PyData}, Dv H v d -> jA d = true -> Dv H' v d
 | _, _, .aZ, _ => .aZ
 | _, _, .bl b, _ => .bl b
 | _, _, .int i, _ => .int i
 | _, _, .str x, _ => .str x
 | _, _, .tup h r, c => .tup (t _ _ h) (aX.pe t r (by simpa [jA] using c))
 | _, _, .lst h r, c => by simp [jA] at c
 | _, _, .dct h r, c => by simp [jA] at c
theorem aX.pe {H H' : Hp} (t : ∀ a xs, H a = some (.tup xs) -> H' a = some (.tup xs)) : ∀ {v : List V} {d : List PyData}, aX H v d -> aV d = true -> aX H' v d
 | _, _, .nil, _ => .nil
 | _, _, .cons h r, c => by
   have c' := c
   simp only [aV, Bool.and_eq_true] at c'
   exact .cons (Dv.pe t h c'.1) (aX.pe t r c'.2)
end
theorem Mv.xr {S : List Addr} {H H' : Hp} {v : List V} {d : List PyData} (m : Mv S H H') (i : aV d = true) (h : aX H v d) : aX H' v d := h.pe m.tp i
def bI (H : Hp) (p : Addr) (ds : List PyData) : Prop := ∃ xs, H p = some (.lst xs) /\ aX H xs ds /\ aV ds = true
theorem bI.dv {H : Hp} {p : Addr} {ds : List PyData} (h : bI H p ds) : Dv H (.ref p) (.list ds) := let ⟨_, e, d, _⟩ := h; .lst (.of e) d
theorem bI.keeps {H H' : Hp} {p : Addr} {ds : List PyData} (s : ag H H') (h : bI H p ds) : bI H' p ds := let ⟨xs, e, d, i⟩ := h; ⟨xs, s _ _ e, d.keeps s, i⟩
theorem bI.mv {S : List Addr} {H H' : Hp} {p : Addr} {ds : List PyData} (m : Mv S H H') (n : p ∉ S) (h : bI H p ds) : bI H' p ds := let ⟨xs, e, d, i⟩ := h; ⟨xs, m.at n e, m.xr i d, i⟩
theorem bI.ne {H : Hp} {p q : Addr} {ds : List PyData} (h : bI H p ds) (hn : H q = none) : p ≠ q := let ⟨_, e, _, _⟩ := h; aG e hn
theorem iq {H : Hp} {p : Addr} {xs : List V} {ds : List PyData} (hn : H p = none) (d : aX H xs ds) (i : aV ds = true) : bI (upd H p (.lst xs)) p ds := ⟨xs, aA, d.keeps (aL hn), i⟩
theorem uG {p q : Addr} (h : p ≠ q) : p ∉ [q] := by simpa using h
theorem small {n m : Nat} (h : n <= m) (hm : m <= 4000 := by decide) : n <= sizeLine := Nat.le_trans h (Nat.le_trans hm (by decide))
theorem dH {n : Nat} (h : n <= 4000) : n < sizeLine := Nat.lt_of_le_of_lt h (by decide)
section
variable {σ : St} {H : Hp} {Q : VK} {D : Ends} {K : PySem.W.Frag} {p : Addr} {ds : List PyData}
theorem Gg {T : String} {r : V -> List V -> Hp -> VK -> Prop} {to : TE} {t : TA} (h : to σ H fun x H1 => DG K T x H1 /\ t σ H1 fun xs H2 => r x xs H2 Q) : Hk K T r to t σ H Q := h
theorem CN {R : Prop} (hp : bI H p ds) (h : R) : DG K "list" (.ref p) H /\ R := let ⟨xs, e, _, _⟩ := hp; ⟨.inl ⟨rfl, xs, bh.of e⟩, h⟩
theorem BX {y : V} {d : PyData} (hp : bI H p ds) (hl : ds.length <= 4000) (hy : Dv H y d) (hi : jA d = true) (h : ∀ H2, Mv [p] H H2 -> bI H2 p (ds ++ [d]) -> Q .aZ H2) : lO (.ref p) [y] H Q := by
 obtain ⟨xs, e, dv, i⟩ := hp
 have m : Mv [p] H (upd H p (.lst (xs ++ [y]))) := .o3 e (by intro _ z; cases z)
 refine ⟨p, xs, y, rfl, rfl, e, by rw [dv.length]; exact dH hl, h _ m ⟨_, aA, m.xr (dP i (by simp [aV, hi])) (dv.append (.cons hy .nil)), dP i (by simp [aV, hi])⟩⟩
theorem yT {xs : List V} (hl : xs.length <= sizeLine) (hd : aX H xs ds) (hi : aV ds = true) (k : ∀ p H2, ag H H2 -> H p = none -> bI H2 p ds -> Q (.ref p) H2) : t6 xs H Q :=
 ⟨hl, ds, hd, fun p H2 s n e d _ => k p H2 s n ⟨xs, e, d, hi⟩⟩
end
mutual
theorem Dv.fn {H : Hp} : ∀ {v : V} {d e : PyData}, Dv H v d -> Dv H v e -> jA d = true -> d = e
 | _, _, _, .aZ, h, _ => by cases h; rfl
 | _, _, _, .bl b, h, _ => by cases h; rfl
 | _, _, _, .int i, h, _ => by cases h; rfl
 | _, _, _, .str x, h, _ => by cases h; rfl
 | _, _, _, .tup h r, h2, c => by
   cases h2 with
   | tup h' r' =>
     have c' := (by simpa [jA] using c : aV _ = true)
     rw [h] at h'
     cases h'
     rw [aX.fn r r' c']
   | lst h' r' =>
     rcases h' with h' | ⟨o, h'⟩ <;> rw [h] at h' <;> cases h'
   | dct h' r' => rw [h] at h'; cases h'
 | _, _, _, .lst h r, _, c => by simp [jA] at c
 | _, _, _, .dct h r, _, c => by simp [jA] at c
theorem aX.fn {H : Hp} : ∀ {v : List V} {d e : List PyData}, aX H v d -> aX H v e -> aV d = true -> d = e
 | _, _, _, .nil, h, _ => by cases h; rfl
 | _, _, _, .cons h r, h2, c => by
   have c' := c
   simp only [aV, Bool.and_eq_true] at c'
   cases h2 with
   | cons h' r' => rw [Dv.fn h h' c'.1, aX.fn r r' c'.2]
end
theorem aX.perm {α : Type} {H : Hp} {g : α -> PyData} {xs ys : List V} (p0 : ys.Perm xs) : ∀ {cs : List α}, aX H xs (cs.map g) -> ∃ vm : List α, vm.Perm cs /\ aX H ys (vm.map g) := by
 have p := p0.symm
 clear p0
 induction p with
 | nil => intro cs h; exact ⟨cs, .refl _, h⟩
 | cons x _ ih =>
   intro cs h
   cases cs with
   | nil => cases h
   | cons c cs =>
     cases h with
     | cons h r =>
       obtain ⟨vm, p', h'⟩ := ih r
       exact ⟨c :: vm, p'.cons c, .cons h h'⟩
 | swap x y l =>
   intro cs h
   cases cs with
   | nil => cases h
   | cons c cs =>
     cases h with
     | cons h r =>
       cases cs with
       | nil => cases r
       | cons c2 cs =>
         cases r with
         | cons h2 r => exact ⟨c2 :: c :: cs, .swap c c2 cs, .cons h2 (.cons h r)⟩
 | trans _ _ JS KP =>
   intro cs h
   obtain ⟨c1, p1, h1⟩ := JS h
   obtain ⟨c2, p2, h2⟩ := KP h1
   exact ⟨c2, p2.trans p1, h2⟩
theorem aX.mem {α : Type} {H : Hp} {g : α -> PyData} : ∀ {xs : List V} {cs : List α}, aX H xs (cs.map g) -> ∀ v ∈ xs, ∃ c ∈ cs, Dv H v (g c)
 | _, [], .nil, _, h => nomatch h
 | _, c :: cs, .cons h r, v, hv => by
   rcases List.mem_cons.mp hv with rfl | hv
   . exact ⟨c, List.mem_cons_self, h⟩
   . obtain ⟨c', hc, hd⟩ := aX.mem r v hv
     exact ⟨c', List.mem_cons_of_mem _ hc, hd⟩
theorem aX.pairwise {α β : Type} {H : Hp} {g : α -> PyData} {key : α -> β} {kf : V -> β} {R : β -> β -> Prop} (hk : ∀ v c, Dv H v (g c) -> kf v = key c) : ∀ {xs : List V} {cs : List α}, aX H xs (cs.map g) -> xs.Pairwise (fun x y => R (kf x) (kf y)) -> cs.Pairwise (fun c d => R (key c) (key d))
 | _, [], .nil, _ => .nil
 | _, c :: cs, .cons h r, p => by
   rw [List.pairwise_cons] at p ⊢
   refine ⟨fun d hd => ?_, aX.pairwise hk r p.2⟩
   obtain ⟨i, hi⟩ := List.getElem?_of_mem hd
   obtain ⟨x, hx, hv⟩ := r.get (i := i) (d := g d) (by rw [List.getElem?_map, hi]; rfl)
   have := p.1 x (List.mem_of_getElem? hx)
   rw [hk _ _ h, hk _ _ hv] at this
   exact this
theorem Dv.lst_inv {H : Hp} {v : V} {ds : List PyData} (h : Dv H v (.list ds)) : ∃ a xs, v = .ref a /\ (∀ K : PySem.W.Frag, bh K H a xs) /\ aX H xs ds := by
 cases h with
 | lst h r => exact ⟨_, _, rfl, fun _ => .inl h, r⟩
section
variable {σ : St} {H : Hp} {Q : VK} {D : Ends} {K : PySem.W.Frag} {p : Addr} {v : V} {ds : List PyData}
theorem tB {sp : Sp} {t : TA} (h : t σ H fun vs H1 => oA sp K vs H1 Q) : r6 K sp t σ H Q := h
theorem w9 {α : Type} {sp : Sp} {cs : List α} (g : α -> PyData) (key : α -> Int × Str) (hg : ∀ c, jA (g c) = true) (hinj : ∀ c c', g c = g c' -> key c = key c') (hl : Dv H v (.list (cs.map g))) (xD : cs.length < 64)
 (hk : ∀ c v H', c ∈ cs -> ag H H' -> Dv H' v (g c) -> sp [v] H' (fun y H2 => ag H' H2 /\ Dv H2 y (.tuple [.int (key c).1, .str (key c).2])) E0)
 (k : ∀ q H' (vm : List α), ag H H' -> H q = none -> vm.Perm cs -> vm.Pairwise (fun c d => cQ (key d) (key c) = false) -> bI H' q (vm.map g) -> Q (.ref q) H') : oA sp K [v] H Q := by
 obtain ⟨p, xs, rfl, e, dv⟩ := hl.lst_inv
 classical
 have D3 : ∃ kf : V -> Int × Str, ∀ v c, Dv H v (g c) -> kf v = key c := by
  refine ⟨fun v => if h : ∃ c, Dv H v (g c) then key h.choose else (0, ⟨#[]⟩), fun v c hv => ?_⟩
  have h : ∃ c, Dv H v (g c) := ⟨c, hv⟩
  show (if h : ∃ c, Dv H v (g c) then key h.choose else (0, ⟨#[]⟩)) = key c
  rw [dif_pos h]
  exact hinj _ _ (Dv.fn h.choose_spec hv (hg _))
 obtain ⟨kf, D3⟩ := D3
 refine ⟨p, xs, kf, rfl, e K, by rw [dv.length, List.length_map]; exact xD, fun v hv H' sm => ?_, fun l ys H' sm hn Bi ord => ?_⟩
 . obtain ⟨c, hc, hd⟩ := dv.mem v hv
   rw [D3 v c hd]
   exact hk c v H' hc sm (hd.keeps sm)
 . obtain ⟨pm, pw⟩ := ord
   obtain ⟨vm, pc, HG⟩ := dv.perm pm
   have ck : ag H (upd H' l (.lst ys)) := sm.trans (aL Bi)
   exact k l _ vm ck hn pc (aX.pairwise (R := fun a b => cQ b a = false) D3 HG pw) ⟨ys, aA, HG.keeps ck, b6 hg _⟩
def Ec (te : TE) (N : Option V -> Hp -> Prop) (σ2 : St) (b : Bool) (H3 : Hp) : Prop := if b = true then te σ2 H3 (fun y H4 => N (some y) H4) else N none H3
theorem B5 {k : Nat} {tl : TE} {g : TG} {tc : TT} {te : TE} (h : tl σ H fun x H1 => ∃ a, x = .ref a /\ (∃ xs, bh K H1 a xs) /\ Bg k g tc te (nE Q) σ (u9 K a) H1) : B7 k (su K tl) g tc te σ H Q := h
theorem kd {k : Nat} {g : TG} {tc : TT} {te : TE} {α : Type} {cs : List α} {gd : α -> PyData} (pf : α -> Bool) (fd : α -> PyData) (hl : Dv H v (.list (cs.map gd))) (hlen : cs.length <= 4000) (hi : ∀ c, jA (fd c) = true)
 (turn : ∀ x c H' (N : Option V -> Hp -> Prop), c ∈ cs -> ag H H' -> Dv H' x (gd c) -> (pf c = true -> ∀ y H4, ag H' H4 -> Dv H4 y (fd c) -> N (some y) H4) -> (pf c = false -> ∀ H3, ag H' H3 -> N none H3) ->
  g x (List.replicate k none ++ σ) H' fun σ2 H2 => tc σ2 H2 fun b H3 => Ec te N σ2 b H3)
 (kk : ∀ q H', ag H H' -> H q = none -> bI H' q ((cs.filter pf).map fd) -> Q (.ref q) H') : ∃ a, v = .ref a /\ (∃ xs, bh K H a xs) /\ Bg k g tc te (nE Q) σ (u9 K a) H := by
 obtain ⟨p, xs, rfl, e, dv⟩ := hl.lst_inv
 have yW : bh K H p xs := e K
 have AG : xs.length = cs.length := by rw [dv.length, List.length_map]
 refine ⟨p, rfl, ⟨xs, yW⟩, fun i m acc H' => i <= cs.length /\ m = cs.length - i /\ ag H H' /\ aX H' acc (((cs.take i).filter pf).map fd), ⟨cs.length, Nat.zero_le _, rfl, ag.refl _, by simpa using aX.nil⟩, ?_⟩
 rintro i m acc H' ⟨CM, hm, sm, gR⟩
 have qT : bh K H' p xs := ag.seq sm yW
 have rQ : acc.length <= cs.length := by
  rw [gR.length, List.length_map]
  exact Nat.le_trans (List.length_filter_le _ _) (by rw [List.length_take]; omega)
 by_cases hc : i = cs.length
 . left
   refine ⟨⟨xs, qT, by omega⟩, fun q hq => ?_⟩
   rw [hc, List.take_length] at gR
   have ck : ag H (upd H' q (.lst acc)) := sm.trans (aL hq)
   exact kk q _ ck (sm.none hq) ⟨acc, aA, gR.keeps (aL hq), b6 hi _⟩
 . right
   have cq : i < cs.length := by omega
   have BR : i < xs.length := by omega
   refine ⟨⟨xs, xs[i], qT, List.getElem?_eq_getElem BR⟩, dH (by omega), fun x H2 hy => ?_⟩
   obtain ⟨rfl, hy⟩ := hy
   have hx := hy xs qT
   have x6 : cs[i]? = some cs[i] := List.getElem?_eq_getElem cq
   obtain ⟨x', g0, hd⟩ := dv.get (i := i) (d := gd cs[i]) (by rw [List.getElem?_map, x6]; rfl)
   rw [hx] at g0
   cases g0
   have va : cs.take (i + 1) = cs.take i ++ [cs[i]] := by rw [List.take_add_one, x6]; rfl
   exact turn x cs[i] H2 (fun o H4 => match o with | some y => ∃ m', m' < m /\ i + 1 <= cs.length /\ m' = cs.length - (i + 1) /\ ag H H4 /\ aX H4 (acc ++ [y]) (((cs.take (i + 1)).filter pf).map fd) | none => ∃ m', m' < m /\ i + 1 <= cs.length /\ m' = cs.length - (i + 1) /\ ag H H4 /\ aX H4 acc (((cs.take (i + 1)).filter pf).map fd))
    (List.getElem_mem cq) sm (hd.keeps sm)
    (fun hp y H4 s4 d4 => ⟨cs.length - (i + 1), by omega, cq, rfl, sm.trans s4, by
     rw [va, List.filter_append, List.map_append]
     simp only [List.filter_cons, hp, if_true, List.filter_nil, List.map_cons, List.map_nil]
     exact aX.append (gR.keeps s4) (.cons d4 .nil)⟩)
    (fun hp H3 s3 => ⟨cs.length - (i + 1), by omega, cq, rfl, sm.trans s3, by
     rw [va, List.filter_append, List.map_append]
     simp only [List.filter_cons, hp, Bool.false_eq_true, if_false, List.filter_nil, List.map_nil, List.append_nil]
     exact gR.keeps s3⟩)
end
def p8 (scope sc : Scope) (N M : List Str) : Bool :=
 (scope.kind == .function) && scope.names.all (fun y => y.2 != .cell) && scope.names.all (fun y => y.2 != .local || scope.names.lookup y.1 == some .local) &&
  scope.names.all (fun y => y.2 != .free || (sc.names.lookup y.1 == some .cell || sc.names.lookup y.1 == some .free)) && (M.length == N.length) &&
  (M.zip N).all fun p => (p.1 == p.2 && scope.names.lookup p.1 == some .free) || scope.names.lookup p.1 == none
theorem rF {X : Cx} {T M : List Str} {scope : Scope} (sc : Scope) (N : List Str) (hs : X.env.scope = sc) (hN : X.N = N) (h : p8 scope sc N M = true) : fZ X T M scope := by
 unfold p8 at h
 simp only [Bool.and_eq_true, List.all_eq_true, Bool.or_eq_true, bne_iff_ne, beq_iff_eq, ne_eq] at h
 obtain ⟨⟨⟨⟨⟨h1, h2⟩, h3⟩, h4⟩, h5⟩, h6⟩ := h
 refine ⟨h1, h2, fun y hy e => ?_, fun y hy e => ?_, by rw [hN]; exact h5, fun i x hx => ?_⟩
 . rcases h3 y hy with z | z
   . exact absurd e z
   . exact z
 . rw [hs]
   rcases h4 y hy with z | z
   . exact absurd e z
   . exact z
 . have hi : i < M.length := (List.getElem?_eq_some_iff.mp hx).1
   have Ii : i < N.length := by omega
   have hz : (M.zip N)[i]? = some (x, N[i]) := by
    rw [List.getElem?_zip_eq_some]
    exact ⟨hx, List.getElem?_eq_getElem Ii⟩
   rcases h6 _ (List.mem_of_getElem? hz) with ⟨a, b⟩ | a
   . left
     refine ⟨?_, b⟩
     rw [hN, List.getElem?_eq_getElem Ii]
     have a' : x = N[i] := a
     rw [a']
   . exact .inr a
section
variable {σ : St} {H : Hp} {Q : VK} {D : Ends} {K : PySem.W.Frag} {p : Addr} {v : V} {ds : List PyData}
theorem Ae {z : Str} {i : Int} {c : Nat} (hl : z.length <= sizeLine) (hi : kF z.cps.toList i = some c) (h : Q (.str ⟨#[c]⟩) H) : js K (.str z) (.int i) H Q := .inl (.inr ⟨z, i, c, rfl, rfl, hl, hi, h⟩)
def yc : R2 := fun x y H Q => ∃ i j, x = .str i /\ y = .str j /\ i.length + j.length <= sizeLine /\ Q (.str (i ++ j)) H
theorem lU {X : Cx} : gf X (binaryOp .Add) yc := oY
theorem zi {i j : Str} (hl : i.length + j.length <= 4000) (h : Q (.str (i ++ j)) H) : yc (.str i) (.str j) H Q := ⟨i, j, rfl, rfl, small hl, h⟩
def pK (K : PySem.W.Frag) : List V -> Hp -> VK -> Prop := fun xs H Q => ∃ p ys, xs = [.ref p] /\ (bh K H p ys \/ mW K H p ys) /\ ∀ l, H l = none -> Q (.ref l) (upd H l (.lst ys))
theorem dB {X : Cx} : dX X (.type "list") (pK X.K) := lR
theorem sM (hp : Dv H v (.list ds)) (i : aV ds = true) (k : ∀ q H', ag H H' -> H q = none -> bI H' q ds -> Q (.ref q) H') : pK K [v] H Q := by
 obtain ⟨p, xs, rfl, e, dv⟩ := hp.lst_inv
 exact ⟨p, xs, rfl, .inl (e K), fun l hl => k l _ (aL hl) hl (iq hl dv i)⟩
theorem wH (xs : List V) (i j : Nat) : nW xs (some (i : Int)) (some (j : Int)) = (xs.drop i).take (j - i) := by
 unfold nW
 rw [HT.p6, HT.p6]
 by_cases h : i <= xs.length
 . rw [Nat.min_eq_left h]
   by_cases h2 : j <= xs.length
   . rw [Nat.min_eq_left h2]
   . rw [Nat.min_eq_right (by omega)]
     rw [List.take_of_length_le (by rw [List.length_drop]; omega), List.take_of_length_le (by rw [List.length_drop]; omega)]
 . rw [List.drop_of_length_le (show xs.length <= min i xs.length by omega), List.drop_of_length_le (show xs.length <= i by omega), List.take_nil, List.take_nil]
theorem GL {te : TE} {tl th : TO} {r : V -> Option Int -> Option Int -> Hp -> VK -> Prop} (h : te σ H fun x H1 => tl σ H1 fun l H2 => th σ H2 fun u H3 => r x l u H3 Q) : Hd r te tl th σ H Q := h
theorem Ab {t : TE} {R : Option Int -> Hp -> Prop} (h : t σ H fun x H1 => ∃ i, x = .int i /\ R (some i) H1) : xN t σ H R := h
theorem rT {R : Option Int -> Hp -> Prop} (h : R none H) : qp σ H R := h
theorem w5 {i : Int} {R : Int -> Prop} (h : R i) : ∃ j, V.int i = .int j /\ R j := ⟨i, rfl, h⟩
theorem uf {ns : List Int} (i j : Nat) (hp : bh K H p (ns.map V.int)) (k : ∀ q H', ag H H' -> H q = none -> bI H' q (((ns.drop i).take (j - i)).map PyData.int) -> Q (.ref q) H') : wM K (.ref p) (some (i : Int)) (some (j : Int)) H Q := by
 refine ⟨p, _, rfl, hp, fun q hq => ?_⟩
 rw [wH, <- List.map_drop, <- List.map_take]
 exact k q _ (aL hq) hq ⟨_, aA, aX.ints _, b6 (fun _ => rfl) _⟩
theorem nJ {H : Hp} {x : Str} : ∀ {xs : List V} {ss : List Str}, aX H xs (ss.map PyData.str) -> xs.all gH = true /\ DZ (.str x) xs = ss.contains x
 | _, [], .nil => ⟨rfl, rfl⟩
 | _, s :: ss, .cons h r => by
   cases h
   obtain ⟨a, b⟩ := nJ (x := x) r
   refine ⟨by simpa [gH] using a, ?_⟩
   show (vV (.str s) (.str x) || DZ (.str x) _) = _
   rw [b]
   show ((s == x) || ss.contains x) = _
   rw [List.contains_cons, show (s == x) = (x == s) from by rw [Bool.eq_iff_iff, beq_iff_eq, beq_iff_eq]; exact eq_comm]
theorem Cw {ss : List Str} {x : Str} (hp : Dv H v (.list (ss.map PyData.str))) (h : Q (.bl (ss.contains x)) H) : EB K false (.str x) v H Q := by
 obtain ⟨p, xs, rfl, e, dv⟩ := hp.lst_inv
 obtain ⟨a, b⟩ := nJ (x := x) dv
 refine ⟨p, xs, rfl, .inl (e K), rfl, a, ?_⟩
 rw [b]; exact h
theorem GZ {α : Type} {cs : List α} {gd : α -> PyData} {g : TG} {tb : TS} (hl : Dv H v (.list (cs.map gd))) (Pv : Nat -> St -> Hp -> Prop) (h0 : Pv 0 σ H) (hk : ∀ i σ H', i <= cs.length -> Pv i σ H' -> ∀ a xs, v = .ref a -> bh K H a xs -> bh K H' a xs)
 (hs : ∀ i c x σ H', cs[i]? = some c -> Pv i σ H' -> (jA (gd c) = true -> (∀ a xs, H a = some (.tup xs) -> H' a = some (.tup xs)) -> Dv H' x (gd c)) -> (ag H H' -> Dv H' x (gd c)) -> g x σ H' fun σ2 H2 => tb { D with nx := Pv (i + 1), ct := Pv (i + 1), bk := D.nx } σ2 H2) (hd : ∀ σ H', Pv cs.length σ H' -> D.nx σ H') : we K v g tb D σ H := by
 obtain ⟨p, xs, rfl, e, dv⟩ := hl.lst_inv
 have AG : xs.length = cs.length := by rw [dv.length, List.length_map]
 refine forL (e K) Pv h0 (fun i σ H' hi hp => hk i σ H' (by omega) hp p xs rfl (e K)) (fun i x σ H' hx hp => ?_) (fun σ H' hp => hd σ H' (by rw [<- AG]; exact hp))
 have hi : i < cs.length := by have := (List.getElem?_eq_some_iff.mp hx).1; omega
 obtain ⟨x', g0, iD⟩ := dv.get (i := i) (d := gd cs[i]) (by rw [List.getElem?_map, List.getElem?_eq_getElem hi]; rfl)
 rw [hx] at g0
 cases g0
 exact hs i cs[i] x σ H' (List.getElem?_eq_getElem hi) hp (fun im t => iD.pe t im) (fun s => iD.keeps s)
end
end L2
namespace L2
theorem uL {H H1 H2 : Hp} (a : ∀ x, H1 x = none -> H x = none) (b : ∀ x, H2 x = none -> H1 x = none) : ∀ x, H2 x = none -> H x = none := fun x h => a x (b x h)
theorem zG {H H' : Hp} {p : PySem.Addr} (s : ∀ x, H' x = none -> H x = none) (h : H' p = none) : H p = none := s p h
theorem ag.Ly {H H' : Hp} (s : ag H H') : ∀ x, H' x = Option.none -> H x = Option.none := (s.mv (S := [])).dm
theorem yj {S : List PySem.Addr} {H : Hp} {p : PySem.Addr} (h : p ∈ S \/ H p = none) : ∀ a ∈ [p], a ∈ S \/ H a = none := fun a ha => by
 have : a = p := by simpa using ha
 subst this; exact h
end L2
namespace L2
open PySem
theorem tS {α β : Type} [Inhabited α] {f : α -> β} {xs : List α} {i : Int} (h0 : 0 <= i) (h1 : i < xs.length) : kF (xs.map f) i = some (f (xs.getD i.toNat default)) := by
 obtain ⟨m, rfl⟩ := Int.eq_ofNat_of_zero_le h0
 have hm : m < xs.length := by omega
 refine ez ?_
 rw [List.getElem?_map, List.getElem?_eq_getElem hm]
 simp [hm]
theorem Aj {α : Type} {g : α -> PyData} {xs : List α} {K : PySem.W.Frag} {H : Hp} {Q : VK} {v : V} (hs : Dv H v (.list (xs.map g))) (h : Q (.int (xs.length : Nat)) H) : mX K [v] H Q := sV (.inr hs) (by rw [List.length_map]; exact h)
theorem vo {i : Nat} {v : V} {σ : St} {H : Hp} {R : St -> Hp -> Prop} (h : R (σ.set i (some v)) H) : di i v σ H R := h
theorem Mv.yu {p : Addr} {H H1 H2 : Hp} (s : ag H H1) (m : Mv [p] H1 H2) (n : H p = Option.none) : ag H H2 := fun a o e => m.kp a o (uG (aG e n)) (s a o e)
theorem Mv.sq {K : PySem.W.Frag} {S : List Addr} {H H' : Hp} {a : Addr} {xs : List V} (m : Mv S H H') (n : a ∉ S) (h : bh K H a xs) : bh K H' a xs := by
 rcases h with (h | ⟨o, h⟩) | h
 . exact .inl (.inl (m.at n h))
 . exact .inl (.inr ⟨o, m.at n h⟩)
 . exact .inr h
theorem cB {te : TE} {N : Option V -> Hp -> Prop} {σ2 : St} {b : Bool} {H3 : Hp} (h1 : b = true -> te σ2 H3 (fun y H4 => N (some y) H4)) (h2 : b = false -> N none H3) : Ec te N σ2 b H3 := by
 unfold Ec
 cases b with
 | true => rw [if_pos rfl]; exact h1 rfl
 | false => rw [if_neg (by simp)]; exact h2 rfl
end L2
namespace L2
open PySem PySem.Spec PyProof.Rows
section
variable {X : Cx} {K : PySem.W.Frag} {a b e : Expr} {es : List Expr} {ta : TE} {pos : Pos}
theorem kN (h : X.K = K) : rO X (js K) := by rw [<- h]; exact cz
theorem yM (h : X.K = K) : gf X (compareOp .In) (EB K false) := by rw [<- h]; exact qV
theorem kY (h : X.K = K) (ha : PE X a ta) (he : ∀ whole, isTrue a X.env whole = (do let v <- whole; standAt a.pos; holding [v] (truthy v))) : PT X a (fun σ H Q => ta σ H fun x H' => ∃ k, vK K x H' k /\ Q k H') := by rw [<- h]; exact s9 ha he
theorem g8 {k : Nat} {t : sZ} {n : Nat} (h : X.K = K) (hc : X.calm = true) (hs : BD X es t) (hn : (assignEach es X.env).length = n := by rfl) (yw : (assignEach es X.env).findIdx? (·.1) = none := by rfl) : PG X (.Tuple es k pos) (qD K n t) := by rw [<- h]; exact gP hc hs hn yw
end
end L2
namespace L2
open PySem PySem.Spec PyProof.Rows PySem.W
inductive ft (H : Hp) : List (Key × V) -> List (Str × PyData) -> Prop where
 | nil : ft H [] []
 | cons {k : Str} {v : V} {d : PyData} {ax : List (Key × V)} {m : List (Str × PyData)} (h : Dv H v d) (i : jA d = true) (r : ft H ax m) : ft H ((.inr k, v) :: ax) ((k, d) :: m)
theorem ft.pe {H H' : Hp} (t : ∀ a xs, H a = some (.tup xs) -> H' a = some (.tup xs)) : ∀ {ax : List (Key × V)} {m : List (Str × PyData)}, ft H ax m -> ft H' ax m
 | _, _, .nil => .nil
 | _, _, .cons h i r => .cons (h.pe t i) i (ft.pe t r)
theorem ft.length {H : Hp} : ∀ {ax : List (Key × V)} {m : List (Str × PyData)}, ft H ax m -> ax.length = m.length
 | _, _, .nil => rfl
 | _, _, .cons _ _ r => by simp [ft.length r]
def rP (m : List (Str × PyData)) (k : Str) : Option PyData := (m.find? fun kv => decide (kv.1 = k)).map (·.2)
def putD (m : List (Str × PyData)) (k : Str) (d : PyData) : List (Str × PyData) := if (m.any fun kv => decide (kv.1 = k)) = true then m.map (fun kv => if kv.1 = k then (kv.1, d) else kv) else m ++ [(k, d)]
theorem vP {a b : Str} : ((Sum.inr a : Key) = Sum.inr b) = (a = b) := propext ⟨fun h => Sum.inr.inj h, fun h => by rw [h]⟩
theorem ft.val {H : Hp} {k : Str} : ∀ {ax : List (Key × V)} {m : List (Str × PyData)}, ft H ax m -> (∀ d, rP m k = some d -> ∃ v, iV ax (.inr k) = some v /\ Dv H v d) /\ (rP m k = none -> iV ax (.inr k) = none)
 | _, _, .nil => ⟨fun d h => by simp [rP] at h, fun _ => rfl⟩
 | _, _, .cons (k := j) h i r => by
   obtain ⟨h1, h2⟩ := ft.val (k := k) r
   by_cases e : j = k
   . subst e
     refine ⟨fun d hd => ⟨_, iu rfl, ?_⟩, fun hd => by simp [rP] at hd⟩
     simp [rP] at hd
     subst hd; exact h
   . have e' : (Sum.inr j : Key) ≠ .inr k := fun z => e (Sum.inr.inj z)
     have el : ∀ (d : PyData) (m : List (Str × PyData)), rP ((j, d) :: m) k = rP m k := fun d m => by simp [rP, List.find?_cons, e]
     refine ⟨fun d hd => ?_, fun hd => ?_⟩
     . rw [el] at hd
       obtain ⟨v, hv, iD⟩ := h1 d hd
       exact ⟨v, by rw [fA e']; exact hv, iD⟩
     . rw [el] at hd
       rw [fA e']; exact h2 hd
theorem ft.any {H : Hp} {k : Str} : ∀ {ax : List (Key × V)} {m : List (Str × PyData)}, ft H ax m -> (ax.any fun kv => decide (kv.1 = .inr k)) = m.any fun kv => decide (kv.1 = k)
 | _, _, .nil => rfl
 | _, _, .cons h i r => by
   simp only [List.any_cons, ft.any r, vP]
theorem ft.append {H : Hp} : ∀ {ax Dr : List (Key × V)} {m m' : List (Str × PyData)}, ft H ax m -> ft H Dr m' -> ft H (ax ++ Dr) (m ++ m')
 | _, _, _, _, .nil, s => s
 | _, _, _, _, .cons h i r, s => .cons h i (ft.append r s)
theorem ft.repl {H : Hp} {k : Str} {v : V} {d : PyData} (hv : Dv H v d) (hi : jA d = true) : ∀ {ax : List (Key × V)} {m : List (Str × PyData)}, ft H ax m -> ft H (ax.map fun kv => if kv.1 = .inr k then (kv.1, v) else kv) (m.map fun kv => if kv.1 = k then (kv.1, d) else kv)
 | _, _, .nil => .nil
 | _, _, .cons (k := j) h i r => by
   rw [List.map_cons, List.map_cons]
   by_cases e : j = k
   . subst e
     rw [if_pos rfl, if_pos rfl]
     exact .cons hv hi (ft.repl hv hi r)
   . rw [if_neg (fun z => e (Sum.inr.inj z)), if_neg e]
     exact .cons h i (ft.repl hv hi r)
theorem ft.put {H : Hp} {k : Str} {v : V} {d : PyData} {ax : List (Key × V)} {m : List (Str × PyData)} (r : ft H ax m) (hv : Dv H v d) (hi : jA d = true) : ft H (putK ax (.inr k) v) (putD m k d) := by
 unfold putK putD
 rw [r.any]
 by_cases h : (m.any fun kv => decide (kv.1 = k)) = true
 . rw [if_pos h, if_pos h]; exact r.repl hv hi
 . rw [if_neg h, if_neg h]; exact r.append (.cons hv hi .nil)
def iG (H : Hp) (p : Addr) (m : List (Str × PyData)) : Prop := ∃ ax, H p = some (.dK ax) /\ ft H ax m
theorem iG.keeps {H H' : Hp} {p : Addr} {m : List (Str × PyData)} (s : ag H H') (h : iG H p m) : iG H' p m := let ⟨ax, e, d⟩ := h; ⟨ax, s _ _ e, d.pe fun a xs e => s _ _ e⟩
theorem iG.mv {S : List Addr} {H H' : Hp} {p : Addr} {m : List (Str × PyData)} (v : Mv S H H') (n : p ∉ S) (h : iG H p m) : iG H' p m := let ⟨ax, e, d⟩ := h; ⟨ax, v.at n e, d.pe v.tp⟩
theorem iG.ne {H : Hp} {p q : Addr} {m : List (Str × PyData)} (h : iG H p m) (hn : H q = none) : p ≠ q := let ⟨_, e, _⟩ := h; aG e hn
section
variable {σ : St} {H : Hp} {Q : VK} {D : Ends} {K : PySem.W.Frag} {p : Addr} {m : List (Str × PyData)} {k : Str}
theorem yY (h : ∀ p H2, ag H H2 -> H p = none -> iG H2 p [] -> Q (.ref p) H2) : sC σ H Q := fun p hp => h p _ (aL hp) hp ⟨[], aA, .nil⟩
theorem wx {td ty tv : TE} (h : tv σ H fun v H1 => td σ H1 fun x H2 => ty σ H2 fun y H3 => ∃ a H4, x = .ref a /\ oo H3 a y v H4 /\ D.nx σ H4) : yd td ty tv D σ H := h
theorem zZ {v : V} {d : PyData} {R : Hp -> Prop} (hp : iG H p m) (hl : m.length <= 4000) (hv : Dv H v d) (hi : jA d = true) (h : ∀ H2, Mv [p] H H2 -> iG H2 p (putD m k d) -> R H2) : ∃ a H4, V.ref p = .ref a /\ oo H a (.str k) v H4 /\ R H4 := by
 obtain ⟨ax, e, dk⟩ := hp
 have mv : Mv [p] H (upd H p (.dK (putK ax (.inr k) v))) := .o3 e (by intro _ z; cases z)
 exact ⟨p, _, rfl, oo.k (k := .inr k) e (by rw [dk.length]; exact dH hl), h _ mv ⟨_, aA, (dk.put hv hi).pe mv.tp⟩⟩
theorem xq {td ty : TE} (h : td σ H fun x H1 => ty σ H1 fun y H2 => ∃ a v, x = .ref a /\ nu H2 a y (some v) /\ Q v H2) : xQ td ty σ H Q := h
theorem A0 {d : PyData} {R : V -> Prop} (hp : iG H p m) (hk : rP m k = some d) (h : kE H d fun v _ => R v) : ∃ a v, V.ref p = .ref a /\ nu H a (.str k) (some v) /\ R v := by
 obtain ⟨ax, e, dk⟩ := hp
 obtain ⟨v, hv, hd⟩ := (dk.val (k := k)).1 d hk
 exact ⟨p, v, rfl, by rw [<- hv]; exact nu.k (k := .inr k) e, h.use hd⟩
theorem vz {r r' : R2} {ta tb tc : TE} (h : ta σ H fun x H1 => tb σ H1 fun y H2 => r x y H2 fun z H3 => ∃ k, z = .bl k /\ if k = true then tc σ H3 fun u H4 => r' y u H4 Q else Q (.bl false) H3) : oS r r' ta tb tc σ H Q := h
def ow : Option Int -> V | none => .aZ | some i => .int i
def Ej : Option Int -> PyData | none => .none | some i => .int i
end
end L2
namespace L2
end L2
namespace L2
open PySem
theorem qh {Hb : Hp} {σ : St} {H : Hp} {D : Ends} {K : PySem.W.Frag} {v : V} {α : Type} {cs : List α} {gd : α -> PyData} {g : TG} {tb : TS} (hl : Dv Hb v (.list (cs.map gd))) (Pv : Nat -> St -> Hp -> Prop) (h0 : Pv 0 σ H) (hk : ∀ i σ H', i <= cs.length -> Pv i σ H' -> ∀ a xs, v = .ref a -> bh K Hb a xs -> bh K H' a xs)
 (hs : ∀ i c x σ H', cs[i]? = some c -> Pv i σ H' -> (jA (gd c) = true -> (∀ a xs, Hb a = some (.tup xs) -> H' a = some (.tup xs)) -> Dv H' x (gd c)) -> (ag Hb H' -> Dv H' x (gd c)) -> g x σ H' fun σ2 H2 => tb { D with nx := Pv (i + 1), ct := Pv (i + 1), bk := D.nx } σ2 H2) (hd : ∀ σ H', Pv cs.length σ H' -> D.nx σ H') : we K v g tb D σ H := by
 obtain ⟨p, xs, rfl, e, dv⟩ := hl.lst_inv
 have AG : xs.length = cs.length := by rw [dv.length, List.length_map]
 refine forL (hk 0 σ H (Nat.zero_le _) h0 p xs rfl (e K)) Pv h0 (fun i σ H' hi hp => hk i σ H' (by omega) hp p xs rfl (e K)) (fun i x σ H' hx hp => ?_) (fun σ H' hp => hd σ H' (by rw [<- AG]; exact hp))
 have hi : i < cs.length := by have := (List.getElem?_eq_some_iff.mp hx).1; omega
 obtain ⟨x', g0, iD⟩ := dv.get (i := i) (d := gd cs[i]) (by rw [List.getElem?_map, List.getElem?_eq_getElem hi]; rfl)
 rw [hx] at g0
 cases g0
 exact hs i cs[i] x σ H' (List.getElem?_eq_getElem hi) hp (fun im t => iD.pe t im) (fun s => iD.keeps s)
end L2
namespace L2
open PySem PySem.Spec PyProof.Rows PySem.W
section
variable {X : Cx} {tg : Expr}
section
variable {σ : St} {H : Hp} {Q : VK} {D : Ends} {K : PySem.W.Frag}
end
end
end L2
namespace L2
open PySem
section
variable {H : Hp} {Q : VK} {K : PySem.W.Frag}
theorem xC {z : Str} (hl : z.length <= 4000) (h : Q (.int (z.length : Nat)) H) : mX K [.str z] H Q := .inl (.inr ⟨z, rfl, small hl, h⟩)
end
end L2
namespace L2
open PySem PySem.Spec PyProof.Rows PySem.W
section
variable {X : Cx}
theorem pY {H : Hp} : ∀ {xs : List V} {ss : List Str} {us : List Value}, aX H xs (ss.map PyData.str) -> Vals xs us -> StrsAre us ss
 | _, [], _, .nil, .nil => .nil
 | _, b :: bs, _, .cons h r, .cons q t => by
   cases h
   obtain ⟨tk, rfl⟩ := q
   exact .cons _ _ (pY r t)
end
section
variable {σ : St} {H : Hp} {Q : VK} {D : Ends} {K : PySem.W.Frag} {p : Addr} {ds : List PyData}
theorem aX.drop {H : Hp} : ∀ {xs : List V} {ds : List PyData} (n : Nat), aX H xs ds -> aX H (xs.drop n) (ds.drop n)
 | _, _, 0, h => h
 | _, _, _ + 1, .nil => .nil
 | _, _, n + 1, .cons _ r => aX.drop n r
theorem aX.take {H : Hp} : ∀ {xs : List V} {ds : List PyData} (n : Nat), aX H xs ds -> aX H (xs.take n) (ds.take n)
 | _, _, 0, _ => .nil
 | _, _, _ + 1, .nil => .nil
 | _, _, n + 1, .cons h r => .cons h (aX.take n r)
theorem m8 {ds : List PyData} (n : Nat) (h : aV ds = true) : aV (ds.take n) = true := by
 rw [dg] at *
 exact fun d hd => h d (List.mem_of_mem_take hd)
theorem tR (xs : List V) (j : Nat) : nW xs none (some (j : Int)) = xs.take j := by
 have h1 : HT.ky xs.length xs.length (some (j : Int)) = min j xs.length := by
  simp only [HT.ky]
  rw [if_neg (by omega)]
  omega
 have h2 : HT.ky xs.length 0 none = 0 := rfl
 show (xs.drop (HT.ky xs.length 0 none)).take (HT.ky xs.length xs.length (some (j : Int)) - HT.ky xs.length 0 none) = _
 rw [h1, h2, List.drop_zero, Nat.sub_zero]
 by_cases h : j <= xs.length
 . rw [Nat.min_eq_left h]
 . rw [List.take_of_length_le (show xs.length <= min j xs.length by omega), List.take_of_length_le (show xs.length <= j by omega)]
theorem Bb (j : Nat) (hp : bI H p ds) (k : ∀ q H', ag H H' -> H q = none -> bI H' q (ds.take j) -> Q (.ref q) H') : wM K (.ref p) none (some (j : Int)) H Q := by
 obtain ⟨xs, e, dv, im⟩ := hp
 refine ⟨p, xs, rfl, bh.of e, fun q hq => ?_⟩
 rw [tR]
 exact k q _ (aL hq) hq (iq hq (dv.take j) (m8 j im))
theorem uT {q : Addr} {es : List PyData} (hp : bI H p ds) (hq : bI H q es) (hl : ds.length + es.length <= 4000) (k : ∀ r H', ag H H' -> H r = none -> bI H' r (ds ++ es) -> Q (.ref r) H') : A6 (.ref p) (.ref q) H Q := by
 obtain ⟨xs, e, dv, im⟩ := hp
 obtain ⟨zs, e2, Ig, JL⟩ := hq
 refine ⟨p, q, xs, zs, rfl, rfl, e, e2, by rw [dv.length, Ig.length]; exact small hl, fun r hr => ?_⟩
 exact k r _ (aL hr) hr (iq hr (dv.append Ig) (dP im JL))
end
end L2
namespace L2
open PySem PySem.Calls PyProof.Rows
section
variable {X : Cx} {e k : Expr} {te tk : TE} {pos p2 : Pos}
end
section
variable {X : Cx}
end
section
variable {K : PySem.W.Frag} {σ : St} {H : Hp} {Q : VK} {p : Addr} {ds : List PyData}
end
end L2
namespace L2
open PySem PySem.Spec PyProof.Rows PySem.W
theorem p5 (lo hi : Option Int) (n : Nat) : (Builtin.Str.strSliceIndices lo hi 1 n).length <= n := by
 unfold Builtin.Str.strSliceIndices sliceRange
 simp only [List.length_map, List.length_range, Int.ediv_one, show (1 : Int) > 0 by decide, if_true]
 cases lo <;> cases hi <;> simp only [] <;> (repeat' split) <;> omega
section
variable {X : Cx}
def Bl (ss : List Str) : Prop := ss.Pairwise fun a b => pP b a = false
theorem iA : ∀ (r : List Str) (p : Str), risingS p r = true -> (∀ x ∈ r, pP x p = false) /\ Bl r
 | [], _, _ => ⟨fun x hx => (by cases hx), List.Pairwise.nil⟩
 | y :: r, p, h => by
   unfold risingS at h
   rw [Bool.and_eq_true] at h
   obtain ⟨h1, h2⟩ := h
   have rN : pP y p = false := by
    have : ltCps y.cps.toList p.cps.toList = false := by simpa using h1
    rw [ltCps_eq] at this
    exact this
   obtain ⟨a, b⟩ := iA r y h2
   refine ⟨fun x hx => ?_, List.pairwise_cons.mpr ⟨a, b⟩⟩
   rcases List.mem_cons.mp hx with rfl | hx
   . exact rN
   . exact pk (a x hx) rN
theorem lH {ss : List Str} (h : sortedS ss = true) : Bl ss := by
 cases ss with
 | nil => exact List.Pairwise.nil
 | cons x r => obtain ⟨a, b⟩ := iA r x h; exact List.pairwise_cons.mpr ⟨a, b⟩
def rY : List V -> Hp -> VK -> Prop := fun xs H Q => ∃ (v : V) (ss : List Str), xs = [v] /\ Dv H v (.list (ss.map PyData.str)) /\ ss.length < 64 /\ ∀ (q : Addr) (H' : Hp) (uC : List Str), ag H H' -> H q = none -> uC.Perm ss -> Bl uC -> bI H' q (uC.map PyData.str) -> Q (.ref q) H'
theorem kQ : ∀ {us : List Value} {ss : List Str}, StrsAre us ss -> Vals (ss.map V.str) us
 | _, _, .nil => .nil
 | _, _, .cons _ t r => .cons ⟨t, rfl⟩ (kQ r)
theorem m6 {H : Hp} : ∀ (ss : List Str), aX H (ss.map V.str) (ss.map PyData.str)
 | [] => .nil
 | x :: r => .cons (.str x) (m6 r)
theorem nV : dX X (.builtin "sorted") rY := by
 intro pins s σ H xs us Q I r h
 obtain ⟨v, ss, rfl, hd, hl, q⟩ := h
 obtain ⟨u, rfl, ru⟩ := vals1 r
 obtain ⟨p, ys, rfl, e, dv⟩ := hd.lst_inv
 obtain ⟨az, xA, pl, _⟩ := I.list (e X.K)
 cases ru
 have hS := pY dv xA
 refine sorted_strs pl.isList hS (by rw [<- xA.length, dv.length, List.length_map]; exact hl) fun out uC h1 h2 h3 => ?_
 obtain ⟨ep, he⟩ := sortedAll_at s.heap az out
 have hq : H (s.heap.objs.size + 1) = none := I.aQ.fresh (Nat.le_succ _)
 refine ⟨.ref (s.heap.objs.size + 1), upd H (s.heap.objs.size + 1) (.lst (uC.map V.str)), I.laid (t' := s.toks) (fun b ob q => sortedAll_old q) (Nat.le_succ _) ?_, rfl, q _ _ uC (aL hq) hq h2 (lH h3) (iq hq (m6 uC) (b6 (fun _ => rfl) _))⟩
 exact ⟨by rw [List.length_map, h2.length_eq]; exact Nat.le_of_lt (dH (by omega)), out.toList, ep, kQ h1, by simpa [seqObj] using he⟩
def yh : List V -> Hp -> VK -> Prop := fun xs H Q => ∃ (v : V) (ns : List Int), xs = [v] /\ Dv H v (.list (ns.map PyData.int)) /\ Q (.int ns.sum) H
theorem jy {H : Hp} : ∀ {xs : List V} {ns : List Int} {us : List Value}, aX H xs (ns.map PyData.int) -> Vals xs us -> IntsAre us ns
 | _, [], _, .nil, .nil => .nil
 | _, _ :: _, _, .cons h r, .cons q t => by
   cases h
   obtain ⟨tk, rfl⟩ := q
   exact .cons _ _ (jy r t)
theorem jg (x : Int) (ns : List Int) : ∀ k, preSum (fun i => (x :: ns).getD i 0) (k + 1) = x + preSum (fun i => ns.getD i 0) k
 | 0 => by simp [preSum]
 | k + 1 => by
   rw [preSum, jg x ns k, preSum, List.getD_cons_succ]
   omega
theorem fQ : ∀ ns : List Int, preSum (fun i => ns.getD i 0) ns.length = ns.sum
 | [] => rfl
 | x :: r => by rw [List.length_cons, jg, fQ r, List.sum_cons]
theorem dS (hc : X.calm = true) : dX X (.builtin "sum") yh := by
 intro pins s σ H xs us Q I r h
 obtain ⟨v, ns, rfl, hd, q⟩ := h
 obtain ⟨u, rfl, ru⟩ := vals1 r
 obtain ⟨p, ys, rfl, e, dv⟩ := hd.lst_inv
 obtain ⟨az, xA, pl, _⟩ := I.list (e X.K)
 cases ru
 have hI := jy dv xA
 have cq : p < s.heap.objs.size := by obtain ⟨o, n, e1, _⟩ := pl; exact Heap.lt_size e1
 have hA : X.A.in1.handled = none := I.ok.hd hc
 refine call_sum_walkAnyB (wpAny_pyIter_list pl.isList ?_)
 refine ⟨s.heap.objs.size, _, _, _, _, _, _, fun i => ns.getD i 0, rfl, (Walks.list hA _ p (Nat.ne_of_lt cq) az.toArray).toS, ⟨⟨_, Heap.get?_push_size _ rfl, rfl, rfl⟩, pl.isList.at fun o e => Heap.get?_push_of_some _ e⟩, ?_, ?_, ?_⟩
 . intro b hb
   rw [Heap.size_push]
   have : b = s.heap.objs.size \/ b = p := by simpa using hb
   rcases this with rfl | rfl
   . exact Nat.lt_succ_self _
   . exact Nat.lt_succ_of_lt cq
 . intro i v hv
   obtain ⟨t, ht⟩ := hI.int_at i v (by simpa using hv)
   exact .inl ⟨t, ht⟩
 . intro s' t' hm
   have hn : az.toArray.size = ns.length := by rw [List.size_toArray, hI.length]
   rw [hn, fQ]
   obtain ⟨h', g', d', E7, B1⟩ := s'
   have eg : g' = s.gens := hm.gens
   have ed : d' = s.drawn := hm.drawn
   have eo : B1 = s.os := hm.os
   subst eg; subst ed; subst eo
   have I1 := I.kept (t' := s.toks) (h' := s.heap.push { cls := Value.type "list_iterator", data := Data.fields #[Value.ref p, Value.int 0 0] }) fun b o e => Heap.get?_push_of_some _ e
   have fp := I.jJ (H' := H) (Nat.le_refl _) (I.aQ.fresh (Nat.le_refl _))
   have I2 := I1.turned (t' := E7) (h' := h') (it := s.heap.objs.size) (fun b o hb e => hm.heap b o (by simpa using hb) e) fp.1 fp.2.1 fp.2.2.2.1 fp.2.2.2.2.1 fp.2.2.2.2.2
   exact ⟨.int ns.sum, H, I2, ⟨t', rfl⟩, q⟩
end
section
variable {prog : Program} {w : World} {A : Around} {E : Value -> Shared -> Prop} {s : Shared} {it l : Addr} {az : Array Value}
end
section
variable {X : Cx} {e : Expr} {te : TE} {p p2 pos qz : Pos}
end
section
variable {K : PySem.W.Frag} {σ : St} {H : Hp} {Q : VK} {p : Addr} {ds : List PyData} {v : V}
theorem yV {ns : List Int} (hp : Dv H v (.list (ns.map PyData.int))) (h : Q (.int ns.sum) H) : yh [v] H Q := ⟨v, ns, rfl, hp, h⟩
theorem w6 {ss : List Str} (hp : Dv H v (.list (ss.map PyData.str))) (hl : ss.length < 64) (k : ∀ q H' uC, ag H H' -> H q = none -> uC.Perm ss -> Bl uC -> bI H' q (uC.map PyData.str) -> Q (.ref q) H') : rY [v] H Q := ⟨v, ss, rfl, hp, hl, k⟩
theorem iE {x : V} {i j l m : Nat} {d1 d2 d3 d4 : PyData} {R : St -> Hp -> Prop} (hd : Dv H x (.tuple [d1, d2, d3, d4])) (h : ∀ v1 v2 v3 v4, Dv H v1 d1 -> Dv H v2 d2 -> Dv H v3 d3 -> Dv H v4 d4 -> R ((((σ.set i (some v1)).set j (some v2)).set l (some v3)).set m (some v4)) H) :
 qD K 4 (gy (di i) (gy (di j) (gy (di l) (gy (di m) tj)))) x σ H R := by
 cases hd with
 | tup ha r =>
   cases r with
   | cons h1 r =>
     cases r with
     | cons h2 r =>
       cases r with
       | cons h3 r =>
         cases r with
         | cons h4 r =>
           cases r
           exact ⟨_, _, rfl, .of ha, rfl, _, _, rfl, _, _, rfl, _, _, rfl, _, _, rfl, rfl, h _ _ _ _ h1 h2 h3 h4⟩
end
section
variable {P : Program} {w : World} {H : Hp} {h : Heap} {d : Addr} {o : Obj} {ax : List (Key × V)}
end
section
variable {X : Cx} {pins : List (Addr × Obj)} {σ : St} {H : Hp} {s : Shared} {d : Addr} {o : Obj} {ax : List (Key × V)}
end
theorem jL {α β : Type} {F : α -> β -> Prop} : ∀ {xs : List α} {ys : List β}, Paired F xs ys -> ∀ {i : Nat} {x : α}, xs[i]? = some x -> ∃ y, ys[i]? = some y /\ F x y
 | _, _, .nil, i, x, h => by simp at h
 | _, _, .cons r t, 0, x, h => by
   have e := Option.some.inj h
   exact ⟨_, rfl, e ▸ r⟩
 | _, _, .cons r t, i + 1, x, h => by
   obtain ⟨y, e, q⟩ := jL t (i := i) (by simpa using h)
   exact ⟨y, by simpa using e, q⟩
theorem ft.By {H : Hp} : ∀ {ax : List (Key × V)} {m : List (Str × PyData)}, ft H ax m -> ∀ {i : Nat} {kv : Key × V}, ax[i]? = some kv -> ∃ k d, m[i]? = some (k, d) /\ kv.1 = .inr k /\ Dv H kv.2 d
 | _, _, .nil, i, kv, h => by simp at h
 | _, _, .cons (k := k) (d := d) hv _ r, 0, kv, h => by
   have e := (Option.some.inj h).symm
   subst e
   exact ⟨k, d, rfl, rfl, hv⟩
 | _, _, .cons _ _ r, i + 1, kv, h => by
   obtain ⟨k, d, e, q⟩ := ft.By r (i := i) (by simpa using h)
   exact ⟨k, d, by simpa using e, q⟩
section
variable {σ : St} {H : Hp} {Q : VK} {K : PySem.W.Frag} {p : Addr} {m : List (Str × PyData)} {k : Str}
end
section
variable {X : Cx}
end
section
variable {σ : St} {H : Hp} {Q : VK} {K : PySem.W.Frag} {p : Addr} {m : List (Str × PyData)} {k : Str}
end
section
variable {σ : St} {H : Hp} {Q : VK} {K : PySem.W.Frag} {p : Addr}
end
section
variable {X : Cx}
end
theorem jK {h : Heap} {o u : Obj} {b : Addr} (e : (h.push o).get? b = some u) (n : b ≠ h.objs.size) : h.get? b = some u := by
 obtain ⟨e1, e2⟩ := Heap.get?_some_iff.mp e
 refine Heap.get?_some_iff.mpr ⟨?_, e2⟩
 cases h
 simpa [Heap.push, Array.getElem?_push, n] using e1
section
variable {prog : Program} {w : World} {K : Type} [DecidableEq K] {knd : KeyKind prog w K} {A : Around} {E : Value -> Shared -> Prop} {s : Shared} {d : Addr} {ax : List (K × Value)} {ep : Nat}
end
section
variable {X : Cx}
end
section
variable {σ : St} {H : Hp} {Q : VK} {p : Addr} {m : List (Str × PyData)}
end
section
variable {σ : St} {H : Hp} {D : Ends} {p : Addr} {m : List (Str × PyData)} {g : TG} {tb : TS}
end
section
variable {σ : St} {H : Hp} {K : PySem.W.Frag}
theorem Af {x : V} {i j : Nat} {d1 d2 : PyData} {R : St -> Hp -> Prop} (hd : Dv H x (.tuple [d1, d2])) (h : ∀ v1 v2, Dv H v1 d1 -> Dv H v2 d2 -> R ((σ.set i (some v1)).set j (some v2)) H) :
 qD K 2 (gy (di i) (gy (di j) tj)) x σ H R := by
 cases hd with
 | tup ha r =>
   cases r with
   | cons h1 r =>
     cases r with
     | cons h2 r =>
       cases r
       exact ⟨_, _, rfl, .of ha, rfl, _, _, rfl, _, _, rfl, rfl, h _ _ h1 h2⟩
end
end L2
namespace L2
open PySem
def Bc (xs : Array Nat) : Prop := ∀ i j, (hi : i < xs.size) -> (hj : j < xs.size) -> i < j -> xs[i] < xs[j]
theorem tL {xs : Array Nat} {j : Nat} (up : Bc xs) : ∀ (f lo hi : Nat), hi - lo <= f -> lo <= hi -> hi <= xs.size -> (∀ i, (h : i < xs.size) -> i < lo -> xs[i] < j) -> (∀ i, (h : i < xs.size) -> hi <= i -> j <= xs[i]) ->
 SetTable.below.go xs j f lo hi <= xs.size /\ (∀ i, (h : i < xs.size) -> i < SetTable.below.go xs j f lo hi -> xs[i] < j) /\ ∀ i, (h : i < xs.size) -> SetTable.below.go xs j f lo hi <= i -> j <= xs[i] := by
 intro f
 induction f with
 | zero =>
   intro lo hi hf h1 h2 a b
   have e : hi = lo := by omega
   subst e
   exact ⟨h2, a, b⟩
 | succ f ih =>
   intro lo hi hf h1 h2 a b
   unfold SetTable.below.go
   by_cases cq : lo < hi
   . rw [if_pos cq]
     have hm : (lo + hi) / 2 < xs.size := by omega
     have hg : xs.getD ((lo + hi) / 2) j = xs[(lo + hi) / 2] := by simp [Array.getD, hm]
     dsimp only
     rw [hg]
     by_cases hx : xs[(lo + hi) / 2] < j
     . rw [if_pos hx]
       refine ih _ _ (by omega) (by omega) h2 (fun i h xO => ?_) b
       by_cases e : i = (lo + hi) / 2
       . subst e; exact hx
       . exact Nat.lt_trans (up i _ h hm (by omega)) hx
     . rw [if_neg hx]
       refine ih _ _ (by omega) (by omega) (by omega) a (fun i h xO => ?_)
       by_cases e : i = (lo + hi) / 2
       . subst e; omega
       . have := up _ i hm h (by omega); omega
   . rw [if_neg cq]
     have e : hi = lo := by omega
     subst e
     exact ⟨h2, a, b⟩
theorem below_at {xs : Array Nat} {j : Nat} (up : Bc xs) : SetTable.below xs j <= xs.size /\ (∀ i, (h : i < xs.size) -> i < SetTable.below xs j -> xs[i] < j) /\ ∀ i, (h : i < xs.size) -> SetTable.below xs j <= i -> j <= xs[i] :=
 tL up _ _ _ (by omega) (Nat.zero_le _) (Nat.le_refl _) (fun i _ h => absurd h (Nat.not_lt_zero _)) (fun i h h' => absurd h (by omega))
theorem nQ {xs : Array Nat} : Bc xs ↔ xs.toList.Pairwise (· < ·) := by
 rw [List.pairwise_iff_getElem]
 constructor
 . intro h i j hi hj jd
   simpa using h i j (by simpa using hi) (by simpa using hj) jd
 . intro h i j hi hj jd
   have := h i j (by simpa using hi) (by simpa using hj) jd
   rw [Array.getElem_toList, Array.getElem_toList] at this
   exact this
theorem og {xs : Array Nat} {j : Nat} (up : Bc xs) (hn : xs[SetTable.below xs j]? ≠ some j) : Bc (SetTable.insertAt xs (SetTable.below xs j) j) := by
 obtain ⟨h0, h1, h2⟩ := below_at (j := j) up
 rw [nQ, SetTable.toList_insertAt]
 have pw := nQ.mp up
 have hd : ∀ x ∈ xs.toList.drop (SetTable.below xs j), j < x := by
  intro x hx
  obtain ⟨k, hk, e⟩ := List.getElem_of_mem hx
  rw [List.getElem_drop] at e
  have D7 : SetTable.below xs j + k < xs.size := by rw [List.length_drop] at hk; simp at hk; omega
  have e2 : xs[SetTable.below xs j + k] = x := by rw [<- e]; simp
  have := h2 _ D7 (by omega)
  rcases Nat.lt_or_ge j x with q | q
  . exact q
  . have hj : xs[SetTable.below xs j + k] = j := by omega
    rcases Nat.eq_zero_or_pos k with k0 | k0
    . subst k0
      exact absurd (by rw [Array.getElem?_eq_getElem (by omega)]; simpa using hj) hn
    . have a := up (SetTable.below xs j) _ (by omega) D7 (by omega)
      have b := h2 (SetTable.below xs j) (by omega) (Nat.le_refl _)
      omega
 rw [List.pairwise_append, List.pairwise_cons]
 refine ⟨pw.sublist (List.take_sublist _ _), ⟨hd, pw.sublist (List.drop_sublist _ _)⟩, fun x hx y hy => ?_⟩
 have Ie : x < j := by
  obtain ⟨k, hk, e⟩ := List.getElem_of_mem hx
  rw [List.getElem_take] at e
  rw [List.length_take] at hk
  have D7 : k < xs.size := by simp at hk; omega
  have := h1 k D7 (by omega)
  rw [<- e]; simpa using this
 rcases List.mem_cons.mp hy with rfl | hy
 . exact Ie
 . exact Nat.lt_trans Ie (hd y hy)
structure Good (t : SetTable) : Prop where
 up : Bc t.place
 nd : t.dummies = #[]
theorem qN (n : Nat) : Bc (Array.range n) := fun i j hi hj h => by simpa using h
theorem cX {t : SetTable} {n : Nat} : Good (t.standIn n) := ⟨qN n, rfl⟩
theorem oQ {t : SetTable} {b : Bool} (g : Good t) : Good { t with plain := b } := ⟨g.up, g.nd⟩
theorem o8 {j : Nat} : SetTable.has #[] j = false := by simp [SetTable.has]
theorem nZ {t : SetTable} {j : Nat} (g : Good t) (h : t.slot j = .empty) : t.place[SetTable.below t.place j]? ≠ some j := by
 intro e
 unfold SetTable.slot at h
 simp [e] at h
theorem uS {t : SetTable} {f : Nat -> Int} {h : Int} (g : Good t) : ∀ (k : Nat) (p : SetTable.Probe) (j : Nat) (d : Option Nat), p.dummy = none -> SetTable.probe.go t f h k p = some (.empty j d) -> t.slot j = .empty /\ d = none := by
 intro k
 induction k with
 | zero => intro p j d _ e; simp [SetTable.probe.go] at e
 | succ k ih =>
   intro p j d hp e
   unfold SetTable.probe.go at e
   have IL : ∀ q : SetTable.Probe, q.dummy = none -> (t.advance q).dummy = none := by
    intro q hq
    unfold SetTable.advance
    split <;> exact hq
   split at e
   . rename_i hs
     cases e
     exact ⟨hs, hp⟩
   . rename_i hs
     unfold SetTable.slot at hs
     dsimp only at hs
     split at hs
     . cases hs
     . rw [g.nd, o8] at hs
       cases hs
   . split at e
     . cases e
     . exact ih _ j d (IL p hp) e
theorem nF {t : SetTable} {es : Array (Int × Value)} {h : Int} {x : Value} (g : Good t) : Good (layNew t es h x).2.1 /\ (layNew t es h x).2.1.led = t.led := by
 unfold layNew
 split
 . rename_i slot Jv e
   have hs : t.slot slot = .empty := by
    unfold SetTable.freeSlot at e
    split at e
    . rename_i j d hp
      obtain ⟨h1, rfl⟩ := uS g _ _ _ _ rfl hp
      cases e
      exact h1
    . cases e
   have hn := nZ g hs
   have gp : Good (t.put slot).1 := ⟨og g.up hn, by unfold SetTable.put; dsimp only; rw [g.nd, o8]; rfl⟩
   dsimp only
   unfold SetTable.orStandIn
   split
   . exact ⟨gp, rfl⟩
   . exact ⟨cX, rfl⟩
 . exact ⟨cX, rfl⟩
theorem kl {α : Type} (g : Nat -> Option α) : ∀ l : List Nat, ((l.filterMap fun j => (g j).map (j, ·)).map (·.1)) = l.filter fun j => (g j).isSome
 | [] => rfl
 | j :: r => by
   rw [List.filterMap_cons, List.filter_cons]
   cases hg : g j with
   | none => simpa using kl g r
   | some a => simpa using kl g r
theorem rg {mask finger moves : Nat} {led plain : Bool} {hs : Array Int} {t : SetTable} {o : Array Nat} (e : SetTable.laid mask finger moves led plain hs = some (t, o)) : Good t /\ t.led = led := by
 unfold SetTable.laid at e
 cases hl : SetTable.layClean mask hs with
 | none => rw [hl] at e; cases e
 | some owner =>
   rw [hl] at e
   have e' := Option.some.inj e
   cases e'
   refine ⟨⟨?_, rfl⟩, rfl⟩
   rw [nQ]
   show List.Pairwise _ (List.map _ _)
   rw [kl]
   exact List.pairwise_lt_range.filter _
theorem n0 {t : SetTable} {es : Array (Int × Value)} {n : Nat} : Good (relayAll t es n).2.1 /\ (relayAll t es n).2.1.led = t.led := by
 unfold relayAll
 split
 . rename_i t' order e
   have := rg e
   dsimp only
   split
   . exact this
   . exact ⟨cX, rfl⟩
 . exact ⟨cX, rfl⟩
section
variable {prog : Program} {w : World} {A : Around} {E : Value -> Shared -> Prop} {s : Shared}
def dY (prog : Program) (w : World) (h : Heap) (a : Addr) (S : Int -> Bool) (n : Nat) : Prop :=
 ∃ o es ep t, h.get? a = some o /\ o.ExactSet /\ o.data = .set es ep t /\ ElemsOf (intKind prog w) es.toList /\ (∀ k, S k = true ↔ ∃ e ∈ es.toList, (intKind prog w).is k e.2 = true) /\ es.size < scanBound /\ t.fits es.size = true /\ es.size = n /\ Good t /\ t.led = !w.params.followText "set-order"
theorem dY.at {h h' : Heap} {a : Addr} {S : Int -> Bool} {n : Nat} (x : dY prog w h a S n) (k : ∀ o, h.get? a = some o -> h'.get? a = some o) : dY prog w h' a S n := by
 obtain ⟨o, es, ep, t, ho, r⟩ := x
 exact ⟨o, es, ep, t, k o ho, r⟩
theorem pR {h : Heap} {a : Addr} {o : Obj} {es dZ : Array (Int × Value)} {ep : Nat} {t t1 : SetTable} {S : Int -> Bool} (ho : h.get? a = some o) (hx : o.ExactSet) (hd : o.data = .set es ep t)
 (h1 : ElemsOf (intKind prog w) dZ.toList) (h2 : ∀ k, S k = true ↔ ∃ e ∈ dZ.toList, (intKind prog w).is k e.2 = true) (h3 : dZ.size < scanBound) (h4 : t1.fits dZ.size = true) (h5 : Good t1) (h6 : t1.led = !w.params.followText "set-order") :
 (h.update a (Obj.putSet dZ t1)).get? a = some { o with data := .set dZ (ep + 1) t1 } /\ dY prog w (h.update a (Obj.putSet dZ t1)) a S dZ.size := by
 obtain ⟨e, _⟩ := SetOf_store (knd := intKind prog w) ho hx hd h1 h2 h3 h4
 exact ⟨e, _, dZ, ep + 1, t1, e, hx, rfl, h1, h2, h3, h4, rfl, h5, h6⟩
theorem uN {g : Bool -> Sem Unit} (hg : ∀ (b : Bool) (s1 : Shared) (R : Unit -> Shared -> Prop), R () s1 -> wpAny (model prog w) A (g b) R E s1) {a : Addr} {o : Obj} {es dZ : Array (Int × Value)} {ep : Nat} {t t1 : SetTable} {S : Int -> Bool} {wd : Bool} {R : Option Bool -> Shared -> Prop}
 (ho : s.heap.get? a = some o) (hx : o.ExactSet) (hd : o.data = .set es ep t) (h1 : ElemsOf (intKind prog w) dZ.toList) (h2 : ∀ k, S k = true ↔ ∃ e ∈ dZ.toList, (intKind prog w).is k e.2 = true) (h3 : dZ.size < scanBound) (h4 : t1.fits dZ.size = true) (h5 : Good t1) (h6 : t1.led = !w.params.followText "set-order")
 (k : ∀ h', Heap.SameBut a s.heap h' -> dY prog w h' a S dZ.size -> R (some true) { s with heap := h' }) :
 wpAny (model prog w) A (do
  storeSet a dZ t1
  if (!wd && t1.tooFull) = true then do
      g (relayAll t1 dZ (SetTable.grown dZ.size)).2.2
      storeSet a (relayAll t1 dZ (SetTable.grown dZ.size)).1 (relayAll t1 dZ (SetTable.grown dZ.size)).2.1
      pure (some true)
   else pure (some true)) R E s := by
 obtain ⟨e1, g1⟩ := pR (prog := prog) (w := w) ho hx hd h1 h2 h3 h4 h5 h6
 refine wpAny_bind (wpAny_storeSet_of ho hd ?_ (fits_of_scanBound h3))
 have sb := Heap.SameBut.update s.heap a (Obj.putSet dZ t1)
 by_cases c : (!wd && t1.tooFull) = true
 . rw [if_pos c]
   have p1 := relayAll_perm t1 dZ (SetTable.grown dZ.size)
   have p2 := relayAll_fits t1 dZ (SetTable.grown dZ.size)
   obtain ⟨p3, p4⟩ := n0 (t := t1) (es := dZ) (n := SetTable.grown dZ.size)
   have sz : (relayAll t1 dZ (SetTable.grown dZ.size)).1.size = dZ.size := by rw [<- Array.length_toList, p1.length_eq, Array.length_toList]
   have q2 : ∀ k, S k = true ↔ ∃ e ∈ (relayAll t1 dZ (SetTable.grown dZ.size)).1.toList, (intKind prog w).is k e.2 = true := fun k => by
    rw [h2 k]
    exact ⟨fun ⟨e, m, i⟩ => ⟨e, p1.mem_iff.mpr m, i⟩, fun ⟨e, m, i⟩ => ⟨e, p1.mem_iff.mp m, i⟩⟩
   have HD : (relayAll t1 dZ (SetTable.grown dZ.size)).1.size < scanBound := by rw [sz]; exact h3
   obtain ⟨_, g2⟩ := pR (prog := prog) (w := w) e1 hx rfl (h1.perm p1) q2 HD p2 p3 (p4.trans h6)
   refine wpAny_bind (hg _ _ _ (wpAny_bind (wpAny_storeSet_of e1 rfl ?_ (fits_of_scanBound HD))))
   rw [sz] at g2
   exact wpAny_pure (k _ (sb.trans (Heap.SameBut.update _ a _)) g2)
 . rw [if_neg c]
   exact wpAny_pure (k _ sb g1)
theorem CV {a : Addr} {S : Int -> Bool} {n : Nat} {k : Int} {x : Value} {Q : Bool -> Shared -> Prop} (hk : (intKind prog w).is k x = true) (hc : x.scannable = true) (hS : dY prog w s.heap a S n) (hr : n + 1 < scanBound)
 (h : ∀ h', Heap.SameBut a s.heap h' -> dY prog w h' a (fun i => S i || decide (i = k)) (if S k then n else n + 1) -> Q (!S k) { s with heap := h' }) : wpAny (model prog w) A (setAddHashed a x ((intKind prog w).hash k)) Q E s := by
 obtain ⟨o, es, ep, t, ho, hx, hd, h1, h2, h3, h4, h5, h6, h7⟩ := hS
 unfold setAddHashed setAddHashedIn
 refine wpAny_holding (wpAny_bind (wpAny_setState_of ho hd h4 ?_))
 dsimp only
 rw [byScan_of hc h3 h1]
 simp only [if_true]
 unfold setAddByScan
 refine wpAny_bind (wpAny_bind (wpAny_rule (wpAny_bind (wpAny_setScan_of hk ho hd h4 h1 ?_))))
 cases hf : List.findIdx? (fun e => (intKind prog w).is k e.2) es.toList with
 | some j =>
   obtain ⟨hj, hp, _⟩ := List.findIdx?_eq_some_iff_getElem.mp hf
   have e : S k = true := (h2 k).mpr ⟨_, List.getElem_mem hj, hp⟩
   rw [e] at h
   dsimp only
   refine wpAny_pure (wpAny_pure ?_)
   have z := h s.heap (Heap.SameBut.refl a s.heap) ⟨o, es, ep, t, ho, hx, hd, h1, fun i => by
    rw [Bool.or_eq_true, decide_eq_true_eq, <- h2 i]
    exact ⟨fun q => q.elim id fun z => z ▸ e, .inl⟩, h3, h4, by simpa using h5, h6, h7⟩
   cases s
   exact z
 | none =>
   have e : S k = false := by
    cases hb : S k with
    | false => rfl
    | true =>
      obtain ⟨y, m, i⟩ := (h2 k).mp hb
      rw [List.findIdx?_eq_none_iff.mp hf y m] at i
      cases i
   rw [e] at h
   dsimp only
   have p1 := layNew_perm t es ((intKind prog w).hash k) x
   have p2 := layNew_fits t es ((intKind prog w).hash k) x
   obtain ⟨p3, p4⟩ := nF (es := es) (h := (intKind prog w).hash k) (x := x) h6
   generalize layNew t es ((intKind prog w).hash k) x = L at p1 p2 p3 p4 ⊢
   obtain ⟨dZ, t1, wd, gv⟩ := L
   dsimp only at p1 p2 p3 p4 ⊢
   rw [Array.toList_push] at p1
   have sz : dZ.size = n + 1 := by rw [<- Array.length_toList, p1.length_eq, List.length_append, Array.length_toList, h5]; rfl
   have q1 : ElemsOf (intKind prog w) dZ.toList := (h1.push hk hc).perm p1
   have q2 := mem_push_iff hk h2 p1
   have q3 : dZ.size < scanBound := by rw [sz]; exact hr
   have fin : ∀ h', Heap.SameBut a s.heap h' -> dY prog w h' a (fun i => S i || decide (i = k)) dZ.size -> Q true { s with heap := h' } := fun h' sb g => by
    rw [sz] at g
    exact h h' sb g
   refine wpAny_bind (m := match gv with | true => rule "set.scan.the-table-gave-way" | false => pure ()) ?_
   have gw : ∀ (b : Bool) (s1 : Shared) (R : Unit -> Shared -> Prop), R () s1 -> wpAny (model prog w) A (match b with | true => rule "set.scan.the-table-gave-way" | false => pure ()) R E s1 := fun b s1 R hq => by
    cases b
    . exact wpAny_pure hq
    . exact wpAny_rule hq
   refine gw gv _ _ ?_
   by_cases c : t1.plain = true
   . rw [if_pos c, hashByValue_scannable 8 hc]
     refine wpAny_bind (wpAny_pure ?_)
     refine uN gw ho hx hd q1 q2 q3 ?_ ?_ ?_ fun h' sb g => wpAny_pure (fin h' sb g)
     . split
       . exact p2
       . exact SetTable.fits_plain_off p2
     . split
       . exact p3
       . exact oQ p3
     . split
       . exact p4.trans h7
       . exact p4.trans h7
   . rw [if_neg c]
     refine wpAny_bind (wpAny_pure ?_)
     simp only [if_true]
     exact uN gw ho hx hd q1 q2 q3 p2 p3 (p4.trans h7) fun h' sb g => wpAny_pure (fin h' sb g)
end
theorem gK {α : Type} : ∀ {xs : List α} {i : Nat} (h : i < xs.length), (xs[i] :: xs.eraseIdx i).Perm xs
 | a :: r, 0, _ => .refl _
 | a :: r, i + 1, h => by
   have h2 : i < r.length := by simpa using h
   show (r[i] :: a :: r.eraseIdx i).Perm (a :: r)
   exact (List.Perm.swap a _ _).trans (List.Perm.cons a (gK h2))
theorem vN {α : Type} (f : Nat -> Nat) : ∀ (n k : Nat) (left : List α) (out : Array α), left.length <= n -> (pickOrder.go f n k left out).toList.Perm (out.toList ++ left) := by
 intro n
 induction n with
 | zero =>
   intro k left out h
   have : left = [] := List.length_eq_zero_iff.mp (by omega)
   subst this
   simp [pickOrder.go]
 | succ n ih =>
   intro k left out h
   unfold pickOrder.go
   cases left with
   | nil => simp
   | cons a r =>
     have cq : f k % (a :: r).length < (a :: r).length := Nat.mod_lt _ (by simp)
     rw [List.getElem?_eq_getElem cq]
     dsimp only
     refine (ih _ _ _ ?_).trans ?_
     . rw [List.length_eraseIdx, if_pos cq]; simp at h ⊢; omega
     . rw [Array.toList_push, List.append_assoc]
       exact List.Perm.append_left _ (gK cq)
theorem iP {α : Type} (f : Nat -> Nat) (xs : Array α) : (pickOrder f xs).toList.Perm xs.toList := by
 unfold pickOrder
 simpa using vN f xs.size 0 xs.toList #[] (by simp)
section
variable {prog : Program} {w : World} {A : Around} {E : Value -> Shared -> Prop} {s : Shared}
theorem xF {src : Source} {n : Nat} {Q : Nat -> Shared -> Prop} (hn : n ≠ 0) (h : ∀ i d, i < n -> Q i { s with drawn := d }) : wpAny (model prog w) A (choose src n) Q E s := fun Γ p _ => by
 show Sem.wp _ _ (.choose src n .pure) _ _ _ _
 rw [Sem.wp_choose]
 exact ⟨hn, h _ _ (Nat.mod_lt _ (Nat.pos_of_ne_zero hn))⟩
theorem uh {α : Type} : ∀ (n : Nat) (xs : List α) {s : Shared} {Q : List α -> Shared -> Prop}, xs.length <= n -> (∀ ys d, ys.Perm xs -> Q ys { s with drawn := d }) -> wpAny (model prog w) A (drawOrder n xs) Q E s := by
 intro n
 induction n with
 | zero =>
   intro xs s Q h k
   have : xs = [] := List.length_eq_zero_iff.mp (by omega)
   subst this
   exact wpAny_pure (k [] s.drawn .nil)
 | succ n ih =>
   intro xs s Q h k
   cases xs with
   | nil => exact wpAny_pure (k [] s.drawn .nil)
   | cons a r =>
     unfold drawOrder
     refine wpAny_bind (xF (by simp) fun i d hi => ?_)
     rw [List.getElem?_eq_getElem hi]
     dsimp only
     refine wpAny_bind (ih _ ?_ fun ys d2 hp => wpAny_pure (k _ _ ?_))
     . rw [List.length_eraseIdx, if_pos hi]; simp at h ⊢; omega
     . exact (List.Perm.cons _ hp).trans (gK hi)
end
set_option maxRecDepth 100000
theorem nD : Manifest.owners.lookup (String.ofList ['r', 'o', 't', 'a', 'r', 'e', 't', 'i', '_', 't', 'e', 's'].reverse) = some Manifest.sig_set_iterator := by kernel_rfl
theorem aK : Slot "set_iterator" "__next__" "set_iterator.__next__" :=
 .of (owner := "set_iterator") (n := "__next__") (by rw [typeLookup_type, builtinLookup_eq_fast]; kernel_rfl) (by decide +kernel) (by decide +kernel) (by decide +kernel) (by first | exact .inl (by decide +kernel) | exact .inr (by decide +kernel)) (by rw [isSubtype_type]; kernel_rfl)
theorem hJ : Slot "set_iterator" "__iter__" "set_iterator.__iter__" :=
 .of (owner := "set_iterator") (n := "__iter__") (by rw [typeLookup_type, builtinLookup_eq_fast]; kernel_rfl) (by decide +kernel) (by decide +kernel) (by decide +kernel) (by first | exact .inl (by decide +kernel) | exact .inr (by decide +kernel)) (by rw [isSubtype_type]; kernel_rfl)
theorem cJ : entryFor table "set_iterator.__next__" = some Builtin.«set_iterator.__next__» := entryFor_of_tree (by kernel_rfl)
theorem kG : entryFor table "set_iterator.__iter__" = some Builtin.«dict_keyiterator.__iter__» :=
 entryFor_alias (id' := "dict_keyiterator.__iter__") (by kernel_rfl) rfl (by decide +kernel) (by kernel_rfl)
theorem cU (a : Value) : argsOk "set_iterator.__next__" ⟨[a], []⟩ := by
 unfold argsOk; rw [signature?_of (id := "set_iterator.__next__") (n := ['_', '_', 't', 'x', 'e', 'n', '_', '_']) (o := ['r', 'o', 't', 'a', 'r', 'e', 't', 'i', '_', 't', 'e', 's']) (by kernel_rfl) nD]; kernel_rfl
theorem lS (a : Value) : argsOk "set_iterator.__iter__" ⟨[a], []⟩ := by
 unfold argsOk; rw [signature?_of (id := "set_iterator.__iter__") (n := ['_', '_', 'r', 'e', 't', 'i', '_', '_']) (o := ['r', 'o', 't', 'a', 'r', 'e', 't', 'i', '_', 't', 'e', 's']) (by kernel_rfl) nD]; kernel_rfl
theorem jR : entryFor table "set.__iter__" = some Builtin.«frozenset.__iter__» :=
 entryFor_alias (id' := "frozenset.__iter__") (by kernel_rfl) rfl (by decide +kernel) (by kernel_rfl)
def e9 (f : Value) (i : Nat) (a : Addr) (n ep : Nat) : Obj := { cls := .type "set_iterator", data := .fields #[f, rawInt i, .ref a, rawInt n, rawInt ep] }
section
variable {prog : Program} {w : World} {A : Around} {E : Value -> Shared -> Prop} {s : Shared} {it a : Addr} {o : Obj} {es : Array (Int × Value)} {ep : Nat} {t : SetTable}
theorem lE {f : Value} {i n : Nat} {Q : Value -> Shared -> Prop} (h : s.heap.get? it = some (e9 f i a n ep)) (q : Q (.ref it) s) : wpAny (model prog w) A (pyIter (.ref it)) Q E s := by
 have hT : s.TypeIs (.ref it) "set_iterator" := ⟨_, h, rfl⟩
 refine wpAny_pyIter_slot hT hJ (wpAny_call_entry hJ hT kG ?_ (lS _))
 show wpAny _ _ (ret (.ref it)) _ _ s
 exact wpAny_pure ⟨_, rfl, "set_iterator", _, hT, aK.lookup, q⟩
end
section
variable {prog : Program} {w : World} {A : Around} {E : Value -> Shared -> Prop} {s : Shared} {it a : Addr} {o : Obj} {es : Array (Int × Value)} {ep : Nat} {t : SetTable}
theorem jO : isSubtype (.type "StopIteration") (.type "StopIteration") = pure true := by rw [isSubtype_type]; kernel_rfl
theorem pZ {z z2 i : Nat} {x : Value} {Q : Option Value -> Shared -> Prop} (hit : s.heap.get? it = some (e9 (rawInt z) i a es.size ep)) (ho : s.heap.get? a = some o) (hd : o.data = .set es ep t) (hf : t.fits es.size = true)
 (hn : ∀ (R : Option (Value × Nat) -> Shared -> Prop) (E : Value -> Shared -> Prop), R (some (x, z2)) s -> wpAny (model prog w) A.in1 (setNext a z i ep) R E s)
 (h : ∀ h', h'.get? it = some (e9 (rawInt z2) (i + 1) a es.size ep) -> Heap.SameBut it s.heap h' -> Q (some x) { s with heap := h' }) : wpAny (model prog w) A (pyNext (.ref it)) Q E s := by
 have hT : s.TypeIs (.ref it) "set_iterator" := ⟨_, hit, rfl⟩
 unfold pyNext
 refine wpAny_bind (wpAny_attempt (wpAny_callSpecial?_slot (name := Str.ofString "__next__") hT aK (wpAny_call_entry aK hT cJ ?_ (cU _))))
 unfold Builtin.«set_iterator.__next__»
 refine wpAny_bind (wpAny_pure ?_)
 refine wpAny_bind (wpAny_fieldsOf hit rfl ?_)
 refine wpAny_bind (wpAny_setEntries_of ho hd hf ?_)
 rw [if_neg (by simp)]
 refine wpAny_bind (hn _ _ ?_)
 dsimp only
 refine wpAny_bind (wpAny_setField_rec hit (by simp) fun h1 e1 b1 => ?_)
 refine wpAny_bind (wpAny_setField_rec (s := { s with heap := h1 }) e1 (by simp) fun h2 e2 b2 => ?_)
 refine wpAny_pure ⟨_, rfl, wpAny_pure (h h2 ?_ (b1.trans b2))⟩
 rw [e2]
 unfold e9
 have e : ((i + 1 : Nat) : Int) = (i : Int) + 1 := by omega
 rw [e]
 rfl
theorem j0 {z i : Nat} {Q : Option Value -> Shared -> Prop} (hh : A.handled = none) (hit : s.heap.get? it = some (e9 (rawInt z) i a es.size ep)) (ho : s.heap.get? a = some o) (hd : o.data = .set es ep t) (hf : t.fits es.size = true)
 (hn : ∀ (R : Option (Value × Nat) -> Shared -> Prop) (E : Value -> Shared -> Prop), R none s -> wpAny (model prog w) A.in1 (setNext a z i ep) R E s)
 (h : ∀ h', Heap.ExtBut it s.heap h' -> Q none { s with heap := h' }) : wpAny (model prog w) A (pyNext (.ref it)) Q E s := by
 have hT : s.TypeIs (.ref it) "set_iterator" := ⟨_, hit, rfl⟩
 unfold pyNext
 refine wpAny_bind (wpAny_attempt (wpAny_callSpecial?_slot (name := Str.ofString "__next__") hT aK (wpAny_call_entry aK hT cJ ?_ (cU _))))
 unfold Builtin.«set_iterator.__next__»
 refine wpAny_bind (wpAny_pure ?_)
 refine wpAny_bind (wpAny_fieldsOf hit rfl ?_)
 refine wpAny_bind (wpAny_setEntries_of ho hd hf ?_)
 rw [if_neg (by simp)]
 refine wpAny_bind (hn _ _ ?_)
 dsimp only
 refine wpAny_bind (wpAny_setField_rec hit (by simp) fun h1 e1 b1 => ?_)
 refine wpAny_bind ?_
 simp only [newExc, newTuple]
 refine wpAny_bind (wpAny_newObj_type ?_ (by size_fits))
 refine wpAny_bind (m := firstArgMember _ _) (wpAny_of_eq (a := Value.none) (by first | rfl | (simp only [firstArgMember]; rfl)) ?_)
 refine wpAny_newObj_type ?_ (by size_fits)
 simp only [raiseNew]
 refine wpAny_bind (wpAny_handled ?_)
 rw [show A.in1.handled = none from hh]
 refine wpAny_bind (wpAny_pure (wpAny_throw ?_))
 refine wpAny_bind (wpAny_isInstance (T := "StopIteration") (b := true) ⟨_, Heap.get?_push_size _ rfl, rfl⟩ jO ?_)
 exact wpAny_pure (h _ ((b1.extBut.push _).push _))
theorem t9 {p i j : Nat} {ps : List Nat} {x : Int × Value} {Q : Option Value -> Shared -> Prop} (hit : s.heap.get? it = some (e9 (.ref p) i a es.size ep)) (hp : s.heap.get? p = some { cls := .type "tuple", data := .seq (ps.map fun (i : Nat) => rawInt i).toArray }) (ho : s.heap.get? a = some o) (hd : o.data = .set es ep t) (hf : t.fits es.size = true)
 (hi : ps[i]? = some j) (hj : es[j]? = some x) (h : ∀ h', h'.get? it = some (e9 (.ref p) (i + 1) a es.size ep) -> Heap.SameBut it s.heap h' -> Q (some x.2) { s with heap := h' }) : wpAny (model prog w) A (pyNext (.ref it)) Q E s := by
 have hT : s.TypeIs (.ref it) "set_iterator" := ⟨_, hit, rfl⟩
 unfold pyNext
 refine wpAny_bind (wpAny_attempt (wpAny_callSpecial?_slot (name := Str.ofString "__next__") hT aK (wpAny_call_entry aK hT cJ ?_ (cU _))))
 unfold Builtin.«set_iterator.__next__»
 refine wpAny_bind (wpAny_pure ?_)
 refine wpAny_bind (wpAny_fieldsOf hit rfl ?_)
 refine wpAny_bind (wpAny_setEntries_of ho hd hf ?_)
 rw [if_neg (by simp)]
 refine wpAny_bind (wpAny_bind (wpAny_load hp (wpAny_pure ?_)))
 dsimp only
 have e0 : (ps.map fun (i : Nat) => rawInt i).toArray[(i : Int).toNat]? = some (rawInt j) := by
  rw [Int.toNat_natCast, List.getElem?_toArray, List.getElem?_map, hi]; rfl
 rw [e0]
 refine wpAny_bind ?_
 unfold setNextDrawn
 refine wpAny_bind (wpAny_setState_of ho hd hf ?_)
 dsimp only
 rw [if_neg (by simp), Int.toNat_natCast, hj]
 refine wpAny_pure (wpAny_bind (wpAny_setField_rec hit (by simp) fun h1 e1 b1 => wpAny_pure ⟨_, rfl, wpAny_pure (h h1 ?_ b1)⟩))
 rw [e1]
 unfold e9
 have e : ((i + 1 : Nat) : Int) = (i : Int) + 1 := by omega
 rw [e]
 rfl
theorem mK {p i : Nat} {ps : List Nat} {Q : Option Value -> Shared -> Prop} (hh : A.handled = none) (hit : s.heap.get? it = some (e9 (.ref p) i a es.size ep)) (hp : s.heap.get? p = some { cls := .type "tuple", data := .seq (ps.map fun (i : Nat) => rawInt i).toArray }) (ho : s.heap.get? a = some o) (hd : o.data = .set es ep t) (hf : t.fits es.size = true)
 (hi : ps[i]? = none) (h : ∀ h', Heap.ExtBut it s.heap h' -> Q none { s with heap := h' }) : wpAny (model prog w) A (pyNext (.ref it)) Q E s := by
 have hT : s.TypeIs (.ref it) "set_iterator" := ⟨_, hit, rfl⟩
 unfold pyNext
 refine wpAny_bind (wpAny_attempt (wpAny_callSpecial?_slot (name := Str.ofString "__next__") hT aK (wpAny_call_entry aK hT cJ ?_ (cU _))))
 unfold Builtin.«set_iterator.__next__»
 refine wpAny_bind (wpAny_pure ?_)
 refine wpAny_bind (wpAny_fieldsOf hit rfl ?_)
 refine wpAny_bind (wpAny_setEntries_of ho hd hf ?_)
 rw [if_neg (by simp)]
 refine wpAny_bind (wpAny_bind (wpAny_load hp (wpAny_pure ?_)))
 dsimp only
 have e0 : (ps.map fun (i : Nat) => rawInt i).toArray[(i : Int).toNat]? = none := by
  rw [Int.toNat_natCast, List.getElem?_toArray, List.getElem?_map, hi]; rfl
 rw [e0]
 refine wpAny_bind (wpAny_setField_rec hit (by simp) fun h1 e1 b1 => ?_)
 refine wpAny_bind (wpAny_setField_rec (s := { s with heap := h1 }) e1 (by simp) fun h2 e2 b2 => ?_)
 refine wpAny_bind ?_
 simp only [newExc, newTuple]
 refine wpAny_bind (wpAny_newObj_type ?_ (by size_fits))
 refine wpAny_bind (m := firstArgMember _ _) (wpAny_of_eq (a := Value.none) (by first | rfl | (simp only [firstArgMember]; rfl)) ?_)
 refine wpAny_newObj_type ?_ (by size_fits)
 simp only [raiseNew]
 refine wpAny_bind (wpAny_handled ?_)
 rw [show A.in1.handled = none from hh]
 refine wpAny_bind (wpAny_pure (wpAny_throw ?_))
 refine wpAny_bind (wpAny_isInstance (T := "StopIteration") (b := true) ⟨_, Heap.get?_push_size _ rfl, rfl⟩ jO ?_)
 exact wpAny_pure (h _ (((b1.trans b2).extBut.push _).push _))
theorem pU {A : Around} {z i : Nat} (hb : w.params.followText "set-order" = true) (ho : s.heap.get? a = some o) (hd : o.data = .set es ep t) (hf : t.fits es.size = true) (R : Option (Value × Nat) -> Shared -> Prop) (E : Value -> Shared -> Prop)
 (h : R ((((pickOrder (w.params.setOrder a ep) es).toList.map (·.2))[i]?).map fun x => (x, z)) s) : wpAny (model prog w) A (setNext a z i ep) R E s := by
 unfold setNext
 refine wpAny_bind (wpAny_setState_of ho hd hf ?_)
 unfold setsByText
 refine wpAny_bind (wpAny_bind (wpAny_askSetting (wpAny_pure ?_)))
 dsimp only
 rw [show (model prog w).w.params.followText "set-order" = true from hb, if_pos rfl, if_neg (by simp)]
 refine wpAny_bind ?_
 unfold setWalk setsByText
 refine wpAny_bind (wpAny_setState_of ho hd hf ?_)
 refine wpAny_bind (wpAny_bind (wpAny_askSetting (wpAny_pure ?_)))
 dsimp only
 rw [show (model prog w).w.params.followText "set-order" = true from hb, if_pos rfl]
 refine wpAny_bind (wpAny_askSetting (wpAny_pure (wpAny_pure ?_)))
 dsimp only
 rw [List.getElem?_map, Array.getElem?_toList, Option.map_map] at h
 exact h
theorem la {A : Around} {z i k : Nat} (hb : w.params.followText "set-order" = false) (ho : s.heap.get? a = some o) (hd : o.data = .set es ep t) (hf : t.fits es.size = true) (yg : (!t.plain && decide (es.size > 1)) = false) (hl : t.led = true) (R : Option (Value × Nat) -> Shared -> Prop) (E : Value -> Shared -> Prop)
 (h : R (match es[SetTable.below t.place z]?, t.place[SetTable.below t.place z]? with | some (_, x), some j => some (x, j + 1) | _, _ => none) s) : wpAny (model prog w) A (setNext a z k ep) R E s := by
 unfold setNext
 refine wpAny_bind (wpAny_setState_of ho hd hf ?_)
 unfold setsByText
 refine wpAny_bind (wpAny_bind (wpAny_askSetting (wpAny_pure ?_)))
 dsimp only
 rw [show (model prog w).w.params.followText "set-order" = false from hb, if_neg (by simp)]
 split
 . rename_i c
   have c2 : (!t.plain && decide (es.size > 1)) = true := c
   rw [yg] at c2
   cases c2
 . refine wpAny_bind ?_
   show wpAny _ _ (if (!t.led && !es.isEmpty) = true then unsupported "set:maker-not-led" else pure ()) _ _ _
   rw [hl, if_neg (by simp)]
   exact wpAny_pure (wpAny_pure h)
theorem nS {t : SetTable} {i : Nat} (g : Good t) (hi : i < t.place.size) : SetTable.below t.place (t.place[i] + 1) = i + 1 := by
 obtain ⟨h0, h1, h2⟩ := below_at (j := t.place[i] + 1) g.up
 by_cases a : SetTable.below t.place (t.place[i] + 1) <= i
 . have := h2 i hi a; omega
 . by_cases b : i + 1 < SetTable.below t.place (t.place[i] + 1)
   . have c : i + 1 < t.place.size := by omega
     have := h1 (i + 1) c b
     have := g.up i (i + 1) hi c (by omega)
     omega
   . omega
theorem oi {t : SetTable} (g : Good t) : SetTable.below t.place 0 = 0 := by
 obtain ⟨h0, h1, h2⟩ := below_at (j := 0) g.up
 by_cases a : 0 < SetTable.below t.place 0
 . have := h1 0 (by omega) a; omega
 . omega
theorem rD (hh : A.handled = none) (hb : w.params.followText "set-order" = true) (hd : o.data = .set es ep t) (hf : t.fits es.size = true) (nN : a ≠ it) (z : Nat) :
 Walks prog w A it [it, a] [it] es.size (fun i v => ((pickOrder (w.params.setOrder a ep) es).toList.map (·.2))[i]? = some v) (fun i h => h.get? it = some (e9 (rawInt z) i a es.size ep) /\ h.get? a = some o) where
 sub := fun b hb => by simp at hb; simp [hb]
 frame := fun i h h' st k => ⟨k it (by simp) _ st.1, k a (by simp) _ st.2⟩
 item := fun i s Q E hi st hQ => by
  have hl : ((pickOrder (w.params.setOrder a ep) es).toList.map (·.2)).length = es.size := by rw [List.length_map, (iP _ _).length_eq]; simp
  obtain ⟨x, hx⟩ : ∃ x, ((pickOrder (w.params.setOrder a ep) es).toList.map (·.2))[i]? = some x := ⟨_, List.getElem?_eq_getElem (by rw [hl]; exact hi)⟩
  refine pZ (z2 := z) st.1 st.2 hd hf (fun R E h => pU hb st.2 hd hf R E (by rw [hx]; exact h)) fun h' e sb => ?_
  exact hQ x h' s.toks hx ⟨e, (sb.2 a nN).trans st.2⟩ fun b o hb e => sb.extBut b o (by simpa using hb) e
 done := fun s Q E st hQ => by
  have hl : ((pickOrder (w.params.setOrder a ep) es).toList.map (·.2)).length = es.size := by rw [List.length_map, (iP _ _).length_eq]; simp
  refine j0 hh st.1 st.2 hd hf (fun R E h => pU hb st.2 hd hf R E (by rw [List.getElem?_eq_none (by rw [hl]; exact Nat.le_refl _)]; exact h)) fun h' eb => hQ h' s.toks fun b o hb e => eb b o (by simpa using hb) e
 self := fun i s Q E st q => lE st.1 q
theorem mV (hh : A.handled = none) (hb : w.params.followText "set-order" = false) (hd : o.data = .set es ep t) (hf : t.fits es.size = true) (hg : Good t) (yg : (!t.plain && decide (es.size > 1)) = false) (hl : t.led = true) (nN : a ≠ it) :
 Walks prog w A it [it, a] [it] es.size (fun i v => (es.toList.map (·.2))[i]? = some v) (fun i h => (∃ z : Nat, SetTable.below t.place z = i /\ h.get? it = some (e9 (rawInt z) i a es.size ep)) /\ h.get? a = some o) where
 sub := fun b hb => by simp at hb; simp [hb]
 frame := fun i h h' st k => let ⟨⟨z, e1, e2⟩, e3⟩ := st; ⟨⟨z, e1, k it (by simp) _ e2⟩, k a (by simp) _ e3⟩
 item := fun i s Q E hi st hQ => by
  obtain ⟨⟨z, e1, e2⟩, e3⟩ := st
  have hp : t.place.size = es.size := by unfold SetTable.fits at hf; simp at hf; exact hf.1
  have oK : i < t.place.size := by rw [hp]; exact hi
  have hx : (es.toList.map (·.2))[i]? = some es[i].2 := by rw [List.getElem?_map, Array.getElem?_toList, Array.getElem?_eq_getElem hi]; rfl
  refine pZ (z2 := t.place[i] + 1) (x := es[i].2) e2 e3 hd hf (fun R E h => la (i := i) hb e3 hd hf yg hl R E (by rw [e1, Array.getElem?_eq_getElem hi, Array.getElem?_eq_getElem oK]; exact h)) fun h' e sb => ?_
  exact hQ _ h' s.toks hx ⟨⟨_, nS hg oK, e⟩, (sb.2 a nN).trans e3⟩ fun b o hb e => sb.extBut b o (by simpa using hb) e
 done := fun s Q E st hQ => by
  obtain ⟨⟨z, e1, e2⟩, e3⟩ := st
  refine j0 hh e2 e3 hd hf (fun R E h => la (i := 0) hb e3 hd hf yg hl R E (by rw [e1, Array.getElem?_eq_none (Nat.le_refl _)]; exact h)) fun h' eb => hQ h' s.toks fun b o hb e => eb b o (by simpa using hb) e
 self := fun i s Q E st q => by
  obtain ⟨⟨z, e1, e2⟩, e3⟩ := st
  exact lE e2 q
theorem oM {p : Addr} {ps : List Nat} (hh : A.handled = none) (hd : o.data = .set es ep t) (hf : t.fits es.size = true) (nN : a ≠ it) (JX : p ≠ it) (rJ : ps.Perm (List.range es.size)) :
 Walks prog w A it [it, a, p] [it] es.size (fun i v => (ps.map fun j => (es.getD j default).2)[i]? = some v) (fun i h => h.get? it = some (e9 (.ref p) i a es.size ep) /\ h.get? a = some o /\ h.get? p = some { cls := .type "tuple", data := .seq (ps.map fun (i : Nat) => rawInt i).toArray }) where
 sub := fun b hb => by simp at hb; simp [hb]
 frame := fun i h h' st k => ⟨k it (by simp) _ st.1, k a (by simp) _ st.2.1, k p (by simp) _ st.2.2⟩
 item := fun i s Q E hi st hQ => by
  have hl : ps.length = es.size := by rw [rJ.length_eq, List.length_range]
  have oK : i < ps.length := by rw [hl]; exact hi
  have hj : ps[i] < es.size := List.mem_range.mp (rJ.mem_iff.mp (List.getElem_mem oK))
  have hx : (ps.map fun j => (es.getD j default).2)[i]? = some es[ps[i]].2 := by
   rw [List.getElem?_map, List.getElem?_eq_getElem oK]
   simp [Array.getD, hj]
  refine t9 st.1 st.2.2 st.2.1 hd hf (List.getElem?_eq_getElem oK) (Array.getElem?_eq_getElem hj) fun h' e sb => ?_
  exact hQ _ h' s.toks hx ⟨e, (sb.2 a nN).trans st.2.1, (sb.2 p JX).trans st.2.2⟩ fun b o hb e => sb.extBut b o (by simpa using hb) e
 done := fun s Q E st hQ => by
  have hl : ps.length = es.size := by rw [rJ.length_eq, List.length_range]
  exact mK hh st.1 st.2.2 st.2.1 hd hf (List.getElem?_eq_none (by rw [hl]; exact Nat.le_refl _)) fun h' eb => hQ h' s.toks fun b o hb e => eb b o (by simpa using hb) e
 self := fun i s Q E st q => lE st.1 q
end
section
variable {prog : Program} {w : World} {A : Around} {E : Value -> Shared -> Prop} {s : Shared} {it a : Addr} {o : Obj} {es : Array (Int × Value)} {ep : Nat} {t : SetTable}
theorem oJ {α : Type} [Inhabited α] (es : Array α) : (List.range es.size).map (fun j => es.getD j default) = es.toList := by
 refine List.ext_getElem (by simp) fun i h1 h2 => ?_
 have : i < es.size := by simpa using h1
 simp [Array.getD, this]
theorem uv {Q : Value -> Shared -> Prop} (ho : s.heap.get? a = some o) (hx : o.ExactSet) (hd : o.data = .set es ep t) (hf : t.fits es.size = true) (hg : Good t) (hl : t.led = !w.params.followText "set-order") (hz : es.size < scanBound)
 (h : ∀ (it : Addr) (fp : List Addr) (St : Nat -> Heap -> Prop) (ord : List Value) (h' : Heap) (d : Drawn), (∀ b u, s.heap.get? b = some u -> h'.get? b = some u) -> s.heap.objs.size <= it -> St 0 h' -> (∀ b ∈ fp, b < h'.objs.size) -> (∀ b ∈ fp, b = a \/ s.heap.objs.size <= b) -> it ∈ fp -> ord.Perm (es.toList.map (·.2)) ->
  (∀ A : Around, A.handled = none -> Walks prog w A it fp [it] es.size (fun i v => ord[i]? = some v) St) -> Q (.ref it) { s with heap := h', drawn := d }) : wpAny (model prog w) A (pyIter (.ref a)) Q E s := by
 have hT : s.TypeIs (.ref a) "set" := ⟨o, ho, hx.1⟩
 have rQ : a < s.heap.objs.size := Heap.lt_size ho
 refine wpAny_pyIter_slot hT F.slot_set_iter (wpAny_call_entry F.slot_set_iter hT jR ?_ (F.args_set_iter_1 _))
 unfold Builtin.«frozenset.__iter__»
 refine wpAny_bind (wpAny_pure ?_)
 refine wpAny_bind ?_
 unfold Builtin.Frozenset.sizeOf
 refine wpAny_bind (wpAny_setEntries_of ho hd hf (wpAny_pure ?_))
 refine wpAny_bind ?_
 unfold setDrawn setsByText
 refine wpAny_bind (wpAny_setState_of ho hd hf ?_)
 refine wpAny_bind (wpAny_bind (wpAny_askSetting (wpAny_pure (wpAny_pure ?_))))
 dsimp only
 split
 . rename_i c
   have c2 : (!w.params.followText "set-order" && (!t.plain && decide (es.size > 1))) = true := c
   refine wpAny_bind (uh _ _ (by simp) fun ps d rJ => ?_)
   have mE : ps.length = es.size := by rw [rJ.length_eq, List.length_range]
   refine wpAny_bind (wpAny_newTuple (hsz := by rw [List.length_map, mE]; exact fits_of_scanBound hz) ?_)
   refine wpAny_bind (wpAny_setEpoch_of (o := o) (Heap.get?_push_of_some _ ho) hd hf ?_)
   refine wpAny_bind (wpAny_newObj_type (wpAny_pure ⟨_, rfl, "set_iterator", _, ⟨_, Heap.get?_push_size _ rfl, rfl⟩, aK.lookup, ?_⟩))
   have hsz : ∀ u : Obj, (s.heap.push u).objs.size = s.heap.objs.size + 1 := fun u => Heap.size_push ..
   refine h _ [_, a, s.heap.objs.size] _ (ps.map fun j => (es.getD j default).2) _ d (fun b u e => Heap.get?_push_of_some _ (Heap.get?_push_of_some _ e)) (by rw [hsz]; exact Nat.le_succ _) ⟨Heap.get?_push_size _ rfl, Heap.get?_push_of_some _ (Heap.get?_push_of_some _ ho), Heap.get?_push_of_some _ (Heap.get?_push_size _ rfl)⟩ ?_ ?_ (by simp) ?_ (fun A hh => oM hh hd hf ?_ ?_ rJ)
   . intro b hb
     rw [Heap.size_push, hsz]
     have : b = s.heap.objs.size + 1 \/ b = a \/ b = s.heap.objs.size := by simpa using hb
     rcases this with rfl | rfl | rfl
     . exact Nat.lt_succ_self _
     . exact Nat.lt_succ_of_lt (Nat.lt_succ_of_lt rQ)
     . exact Nat.lt_succ_of_lt (Nat.lt_succ_self _)
   . intro b hb
     have : b = s.heap.objs.size + 1 \/ b = a \/ b = s.heap.objs.size := by simpa using hb
     rcases this with rfl | rfl | rfl
     . exact .inr (Nat.le_succ _)
     . exact .inl rfl
     . exact .inr (Nat.le_refl _)
   . rw [<- oJ es, List.map_map]
     exact rJ.map _
   . rw [hsz]; exact Nat.ne_of_lt (Nat.lt_succ_of_lt rQ)
   . rw [hsz]; exact Nat.ne_of_lt (Nat.lt_succ_self _)
 . rename_i c
   have c2 : ¬ (!w.params.followText "set-order" && (!t.plain && decide (es.size > 1))) = true := c
   refine wpAny_bind (wpAny_pure ?_)
   refine wpAny_bind (wpAny_setEpoch_of ho hd hf ?_)
   refine wpAny_bind (wpAny_newObj_type (wpAny_pure ⟨_, rfl, "set_iterator", _, ⟨_, Heap.get?_push_size _ rfl, rfl⟩, aK.lookup, ?_⟩))
   have HZ : ∀ u : Obj, ∀ b ∈ [s.heap.objs.size, a], b < (s.heap.push u).objs.size := by
    intro u b hb
    rw [Heap.size_push]
    have : b = s.heap.objs.size \/ b = a := by simpa using hb
    rcases this with rfl | rfl
    . exact Nat.lt_succ_self _
    . exact Nat.lt_succ_of_lt rQ
   have Iv : ∀ b ∈ [s.heap.objs.size, a], b = a \/ s.heap.objs.size <= b := by
    intro b hb
    have : b = s.heap.objs.size \/ b = a := by simpa using hb
    rcases this with rfl | rfl
    . exact .inr (Nat.le_refl _)
    . exact .inl rfl
   cases hb : w.params.followText "set-order" with
   | true =>
     exact h _ [s.heap.objs.size, a] _ _ _ s.drawn (fun b u e => Heap.get?_push_of_some _ e) (Nat.le_refl _) ⟨Heap.get?_push_size _ rfl, Heap.get?_push_of_some _ ho⟩ (HZ _) Iv (by simp) ((iP _ _).map _) (fun A hh => rD hh hb hd hf (Nat.ne_of_lt rQ) 0)
   | false =>
     have yg : (!t.plain && decide (es.size > 1)) = false := by
      cases q : (!t.plain && decide (es.size > 1)) with
      | false => rfl
      | true => exact absurd (by rw [hb, q]; rfl) c2
     exact h _ [s.heap.objs.size, a] _ _ _ s.drawn (fun b u e => Heap.get?_push_of_some _ e) (Nat.le_refl _) ⟨⟨0, oi hg, Heap.get?_push_size _ rfl⟩, Heap.get?_push_of_some _ ho⟩ (HZ _) Iv (by simp) (.refl _) (fun A hh => mV hh hb hd hf hg yg (by rw [hl, hb]; rfl) (Nat.ne_of_lt rQ))
end
end L2
namespace L2
open PySem PySem.Spec PyProof.Rows
section
variable {prog : Program} {w : World} {A : Around} {R : Result -> Shared -> Prop} {it y : Addr} {fp wr : List Addr} {G : Array GenState -> Array GenState -> Prop} {n : Nat} {Pv : Nat -> Value -> Prop} {St : Nat -> Shared -> Prop}
theorem dY.congr {h : Heap} {a : Addr} {S S' : Int -> Bool} {n n' : Nat} (x : dY prog w h a S n) (e : ∀ k, S k = S' k) (en : n = n') : dY prog w h a S' n' := by
 have : S = S' := funext e
 subst this; subst en; exact x
theorem vn (W : WalksS prog w A.in1 it fp wr G n Pv St) (hy : y ∉ fp) (f : Nat -> Int) (hf : ∀ i v, Pv i v -> ∃ t, v = .int (f i) t) (hb : n + 1 < scanBound) :
 ∀ (k i : Nat) (s : Shared), n - i = k -> i <= n -> St i s -> dY prog w s.heap y (fun k' => (firstMet f i).any (· == k')) (firstMet f i).length ->
   (∀ s', Moved (y :: wr) G s s' -> dY prog w s'.heap y (fun k' => (firstMet f n).any (· == k')) (firstMet f n).length -> R (.ok (.ret .none)) s') ->
   codeAny (model prog w) A (.builtin "set.update.loop" ⟨[.ref y, .ref it], []⟩) R s := by
 have Hs : y ∉ wr := fun z => hy (W.sub _ z)
 intro k
 induction k with
 | zero =>
   intro i s ek li st hS fin
   obtain rfl : i = n := by omega
   refine codeAny_builtin PyProof.Rows.F.entry_set_update_loop ?_
   rw [Around.under_plainId PyProof.Rows.F.plain_set_update_loop _]
   show wpAny _ A.in1 (pyNext (.ref it) >>= _) _ _ s
   refine wpAny_bind (W.done s _ _ st fun s1 m1 => ?_)
   show wpAny _ A.in1 (ret Value.none) _ _ s1
   exact wpAny_pure (fin s1 (m1.mono fun b z => List.mem_cons_of_mem _ z) (hS.at fun o e => m1.heap y _ Hs e))
 | succ k ih =>
   intro i s ek li st hS fin
   have DC : i < n := by omega
   refine codeAny_builtin PyProof.Rows.F.entry_set_update_loop ?_
   rw [Around.under_plainId PyProof.Rows.F.plain_set_update_loop _]
   show wpAny _ A.in1 (pyNext (.ref it) >>= _) _ _ s
   refine wpAny_bind (W.item i s _ _ DC st fun v s1 hv J2 m1 => ?_)
   obtain ⟨t, rfl⟩ := hf i v hv
   have Lx := hS.at (h' := s1.heap) fun o e => m1.heap y _ Hs e
   show wpAny _ A.in1 (holding [Value.int (f i) t] (setAdd y (.int (f i) t)) >>= _) _ _ s1
   refine wpAny_bind (wpAny_holding ?_)
   unfold setAdd
   refine wpAny_holding (wpAny_bind ((intKind prog w).pyHash (k := f i) (intKind_is _ _ _ _) ?_))
   have hle := firstMet_length_le f i
   refine CV (s := { s1 with toks := s1.toks + 1 }) (intKind_is _ _ _ _) rfl Lx (by omega) fun h2 sb Jx => ?_
   have KW : dY prog w h2 y (fun k' => (firstMet f (i + 1)).any (· == k')) (firstMet f (i + 1)).length := Jx.congr (fun k' => by rw [firstMet_succ, step_any]) (by rw [firstMet_succ, step_length])
   refine wpAny_pure ⟨plainId_quiet PyProof.Rows.F.plain_set_update_loop _, ih (i + 1) _ (by omega) DC (W.frame _ s1 _ _ J2 (Nat.le_succ _) fun b z o e => ?_) KW fun s3 m3 IK => ?_⟩
   . rw [sb.2 b (fun z' : b = y => hy (z' ▸ z))]; exact e
   . refine fin s3 (Moved.trans W.gtrans ((m1.mono fun b z => List.mem_cons_of_mem _ z).then_heap (Nat.le_succ _) fun b o z e => ?_) m3) IK
     rw [sb.2 b (fun z' : b = y => z (z' ▸ List.mem_cons_self))]; exact e
end
section
variable {prog : Program} {w : World} {A : Around} {E : Value -> Shared -> Prop} {s : Shared}
theorem mm (a : Value) {Q : Value -> Shared -> Prop} (h : Q (.ref s.heap.objs.size) { s with heap := s.heap.push { cls := .type "set", dict := none, data := .set #[] 0 (.fresh 0 0 (!w.params.followText "set-order")) } }) :
 codeAny (model prog w) A (.call (.builtin "set.__new__") ⟨[.type "set", a], []⟩) (wants Q E) s := by
 refine codeAny_of_tree ?_
 show wpAny _ A.in1 (do checkBuiltinCall "set.__new__" ⟨[.type "set", a], []⟩; again (.builtin "set.__new__" ⟨[.type "set", a], []⟩)) _ _ s
 refine wpAny_bind (wpAny_of_eq (PySem.F.newCall_set_1 a) (wpAny_pure ⟨plainId_quiet PySem.F.plain_set_new _, codeAny_builtin PySem.F.entry_set_new ?_⟩))
 rw [Around.under_plainId PySem.F.plain_set_new _]
 unfold Builtin.«set.__new__» Builtin.Frozenset.newClass
 have v9 := sub_set_self
 obtain ⟨hp, g, d, tk, os⟩ := s
 dsimp only
 wp_walk
 refine wpAny_askSetting (wpAny_pure ?_)
 dsimp only
 simp only [newObj]
 exact wpAny_bind (wpAny_alloc (wpAny_pure (wpAny_pure h)))
theorem vp {h : Heap} {a : Addr} (e : h.get? a = some { cls := .type "set", dict := none, data := .set #[] 0 (.fresh 0 0 (!w.params.followText "set-order")) }) : dY prog w h a (fun _ => false) 0 :=
 ⟨_, #[], 0, _, e, ⟨rfl, rfl, rfl⟩, rfl, fun e he => by simp at he, fun k => by simp, by decide, by rfl, rfl, ⟨fun i j hi => by simp [SetTable.fresh] at hi, rfl⟩, rfl⟩
set_option maxRecDepth 100000 in
set_option maxHeartbeats 3200000 in
theorem kK {l : Addr} {az : Array Value} {ns : List Int} {Q : Value -> Shared -> Prop} (hh : A.handled = none) (hl : s.heap.IsList l az) (hi : IntsAre az.toList ns) (hb : az.size + 1 < scanBound)
 (fin : ∀ (h1 : Heap) (tk : Nat), dY prog w h1 s.heap.objs.size (fun k' => (firstMet (fun i => ns.getD i 0) az.size).any (· == k')) (firstMet (fun i => ns.getD i 0) az.size).length -> (∀ b o, b < s.heap.objs.size -> s.heap.get? b = some o -> h1.get? b = some o) -> Q (.ref s.heap.objs.size) { s with heap := h1, toks := tk }) :
 wpAny (model prog w) A (call (.type "set") [.ref l]) Q E s := by
 obtain ⟨c, tl, KS⟩ := PySem.F.called_set.mro
 have HE := PySem.F.called_set.made
 have v9 := PySem.F.called_set.sub
 refine wpAny_call (codeAny_of_tree ?_)
 show wpAny _ _ (callAny (.type "set") _) _ _ _
 refine wpAny_pure ⟨Code.quiet_builtin _ (by decide +kernel), codeAny_builtin PySem.F.entry_type_call ?_⟩
 rw [Around.under_plain (weight_type_call_type "set" [.ref l] []) rfl]
 have n1 := PySem.F.called_set.notType
 have n2 := PySem.F.called_set.canCreate
 have n3 := PySem.F.typeCall_set_1 (.ref l)
 repeat (any_goals (first | assumption | wp_step))
 let ob : Obj := { cls := .type "set", dict := none, data := .set #[] 0 (.fresh 0 0 (!w.params.followText "set-order")) }
 refine codeAny_mono (mm (.ref l) (E := E) (Q := fun u s1 => u = .ref s.heap.objs.size /\ s1 = { s with heap := s.heap.push ob }) ⟨rfl, rfl⟩) fun r s1 hr => ?_
 cases r with
 | error e => exact hr
 | ok fl =>
   cases fl with
   | ret u =>
     obtain ⟨rfl, rfl⟩ := hr
     have h0 : (s.heap.push ob).get? s.heap.objs.size = some ob := Heap.get?_push_size _ rfl
     have hT : Shared.TypeIs { s with heap := s.heap.push ob } (.ref s.heap.objs.size) "set" := ⟨_, h0, rfl⟩
     have g1 := PySem.F.called_set.init.lookup
     have g2 := PySem.F.called_set.init.bind (.ref s.heap.objs.size)
     repeat (any_goals (first | assumption | wp_step))
     refine codeAny_mono (codeAny_call_builtin (R := wants (fun r s2 => r = .none /\ ∃ h1 tk, s2 = { s with heap := h1, toks := tk } /\ dY prog w h1 s.heap.objs.size (fun k' => (firstMet (fun i => ns.getD i 0) az.size).any (· == k')) (firstMet (fun i => ns.getD i 0) az.size).length /\
      (∀ b o, b < s.heap.objs.size -> s.heap.get? b = some o -> h1.get? b = some o)) E) PySem.F.called_set.init.plain PySem.F.entry_set_init (check_set_init_1 hT ?_)) fun r2 s2 GU => ?_
     . obtain ⟨ol, HK, q9, nl, Hi⟩ := hl
       obtain ⟨KR, BP, G5, zO⟩ := ol
       simp only at q9 Hi
       subst q9; subst Hi
       have k1 : (s.heap.push ob).get? l = some { cls := .type "list", dict := BP, data := .seq az nl, slots := zO } := Heap.get?_push_of_some _ HK
       have k2 := PySem.F.sub_list_set
       have k3 := PySem.F.sub_list_frozenset
       have k4 : (Value.type "list" == Value.type "dict") = false := by decide
       have EV : (s.heap.push ob).IsList l az := ⟨_, k1, rfl, nl, rfl⟩
       unfold Builtin.«set.__init__» noKeywords Builtin.Frozenset.updateFrom
       generalize JC : pyIter = PI
       wp_walk
       subst JC
       refine wpAny_pyIter_list EV (wpAny_bind (wpAny_runValue ?_))
       have ll : l < s.heap.objs.size := Heap.lt_size HK
       have sz : (s.heap.push ob).objs.size = s.heap.objs.size + 1 := Heap.size_push ..
       have Kx : A.in1.in1.in1.handled = none := by simp [hh]
       have c1 : l ≠ (s.heap.push ob).objs.size := by rw [sz]; exact Nat.ne_of_lt (Nat.lt_succ_of_lt ll)
       have c2 : s.heap.objs.size ∉ [(s.heap.push ob).objs.size, l] := by
        rw [sz]
        intro z
        simp only [List.mem_cons, List.not_mem_nil, or_false] at z
        rcases z with z | z
        . exact absurd z (Nat.ne_of_lt (Nat.lt_succ_self _))
        . exact absurd z.symm (Nat.ne_of_lt ll)
       have c3 : ∀ (i : Nat) (v : Value), az[i]? = some v -> ∃ t, v = .int ((fun i => ns.getD i 0) i) t := fun i v hv => IntsAre.int_at hi i v (by simpa using hv)
       refine vn ((Walks.list Kx _ l c1 az).toS) c2 (fun i => ns.getD i 0) c3 hb (az.size - 0) 0 _ (by omega) (Nat.zero_le _) ⟨⟨_, Heap.get?_push_size _ rfl, rfl, rfl⟩, (EV.push _)⟩ ?_ ?_
       . have kg : ((s.heap.push ob).push { cls := .type "list_iterator", data := .fields #[.ref l, .int 0 0] }).get? s.heap.objs.size = some ob := Heap.get?_push_of_some _ h0
         exact (vp kg).congr (fun _ => rfl) rfl
       . intro s3 hm hS
         obtain ⟨h3, g3, d3, Jd, J6⟩ := s3
         have eg : g3 = s.gens := hm.gens
         have ed : d3 = s.drawn := hm.drawn
         have eo : J6 = s.os := hm.os
         subst eg; subst ed; subst eo
         show wpAny _ _ _ _ _ _
         refine wpAny_pure ?_
         show wpAny _ _ (ret Value.none) _ _ _
         refine wpAny_pure ⟨rfl, h3, Jd, rfl, hS, fun b o lb e => ?_⟩
         refine hm.heap b o ?_ (Heap.get?_push_of_some _ (Heap.get?_push_of_some _ e))
         intro z
         simp only [List.mem_cons, List.not_mem_nil, or_false] at z
         rw [sz] at z
         rcases z with z | z
         . exact absurd z (Nat.ne_of_lt lb)
         . exact absurd z (Nat.ne_of_lt (Nat.lt_succ_of_lt lb))
     . cases r2 with
       | error e => exact GU
       | ok f2 =>
         cases f2 with
         | ret r =>
           obtain ⟨rfl, h1, tk, rfl, hS, hk⟩ := GU
           repeat (any_goals (first | assumption | wp_step))
           exact fin _ _ hS hk
         | _ => exact GU.elim
   | _ => exact hr.elim
end
section
variable {prog : Program} {w : World} {A : Around} {E : Value -> Shared -> Prop} {s : Shared} {a : Addr} {S : Int -> Bool} {n : Nat}
theorem qR {ord : List Value} {acc : Array Value} {n : Nat} (hl : ord.length = n) (h : ItemsOf (fun i v => ord[i]? = some v) acc n) : acc.toList = ord := by
 obtain ⟨h0, h1⟩ := h
 refine List.ext_getElem? fun i => ?_
 rw [Array.getElem?_toList]
 by_cases hi : i < acc.size
 . rw [Array.getElem?_eq_getElem hi]
   exact (h1 i _ (Array.getElem?_eq_getElem hi)).symm
 . rw [Array.getElem?_eq_none (by omega), List.getElem?_eq_none (by omega)]
theorem nr {Q : List Value -> Shared -> Prop} (hh : A.handled = none) (hS : dY prog w s.heap a S n)
 (h : ∀ (h' : Heap) (d : Drawn) (tk : Nat) (vs : List Value), (∀ b u, s.heap.get? b = some u -> h'.get? b = some u) -> (∃ es ep t o, s.heap.get? a = some o /\ o.data = .set es ep t /\ vs.Perm (es.toList.map (·.2))) -> vs.length = n -> s.heap.objs.size < h'.objs.size -> Q vs { s with heap := h', drawn := d, toks := tk }) : wpAny (model prog w) A (collect (.ref a)) Q E s := by
 obtain ⟨o, es, ep, t, ho, hx, hd, h1, h2, h3, h4, h5, h6, h7⟩ := hS
 have rQ : a < s.heap.objs.size := Heap.lt_size ho
 unfold collect
 refine wpAny_bind (wpAny_runValue (codeAny_builtin entry_proto_collect' ?_))
 show wpAny _ _ (do again (.builtin "list.__iadd__" ⟨[<- newList [], .ref a], []⟩)) _ _ s
 refine wpAny_bind (wpAny_newList (wpAny_pure ⟨Code.quiet_builtin _ (by decide +kernel), codeAny_builtin entry_list_iadd' ?_⟩))
 show wpAny _ _ (Builtin.List.listExtendWith (.ref s.heap.objs.size) (.ref a) (.ref s.heap.objs.size)) _ _ { s with heap := s.heap.push (seqObj "list" #[] 0) }
 unfold Builtin.List.listExtendWith
 have F8 : (s.heap.push (seqObj "list" #[] 0)).get? a = some o := Heap.get?_push_of_some _ ho
 have IX : (s.heap.push (seqObj "list" #[] 0)).get? s.heap.objs.size = some (seqObj "list" #[] 0) := Heap.get?_push_size _ rfl
 refine wpAny_bind (wpAny_typeOf (T := "set") ⟨o, F8, hx.1⟩ ?_)
 have a1 : Builtin.List.listSameRef (.ref s.heap.objs.size) (.ref a) = false := by simp [Builtin.List.listSameRef, Ne.symm (Nat.ne_of_lt rQ)]
 have a2 : (Value.type "set" == Value.type "list") = false := by decide
 have a3 : (Value.type "set" == Value.type "tuple") = false := by decide
 simp only [a1, a2, a3, Bool.or_self, Bool.false_eq_true, if_false]
 refine wpAny_bind (uv (s := { s with heap := s.heap.push (seqObj "list" #[] 0) }) F8 hx hd h4 h6 h7 h3 fun it fp St ord rN d kp lit st fl fn EA wA W => ?_)
 refine wpAny_bind (wpAny_holding ?_)
 have FV : Shared.TypeIs { s with heap := rN, drawn := d } (.ref a) "set" := ⟨o, kp a o F8, hx.1⟩
 unfold Builtin.List.listLengthHint
 refine wpAny_bind (wpAny_specialOf FV F.slot_set_len.lookup ?_)
 generalize G6 : ("set.__len__" : String) = JV
 wp_delta
 rw [show splitId JV = some ("set", "__len__") from by subst G6; decide +kernel]
 subst G6
 refine wpAny_bind (wpAny_isInstance (T := "set") (b := true) FV (by rw [isSubtype_type]; kernel_rfl) ?_)
 refine wpAny_ite_split (fun AF => absurd AF (by decide)) (fun _ => ?_)
 refine wpAny_ite_split (fun _ => ?_) (fun AF => absurd (by decide +kernel) AF)
 refine wpAny_bind (wpAny_typeOf FV (wpAny_pure ?_))
 show wpAny _ _ (rule "list.extend.makes-room" >>= fun _ => Builtin.List.listTouch (.ref s.heap.objs.size) >>= fun _ =>
  again (.builtin "list.extend.loop" ⟨[.ref s.heap.objs.size, .ref it, .ref s.heap.objs.size], []⟩)) _ _ _
 refine wpAny_bind (wpAny_rule (wpAny_bind ?_))
 have Ek := kp _ _ IX
 show wpAny _ _ (updateSeq s.heap.objs.size (·.push .none) >>= fun _ => updateSeq s.heap.objs.size (·.pop)) _ _ _
 refine wpAny_bind (wpAny_updateSeq Ek rfl ?_)
 have HM := Heap.get?_update_self (Obj.mapSeq (·.push Value.none)) Ek rfl
 refine wpAny_updateSeq (hz := by seq_fits) HM rfl ?_
 have K6 := Heap.get?_update_self (Obj.mapSeq (·.pop)) HM rfl
 have ot : ∀ b u, b ≠ s.heap.objs.size -> rN.get? b = some u -> ((rN.update s.heap.objs.size (Obj.mapSeq (·.push Value.none))).update s.heap.objs.size (Obj.mapSeq (·.pop))).get? b = some u :=
  fun b u hb e => (Heap.get?_update_other _ _ (Ne.symm hb)).trans ((Heap.get?_update_other _ _ (Ne.symm hb)).trans e)
 have yG : ord.length = es.size := by rw [wA.length_eq, List.length_map, Array.length_toList]
 have W1 := W A.in1 hh
 have Ex : s.heap.objs.size ∉ fp := fun z => by
  rcases fn _ z with e | e
  . exact absurd e.symm (Nat.ne_of_lt rQ)
  . have : s.heap.objs.size + 1 <= s.heap.objs.size := by rw [<- size_push' s.heap (seqObj "list" #[] 0)]; exact e
    exact absurd this (Nat.not_succ_le_self _)
 have LC : s.heap.objs.size ≠ it := fun z => Ex (z ▸ EA)
 refine wpAny_pure ⟨plainId_quiet F.plain_extend_loop _, codeAny_extend_loopS W1.toS (fits_of_scanBound h3) _ Ex _ es.size 0 _ _ _ rfl (Nat.zero_le _) (W1.frame 0 _ _ st fun b hb u e => ot b u (fun z => Ex (z ▸ hb)) e) K6 (ItemsOf.nil _) fun s' acc c hm hs gR => ?_⟩
 show wpAny _ _ (load s.heap.objs.size >>= _) _ _ s'
 refine wpAny_bind (wpAny_load hs (wpAny_pure ?_))
 have ea := qR yG gR
 obtain ⟨h9, g9, d9, K1, IJ⟩ := s'
 have eg : g9 = s.gens := hm.gens
 have ed : d9 = d := hm.drawn
 have eo : IJ = s.os := hm.os
 subst eg; subst ed; subst eo
 rw [ea]
 refine h h9 d9 K1 ord (fun b u e => ?_) ⟨es, ep, t, o, ho, hd, wA⟩ (yG.trans h5) (Heap.lt_size hs)
 have hb : b ≠ s.heap.objs.size := Nat.ne_of_lt (Heap.lt_size e)
 have Fu : s.heap.objs.size + 1 <= it := by rw [<- size_push' s.heap (seqObj "list" #[] 0)]; exact lit
 have Li : b ≠ it := Nat.ne_of_lt (Nat.lt_of_lt_of_le (Nat.lt_succ_of_lt (Heap.lt_size e)) Fu)
 exact hm.heap b u (by simp [hb, Li]) (ot b u hb (kp b u (Heap.get?_push_of_some _ e)))
theorem tZ {h : Heap} (hS : dY prog w h a S n) {es : Array (Int × Value)} {ep : Nat} {t : SetTable} {o : Obj} {vs : List Value} (ho : h.get? a = some o) (hd : o.data = .set es ep t) (hp : vs.Perm (es.toList.map (·.2))) :
 ∃ ms, IntsAre vs ms /\ ∀ k, S k = true ↔ k ∈ ms := by
 obtain ⟨o2, Mm, LN, t2, HS, hx, hd2, h1, h2, _⟩ := hS
 rw [ho] at HS
 cases HS
 rw [hd] at hd2
 cases hd2
 have key : ∀ l : List Value, (∀ v ∈ l, ∃ k t, v = Value.int k t) -> ∃ ms, IntsAre l ms /\ ∀ k, k ∈ ms ↔ ∃ v ∈ l, (intKind prog w).is k v = true := by
  intro l
  induction l with
  | nil => intro _; exact ⟨[], .nil, fun k => by simp⟩
  | cons v r ih =>
    intro hv
    obtain ⟨ms, hI, hm⟩ := ih fun u hu => hv u (List.mem_cons_of_mem _ hu)
    obtain ⟨k, tk, rfl⟩ := hv v List.mem_cons_self
    refine ⟨k :: ms, .cons k tk hI, fun j => ?_⟩
    rw [List.mem_cons, hm j]
    constructor
    . rintro (rfl | ⟨u, hu, e⟩)
      . exact ⟨_, List.mem_cons_self, intKind_is _ _ _ _⟩
      . exact ⟨u, List.mem_cons_of_mem _ hu, e⟩
    . rintro ⟨u, hu, e⟩
      rcases List.mem_cons.mp hu with rfl | hu
      . exact .inl ((intKind prog w).inj _ j k e (intKind_is _ _ _ _))
      . exact .inr ⟨u, hu, e⟩
 have hv : ∀ v ∈ vs, ∃ k t, v = Value.int k t := by
  intro v hv
  obtain ⟨e, he, rfl⟩ := List.mem_map.mp (hp.mem_iff.mp hv)
  obtain ⟨⟨k, hk, _⟩, _⟩ := h1 e he
  exact ⟨k, Value.isInt_shape hk⟩
 obtain ⟨ms, hI, hm⟩ := key vs hv
 refine ⟨ms, hI, fun k => ?_⟩
 rw [h2 k, hm k]
 constructor
 . rintro ⟨e, he, q⟩
   exact ⟨e.2, hp.mem_iff.mpr (List.mem_map.mpr ⟨e, he, rfl⟩), q⟩
 . rintro ⟨v, hv, q⟩
   obtain ⟨e, he, rfl⟩ := List.mem_map.mp (hp.mem_iff.mp hv)
   exact ⟨e, he, q⟩
theorem n9 {Q : Value -> Shared -> Prop} (hh : A.handled = none) (hS : dY prog w s.heap a S n) (xD : n < 64)
 (h : ∀ (q : Addr) (h' : Heap) (d : Drawn) (tk e : Nat) (us : List Value) (ns : List Int), s.heap.objs.size <= q -> (∀ b u, s.heap.get? b = some u -> h'.get? b = some u) -> h'.get? q = some { cls := .type "list", data := .seq us.toArray e } -> IntsAre us ns -> ns.length = n -> ns.Pairwise (· <= ·) -> (∀ k, S k = true ↔ k ∈ ns) -> Q (.ref q) { s with heap := h', drawn := d, toks := tk }) :
 wpAny (model prog w) A (call (.builtin "sorted") [.ref a]) Q E s := by
 refine Calls.call_function_entry kind_sorted plain_sorted entry_sorted (args_sorted1 _) ?_
 unfold Builtin.«sorted»
 refine wpAny_bind (m := checkCount "sorted" 1 1 _) (wpAny_pure ?_)
 refine wpAny_bind (nr (A := A.in1) hh hS fun h1 d tk vs kp ⟨es, ep, t, o, ho, hd, hp⟩ hn cq => ?_)
 obtain ⟨ms, hI, hm⟩ := tZ hS ho hd hp
 refine wpAny_bind (wpAny_newList ?_ (hsz := by rw [hn, sizeLine_eq]; omega))
 have u3 : (h1.push (seqObj "list" vs.toArray 0)).get? h1.objs.size = some (seqObj "list" vs.toArray 0) := Heap.get?_push_size _ rfl
 refine wpAny_bind (wpAny_holding (wpAny_call_entry slot_list_sort ⟨_, u3, rfl⟩ entry_list_sort (list_sort_tree u3 hI (by rw [hn]; exact xD) fun out J5 a1 a2 a3 => ⟨_, rfl, ?_⟩) (args_list_sort _)))
 obtain ⟨e, he⟩ := sortedHeap_at (out := out) u3
 have hle : ∀ b u, s.heap.get? b = some u -> b < h1.objs.size := fun b u q => Heap.lt_size (kp b u q)
 refine wpAny_pure ⟨_, rfl, h h1.objs.size _ d tk e out.toList J5 ?_ (fun b u q => ?_) (by simpa [seqObj] using he) a1 ?_ a3 fun k => ?_⟩
 . exact Nat.le_of_lt cq
 . rw [sortedHeap_old (Nat.ne_of_lt (hle b u q)) (by rw [size_push']; exact Nat.lt_succ_of_lt (hle b u q))]
   exact Heap.get?_push_of_some _ (kp b u q)
 . rw [a2.length_eq, <- IntsAre.length hI, hn]
 . rw [hm k, a2.mem_iff]
end
end L2
namespace L2
open PySem PySem.Spec PyProof.Rows PySem.W
theorem j4 {α : Type} [BEq α] [LawfulBEq α] : ∀ {xs ys : List α}, xs.Nodup -> (∀ x ∈ xs, x ∈ ys) -> xs.length = ys.length -> ys.Perm xs
 | [], ys, _, _, hl => by
   have : ys = [] := List.length_eq_zero_iff.mp hl.symm
   subst this; exact .nil
 | x :: xs, ys, hn, hs, hl => by
   have hx : x ∈ ys := hs x List.mem_cons_self
   have p1 : ys.Perm (x :: ys.erase x) := List.perm_cons_erase hx
   have Bi := List.nodup_cons.mp hn
   have qf : xs.length = (ys.erase x).length := by have := p1.length_eq; simp at hl this; omega
   refine p1.trans (List.Perm.cons x (j4 Bi.2 (fun y hy => ?_) qf))
   have nN : y ≠ x := fun e => Bi.1 (e ▸ hy)
   exact (List.mem_erase_of_ne nN).mpr (hs y (List.mem_cons_of_mem _ hy))
theorem wV {σ : List Int} {v : Int} (h : σ.Nodup) : (step_dedup σ v).Nodup := by
 unfold step_dedup
 split
 . exact h
 . rename_i c
   rw [List.nodup_append]
   refine ⟨h, by simp, fun a ha b hb => ?_⟩
   have : b = v := by simpa using hb
   subst this
   intro e
   subst e
   exact c (by rw [List.any_eq_true]; exact ⟨a, ha, by simp⟩)
theorem fC (f : Nat -> Int) : ∀ i, (firstMet f i).Nodup
 | 0 => by rw [firstMet_zero]; exact List.nodup_nil
 | i + 1 => by rw [firstMet_succ]; exact wV (fC f i)
theorem map_getD (ns : List Int) : (List.range ns.length).map (fun i => ns.getD i 0) = ns := by
 refine List.ext_getElem (by simp) fun i h1 h2 => ?_
 simp [h2]
theorem qH {ms : List Int} (h : ms.Pairwise (· <= ·)) (n : ms.Nodup) : ms.Pairwise (· < ·) := by
 rw [List.nodup_iff_pairwise_ne] at n
 exact (h.and n).imp fun ⟨a, b⟩ => by omega
theorem Inv.drew {X : Cx} {pins : List (Addr × Obj)} {σ : St} {H : Hp} {s : Shared} (I : Inv X pins σ H s) (d : Drawn) : Inv X pins σ H { s with drawn := d } :=
 I.call (g' := s.gens) (t' := s.toks) (d' := d) (ch := []) (h' := s.heap) Un.refl I.aQ I.bare (fun _ z => nomatch z)
section
variable {X : Cx} {e : Expr} {te : TE} {p p2 pos qz : Pos}
def jG : V -> Hp -> VK -> Prop := fun x H Q => ∃ ns : List Int, Dv H x (.list (ns.map PyData.int)) /\ ns.length < 64 /\ ∀ (q : Addr) (H' : Hp) (ms : List Int), ag H H' -> H q = none -> ms.Pairwise (· < ·) -> (∀ k, k ∈ ms ↔ k ∈ ns) -> bI H' q (ms.map PyData.int) -> Q (.ref q) H'
def nk (te : TE) : TE := fun σ H Q => te σ H fun x H1 => jG x H1 Q
theorem fK {H : Hp} : ∀ (ns : List Int), aX H (ns.map V.int) (ns.map PyData.int)
 | [] => .nil
 | x :: r => .cons (.int x) (fK r)
theorem jS (he : PE X e te) (hc : X.calm = true) (hg : Gl X "sorted") (hm : X.mg "sorted" = none) (FO : Gl X "set") (Kh : X.mg "set" = none)
 (h1 : starEach [e] X.env = (false, eval e X.env) :: starEach [] X.env := by rfl)
 (h2 : starEach [.Call (.Name "set" p2) [e] [] qz] X.env = (false, eval (.Call (.Name "set" p2) [e] [] qz) X.env) :: starEach [] X.env := by rfl) :
 PE X (.Call (.Name "sorted" p) [.Call (.Name "set" p2) [e] [] qz] [] pos) (nk te) := by
 intro pins s σ H Q I h
 refine wpAny_Call_Name_kw (eV I hg hm (by rfl) ?_ (by decide) (by decide))
 refine PyProof.Rows.callWith_builtin1 ?_ h2 rfl
 rw [h2]
 show wpAny _ _ (spliced ((false, eval (.Call (.Name "set" p2) [e] [] qz) X.env) :: backTo pos (starEach [] X.env))) _ _ s
 refine Calls.spliced_cons (wpAny_Call_Name_kw (eV I FO Kh (by rfl) ?_ (by decide) (by decide)))
 refine PyProof.Rows.callWith_type1 ?_ h1 rfl
 rw [h1]
 show wpAny _ _ (spliced ((false, eval e X.env) :: backTo qz (starEach [] X.env))) _ _ s
 refine Calls.spliced_cons (bF (he pins s σ H _ I h) fun u s1 ⟨x, H1, I1, r1, q1⟩ => ?_)
 refine Calls.spliced_nil ?_
 obtain ⟨ns, hd, hl, q⟩ := q1
 obtain ⟨a, ys, rfl, e, dv⟩ := hd.lst_inv
 obtain ⟨az, xA, pl, _⟩ := I1.list (e X.K)
 cases r1
 have hS := jy dv xA
 have hlen : az.length = ns.length := by rw [<- xA.length, dv.length, List.length_map]
 refine kK (I1.ok.hd hc) pl.isList (by simpa using hS) (by rw [List.size_toArray, hlen]; unfold scanBound; omega) fun h3 tk BZ hk => ?_
 refine Calls.spliced_nil ?_
 have KN : ∀ b u, s1.heap.get? b = some u -> h3.get? b = some u := fun b ob q => hk b ob (Heap.lt_size q) q
 have hle := firstMet_length_le (fun i => ns.getD i 0) az.toArray.size
 refine n9 (I1.ok.hd hc) BZ (by rw [List.size_toArray, hlen] at hle; rw [List.size_toArray, hlen]; omega) fun qa h4 d IA ep us ms hq kp GK hI Ce El kI => ?_
 have kA : s1.heap.objs.size <= qa := by
  rcases Nat.lt_or_ge qa s1.heap.objs.size with z | z
  . have : s1.heap.objs.size < h3.objs.size := by
     obtain ⟨o, _, _, _, ho, _⟩ := BZ
     exact Heap.lt_size ho
    exact absurd (Nat.lt_of_lt_of_le this hq) (Nat.not_lt.mpr (Nat.le_of_lt z))
  . exact z
 have GF : H1 qa = none := I1.aQ.fresh kA
 have hm : ∀ k, k ∈ ms ↔ k ∈ ns := fun k => by
  have z := kI k
  rw [firstMet_any, List.size_toArray, hlen, map_getD, List.any_eq_true] at z
  rw [<- z]
  exact ⟨fun ⟨y, hy, e⟩ => by rw [<- beq_iff_eq.mp e]; exact hy, fun hk => ⟨k, hk, by simp⟩⟩
 have Bh : ms.Nodup := by
  refine (j4 (fC _ _) (fun k hk => ?_) Ce.symm).symm.nodup (fC _ _)
  exact (kI k).mp (by rw [List.any_eq_true]; exact ⟨k, hk, by simp⟩)
 have I2 : Inv X pins σ (upd H1 qa (.lst (ms.map V.int))) { s1 with heap := h4, toks := IA } := I1.laid (t' := IA) (fun b u e => kp b u (KN b u e)) kA ⟨by
  rw [List.length_map]
  have := firstMet_length_le (fun i => ns.getD i 0) az.toArray.size
  rw [Ce, sizeLine_eq]
  rw [List.size_toArray, hlen] at this
  rw [List.size_toArray, hlen]
  omega, us, ep, iO hI, GK⟩
 exact ⟨.ref qa, _, I2.drew d, rfl, q qa _ ms (aL GF) GF (qH El Bh) hm (iq GF (fK ms) (b6 (fun _ => rfl) _))⟩
end
section
variable {σ : St} {H : Hp} {Q : VK} {v : V}
theorem jN {te : TE} (h : te σ H fun x H1 => jG x H1 Q) : nk te σ H Q := h
theorem kW {ns : List Int} (hp : Dv H v (.list (ns.map PyData.int))) (hl : ns.length < 64) (h : ∀ (q : Addr) (H' : Hp) (ms : List Int), ag H H' -> H q = none -> ms.Pairwise (· < ·) -> (∀ k, k ∈ ms ↔ k ∈ ns) -> bI H' q (ms.map PyData.int) -> Q (.ref q) H') : jG v H Q := ⟨ns, hp, hl, h⟩
end
section
variable {X : Cx}
end
section
variable {σ : St} {H : Hp} {Q : VK} {K : PySem.W.Frag} {p : Addr} {m : List (Str × PyData)}
theorem ft.HF : ∀ {ax : List (Key × V)} {m : List (Str × PyData)}, ft H ax m -> vb H ax (m.map fun x => (.str x.1, x.2))
 | _, _, .nil => .nil
 | _, _, .cons h _ r => .cons h (ft.HF r)
theorem iG.dv (h : iG H p m) : Dv H (.ref p) (.dict (m.map fun x => (.str x.1, x.2))) := let ⟨_, e, d⟩ := h; .dct e d.HF
end
def Tr (h : Heap) (a T : Addr) (c : Value) : Prop := ∃ oe vs oT ts, h.get? a = some oe /\ oe.cls = c /\ oe.dict = none /\ oe.data = .fields vs /\ vs[1]? = some (.ref T) /\ T ≠ a /\ h.get? T = some oT /\ oT.data = .fields ts /\ ts[3]? = some .none /\ vs[2]? = some .none
structure Lv (l : List Env) (S : List Addr) (h h' : Heap) : Prop where
 keep : ∀ b o, b ∉ nq l -> b ∉ S -> h.get? b = some o -> h'.get? b = some o
 slot : ∀ b o, b ∈ nq l -> h.get? b = some o -> ∃ sl, h'.get? b = some { o with slots := sl }
section
variable {M : Model} {A : Around} {E : Value -> Shared -> Prop} {s : Shared} {env : Env} {outer : List Env} {L a T : Addr} {c : Value} {base : Heap} {Q : Unit -> Shared -> Prop}
end
def Ki (P : Program) (w : World) : mH := fun outer H s E e s' => ∃ a T C H', e = .ref a /\ s'.os = s.os /\ AllBare s'.gens /\ Un (nq outer) [] H H' s.heap s'.heap /\ gN P w H' s'.heap /\ Tr s'.heap a T (.ref C) /\ s.heap.get? a = none /\ s.heap.get? T = none /\ H' a = none /\ H' T = none /\ E (.ref C) none H'
section
variable {P : Program} {w : World} {K : PySem.W.Frag} {mg : Str -> Option Value} {base : Heap} {N : List Str} {qual : Str} {scope : Scope} {f : Addr} {cd : Value} {A : Around} {outer : List Env} {s0 : Shared} {H0 : Hp} {E : XK} {CX : mH} {pins : List (Addr × Obj)} {σ : St} {H : Hp} {s : Shared}
end
section
variable {K : PySem.W.Frag} {h : Heap} {C : Addr} {Bm : List Value} {newId : String}
def zf (h : Heap) (C : Addr) (Bm : List Value) (newId : String) : Prop := ∃ (bm : List Value) (N : Addr) (nm q : Str) (bs : List Value) (hd : Bool) (sn : List Str) (sub : List Value) (ab : Bool) (col : Option Bool) (dd : Option Addr) (k0 k1 k2 k3 k5 : Option Value) (mN : Str -> Option Value),
 h.get? C = some (excClassObj nm q C N bs bm hd sn sub ab col dd k0 k1 k2 k3 k5 newId) /\ h.Ns N mN /\ mN "__init__" = none /\ OwnTail h Bm bm
theorem Aa (X : K.In h) (q : excIn K C Bm newId = true) : zf h C Bm newId := by
 unfold excIn at q
 split at q
 . rename_i dd cd sl ho
   split at q
   . rename_i C' bm k0 k1 k2 k3 n k5 hm hs
     simp only [Bool.and_eq_true, beq_iff_eq, Bool.not_eq_true'] at q
     obtain ⟨⟨⟨⟨⟨rfl, rfl⟩, Cg⟩, ht⟩, aQ⟩, HX⟩ := q
     obtain ⟨nm, bs, mro, ns, qn, hd, sn, sub, ab, col, del⟩ := cd
     dsimp only at hm Cg aQ HX
     subst hm Cg
     obtain ⟨l⟩ := sl
     dsimp only at hs
     subst hs
     exact ⟨bm, ns, nm, qn, bs, hd, sn, sub, ab, col, dd, k0, k1, k2, k3, k5, _, X _ _ ho, .of_isNs (isNs_of_in X aQ), nsMap_none_of_in X aQ HX, tail_of_in X ht⟩
   . cases q
 . cases q
end
abbrev Ft : List Value := [.type "ValueError", .type "Exception", .type "BaseException", .type "object"]
def AA (K : PySem.W.Frag) (C : Addr) : Prop := excIn K C Ft "ValueError.__new__" = true
section
variable {X : Cx} {pins : List (Addr × Obj)} {σ : St} {H : Hp} {s : Shared}
abbrev Cx.hand (X : Cx) (a : Addr) : Cx := { X with A := X.A.mark (some (.ref a)), calm := false, xe := fun _ _ => False }
end
section
variable {M : Model} {A : Around} {E : Value -> Shared -> Prop}
end
structure Lh (K : PySem.W.Frag) (C : Addr) : Prop where
 ga : PySem.W.findIn K (.ref C) "__getattribute__" = some (some (.builtin "BaseException.__getattribute__"))
 gn : PySem.W.findIn K (.ref C) "__getattr__" = some none
 mb : PySem.W.mroIn K C (.type "BaseException") = some true
 hd : PySem.W.hasDictIn K C = true
 ty : Di K C
section
variable {X : Cx}
end
section
variable {P : Program} {w : World} {K : PySem.W.Frag} {mg : Str -> Option Value} {base : Heap}
structure Jr (P : Program) (w : World) (K : PySem.W.Frag) (mg : Str -> Option Value) (base : Heap) (k : Nat) (f : Addr) (ps : List Str) (gO : List V) (sp : Sp) : Prop where
 ex : ∃ (fd : FuncData) (ds : List Value), bJ P w K mg base (Ki P w) k f fd ps sp /\ Binds K fd ps ds /\ Vals gO ds
end
section
variable {X : Cx} {k : Nat} {f : Addr} {ps : List Str} {sp : Sp} {gO : List V} {E : XK} {x : Str} {p pos : Pos} {e : Expr} {es : List Expr} {t : TA}
end
section
variable {σ : St} {H : Hp} {Q : VK} {D : Ends} {K : PySem.W.Frag} {E : XK} {C : Addr} {ta : TA}
end
def bW (z : Str) (lo hi : Option Int) : Str := ⟨((Builtin.Str.strSliceIndices lo hi 1 z.length).filterMap (z.cps[·]?)).toArray⟩
def DU : V -> Option Int -> Option Int -> Hp -> VK -> Prop := fun x lo hi H Q => ∃ z : Str, x = .str z /\ z.length <= 4000 /\ Q (.str (bW z lo hi)) H
theorem wY {lo hi : Option Int} {n : Nat} (h : (Builtin.Str.strSliceIndices lo hi 1 n).length = n) : Builtin.Str.strSliceIndices lo hi 1 n = List.range n := by
 have key : ∀ a b : Int, 0 <= a -> b <= n -> (sliceRange a b 1).length = n -> sliceRange a b 1 = List.range n := by
  intro a b ha hb hl
  unfold sliceRange at hl ⊢
  simp only [List.length_map, List.length_range, Int.ediv_one, show (1 : Int) > 0 by decide, if_true] at hl ⊢
  rw [hl]
  by_cases hn : n = 0
  . subst hn; rfl
  . have : a = 0 := by
     split at hl <;> omega
    subst this
    rw [show (fun k : Nat => ((0 : Int) + 1 * (k : Int)).toNat) = id from funext fun k => by simp, List.map_id]
 unfold Builtin.Str.strSliceIndices at h ⊢
 simp only [show (1 : Int) > 0 by decide, if_true] at h ⊢
 refine key _ _ ?_ ?_ h
 . cases lo <;> simp only [] <;> omega
 . cases hi <;> simp only [] <;> omega
theorem jQ : ∀ (l : List Nat), (List.range l.length).filterMap (fun i => l[i]?) = l
 | [] => rfl
 | c :: r => by
   rw [List.length_cons, List.range_succ_eq_map, List.filterMap_cons]
   simp only [List.getElem?_cons_zero, List.filterMap_map]
   have : ((fun i => (c :: r)[i]?) ∘ Nat.succ) = fun i => r[i]? := funext fun i => by simp
   rw [this, jQ r]
theorem rn {z : Str} {lo hi : Option Int} (h : (Builtin.Str.strSliceIndices lo hi 1 z.length).length = z.length) : bW z lo hi = z := by
 unfold bW
 rw [wY h]
 obtain ⟨⟨l⟩⟩ := z
 show (⟨((List.range l.length).filterMap fun i => (⟨l⟩ : Array Nat)[i]?).toArray⟩ : Str) = _
 have : (fun i => (⟨l⟩ : Array Nat)[i]?) = fun i => l[i]? := funext fun i => (Array.getElem?_toList (xs := ⟨l⟩)).symm
 rw [this, jQ l]
section
variable {X : Cx}
theorem fW : Es X DU := by
 intro pins s σ H x v vl vu lo hi sl Q I rx hs pl pu h
 obtain ⟨z, rfl, hz, q⟩ := h
 obtain ⟨t, rfl⟩ := rx
 obtain ⟨l, rfl, e1⟩ : ∃ l : Option (Int × Tok), vl = partValue l /\ l.map (·.1) = lo := by
  cases pl with
  | none => exact ⟨none, rfl, rfl⟩
  | int i t => exact ⟨some (i, t), rfl, rfl⟩
 obtain ⟨u, rfl, e2⟩ : ∃ u : Option (Int × Tok), vu = partValue u /\ u.map (·.1) = hi := by
  cases pu with
  | none => exact ⟨none, rfl, rfl⟩
  | int i t => exact ⟨some (i, t), rfl, rfl⟩
 refine ⟨"str", _, F.slot_str_getitem.lookup, typeIs_str _ _ _, ?_⟩
 refine wpAny_getItem_str_slice (l := l) (u := u) (st := none) hs rfl ?_
 have ep : slicePicked z l u none = Builtin.Str.strSliceIndices lo hi 1 z.length := by unfold slicePicked; rw [e1, e2]; rfl
 unfold sliceMade
 rw [ep]
 split
 . rename_i c
   rw [Bool.and_eq_true] at c
   have := rn (z := z) (lo := lo) (hi := hi) (by simpa using c.2)
   rw [this] at q
   exact ⟨.str z, H, I, ⟨t, rfl⟩, q⟩
 . have hn : (List.filterMap (fun i => z.cps[i]?) (Builtin.Str.strSliceIndices lo hi 1 z.length)).length <= z.length := by
    refine Nat.le_trans (List.length_filterMap_le _ _) ?_
    exact p5 _ _ _
   have hl : (Str.mk (List.filterMap (fun i => z.cps[i]?) (Builtin.Str.strSliceIndices lo hi 1 z.length)).toArray).length <= z.length := by
    show (List.filterMap (fun i => z.cps[i]?) (Builtin.Str.strSliceIndices lo hi 1 z.length)).toArray.size <= _
    rw [List.size_toArray]; exact hn
   exact ⟨Nat.le_trans hl (Nat.le_of_lt (dH hz)), .str _, H, I.tok _, ⟨_, rfl⟩, q⟩
end
section
variable {σ : St} {H : Hp} {Q : VK} {D : Ends} {K : PySem.W.Frag}
end
section
variable {X : Cx} {k : Nat} {f C : Addr} {ps : List Str} {sp : Sp} {gO : List V} {E : XK} {x m : Str} {p pos apos : Pos} {e : Expr} {es : List Expr} {t : TA}
end
section
variable {prog : Program} {w : World} {A : Around} {E : Value -> Shared -> Prop} {s : Shared}
end
section
variable {σ : St} {H : Hp} {Q : VK} {D : Ends}
end
section
variable {X : Cx} {pins : List (Addr × Obj)} {σ : St} {H : Hp} {s : Shared} {h' : Heap}
theorem Inv.vG {t' : Nat} {i1 i2 : Addr} (I : Inv X pins σ H s) (k : ∀ b o, b ≠ i1 -> b ≠ i2 -> s.heap.get? b = some o -> h'.get? b = some o) (f1 : cv X pins H i1) (f2 : cv X pins H i2) : Inv X pins σ H { s with heap := h', toks := t' } := by
 have vj : ∀ b u, H b = some u -> b ≠ i1 /\ b ≠ i2 := fun b u e => ⟨fun z => (by rw [z, f1.1] at e; cases e), fun z => (by rw [z, f2.1] at e; cases e)⟩
 have nc : ∀ {b : Addr}, b ∉ [i1, i2] -> b ≠ i1 /\ b ≠ i2 := fun {b} h => by simpa using h
 refine I.step (g' := s.gens) (d' := s.drawn) (ch := [i1, i2]) (fun b hb => ?_) (fun b o _ _ hc e _ => k b o (nc hc).1 (nc hc).2 e) (fun b o _ _ hc e _ => ⟨o.slots, k b o (nc hc).1 (nc hc).2 e⟩) (fun _ _ _ _ n => n)
  (fun b o hc e => ⟨o, k b o (nc hc).1 (nc hc).2 e⟩) (fun _ _ e => e) (fun _ _ _ e => e) (fun b ps e => ⟨#[], by rw [e]; simp⟩) (fun m hm => ?_) (fun b u e => ?_) I.bare
 . have e : b = i1 \/ b = i2 := by simpa using hb
   rcases e with rfl | rfl
   . exact ⟨f1.2.2.2.1, f1.2.1, f1.2.2.2.2.1, f1.2.2.2.2.2⟩
   . exact ⟨f2.2.2.2.1, f2.2.1, f2.2.2.2.2.1, f2.2.2.2.2.2⟩
 . obtain ⟨o, es, ep, ho, r⟩ := hm
   exact ⟨o, es, ep, k _ o (Ne.symm f1.2.1) (Ne.symm f2.2.1) ho, r⟩
 . refine (I.aQ b u e).mn (fun c v hc q => k c v ?_ ?_ q) (fun _ q => q) fun _ _ q => q
   . rcases hc with z | z
     . rw [z]; exact (vj b u e).1
     . exact (vj c _ z).1
   . rcases hc with z | z
     . rw [z]; exact (vj b u e).2
     . exact (vj c _ z).2
end
theorem fb : entryFor table "enumerate.__iter__" = some Builtin.«dict_keyiterator.__iter__» :=
 entryFor_alias (id' := "dict_keyiterator.__iter__") (by kernel_rfl) rfl (by decide +kernel) (by kernel_rfl)
def zM (K : PySem.W.Frag) (a : Addr) : It := ⟨fun i H => ∃ xs x, bh K H a xs /\ xs[i]? = some x, fun i H v H' => ∃ t x, (∀ xs, bh K H a xs -> xs[i]? = some x) /\ v = .ref t /\ H t = none /\ H' = upd H t (.tup [.int i, x]), fun i H => ∃ xs, bh K H a xs /\ xs.length <= i⟩
theorem qS {P : Program} {w : World} {K : PySem.W.Frag} {elts : List Expr} {x1} {pos : Pos} {e it a : Addr} (nN : e ≠ it) :
 Turn P w K (.Tuple elts x1 pos) (zM K a) [e, it] e (fun i h => (∃ old, IsEnum h e it (i : Nat) old) /\ h.IsListIter it a i) where
 mem := by simp
 obj := fun i h st b hb => by
  have e' : b = e \/ b = it := by simpa using hb
  obtain ⟨⟨old, q⟩, o, e1, c, d⟩ := st
  rcases e' with rfl | rfl
  . exact ⟨_, q, fun v z => by cases z⟩
  . exact ⟨o, e1, fun v z => by rw [d] at z; cases z⟩
 keep := fun i h h' st k => ⟨let ⟨old, q⟩ := st.1; ⟨old, k e (by simp) _ q⟩, st.2.at fun o q => k it (by simp) o q⟩
 item := by
  intro X hP hw hK hc i pins s σ H E I hf st hg
  subst hP hw hK
  have fe := hf e (by simp)
  have fi := hf it (by simp)
  obtain ⟨xs, x, hq, hx⟩ := hg
  obtain ⟨az, rv, p, hz⟩ := I.list hq
  obtain ⟨u, hu, ru⟩ := rv.get hx
  obtain ⟨⟨old, he⟩, hit⟩ := st
  have yn : e < s.heap.objs.size := Heap.lt_size he
  have xB : it < s.heap.objs.size := by obtain ⟨o, ho, _⟩ := id hit; exact Heap.lt_size ho
  have hn : H s.heap.objs.size = none := I.aQ.fresh (Nat.le_refl _)
  refine wpAny_pyNext_enum_item he hit p.isList (x := u) (by simpa using hu) nN fun h' yl Ey ht IM kk => ?_
  refine ⟨_, rfl, wpAny_letOwnedTupleGo_enum (s := { s with heap := h', toks := s.toks + 1 }) yl fun h2 KY sb => ?_⟩
  replace sb : Heap.SameBut e h' h2 := sb
  let tb : Obj := { cls := .type "tuple", data := .seq #[.int i s.toks, u] }
  have I1 : Inv X pins σ (upd H s.heap.objs.size (.tup [.int i, x])) { s with heap := s.heap.push tb } :=
   I.laid (t' := s.toks) (fun b u e => Heap.get?_push_of_some _ e) (Nat.le_refl _) (show bQ X.prog X.w _ _ _ (.tup [.int i, x]) from ⟨by rw [sizeLine_eq]; simp, [.int i s.toks, u], .cons ⟨_, rfl⟩ (.cons ru .nil), IsTup.new _ _⟩)
  have BO : upd H s.heap.objs.size (.tup [.int i, x]) e = none := by rw [aw (Nat.ne_of_lt yn)]; exact fe.1
  have CK : upd H s.heap.objs.size (.tup [.int i, x]) it = none := by rw [aw (Nat.ne_of_lt xB)]; exact fi.1
  have I2 : Inv X pins σ (upd H s.heap.objs.size (.tup [.int i, x])) { s with heap := h2, toks := s.toks + 1 } := by
   refine Inv.vG (s := { s with heap := s.heap.push tb }) (h' := h2) (t' := s.toks + 1) (i1 := e) (i2 := it) I1 (fun b u' FQ J3 q => ?_) ⟨BO, fe.2⟩ ⟨CK, fi.2⟩
   by_cases Dd : b = s.heap.objs.size
   . subst Dd
     have e0 : (s.heap.push tb).get? s.heap.objs.size = some tb := Heap.get?_push_size _ rfl
     have e1 := e0.symm.trans q
     cases e1
     exact (sb.2 _ FQ).trans ht
   . exact (sb.2 _ FQ).trans (kk b u' FQ J3 (jK q Dd))
  refine ⟨.ref s.heap.objs.size, _, I2, rfl, ⟨_, x, fun ys hy => by rw [I.ip hy hq]; exact hx, rfl, hn, rfl⟩, ⟨⟨_, KY⟩, Ey.at fun o q => (sb.2 it (Ne.symm nN)).trans q⟩, fun b hb => ?_⟩
  have e' : b = e \/ b = it := by simpa using hb
  rcases e' with rfl | rfl
  . exact BO
  . exact CK
 done := by
  intro X hP hw hK hc i pins s σ H E I hf st hg
  subst hP hw hK
  obtain ⟨f0, f1, f2, f3, f4, f5⟩ := hf it (by simp)
  obtain ⟨xs, hq, hx⟩ := hg
  obtain ⟨az, rv, p, hz⟩ := I.list hq
  have hl := rv.length
  obtain ⟨⟨old, he⟩, hit⟩ := st
  exact wpAny_pyNext_enum_end (I.ok.hd hc) he hit p.isList (by simp; omega) fun h' eb => ⟨rfl, I.turned (t' := s.toks) (fun b o hb e => eb b o hb e) f0 f1 f3 f4 f5⟩
 self := fun A i s Q E st q => by
  obtain ⟨⟨old, he⟩, hit⟩ := st
  have hT : s.TypeIs (.ref e) "enumerate" := ⟨_, he, rfl⟩
  refine wpAny_pyIter_slot hT F.slot_enumerate_iter (wpAny_call_entry F.slot_enumerate_iter hT fb ?_ (F.args_enumerate_iter_1 _))
  show wpAny _ _ (ret (.ref e)) _ _ s
  exact wpAny_pure ⟨_, rfl, "enumerate", _, hT, F.slot_enumerate_next.lookup, q⟩
def uV (K : PySem.W.Frag) (ta : TA) : TI := fun σ H R => ta σ H fun vs H1 => ∃ a, vs = [.ref a] /\ (∃ xs, bh K H1 a xs) /\ R (zM K a) H1
theorem lM {X : Cx} {elts : List Expr} {x1} {sH : Pos} {a : Expr} {ta : TA} {p pos : Pos} (hg : Gl X "enumerate") (hm : X.mg "enumerate" = none) (ha : PA X [a] ta) (hs : starEach [a] X.env = [(false, eval a X.env)] := by rfl) :
 PI X (.Tuple elts x1 sH) (.Call (.Name "enumerate" p) [a] [] pos) (uV X.K ta) := by
 intro pins s σ H R I h
 refine Call_ (eV I hg hm boot_enumerate (PyProof.Rows.callWith_type1 (bF (ha pos pins s σ H _ I h) fun us s1 ⟨vs, H1, I1, r1, q1⟩ => ?_) hs rfl))
 obtain ⟨l, e, ⟨xs, hq⟩, q⟩ := q1
 subst e
 cases r1 with
 | cons r rr =>
   cases rr
   cases r
   obtain ⟨az, rv, p, hz⟩ := I1.list hq
   refine call_enumerate_list p.isList fun h' he hit hsz hk => ?_
   have hT : (⟨h', s1.gens, s1.drawn, s1.toks, s1.os⟩ : Shared).TypeIs (.ref (s1.heap.objs.size + 1)) "enumerate" := ⟨_, he, rfl⟩
   refine wpAny_pyIter_slot hT F.slot_enumerate_iter (wpAny_call_entry F.slot_enumerate_iter hT fb ?_ (F.args_enumerate_iter_1 _))
   show wpAny _ _ (ret (.ref (s1.heap.objs.size + 1))) _ _ _
   refine wpAny_pure ⟨_, rfl, "enumerate", _, hT, F.slot_enumerate_next.lookup, ?_⟩
   refine ⟨s1.heap.objs.size + 1, [s1.heap.objs.size + 1, s1.heap.objs.size], _, _, H1, rfl, I1.kept (t' := s1.toks) hk, qS (a := l) (Nat.succ_ne_self _), ⟨⟨_, he⟩, hit⟩, fun b hb => ?_, q⟩
   have e : b = s1.heap.objs.size + 1 \/ b = s1.heap.objs.size := by simpa using hb
   rcases e with rfl | rfl
   . exact I1.jJ (Nat.le_succ _) (I1.aQ.fresh (Nat.le_succ _))
   . exact I1.jJ (Nat.le_refl _) (I1.aQ.fresh (Nat.le_refl _))
theorem qk (num : Nat -> Int) : ∀ k, argBest (fun i j => decide (num i > num j)) k <= k /\ ∀ j, j <= k -> num j <= num (argBest (fun i j => decide (num i > num j)) k)
 | 0 => ⟨Nat.le_refl _, fun j hj => by have : j = 0 := by omega
                                       subst this; exact Int.le_refl _⟩
 | k + 1 => by
   obtain ⟨h1, h2⟩ := qk num k
   unfold argBest
   by_cases h : num (k + 1) > num (argBest (fun i j => decide (num i > num j)) k)
   . rw [if_pos (decide_eq_true h)]
     refine ⟨Nat.le_refl _, fun j hj => ?_⟩
     by_cases hk : j = k + 1
     . subst hk; exact Int.le_refl _
     . exact Int.le_trans (h2 j (by omega)) (Int.le_of_lt h)
   . rw [if_neg (by simpa using h)]
     refine ⟨by omega, fun j hj => ?_⟩
     by_cases hk : j = k + 1
     . subst hk; omega
     . exact h2 j (by omega)
section
variable {X : Cx}
def xX : List V -> Hp -> VK -> Prop := fun xs H Q => ∃ (v : V) (ns : List Int), xs = [v] /\ Dv H v (.list (ns.map PyData.int)) /\ 0 < ns.length /\ ∀ m ∈ ns, (∀ k ∈ ns, k <= m) -> Q (.int m) H
theorem qG (hc : X.calm = true) : dX X (.builtin "max") xX := by
 intro pins s σ H xs us Q I r h
 obtain ⟨v, ns, rfl, hd, ui, q⟩ := h
 obtain ⟨u, rfl, ru⟩ := vals1 r
 obtain ⟨p, ys, rfl, e, dv⟩ := hd.lst_inv
 obtain ⟨az, xA, pl, _⟩ := I.list (e X.K)
 cases ru
 have hI := jy dv xA
 have hn : az.toArray.size = ns.length := by rw [List.size_toArray, hI.length]
 have cq : p < s.heap.objs.size := by obtain ⟨o, n, e1, _⟩ := pl; exact Heap.lt_size e1
 have hA : X.A.in1.handled = none := I.ok.hd hc
 refine call_max_walk (wpAny_pyIter_list pl.isList ?_)
 refine ⟨s.heap.objs.size, _, _, _, _, _, fun i j => decide (ns.getD i 0 > ns.getD j 0), rfl, Walks.list hA _ p (Nat.ne_of_lt cq) az.toArray, ⟨⟨_, Heap.get?_push_size _ rfl, rfl, rfl⟩, pl.isList.at fun o e => Heap.get?_push_of_some _ e⟩, ?_, by omega, CmpOf.ints_gt (fun i => ns.getD i 0) ?_, ?_⟩
 . intro b hb
   rw [Heap.size_push]
   have : b = s.heap.objs.size \/ b = p := by simpa using hb
   rcases this with rfl | rfl
   . exact Nat.lt_succ_self _
   . exact Nat.lt_succ_of_lt cq
 . intro i v hv
   exact hI.int_at i v (by simpa using hv)
 . intro v h' tk hP hk
   have b := qk (fun i => ns.getD i 0) (az.toArray.size - 1)
   generalize argBest (fun i j => decide (ns.getD i 0 > ns.getD j 0)) (az.toArray.size - 1) = ix at b hP
   obtain ⟨b1, b2⟩ := b
   obtain ⟨t, rfl⟩ := hI.int_at ix v (by simpa using hP)
   have I1 := I.kept (t' := s.toks) (h' := s.heap.push { cls := Value.type "list_iterator", data := Data.fields #[Value.ref p, Value.int 0 0] }) fun b o e => Heap.get?_push_of_some _ e
   have fp := I.jJ (H' := H) (Nat.le_refl _) (I.aQ.fresh (Nat.le_refl _))
   have I2 := I1.turned (t' := tk) (h' := h') (it := s.heap.objs.size) (fun b o hb e => hk b o (by simpa using hb) e) fp.1 fp.2.1 fp.2.2.2.1 fp.2.2.2.2.1 fp.2.2.2.2.2
   have hb : ix < ns.length := by omega
   refine ⟨.int _, H, I2, ⟨t, rfl⟩, q _ ?_ ?_⟩
   . rw [List.getD_eq_getElem?_getD, List.getElem?_eq_getElem hb]; exact List.getElem_mem hb
   . intro k hk
     obtain ⟨j, hj, rfl⟩ := List.getElem_of_mem hk
     have := b2 j (by omega)
     rwa [List.getD_eq_getElem?_getD (i := j), List.getElem?_eq_getElem hj] at this
def uj : V -> Hp -> VK -> Prop := fun x H Q => ∃ (p : Addr) (m : List (Str × PyData)) (ns : List Int), x = .ref p /\ iG H p m /\ m.map (·.2) = ns.map PyData.int /\ Q (.int ns.sum) H
def yy (te : TE) : TE := fun σ H Q => te σ H fun x H1 => uj x H1 Q
theorem vL {e : Expr} {te : TE} {p pos apos cS : Pos} (he : PE X e te) (hc : X.calm = true) (hg : Gl X "sum") (hm : X.mg "sum" = none)
 (uF : attributeBase e "values" X.env (eval e X.env) = eval e X.env := by rfl) (hline : (apos.endLine == cS.line) = true := by rfl)
 (h2 : starEach [.Call (.Attribute e "values" apos) [] [] cS] X.env = (false, eval (.Call (.Attribute e "values" apos) [] [] cS) X.env) :: starEach [] X.env := by rfl) :
 PE X (.Call (.Name "sum" p) [.Call (.Attribute e "values" apos) [] [] cS] [] pos) (yy te) := by
 intro pins s σ H Q I h
 refine wpAny_Call_Name_kw (eV I hg hm boot_sum ?_ (by decide) (by decide))
 refine PyProof.Rows.callWith_builtin1 ?_ h2 rfl
 rw [h2]
 show wpAny _ _ (spliced ((false, eval (.Call (.Attribute e "values" apos) [] [] cS) X.env) :: backTo pos (starEach [] X.env))) _ _ s
 refine Calls.spliced_cons (wpAny_Call_method0_late uF hline (bF (he pins s σ H _ I h) fun v s1 ⟨y, H1, I1, r1, q1⟩ => ?_))
 obtain ⟨d, m, ns, rfl, ⟨ax, hd, dk⟩, EC, q⟩ := q1
 obtain ⟨h1, h2⟩ := sg I1 (T := "dict") r1 (.inr (.inr (.inl ⟨rfl, .inl ⟨ax, hd⟩⟩)))
 cases r1
 refine ⟨"dict", "dict.values", PySem.F.plainAttrs_dict, PySem.F.slot_dict_values, PySem.F.type_dict_values, h1, h2, Calls.callWith_builtin rfl (PySem.evalArgs_none ?_)⟩
 obtain ⟨_, hs, vs, kv, o, es, ep, ho, a2, a3, a4⟩ := (show bQ X.prog X.w H1 s1.heap d (.dK ax) from I1.aQ d _ hd)
 have da : s1.heap.DictAt (bb X.prog X.w) d vs ep := ⟨o, es, ho, a2, a3, a4⟩
 have cq : d < s1.heap.objs.size := Heap.lt_size ho
 have hlen : vs.length = ax.length := kv.length.symm
 refine call_meetsIn PySem.F.slot_dict_values da.dictOf.typeIs PySem.F.entry_dict_values (PySem.F.args_dict_values_1 _) (meets_dict_values (bb X.prog X.w) d hs) ⟨⟨vs, da.dictOf⟩, ?_⟩
 refine Calls.spliced_nil ?_
 have hsz : (s1.heap.push { cls := .type "dict_values", data := .fields #[.ref d] }).objs.size = s1.heap.objs.size + 1 := Heap.size_push ..
 have hA : X.A.in1.handled = none := I1.ok.hd hc
 have Fx : ns.length = ax.length := by
  have := congrArg List.length EC
  rw [List.length_map, List.length_map] at this
  rw [<- this]; exact dk.length.symm
 refine call_sum_walkAnyB (wpAny_pyIter_values (v := s1.heap.objs.size) ⟨_, Heap.get?_push_size _ rfl, rfl, rfl⟩ (da.push _) ?_)
 refine ⟨_, _, _, _, _, _, _, fun i => ns.getD i 0, rfl, (Walks.dictValues (knd := bb X.prog X.w) hA _ d (Nat.ne_of_lt (by rw [hsz]; exact Nat.lt_succ_of_lt cq)) vs ep).toS, ⟨⟨_, Heap.get?_push_size _ rfl, rfl, rfl⟩, (da.push _).push _⟩, ?_, ?_, ?_⟩
 . intro b hb
   rw [Heap.size_push]
   have : b = (s1.heap.push { cls := .type "dict_values", data := .fields #[.ref d] }).objs.size \/ b = d := by simpa using hb
   rcases this with rfl | rfl
   . exact Nat.lt_succ_self _
   . rw [hsz]; exact Nat.lt_succ_of_lt (Nat.lt_succ_of_lt cq)
 . rintro i v ⟨k, hv⟩
   have hi : i < ax.length := by rw [<- hlen]; exact (List.getElem?_eq_some_iff.mp hv).1
   obtain ⟨y, hy, Ek⟩ := jL kv (List.getElem?_eq_getElem hi)
   rw [hv] at hy
   cases hy
   obtain ⟨k', dd, Kr, L6, Lp⟩ := dk.By (List.getElem?_eq_getElem hi)
   have DC : i < ns.length := by omega
   have Lq : dd = .int (ns.getD i 0) := by
    have e1 : (m.map (·.2))[i]? = some dd := by rw [List.getElem?_map, Kr]; rfl
    rw [EC, List.getElem?_map, List.getElem?_eq_getElem DC] at e1
    rw [List.getD_eq_getElem?_getD, List.getElem?_eq_getElem DC]
    exact (Option.some.inj e1).symm
   subst Lq
   have hq := Lp.int_inv
   have r2 := Ek.2
   rw [hq] at r2
   obtain ⟨t, ht⟩ := r2
   exact .inl ⟨t, ht⟩
 . intro s' t' D0
   rw [hlen, <- Fx, fQ]
   obtain ⟨h', g', d', E7, B1⟩ := s'
   have eg : g' = s1.gens := D0.gens
   have ed : d' = s1.drawn := D0.drawn
   have eo : B1 = s1.os := D0.os
   subst eg; subst ed; subst eo
   have I2 : Inv X pins σ H1 { s1 with heap := s1.heap.push { cls := .type "dict_values", data := .fields #[.ref d] } } := I1.kept (t' := s1.toks) fun b o e => Heap.get?_push_of_some _ e
   have fp := I2.jJ (H' := H1) (Nat.le_refl _) (I2.aQ.fresh (Nat.le_refl _))
   have I3 := I2.turned (t' := E7) (h' := h') (it := (s1.heap.push { cls := .type "dict_values", data := .fields #[.ref d] }).objs.size) (fun b o hb e => D0.heap b o (by simpa using hb) (Heap.get?_push_of_some _ e)) fp.1 fp.2.1 fp.2.2.2.1 fp.2.2.2.2.1 fp.2.2.2.2.2
   exact ⟨.int ns.sum, H1, I3, ⟨t', rfl⟩, q⟩
end
section
variable {σ : St} {H : Hp} {Q : VK}
theorem A2 {v : V} {ns : List Int} (hp : Dv H v (.list (ns.map PyData.int))) (hl : 0 < ns.length) (h : ∀ m ∈ ns, (∀ k ∈ ns, k <= m) -> Q (.int m) H) : xX [v] H Q := ⟨v, ns, rfl, hp, hl, h⟩
theorem xk {te : TE} (h : te σ H fun x H1 => uj x H1 Q) : yy te σ H Q := h
theorem AZ {p : Addr} {m : List (Str × PyData)} {ns : List Int} (hp : iG H p m) (hm : m.map (·.2) = ns.map PyData.int) (h : Q (.int ns.sum) H) : uj (.ref p) H Q := ⟨p, m, ns, rfl, hp, hm, h⟩
end
section
variable {σ : St} {H : Hp} {Q : VK} {K : PySem.W.Frag} {v : V}
theorem yZ {k : Nat} {ta : TA} {g : TG} {tc : TT} {te : TE} (h : ta σ H fun vs H1 => ∃ a, vs = [.ref a] /\ (∃ xs, bh K H1 a xs) /\ Bg k g tc te (nE Q) σ (zM K a) H1) : B7 k (uV K ta) g tc te σ H Q := h
theorem DQ {k : Nat} {g : TG} {tc : TT} {te : TE} {α : Type} {cs : List α} {gd : α -> PyData} (pf : α × Nat -> Bool) (fd : α × Nat -> PyData) (hl : Dv H v (.list (cs.map gd))) (hlen : cs.length <= 4000) (hi : ∀ c, jA (fd c) = true)
 (turn : ∀ x c H' (N : Option V -> Hp -> Prop), c ∈ cs.zipIdx -> ag H H' -> Dv H' x (.tuple [.int c.2, gd c.1]) -> (pf c = true -> ∀ y H4, ag H' H4 -> Dv H4 y (fd c) -> N (some y) H4) -> (pf c = false -> ∀ H3, ag H' H3 -> N none H3) ->
  g x (List.replicate k none ++ σ) H' fun σ2 H2 => tc σ2 H2 fun b H3 => Ec te N σ2 b H3)
 (kk : ∀ q H', ag H H' -> H q = none -> bI H' q ((cs.zipIdx.filter pf).map fd) -> Q (.ref q) H') : ∃ a, [v] = [.ref a] /\ (∃ xs, bh K H a xs) /\ Bg k g tc te (nE Q) σ (zM K a) H := by
 obtain ⟨p, xs, rfl, e, dv⟩ := hl.lst_inv
 have yW : bh K H p xs := e K
 have AG : xs.length = cs.length := by rw [dv.length, List.length_map]
 have Lj : cs.zipIdx.length = cs.length := List.length_zipIdx
 refine ⟨p, rfl, ⟨xs, yW⟩, fun i m acc H' => i <= cs.length /\ m = cs.length - i /\ ag H H' /\ aX H' acc (((cs.zipIdx.take i).filter pf).map fd), ⟨cs.length, Nat.zero_le _, rfl, ag.refl _, by simpa using aX.nil⟩, ?_⟩
 rintro i m acc H' ⟨CM, hm, sm, gR⟩
 have qT : bh K H' p xs := ag.seq sm yW
 have rQ : acc.length <= cs.length := by
  rw [gR.length, List.length_map]
  exact Nat.le_trans (List.length_filter_le _ _) (by rw [List.length_take]; omega)
 by_cases hc : i = cs.length
 . left
   refine ⟨⟨xs, qT, by omega⟩, fun q hq => ?_⟩
   rw [hc, <- Lj, List.take_length] at gR
   have ck : ag H (upd H' q (.lst acc)) := sm.trans (aL hq)
   exact kk q _ ck (sm.none hq) ⟨acc, aA, gR.keeps (aL hq), b6 hi _⟩
 . right
   have cq : i < cs.length := by omega
   have BR : i < xs.length := by omega
   refine ⟨⟨xs, xs[i], qT, List.getElem?_eq_getElem BR⟩, dH (by omega), fun x H2 hy => ?_⟩
   obtain ⟨t, x', hy, rfl, ht, rfl⟩ := hy
   have hx := hy xs qT
   have x6 : cs[i]? = some cs[i] := List.getElem?_eq_getElem cq
   obtain ⟨x2, Ct, hd⟩ := dv.get (i := i) (d := gd cs[i]) (by rw [List.getElem?_map, x6]; rfl)
   rw [hx] at Ct
   cases Ct
   have Iw : cs.zipIdx[i]? = some (cs[i], i) := by rw [List.getElem?_zipIdx, x6]; simp
   have va : cs.zipIdx.take (i + 1) = cs.zipIdx.take i ++ [(cs[i], i)] := by rw [List.take_add_one, Iw]; rfl
   have G3 : ag H' (upd H' t (.tup [.int i, x'])) := aL ht
   have ck := sm.trans G3
   exact turn (.ref t) (cs[i], i) _ (fun o H4 => match o with | some y => ∃ m', m' < m /\ i + 1 <= cs.length /\ m' = cs.length - (i + 1) /\ ag H H4 /\ aX H4 (acc ++ [y]) (((cs.zipIdx.take (i + 1)).filter pf).map fd) | none => ∃ m', m' < m /\ i + 1 <= cs.length /\ m' = cs.length - (i + 1) /\ ag H H4 /\ aX H4 acc (((cs.zipIdx.take (i + 1)).filter pf).map fd))
    (List.mem_of_getElem? Iw) ck (.tup aA (.cons (.int _) (.cons (hd.keeps ck) .nil)))
    (fun hp y H4 s4 d4 => ⟨cs.length - (i + 1), by omega, cq, rfl, ck.trans s4, by
     rw [va, List.filter_append, List.map_append]
     simp only [List.filter_cons, hp, if_true, List.filter_nil, List.map_cons, List.map_nil]
     exact aX.append (gR.keeps (G3.trans s4)) (.cons d4 .nil)⟩)
    (fun hp H3 s3 => ⟨cs.length - (i + 1), by omega, cq, rfl, ck.trans s3, by
     rw [va, List.filter_append, List.map_append]
     simp only [List.filter_cons, hp, Bool.false_eq_true, if_false, List.filter_nil, List.map_nil, List.append_nil]
     exact gR.keeps (G3.trans s3)⟩)
end
end L2
namespace L2
open PySem
theorem c9 {z : Str} {lo hi : Option Int} : ∀ c ∈ (bW z lo hi).cps.toList, c ∈ z.cps.toList := by
 intro c hc
 unfold bW at hc
 have hc : c ∈ (Builtin.Str.strSliceIndices lo hi 1 z.length).filterMap (z.cps[·]?) := by simpa using hc
 obtain ⟨i, _, hi⟩ := List.mem_filterMap.mp hc
 have := Array.mem_of_getElem? hi
 simpa using this
theorem cG (z : Str) (lo hi : Option Int) : (bW z lo hi).length <= z.length := by
 show ((Builtin.Str.strSliceIndices lo hi 1 z.length).filterMap (z.cps[·]?)).toArray.size <= _
 rw [List.size_toArray]
 exact Nat.le_trans (List.length_filterMap_le _ _) (p5 _ _ _)
section
variable {H : Hp} {Q : VK} {K : PySem.W.Frag}
theorem zh {z : Str} {lo hi : Option Int} (hl : z.length <= 4000) (h : (bW z lo hi).length <= z.length -> Q (.str (bW z lo hi)) H) : DU (.str z) lo hi H Q := ⟨z, rfl, hl, h (cG z lo hi)⟩
theorem zk {z : Str} {i : Int} (hz : z.length <= 4000) (h0 : 0 <= i) (h1 : i < z.length) (h : ∀ c, z.cps.toList[i.toNat]? = some c -> Q (.str ⟨#[c]⟩) H) : js K (.str z) (.int i) H Q := by
 obtain ⟨m, rfl⟩ := Int.eq_ofNat_of_zero_le h0
 have hi : m < z.cps.toList.length := by
  have : z.length = z.cps.toList.length := by show z.cps.size = _; simp
  omega
 exact Ae (Nat.le_of_lt (dH hz)) (ez (List.getElem?_eq_getElem hi)) (h _ (List.getElem?_eq_getElem hi))
end
end L2
namespace L2
open PySem PySem.Spec PyProof.Rows PySem.W
section
variable {X : Cx}
end
section
variable {σ : St} {H : Hp} {Q : VK}
end
section
variable {X : Cx} {pins : List (Addr × Obj)} {σ : St} {H : Hp} {s : Shared}
end
section
variable {σ : St} {H : Hp} {Q : VK}
end
section
variable {σ : St} {H : Hp} {Q : VK} {K : PySem.W.Frag} {p : Addr} {m : List (Str × PyData)} {k : Str}
end
def HR (h : Heap) (a T : Addr) (c : Value) (od : Option Addr) : Prop := ∃ oe vs oT ts, h.get? a = some oe /\ oe.cls = c /\ oe.dict = od /\ oe.data = .fields vs /\ vs[1]? = some (.ref T) /\ T ≠ a /\ h.get? T = some oT /\ oT.data = .fields ts /\ ts[3]? = some .none /\ vs[2]? = some .none
section
variable {M : Model} {A : Around} {E : Value -> Shared -> Prop} {s : Shared} {env : Env} {outer : List Env} {L a T : Addr} {c : Value} {od : Option Addr} {base : Heap} {Q : Unit -> Shared -> Prop}
end
def JQ (P : Program) (w : World) : mH := fun outer H s E e s' => ∃ a T C od H', e = .ref a /\ s'.os = s.os /\ AllBare s'.gens /\ Un (nq outer) [] H H' s.heap s'.heap /\ gN P w H' s'.heap /\ HR s'.heap a T (.ref C) od /\ s.heap.get? a = none /\ s.heap.get? T = none /\ H' a = none /\ H' T = none /\ E (.ref C) od H'
section
variable {P : Program} {w : World} {K : PySem.W.Frag} {mg : Str -> Option Value} {base : Heap} {N : List Str} {qual : Str} {scope : Scope} {f : Addr} {cd : Value} {A : Around} {outer : List Env} {s0 : Shared} {H0 : Hp} {E : XK} {CX : mH} {pins : List (Addr × Obj)} {σ : St} {H : Hp} {s : Shared}
end
structure KG (P : Program) (w : World) (K : PySem.W.Frag) (mg : Str -> Option Value) (base : Heap) (k : Nat) (f : Addr) (ps : List Str) (gO : List V) (sp : Sp) : Prop where
 ex : ∃ (fd : FuncData) (ds : List Value), bJ P w K mg base (JQ P w) k f fd ps sp /\ Binds K fd ps ds /\ Vals gO ds
section
variable {X : Cx} {CX : mH} {k : Nat} {f C : Addr} {fd : FuncData} {ps : List Str} {sp : Sp} {gO : List V} {ds : List Value} {E : St -> XK} {x m : Str} {p pos apos : Pos} {e o : Expr} {es : List Expr} {ta : TE} {t : TA}
end
section
variable {P : Program} {w : World} {K : PySem.W.Frag} {mg : Str -> Option Value} {base : Heap}
end
section
variable {prog : Program} {w : World} {A : Around} {E : Value -> Shared -> Prop} {s : Shared} {K : PySem.W.Frag} {x C : Addr} {ox : Obj} {name : Str} {v : Value} {cd : ClassData}
open Builtin.ObjectAttr in
open Builtin.ObjectAttr in
end
structure L8 (K : PySem.W.Frag) (C W fI : Addr) : Prop where
 cls : ∃ (nm q : Str) (N : Addr) (bs : List Value) (sn : List Str) (sub : List Value) (ab : Bool) (col : Option Bool) (dd : Option Addr) (k0 k1 k2 k3 k5 : Option Value), K.lookup C = some (excClassObj nm q C N bs (.ref W :: Ft) true sn sub ab col dd k0 k1 k2 k3 k5 "ValueError.__new__")
 up : AA K W
 init : PySem.W.findIn K (.ref C) "__init__" = some (some (.ref fI))
 fn : PySem.W.isFn K (.ref fI) = true
 te : Lh K C
 sa : PySem.W.findIn K (.ref C) "__setattr__" = some (some (.builtin "object.__setattr__"))
 tk : PySem.W.takerIn K C "name" = some none
 nm : PySem.W.findIn K (.ref C) "name" = some none
def EH (K : PySem.W.Frag) (C : Addr) : Prop := ∀ h : Heap, K.In h -> ∃ (bm : List Value) (N : Addr) (nm q : Str) (bs : List Value) (hd : Bool) (sn : List Str) (sub : List Value) (ab : Bool) (col : Option Bool) (dd : Option Addr) (k0 k1 k2 k3 k5 : Option Value),
 h.get? C = some (excClassObj nm q C N bs bm hd sn sub ab col dd k0 k1 k2 k3 k5 "ValueError.__new__") /\ OwnTail h Ft bm
theorem AA.o {K : PySem.W.Frag} {C : Addr} (h : AA K C) : EH K C := fun hp X => by
 obtain ⟨bm, N, nm, q, bs, hd, sn, sub, ab, col, dd, k0, k1, k2, k3, k5, mN, hC, _, _, T⟩ := Aa X h
 exact ⟨bm, N, nm, q, bs, hd, sn, sub, ab, col, dd, k0, k1, k2, k3, k5, hC, T⟩
section
variable {prog : Program} {w : World} {A : Around} {E : Value -> Shared -> Prop} {h : Heap} {g : Array GenState} {d : Drawn} {t : Nat} {os : OsState}
variable {nm q : Str} {C N : Addr} {bs bm Bm : List Value} {Fm : Bool} {sn : List Str} {sub : List Value} {ab : Bool} {col : Option Bool} {dd : Option Addr} {k0 k1 k2 k3 k5 : Option Value} {B newId G4 : String}
end
structure HY (K : PySem.W.Frag) (W : Addr) : Prop where
 ga : PySem.W.specialIn K (.ref W) "__getattribute__" = some (some (.builtin "type.__getattribute__"))
 rd : PySem.W.readsIn K W (.type "type") = true
 fd : PySem.W.findCls K (.ref W) (.type "type") "__init__" = some (.val (.builtin "ValueError.__init__"))
section
variable {X : Cx} {W : Addr} {x : Str} {p pos apos : Pos} {e : Expr} {es : List Expr} {t : TA} {pl : Sem Bool}
end
def del (H : Hp) (a : Addr) : Hp := fun b => if b = a then none else H b
section
variable {prog : Program} {w : World} {A : Around} {E : Value -> Shared -> Prop} {s : Shared} {env : Env}
variable {nm q : Str} {C N : Addr} {bs bm Bm : List Value} {Fm : Bool} {sn : List Str} {sub : List Value} {ab : Bool} {col : Option Bool} {dd : Option Addr} {k0 k1 k2 k3 k5 : Option Value} {newId : String}
end
def JR (X : Cx) (cl : Expr) (hit : Addr -> Bool -> Prop) : Prop := ∀ (a C T : Addr) (od : Option Addr) (pins : List (Addr × Obj)) (σ : St) (H : Hp) (s : Shared) (Q : Bool -> Shared -> Prop) (E : Value -> Shared -> Prop) (b : Bool), Inv X pins σ H s -> HR s.heap a T (.ref C) od -> hit C b ->
 (∀ h', (∀ b o, s.heap.get? b = some o -> h'.get? b = some o) -> Q b { s with heap := h' }) ->
 wpAny (model X.prog X.w) (X.hand a).A (eval cl X.env) (fun c s1 => wpAny (model X.prog X.w) (X.hand a).A (excMatches (.ref a) c) Q E s1) E s
structure HV where
 hit : Addr -> Bool -> Prop
 i : Option Nat
 ts : Addr -> TS
def AQ (X : Cx) : Option Str -> Option Nat -> Prop
 | some n, some i => X.N[i]? = some n /\ X.env.scope.names.lookup n = some .local
 | none, none => True
 | _, _ => False
inductive tJ (X : Cx) : List ExceptHandler -> List HV -> Prop
 | nil : tJ X [] []
 | cons {cl : Expr} {n : Option Str} {b0 : Stmt} {xP : List Stmt} {pos : Pos} {hs : List ExceptHandler} {hit : Addr -> Bool -> Prop} {i : Option Nat} {ts : Addr -> TS} {rs : List HV} (hc : JR X cl hit) (hb : ∀ a, nM (X.hand a) (b0 :: xP) (ts a)) (hn : AQ X n i) (r : tJ X hs rs) :
  tJ X (.ExceptHandler (some cl) n (b0 :: xP) pos :: hs) (⟨hit, i, ts⟩ :: rs)
section
variable {X : Cx} {pins : List (Addr × Obj)} {σ : St} {H : Hp} {a C : Addr} {od : Option Addr} {Dn : Ends}
end
section
variable {X : Cx} {e : Expr} {te : TE} {y y2 : Str} {k k2 : Nat} {p1 p2 p3 pos : Pos}
end
section
variable {σ : St} {H : Hp} {Q : VK} {D : Ends} {K : PySem.W.Frag} {C : Addr} {E : St -> XK}
end
section
variable {prog : Program} {w : World} {A : Around} {R : Result -> Shared -> Prop} {I S : Addr} {fp wr : List Addr} {n : Nat} {P : Nat -> Value -> Prop} {St : Nat -> Heap -> Prop} {bt : Nat -> Nat -> Bool}
def vd (P : Nat -> Value -> Prop) (bt : Nat -> Nat -> Bool) (j : Nat) (az : Array Value) : Prop := (j = 0 /\ az = #[]) \/ ∃ i v, j = i + 1 /\ P (argBest bt i) v /\ az = #[v, v]
end
section
variable {prog : Program} {w : World} {A : Around} {E : Value -> Shared -> Prop} {s : Shared}
end
section
variable {X : Cx}
end
section
variable {σ : St} {H : Hp} {Q : VK} {D : Ends} {K : PySem.W.Frag}
def Ci (K : PySem.W.Frag) (vs : List V) (g : TG) (tb : TS) (D : Ends) (σ : St) (H1 : Hp) : Prop := ∃ a, vs = [.ref a] /\ (∃ xs, bh K H1 a xs) /\ ∃ W : Nat -> Nat -> St -> Hp -> Prop, (∃ m, W 0 m σ H1) /\ ∀ i m σ H, W i m σ H ->
 ((zM K a).stop i H /\ D.nx σ H) \/ ((zM K a).go i H /\ ∃ N : St -> Hp -> Prop, (∀ σ' H', N σ' H' -> ∃ m', m' < m /\ W (i + 1) m' σ' H') /\ ∀ x H', (zM K a).wo i H x H' -> g x σ H' fun σ2 H2 => tb { D with nx := N, ct := N, bk := D.nx } σ2 H2)
theorem yE {ta : TA} {g : TG} {tb : TS} (h : ta σ H fun vs H1 => Ci K vs g tb D σ H1) : uP (uV K ta) g tb D σ H := h
theorem yi {Hb : Hp} {v : V} {cs : List Int} {g : TG} {tb : TS} (hl : Dv Hb v (.list (cs.map PyData.int))) (Pv : Nat -> St -> Hp -> Prop) (h0 : Pv 0 σ H) (hk : ∀ i σ H', i <= cs.length -> Pv i σ H' -> ∀ a xs, v = .ref a -> bh K Hb a xs -> bh K H' a xs)
 (hs : ∀ i c t σ H', cs[i]? = some c -> Pv i σ H' -> H' t = none -> g (.ref t) σ (upd H' t (.tup [.int (i : Int), .int c])) fun σ2 H2 => tb { D with nx := Pv (i + 1), ct := Pv (i + 1), bk := D.nx } σ2 H2) (hd : ∀ σ H', Pv cs.length σ H' -> D.nx σ H') : Ci K [v] g tb D σ H := by
 obtain ⟨p, xs, rfl, e, dv⟩ := hl.lst_inv
 have AG : xs.length = cs.length := by rw [dv.length, List.length_map]
 have at' : ∀ i σ H', i <= cs.length -> Pv i σ H' -> bh K H' p xs := fun i σ H' hi hp => hk i σ H' hi hp p xs rfl (e K)
 refine ⟨p, rfl, ⟨xs, at' 0 σ H (Nat.zero_le _) h0⟩, fun i m σ H => i <= cs.length /\ m = cs.length - i /\ Pv i σ H, ⟨_, Nat.zero_le _, rfl, h0⟩, ?_⟩
 rintro i m σ H' ⟨hi, hm, hp⟩
 have qT := at' i σ H' hi hp
 by_cases hc : i = cs.length
 . subst hc
   exact .inl ⟨⟨xs, qT, by omega⟩, hd σ H' hp⟩
 . have BR : i < xs.length := by omega
   refine .inr ⟨⟨xs, xs[i], qT, List.getElem?_eq_getElem BR⟩, Pv (i + 1), fun σ' H2 rL => ⟨cs.length - (i + 1), by omega, by omega, rfl, rL⟩, fun x H2 hy => ?_⟩
   obtain ⟨t, x', hy, rfl, ht, rfl⟩ := hy
   have hx := hy xs qT
   have x6 : cs[i]? = some cs[i] := List.getElem?_eq_getElem (by omega)
   obtain ⟨x2, Ct, hd⟩ := dv.get (i := i) (d := .int cs[i]) (by rw [List.getElem?_map, x6]; rfl)
   rw [hx] at Ct
   cases Ct
   obtain rfl := hd.int_inv
   exact hs i cs[i] t σ H' x6 hp ht
end
def zx : Expr -> Option V
 | .Constant (.int i) _ _ => some (.int i)
 | .Constant (.str x) _ _ => some (.str x)
 | .Constant (.bool b) _ _ => some (.bl b)
 | .Constant .none _ _ => some .aZ
 | _ => none
def sE : List Expr -> Option (List V)
 | [] => some []
 | e :: es => match zx e, sE es with
   | some v, some vs => some (v :: vs)
   | _, _ => none
def yr (vs : List V) : TA := fun _ H Q => Q vs H
theorem pL {X : Cx} {e : Expr} {v : V} (h : zx e = some v) : PE X e (tC v) /\ ∀ es : List Expr, starEach (e :: es) X.env = (false, eval e X.env) :: starEach es X.env := by
 unfold zx at h
 split at h <;> cases h <;> refine ⟨?_, fun _ => rfl⟩
 . exact af
 . exact ud
 . exact ql
 . exact gS
theorem pz {X : Cx} : ∀ {es : List Expr} {vs : List V}, sE es = some vs -> PA X es (yr vs)
 | [], vs, h => by cases h; exact ah
 | e :: es, vs, h => by
   unfold sE at h
   split at h
   . rename_i v L5 h1 h2
     cases h
     exact ae (pL h1).1 (pz h2) ((pL h1).2 es)
   . cases h
theorem zt {σ : St} {H : Hp} {vs : List V} {Q : List V -> Hp -> Prop} (h : Q vs H) : yr vs σ H Q := h
section
variable {σ : St} {H : Hp} {Q : VK} {K : PySem.W.Frag}
theorem sA {p : Addr} {xs : List V} {y : V} (e : H p = some (.lst xs)) (hl : xs.length <= 4000) (h : Q .aZ (upd H p (.lst (xs ++ [y])))) : lO (.ref p) [y] H Q := ⟨p, xs, y, rfl, rfl, e, dH hl, h⟩
end
section
variable {X : Cx}
end
section
open PySem.SeqAt
open PySem.AutoSeq1 (wpAny_loadPart')
open PySem.MeetsSeq PySem.MeetsSeq2 PySem.MeetsSeq3
end
section
variable {X : Cx}
end
section
variable {σ : St} {H : Hp} {Q : VK} {D : Ends} {K : PySem.W.Frag}
end
section
variable {σ : St} {H : Hp} {Q : VK} {K : PySem.W.Frag}
end
section
variable {X : Cx} {pins : List (Addr × Obj)} {σ : St} {H : Hp} {s : Shared} {h' : Heap}
theorem Inv.pD {t' : Nat} {is : List Addr} (I : Inv X pins σ H s) (k : ∀ b o, b ∉ is -> s.heap.get? b = some o -> h'.get? b = some o) (f : ∀ i ∈ is, cv X pins H i) : Inv X pins σ H { s with heap := h', toks := t' } := by
 have vj : ∀ b u, H b = some u -> b ∉ is := fun b u e hb => by rw [(f b hb).1] at e; cases e
 refine I.step (g' := s.gens) (d' := s.drawn) (ch := is) (fun b hb => ?_) (fun b o _ _ hc e _ => k b o hc e) (fun b o _ _ hc e _ => ⟨o.slots, k b o hc e⟩) (fun _ _ _ _ n => n)
  (fun b o hc e => ⟨o, k b o hc e⟩) (fun _ _ e => e) (fun _ _ _ e => e) (fun b ps e => ⟨#[], by rw [e]; simp⟩) (fun m hm => ?_) (fun b u e => ?_) I.bare
 . exact ⟨(f b hb).2.2.2.1, (f b hb).2.1, (f b hb).2.2.2.2.1, (f b hb).2.2.2.2.2⟩
 . obtain ⟨o, es, ep, ho, r⟩ := hm
   exact ⟨o, es, ep, k _ o (fun hb => (f _ hb).2.1 rfl) ho, r⟩
 . refine (I.aQ b u e).mn (fun c v hc q => k c v ?_ q) (fun _ q => q) fun _ _ q => q
   rcases hc with z | z
   . rw [z]; exact vj b u e
   . exact vj c _ z
end
def DF (K : PySem.W.Frag) (a b : Addr) : It := ⟨fun i H => ∃ xs ys x y, bh K H a xs /\ bh K H b ys /\ xs[i]? = some x /\ ys[i]? = some y, fun i H v H' => ∃ t x y, (∀ xs, bh K H a xs -> xs[i]? = some x) /\ (∀ ys, bh K H b ys -> ys[i]? = some y) /\ v = .ref t /\ H t = none /\ H' = upd H t (.tup [x, y]), fun i H => ∃ xs ys, bh K H a xs /\ bh K H b ys /\ (xs.length <= i \/ ys.length <= i)⟩
structure tP (h : Heap) (z TI TO i1 i2 : Addr) (a b : Addr) (i : Nat) : Prop where
 zp : IsZip h z TI TO .none
 ti : IsPair h TI (.ref i1) (.ref i2)
 to : ∃ u v, IsPair h TO u v
 l1 : h.IsListIter i1 a i
 l2 : h.IsListIter i2 b i
structure ZA (z TI TO i1 i2 : Addr) : Prop where
 TIz : TI ≠ z
 TOz : TO ≠ z
 i1z : i1 ≠ z
 i2z : i2 ≠ z
 TITO : TI ≠ TO
 TIi1 : TI ≠ i1
 TIi2 : TI ≠ i2
 TOi1 : TO ≠ i1
 TOi2 : TO ≠ i2
 i12 : i1 ≠ i2
theorem As (n : Nat) : ZA (n + 4) (n + 2) (n + 3) n (n + 1) := by
 have h : ∀ a b : Nat, ¬ a = b -> @Ne Addr a b := fun _ _ h => h
 constructor <;> (refine h _ _ ?_; omega)
theorem wR {n c : Nat} (h : c ∈ [n + 4, n + 2, n + 3, n, n + 1]) : n <= c := by
 have e' : c = n + 4 \/ c = n + 2 \/ c = n + 3 \/ c = n \/ c = n + 1 := by simpa using h
 omega
theorem cO {h : Heap} {l z : Addr} {az : Array Value} {o : Obj} (hl : h.IsList l az) (hz : h.get? z = some o) (hc : o.cls ≠ .type "list") : l ≠ z := by
 rintro rfl
 obtain ⟨o', e, c, _⟩ := hl
 rw [hz] at e
 cases e
 exact hc c
theorem cY {h : Heap} {l z : Addr} {az : Array Value} {b : Addr} {n : Nat} (hl : h.IsList l az) (hz : h.IsListIter z b n) : l ≠ z := by
 obtain ⟨o, e, c, _⟩ := hz
 exact cO hl e (by rw [c]; decide)
theorem tP.apart {h : Heap} {z TI TO i1 i2 a b : Addr} {i : Nat} {xs ys : Array Value} (st : tP h z TI TO i1 i2 a b i) (za : ZA z TI TO i1 i2) (h1 : h.IsList a xs) (h2 : h.IsList b ys) : ZipApart z TI TO i1 i2 a b := by
 obtain ⟨u, v, rX⟩ := st.to
 have nz : Value.type "zip" ≠ Value.type "list" := by decide
 have nt : Value.type "tuple" ≠ Value.type "list" := by decide
 exact ⟨za.TIz, za.TOz, za.i1z, za.i2z, za.TITO, za.TIi1, za.TIi2, za.TOi1, za.TOi2, za.i12, cO h1 st.zp nz, cO h1 rX nt, cY h1 st.l1, cY h1 st.l2, cO h2 st.zp nz, cO h2 rX nt, cY h2 st.l1, cY h2 st.l2⟩
theorem sX {P : Program} {w : World} {K : PySem.W.Frag} {elts : List Expr} {x1} {pos : Pos} {z TI TO i1 i2 a b : Addr} (za : ZA z TI TO i1 i2) :
 Turn P w K (.Tuple elts x1 pos) (DF K a b) [z, TI, TO, i1, i2] z (fun i h => tP h z TI TO i1 i2 a b i) where
 mem := by simp
 obj := fun i h st c hc => by
  have e' : c = z \/ c = TI \/ c = TO \/ c = i1 \/ c = i2 := by simpa using hc
  obtain ⟨u, v, rX⟩ := st.to
  rcases e' with rfl | rfl | rfl | rfl | rfl
  . exact ⟨_, st.zp, fun v z => by cases z⟩
  . exact ⟨_, st.ti, fun v z => by cases z⟩
  . exact ⟨_, rX, fun v z => by cases z⟩
  . obtain ⟨o, e1, c, d⟩ := st.l1
    exact ⟨o, e1, fun v z => by rw [d] at z; cases z⟩
  . obtain ⟨o, e1, c, d⟩ := st.l2
    exact ⟨o, e1, fun v z => by rw [d] at z; cases z⟩
 keep := fun i h h' st k => ⟨k z (by simp) _ st.zp, k TI (by simp) _ st.ti, let ⟨u, v, q⟩ := st.to; ⟨u, v, k TO (by simp) _ q⟩, st.l1.at fun o q => k i1 (by simp) o q, st.l2.at fun o q => k i2 (by simp) o q⟩
 item := by
  intro X hP hw hK hc i pins s σ H E I hf st hg
  subst hP hw hK
  obtain ⟨xs, ys, x, y, hq, p9, hx, hy⟩ := hg
  obtain ⟨az, rv, p, hz⟩ := I.list hq
  obtain ⟨t4, D1, p2, Ia⟩ := I.list p9
  obtain ⟨u, hu, ru⟩ := rv.get hx
  obtain ⟨u2, La, Lg⟩ := D1.get hy
  have ap := st.apart za p.isList p2.isList
  obtain ⟨ua, ub, rX⟩ := st.to
  have cq : ∀ c ∈ [z, TI, TO, i1, i2], c < s.heap.objs.size := by
   intro c hc
   have e' : c = z \/ c = TI \/ c = TO \/ c = i1 \/ c = i2 := by simpa using hc
   rcases e' with rfl | rfl | rfl | rfl | rfl
   . exact Heap.lt_size st.zp
   . exact Heap.lt_size st.ti
   . exact Heap.lt_size rX
   . obtain ⟨o, ho, _⟩ := st.l1; exact Heap.lt_size ho
   . obtain ⟨o, ho, _⟩ := st.l2; exact Heap.lt_size ho
  have hn : H s.heap.objs.size = none := I.aQ.fresh (Nat.le_refl _)
  refine wpAny_pyNext_zip_item ap st.zp st.ti rX st.l1 st.l2 p.isList p2.isList (x := u) (y := u2) (by simpa using hu) (by simpa using La) fun h' Ky FX CM oK ht IM kk => ?_
  refine ⟨_, rfl, wpAny_letOwnedTupleGo_zip (s := { s with heap := h' }) Ky fun h2 FD sb => ?_⟩
  replace sb : Heap.SameBut z h' h2 := sb
  let tb : Obj := { cls := .type "tuple", data := .seq #[u, u2] }
  have I1 : Inv X pins σ (upd H s.heap.objs.size (.tup [x, y])) { s with heap := s.heap.push tb } :=
   I.laid (t' := s.toks) (fun b u e => Heap.get?_push_of_some _ e) (Nat.le_refl _) (show bQ X.prog X.w _ _ _ (.tup [x, y]) from ⟨by rw [sizeLine_eq]; simp, [u, u2], .cons ru (.cons Lg .nil), IsTup.new _ _⟩)
  have He : ∀ c ∈ [z, TI, TO, i1, i2], upd H s.heap.objs.size (.tup [x, y]) c = none := fun c hc => by
   rw [aw (Nat.ne_of_lt (cq c hc))]; exact (hf c hc).1
  have I2 : Inv X pins σ (upd H s.heap.objs.size (.tup [x, y])) { s with heap := h2 } := by
   refine Inv.pD (s := { s with heap := s.heap.push tb }) (h' := h2) (t' := s.toks) (is := [z, TI, TO, i1, i2]) I1 (fun b u' hb q => ?_) (fun c hc => ⟨He c hc, (hf c hc).2⟩)
   have qM : b ≠ z /\ b ≠ TI /\ b ≠ TO /\ b ≠ i1 /\ b ≠ i2 := by simpa using hb
   by_cases Dd : b = s.heap.objs.size
   . subst Dd
     have e0 : (s.heap.push tb).get? s.heap.objs.size = some tb := Heap.get?_push_size _ rfl
     have e1 := e0.symm.trans q
     cases e1
     exact (sb.2 _ qM.1).trans ht
   . exact (sb.2 _ qM.1).trans (kk b u' qM.1 qM.2.2.1 qM.2.2.2.1 qM.2.2.2.2 (jK q Dd))
  refine ⟨.ref s.heap.objs.size, _, I2, rfl, ⟨_, x, y, fun ys hy => by rw [I.ip hy hq]; exact hx, fun ys Lw => by rw [I.ip Lw p9]; exact hy, rfl, hn, rfl⟩, ⟨FD, ?_, ⟨u, u2, (sb.2 _ za.TOz).trans FX⟩, CM.at fun o q => (sb.2 i1 za.i1z).trans q, oK.at fun o q => (sb.2 i2 za.i2z).trans q⟩, fun c hc => He c hc⟩
  exact (sb.2 _ za.TIz).trans (kk TI _ za.TIz za.TITO za.TIi1 za.TIi2 st.ti)
 done := by
  intro X hP hw hK hc i pins s σ H E I hf st hg
  subst hP hw hK
  obtain ⟨xs, ys, hq, p9, hx⟩ := hg
  obtain ⟨az, rv, p, hz⟩ := I.list hq
  obtain ⟨t4, D1, p2, Ia⟩ := I.list p9
  have hl := rv.length
  have qf := D1.length
  have ap := st.apart za p.isList p2.isList
  obtain ⟨ua, ub, rX⟩ := st.to
  refine wpAny_pyNext_zip_end (I.ok.hd hc) ap st.zp st.ti rX st.l1 st.l2 p.isList p2.isList (hx.imp (fun h => by simp; omega) (fun h => by simp; omega)) fun h' eb => ⟨rfl, ?_⟩
  exact I.pD (t' := s.toks) (is := [z, TI, TO, i1, i2]) (fun b o hb e => by
   have qM : b ≠ z /\ b ≠ TI /\ b ≠ TO /\ b ≠ i1 /\ b ≠ i2 := by simpa using hb
   exact eb b o qM.1 qM.2.2.1 qM.2.2.2.1 qM.2.2.2.2 e) hf
 self := fun A i s Q E st q => by
  exact wpAny_pyIter_zip st.zp q
def CL (K : PySem.W.Frag) (ta : TA) : TI := fun σ H R => ta σ H fun vs H1 => ∃ a b, vs = [.ref a, .ref b] /\ (∃ xs, bh K H1 a xs) /\ (∃ ys, bh K H1 b ys) /\ R (DF K a b) H1
theorem zX {X : Cx} {elts : List Expr} {x1} {sH : Pos} {a b : Expr} {ta : TA} {p pos : Pos} (hg : Gl X "zip") (hm : X.mg "zip" = none) (ha : PA X [a, b] ta) (hs : starEach [a, b] X.env = (false, eval a X.env) :: starEach [b] X.env := by rfl) (y4 : starEach [b] X.env = [(false, eval b X.env)] := by rfl) :
 PI X (.Tuple elts x1 sH) (.Call (.Name "zip" p) [a, b] [] pos) (CL X.K ta) := by
 intro pins s σ H R I h
 refine Call_ (eV I hg hm boot_zip (PyProof.Rows.callWith_type1 (bF (ha pos pins s σ H _ I h) fun us s1 ⟨vs, H1, I1, r1, q1⟩ => ?_) hs (by rw [y4]; rfl)))
 obtain ⟨l, l2, e, ⟨xs, hq⟩, ⟨ys, p9⟩, q⟩ := q1
 subst e
 cases r1 with
 | cons r rr =>
   cases rr with
   | cons r2 rr =>
   cases rr
   cases r
   cases r2
   obtain ⟨az, rv, p, hz⟩ := I1.list hq
   obtain ⟨t4, D1, p2, Ia⟩ := I1.list p9
   refine call_zip_2 p.isList p2.isList fun h' HC KC rX CM oK hsz hk => ?_
   refine wpAny_pyIter_zip HC ?_
   have za := As s1.heap.objs.size
   refine ⟨s1.heap.objs.size + 4, [s1.heap.objs.size + 4, s1.heap.objs.size + 2, s1.heap.objs.size + 3, s1.heap.objs.size, s1.heap.objs.size + 1], _, _, H1, rfl, I1.kept (t' := s1.toks) hk, sX (a := l) (b := l2) za, ⟨HC, KC, ⟨_, _, rX⟩, CM, oK⟩, fun c hc => ?_, q⟩
   have hle : s1.heap.objs.size <= c := wR hc
   exact I1.jJ hle (I1.aQ.fresh hle)
section
variable {σ : St} {H : Hp} {Q : VK} {D : Ends} {K : PySem.W.Frag}
def Dx (K : PySem.W.Frag) (vs : List V) (g : TG) (tb : TS) (D : Ends) (σ : St) (H1 : Hp) : Prop := ∃ a b, vs = [.ref a, .ref b] /\ (∃ xs, bh K H1 a xs) /\ (∃ ys, bh K H1 b ys) /\ ∃ W : Nat -> Nat -> St -> Hp -> Prop, (∃ m, W 0 m σ H1) /\ ∀ i m σ H, W i m σ H ->
 ((DF K a b).stop i H /\ D.nx σ H) \/ ((DF K a b).go i H /\ ∃ N : St -> Hp -> Prop, (∀ σ' H', N σ' H' -> ∃ m', m' < m /\ W (i + 1) m' σ' H') /\ ∀ x H', (DF K a b).wo i H x H' -> g x σ H' fun σ2 H2 => tb { D with nx := N, ct := N, bk := D.nx } σ2 H2)
theorem AW {ta : TA} {g : TG} {tb : TS} (h : ta σ H fun vs H1 => Dx K vs g tb D σ H1) : uP (CL K ta) g tb D σ H := h
theorem Fe {a b : Addr} {xs ys : List V} {g : TG} {tb : TS} (h1 : bh K H a xs) (h2 : bh K H b ys) (Pv : Nat -> St -> Hp -> Prop) (h0 : Pv 0 σ H) (hk : ∀ i σ H', Pv i σ H' -> ag H H')
 (hs : ∀ i x y t σ H', xs[i]? = some x -> ys[i]? = some y -> Pv i σ H' -> H' t = none -> g (.ref t) σ (upd H' t (.tup [x, y])) fun σ2 H2 => tb { D with nx := Pv (i + 1), ct := Pv (i + 1), bk := D.nx } σ2 H2) (hd : ∀ σ H', Pv (min xs.length ys.length) σ H' -> D.nx σ H') : Dx K [.ref a, .ref b] g tb D σ H := by
 refine ⟨a, b, rfl, ⟨xs, h1⟩, ⟨ys, h2⟩, fun i m σ H' => i <= min xs.length ys.length /\ m = min xs.length ys.length - i /\ Pv i σ H', ⟨_, Nat.zero_le _, rfl, h0⟩, ?_⟩
 rintro i m σ H' ⟨hi, hm, hp⟩
 have sm := hk i σ H' hp
 have k1 := ag.seq sm h1
 have k2 := ag.seq sm h2
 by_cases hc : i = min xs.length ys.length
 . subst hc
   refine .inl ⟨⟨xs, ys, k1, k2, ?_⟩, hd σ H' hp⟩
   omega
 . have hx : i < xs.length := by omega
   have hy : i < ys.length := by omega
   refine .inr ⟨⟨xs, ys, xs[i], ys[i], k1, k2, List.getElem?_eq_getElem hx, List.getElem?_eq_getElem hy⟩, Pv (i + 1), fun σ' H2 rL => ⟨min xs.length ys.length - (i + 1), by omega, by omega, rfl, rL⟩, fun v H2 Hh => ?_⟩
   obtain ⟨t, x, y, e1, e2, rfl, ht, rfl⟩ := Hh
   exact hs i x y t σ H' (e1 xs k1) (e2 ys k2) hp ht
end
end L2
set_option maxHeartbeats 4000000
namespace My
open PySem L2
local macro_rules | `(tactic| walk_at "same") => `(tactic| first
 | exact ag.refl _
 | assumption
 | (refine' ag.trans ?m ?s; (case s => assumption); (case m => walk_at "same")))
local macro_rules | `(tactic| walk_at "at") => `(tactic| first
 | assumption
 | exact aA
 | (refine' ag.at ?s ?m; (case s => assumption); (case m => walk_at "at")))
local macro_rules | `(tactic| walk_at "dat") => `(tactic| first
 | exact Dv.int _
 | exact Dv.aZ
 | exact Dv.bl _
 | exact Dv.str _
 | assumption
 | (refine' Dv.keeps ?s ?m; (case s => assumption); (case m => walk_at "dat")))
local macro_rules | `(tactic| walk_at "ins") => `(tactic| first
 | assumption
 | (refine' JE.keeps ?s ?m; (case s => assumption); (case m => walk_at "ins")))
local macro_rules | `(tactic| walk_at "dats") => `(tactic| first
 | exact aX.nil
 | (refine' aX.cons ?m ?s; (case m => walk_at "dat"); (case s => walk_at "dats"))
 | assumption
 | (refine' aX.keeps ?s ?m; (case s => assumption); (case m => walk_at "dats")))
local macro_rules | `(tactic| walk_at "sql") => `(tactic| first
 | assumption
 | (refine' ag.seq ?s ?m; (case s => assumption); (case m => walk_at "sql")))
local macro_rules | `(tactic| walk_at "isq") => `(tactic| first
 | (refine' Or.inl ?m; case m => walk_at "dat")
 | (refine' Or.inr ?m; case m => walk_at "dat"))
set_option hygiene false in
local macro_rules | `(tactic| walk_at "side") => `(tactic| first
 | omega
 | assumption
 | exact (by decide)
 | exact Bx (by omega) (by omega)
 | exact C1 ⟨by omega, by omega⟩ ⟨by omega, by omega⟩
 | exact ⟨by decide, by decide, by decide⟩)
set_option hygiene false in
local macro_rules | `(tactic| walk_at "use") => `(tactic| fail)
set_option hygiene false in
local macro_rules | `(tactic| walk_at "lk") => `(tactic| fail)
set_option hygiene false in
local macro_rules | `(tactic| walk_at "put") => `(tactic| fail)
set_option hygiene false in
local macro_rules | `(tactic| walk_at "fin") => `(tactic| fail)
set_option hygiene false in
local macro_rules | `(tactic| walk_at "wds") => `(tactic| first
 | with_reducible refine oB (ws := [_]) rfl ?_
 | with_reducible refine oB (ws := [_, _]) rfl ?_
 | with_reducible refine oB (ws := [_, _, _]) rfl ?_
 | with_reducible refine oB (ws := [_, _, _, _]) rfl ?_
 | with_reducible refine oB (ws := [_, _, _, _, _]) rfl ?_
 | with_reducible refine oB (ws := [_, _, _, _, _, _]) rfl ?_
 | with_reducible refine oB (ws := []) rfl ?_)
set_option hygiene false in
local macro_rules | `(tactic| walk_at "mks") => `(tactic| first
 | fail)
local macro_rules | `(tactic| walk_at "br") => `(tactic| ((with_reducible refine CP (fun hb => ?_) (fun hb => ?_)) <;> (try simp only [id, decide_eq_true_eq, decide_eq_false_iff_not, Bool.not_eq_true', Bool.not_eq_false', Bool.not_true, Bool.not_false, V.int.injEq, Bool.true_eq_false, Bool.false_eq_true, reduceCtorEq, decide_true, decide_false, not_true, not_false_iff, PyData.eqv, PyData.eqvAll, Bool.and_eq_true, Bool.and_eq_false_iff, Bool.or_eq_true, Bool.or_eq_false_iff, beq_iff_eq, beq_eq_false_iff_ne, ne_eq, bne_iff_ne, Bool.and_true, Bool.and_false, Bool.and_self, beq_self_eq_true, isInt, isBool, isStr, Ca, isTup, CF, List.length_cons, List.length_nil] at hb) <;> (try (exfalso; omega)) <;> (try (exfalso; (refine' FP hb ?d); (case d => walk_at "dat")))))
local macro_rules | `(tactic| walk_at "rd1") => `(tactic| first
 | with_reducible refine zr ?_
 | with_reducible refine C5 ?_
 | with_reducible refine CI ?_
 | with_reducible refine zH ?_
 | with_reducible refine BU ?_
 | ((with_reducible refine' C2 ?e ?_); case e => exact rfl)
 | with_reducible refine J1 ?_
 | with_reducible refine Fy ?_
 | with_reducible refine EY ?_
 | ((with_reducible refine' AJ ?e1 ?e2 ?_); (case e1 => exact ⟨by decide, by decide, by decide⟩); (case e2 => ((conv => lhs; simp only [Int.reduceToNat]) <;> exact rfl)))
 | ((with_reducible refine' K3 ?e ?_); case e => walk_at "side")
 | with_reducible refine yK ?_
 | with_reducible refine DT ?_
 | with_reducible refine wG ?_
 | with_reducible refine Fl ?_
 | with_reducible refine zc ?_
 | with_reducible refine DP ?_
 | with_reducible refine G0 ?_
 | with_reducible refine Dc ?_
 | with_reducible refine GC ?_
 | with_reducible refine zu ?_
 | with_reducible refine sy ?_
 | with_reducible refine qW ?_
 | walk_at "br"
 | with_reducible refine zS ?_
 | ((with_reducible refine' B9 ?e ?_); case e => exact rfl)
 | ((with_reducible refine' yf ?e1 ?e2 ?e3 ?e4 ?e5 ?_); (case e1 => walk_at "dat"); (case e2 => walk_at "dat"); (case e3 => first | rfl | assumption); (case e4 => first | rfl | assumption); (case e5 => first | exact Nat.le_of_ble_eq_true rfl | assumption))
 | ((with_reducible refine' lj ?e1 ?e2 ?_); (case e1 => walk_at "isq"); (case e2 => exact rfl))
 | ((with_reducible refine' sV ?e ?_); case e => walk_at "isq")
 | ((with_reducible refine' yO ?e ?_); case e => walk_at "sql")
 | with_reducible refine zN (fun _ _ _ _ => ?_)
 | ((with_reducible refine' A3 ?e (fun _ _ => ?_)); case e => walk_at "side")
 | with_reducible refine FH ?_
 | with_reducible refine jB ?_
 | with_reducible refine vI ?_
 | with_reducible refine qi (fun _ _ => ?_)
 | with_reducible refine vT (fun _ _ => ?_)
 | with_reducible refine zz ?_
 | ((with_reducible refine' Ay ?e1 ?e2 (fun _ _ _ _ => ?_)); (case e1 => exact gm rfl); (case e2 => walk_at "dats"))
 | with_reducible refine AB ?_
 | ((with_reducible refine' tX ?e1 ?e2 (fun _ _ _ _ _ _ _ => ?_)); (case e1 => exact gm rfl); (case e2 => walk_at "dats"))
 | with_reducible refine AI ?_
 | with_reducible refine Ck ?_
 | with_reducible refine w4 ?_
 | ((with_reducible refine' zB ?e1 ?e2 ?_); (case e1 => omega); (case e2 => omega))
 | walk_at "wds"
 | walk_at "mks"
 | walk_at "use"
 | walk_at "fin")
local macro_rules | `(tactic| walk_at "lat") => `(tactic| first
 | assumption
 | (refine' bI.keeps ?s ?m; (case s => assumption); (case m => walk_at "lat"))
 | (refine' bI.mv ?s ?n ?m; (case s => assumption); (case n => walk_at "nin"); (case m => walk_at "lat"))
 | fail)
local macro_rules | `(tactic| walk_at "nin") => `(tactic| first
 | (refine' uG ?n1; (case n1 => walk_at "ne"))
 | fail)
local macro_rules | `(tactic| walk_at "ne") => `(tactic| first
 | assumption
 | (refine Ne.symm ?_; assumption)
 | (refine' bI.ne ?h ?n; (case n => assumption); (case h => walk_at "lat"))
 | (refine' Ne.symm (bI.ne ?h ?n); (case n => assumption); (case h => walk_at "lat"))
 | fail)
local macro_rules | `(tactic| walk_at "dla") => `(tactic| first
 | assumption
 | (refine' iG.keeps ?s ?m; (case s => assumption); (case m => walk_at "dla"))
 | (refine' iG.mv ?s ?n ?m; (case s => assumption); (case n => walk_at "nin"); (case m => walk_at "dla"))
 | fail)
local macro_rules | `(tactic| walk_at "ne") => `(tactic| first
 | (refine' iG.ne ?h ?n; (case n => assumption); (case h => walk_at "dla"))
 | (refine' Ne.symm (iG.ne ?h ?n); (case n => assumption); (case h => walk_at "dla"))
 | fail)
local macro_rules | `(tactic| walk_at "imm") => `(tactic| first
 | rfl
 | assumption
 | exact b6 (fun _ => rfl) _
 | (refine' bI.pe ?h; (case h => assumption))
 | fail)
local macro_rules | `(tactic| walk_at "dm") => `(tactic| first
 | exact fun _ h => h
 | (refine' uL ?a ?b; (case b => first | (refine' ag.Ly ?c; (case c => assumption)) | (refine' Mv.dm ?c; (case c => assumption)) | fail); (case a => walk_at "dm"))
 | fail)
local macro_rules | `(tactic| walk_at "none") => `(tactic| first
 | assumption
 | (refine' zG ?s ?m; (case m => assumption); (case s => walk_at "dm"))
 | fail)
local macro_rules | `(tactic| walk_at "same") => `(tactic| first
 | (refine' Mv.yu ?s ?m ?n; (case m => assumption); (case s => walk_at "same"); (case n => walk_at "none"))
 | fail)
local macro_rules | `(tactic| walk_at "mv") => `(tactic| first
 | exact Mv.refl
 | assumption
 | (refine' Mv.uU ?m ?s; (case s => assumption); (case m => walk_at "mv"))
 | (refine' Mv.step ?m ?s ?h; (case s => assumption); (case m => walk_at "mv"); (case h => walk_at "ours"))
 | fail)
local macro_rules | `(tactic| walk_at "ours") => `(tactic| first
 | (refine' yj (Or.inr ?h); (case h => walk_at "none"))
 | exact yj (Or.inl (by simp))
 | fail)
local macro_rules | `(tactic| walk_at "dat") => `(tactic| first
 | (refine' bI.dv ?m; (case m => walk_at "lat"))
 | fail)
local macro_rules | `(tactic| walk_at "dats") => `(tactic| first
 | (refine' Mv.xr ?s ?i ?m; (case s => assumption); (case i => walk_at "imm"); (case m => walk_at "dats"))
 | fail)
set_option hygiene false in
local macro_rules | `(tactic| walk_at "len") => `(tactic| first
 | (simp only [List.length_map, List.length_append, List.length_cons, List.length_nil]; omega)
 | omega
 | fail)
local macro_rules | `(tactic| walk_at "rd1") => `(tactic| first
 | ((with_reducible refine' xC ?e ?_); case e => walk_at "len")
 | with_reducible refine vz ?_
 | with_reducible refine yY (fun _ _ _ _ _ => ?_)
 | with_reducible refine wx ?_
 | with_reducible refine xq ?_
 | ((with_reducible refine' zZ ?e1 ?e2 ?e3 ?e4 (fun _ _ _ => ?_)); (case e1 => walk_at "dla"); (case e3 => walk_at "dat"); (case e2 => walk_at "len"); (case e4 => walk_at "imm"))
 | ((with_reducible refine' A0 ?e1 ?e2 ?_); (case e1 => walk_at "dla"); (case e2 => assumption))
 | with_reducible refine vo ?_
 | with_reducible refine Gg ?_
 | ((with_reducible refine' CN ?e ?_); case e => walk_at "lat")
 | ((with_reducible refine' BX ?e1 ?e2 ?e3 ?e4 (fun _ _ _ => ?_)); (case e1 => walk_at "lat"); (case e3 => walk_at "dat"); (case e2 => walk_at "len"); (case e4 => walk_at "imm"))
 | ((with_reducible refine' yT ?e1 ?e2 ?e3 (fun _ _ _ _ _ => ?_)); (case e1 => exact gm rfl); (case e2 => walk_at "dats"); (case e3 => exact rfl))
 | with_reducible refine tB ?_
 | with_reducible refine GL ?_
 | with_reducible refine Ab ?_
 | with_reducible refine rT ?_
 | with_reducible refine w5 ?_
 | with_reducible refine B5 ?_
 | ((with_reducible refine' sM ?e1 ?e2 (fun _ _ _ _ _ => ?_)); (case e1 => walk_at "dat"); (case e2 => walk_at "imm"))
 | ((with_reducible refine' Cw ?e ?_); case e => walk_at "dat")
 | ((with_reducible refine' zi ?e ?_); case e => walk_at "len")
 | ((with_reducible refine' Aj ?e ?_); case e => walk_at "dat")
 | ((with_reducible refine' lj ?e1 ?e2 ?_); (case e1 => walk_at "isq"); (case e2 => first | exact Bu | (refine' tS ?a ?b; (case a => omega); (case b => walk_at "len")) | fail))
 | fail)
local macro_rules | `(tactic| walk_at "rd1") => `(tactic| first
 | ((with_reducible refine' Bb _ ?e1 (fun _ _ _ _ _ => ?_)); (case e1 => walk_at "lat"))
 | ((with_reducible refine' uT ?e1 ?e2 ?e3 (fun _ _ _ _ _ => ?_)); (case e1 => walk_at "lat"); (case e2 => walk_at "lat"); (case e3 => walk_at "len"))
 | fail)
local macro_rules | `(tactic| walk_at "rd1") => `(tactic| first
 | ((with_reducible refine' yV ?e1 ?_); (case e1 => walk_at "dat"))
 | ((with_reducible refine' w6 ?e1 ?e2 (fun _ _ _ _ _ _ _ _ => ?_)); (case e1 => walk_at "dat"); (case e2 => walk_at "len"))
 | fail)
set_option hygiene false in
local macro_rules | `(tactic| walk_at "rd1") => `(tactic| first
 | fail)
set_option hygiene false in
local macro_rules | `(tactic| walk_at "rd1") => `(tactic| first
 | fail)
set_option hygiene false in
local macro_rules | `(tactic| walk_at "rd1") => `(tactic| first
 | with_reducible refine yZ ?_
 | with_reducible refine xk ?_
 | fail)
set_option hygiene false in
local macro_rules | `(tactic| walk_at "rd1") => `(tactic| first
 | fail)
set_option hygiene false in
local macro_rules | `(tactic| walk_at "rd1") => `(tactic| first
 | fail)
set_option hygiene false in
local macro_rules | `(tactic| walk_at "rd1") => `(tactic| first
 | with_reducible refine yE ?_
 | with_reducible refine zt ?_
 | fail)
set_option hygiene false in
local macro_rules | `(tactic| walk_at "rd1") => `(tactic| first
 | fail)
def top (i : Nat) : Stmt := PySem.Challenge.pw_wakefew_k48_whole_no_wakings_do_more.main.body.getD i (.Pass ⟨0, 0, 0, 0⟩)
set_option hygiene false in
local macro_rules | `(tactic| walk_at "scp") => `(tactic| exact ⟨rfl, rfl, rfl, by decide +kernel, rfl, by decide +kernel, by decide +kernel⟩)
abbrev iU : Stmt := top 1
theorem nX : aJ ["claim"] ["claim"] (ak iU) := by walk_at "scp"
abbrev de : Stmt := top 2
theorem fc : aJ ["wakings", "first", "last", "waking"] ["wakings", "first", "last"] (ak de) := by walk_at "scp"
abbrev iX : Stmt := top 4
theorem nY : aJ ["wakings", "claim"] ["wakings", "claim"] (ak iX) := by walk_at "scp"
abbrev dE : Stmt := top 5
theorem ml : aJ ["wakings", "claims"] ["wakings", "claims"] (ak dE) := by walk_at "scp"
abbrev eQ : Stmt := top 6
theorem mL : aJ ["wakings", "claims"] ["wakings", "claims"] (ak eQ) := by walk_at "scp"
abbrev bL : Stmt := top 7
theorem aE : aJ ["price", "claims", "points", "loads", "shares", "name", "first", "last", "weight", "held", "place"] ["price", "claims"] (ak bL) := by walk_at "scp"
abbrev nR : Stmt := top 9
theorem pX : aJ ["claims", "most", "price"] ["claims", "most"] (ak nR) := by walk_at "scp"
abbrev fP : Stmt := top 10
theorem mj : aJ ["claims", "price"] ["claims", "price"] (ak fP) := by walk_at "scp"
abbrev eN : Stmt := top 11
theorem b8 : aJ ["claims", "most", "low", "high", "middle"] ["claims", "most"] (ak eN) := by walk_at "scp"
abbrev c4 : Stmt := top 12
theorem kC : aJ ["claims", "ahead", "waking"] ["claims", "ahead", "waking"] (ak c4) := by walk_at "scp"
abbrev er : Stmt := top 13
theorem dF : aJ ["claims", "points", "gains", "place", "waking"] ["claims", "points"] (ak er) := by walk_at "scp"
abbrev fG : Stmt := top 14
theorem cn : aJ ["chains", "gains", "waking", "best", "chain", "gain"] ["chains", "gains", "waking"] (ak fG) := by walk_at "scp"
abbrev cg : Stmt := top 15
theorem ay : aJ ["claims", "most", "points", "gains", "best", "chains", "turn", "longer", "place", "waking", "weight", "wakings"] ["claims", "most"] (ak cg) := by walk_at "scp"
abbrev dn : Stmt := top 17
theorem jn : aJ ["_law_script", "_law_k"] ["_law_script", "_law_k"] (ak dn) := by walk_at "scp"
abbrev eK : Stmt := top 18
theorem dO : aJ ["_law_number"] ["_law_number"] (ak eK) := by walk_at "scp"
abbrev gQ : Stmt := top 19
theorem jk : aJ ["_law_cell", "_law_number"] ["_law_cell"] (ak gQ) := by walk_at "scp"
abbrev fH : Stmt := top 20
theorem bS : aJ ["_law_cell", "_law_k", "_law_some", "_law_sign", "_law_rest", "_law_place", "_law_tail"] ["_law_cell", "_law_k"] (ak fH) := by walk_at "scp"
abbrev et : Stmt := top 21
theorem cK : aJ ["_law_script", "_law_many", "_law_found", "_law_number"] ["_law_script", "_law_many"] (ak et) := by walk_at "scp"
abbrev dN : Stmt := top 22
theorem aC : aJ ["_law_script", "_law_many", "_law_shape", "_law_cells_here", "_law_way", "_law_found", "_law_k", "_law_cell", "_law_other", "_law_first", "_law_last", "_law_weight"] ["_law_script", "_law_many"] (ak dN) := by walk_at "scp"
abbrev eG : Stmt := top 23
theorem aR : aJ ["_law_claims_here", "_law_cell", "_law_many", "_law_found", "_law_k", "_law_first", "_law_last", "_law_within"] ["_law_claims_here", "_law_cell", "_law_many"] (ak eG) := by walk_at "scp"
abbrev mO : Stmt := top 24
theorem dQ : aJ ["_law_script", "_law_claims_here", "_law_most", "_law_total", "_law_sums", "_law_k", "_law_wakings", "_law_weight", "_law_left", "_law_cell"] ["_law_script"] (ak mO) := by walk_at "scp"
structure dR (K : PySem.W.Frag) (x q : Str) (s : Stmt) (d : Value) (f : Addr) : Prop where
 a : PySem.W.nsIn K mainGlobals x = some (some (.ref f))
 l : ∃ fd, cw K x q s f d fd
 k : PySem.W.keepIn K (.ref f) = true
structure Ls (K : PySem.W.Frag) (C : Addr) (x q : Str) (s : Stmt) (d : Value) (f : Addr) : Prop where
 a : PySem.W.findIn K (.ref C) x = some (some (.ref f))
 l : ∃ fd, cw K x q s f d fd
 k : PySem.W.keepIn K (.ref f) = true
 i : PySem.W.isFn K (.ref f) = true
structure Kd (K : PySem.W.Frag) (C : Addr) : Prop where
 pg : PySem.W.plainGet K C Str.empty = true
 hd : PySem.W.hasDictIn K C = true
 po : PySem.W.plainOver K C = true
 sa : PySem.W.findIn K (.ref C) "__setattr__" = some (some (.builtin "object.__setattr__"))
 t1 : PySem.W.findIn K (.ref C) "__class__" = some (some (.builtin "object.__class__"))
 t2 : PySem.W.mroIn K C (.type "object") = some true
 t3 : PySem.W.typeIn K (.ref C) = some (.type "type")
set_option genSizeOf false in
set_option genInjectivity false in
structure Ad where
 cE : Addr
 kq : FuncData
 aS : Addr
 fg : FuncData
 b7 : Addr
 jM : FuncData
 bB : Addr
 iw : FuncData
 bK : Addr
 jl : FuncData
 bD : Addr
 ia : FuncData
 fF : Addr
 o9 : FuncData
 bz : Addr
 hZ : FuncData
 bO : Addr
 i6 : FuncData
 a8 : Addr
 gC : FuncData
 bN : Addr
 ji : FuncData
 bC : Addr
 hX : FuncData
 aT : Addr
 e8 : FuncData
 aU : Addr
 eZ : FuncData
 bq : Addr
 gB : FuncData
 bP : Addr
 i5 : FuncData
 bA : Addr
 g7 : FuncData
 bo : Addr
 gk : FuncData
 aY : Addr
 fu : FuncData
 bu : Addr
 gJ : FuncData
 gI : Addr
 lX : FuncData
structure Txt (K : PySem.W.Frag) (mg : Str -> Option Value) (a : Ad) : Prop where
 iM : cw K "by_last" "by_last" iU a.cE (.none) a.kq
 kh : mg "by_last" = some (.ref a.cE)
 dc : cw K "first_within" "first_within" de a.aS (.none) a.fg
 fj : PySem.W.keepIn K (.ref a.aS) = true
 fm : mg "first_within" = some (.ref a.aS)
 iN : cw K "is_rung" "is_rung" iX a.b7 (.none) a.jM
 gY : PySem.W.keepIn K (.ref a.b7) = true
 gU : mg "is_rung" = some (.ref a.b7)
 fM : cw K "weight_of" "weight_of" dE a.bB (.none) a.iw
 eh : PySem.W.keepIn K (.ref a.bB) = true
 d5 : mg "weight_of" = some (.ref a.bB)
 gX : cw K "gave_way" "gave_way" eQ a.bK (.none) a.jl
 je : PySem.W.keepIn K (.ref a.bK) = true
 jj : mg "gave_way" = some (.ref a.bK)
 fO : cw K "shares_at" "shares_at" bL a.bD (.none) a.ia
 eJ : PySem.W.keepIn K (.ref a.bD) = true
 d7 : mg "shares_at" = some (.ref a.bD)
 n8 : cw K "thin" "thin" nR a.fF (.none) a.o9
 pT : PySem.W.keepIn K (.ref a.fF) = true
 pH : mg "thin" = some (.ref a.fF)
 fD : cw K "share_sum" "share_sum" fP a.bz (.none) a.hZ
 d8 : PySem.W.keepIn K (.ref a.bz) = true
 eT : mg "share_sum" = some (.ref a.bz)
 gL : cw K "price_of" "price_of" eN a.bO (.none) a.i6
 jf : PySem.W.keepIn K (.ref a.bO) = true
 ja : mg "price_of" = some (.ref a.bO)
 eS : cw K "new_weight" "new_weight" c4 a.a8 (.none) a.gC
 gu : PySem.W.keepIn K (.ref a.a8) = true
 gG : mg "new_weight" = some (.ref a.a8)
 gT : cw K "gains_of" "gains_of" er a.bN (.none) a.ji
 jm : PySem.W.keepIn K (.ref a.bN) = true
 i9 : mg "gains_of" = some (.ref a.bN)
 fw : cw K "best_last" "best_last" fG a.bC (.none) a.hX
 iy : PySem.W.keepIn K (.ref a.bC) = true
 ig : mg "best_last" = some (.ref a.bC)
 dq : cw K "best_wakings" "best_wakings" cg a.aT (.none) a.e8
 fh : PySem.W.keepIn K (.ref a.aT) = true
 fq : mg "best_wakings" = some (.ref a.aT)
 dj : cw K "_law_cell_at" "_law_cell_at" dn a.aU (.none) a.eZ
 bG : PySem.W.keepIn K (.ref a.aU) = true
 bH : mg "_law_cell_at" = some (.ref a.aU)
 d6 : cw K "_law_mixed" "_law_mixed" eK a.bq (.none) a.gB
 bY : PySem.W.keepIn K (.ref a.bq) = true
 bZ : mg "_law_mixed" = some (.ref a.bq)
 gW : cw K "_law_own" "_law_own" gQ a.bP (.none) a.i5
 iY : PySem.W.keepIn K (.ref a.bP) = true
 jb : mg "_law_own" = some (.ref a.bP)
 fT : cw K "_law_name" "_law_name" fH a.bA (.none) a.g7
 ie : PySem.W.keepIn K (.ref a.bA) = true
 iB : mg "_law_name" = some (.ref a.bA)
 d0 : cw K "_law_cells" "_law_cells" et a.bo (.none) a.gk
 gF : PySem.W.keepIn K (.ref a.bo) = true
 gD : mg "_law_cells" = some (.ref a.bo)
 dJ : cw K "_law_claims" "_law_claims" dN a.aY (.none) a.fu
 fU : PySem.W.keepIn K (.ref a.aY) = true
 fv : mg "_law_claims" = some (.ref a.aY)
 eY : cw K "_law_times" "_law_times" eG a.bu (.none) a.gJ
 gA : PySem.W.keepIn K (.ref a.bu) = true
 gE : mg "_law_times" = some (.ref a.bu)
 sO : cw K "law" "law" mO a.gI (.none) a.lX
 rS : mg "law" = some (.ref a.gI)
 bR : mg "enumerate" = none
 dM : mg "len" = none
 eU : mg "list" = none
 lD : mg "max" = none
 ke : mg "min" = none
 dh : mg "range" = none
 jY : mg "set" = none
 cC : mg "sorted" = none
 eW : mg "sum" = none
 mC : mg "zip" = none
theorem A4 {K : PySem.W.Frag} {h : Heap} {mg : Str -> Option Value} {cE aS b7 bB bK bD fF bz bO a8 bN bC aT aU bq bP bA bo aY bu gI : Addr}  (X : K.In h) (G : h.Ns mainGlobals mg)
 (iS : dR K "by_last" "by_last" iU (.none) cE)
 (cm : dR K "first_within" "first_within" de (.none) aS)
 (f6 : dR K "is_rung" "is_rung" iX (.none) b7)
 (dA : dR K "weight_of" "weight_of" dE (.none) bB)
 (eR : dR K "gave_way" "gave_way" eQ (.none) bK)
 (du : dR K "shares_at" "shares_at" bL (.none) bD)
 (lY : dR K "thin" "thin" nR (.none) fF)
 (dD : dR K "share_sum" "share_sum" fP (.none) bz)
 (eD : dR K "price_of" "price_of" eN (.none) bO)
 (c5 : dR K "new_weight" "new_weight" c4 (.none) a8)
 (ef : dR K "gains_of" "gains_of" er (.none) bN)
 (dC : dR K "best_last" "best_last" fG (.none) bC)
 (cj : dR K "best_wakings" "best_wakings" cg (.none) aT)
 (b9 : dR K "_law_cell_at" "_law_cell_at" dn (.none) aU)
 (cT : dR K "_law_mixed" "_law_mixed" eK (.none) bq)
 (eB : dR K "_law_own" "_law_own" gQ (.none) bP)
 (dw : dR K "_law_name" "_law_name" fH (.none) bA)
 (c0 : dR K "_law_cells" "_law_cells" et (.none) bo)
 (cL : dR K "_law_claims" "_law_claims" dN (.none) aY)
 (cW : dR K "_law_times" "_law_times" eG (.none) bu)
 (tH : dR K "law" "law" mO (.none) gI)
 (bR : PySem.W.nsIn K mainGlobals "enumerate" = some none)
 (dM : PySem.W.nsIn K mainGlobals "len" = some none)
 (eU : PySem.W.nsIn K mainGlobals "list" = some none)
 (lD : PySem.W.nsIn K mainGlobals "max" = some none)
 (ke : PySem.W.nsIn K mainGlobals "min" = some none)
 (dh : PySem.W.nsIn K mainGlobals "range" = some none)
 (jY : PySem.W.nsIn K mainGlobals "set" = some none)
 (cC : PySem.W.nsIn K mainGlobals "sorted" = some none)
 (eW : PySem.W.nsIn K mainGlobals "sum" = some none)
 (mC : PySem.W.nsIn K mainGlobals "zip" = some none)
 : ∃ a : Ad, a.gI = a.gI /\ Txt K mg a :=
 ⟨⟨cE, iS.l.choose, aS, cm.l.choose, b7, f6.l.choose, bB, dA.l.choose, bK, eR.l.choose, bD, du.l.choose, fF, lY.l.choose, bz, dD.l.choose, bO, eD.l.choose, a8, c5.l.choose, bN, ef.l.choose, bC, dC.l.choose, aT, cj.l.choose, aU, b9.l.choose, bq, cT.l.choose, bP, eB.l.choose, bA, dw.l.choose, bo, c0.l.choose, aY, cL.l.choose, bu, cW.l.choose, gI, tH.l.choose⟩, rfl, {
   iM := iS.l.choose_spec,
   kh := PySem.W.mg_of X G iS.a,
   dc := cm.l.choose_spec,
   fj := cm.k,
   fm := PySem.W.mg_of X G cm.a,
   iN := f6.l.choose_spec,
   gY := f6.k,
   gU := PySem.W.mg_of X G f6.a,
   fM := dA.l.choose_spec,
   eh := dA.k,
   d5 := PySem.W.mg_of X G dA.a,
   gX := eR.l.choose_spec,
   je := eR.k,
   jj := PySem.W.mg_of X G eR.a,
   fO := du.l.choose_spec,
   eJ := du.k,
   d7 := PySem.W.mg_of X G du.a,
   n8 := lY.l.choose_spec,
   pT := lY.k,
   pH := PySem.W.mg_of X G lY.a,
   fD := dD.l.choose_spec,
   d8 := dD.k,
   eT := PySem.W.mg_of X G dD.a,
   gL := eD.l.choose_spec,
   jf := eD.k,
   ja := PySem.W.mg_of X G eD.a,
   eS := c5.l.choose_spec,
   gu := c5.k,
   gG := PySem.W.mg_of X G c5.a,
   gT := ef.l.choose_spec,
   jm := ef.k,
   i9 := PySem.W.mg_of X G ef.a,
   fw := dC.l.choose_spec,
   iy := dC.k,
   ig := PySem.W.mg_of X G dC.a,
   dq := cj.l.choose_spec,
   fh := cj.k,
   fq := PySem.W.mg_of X G cj.a,
   dj := b9.l.choose_spec,
   bG := b9.k,
   bH := PySem.W.mg_of X G b9.a,
   d6 := cT.l.choose_spec,
   bY := cT.k,
   bZ := PySem.W.mg_of X G cT.a,
   gW := eB.l.choose_spec,
   iY := eB.k,
   jb := PySem.W.mg_of X G eB.a,
   fT := dw.l.choose_spec,
   ie := dw.k,
   iB := PySem.W.mg_of X G dw.a,
   d0 := c0.l.choose_spec,
   gF := c0.k,
   gD := PySem.W.mg_of X G c0.a,
   dJ := cL.l.choose_spec,
   fU := cL.k,
   fv := PySem.W.mg_of X G cL.a,
   eY := cW.l.choose_spec,
   gA := cW.k,
   gE := PySem.W.mg_of X G cW.a,
   sO := tH.l.choose_spec,
   rS := PySem.W.mg_of X G tH.a,
   bR := PySem.W.mg_none_of X G bR,
   dM := PySem.W.mg_none_of X G dM,
   eU := PySem.W.mg_none_of X G eU,
   lD := PySem.W.mg_none_of X G lD,
   ke := PySem.W.mg_none_of X G ke,
   dh := PySem.W.mg_none_of X G dh,
   jY := PySem.W.mg_none_of X G jY,
   cC := PySem.W.mg_none_of X G cC,
   eW := PySem.W.mg_none_of X G eW,
   mC := PySem.W.mg_none_of X G mC
 }⟩
def uk (K : PySem.W.Frag) : Sp := fun vs H Q _ => ∃ (l : Addr) (ns : List Int), vs = [.ref l] /\ bh K H l (ns.map V.int) /\ ns.length <= 63 /\ ∀ H', Q (.bl true) H'
section
variable {P : Program} {w : World} {K : PySem.W.Frag} {mg : Str -> Option Value} {base : Heap} {a : Ad}
def HI : PyData -> Bool
 | .int _ => true
 | _ => false
theorem Dq {H : Hp} {Q : VK} {v : V} {ds : List PyData} {i : Int} (hp : Dv H v (.list ds)) (zm : ds.all HI = true) (h0 : 0 <= i) (h1 : i < ds.length) (h : ∀ n, PyData.int n ∈ ds -> Q (.int n) H) : js K v (.int i) H Q := by
 obtain ⟨m, rfl⟩ := Int.eq_ofNat_of_zero_le h0
 have hi : m < ds.length := by omega
 have hm : ds[m] ∈ ds := List.getElem_mem hi
 have hb : HI ds[m] = true := List.all_eq_true.mp zm _ hm
 obtain ⟨n, hn⟩ : ∃ n, ds[m] = .int n := by
  cases e : ds[m] with
  | int n => exact ⟨n, rfl⟩
  | _ => rw [e] at hb; cases hb
 have e : kF ds (m : Int) = some (.int n) := ez (by rw [List.getElem?_eq_getElem hi, hn])
 exact lj (.inr hp) e (jB (h n (hn ▸ hm)))
local macro_rules | `(tactic| walk_at "rd1") => `(tactic| first
 | ((with_reducible refine' Dq ?e1 ?e2 ?e3 ?e4 (fun n hn => ?q)); (case e1 => walk_at "dat"); (case e2 => exact rfl); (case e3 => omega); (case e4 => (simp only [List.length_cons, List.length_nil]; omega)); (case' q => simp only [List.mem_cons, List.not_mem_nil, or_false, PyData.int.injEq] at hn))
 | fail)
def j7 : Sp := fun vs H Q _ => ∃ n, vs = [.int n] /\ ∀ r, 0 <= r -> r < 2147483647 -> Q (.int r) H
theorem mh {H : Hp} {Q : VK} {E : XK} {n : Int} (q : ∀ r, 0 <= r -> r < 2147483647 -> Q (.int r) H) : j7 [.int n] H Q E := ⟨n, rfl, q⟩
theorem t8 (T : Txt K mg a) : bJ P w K mg base ic 1 a.bq a.gB ["_law_number"] j7 := by
 refine T.d6.ok dO (fun vs H Q E h => ?_) (fun cV A outer s H vs Q E hr h => ?_)
 . obtain ⟨_, rfl, _⟩ := h; rfl
 . obtain ⟨n, rfl, q⟩ := h
   refine ⟨_, (ai (au (i := 0) dO.nd rfl (Or.inl rfl) (aj aB (aj b5 (aj aN (aj aB (pv 0) af) af) af) af))
    (ai (au (i := 0) dO.nd rfl (Or.inl rfl) (aj aB (aj b5 (pv 0) (aj aN (aj aM (pv 0) af) af)) af))
    (ao (aP (aj aB (aj b5 (aj aN (pv 0) af) (aj aN (aj aM (pv 0) af) af)) af))))), ?_⟩
   repeat' (walk_at "rd1")
   exact q _ (by assumption) (by omega)
theorem iJ (T : Txt K mg a) : ki P w K mg base 1 a.bq ["_law_number"] [] j7 :=
 ⟨⟨_, _, t8 T, T.d6.binds fun _ _ _ _ _ _ => .all fun us hl => match us, hl with | [_], _ => rfl, .nil⟩⟩
def oG : Sp := fun vs H Q _ => ∃ n, vs = [.int n] /\ ∀ r, Q (.int r) H
theorem Cr {H : Hp} {Q : VK} {E : XK} {n : Int} (q : ∀ r, Q (.int r) H) : oG [.int n] H Q E := ⟨n, rfl, q⟩
theorem zb (T : Txt K mg a) : bJ P w K mg base ic 2 a.bP a.i5 ["_law_cell"] oG := by
 have bU := iJ (P := P) (w := w) (base := base) T
 refine T.gW.ok jk (fun vs H Q E h => ?_) (fun cV A outer s H vs Q E hr h => ?_)
 . obtain ⟨_, rfl, _⟩ := h; rfl
 . obtain ⟨n, rfl, q⟩ := h
   refine ⟨_, (ai (fB (a7 (n6 hr.Bw) (aj aB (pv 0) af) af (bM _))
    (ao (aP (aj aM (pv 0) af)))
    cI)
    (ai (au (i := 1) jk.nd rfl (Or.inl rfl) (aF bU (hr.mono (by decide)) rfl T.bZ T.bY (ae (aj aM (pv 0) af) ah)))
    (ao (aP (aj aN (pv 1) (aj b5 af (aF bU (hr.mono (by decide)) rfl T.bZ T.bY (ae (aj aN (pv 1) af) ah)))))))), ?_⟩
   repeat' (walk_at "rd1")
   . exact q _
   . refine mh (fun r1 h1 h2 => ?_)
     repeat' (walk_at "rd1")
     refine mh (fun r2 h3 h4 => ?_)
     repeat' (walk_at "rd1")
     exact q _
theorem vU (T : Txt K mg a) : ki P w K mg base 2 a.bP ["_law_cell"] [] oG :=
 ⟨⟨_, _, zb T, T.gW.binds fun _ _ _ _ _ _ => .all fun us hl => match us, hl with | [_], _ => rfl, .nil⟩⟩
def nO (s : Str) : Prop := ∀ c ∈ s.cps.toList, c < 1114112
theorem nO.sub {s t : Str} (h : nO t) (k : ∀ c ∈ s.cps.toList, c ∈ t.cps.toList) : nO s := fun c hc => h c (k c hc)
theorem nO.app {s t : Str} (h : nO s) (k : nO t) : nO (s ++ t) := by
 intro c hc
 have : c ∈ (s.cps ++ t.cps).toList := hc
 rw [Array.toList_append] at this
 rcases List.mem_append.mp this with z | z
 . exact h c z
 . exact k c z
theorem nO.one {c : Nat} {t : Str} (h : nO t) (k : c ∈ t.cps.toList) : nO ⟨#[c]⟩ := by
 intro x hx
 have : x = c := by simpa using hx
 subst this; exact h x k
theorem nO.abc : nO "abcdefghijklmnopqrstuvwxyz" := by
 have h : ((Str.ofString "abcdefghijklmnopqrstuvwxyz").cps.toList.all fun c => decide (c < 1114112)) = true := by decide +kernel
 intro c hc
 exact of_decide_eq_true (List.all_eq_true.mp h c hc)
theorem ib : (Str.ofString "abcdefghijklmnopqrstuvwxyz").length = 26 := by decide +kernel
theorem pO (c : Nat) : (Str.mk #[c]).length = 1 := rfl
def D8 (s : Str) : Prop := s.length <= 200 /\ nO s
abbrev mJ : Str := Str.ofString "abcdefghijklmnopqrstuvwxyz"
theorem AX : ∀ i : Fin 26, mJ.cps.toList[i.val]? = some (97 + i.val) := by decide +kernel
def jV (c : Int) : Str := bW (bW mJ (some (c / 156 % 20)) none) none (some (c / 3120 % 6))
def lP (c : Int) : Int := c / 18720 % (((jV c).length : Nat) + 1)
def jv (c : Int) : Int := [1, 3, 5, 7, 9, 11].getD (c / 26 % 6).toNat 0
def oj (c k : Int) : Nat := 97 + ((c + k * jv c) % 26).toNat
def yp (c k : Int) : Str := bW (bW mJ (some (k * 7 % 26)) none) none (some (k % 3 * (c / 112320 % 2)))
def sk (c k : Int) : Str := ((bW (jV c) none (some (lP c)) ++ ⟨#[oj c k]⟩) ++ bW (jV c) (some (lP c)) none) ++ yp c k
theorem wQ (x y : Str) : (x ++ y).cps.toList = x.cps.toList ++ y.cps.toList := by show (x.cps ++ y.cps).toList = _; simp
theorem uK (c : Int) : jv c = 1 \/ jv c = 3 \/ jv c = 5 \/ jv c = 7 \/ jv c = 9 \/ jv c = 11 := by
 unfold jv
 have h0 : 0 <= c / 26 % 6 := by omega
 have h1 : c / 26 % 6 < 6 := by omega
 generalize c / 26 % 6 = z at *
 have : z = 0 \/ z = 1 \/ z = 2 \/ z = 3 \/ z = 4 \/ z = 5 := by omega
 rcases this with rfl | rfl | rfl | rfl | rfl | rfl <;> simp
theorem xt {c k k' : Int} (h0 : 0 <= k) (h1 : k < 26) (h2 : 0 <= k') (h3 : k' < 26) (h : sk c k = sk c k') : k = k' := by
 have e := congrArg (fun s : Str => s.cps.toList) h
 simp only [sk, wQ, List.append_assoc] at e
 have e2 := List.append_cancel_left e
 have e3 : oj c k = oj c k' := (List.cons.inj e2).1
 unfold oj at e3
 have e4 : (c + k * jv c) % 26 = (c + k' * jv c) % 26 := by omega
 rcases uK c with m | m | m | m | m | m <;> rw [m] at e4 <;> omega
theorem AV (c k : Int) : D8 (sk c k) := by
 have al : mJ.length = 26 := ib
 have l1 := cG mJ (some (c / 156 % 20)) none
 have l2 : (jV c).length <= _ := cG (bW mJ (some (c / 156 % 20)) none) none (some (c / 3120 % 6))
 have l3 := cG (jV c) none (some (lP c))
 have l4 := cG (jV c) (some (lP c)) none
 have l5 := cG mJ (some (k * 7 % 26)) none
 have l6 : (yp c k).length <= _ := cG (bW mJ (some (k * 7 % 26)) none) none (some (k % 3 * (c / 112320 % 2)))
 have r : nO (jV c) := (nO.abc.sub c9).sub c9
 have cq : oj c k < 1114112 := by
  unfold oj
  generalize c + k * jv c = z
  omega
 refine ⟨?_, (((r.sub c9).app ?_).app (r.sub c9)).app ((nO.abc.sub c9).sub c9)⟩
 . simp only [sk, Str.length_append, pO]; omega
 . intro d hd
   have : d = oj c k := by simpa using hd
   omega
def jH : Sp := fun vs H Q _ => ∃ c k, vs = [.int c, .int k] /\ 0 <= k /\ k < 100 /\ ∀ H', ag H H' -> Q (.str (sk c k)) H'
theorem wj {H : Hp} {Q : VK} {E : XK} {c k : Int} (h : 0 <= k /\ k < 100) (q : ∀ H', ag H H' -> Q (.str (sk c k)) H') : jH [.int c, .int k] H Q E := ⟨c, k, rfl, h.1, h.2, q⟩
theorem An {H : Hp} {Q : VK} {v : V} {ls : List Int} {i : Int} (hp : Dv H v (.list (ls.map PyData.int))) (h0 : 0 <= i) (h1 : i < ls.length) (h : Q (.int (ls.getD i.toNat 0)) H) : js K v (.int i) H Q := by
 obtain ⟨m, rfl⟩ := Int.eq_ofNat_of_zero_le h0
 have hi : m < ls.length := by omega
 refine lj (d := .int (ls.getD m 0)) (.inr hp) (ez (by rw [List.getElem?_map, List.getElem?_eq_getElem hi]; simp [List.getD_eq_getElem?_getD, hi])) (jB h)
theorem vq {H : Hp} {Q : VK} {i : Int} (h0 : 0 <= i) (h1 : i < 26) (h : Q (.str ⟨#[97 + i.toNat]⟩) H) : js K (.str (Str.ofString "abcdefghijklmnopqrstuvwxyz")) (.int i) H Q :=
 zk (by rw [ib]; decide) h0 (by rw [ib]; omega) fun c hc => by
  have e := AX ⟨i.toNat, by omega⟩
  have e2 : some c = some (97 + i.toNat) := hc.symm.trans e
  rw [Option.some.inj e2]; exact h
local macro_rules | `(tactic| walk_at "rd1") => `(tactic| first
 | ((with_reducible refine' An (ls := [1, 3, 5, 7, 9, 11]) ?e1 ?e2 ?e3 ?_); (case e1 => walk_at "dat"); (case e2 => omega); (case e3 => (simp only [List.length_cons, List.length_nil]; omega)))
 | ((with_reducible refine' zh ?e1 (fun _ => ?_)); (case e1 => walk_at "len"))
 | ((with_reducible refine' vq ?e1 ?e2 ?_); (case e1 => omega); (case e2 => omega))
 | fail)
set_option hygiene false in
local macro_rules | `(tactic| walk_at "len") => `(tactic| first
 | (simp only [Str.length_append, pO, ib] at *; omega)
 | fail)
theorem sQ (T : Txt K mg a) : bJ P w K mg base ic 1 a.bA a.g7 ["_law_cell", "_law_k"] jH := by
 refine T.fT.ok bS (fun vs H Q E h => ?_) (fun cV A outer s H vs Q E hr h => ?_)
 . obtain ⟨_, _, rfl, _⟩ := h; rfl
 . obtain ⟨c, k, rfl, k0, k1, q⟩ := h
   have al := ib
   refine ⟨_, (ai (au (i := 2) bS.nd rfl (Or.inl rfl) ud)
    (ai (au (i := 3) bS.nd rfl (Or.inl rfl) (aI cz (pv 2) (aj aB (aj aN (pv 0) (aj b5 (pv 1) (aI cz (a9 (pz (vs := [.int 1, .int 3, .int 5, .int 7, .int 9, .int 11]) rfl)) (aj aB (aj aM (pv 0) af) af) (fun _ _ => rfl)))) af) (fun _ _ => rfl)))
    (ai (au (i := 4) bS.nd rfl (Or.inl rfl) (bX fW (bX fW (pv 2) (b4 (aj aB (aj aM (pv 0) af) af)) dz) dz (b4 (aj aB (aj aM (pv 0) af) af))))
    (ai (au (i := 5) bS.nd rfl (Or.inl rfl) (aj aB (aj aM (pv 0) af) (aj aN (aW cF rfl T.dM PySem.boot_len (ae (pv 4) ah)) af)))
    (ai (au (i := 6) bS.nd rfl (Or.inl rfl) (bX fW (bX fW (pv 2) (b4 (aj aB (aj b5 (pv 1) af) af)) dz) dz (b4 (aj b5 (aj aB (pv 1) af) (aj aB (aj aM (pv 0) af) af)))))
    (ao (aP (aj lU (aj lU (aj lU (bX fW (pv 4) dz (b4 (pv 5))) (pv 3)) (bX fW (pv 4) (b4 (pv 5)) dz)) (pv 6))))))))), ?_⟩
   have hm : 0 <= [1, 3, 5, 7, 9, 11].getD (c / 26 % 6).toNat (0 : Int) /\ [1, 3, 5, 7, 9, 11].getD (c / 26 % 6).toNat (0 : Int) <= 11 := by
    have := uK c
    unfold jv at this
    omega
   repeat' (walk_at "rd1")
   exact q _ (by walk_at "same")
theorem rE (T : Txt K mg a) : ki P w K mg base 1 a.bA ["_law_cell", "_law_k"] [] jH :=
 ⟨⟨_, _, sQ T, T.fT.binds fun _ _ _ _ _ _ => .all fun us hl => match us, hl with | [_, _], _ => rfl, .nil⟩⟩
theorem rj (T : Txt K mg a) (s : Shared) (u : Value) : BindsTo s a.lX ⟨[u], []⟩ [("_law_script", u)] := by
 obtain ⟨oc, od, kV, doc, pm, an, cV, ct, r9, e, lk, rH⟩ := T.sO.ex
 rw [e]
 exact .of_eq rfl
theorem km (T : Txt K mg a) : bJ P w K mg base ic 1 a.aU a.eZ ["_law_script", "_law_k"] (oq K) := by
 refine T.dj.ok jn (fun vs H Q E h => ?_) (fun cV A outer s H vs Q E hr h => ?_)
 . obtain ⟨_, _, _, rfl, _⟩ := h; rfl
 . obtain ⟨l, ns, i, rfl, hl, h0, k⟩ := h
   refine ⟨_, (ai (fB (a7 pN (pv 1) (aW cF rfl T.dM PySem.boot_len (ae (pv 0) ah)) (bM _))
    (ao (aP (aI cz (pv 0) (pv 1) (fun _ _ => rfl))))
    cI)
    (ao (aP af))), ?_⟩
   repeat' (walk_at "rd1")
   . exact x3 hl (vQ h0 (by assumption)) k
   . rw [wz h0 (by assumption)] at k; exact k
theorem cR (T : Txt K mg a) : ki P w K mg base 1 a.aU ["_law_script", "_law_k"] [] (oq K) :=
 ⟨⟨_, _, km T, T.dj.binds fun _ _ _ _ _ _ => .all fun us hl => match us, hl with | [_, _], _ => rfl, .nil⟩⟩
def jU (K : PySem.W.Frag) : Sp := fun vs H Q _ => ∃ (l : Addr) (ns : List Int) (m : Int), vs = [.ref l, .int m] /\ bh K H l (ns.map V.int) /\ 0 <= m /\ m <= 200 /\ ∀ p H' (ms : List Int), ag H H' -> H p = none -> (ms.length : Int) = m -> bI H' p (ms.map PyData.int) -> Q (.ref p) H'
theorem vM {H : Hp} {Q : VK} {E : XK} {l : Addr} {ns : List Int} {m : Int} (h : bh K H l (ns.map V.int)) (h0 : 0 <= m) (h1 : m <= 200) (q : ∀ p H' (ms : List Int), ag H H' -> H p = none -> (ms.length : Int) = m -> bI H' p (ms.map PyData.int) -> Q (.ref p) H') : jU K [.ref l, .int m] H Q E := ⟨l, ns, m, rfl, h, h0, h1, q⟩
local macro_rules | `(tactic| walk_at "use") => `(tactic| first
 | with_reducible refine mh (fun _ _ _ => ?_)
 | with_reducible refine Cr (fun _ => ?_)
 | ((with_reducible refine' zo ?e1 ?e2 ?_); (case e1 => walk_at "sql"); (case e2 => omega))
 | ((with_reducible refine' vM ?e1 ?e2 ?e3 (fun _ _ _ _ _ _ _ => ?_)); (case e1 => walk_at "sql"); (case e2 => omega); (case e3 => omega))
 | ((with_reducible refine' wj ?e1 (fun _ _ => ?_)); (case e1 => omega))
 | fail)
theorem rZ (T : Txt K mg a) : bJ P w K mg base ic 2 a.bo a.gk ["_law_script", "_law_many"] (jU K) := by
 have bx := cR (P := P) (w := w) (base := base) T
 have bU := iJ (P := P) (w := w) (base := base) T
 refine T.d0.ok cK (fun vs H Q E h => ?_) (fun cV A outer s H vs Q E hr h => ?_)
 . obtain ⟨_, _, _, rfl, _⟩ := h; rfl
 . obtain ⟨l, ns, m, rfl, hl, m0, m1, q⟩ := h
   refine ⟨_, (ai (au (i := 2) cK.nd rfl (Or.inl rfl) (bX jz (pv 0) (b4 af) (b4 (aj aN af (pv 1)))))
    (ai (au (i := 3) cK.nd rfl (Or.inl rfl) (aF bx (hr.mono (by decide)) rfl T.bH T.bG (ae (pv 0) (ae af ah))))
    (ai (mZ PassesOwn.never (a7 pN (aW cF rfl T.dM PySem.boot_len (ae (pv 2) ah)) (pv 1) (bM _))
     (ai (au (i := 3) cK.nd rfl (Or.inl rfl) (aF bU (hr.mono (by decide)) rfl T.bZ T.bY (ae (aj aN (pv 3) (aW cF rfl T.dM PySem.boot_len (ae (pv 2) ah))) ah)))
     (ao (f7 (lA PySem.F.plainAttrs_list PySem.F.slot_list_append PySem.F.type_list_append c7 (pv 2) (ae (pv 3) ah))))))
    (ao (aP (pv 2)))))), ?_⟩
   repeat' (walk_at "rd1")
   obtain ⟨M, rfl⟩ := Int.eq_ofNat_of_zero_le m0
   refine uf 4 (4 + M) hl (fun p H1 g5 rK hp => ?_)
   have Hu : ((ns.drop 4).take (4 + M - 4)).length <= M := by rw [List.length_take]; omega
   generalize (ns.drop 4).take (4 + M - 4) = K5 at *
   repeat' (walk_at "rd1")
   refine px (fun r σ' H' => ∃ (num : Int) (ms : List Int), σ' = [some (.ref l), some (.int M), some (.ref p), some (.int num)] /\ Mv [p] H1 H' /\ bI H' p (ms.map PyData.int) /\ ms.length <= M /\ r = M - ms.length) ⟨_, _, K5, rfl, Mv.refl, hp, Hu, rfl⟩ ?_
   rintro r σ' H' ⟨num, ms, rfl, mv, sP, hle, rfl⟩
   repeat' (walk_at "rd1")
   . rename_i hb x x0 x1 H3 LZ J0
     refine ⟨M - (ms.length + 1), by omega, x, ms ++ [x], rfl, by walk_at "mv", by rw [List.map_append]; exact J0, by rw [List.length_append]; simp only [List.length_cons, List.length_nil]; omega, by rw [List.length_append]; rfl⟩
   . exact q p H' ms (by walk_at "same") rK (by omega) sP
theorem qE (T : Txt K mg a) : ki P w K mg base 2 a.bo ["_law_script", "_law_many"] [] (jU K) :=
 ⟨⟨_, _, rZ T, T.d0.binds fun _ _ _ _ _ _ => .all fun us hl => match us, hl with | [_, _], _ => rfl, .nil⟩⟩
abbrev C4 := Str × Int × Int × Int
def bV (c : C4) : PyData := .tuple [.str c.1, .int c.2.1, .int c.2.2.1, .int c.2.2.2]
structure oX (cs : List C4) : Prop where
 nm : ∀ c ∈ cs, D8 c.1
 wd : ∀ c ∈ cs, c.2.1 <= c.2.2.1
structure jr (cs : List C4) : Prop where
 ok : oX cs
 w1 : ∀ c ∈ cs, 1 <= c.2.2.2 /\ c.2.2.2 <= 10 ^ 12
 nd : (cs.map (·.1)).Nodup
theorem sr (c : Int) : ∀ m : Nat, m <= 26 -> ((List.range m).map fun i => sk c (i : Nat)).Nodup := fun m hm => by
 rw [List.Nodup, List.pairwise_map]
 refine List.Pairwise.imp_of_mem (fun ha hb AF e => AF ?_) List.nodup_range
 have h1 := List.mem_range.mp ha
 have h2 := List.mem_range.mp hb
 have := xt (by omega) (by omega) (by omega) (by omega) e
 omega
def gM (K : PySem.W.Frag) : Sp := fun vs H Q _ => ∃ (l : Addr) (ns : List Int) (m : Int), vs = [.ref l, .int m] /\ bh K H l (ns.map V.int) /\ 0 <= m /\ m <= 26 /\ ∀ p H' (cs : List C4), ag H H' -> H p = none -> (cs.length : Int) <= m -> jr cs -> bI H' p (cs.map bV) -> Q (.ref p) H'
theorem qO {H : Hp} {Q : VK} {E : XK} {l : Addr} {ns : List Int} {m : Int} (h : bh K H l (ns.map V.int)) (h0 : 0 <= m) (h1 : m <= 26) (q : ∀ p H' (cs : List C4), ag H H' -> H p = none -> (cs.length : Int) <= m -> jr cs -> bI H' p (cs.map bV) -> Q (.ref p) H') : gM K [.ref l, .int m] H Q E := ⟨l, ns, m, rfl, h, h0, h1, q⟩
set_option maxHeartbeats 0 in
theorem ou (T : Txt K mg a) : bJ P w K mg base ic 3 a.aY a.fu ["_law_script", "_law_many"] (gM K) := by
 have bx := cR (P := P) (w := w) (base := base) T
 have oR := vU (P := P) (w := w) (base := base) T
 have lG := qE (P := P) (w := w) (base := base) T
 have nK := rE (P := P) (w := w) (base := base) T
 refine T.dJ.ok aC (fun vs H Q E h => ?_) (fun cV A outer s H vs Q E hr h => ?_)
 . obtain ⟨_, _, _, rfl, _⟩ := h; rfl
 . obtain ⟨l, ns, m, rfl, hl, m0, m1, q⟩ := h
   refine ⟨_, (ai (au (i := 2) aC.nd rfl (Or.inl rfl) (aF oR (hr.mono (by decide)) rfl T.jb T.iY (ae (aF bx (hr.mono (by decide)) rfl T.bH T.bG (ae (pv 0) (ae af ah))) ah)))
    (ug (fB (a7 (n6 hr.Bw) (aj aB (aj aM (pv 2) af) af) af (bM _))
     (ao (au (i := 1) aC.nd rfl (Or.inl rfl) (aj aB (pv 1) af)))
     cI)
    (ai (au (i := 3) aC.nd rfl (Or.inl rfl) (aF lG (hr.mono (by decide)) rfl T.gD T.gF (ae (pv 0) (ae (aj b5 af (pv 1)) ah))))
    (ai (au (i := 4) aC.nd rfl (Or.inl rfl) (aj aB (pv 2) af))
    (ai (au (i := 5) aC.nd rfl (Or.inl rfl) (a9 ah))
    (ai (cH PassesOwn.never rfl (fV rfl T.dh (ae (pv 1) ah)) (aq (i := 6) aC.nd rfl (Or.inl rfl))
     (ai (au (i := 7) aC.nd rfl (Or.inl rfl) (aI cz (pv 3) (aj b5 af (pv 6)) (fun _ _ => rfl)))
     (ai (au (i := 8) aC.nd rfl (Or.inl rfl) (aI cz (pv 3) (aj aN (aj b5 af (pv 6)) af) (fun _ _ => rfl)))
     (ai (au (i := 9) aC.nd rfl (Or.inl rfl) (aj aN (aI cz (a9 (ae af (ae af (ae (aj me af af) (ae (aj eM af af) ah))))) (aj aB (aj aM (pv 2) af) af) (fun _ _ => rfl)) (aj aB (pv 7) (aI cz (a9 (ae af (ae af (ae (aj me af af) (ae (aj b5 af (pv 1)) ah))))) (pv 4) (fun _ _ => rfl)))))
     (ai (au (i := 10) aC.nd rfl (Or.inl rfl) (aj aN (pv 9) (aI cz (a9 (ae (aj aB (aj aM (pv 7) af) af) (ae (aj aB (aj aM (pv 7) af) af) (ae (aj aB (aj aM (pv 8) af) (aj me af af)) (ae (aj aB (aj aM (pv 7) af) af) ah))))) (pv 4) (fun _ _ => rfl))))
     (ai (au (i := 11) aC.nd rfl (Or.inl rfl) (aj aN af (aj aB (pv 8) (aI cz (a9 (ae af (ae af (ae (aj eM (aj me af af) af) ah)))) (aj aB (aj aM (pv 2) af) af) (fun _ _ => rfl)))))
     (ao (f7 (lA PySem.F.plainAttrs_list PySem.F.slot_list_append PySem.F.type_list_append c7 (pv 5) (ae (dG (ae (aF nK (hr.mono (by decide)) rfl T.iB T.ie (ae (aj aM (pv 2) af) (ae (pv 6) ah))) (ae (pv 9) (ae (pv 10) (ae (pv 11) ah))))) ah))))))))))
    (ao (aP (pv 5))))))))), ?_⟩
   obtain ⟨M0, rfl⟩ := Int.eq_ofNat_of_zero_le m0
   repeat' (walk_at "rd1")
   rename_i sh
   refine yR (fun σ' H' => ∃ M : Nat, M <= M0 /\ σ' = [some (.ref l), some (.int M), some (.int sh), none, none, none, none, none, none, none, none, none] /\ H' = H) ?_ ?_
   . repeat' (walk_at "rd1")
     . rename_i hb
       exact ⟨(((M0 : Nat) : Int) % 7).toNat, by omega, by rw [Int.toNat_of_nonneg (by omega)]; rfl, rfl⟩
     . exact ⟨M0, Nat.le_refl _, rfl, rfl⟩
   rintro σ0 H0 ⟨M, hM, rfl, rfl⟩
   repeat' (walk_at "rd1")
   rename_i pc H1 ms g5 rK Ce zE w0 w1 pf H2 ck mF Bz
   refine fY (fun j σ' H' => ∃ z6 z7 z8 z9 jq nG cs, σ' = [some (.ref l), some (.int M), some (.int sh), some (.ref pc), some (.int (sh % 4)), some (.ref pf), z6, z7, z8, z9, jq, nG] /\ Mv [pf] H2 H' /\ bI H' pf (cs.map bV) /\ cs.length = j /\ oX cs /\ (∀ c ∈ cs, 1 <= c.2.2.2 /\ c.2.2.2 <= 10 ^ 12) /\ cs.map (·.1) = (List.range j).map fun i => sk (sh / 48) (i : Nat)) ⟨_, _, _, _, _, _, [], rfl, Mv.refl, Bz, rfl, ⟨fun c h => by simp at h, fun c h => by simp at h⟩, fun c h => by simp at h, rfl⟩ ?_ ?_
   . rintro j σ' H' hj ⟨z6, z7, z8, z9, jq, nG, cs, rfl, mv, sP, q9, aQ, GH, Gv⟩
     have Iu : j < M := by simpa using hj
     have fin : ∀ (c : C4) H3 (σ2 : St) (z6 z7 z8 z9 jq nG : Option V), c.1 = sk (sh / 48) (0 + (j : Nat)) -> c.2.1 <= c.2.2.1 -> (1 <= c.2.2.2 /\ c.2.2.2 <= 10 ^ 12) -> Mv [pf] H2 H3 -> bI H3 pf (cs.map bV ++ [bV c]) -> σ2 = [some (.ref l), some (.int M), some (.int sh), some (.ref pc), some (.int (sh % 4)), some (.ref pf), z6, z7, z8, z9, jq, nG] -> ∃ z6 z7 z8 z9 jq nG cs, σ2 = [some (.ref l), some (.int M), some (.int sh), some (.ref pc), some (.int (sh % 4)), some (.ref pf), z6, z7, z8, z9, jq, nG] /\ Mv [pf] H2 H3 /\ bI H3 pf (cs.map bV) /\ cs.length = j + 1 /\ oX cs /\ (∀ c ∈ cs, 1 <= c.2.2.2 /\ c.2.2.2 <= 10 ^ 12) /\ cs.map (·.1) = (List.range (j + 1)).map fun i => sk (sh / 48) (i : Nat) := by
      intro c H3 σ2 z6 z7 z8 z9 jq nG hn hw KI m l2 e
      refine ⟨_, _, _, _, _, _, cs ++ [c], e, m, by rw [List.map_append]; exact l2, by simp [q9], ⟨fun d hd => ?_, fun d hd => ?_⟩, fun d hd => ?_, ?_⟩
      . rcases List.mem_append.mp hd with hd | hd
        . exact aQ.nm d hd
        . have : d = c := by simpa using hd
          subst this; rw [hn]; exact AV _ _
      . rcases List.mem_append.mp hd with hd | hd
        . exact aQ.wd d hd
        . have : d = c := by simpa using hd
          subst this; exact hw
      . rcases List.mem_append.mp hd with hd | hd
        . exact GH d hd
        . have : d = c := by simpa using hd
          subst this; exact KI
      . rw [List.map_append, Gv, List.range_succ, List.map_append, List.map_cons, List.map_nil, List.map_cons, List.map_nil, hn]
        rw [Int.zero_add]
     repeat' (walk_at "rd1")
     all_goals (refine' fin (_, _, _, _) _ _ _ _ _ _ _ _ ?e1 ?e2 ?e6 ?e3 ?e4 ?e5; (case e4 => assumption); (case e5 => exact rfl); (case e1 => exact rfl); (case e6 => (dsimp only; omega)); (case e3 => walk_at "mv"); (case e2 => (dsimp only; omega)))
   . rintro σ' H' ⟨z6, z7, z8, z9, jq, nG, cs, rfl, mv, sP, q9, aQ, GH, Gv⟩
     repeat' (walk_at "rd1")
     exact q pf H' cs (by walk_at "same") (by walk_at "none") (by omega) ⟨aQ, GH, by rw [Gv]; exact sr _ _ (by omega)⟩ sP
theorem mY (T : Txt K mg a) : ki P w K mg base 3 a.aY ["_law_script", "_law_many"] [] (gM K) :=
 ⟨⟨_, _, ou T, T.dJ.binds fun _ _ _ _ _ _ => .all fun us hl => match us, hl with | [_, _], _ => rfl, .nil⟩⟩
theorem yB {s : Str} (h : D8 s) : PyData.canLay0 (.str s) = true := by
 show s.cps.all (· < 0x110000) = true
 rw [Array.all_eq_true']
 intro c hc
 exact decide_eq_true (h.2 c (by simpa using hc))
theorem um : ∀ {cs : List C4}, (∀ c ∈ cs, D8 c.1) -> PyData.canLayAll0 (cs.map bV) = true
 | [], _ => rfl
 | c :: r, h => by
   have h1 := yB (h c List.mem_cons_self)
   simp only [List.map_cons, PyData.canLayAll0, bV, PyData.canLay0, Bool.and_true, Bool.true_and] at h1 ⊢
   rw [h1, Bool.true_and]
   exact um fun y hy => h y (List.mem_cons_of_mem _ hy)
theorem uo : ∀ cs : List C4, PyData.depthAll (cs.map bV) <= 3
 | [] => by simp [PyData.depthAll]
 | _ :: r => by have := uo r; simp only [List.map_cons, PyData.depthAll, bV, PyData.depth]; omega
theorem tI {H : Hp} {Q : VK} {f : Bool -> Bool} {x y : V} {cs : List C4} (h1 : Dv H x (.list (cs.map bV))) (h2 : Dv H y (.list [])) (hs : oX cs) (h : Q (.bl (f cs.isEmpty)) H) : sj K f x y H Q := by
 have e : PyData.eqv (.list (cs.map bV)) (.list []) = cs.isEmpty := by cases cs <;> rfl
 refine yf h1 h2 (by rw [PyData.canLay0]; exact um hs.nm) rfl ?_ (by rw [e]; exact h)
 have := uo cs
 rw [PyData.depth]
 omega
def wk (cs : List C4) (i : Int) : C4 := cs.getD i.toNat default
theorem Dg {H : Hp} {Q : VK} {v : V} {cs : List C4} {i : Int} (hp : Dv H v (.list (cs.map bV))) (hs : oX cs) (h0 : 0 <= i) (h1 : i < cs.length) (h : ∀ x, wk cs i ∈ cs -> (wk cs i).2.1 <= (wk cs i).2.2.1 -> Dv H x (.tuple [.str (wk cs i).1, .int (wk cs i).2.1, .int (wk cs i).2.2.1, .int (wk cs i).2.2.2]) -> Q x H) : js K v (.int i) H Q := by
 obtain ⟨m, rfl⟩ := Int.eq_ofNat_of_zero_le h0
 have hi : m < cs.length := by omega
 have ea : wk cs (m : Int) = cs[m] := by simp [wk, hi]
 rw [ea] at h
 have e : kF (cs.map bV) (m : Int) = some (bV cs[m]) := ez (by rw [List.getElem?_map, List.getElem?_eq_getElem hi]; rfl)
 exact lj (.inr hp) e (qi fun x hx => h x (List.getElem_mem hi) (hs.wd _ (List.getElem_mem hi)) hx)
local macro_rules | `(tactic| walk_at "rd1") => `(tactic| first
 | ((with_reducible refine' Dg ?e1 ?e2 ?e3 ?e4 (fun _ _ _ _ => ?_)); (case e1 => walk_at "dat"); (case e2 => assumption); (case e3 => omega); (case e4 => omega))
 | ((with_reducible refine' tI ?e1 ?e2 ?e3 ?_); (case e1 => walk_at "dat"); (case e2 => walk_at "dat"); (case e3 => assumption))
 | fail)
def ka : Sp := fun vs H Q _ => ∃ (v : V) (cs : List C4) (c m : Int), vs = [v, .int c, .int m] /\ Dv H v (.list (cs.map bV)) /\ oX cs /\ cs.length <= 100 /\ 0 <= m /\ m <= 20 /\ ∀ p H' (ts : List Int), ag H H' -> H p = none -> (ts.length : Int) = m -> bI H' p (ts.map PyData.int) -> Q (.ref p) H'
theorem vy {H : Hp} {Q : VK} {E : XK} {v : V} {cs : List C4} {c m : Int} (h : Dv H v (.list (cs.map bV))) (hs : oX cs) (hl : cs.length <= 100) (h0 : 0 <= m) (h1 : m <= 20) (q : ∀ p H' (ts : List Int), ag H H' -> H p = none -> (ts.length : Int) = m -> bI H' p (ts.map PyData.int) -> Q (.ref p) H') : ka [v, .int c, .int m] H Q E := ⟨v, cs, c, m, rfl, h, hs, hl, h0, h1, q⟩
set_option maxHeartbeats 0 in
theorem si (T : Txt K mg a) : bJ P w K mg base ic 2 a.bu a.gJ ["_law_claims_here", "_law_cell", "_law_many"] ka := by
 have bU := iJ (P := P) (w := w) (base := base) T
 refine T.eY.ok aR (fun vs H Q E h => ?_) (fun cV A outer s H vs Q E hr h => ?_)
 . obtain ⟨_, _, _, _, rfl, _⟩ := h; rfl
 . obtain ⟨v, cs, c, m, rfl, hv, aQ, Eg, m0, m1, q⟩ := h
   refine ⟨_, (ai (au (i := 3) aR.nd rfl (Or.inl rfl) (a9 ah))
    (ai (cH PassesOwn.never rfl (fV rfl T.dh (ae (pv 2) ah)) (aq (i := 4) aR.nd rfl (Or.inl rfl))
     (ai (au (i := 1) aR.nd rfl (Or.inl rfl) (aF bU (hr.mono (by decide)) rfl T.bZ T.bY (ae (aj aN (pv 1) (pv 4)) ah)))
     (ai (au (i := 5) aR.nd rfl (Or.inl rfl) (aj aB (pv 1) af))
     (ai (au (i := 6) aR.nd rfl (Or.inl rfl) (pv 5))
     (ai (fB (a7 (oD hr.Bw) (pv 0) (a9 ah) (bM _))
      (ai (au (i := 5) aR.nd rfl (Or.inl rfl) (aI cz (aI cz (pv 0) (aj aB (pv 1) (aW cF rfl T.dM PySem.boot_len (ae (pv 0) ah))) (fun _ _ => rfl)) af (fun _ _ => rfl)))
      (ao (au (i := 6) aR.nd rfl (Or.inl rfl) (aI cz (aI cz (pv 0) (aj aB (pv 1) (aW cF rfl T.dM PySem.boot_len (ae (pv 0) ah))) (fun _ _ => rfl)) af (fun _ _ => rfl)))))
      cI)
     (ai (au (i := 7) aR.nd rfl (Or.inl rfl) (aj aN (pv 5) (aj aB (aj b5 (pv 1) (pv 1)) (aj aN (aj eM (pv 6) (pv 5)) af))))
     (ao (f7 (lA PySem.F.plainAttrs_list PySem.F.slot_list_append PySem.F.type_list_append c7 (pv 3) (ae (aI cz (a9 (ae (aj eM (pv 5) af) (ae (pv 5) (ae (pv 7) (ae (pv 6) (ae (aj aN (pv 6) af) (ae (pv 7) ah))))))) (aj aB (aj aM (pv 1) af) af) (fun _ _ => rfl)) ah))))))))))
    (ao (aP (pv 3))))), ?_⟩
   obtain ⟨M, rfl⟩ := Int.eq_ofNat_of_zero_le m0
   repeat' (walk_at "rd1")
   rename_i pf H2 ck mF Bz
   refine fY (fun j σ' H' => ∃ (cc : Int) (z4 z5 z6 z7 : Option V) (ts : List Int), σ' = [some v, some (.int cc), some (.int M), some (.ref pf), z4, z5, z6, z7] /\ ag H H' /\ bI H' pf (List.map PyData.int ts) /\ ts.length = j) ⟨_, _, _, _, _, [], rfl, ck, Bz, rfl⟩ ?_ ?_
   . rintro j σ' H' hj ⟨cc, z4, z5, z6, z7, ts, rfl, g6, sP, q9⟩
     have Iu : j < M := by simpa using hj
     have Bn : Dv H' v (.list (cs.map bV)) := hv.keeps g6
     have fin : ∀ (n : Int) H3 (σ2 : St) (cc : Int) (z4 z5 z6 z7 : Option V), ag H H3 -> bI H3 pf (ts.map PyData.int ++ [.int n]) -> σ2 = [some v, some (.int cc), some (.int M), some (.ref pf), z4, z5, z6, z7] -> ∃ (cc : Int) (z4 z5 z6 z7 : Option V) (ts : List Int), σ2 = [some v, some (.int cc), some (.int M), some (.ref pf), z4, z5, z6, z7] /\ ag H H3 /\ bI H3 pf (List.map PyData.int ts) /\ ts.length = j + 1 := by
      intro n H3 σ2 cc z4 z5 z6 z7 s3 l3 e
      exact ⟨_, _, _, _, _, ts ++ [n], e, s3, by rw [List.map_append]; exact l3, by simp [q9]⟩
     have key : 0 < cs.length \/ cs = [] := by
      cases cs with
      | nil => exact .inr rfl
      | cons _ _ => exact .inl (Nat.succ_pos _)
     rcases key with ui | rfl
     . repeat' (walk_at "rd1")
       all_goals (refine' fin _ _ _ _ _ _ _ _ ?e1 ?e2 ?e3; (case e2 => assumption); (case e3 => exact rfl); (case e1 => walk_at "same"))
     . repeat' (walk_at "rd1")
       . rename_i hb; cases hb
       all_goals (refine' fin _ _ _ _ _ _ _ _ ?e1 ?e2 ?e3; (case e2 => assumption); (case e3 => exact rfl); (case e1 => walk_at "same"))
   . rintro σ' H' ⟨cc, z4, z5, z6, z7, ts, rfl, g6, sP, q9⟩
     repeat' (walk_at "rd1")
     exact q pf H' ts g6 mF (by omega) sP
theorem q0 (T : Txt K mg a) : ki P w K mg base 2 a.bu ["_law_claims_here", "_law_cell", "_law_many"] [] ka :=
 ⟨⟨_, _, si T, T.eY.binds fun _ _ _ _ _ _ => .all fun us hl => match us, hl with | [_, _, _], _ => rfl, .nil⟩⟩
def cZ (ts : List Int) (f l : Int) : Option Int := ts.find? fun t => decide (f <= t) && decide (t <= l)
def iW : Sp := fun vs H Q _ => ∃ (v : V) (ts : List Int) (f l : Int), vs = [v, .int f, .int l] /\ Dv H v (.list (ts.map PyData.int)) /\ Q (ow (cZ ts f l)) H
theorem tT {H : Hp} {Q : VK} {E : XK} {v : V} {ts : List Int} {f l : Int} (h : Dv H v (.list (ts.map PyData.int))) (q : Q (ow (cZ ts f l)) H) : iW [v, .int f, .int l] H Q E := ⟨v, ts, f, l, rfl, h, q⟩
theorem qP (T : Txt K mg a) : bJ P w K mg base ic 1 a.aS a.fg ["wakings", "first", "last"] iW := by
 refine T.dc.ok fc (fun vs H Q E h => ?_) (fun cV A outer s H vs Q E hr h => ?_)
 . obtain ⟨_, _, _, _, rfl, _⟩ := h; rfl
 . obtain ⟨v, ts, f, l, rfl, hv, q⟩ := h
   refine ⟨_, (ai (cH PassesOwn.never rfl (bp (pv 0)) (aq (i := 3) fc.nd rfl (Or.inl rfl))
    (ao (fB (jF iz iz (pv 1) (pv 3) (pv 2))
     (ao (aP (pv 3)))
     cI)))
    (ao (aP gS))), ?_⟩
   repeat' (walk_at "rd1")
   refine GZ (cs := ts) (gd := PyData.int) hv (fun j σ' H' => ∃ z3, σ' = [some v, some (.int f), some (.int l), z3] /\ H' = H /\ cZ (ts.drop j) f l = cZ ts f l) ⟨_, rfl, rfl, by simp⟩ (fun i σ' H' _ ⟨_, _, e, _⟩ a' xs _ hx => by rw [e]; exact hx) ?_ ?_
   . rintro i c x σ' H' hc ⟨z3, rfl, rfl, he⟩ _ hd
     obtain rfl := (hd (ag.refl _)).int_inv
     have hi : i < ts.length := (List.getElem?_eq_some_iff.mp hc).1
     have yg : ts.drop i = c :: ts.drop (i + 1) := by
      rw [List.drop_eq_getElem_cons hi]
      rw [List.getElem?_eq_getElem hi] at hc
      rw [Option.some.inj hc]
     rw [yg] at he
     unfold cZ at he
     rw [List.find?_cons] at he
     repeat' (walk_at "rd1")
     . rename_i h1 h2
       rw [show (decide (f <= c) && decide (c <= l)) = true by simp [h1, h2]] at he
       have : cZ ts f l = some c := he.symm
       rw [this] at q
       exact q
     . rename_i h1 h2
       rw [show (decide (f <= c) && decide (c <= l)) = false by simp [h2]] at he
       exact ⟨_, rfl, rfl, he⟩
     . rename_i h1
       rw [show (decide (f <= c) && decide (c <= l)) = false by simp [h1]] at he
       exact ⟨_, rfl, rfl, he⟩
   . rintro σ' H' ⟨z3, rfl, rfl, he⟩
     rw [List.drop_length] at he
     repeat' (walk_at "rd1")
     rw [<- he] at q
     exact q
theorem oz (T : Txt K mg a) : ki P w K mg base 1 a.aS ["wakings", "first", "last"] [] iW :=
 ⟨⟨_, _, qP T, T.dc.binds fun _ _ _ _ _ _ => .all fun us hl => match us, hl with | [_, _, _], _ => rfl, .nil⟩⟩
local macro_rules | `(tactic| walk_at "use") => `(tactic| first
 | ((with_reducible refine' tT ?e1 ?_); (case e1 => walk_at "dat"))
 | fail)
def hit (ts : List Int) (c : C4) : Bool := (cZ ts c.2.1 c.2.2.1).isSome
theorem xE (o : Option Int) : decide (ow o = .aZ) = !o.isSome := by cases o <;> rfl
def oF : Sp := fun vs H Q _ => ∃ (v u : V) (ts : List Int) (c : C4), vs = [v, u] /\ Dv H v (.list (ts.map PyData.int)) /\ Dv H u (bV c) /\ Q (.bl (hit ts c)) H
theorem DN {H : Hp} {Q : VK} {E : XK} {v u : V} {ts : List Int} {c : C4} (h : Dv H v (.list (ts.map PyData.int))) (h2 : Dv H u (bV c)) (q : Q (.bl (hit ts c)) H) : oF [v, u] H Q E := ⟨v, u, ts, c, rfl, h, h2, q⟩
theorem y0 (T : Txt K mg a) : bJ P w K mg base ic 2 a.b7 a.jM ["wakings", "claim"] oF := by
 have j8 := oz (P := P) (w := w) (base := base) T
 refine T.iN.ok nY (fun vs H Q E h => ?_) (fun cV A outer s H vs Q E hr h => ?_)
 . obtain ⟨_, _, _, _, rfl, _⟩ := h; rfl
 . obtain ⟨v, u, ts, c, rfl, hv, hu, q⟩ := h
   unfold bV at hu
   refine ⟨_, (ao (aP (vZ wq (aF j8 (hr.mono (by decide)) rfl T.fm T.fj (ae (pv 0) (ae (aI cz (pv 1) af (fun _ _ => rfl)) (ae (aI cz (pv 1) af (fun _ _ => rfl)) ah)))) gS (bM _)))), ?_⟩
   repeat' (walk_at "rd1")
   show Q (.bl (!decide (ow (cZ ts c.2.1 c.2.2.1) = .aZ))) H
   rw [xE, Bool.not_not]
   exact q
theorem qt (T : Txt K mg a) : ki P w K mg base 2 a.b7 ["wakings", "claim"] [] oF :=
 ⟨⟨_, _, y0 T, T.iN.binds fun _ _ _ _ _ _ => .all fun us hl => match us, hl with | [_, _], _ => rfl, .nil⟩⟩
local macro_rules | `(tactic| walk_at "use") => `(tactic| first
 | ((with_reducible refine' DN ?e1 ?e2 ?_); (case e1 => walk_at "dat"); (case e2 => assumption))
 | fail)
def fE (ts : List Int) (cs : List C4) : Int := ((cs.filter (hit ts)).map (·.2.2.2)).sum
def xl (ts : List Int) (cs : List C4) : List Str := (cs.filter fun c => !hit ts c).map (·.1)
def o1 : Sp := fun vs H Q _ => ∃ (v u : V) (ts : List Int) (cs : List C4), vs = [v, u] /\ Dv H v (.list (ts.map PyData.int)) /\ Dv H u (.list (cs.map bV)) /\ cs.length <= 60 /\ ∀ H', ag H H' -> Q (.int (fE ts cs)) H'
theorem xW {H : Hp} {Q : VK} {E : XK} {v u : V} {ts : List Int} {cs : List C4} (h : Dv H v (.list (ts.map PyData.int))) (h2 : Dv H u (.list (cs.map bV))) (hl : cs.length <= 60) (q : ∀ H', ag H H' -> Q (.int (fE ts cs)) H') : o1 [v, u] H Q E := ⟨v, u, ts, cs, rfl, h, h2, hl, q⟩
theorem y6 (T : Txt K mg a) : bJ P w K mg base ic 3 a.bB a.iw ["wakings", "claims"] o1 := by
 have iL := qt (P := P) (w := w) (base := base) T
 refine T.fM.ok ml (fun vs H Q E h => ?_) (fun cV A outer s H vs Q E hr h => ?_)
 . obtain ⟨_, _, _, _, rfl, _⟩ := h; rfl
 . obtain ⟨v, u, ts, cs, rfl, hv, hu, hl, q⟩ := h
   refine ⟨_, (ao (aP (aW (dS rfl) rfl T.eW PyProof.Rows.boot_sum (ae (fN (T := ["claim"]) (M := ["wakings", "claims"]) (rF (ak dE) ["wakings", "claims"] rfl rfl (by decide +kernel)) rfl (bp (pv 1)) (fun _ _ _ _ _ => (aq (i := 0) (show List.Nodup (["claim", "wakings", "claims"] : List Str) by decide +kernel) rfl (Or.inl rfl))) (cD (by decide)) (fun _ _ _ _ _ => (ik (kY (K := K) rfl (aF iL (hr.mono (by decide)) rfl T.gU T.gY (ae (pv 1) (ae (pv 0) ah))) (fun _ => rfl)))) (fun _ _ _ _ _ => (aI (kN (K := K) rfl) (pv 0) af (fun _ _ => rfl)))) ah)))), ?_⟩
   repeat' (walk_at "rd1")
   refine kd (cs := cs) (gd := bV) (hit ts) (fun c => .int c.2.2.2) hu (by omega) (fun _ => rfl) (fun x c H' N hc g6 iD yes no => ?_) (fun pq H5 kn xH EE => ?_)
   . repeat' (walk_at "rd1")
     refine cB (fun hb => ?_) (fun hb => no hb _ (ag.refl _))
     unfold bV at iD
     repeat' (walk_at "rd1")
     exact yes hb _ _ (ag.refl _) (.int _)
   . have Ga : bI H5 pq (((cs.filter (hit ts)).map (·.2.2.2)).map PyData.int) := by rw [List.map_map]; exact EE
     repeat' (walk_at "rd1")
     exact q _ (by walk_at "same")
theorem xj (T : Txt K mg a) : ki P w K mg base 3 a.bB ["wakings", "claims"] [] o1 :=
 ⟨⟨_, _, y6 T, T.fM.binds fun _ _ _ _ _ _ => .all fun us hl => match us, hl with | [_, _], _ => rfl, .nil⟩⟩
def oU : Sp := fun vs H Q _ => ∃ (v u : V) (ts : List Int) (cs : List C4), vs = [v, u] /\ Dv H v (.list (ts.map PyData.int)) /\ Dv H u (.list (cs.map bV)) /\ cs.length <= 60 /\ ∀ q H' ss, ag H H' -> H q = none -> ss.Perm (xl ts cs) -> Bl ss -> bI H' q (ss.map PyData.str) -> Q (.ref q) H'
theorem C3 {H : Hp} {Q : VK} {E : XK} {v u : V} {ts : List Int} {cs : List C4} (h : Dv H v (.list (ts.map PyData.int))) (h2 : Dv H u (.list (cs.map bV))) (hl : cs.length <= 60) (q : ∀ q H' ss, ag H H' -> H q = none -> ss.Perm (xl ts cs) -> Bl ss -> bI H' q (ss.map PyData.str) -> Q (.ref q) H') : oU [v, u] H Q E := ⟨v, u, ts, cs, rfl, h, h2, hl, q⟩
theorem Ba (T : Txt K mg a) : bJ P w K mg base ic 3 a.bK a.jl ["wakings", "claims"] oU := by
 have iL := qt (P := P) (w := w) (base := base) T
 refine T.gX.ok mL (fun vs H Q E h => ?_) (fun cV A outer s H vs Q E hr h => ?_)
 . obtain ⟨_, _, _, _, rfl, _⟩ := h; rfl
 . obtain ⟨v, u, ts, cs, rfl, hv, hu, hl, q⟩ := h
   refine ⟨_, (ao (aP (aW nV rfl T.cC PyProof.Rows.boot_sorted (ae (fN (T := ["claim"]) (M := ["wakings", "claims"]) (rF (ak eQ) ["wakings", "claims"] rfl rfl (by decide +kernel)) rfl (bp (pv 1)) (fun _ _ _ _ _ => (aq (i := 0) (show List.Nodup (["claim", "wakings", "claims"] : List Str) by decide +kernel) rfl (Or.inl rfl))) (cD (by decide)) (fun _ _ _ _ _ => (ik (zg (kY (K := K) rfl (aF iL (hr.mono (by decide)) rfl T.gU T.gY (ae (pv 1) (ae (pv 0) ah))) (fun _ => rfl))))) (fun _ _ _ _ _ => (aI (kN (K := K) rfl) (pv 0) af (fun _ _ => rfl)))) ah)))), ?_⟩
   repeat' (walk_at "rd1")
   refine kd (cs := cs) (gd := bV) (fun c => !hit ts c) (fun c => .str c.1) hu (by omega) (fun _ => rfl) (fun x c H' N hc g6 iD yes no => ?_) (fun pq H5 kn xH EE => ?_)
   . repeat' (walk_at "rd1")
     refine cB (fun hb => ?_) (fun hb => no hb _ (ag.refl _))
     unfold bV at iD
     repeat' (walk_at "rd1")
     exact yes hb _ _ (ag.refl _) (.str _)
   . have Ga : bI H5 pq ((xl ts cs).map PyData.str) := by unfold xl; rw [List.map_map]; exact EE
     have uW : (xl ts cs).length < 64 := by
      unfold xl
      rw [List.length_map]
      have := List.length_filter_le (fun c => !hit ts c) cs
      omega
     repeat' (walk_at "rd1")
     rename_i q6 H6 ss lI yD Kp El KO
     exact q _ _ ss (by walk_at "same") (by walk_at "none") Kp El KO
theorem vH (T : Txt K mg a) : ki P w K mg base 3 a.bK ["wakings", "claims"] [] oU :=
 ⟨⟨_, _, Ba T, T.gX.binds fun _ _ _ _ _ _ => .all fun us hl => match us, hl with | [_, _], _ => rfl, .nil⟩⟩
theorem bw (ts : List Int) (c : C4) : hit ts c = true ↔ ∃ t ∈ ts, c.2.1 <= t /\ t <= c.2.2.1 := by
 unfold hit cZ
 rw [List.find?_isSome]
 simp
theorem uw {l₁ l₂ : List Int} (h : l₁.Perm l₂) : l₁.sum = l₂.sum := by
 induction h with
 | nil => rfl
 | cons x _ ih => rw [List.sum_cons, List.sum_cons, ih]
 | swap x y l => simp only [List.sum_cons]; omega
 | trans _ _ h1 h2 => exact h1.trans h2
theorem take_snoc {α : Type} {l : List α} {j : Nat} {c : α} (h : l[j]? = some c) : l.take (j + 1) = l.take j ++ [c] := by
 rw [List.take_add_one, h]; rfl
theorem wC (xs ys : List Int) : (xs ++ ys).sum = xs.sum + ys.sum := by
 induction xs with
 | nil => simp
 | cons x r ih => simp only [List.cons_append, List.sum_cons, ih]; omega
def sf (P : C4 -> Bool) (g : C4 -> Int) (cs : List C4) : Int := ((cs.filter P).map g).sum
theorem iR (P : C4 -> Bool) (g : C4 -> Int) : sf P g [] = 0 := rfl
theorem bE (P : C4 -> Bool) (g : C4 -> Int) (c : C4) (cs : List C4) : sf P g (c :: cs) = (if P c = true then g c else 0) + sf P g cs := by
 unfold sf
 rw [List.filter_cons]
 split
 . rw [List.map_cons, List.sum_cons]
 . omega
theorem zy (P : C4 -> Bool) (g : C4 -> Int) (cs ds : List C4) : sf P g (cs ++ ds) = sf P g cs + sf P g ds := by
 unfold sf; rw [List.filter_append, List.map_append, wC]
theorem pA {P R : C4 -> Bool} {g h : C4 -> Int} : ∀ {cs : List C4}, (∀ c ∈ cs, P c = true -> R c = true /\ g c <= h c) -> (∀ c ∈ cs, R c = true -> 0 <= h c) -> sf P g cs <= sf R h cs
 | [], _, _ => by rw [iR, iR]; exact Int.le_refl _
 | c :: cs, h1, h2 => by
   have ih := pA (fun d hd => h1 d (List.mem_cons_of_mem _ hd)) (fun d hd => h2 d (List.mem_cons_of_mem _ hd))
   rw [bE, bE]
   by_cases hp : P c = true
   . obtain ⟨hr, hg⟩ := h1 c List.mem_cons_self hp
     rw [if_pos hp, if_pos hr]; omega
   . rw [if_neg hp]
     by_cases hr : R c = true
     . rw [if_pos hr]; have := h2 c List.mem_cons_self hr; omega
     . rw [if_neg hr]; omega
theorem yx {P R : C4 -> Bool} {g : C4 -> Int} : ∀ {cs : List C4}, (∀ c ∈ cs, 0 <= g c) -> sf (fun c => P c || R c) g cs <= sf P g cs + sf R g cs
 | [], _ => by rw [iR, iR, iR]; decide
 | c :: cs, h => by
   have ih := yx (P := P) (R := R) (fun d hd => h d (List.mem_cons_of_mem _ hd))
   have hc := h c List.mem_cons_self
   rw [bE, bE, bE]
   by_cases hp : P c = true
   . by_cases hr : R c = true
     . simp only [hp, hr, Bool.or_self, if_true]; omega
     . simp only [hp, hr, Bool.true_or, if_true, if_false, Bool.false_eq_true]; omega
   . by_cases hr : R c = true
     . simp only [hp, hr, Bool.or_true, if_true, if_false, Bool.false_eq_true]; omega
     . simp only [hp, hr, Bool.or_self, if_false, Bool.false_eq_true]; omega
theorem vF {P : C4 -> Bool} {g : C4 -> Int} {cs ds : List C4} (h : cs.Perm ds) : sf P g cs = sf P g ds := uw ((h.filter _).map _)
def con (p : Int) (c : C4) : Bool := decide (c.2.1 <= p) && decide (p <= c.2.2.1)
def load (f : Str -> Int) (cs : List C4) (p : Int) : Int := sf (con p) (fun c => f c.1) cs
theorem eE {p : Int} {c : C4} : con p c = true ↔ c.2.1 <= p /\ p <= c.2.2.1 := by simp [con]
theorem kL : ∀ (ds : List C4), ds ≠ [] -> ∃ c ∈ ds, ∀ d ∈ ds, d.2.1 <= c.2.1
 | [], h => absurd rfl h
 | [c], _ => ⟨c, by simp, fun d hd => by have : d = c := by simpa using hd
                                         rw [this]; exact Int.le_refl _⟩
 | c :: d :: r, _ => by
   obtain ⟨e, he, hm⟩ := kL (d :: r) (by simp)
   by_cases h : c.2.1 <= e.2.1
   . exact ⟨e, List.mem_cons_of_mem _ he, fun x hx => (List.mem_cons.mp hx).elim (fun z => z ▸ h) (hm x)⟩
   . exact ⟨c, List.mem_cons_self, fun x hx => (List.mem_cons.mp hx).elim (fun z => z ▸ Int.le_refl _) (fun z => by have := hm x z; omega)⟩
theorem rR {f : Str -> Int} {cs : List C4} {pr : Int} (h0 : 0 <= pr) (hf : ∀ c ∈ cs, 0 <= f c.1) (hl : ∀ c ∈ cs, load f cs c.2.1 <= pr) (t : Int) : load f cs t <= pr := by
 by_cases h : cs.filter (con t) = []
 . unfold load sf; rw [h]; exact h0
 . obtain ⟨c, hc, hm⟩ := kL _ h
   obtain ⟨KQ, Ke⟩ := List.mem_filter.mp hc
   refine Int.le_trans (pA (fun d hd hp => ⟨?_, Int.le_refl _⟩) (fun d hd _ => hf d hd)) (hl c KQ)
   have h1 := hm d (List.mem_filter.mpr ⟨hd, hp⟩)
   have h2 := eE.mp hp
   have h3 := eE.mp Ke
   exact eE.mpr ⟨h1, by omega⟩
theorem tV (t : Int) (ts : List Int) (c : C4) : hit (t :: ts) c = (con t c || hit ts c) := by
 rw [Bool.eq_iff_iff, Bool.or_eq_true, bw, bw, eE]
 simp
theorem pF {f : Str -> Int} {cs : List C4} {pr : Int} (h0 : 0 <= pr) (hf : ∀ c ∈ cs, 0 <= f c.1) (hl : ∀ c ∈ cs, load f cs c.2.1 <= pr) : ∀ ts : List Int, sf (hit ts) (fun c => f c.1) cs <= ts.length * pr
 | [] => by
   have : cs.filter (hit []) = [] := List.filter_eq_nil_iff.mpr fun c _ => by rw [bw]; simp
   unfold sf; rw [this]; simp
 | t :: ts => by
   have ih := pF h0 hf hl ts
   have e : hit (t :: ts) = fun c => con t c || hit ts c := funext (tV t ts)
   have h1 := yx (P := con t) (R := hit ts) (g := fun c => f c.1) (cs := cs) hf
   have h2 := rR h0 hf hl t
   unfold load at h2
   rw [e, List.length_cons]
   have : ((ts.length + 1 : Nat) : Int) * pr = ts.length * pr + pr := by rw [Int.natCast_add, Int.add_mul]; simp
   omega
theorem jZ {P : C4 -> Bool} {g : C4 -> Int} : ∀ cs : List C4, sf P g cs + sf (fun c => !P c) g cs = (cs.map g).sum
 | [] => rfl
 | c :: cs => by
   have ih := jZ (P := P) (g := g) cs
   rw [bE, bE, List.map_cons, List.sum_cons]
   by_cases hp : P c = true
   . simp only [hp, if_true, Bool.not_true, Bool.false_eq_true, if_false]; omega
   . simp only [hp, if_false, Bool.not_false, if_true, Bool.false_eq_true]; omega
structure xS (pr : Int) (cs : List C4) (f : Str -> Int) : Prop where
 nn : ∀ c ∈ cs, 0 <= f c.1
 le : ∀ c ∈ cs, f c.1 <= c.2.2.2
 ld : ∀ c ∈ cs, load f cs c.2.1 <= pr
theorem xS.first {pr : Int} {cs : List C4} {f : Str -> Int} (h0 : 0 <= pr) (h : xS pr cs f) (ts : List Int) : fE ts cs <= ts.length * pr + (cs.map fun c => c.2.2.2 - f c.1).sum := by
 have h1 := pF h0 h.nn h.ld ts
 have h2 := jZ (P := hit ts) (g := fun c => c.2.2.2 - f c.1) cs
 have h3 : 0 <= sf (fun c => !hit ts c) (fun c => c.2.2.2 - f c.1) cs := by
  have := pA (P := fun _ => false) (R := fun c => !hit ts c) (g := fun _ => 0) (h := fun c => c.2.2.2 - f c.1) (cs := cs) (fun c _ z => by cases z) (fun c hc _ => by have := h.le c hc; omega)
  have e : sf (fun _ => false) (fun _ => 0) cs = 0 := by unfold sf; rw [List.filter_eq_nil_iff.mpr (fun _ _ z => by cases z)]; rfl
  omega
 have h4 : fE ts cs = sf (hit ts) (fun c => f c.1) cs + sf (hit ts) (fun c => c.2.2.2 - f c.1) cs := by
  unfold fE sf
  induction cs.filter (hit ts) with
  | nil => rfl
  | cons c r ih => simp only [List.map_cons, List.sum_cons] at ih ⊢; omega
 omega
def dr (f : Str -> Int) (n : Str) (v : Int) : Str -> Int := fun x => if x = n then v else f x
theorem m5 {f : Str -> Int} {ds : List C4} {c : C4} {v p : Int} (hn : c.1 ∉ ds.map (·.1)) : load (dr f c.1 v) (ds ++ [c]) p = load f ds p + (if con p c = true then v else 0) := by
 unfold load
 rw [zy, bE, iR]
 have e1 : sf (con p) (fun d => dr f c.1 v d.1) ds = sf (con p) (fun d => f d.1) ds := by
  unfold sf
  congr 1
  refine List.map_congr_left fun d hd => ?_
  have : d.1 ≠ c.1 := fun z => hn (z ▸ List.mem_map_of_mem (List.mem_filter.mp hd).1)
  simp [dr, this]
 have e2 : dr f c.1 v c.1 = v := by simp [dr]
 rw [e1, e2]
 omega
def e7 (v : Int) (l : List Int) (hs : List Nat) : List Int := hs.foldl (fun l i => l.set i (l.getD i 0 + v)) l
theorem oW (v : Int) (l : List Int) (hs : List Nat) (i : Nat) : e7 v l (hs ++ [i]) = (e7 v l hs).set i ((e7 v l hs).getD i 0 + v) := by unfold e7; rw [List.foldl_append]; rfl
theorem iH (v : Int) : ∀ (hs : List Nat) (l : List Int), (e7 v l hs).length = l.length
 | [], _ => rfl
 | h :: hs, l => by show (e7 v (l.set h (l.getD h 0 + v)) hs).length = _; rw [iH v hs, List.length_set]
theorem lz (v : Int) : ∀ (hs : List Nat) (l : List Int), hs.Nodup -> ∀ i, i < l.length -> (e7 v l hs).getD i 0 = l.getD i 0 + (if i ∈ hs then v else 0)
 | [], l, _, i, _ => by show l.getD i 0 = _; simp
 | h :: hs, l, nd, i, hi => by
   obtain ⟨n1, n2⟩ := List.nodup_cons.mp nd
   show (e7 v (l.set h (l.getD h 0 + v)) hs).getD i 0 = _
   rw [lz v hs _ n2 i (by rw [List.length_set]; exact hi)]
   by_cases e : i = h
   . subst e
     have : (l.set i (l.getD i 0 + v)).getD i 0 = l.getD i 0 + v := by
      rw [List.getD_eq_getElem?_getD, List.getElem?_set_self hi]; rfl
     rw [this, if_neg n1, if_pos List.mem_cons_self]; omega
   . have : (l.set h (l.getD h 0 + v)).getD i 0 = l.getD i 0 := by
      rw [List.getD_eq_getElem?_getD, List.getElem?_set_ne (Ne.symm e), <- List.getD_eq_getElem?_getD]
     rw [this]
     by_cases m : i ∈ hs
     . rw [if_pos m, if_pos (List.mem_cons_of_mem _ m)]
     . rw [if_neg m, if_neg (by simp [e, m])]
def heldOf (ps : List Int) (c : C4) : List Nat := (ps.zipIdx.filter fun x => con x.1 c).map (·.2)
theorem df {ps : List Int} {c : C4} {i : Nat} : i ∈ heldOf ps c ↔ ∃ p, ps[i]? = some p /\ con p c = true := by
 unfold heldOf
 rw [List.mem_map]
 constructor
 . rintro ⟨⟨p, j⟩, h, rfl⟩
   obtain ⟨h1, h2⟩ := List.mem_filter.mp h
   exact ⟨p, List.mk_mem_zipIdx_iff_getElem?.mp h1, h2⟩
 . rintro ⟨p, h1, h2⟩
   exact ⟨(p, i), List.mem_filter.mpr ⟨List.mk_mem_zipIdx_iff_getElem?.mpr h1, h2⟩, rfl⟩
theorem wJ (ps : List Int) (c : C4) : (heldOf ps c).Nodup := by
 have h1 : (ps.zipIdx.map (·.2)).Nodup := by
  rw [List.zipIdx_map_snd]; exact List.nodup_range'
 exact h1.sublist (List.filter_sublist.map _)
theorem mD {ps : List Int} {c : C4} {i : Nat} (h : i ∈ heldOf ps c) : i < ps.length := by
 obtain ⟨p, h1, _⟩ := df.mp h
 exact (List.getElem?_eq_some_iff.mp h1).1
theorem sL (ps : List Int) (c : C4) : (heldOf ps c).length <= ps.length := by
 unfold heldOf
 rw [List.length_map]
 exact Nat.le_trans (List.length_filter_le _ _) (by rw [List.length_zipIdx]; exact Nat.le_refl _)
theorem qA {ps : List Int} {c : C4} {v : Int} {g : Int -> Int} : e7 v (ps.map g) (heldOf ps c) = ps.map fun p => g p + (if con p c = true then v else 0) := by
 have hl : (e7 v (ps.map g) (heldOf ps c)).length = ps.length := by rw [iH, List.length_map]
 refine List.ext_getElem (by rw [hl, List.length_map]) fun i h1 h2 => ?_
 have hi : i < ps.length := by omega
 have h3 := lz v (heldOf ps c) (ps.map g) (wJ ps c) i (by rw [List.length_map]; exact hi)
 rw [List.getD_eq_getElem?_getD, List.getElem?_eq_getElem h1, Option.getD_some] at h3
 rw [h3, List.getElem_map, List.getD_eq_getElem?_getD, List.getElem?_map, List.getElem?_eq_getElem hi]
 by_cases hc : con ps[i] c = true
 . rw [if_pos hc, if_pos (df.mpr ⟨_, List.getElem?_eq_getElem hi, hc⟩)]; rfl
 . rw [if_neg hc, if_neg (fun z => by
    obtain ⟨p, e1, e2⟩ := df.mp z
    rw [List.getElem?_eq_getElem hi] at e1
    cases e1
    exact hc e2)]; rfl
structure Pr (pr : Int) (ps : List Int) (f : Str -> Int) (ds : List C4) : Prop where
 nn : ∀ c ∈ ds, 0 <= f c.1 /\ f c.1 <= c.2.2.2
 ld : ∀ p ∈ ps, load f ds p <= pr
theorem Pr.step {pr mx v : Int} {ps : List Int} {f : Str -> Int} {ds : List C4} {c : C4} (h : Pr pr ps f ds) (hn : c.1 ∉ ds.map (·.1)) (hm : ∀ i ∈ heldOf ps c, (ps.map (load f ds)).getD i 0 <= mx) (hx : ∃ i ∈ heldOf ps c, mx = (ps.map (load f ds)).getD i 0) (hv : v = c.2.2.2 \/ v = pr - mx) (Bq : v <= c.2.2.2) (tu : v <= pr - mx) (hw : 1 <= c.2.2.2) : Pr pr ps (dr f c.1 v) (ds ++ [c]) := by
 have Fg : mx <= pr := by
  obtain ⟨i, hi, e⟩ := hx
  have hl := mD hi
  rw [List.getD_eq_getElem?_getD, List.getElem?_map, List.getElem?_eq_getElem hl] at e
  have : mx = load f ds ps[i] := e
  rw [this]; exact h.ld _ (List.getElem_mem hl)
 refine ⟨fun d hd => ?_, fun p hp => ?_⟩
 . rcases List.mem_append.mp hd with hd | hd
   . have : d.1 ≠ c.1 := fun z => hn (z ▸ List.mem_map_of_mem hd)
     simp only [dr, if_neg this]
     exact h.nn d hd
   . have : d = c := by simpa using hd
     subst this
     simp only [dr, if_true]
     omega
 . rw [m5 hn]
   have := h.ld p hp
   by_cases hc : con p c = true
   . rw [if_pos hc]
     obtain ⟨i, hi, rfl⟩ := List.getElem_of_mem hp
     have := hm i (df.mpr ⟨_, List.getElem?_eq_getElem hi, hc⟩)
     rw [List.getD_eq_getElem?_getD, List.getElem?_map, List.getElem?_eq_getElem hi] at this
     have : load f ds ps[i] <= mx := this
     omega
   . rw [if_neg hc]; omega
theorem Pr.shr {pr : Int} {ps : List Int} {f : Str -> Int} {ls cs : List C4} (h : Pr pr ps f ls) (hp : ls.Perm cs) (hm : ∀ c ∈ cs, c.2.1 ∈ ps) : xS pr cs f := by
 refine ⟨fun c hc => (h.nn c (hp.mem_iff.mpr hc)).1, fun c hc => (h.nn c (hp.mem_iff.mpr hc)).2, fun c hc => ?_⟩
 have := h.ld _ (hm c hc)
 unfold load at this ⊢
 rwa [vF hp] at this
theorem pG {H : Hp} {y : V} {d : PyData} (hy : Dv H y d) : ∀ {xs : List V} {ds : List PyData} (j : Nat), aX H xs ds -> aX H (xs.set j y) (ds.set j d)
 | [], [], _, _ => .nil
 | _ :: _, _ :: _, 0, .cons _ t => .cons hy t
 | _ :: _, _ :: _, j + 1, .cons h t => .cons h (pG hy j t)
theorem jT {d : PyData} (hd : jA d = true) {ds : List PyData} (j : Nat) (h : aV ds = true) : aV (ds.set j d) = true := by
 rw [dg] at h ⊢
 intro x hx
 rcases List.mem_or_eq_of_mem_set hx with h1 | rfl
 . exact h x h1
 . exact hd
theorem yS {D : Ends} {σ : St} {H : Hp} {to ti te : TE} {t : wK} (h : te σ H fun v H1 => to σ H1 fun o H2 => ti σ H2 fun i H3 => t o i v H3 fun H4 => D.nx σ H4) : sF te (DH to ti t) D σ H := h
theorem tq {H : Hp} {p : Addr} {ds : List PyData} {j : Nat} {k : Int} {y : V} {d : PyData} {R : Hp -> Prop} (hp : bI H p ds) (hk : sW ds.length k = some j) (hy : Dv H y d) (hi : jA d = true) (h : ∀ H2, Mv [p] H H2 -> bI H2 p (ds.set j d) -> R H2) : xJ (.ref p) (.int k) y H R := by
 obtain ⟨xs, e, dv, im⟩ := hp
 have m : Mv [p] H (upd H p (.lst (xs.set j y))) := .o3 e (by intro _ z; cases z)
 exact ⟨p, xs, k, j, rfl, rfl, e, by rw [dv.length]; exact hk, h _ m ⟨_, aA, m.xr (jT hi j im) (pG hy j dv), jT hi j im⟩⟩
local macro_rules | `(tactic| walk_at "rd1") => `(tactic| first
 | with_reducible refine yS ?_
 | ((with_reducible refine' tq ?e1 ?e2 ?e3 ?e4 (fun _ _ _ => ?_)); (case e1 => walk_at "lat"); (case e2 => exact rfl); (case e3 => walk_at "dat"); (case e4 => exact rfl))
 | fail)
def j6 (c : C4) : Int × Str := (c.2.2.1, c.1)
theorem xa (c : C4) : jA (bV c) = true := rfl
theorem wg {c d : C4} (h : bV c = bV d) : c = d := by
 obtain ⟨a, b, c, e⟩ := c
 obtain ⟨a', b', c', e'⟩ := d
 simp only [bV, PyData.tuple.injEq, List.cons.injEq, PyData.str.injEq, PyData.int.injEq, and_true] at h
 obtain ⟨rfl, rfl, rfl, rfl⟩ := h
 rfl
def fz : Sp := fun vs H Q _ => ∃ (v : V) (c : C4), vs = [v] /\ Dv H v (bV c) /\ ∀ y H', ag H H' -> Dv H' y (.tuple [.int (j6 c).1, .str (j6 c).2]) -> Q y H'
theorem oV {H : Hp} {Q : VK} {E : XK} {v : V} {c : C4} (h : Dv H v (bV c)) (q : ∀ y H', ag H H' -> Dv H' y (.tuple [.int (j6 c).1, .str (j6 c).2]) -> Q y H') : fz [v] H Q E := ⟨v, c, rfl, h, q⟩
theorem nH (T : Txt K mg a) : bJ P w K mg base ic 1 a.cE a.kq ["claim"] fz := by
 refine T.iM.ok nX (fun vs H Q E h => ?_) (fun cV A outer s H vs Q E hr h => ?_)
 . obtain ⟨_, _, rfl, _⟩ := h; rfl
 . obtain ⟨v, c, rfl, hv, q⟩ := h
   have Bn : Dv H v (.tuple [.str c.1, .int c.2.1, .int c.2.2.1, .int c.2.2.2]) := hv
   refine ⟨_, (ao (aP (dG (ae (aI cz (pv 0) af (fun _ _ => rfl)) (ae (aI cz (pv 0) af (fun _ _ => rfl)) ah))))), ?_⟩
   repeat' (walk_at "rd1")
   exact q _ _ (by walk_at "same") (by walk_at "dat")
theorem lL (T : Txt K mg a) : ki P w K mg base 1 a.cE ["claim"] [] fz :=
 ⟨⟨_, _, nH T, T.iM.binds fun _ _ _ _ _ _ => .all fun us hl => match us, hl with | [_], _ => rfl, .nil⟩⟩
def B6 (pr : Int) (ps : List Int) (f : Str -> Int) (L : List C4) : Prop := ∀ i c, L[i]? = some c -> ∃ p0 ∈ ps, con p0 c = true /\ (∀ p ∈ ps, con p c = true -> load f (L.take i) p <= load f (L.take i) p0) /\ f c.1 <= c.2.2.2 /\ f c.1 <= pr - load f (L.take i) p0 /\ (f c.1 = c.2.2.2 \/ f c.1 = pr - load f (L.take i) p0)
theorem cN {f : Str -> Int} {ds : List C4} {n : Str} {v p : Int} (hn : n ∉ ds.map (·.1)) : load (dr f n v) ds p = load f ds p := by
 unfold load sf
 congr 1
 refine List.map_congr_left fun d hd => ?_
 have : d.1 ≠ n := fun z => hn (z ▸ List.mem_map_of_mem (List.mem_filter.mp hd).1)
 simp only [dr, if_neg this]
theorem B6.step {pr mx v : Int} {ps : List Int} {f : Str -> Int} {ds : List C4} {c : C4} (h : B6 pr ps f ds) (hn : c.1 ∉ ds.map (·.1)) (hm : ∀ i ∈ heldOf ps c, (ps.map (load f ds)).getD i 0 <= mx) (hx : ∃ i ∈ heldOf ps c, mx = (ps.map (load f ds)).getD i 0) (hv : v = c.2.2.2 \/ v = pr - mx) (h1 : v <= c.2.2.2) (h2 : v <= pr - mx) : B6 pr ps (dr f c.1 v) (ds ++ [c]) := by
 intro i d hi
 by_cases cq : i < ds.length
 . rw [List.getElem?_append_left cq] at hi
   obtain ⟨p0, Ea, k1, k2, k3, k4, k5⟩ := h i d hi
   have hd : d.1 ≠ c.1 := fun z => hn (z ▸ List.mem_map_of_mem (List.mem_of_getElem? hi))
   have ht : (ds ++ [c]).take i = ds.take i := List.take_append_of_le_length (Nat.le_of_lt cq)
   have mF : c.1 ∉ (ds.take i).map (·.1) := fun z => hn (by rw [List.map_take] at z; exact List.mem_of_mem_take z)
   have e : dr f c.1 v d.1 = f d.1 := by simp only [dr, if_neg hd]
   refine ⟨p0, Ea, k1, fun p hp hc => ?_, ?_, ?_, ?_⟩
   . rw [ht, cN mF, cN mF]; exact k2 p hp hc
   . rw [e]; exact k3
   . rw [e, ht, cN mF]; exact k4
   . rw [e, ht, cN mF]; exact k5
 . have Jl : i = ds.length := by
    have := (List.getElem?_eq_some_iff.mp hi).1
    rw [List.length_append, List.length_singleton] at this
    omega
   subst Jl
   have hd : d = c := by simpa using hi.symm
   subst hd
   have ht : (ds ++ [d]).take ds.length = ds := by simp
   obtain ⟨j, hj, ej⟩ := hx
   obtain ⟨p0, Ea, KH⟩ := df.mp hj
   have e0 : mx = load f ds p0 := by rw [ej, List.getD_eq_getElem?_getD, List.getElem?_map, Ea]; rfl
   have e : dr f d.1 v d.1 = v := by simp only [dr, if_true]
   refine ⟨p0, List.mem_of_getElem? Ea, KH, fun p hp hc => ?_, ?_, ?_, ?_⟩
   . rw [ht, cN hn, cN hn, <- e0]
     obtain ⟨k, hk, rfl⟩ := List.getElem_of_mem hp
     have := hm k (df.mpr ⟨_, List.getElem?_eq_getElem hk, hc⟩)
     rwa [List.getD_eq_getElem?_getD, List.getElem?_map, List.getElem?_eq_getElem hk] at this
   . rw [e]; exact h1
   . rw [e, ht, cN hn, <- e0]; exact h2
   . rw [e, ht, cN hn, <- e0]; exact hv
def Exact (pr : Int) (cs : List C4) (f : Str -> Int) : Prop := ∃ (ls : List C4) (ps : List Int), ls.Perm cs /\ (ls.Pairwise fun c d => cQ (j6 d) (j6 c) = false) /\ (∀ x, x ∈ ps ↔ x ∈ cs.map (·.2.1)) /\ B6 pr ps f ls
def jC (f : Str -> Int) (cs : List C4) : List (Str × PyData) := cs.map fun c => (c.1, .int (f c.1))
theorem vB {f : Str -> Int} {n : Str} {v : Int} : ∀ {cs : List C4}, n ∈ cs.map (·.1) -> putD (jC f cs) n (.int v) = jC (dr f n v) cs := fun {cs} h => by
 have h1 : ((jC f cs).any fun kv => decide (kv.1 = n)) = true := by
  obtain ⟨c, hc, rfl⟩ := List.mem_map.mp h
  exact List.any_eq_true.mpr ⟨_, List.mem_map_of_mem hc, decide_eq_true rfl⟩
 unfold putD
 rw [if_pos h1]
 unfold jC
 rw [List.map_map]
 refine List.map_congr_left fun c _ => ?_
 simp only [Function.comp, dr]
 split <;> rfl
theorem wO {cs : List C4} {n : Str} (h : n ∉ cs.map (·.1)) : putD (jC (fun _ => 0) cs) n (.int 0) = jC (fun _ => 0) cs ++ [(n, .int 0)] := by
 have h1 : ¬ ((jC (fun _ => 0) cs).any fun kv => decide (kv.1 = n)) = true := by
  intro z
  obtain ⟨kv, IQ, e⟩ := List.any_eq_true.mp z
  obtain ⟨c, hc, rfl⟩ := List.mem_map.mp IQ
  exact h (List.mem_map.mpr ⟨c, hc, of_decide_eq_true e⟩)
 unfold putD
 rw [if_neg h1]
theorem wX {f : Str -> Int} {n : Str} {cs : List C4} (h : n ∈ cs.map (·.1)) : rP (jC f cs) n = some (.int (f n)) := by
 unfold rP
 cases e : (jC f cs).find? fun kv => decide (kv.1 = n) with
 | none =>
   obtain ⟨c, hc, rfl⟩ := List.mem_map.mp h
   have := List.find?_eq_none.mp e _ (List.mem_map_of_mem hc)
   simp at this
 | some kv =>
   have h1 := List.find?_some e
   obtain ⟨c, hc, rfl⟩ := List.mem_map.mp (List.mem_of_find?_eq_some e)
   have : c.1 = n := of_decide_eq_true h1
   subst this
   rfl
theorem eX {α : Type} (l : List α) : l.filter (fun _ => true) = l := List.filter_eq_self.mpr fun _ _ => rfl
theorem j5 : ∀ {xs ys : List Int}, xs.Nodup -> (∀ x ∈ xs, x ∈ ys) -> xs.length <= ys.length
 | [], _, _, _ => Nat.zero_le _
 | x :: xs, ys, h, hs => by
   obtain ⟨h1, h2⟩ := List.nodup_cons.mp h
   have hx := hs x List.mem_cons_self
   have ih := j5 (xs := xs) (ys := ys.erase x) h2 fun y hy => (List.mem_erase_of_ne (fun z : y = x => h1 (by rw [<- z]; exact hy))).mpr (hs y (List.mem_cons_of_mem _ hy))
   rw [List.length_erase_of_mem hx] at ih
   have : 0 < ys.length := List.length_pos_of_mem hx
   rw [List.length_cons]
   omega
theorem pV {α β : Type} {f : α -> β} {l : List α} {j : Nat} {c : α} (h : (l.map f).Nodup) (hc : l[j]? = some c) : f c ∉ (l.take j).map f := by
 intro hm
 obtain ⟨d, hd, e⟩ := List.mem_map.mp hm
 obtain ⟨i, hi, rfl⟩ := List.getElem_of_mem hd
 have jd : i < j := by rw [List.length_take] at hi; omega
 have nL : j < l.length := (List.getElem?_eq_some_iff.mp hc).1
 rw [List.Nodup, List.pairwise_map] at h
 have := List.pairwise_iff_getElem.mp h i j (by omega) nL jd
 rw [List.getElem_take] at e
 have u5 : l[j] = c := Option.some.inj ((List.getElem?_eq_getElem nL).symm.trans hc)
 rw [u5] at this
 exact this e
theorem pE (f : Str -> Int) (cs : List C4) : (jC f cs).length = cs.length := List.length_map ..
theorem uX (f : Str -> Int) (cs : List C4) (c : C4) : jC f (cs ++ [c]) = jC f cs ++ [(c.1, .int (f c.1))] := by unfold jC; rw [List.map_append]; rfl
theorem xx {n i : Nat} (h : i < n) : sW n (i : Int) = some i := by unfold sW; rw [if_pos (Int.natCast_nonneg _), if_pos (Int.ofNat_lt.mpr h)]; rfl
theorem tM {x y b : Addr} (h : b ∈ [x]) : b ∈ [x, y] := by
 have : b = x := by simpa using h
 rw [this]; exact List.mem_cons_self
def iK : Sp := fun vs H Q _ => ∃ (pr : Int) (v : V) (cs : List C4), vs = [.int pr, v] /\ Dv H v (.list (cs.map bV)) /\ jr cs /\ cs.length <= 60 /\ 0 <= pr /\ ∀ p H' f, ag H H' -> H p = none -> iG H' p (jC f cs) -> xS pr cs f -> Exact pr cs f -> Q (.ref p) H'
theorem nI {H : Hp} {Q : VK} {E : XK} {pr : Int} {v : V} {cs : List C4} (h : Dv H v (.list (cs.map bV))) (ho : jr cs) (hl : cs.length <= 60) (h0 : 0 <= pr) (q : ∀ p H' f, ag H H' -> H p = none -> iG H' p (jC f cs) -> xS pr cs f -> Exact pr cs f -> Q (.ref p) H') : iK [.int pr, v] H Q E := ⟨pr, v, cs, rfl, h, ho, hl, h0, q⟩
theorem rA (T : Txt K mg a) : bJ P w K mg base ic 5 a.bD a.ia ["price", "claims"] iK := by
 have qX := lL (P := P) (w := w) (base := base) T
 refine T.fO.ok aE (fun vs H Q E h => ?_) (fun cV A outer s H vs Q E hr h => ?_)
 . obtain ⟨_, _, _, rfl, _⟩ := h; rfl
 . obtain ⟨pr, v, cs, rfl, hv, aQ, hl, h0, q⟩ := h
   refine ⟨_, (ai (au (i := 2) aE.nd rfl (Or.inl rfl) (jS (fN (T := ["name", "first", "last", "weight"]) (M := ["price", "claims", "points", "loads", "shares", "05", "06", "07", "08", "held", "place"]) (rF (ak bL) ["price", "claims", "points", "loads", "shares", "name", "first", "last", "weight", "held", "place"] rfl rfl (by decide +kernel)) rfl (bp (pv 1)) (fun _ _ _ _ _ => (g8 (K := K) (n := 4) rfl rfl (av (aq (i := 0) (show List.Nodup (["name", "first", "last", "weight", "price", "claims", "points", "loads", "shares", "05", "06", "07", "08", "held", "place"] : List Str) by decide +kernel) rfl (Or.inl rfl)) (av (aq (i := 1) (show List.Nodup (["name", "first", "last", "weight", "price", "claims", "points", "loads", "shares", "05", "06", "07", "08", "held", "place"] : List Str) by decide +kernel) rfl (Or.inl rfl)) (av (aq (i := 2) (show List.Nodup (["name", "first", "last", "weight", "price", "claims", "points", "loads", "shares", "05", "06", "07", "08", "held", "place"] : List Str) by decide +kernel) rfl (Or.inl rfl)) (av (aq (i := 3) (show List.Nodup (["name", "first", "last", "weight", "price", "claims", "points", "loads", "shares", "05", "06", "07", "08", "held", "place"] : List Str) by decide +kernel) rfl (Or.inl rfl)) cf)))))) (fR (aD (by decide) (aD (by decide) (aD (by decide) (aD (by decide) dU))))) (fun _ _ _ _ _ => eP) (fun _ _ _ _ _ => (pv 1))) rfl rfl T.cC rfl T.jY))
    (ai (au (i := 3) aE.nd rfl (Or.inr rfl) (fN (T := ["point"]) (M := ["price", "claims", "points", "loads", "shares", "name", "first", "last", "weight", "held", "place"]) (rF (ak bL) ["price", "claims", "points", "loads", "shares", "name", "first", "last", "weight", "held", "place"] rfl rfl (by decide +kernel)) rfl (bp (pv 2)) (fun _ _ _ _ _ => (aq (i := 0) (show List.Nodup (["point", "price", "claims", "points", "loads", "shares", "name", "first", "last", "weight", "held", "place"] : List Str) by decide +kernel) rfl (Or.inl rfl))) (cD (by decide)) (fun _ _ _ _ _ => eP) (fun _ _ _ _ _ => af)))
    (ai (au (i := 4) aE.nd rfl (Or.inl rfl) uM)
    (ai (cH PassesOwn.never rfl (bp (pv 1)) (gP (n := 4) rfl (av (aq (i := 5) aE.nd rfl (Or.inl rfl)) (av (aq (i := 6) aE.nd rfl (Or.inr rfl)) (av (aq (i := 7) aE.nd rfl (Or.inr rfl)) (av (aq (i := 8) aE.nd rfl (Or.inl rfl)) cf)))))
     (ao (qj (tf hr) (pv 4) (pv 5) af rfl)))
    (ai (cH PassesOwn.never rfl (bp (tU qX (hr.mono (by decide)) rfl T.cC (xo rfl T.kh rfl) (ae (pv 1) ah))) (gP (n := 4) rfl (av (aq (i := 5) aE.nd rfl (Or.inl rfl)) (av (aq (i := 6) aE.nd rfl (Or.inr rfl)) (av (aq (i := 7) aE.nd rfl (Or.inr rfl)) (av (aq (i := 8) aE.nd rfl (Or.inl rfl)) cf)))))
     (ai (CG (i := 9) aE.nd rfl (Or.inl rfl) (T := ["place", "point"]) (M := ["price", "claims", "points", "loads", "shares", "name", "first", "last", "weight", "held", "010"]) (rF (ak bL) ["price", "claims", "points", "loads", "shares", "name", "first", "last", "weight", "held", "place"] rfl rfl (by decide +kernel)) rfl (lM rfl T.bR (ae (pv 2) ah)) (fun _ _ _ _ _ => (g8 (K := K) (n := 2) rfl rfl (av (aq (i := 0) (show List.Nodup (["place", "point", "price", "claims", "points", "loads", "shares", "name", "first", "last", "weight", "held", "010"] : List Str) by decide +kernel) rfl (Or.inl rfl)) (av (aq (i := 1) (show List.Nodup (["place", "point", "price", "claims", "points", "loads", "shares", "name", "first", "last", "weight", "held", "010"] : List Str) by decide +kernel) rfl (Or.inl rfl)) cf)))) (fR (aD (by decide) (aD (by decide) dU))) (fun _ _ _ _ _ => (ik (jF iz iz (pv 8) (pv 1) (pv 9)))) (fun _ _ _ _ _ => (pv 0)) rfl)
     (ai (qj (tf hr) (pv 4) (pv 5) (aW (k7 rfl) rfl T.ke PyProof.Rows.boot_min (ae (pv 8) (ae (aj eM (pv 0) (aW (qG rfl) rfl T.lD PyProof.Rows.boot_max (ae (fN (T := ["place"]) (M := ["price", "claims", "points", "loads", "shares", "name", "first", "last", "weight", "held", "010"]) (rF (ak bL) ["price", "claims", "points", "loads", "shares", "name", "first", "last", "weight", "held", "place"] rfl rfl (by decide +kernel)) rfl (bp (pv 9)) (fun _ _ _ _ _ => (aq (i := 0) (show List.Nodup (["place", "price", "claims", "points", "loads", "shares", "name", "first", "last", "weight", "held", "010"] : List Str) by decide +kernel) rfl (Or.inl rfl))) (cD (by decide)) (fun _ _ _ _ _ => eP) (fun _ _ _ _ _ => (aI (kN (K := K) rfl) (pv 4) (pv 0) (fun _ _ => rfl)))) ah))) ah))) rfl)
     (ao (cH PassesOwn.never rfl (bp (pv 9)) (aq (i := 10) aE.nd rfl (Or.inl rfl))
      (ao (zj (aj aN (aI cz (pv 3) (pv 10) (fun _ _ => rfl)) (vS (tf hr) (pv 4) (pv 5) (fun _ _ => rfl))) (zI (pv 3) (pv 10) set_list))))))))
    (ao (aP (pv 4)))))))), ?_⟩
   repeat' (walk_at "rd1")
   refine jN ?_
   repeat' (walk_at "rd1")
   refine kd (cs := cs) (gd := bV) (fun _ => true) (fun c => .int c.2.1) hv (by omega) (fun _ => rfl) (fun x c H2 N hc ck hx yes no => ?_) (fun q1 H1 g5 rK kA => ?_)
   . have g0 : Dv H2 x (.tuple [.str c.1, .int c.2.1, .int c.2.2.1, .int c.2.2.2]) := hx
     refine iE g0 (fun v1 v2 v3 v4 e1 e2 e3 e4 => ?_)
     obtain rfl := e1.str_inv
     obtain rfl := e2.int_inv
     obtain rfl := e3.int_inv
     obtain rfl := e4.int_inv
     refine cB (fun hb => ?_) (fun hb => by cases hb)
     repeat' (walk_at "rd1")
     exact yes rfl _ _ (ag.refl _) (.int _)
   have jo : Dv H1 (.ref q1) (.list ((cs.map (·.2.1)).map PyData.int)) := by
    have := kA.dv
    rw [eX] at this
    rw [List.map_map]; exact this
   refine kW jo (by rw [List.length_map]; omega) (fun q2 H2 ps ck mF cq kI p9 => ?_)
   have mE : ps.length <= 60 := by
    have := j5 (cq.imp fun h => Int.ne_of_lt h) (fun x hx => (kI x).mp hx)
    rw [List.length_map] at this
    omega
   repeat' (walk_at "rd1")
   refine kd (cs := ps) (gd := PyData.int) (fun _ => true) (fun _ => .int 0) p9.dv (by omega) (fun _ => rfl) (fun x c H3 N hc sm3 hx yes no => ?_) (fun q3 H3 sm3 qZ Cu => ?_)
   . obtain rfl := hx.int_inv
     repeat' (walk_at "rd1")
     refine cB (fun hb => ?_) (fun hb => by cases hb)
     repeat' (walk_at "rd1")
     exact yes rfl _ _ (ag.refl _) (.int _)
   rw [eX] at Cu
   repeat' (walk_at "rd1")
   rename_i q4 H4 mG uD GB
   have rC : ag H H3 := (g5.trans ck).trans sm3
   refine qh (Hb := H) (cs := cs) (gd := bV) hv (fun j σ' H' => ∃ z5 z6 z7 z8, σ' = [some (.int pr), some v, some (.ref q2), some (.ref q3), some (.ref q4), z5, z6, z7, z8, none, none] /\ ag H3 H' /\ iG H' q4 (jC (fun _ => 0) (cs.take j))) ⟨_, _, _, _, rfl, mG, GB⟩ (fun i σ' H' _ ⟨_, _, _, _, _, g6, _⟩ a' xs _ hx => ag.seq (rC.trans g6) hx) ?_ ?_
   . rintro j c x σ' H' hc ⟨z5, z6, z7, z8, rfl, g6, iD⟩ _ hd
     have hx : Dv H' x (.tuple [.str c.1, .int c.2.1, .int c.2.2.1, .int c.2.2.2]) := hd (rC.trans g6)
     have Ce : (jC (fun _ => 0) (cs.take j)).length <= 60 := by rw [pE, List.length_take]; omega
     refine iE hx (fun v1 v2 v3 v4 e1 e2 e3 e4 => ?_)
     obtain rfl := e1.str_inv
     obtain rfl := e2.int_inv
     obtain rfl := e3.int_inv
     obtain rfl := e4.int_inv
     repeat' (walk_at "rd1")
     rename_i H5 LD Ei
     rw [wO (pV aQ.nd hc)] at Ei
     exact ⟨_, _, _, _, rfl, by walk_at "same", by rw [take_snoc hc, uX]; exact Ei⟩
   rintro σ' H' ⟨z5, z6, z7, z8, rfl, g6, iD⟩
   rw [List.take_length] at iD
   have GV := g6
   have Bn : Dv H' v (.list (cs.map bV)) := hv.keeps (rC.trans g6)
   repeat' (walk_at "rd1")
   refine w9 (cs := cs) bV j6 xa (fun c c' h => by rw [wg h]) Bn (by omega) (fun c v' H' hc g6 hd => oV hd (fun y LL s d => ⟨s, d⟩)) (fun sq H5 ls kn xH jP wA EF => ?_)
   repeat' (walk_at "rd1")
   have B3 : bI H' q2 (ps.map PyData.int) := (p9.keeps sm3).keeps g6
   have DW : bI H' q3 (ps.map fun _ => PyData.int 0) := Cu.keeps g6
   have IY : q2 ≠ q3 := p9.ne qZ
   have KZ : q2 ≠ q4 := (p9.keeps sm3).ne uD
   have Fv : q3 ≠ q4 := Cu.ne uD
   have Mj : q2 ≠ sq := B3.ne xH
   have JU : q3 ≠ sq := DW.ne xH
   have JA : q4 ≠ sq := iD.ne xH
   have EX := B3.keeps kn
   have Gs := DW.keeps kn
   have Ei := iD.keeps kn
   have Hu : ls.length = cs.length := jP.length_eq
   have Bh : (ls.map (·.1)).Nodup := (jP.map _).nodup_iff.mpr aQ.nd
   refine qh (Hb := H5) (cs := ls) (gd := bV) EF.dv (fun j σ' H' => ∃ z5 z6 z7 z8 z9 jq f, σ' = [some (.int pr), some v, some (.ref q2), some (.ref q3), some (.ref q4), z5, z6, z7, z8, z9, jq] /\ Mv [q3, q4] H5 H' /\ iG H' q4 (jC f cs) /\ bI H' q3 ((ps.map (load f (ls.take j))).map PyData.int) /\ Pr pr ps f (ls.take j) /\ B6 pr ps f (ls.take j)) ⟨_, _, _, _, _, _, fun _ => 0, rfl, Mv.refl, Ei, by rw [List.map_map]; exact Gs, ⟨fun c hc => by simp at hc, fun p _ => h0⟩, fun i c h => by simp at h⟩ (fun i σ' H' _ ⟨_, _, _, _, _, _, _, _, mv, _⟩ a' xs e hx => by cases e; exact mv.sq (by simp [Ne.symm JU, Ne.symm JA]) hx) ?_ ?_
   . rintro j c x σ' H' hc ⟨z5, z6, z7, z8, z9, jq, f, rfl, mv, iD, yG, Ef, D5⟩ hd _
     have hx : Dv H' x (.tuple [.str c.1, .int c.2.1, .int c.2.2.1, .int c.2.2.2]) := hd rfl mv.tp
     have nL : j < ls.length := (List.getElem?_eq_some_iff.mp hc).1
     have K9 : c ∈ ls := List.mem_of_getElem? hc
     have zF : c ∈ cs := jP.mem_iff.mp K9
     have Eg : c.1 ∈ cs.map (·.1) := List.mem_map_of_mem zF
     have zY := pV Bh hc
     have va := take_snoc hc
     have hw := aQ.w1 c zF
     have Ce : (jC f cs).length <= 60 := by rw [pE]; exact hl
     have FY : bI H' q2 (ps.map PyData.int) := EX.mv mv (by simp [IY, KZ])
     refine iE hx (fun v1 v2 v3 v4 e1 e2 e3 e4 => ?_)
     obtain rfl := e1.str_inv
     obtain rfl := e2.int_inv
     obtain rfl := e3.int_inv
     obtain rfl := e4.int_inv
     repeat' (walk_at "rd1")
     refine DQ (cs := ps) (gd := PyData.int) (fun x => con x.1 c) (fun x => .int (x.2 : Nat)) FY.dv (by omega) (fun _ => rfl) (fun y t Hx N ht ck hy yes no => ?_) (fun hq H6 lI yD Kk => ?_)
     . refine Af hy (fun w1 w2 f1 f2 => ?_)
       obtain rfl := f1.int_inv
       obtain rfl := f2.int_inv
       repeat' (walk_at "rd1")
       . rename_i h1
         refine cB (fun hb => ?_) (fun hb => no (by simp [con, h1, of_decide_eq_false hb]) _ (ag.refl _))
         repeat' (walk_at "rd1")
         exact yes (by simp [con, h1, of_decide_eq_true hb]) _ _ (ag.refl _) (.int _)
       . rename_i h1
         exact cB (fun hb => by cases hb) (fun _ => no (by simp [con, h1]) _ (ag.refl _))
     have CA : bI H6 hq ((heldOf ps c).map fun i => PyData.int (i : Nat)) := by unfold heldOf; rw [List.map_map]; exact Kk
     have Mi := sL ps c
     have JY := iD.keeps lI
     have GR := yG.keeps lI
     have Kb : q3 ≠ hq := yG.ne yD
     have Kv : q4 ≠ hq := iD.ne yD
     have ui : 0 < ((heldOf ps c).map fun i => (ps.map (load f (ls.take j))).getD i 0).length := by
      rw [List.length_map]
      have hf : c.2.1 ∈ ps := (kI _).mpr (List.mem_map_of_mem zF)
      obtain ⟨i, hi, e⟩ := List.getElem_of_mem hf
      exact List.length_pos_of_mem (df.mpr ⟨c.2.1, by rw [List.getElem?_eq_getElem hi, e], eE.mpr ⟨Int.le_refl _, aQ.ok.wd c zF⟩⟩)
     repeat' (walk_at "rd1")
     refine kd (cs := heldOf ps c) (gd := fun i => .int (i : Nat)) (fun _ => true) (fun i => .int ((ps.map (load f (ls.take j))).getD i 0)) CA.dv (by omega) (fun _ => rfl) (fun y i Hx N hi lB hy yes no => ?_) (fun mq H7 lB D2 Ho => ?_)
     . obtain rfl := hy.int_inv
       have cq := mD hi
       repeat' (walk_at "rd1")
       refine cB (fun hb => ?_) (fun hb => by cases hb)
       repeat' (walk_at "rd1")
       exact yes rfl _ _ (ag.refl _) (.int _)
     rw [eX] at Ho
     have Fo : Dv H7 (.ref mq) (.list (((heldOf ps c).map fun i => (ps.map (load f (ls.take j))).getD i 0).map PyData.int)) := by rw [List.map_map]; exact Ho.dv
     have Mf := JY.keeps lB
     repeat' (walk_at "rd1")
     refine A2 Fo ui (fun mx Fg BA => ?_)
     repeat' (walk_at "rd1")
     rename_i vv hv Bq tu H8 Gy ED
     rw [vB Eg] at ED
     have L3 : rP (jC (dr f c.1 vv) cs) c.1 = some (.int vv) := by rw [wX Eg]; simp [dr]
     have Gk : bI H8 q3 ((ps.map (load f (ls.take j))).map PyData.int) := (GR.keeps lB).mv Gy (by simp [Fv])
     have Ff : bI H8 hq ((heldOf ps c).map fun i => PyData.int (i : Nat)) := (CA.keeps lB).mv Gy (by simp [Ne.symm Kv])
     have Lc : Mv [q3, q4] H5 H8 := by
      refine ((mv.uU lI).uU lB).step Gy ?_
      exact fun b hb => .inl (List.mem_cons_of_mem _ hb)
     refine qh (Hb := H8) (cs := heldOf ps c) (gd := fun i => PyData.int (i : Nat)) Ff.dv (fun t σ' H' => ∃ jq, σ' = [some (.int pr), some v, some (.ref q2), some (.ref q3), some (.ref q4), some (.str c.1), some (.int c.2.1), some (.int c.2.2.1), some (.int c.2.2.2), some (.ref hq), jq] /\ Mv [q3] H8 H' /\ bI H' q3 ((e7 vv (ps.map (load f (ls.take j))) ((heldOf ps c).take t)).map PyData.int)) ⟨_, rfl, Mv.refl, Gk⟩ (fun i σ' H' _ ⟨_, _, mv, _⟩ a' xs e hx => by cases e; exact mv.sq (by simp [Ne.symm Kb]) hx) ?_ ?_
     . rintro t i x σ' H' hi ⟨jq, rfl, Bk, xg⟩ J7 _
       obtain rfl := (J7 rfl Bk.tp).int_inv
       have hit := mD (List.mem_of_getElem? hi)
       have Je : iG H' q4 (jC (dr f c.1 vv) cs) := ED.mv Bk (by simp [Ne.symm Fv])
       have rQ : (e7 vv (ps.map (load f (ls.take j))) ((heldOf ps c).take t)).length = ps.length := by rw [iH, List.length_map]
       repeat' (walk_at "rd1")
       refine tq (j := i) xg (xx (by rw [List.length_map, rQ]; exact hit)) (Dv.int _) rfl (fun H9 G1 CQ => ?_)
       refine ⟨_, rfl, Bk.step G1 fun b hb => .inl hb, ?_⟩
       rw [take_snoc hi, oW, List.map_set]
       exact CQ
     . rintro σ' H' ⟨jq, rfl, Bk, xg⟩
       rw [List.take_length, qA] at xg
       refine ⟨_, _, _, _, _, _, dr f c.1 vv, rfl, ?_, ED.mv Bk (by simp [Ne.symm Fv]), ?_, ?_, ?_⟩
       . exact Lc.step Bk fun b hb => .inl (tM hb)
       . rw [va]
         have : ps.map (load (dr f c.1 vv) (ls.take j ++ [c])) = ps.map fun p => load f (ls.take j) p + (if con p c = true then vv else 0) := List.map_congr_left fun p _ => m5 zY
         rw [this]; exact xg
       . rw [va]
         obtain ⟨i, hi, e⟩ := List.mem_map.mp Fg
         exact Ef.step zY (fun i hi => BA _ (List.mem_map.mpr ⟨i, hi, rfl⟩)) ⟨i, hi, e.symm⟩ hv Bq tu hw.1
       . rw [va]
         obtain ⟨i, hi, e⟩ := List.mem_map.mp Fg
         exact D5.step zY (fun i hi => BA _ (List.mem_map.mpr ⟨i, hi, rfl⟩)) ⟨i, hi, e.symm⟩ hv Bq tu
   . rintro σ' H' ⟨z5, z6, z7, z8, z9, jq, f, rfl, mv, iD, yG, Ef, D5⟩
     rw [List.take_length] at Ef D5
     repeat' (walk_at "rd1")
     refine q q4 H' f ?_ ?_ iD (Ef.shr jP fun c hc => (kI _).mpr (List.mem_map_of_mem hc)) ⟨ls, ps, jP, wA, kI, D5⟩
     . have h3 : H q3 = none := (g5.trans ck).none qZ
       have h4 : H q4 = none := rC.none uD
       intro b u e
       refine mv.kp b u (fun z => ?_) (kn b u (GV b u (rC b u e)))
       have : b = q3 \/ b = q4 := by simpa using z
       rcases this with rfl | rfl
       . rw [h3] at e; cases e
       . rw [h4] at e; cases e
     . exact rC.none uD
theorem kr (T : Txt K mg a) : ki P w K mg base 5 a.bD ["price", "claims"] [] iK :=
 ⟨⟨_, _, rA T, T.fO.binds fun _ _ _ _ _ _ => .all fun us hl => match us, hl with | [_, _], _ => rfl, .nil⟩⟩
structure K4 (pr : Int) (ps : List Int) (f : Str -> Int) (ls : List C4) (i : Nat) (W : List Int) : Prop where
 mk' : ∀ w ∈ W, w ∈ ps /\ ∃ k d, i <= k /\ ls[k]? = some d /\ con w d = true /\ load f (ls.take (k + 1)) w = pr /\ ∀ p ∈ ps, con p d = true -> load f (ls.take (k + 1)) p = pr -> p <= w
 hit : ∀ k c, i <= k -> ls[k]? = some c -> f c.1 < c.2.2.2 -> hit W c = true
 one : ∀ c ∈ ls, 0 < f c.1 -> ∀ w ∈ W, ∀ w' ∈ W, con w c = true -> con w' c = true -> w = w'
 nd : W.Nodup
abbrev kx (W : List Int) : Prop := W.Pairwise (· < ·)
def wt (c : C4) : Int := c.2.2.2
theorem eO (W : List Int) (cs : List C4) : fE W cs = sf (hit W) wt cs := rfl
def wy (a : Option Int) (c : C4) : Bool := match a with | none => true | some x => decide (x < c.2.1)
def ju (cs : List C4) (a : Option Int) (t : Int) : Int := sf (fun c => con t c && wy a c) wt cs
theorem nC {W : List Int} {a : Int} (h : kx W) (hl : W.getLast? = some a) : ∀ w ∈ W, w <= a := by
 obtain ⟨V, rfl⟩ := List.getLast?_eq_some_iff.mp hl
 intro w hw
 rcases List.mem_append.mp hw with h1 | h1
 . exact Int.le_of_lt ((List.pairwise_append.mp h).2.2 w h1 a (by simp))
 . have : w = a := by simpa using h1
   omega
theorem tF (W : List Int) (t : Int) (c : C4) : hit (W ++ [t]) c = (hit W c || con t c) := by
 rw [Bool.eq_iff_iff, Bool.or_eq_true, bw, bw, eE]
 constructor
 . rintro ⟨u, hu, h⟩
   rcases List.mem_append.mp hu with h1 | h1
   . exact .inl ⟨u, h1, h⟩
   . have : u = t := by simpa using h1
     subst this
     exact .inr h
 . rintro (⟨u, hu, h⟩ | h)
   . exact ⟨u, List.mem_append_left _ hu, h⟩
   . exact ⟨t, by simp, h⟩
theorem kZ {W : List Int} {t : Int} (h : kx W) (ht : ∀ w ∈ W, w < t) (cs : List C4) : fE (W ++ [t]) cs = fE W cs + ju cs W.getLast? t := by
 unfold ju
 rw [eO, eO]
 induction cs with
 | nil => rfl
 | cons c cs ih =>
   rw [bE, bE, bE, ih, tF]
   by_cases hc : con t c = true
   . obtain ⟨h1, h2⟩ := eE.mp hc
     cases hl : W.getLast? with
     | none =>
       have : W = [] := List.getLast?_eq_none_iff.mp hl
       subst this
       have hn : hit [] c = false := by
        cases hh : hit [] c with
        | false => rfl
        | true => obtain ⟨_, hm, _⟩ := (bw [] c).mp hh; simp at hm
       simp only [hc, hn, wy, Bool.and_self, Bool.or_true, if_true, Bool.false_eq_true, if_false]
       omega
     | some a =>
       have hle := nC h hl
       have IC : a ∈ W := List.mem_of_getLast? hl
       by_cases hk : a < c.2.1
       . have hn : hit W c = false := by
          cases hh : hit W c with
          | false => rfl
          | true => obtain ⟨w, hm, hw, _⟩ := (bw W c).mp hh; have := hle w hm; omega
         simp only [hc, hn, wy, hk, decide_true, Bool.and_self, Bool.or_true, if_true, Bool.false_eq_true, if_false]
         omega
       . have hn : hit W c = true := (bw W c).mpr ⟨a, IC, by omega, by have := ht a IC; omega⟩
         simp only [hc, hn, wy, hk, decide_false, Bool.and_false, Bool.or_true, if_true, Bool.false_eq_true, if_false]
         omega
   . simp only [hc, Bool.or_false, Bool.false_and, Bool.false_eq_true, if_false]
     omega
structure Ent (cs : List C4) (ps : List Int) (k : Nat) (o : Option Int) (e : Int × List Int) : Prop where
 inc : kx e.2
 sub : ∀ x ∈ e.2, x ∈ ps
 len : e.2.length <= k
 last : e.2.getLast? = o
 val : e.1 = fE e.2 cs
 opt : ∀ V : List Int, kx V -> (∀ x ∈ V, x ∈ ps) -> V.length <= k -> V.getLast? = o -> fE V cs <= e.1
structure vh (cs : List C4) (ps : List Int) (k : Nat) (cl : List (Int × List Int)) : Prop where
 nil : cl[0]? = some (0, [])
 len : cl.length = if k = 0 then 1 else ps.length + 1
 ent : 0 < k -> ∀ i p, ps[i]? = some p -> ∃ e, cl[i + 1]? = some e /\ Ent cs ps k (some p) e
theorem eu (cs : List C4) : fE [] cs = 0 := by
 have : cs.filter (hit []) = [] := List.filter_eq_nil_iff.mpr fun c _ => by rw [bw]; simp
 unfold fE; rw [this]; rfl
def eC (ps : List Int) (i : Nat) : List (Option Int) := none :: (ps.take i).map some
def bT (cs : List C4) (ps : List Int) (i : Nat) (p : Int) : List Int := (eC ps i).map fun a => ju cs a p
structure BL (el : List (Int × List Int)) (gl : List Int) (t : Int) (r : Int × List Int) : Prop where
 get : ∃ (j : Nat) (e : Int × List Int) (g : Int), el[j]? = some e /\ gl[j]? = some g /\ r = (e.1 + g, e.2 ++ [t])
 max : ∀ (j : Nat) (e : Int × List Int) (g : Int), el[j]? = some e -> gl[j]? = some g -> e.1 + g <= r.1
theorem xu {ps : List Int} (h : kx ps) {i j : Nat} {p q : Int} (hi : ps[i]? = some p) (hj : ps[j]? = some q) (hq : q < p) : j < i := by
 obtain ⟨h1, rfl⟩ := List.getElem?_eq_some_iff.mp hi
 obtain ⟨h2, rfl⟩ := List.getElem?_eq_some_iff.mp hj
 rcases Nat.lt_or_ge j i with h3 | h3
 . exact h3
 . rcases Nat.lt_or_eq_of_le h3 with h4 | rfl
   . have := (List.pairwise_iff_getElem.mp h) i j h1 h2 h4
     omega
   . omega
theorem vh.step {cs : List C4} {ps : List Int} {k i : Nat} {cl : List (Int × List Int)} {p : Int} {r : Int × List Int} (h : vh cs ps k cl) (rJ : kx ps) (hi : ps[i]? = some p) (hb : BL (cl.take (i + 1)) (bT cs ps i p) p r) : Ent cs ps (k + 1) (some p) r := by
 have xB : i < ps.length := (List.getElem?_eq_some_iff.mp hi).1
 have key : ∀ (j : Nat) (e : Int × List Int) (g : Int), (cl.take (i + 1))[j]? = some e -> (bT cs ps i p)[j]? = some g -> ∃ o : Option Int, Ent cs ps k o e /\ g = ju cs o p /\ ∀ w ∈ e.2, w < p := by
  intro j e g he hg
  have hj : j < i + 1 := by
   have := (List.getElem?_eq_some_iff.mp he).1
   rw [List.length_take] at this; omega
  rw [List.getElem?_take_of_lt hj] at he
  cases j with
  | zero =>
    rw [h.nil] at he
    cases he
    refine ⟨none, ⟨.nil, by simp, Nat.zero_le _, rfl, (eu cs).symm, fun V _ _ _ hl => ?_⟩, ?_, by simp⟩
    . rw [List.getLast?_eq_none_iff.mp hl, eu]; exact Int.le_refl _
    . have : (bT cs ps i p)[0]? = some (ju cs none p) := rfl
      rw [this] at hg; cases hg; rfl
  | succ j =>
    have hk : 0 < k := by
     rcases Nat.eq_zero_or_pos k with rfl | hk
     . have := (List.getElem?_eq_some_iff.mp he).1
       rw [h.len, if_pos rfl] at this; omega
     . exact hk
    have nL : j < ps.length := by omega
    obtain ⟨e', y1, hE⟩ := h.ent hk j _ (List.getElem?_eq_getElem nL)
    rw [he] at y1
    cases y1
    refine ⟨_, hE, ?_, fun w hw => ?_⟩
    . unfold bT eC at hg
      rw [List.map_cons, List.getElem?_cons_succ, List.map_map, List.getElem?_map, List.getElem?_take_of_lt (by omega), List.getElem?_eq_getElem nL] at hg
      cases hg; rfl
    . have h1 := nC hE.inc hE.last w hw
      obtain ⟨_, rfl⟩ := List.getElem?_eq_some_iff.mp hi
      have h2 := (List.pairwise_iff_getElem.mp rJ) j i nL xB (by omega)
      omega
 obtain ⟨j, e, g, he, hg, rfl⟩ := hb.get
 obtain ⟨o, hE, rfl, cq⟩ := key j e g he hg
 refine ⟨?_, ?_, ?_, ?_, ?_, ?_⟩
 . refine List.pairwise_append.mpr ⟨hE.inc, by simp, fun w hw y hy => ?_⟩
   have : y = p := by simpa using hy
   subst this
   exact cq w hw
 . intro x hx
   rcases List.mem_append.mp hx with h1 | h1
   . exact hE.sub x h1
   . have : x = p := by simpa using h1
     subst this
     exact List.mem_of_getElem? hi
 . have := hE.len
   rw [List.length_append, List.length_singleton]; omega
 . simp
 . show e.1 + ju cs o p = fE (e.2 ++ [p]) cs
   rw [kZ hE.inc cq, hE.last, hE.val]
 . intro V hV v9 hlen DM
   obtain ⟨V', rfl⟩ := List.getLast?_eq_some_iff.mp DM
   obtain ⟨Iq, _, Jk⟩ := List.pairwise_append.mp hV
   have DR : ∀ w ∈ V', w < p := fun w hw => Jk w hw p (by simp)
   rw [kZ Iq DR]
   rw [List.length_append, List.length_singleton] at hlen
   cases hl : V'.getLast? with
   | none =>
     have : V' = [] := List.getLast?_eq_none_iff.mp hl
     subst this
     have h1 : (cl.take (i + 1))[0]? = some (0, []) := by rw [List.getElem?_take_of_lt (by omega)]; exact h.nil
     have := hb.max 0 _ _ h1 (show (bT cs ps i p)[0]? = some (ju cs none p) from rfl)
     rw [eu]
     exact this
   | some q =>
     have GD : q ∈ V' := List.mem_of_getLast? hl
     have Jn : q ∈ ps := v9 q (List.mem_append_left _ GD)
     obtain ⟨j, hj, ej⟩ := List.getElem_of_mem Jn
     have uB : ps[j]? = some q := by rw [List.getElem?_eq_getElem hj, ej]
     have zJ : j < i := xu rJ hi uB (DR q GD)
     have hk : 0 < k := by
      have := List.length_pos_of_mem GD
      omega
     obtain ⟨e', y1, KA⟩ := h.ent hk j q uB
     have h1 := KA.opt V' Iq (fun x hx => v9 x (List.mem_append_left _ hx)) (by omega) hl
     have h2 : (cl.take (i + 1))[j + 1]? = some e' := by rw [List.getElem?_take_of_lt (by omega)]; exact y1
     have h3 : (bT cs ps i p)[j + 1]? = some (ju cs (some q) p) := by
      unfold bT eC
      rw [List.map_cons, List.getElem?_cons_succ, List.map_map, List.getElem?_map, List.getElem?_take_of_lt zJ, uB]; rfl
     have := hb.max (j + 1) _ _ h2 h3
     show fE V' cs + ju cs (some q) p <= _
     omega
structure vd (cs : List C4) (ps : List Int) (k : Nat) (e : Int × List Int) : Prop where
 inc : kx e.2
 sub : ∀ x ∈ e.2, x ∈ ps
 len : e.2.length <= k
 val : e.1 = fE e.2 cs
 opt : ∀ V : List Int, kx V -> (∀ x ∈ V, x ∈ ps) -> V.length <= k -> fE V cs <= e.1
theorem vd.zero (cs : List C4) (ps : List Int) : vd cs ps 0 (0, []) := ⟨.nil, by simp, Nat.le_refl _, (eu cs).symm, fun V _ _ h => by
 have : V = [] := List.length_eq_zero_iff.mp (by omega)
 rw [this, eu]; exact Int.le_refl _⟩
theorem vh.zero (cs : List C4) (ps : List Int) : vh cs ps 0 [(0, [])] := ⟨rfl, rfl, fun h => by omega⟩
def pick (b e : Int × List Int) : Int × List Int := if e.1 > b.1 then e else b
theorem kO : ∀ (cl : List (Int × List Int)) (b : Int × List Int), (cl.foldl pick b = b \/ cl.foldl pick b ∈ cl) /\ b.1 <= (cl.foldl pick b).1 /\ ∀ e ∈ cl, e.1 <= (cl.foldl pick b).1
 | [], b => ⟨.inl rfl, Int.le_refl _, by simp⟩
 | c :: cl, b => by
   obtain ⟨h1, h2, h3⟩ := kO cl (pick b c)
   rw [List.foldl_cons]
   have hp : (pick b c = b \/ pick b c = c) /\ b.1 <= (pick b c).1 /\ c.1 <= (pick b c).1 := by
    unfold pick
    by_cases h : c.1 > b.1
    . rw [if_pos h]; exact ⟨.inr rfl, by omega, Int.le_refl _⟩
    . rw [if_neg h]; exact ⟨.inl rfl, Int.le_refl _, by omega⟩
   refine ⟨?_, by omega, fun e he => ?_⟩
   . rcases h1 with h1 | h1
     . rw [h1]
       rcases hp.1 with h4 | h4
       . exact .inl h4
       . exact .inr (by rw [h4]; exact List.mem_cons_self)
     . exact .inr (List.mem_cons_of_mem _ h1)
   . rcases List.mem_cons.mp he with rfl | he
     . omega
     . exact h3 e he
theorem vd.step {cs : List C4} {ps : List Int} {k : Nat} {b : Int × List Int} {cl : List (Int × List Int)} (h : vd cs ps k b) (hc : vh cs ps (k + 1) cl) : vd cs ps (k + 1) (cl.foldl pick b) := by
 obtain ⟨h1, h2, h3⟩ := kO cl b
 have sd : ∀ V : List Int, kx V -> (∀ x ∈ V, x ∈ ps) -> V.length <= k + 1 -> fE V cs <= (cl.foldl pick b).1 := by
  intro V hV hs hl
  cases hq : V.getLast? with
  | none =>
    have : V = [] := List.getLast?_eq_none_iff.mp hq
    subst this
    exact Int.le_trans (h.opt [] .nil (by simp) (Nat.zero_le _)) h2
  | some q =>
    obtain ⟨j, hj, ej⟩ := List.getElem_of_mem (hs q (List.mem_of_getLast? hq))
    obtain ⟨e, he, hE⟩ := hc.ent (Nat.succ_pos _) j q (by rw [List.getElem?_eq_getElem hj, ej])
    exact Int.le_trans (hE.opt V hV hs hl hq) (h3 e (List.mem_of_getElem? he))
 rcases h1 with e | hm
 . rw [e] at sd ⊢
   exact ⟨h.inc, h.sub, Nat.le_succ_of_le h.len, h.val, sd⟩
 . obtain ⟨j, hj, ej⟩ := List.getElem_of_mem hm
   have uB : cl[j]? = some (cl.foldl pick b) := by rw [List.getElem?_eq_getElem hj, ej]
   cases j with
   | zero =>
     rw [hc.nil] at uB
     have e := Option.some.inj uB
     rw [<- e] at sd ⊢
     exact ⟨.nil, by simp, Nat.zero_le _, (eu cs).symm, sd⟩
   | succ j =>
     have nL : j < ps.length := by
      rw [hc.len, if_neg (by omega)] at hj; omega
     obtain ⟨e, he, hE⟩ := hc.ent (Nat.succ_pos _) j _ (List.getElem?_eq_getElem nL)
     rw [uB] at he
     have e2 := Option.some.inj he
     rw [<- e2] at hE
     exact ⟨hE.inc, hE.sub, hE.len, hE.val, sd⟩
theorem oI {ps : List Int} (h : kx ps) {v p : Int} (hf : ps.find? (fun q => decide (v <= q)) = some p) : v <= p /\ p ∈ ps /\ ∀ q ∈ ps, v <= q -> p <= q := by
 refine ⟨by simpa using List.find?_some hf, List.mem_of_find?_eq_some hf, fun q hq hv => ?_⟩
 induction ps with
 | nil => simp at hq
 | cons x xs ih =>
   obtain ⟨h1, h2⟩ := List.pairwise_cons.mp h
   rw [List.find?_cons] at hf
   by_cases hx : v <= x
   . rw [decide_eq_true hx] at hf
     cases hf
     rcases List.mem_cons.mp hq with rfl | hq
     . exact Int.le_refl _
     . exact Int.le_of_lt (h1 q hq)
   . rw [decide_eq_false hx] at hf
     rcases List.mem_cons.mp hq with rfl | hq
     . exact absurd hv hx
     . exact ih h2 hf hq
theorem FJ {cs : List C4} {ps : List Int} (h : kx ps) (hm : ∀ c ∈ cs, c.2.2.1 ∈ ps) (hw : ∀ c ∈ cs, 0 <= wt c) (V : List Int) : ∃ V' : List Int, kx V' /\ (∀ x ∈ V', x ∈ ps) /\ V'.length <= V.length /\ fE V cs <= fE V' cs := by
 refine ⟨ps.filter fun p => decide (p ∈ V.filterMap fun v => ps.find? fun q => decide (v <= q)), h.filter _, fun x hx => (List.mem_filter.mp hx).1, ?_, ?_⟩
 . refine Nat.le_trans (j5 ((h.filter _).imp fun h => Int.ne_of_lt h) (ys := V.filterMap fun v => ps.find? fun q => decide (v <= q)) fun x hx => of_decide_eq_true (List.mem_filter.mp hx).2) (List.length_filterMap_le _ _)
 . rw [eO, eO]
   refine pA (fun c hc hh => ⟨?_, Int.le_refl _⟩) (fun c hc _ => hw c hc)
   obtain ⟨v, hv, h1, h2⟩ := (bw V c).mp hh
   cases hf : ps.find? (fun q => decide (v <= q)) with
   | none =>
     have := List.find?_eq_none.mp hf _ (hm c hc)
     simp at this; omega
   | some p =>
     obtain ⟨g1, g2, g3⟩ := oI h hf
     refine (bw _ c).mpr ⟨p, List.mem_filter.mpr ⟨g2, decide_eq_true (List.mem_filterMap.mpr ⟨v, hv, hf⟩)⟩, by omega, g3 _ (hm c hc) h2⟩
structure rG (cs : List C4) (m : Int) (W : List Int) : Prop where
 inc : kx W
 len : (W.length : Int) <= m
 opt : ∀ V : List Int, (V.length : Int) <= m -> fE V cs <= fE W cs
theorem vd.Et {cs : List C4} {ps : List Int} {k : Nat} {m : Int} {b : Int × List Int} (h : vd cs ps k b) (rJ : kx ps) (hm : ∀ c ∈ cs, c.2.2.1 ∈ ps) (hw : ∀ c ∈ cs, 0 <= wt c) (h1 : (k : Int) <= m) (h2 : (k : Int) = m \/ k = ps.length) : rG cs m b.2 := by
 refine ⟨h.inc, by have := h.len; omega, fun V hV => ?_⟩
 obtain ⟨V', g1, g2, g3, g4⟩ := FJ rJ hm hw V
 refine Int.le_trans g4 ?_
 rw [<- h.val]
 refine h.opt V' g1 g2 ?_
 rcases h2 with h2 | h2
 . omega
 . have := j5 (g1.imp fun h => Int.ne_of_lt h) g2
   omega
def RL {α : Type} (R : V -> α -> Prop) (xs : List V) (as : List α) : Prop := xs.length = as.length /\ ∀ (i : Nat) x c, xs[i]? = some x -> as[i]? = some c -> R x c
theorem RL.nil {α : Type} {R : V -> α -> Prop} : RL R [] [] := ⟨rfl, fun i x c h => by simp at h⟩
theorem RL.mono {α : Type} {R R' : V -> α -> Prop} {xs : List V} {as : List α} (h : RL R xs as) (k : ∀ x c, R x c -> R' x c) : RL R' xs as := ⟨h.1, fun i x c h1 h2 => k x c (h.2 i x c h1 h2)⟩
theorem RL.snoc {α : Type} {R : V -> α -> Prop} {xs : List V} {as : List α} {x : V} {c : α} (h : RL R xs as) (hx : R x c) : RL R (xs ++ [x]) (as ++ [c]) := by
 refine ⟨by simp [h.1], fun i y d h1 h2 => ?_⟩
 by_cases hi : i < xs.length
 . rw [List.getElem?_append_left hi] at h1
   rw [List.getElem?_append_left (by rw [<- h.1]; exact hi)] at h2
   exact h.2 i y d h1 h2
 . have hle := (List.getElem?_eq_some_iff.mp h1).1
   rw [List.length_append, List.length_singleton] at hle
   have e : i = xs.length := by omega
   subst e
   rw [List.getElem?_append_right (Nat.le_refl _), Nat.sub_self] at h1
   rw [h.1, List.getElem?_append_right (Nat.le_refl _), Nat.sub_self] at h2
   cases h1; cases h2; exact hx
theorem RL.take {α : Type} {R : V -> α -> Prop} {xs : List V} {as : List α} (h : RL R xs as) (n : Nat) : RL R (xs.take n) (as.take n) := by
 refine ⟨by rw [List.length_take, List.length_take, h.1], fun i x c h1 h2 => ?_⟩
 have hi : i < n := by
  have := (List.getElem?_eq_some_iff.mp h1).1
  rw [List.length_take] at this; omega
 rw [List.getElem?_take_of_lt hi] at h1 h2
 exact h.2 i x c h1 h2
theorem RL.get {α : Type} {R : V -> α -> Prop} {xs : List V} {as : List α} {i : Nat} {c : α} (h : RL R xs as) (hc : as[i]? = some c) : ∃ x, xs[i]? = some x /\ R x c := by
 have hi : i < xs.length := by rw [h.1]; exact (List.getElem?_eq_some_iff.mp hc).1
 exact ⟨xs[i], List.getElem?_eq_getElem hi, h.2 i _ c (List.getElem?_eq_getElem hi) hc⟩
def jD (H0 H : Hp) (x : V) (e : Int × List Int) : Prop := ∃ t l, x = .ref t /\ H0 l = none /\ H t = some (.tup [.int e.1, .ref l]) /\ H l = some (.lst (e.2.map V.int))
theorem jD.keeps {H0 H H' : Hp} {x : V} {e : Int × List Int} (s : ag H H') (h : jD H0 H x e) : jD H0 H' x e := let ⟨t, l, e1, e2, e3, e4⟩ := h; ⟨t, l, e1, e2, s _ _ e3, s _ _ e4⟩
theorem jD.old {H0 H1 H : Hp} {x : V} {e : Int × List Int} (s : ag H0 H1) (h : jD H1 H x e) : jD H0 H x e := let ⟨t, l, e1, e2, e3, e4⟩ := h; ⟨t, l, e1, s.none e2, e3, e4⟩
theorem jD.app {H0 H : Hp} {x : V} {e : Int × List Int} {p r : Addr} {xs ys : List V} (hp : H p = some (.lst (.ref r :: xs))) (h : jD H0 H x e) : jD H0 (upd H p (.lst ys)) x e := by
 obtain ⟨t, l, e1, e2, e3, e4⟩ := h
 refine ⟨t, l, e1, e2, ?_, ?_⟩
 . rw [aw (fun z => by rw [z, hp] at e3; cases e3)]; exact e3
 . rw [aw (fun z => by
    rw [z, hp] at e4
    have := Option.some.inj e4
    injection this with h1
    cases he : e.2 with
    | nil => rw [he] at h1; cases h1
    | cons y ys => rw [he] at h1; cases h1)]; exact e4
theorem dI {H : Hp} : ∀ ns : List Int, aX H (ns.map V.int) (ns.map PyData.int)
 | [] => .nil
 | n :: ns => .cons (.int n) (dI ns)
theorem jD.dv {H0 H : Hp} {x : V} {e : Int × List Int} (h : jD H0 H x e) : Dv H x (.tuple [.int e.1, .list (e.2.map PyData.int)]) := by
 obtain ⟨t, l, rfl, _, e3, e4⟩ := h
 exact .tup e3 (.cons (.int _) (.cons (.lst (.inl e4) (dI _)) .nil))
theorem fK : ∀ {H : Hp} {xs : List V} {ns : List Int}, aX H xs (ns.map PyData.int) -> xs = ns.map V.int
 | _, [], [], _ => rfl
 | _, x :: xs, n :: ns, h => by
   cases h with
   | cons h1 h2 => rw [h1.int_inv, fK h2]; rfl
theorem bI.ints {H : Hp} {p : Addr} {ns : List Int} (h : bI H p (ns.map PyData.int)) : H p = some (.lst (ns.map V.int)) := by
 obtain ⟨xs, e, d, _⟩ := h
 rw [fK d] at e
 exact e
theorem Ag {H : Hp} {Q : VK} {p q : Addr} {xs zs : List V} (e : H p = some (.lst xs)) (e2 : H q = some (.lst zs)) (hl : xs.length + zs.length <= 4000) (k : ∀ r H', ag H H' -> H r = none -> H' r = some (.lst (xs ++ zs)) -> Q (.ref r) H') : A6 (.ref p) (.ref q) H Q :=
 ⟨p, q, xs, zs, rfl, rfl, e, e2, small hl, fun r hr => k r _ (aL hr) hr aA⟩
theorem yQ {H : Hp} {Q : VK} {p : Addr} {xs : List V} (j : Nat) (e : H p = some (.lst xs)) (k : ∀ q H', ag H H' -> H q = none -> H' q = some (.lst (xs.take j)) -> Q (.ref q) H') : wM K (.ref p) none (some (j : Int)) H Q := by
 refine ⟨p, xs, rfl, bh.of e, fun q hq => ?_⟩
 rw [tR]
 exact k q _ (aL hq) hq aA
theorem yF {H : Hp} {Q : VK} {p : Addr} {xs : List V} {i : Int} {v : V} (h : H p = some (.tup xs)) (hi : kF xs i = some v) (g : Q v H) : AU K (.ref p) (.int i) H Q := ⟨p, xs, i, v, rfl, rfl, mW.of h, hi, g⟩
theorem mz {K : PySem.W.Frag} {σ : St} {H : Hp} {t : Addr} {v1 v2 : V} {i j : Nat} {R : St -> Hp -> Prop} (ha : H t = some (.tup [v1, v2])) (h : R ((σ.set i (some v1)).set j (some v2)) H) : qD K 2 (gy (di i) (gy (di j) tj)) (.ref t) σ H R :=
 ⟨_, _, rfl, .of ha, rfl, _, _, rfl, _, _, rfl, rfl, h⟩
local macro_rules | `(tactic| walk_at "tpa") => `(tactic| first
 | assumption
 | (refine' ag.at ?s ?m; (case s => assumption); (case m => walk_at "tpa"))
 | fail)
theorem CD {K : PySem.W.Frag} {H : Hp} {p : Addr} {xs : List V} {R : Prop} (e : H p = some (.lst xs)) (h : R) : DG K "list" (.ref p) H /\ R := ⟨.inl ⟨rfl, xs, bh.of e⟩, h⟩
local macro_rules | `(tactic| walk_at "rd1") => `(tactic| first
 | ((with_reducible refine' CD ?e ?_); case e => walk_at "tpa")
 | ((with_reducible refine' yF ?e1 ?e2 ?_); (case e1 => walk_at "tpa"); (case e2 => exact rfl))
 | fail)
theorem jD.mk {H0 H : Hp} {t l : Addr} {n : Int} {ws : List Int} (h0 : H0 l = none) (h1 : H t = some (.tup [.int n, .ref l])) (h2 : H l = some (.lst (ws.map V.int))) : jD H0 H (.ref t) (n, ws) := ⟨t, l, rfl, h0, h1, h2⟩
def tQ : Sp := fun vs H Q _ => ∃ (p g : Addr) (xs : List V) (w : Int) (el : List (Int × List Int)) (gl : List Int), vs = [.ref p, .ref g, .int w] /\ H p = some (.lst xs) /\ (∃ H0, RL (jD H0 H) xs el) /\ H g = some (.lst (gl.map V.int)) /\ 0 < el.length /\ 0 < gl.length /\ (∀ e ∈ el, e.2.length <= 100) /\ ∀ t l H' r, ag H H' -> H t = none -> H l = none -> H' t = some (.tup [.int r.1, .ref l]) -> H' l = some (.lst (r.2.map V.int)) -> BL el gl w r -> Q (.ref t) H'
theorem FN {H H0 : Hp} {Q : VK} {E : XK} {p g : Addr} {xs : List V} {w : Int} {el : List (Int × List Int)} {gl : List Int} (h1 : H p = some (.lst xs)) (h2 : RL (jD H0 H) xs el) (h3 : H g = some (.lst (gl.map V.int))) (h4 : 0 < el.length) (h5 : 0 < gl.length) (h6 : ∀ e ∈ el, e.2.length <= 100) (q : ∀ t l H' r, ag H H' -> H t = none -> H l = none -> H' t = some (.tup [.int r.1, .ref l]) -> H' l = some (.lst (r.2.map V.int)) -> BL el gl w r -> Q (.ref t) H') : tQ [.ref p, .ref g, .int w] H Q E := ⟨p, g, xs, w, el, gl, rfl, h1, ⟨H0, h2⟩, h3, h4, h5, h6, q⟩
structure F2 (el : List (Int × List Int)) (gl : List Int) (i : Nat) (r : Int × List Int) : Prop where
 get : ∃ (j : Nat) (e : Int × List Int) (g : Int), j < i /\ el[j]? = some e /\ gl[j]? = some g /\ r = (e.1 + g, e.2)
 max : ∀ (j : Nat) (e : Int × List Int) (g : Int), j < i -> el[j]? = some e -> gl[j]? = some g -> e.1 + g <= r.1
theorem F2.fin {el : List (Int × List Int)} {gl : List Int} {r : Int × List Int} {t : Int} (h : F2 el gl (min el.length gl.length) r) : BL el gl t (r.1, r.2 ++ [t]) := by
 obtain ⟨j, e, g, _, h1, h2, rfl⟩ := h.get
 refine ⟨⟨j, e, g, h1, h2, rfl⟩, fun j' e' g' k1 k2 => h.max j' e' g' ?_ k1 k2⟩
 have a1 := (List.getElem?_eq_some_iff.mp k1).1
 have a2 := (List.getElem?_eq_some_iff.mp k2).1
 omega
theorem DB (T : Txt K mg a) : bJ P w K mg base ic 1 a.bC a.hX ["chains", "gains", "waking"] tQ := by
 refine T.fw.ok cn (fun vs H Q E h => ?_) (fun cV A outer s H vs Q E hr h => ?_)
 . obtain ⟨_, _, _, _, _, _, rfl, _⟩ := h; rfl
 . obtain ⟨p, g, xs, w, el, gl, rfl, h1, ⟨H0, h2⟩, h3, h4, h5, h6, q⟩ := h
   refine ⟨_, (ai (au (i := 3) cn.nd rfl (Or.inl rfl) gS)
    (ai (cH PassesOwn.never rfl (zX rfl T.mC (ae (pv 0) (ae (pv 1) ah))) (gP (n := 2) rfl (av (aq (i := 4) cn.nd rfl (Or.inl rfl)) (av (aq (i := 5) cn.nd rfl (Or.inl rfl)) cf)))
     (ao (fB (PW.pt (yt (a7 uI (pv 3) gS (bM _)) (sU (a7 ur (aj aN (aI eA (pv 4) af (fun _ _ => rfl)) (pv 5)) (aI eA (pv 3) af (fun _ _ => rfl)) (bM _)))))
      (ao (au (i := 3) cn.nd rfl (Or.inl rfl) (dG (ae (aj aN (aI eA (pv 4) af (fun _ _ => rfl)) (pv 5)) (ae (aI eA (pv 4) af (fun _ _ => rfl)) ah)))))
      cI)))
    (ao (aP (dG (ae (aI eA (pv 3) af (fun _ _ => rfl)) (ae (aj sI (aI eA (pv 3) af (fun _ _ => rfl)) (a9 (ae (pv 2) ah))) ah))))))), ?_⟩
   repeat' (walk_at "rd1")
   refine AW ?_
   repeat' (walk_at "rd1")
   refine Fe (bh.of h1) (bh.of h3) (fun i σ' H' => ag H H' /\ ∃ z4 z5 b, σ' = [some (.ref p), some (.ref g), some (.int w), some b, z4, z5] /\ ((i = 0 /\ b = .aZ) \/ ∃ r, 0 < i /\ jD H0 H' b r /\ F2 el gl i r)) ⟨ag.refl _, _, _, _, rfl, .inl ⟨rfl, rfl⟩⟩ (fun i σ' H' h => h.1) ?_ ?_
   . rintro i x y t σ' H' hx hy ⟨sm, z4, z5, b, rfl, hb⟩ ht
     have hi : i < el.length := by rw [<- h2.1]; exact (List.getElem?_eq_some_iff.mp hx).1
     have hg : i < gl.length := by have := (List.getElem?_eq_some_iff.mp hy).1; rwa [List.length_map] at this
     have yn : el[i]? = some el[i] := List.getElem?_eq_getElem hi
     have uW : gl[i]? = some gl[i] := List.getElem?_eq_getElem hg
     obtain ⟨t1, l1, rfl, n1, e1, e2⟩ := h2.2 i x _ hx yn
     rw [List.getElem?_map, uW] at hy
     cases hy
     generalize el[i] = e at *
     generalize gl[i] = gn at *
     refine mz aA ?_
     have g5 : ag H' (upd H' t (.tup [.ref t1, .int gn])) := aL ht
     generalize upd H' t (.tup [.ref t1, .int gn]) = H1 at *
     have ck := sm.trans g5
     have Gf := ck.at e1
     have Em := ck.at e2
     rcases hb with ⟨rfl, rfl⟩ | ⟨r, ui, ⟨tb, lb, rfl, nb, b1, b2⟩, hB⟩
     . repeat' (walk_at "rd1")
       . refine iT (ds := [.int (e.1 + gn), .list (e.2.map PyData.int)]) (gm rfl) (.cons (.int _) (.cons (Dv.lst (.inl Em) (dI _)) .nil)) (fun tn H2 sm3 qZ v5 => ?_)
         repeat' (walk_at "rd1")
         refine ⟨ck.trans sm3, _, _, _, rfl, .inr ⟨(e.1 + gn, e.2), by omega, .mk n1 v5 (sm3.at Em), ⟨⟨0, e, gn, by omega, yn, uW, rfl⟩, fun j e' g' hj k1 k2 => ?_⟩⟩⟩
         have : j = 0 := by omega
         subst this
         rw [yn] at k1; rw [uW] at k2
         cases k1; cases k2
         exact Int.le_refl _
       all_goals (rename_i hb; exact absurd rfl hb)
     . have JP := g5.at b1
       have Ld := g5.at b2
       repeat' (walk_at "rd1")
       . rename_i yH
         refine iT (ds := [.int (e.1 + gn), .list (e.2.map PyData.int)]) (gm rfl) (.cons (.int _) (.cons (Dv.lst (.inl Em) (dI _)) .nil)) (fun tn H2 sm3 qZ v5 => ?_)
         repeat' (walk_at "rd1")
         refine ⟨ck.trans sm3, _, _, _, rfl, .inr ⟨(e.1 + gn, e.2), by omega, .mk n1 v5 (sm3.at Em), ⟨⟨i, e, gn, by omega, yn, uW, rfl⟩, fun j e' g' hj k1 k2 => ?_⟩⟩⟩
         by_cases zJ : j = i
         . subst zJ
           rw [yn] at k1; rw [uW] at k2
           cases k1; cases k2
           exact Int.le_refl _
         . have := hB.max j e' g' (by omega) k1 k2
           have := yH
           show _ <= e.1 + gn
           omega
       . rename_i yH
         refine ⟨ck, _, _, _, rfl, .inr ⟨r, by omega, ⟨tb, lb, rfl, nb, JP, Ld⟩, ⟨?_, fun j e' g' hj k1 k2 => ?_⟩⟩⟩
         . obtain ⟨j, e', g', hj, h⟩ := hB.get
           exact ⟨j, e', g', by omega, h⟩
         . by_cases zJ : j = i
           . subst zJ
             rw [yn] at k1; rw [uW] at k2
             cases k1; cases k2
             have := yH
             omega
           . exact hB.max j e' g' (by omega) k1 k2
   . rintro σ' H' ⟨sm, z4, z5, b, rfl, hb⟩
     have Kl : 0 < min xs.length (List.map V.int gl).length := by rw [List.length_map, h2.1]; omega
     rcases hb with ⟨h0, rfl⟩ | ⟨r, ui, ⟨tb, lb, rfl, nb, b1, b2⟩, hB⟩
     . omega
     . rw [List.length_map, h2.1] at hB
       repeat' (walk_at "rd1")
       rename_i q1 H1 g5 rK kA
       have jo : H1 q1 = some (.lst ([w].map V.int)) := bI.ints (ns := [w]) kA
       have Md : r.2.length <= 100 := by
        obtain ⟨j, e, gg, _, k1, _, rfl⟩ := hB.get
        exact h6 e (List.mem_of_getElem? k1)
       refine Ag (g5.at b2) jo (by simp; omega) (fun lc H2 ck mF E3 => ?_)
       rw [<- List.map_append] at E3
       repeat' (walk_at "rd1")
       refine iT (ds := [.int r.1, .list ((r.2 ++ [w]).map PyData.int)]) (gm rfl) (.cons (.int _) (.cons (Dv.lst (.inl E3) (dI _)) .nil)) (fun tn H3 sm3 qZ v5 => ?_)
       repeat' (walk_at "rd1")
       exact q tn lc H3 (r.1, r.2 ++ [w]) (((sm.trans g5).trans ck).trans sm3) (((sm.trans g5).trans ck).none qZ) ((sm.trans g5).none mF) v5 (sm3.at E3) hB.fin
theorem yP (T : Txt K mg a) : ki P w K mg base 1 a.bC ["chains", "gains", "waking"] [] tQ :=
 ⟨⟨_, _, DB T, T.fw.binds fun _ _ _ _ _ _ => .all fun us hl => match us, hl with | [_, _, _], _ => rfl, .nil⟩⟩
def t7 : Sp := fun vs H Q _ => ∃ (v : V) (o : Option Int) (t : Int) (cs : List C4), vs = [v, ow o, .int t] /\ Dv H v (.list (cs.map bV)) /\ cs.length <= 60 /\ ∀ H', ag H H' -> Q (.int (ju cs o t)) H'
theorem Fq {H : Hp} {Q : VK} {E : XK} {v : V} {o : Option Int} {t : Int} {cs : List C4} (h : Dv H v (.list (cs.map bV))) (hl : cs.length <= 60) (q : ∀ H', ag H H' -> Q (.int (ju cs o t)) H') : t7 [v, ow o, .int t] H Q E := ⟨v, o, t, cs, rfl, h, hl, q⟩
theorem DS (T : Txt K mg a) : bJ P w K mg base ic 1 a.a8 a.gC ["claims", "ahead", "waking"] t7 := by
 refine T.eS.ok kC (fun vs H Q E h => ?_) (fun cV A outer s H vs Q E hr h => ?_)
 . obtain ⟨_, _, _, _, rfl, _⟩ := h; rfl
 . obtain ⟨v, o, t, cs, rfl, hv, hl, q⟩ := h
   refine ⟨_, (ao (aP (aW (dS rfl) rfl T.eW PyProof.Rows.boot_sum (ae (fN (T := ["name", "first", "last", "weight"]) (M := ["claims", "ahead", "waking"]) (rF (ak c4) ["claims", "ahead", "waking"] rfl rfl (by decide +kernel)) rfl (bp (pv 0)) (fun _ _ _ _ _ => (g8 (K := K) (n := 4) rfl rfl (av (aq (i := 0) (show List.Nodup (["name", "first", "last", "weight", "claims", "ahead", "waking"] : List Str) by decide +kernel) rfl (Or.inl rfl)) (av (aq (i := 1) (show List.Nodup (["name", "first", "last", "weight", "claims", "ahead", "waking"] : List Str) by decide +kernel) rfl (Or.inl rfl)) (av (aq (i := 2) (show List.Nodup (["name", "first", "last", "weight", "claims", "ahead", "waking"] : List Str) by decide +kernel) rfl (Or.inl rfl)) (av (aq (i := 3) (show List.Nodup (["name", "first", "last", "weight", "claims", "ahead", "waking"] : List Str) by decide +kernel) rfl (Or.inl rfl)) cf)))))) (fR (aD (by decide) (aD (by decide) (aD (by decide) (aD (by decide) dU))))) (fun _ _ _ _ _ => (ik (PW.pt (uJ (jF iz iz (pv 1) (pv 6) (pv 2)) (pj (PW.pt (yt (a7 uI (pv 5) gS (bM _)) (sU (a7 pN (pv 5) (pv 1) (bM _)))))))))) (fun _ _ _ _ _ => (pv 3))) ah)))), ?_⟩
   repeat' (walk_at "rd1")
   refine kd (cs := cs) (gd := bV) (fun c => con t c && wy o c) (fun c => .int (wt c)) hv (by omega) (fun _ => rfl) (fun x c H2 N hc ck hx yes no => ?_) (fun q1 H1 g5 rK kA => ?_)
   . have g0 : Dv H2 x (.tuple [.str c.1, .int c.2.1, .int c.2.2.1, .int c.2.2.2]) := hx
     refine iE g0 (fun v1 v2 v3 v4 e1 e2 e3 e4 => ?_)
     obtain rfl := e1.str_inv
     obtain rfl := e2.int_inv
     obtain rfl := e3.int_inv
     obtain rfl := e4.int_inv
     cases o with
     | none =>
       unfold ow
       repeat' (walk_at "rd1")
       . rename_i h1 h2 _
         refine cB (fun _ => ?_) (fun hb => by cases hb)
         repeat' (walk_at "rd1")
         exact yes (by simp [con, wy, h1, h2]) _ _ (ag.refl _) (.int _)
       . rename_i h1 h2
         exact cB (fun hb => by cases hb) (fun _ => no (by simp [con, h1, h2]) _ (ag.refl _))
       . rename_i h1
         exact cB (fun hb => by cases hb) (fun _ => no (by simp [con, h1]) _ (ag.refl _))
     | some n =>
       unfold ow
       repeat' (walk_at "rd1")
       . rename_i h1 h2 _
         refine cB (fun hb => ?_) (fun hb => no (by simp [con, wy, h1, h2, of_decide_eq_false hb]) _ (ag.refl _))
         repeat' (walk_at "rd1")
         exact yes (by simp [con, wy, h1, h2, of_decide_eq_true hb]) _ _ (ag.refl _) (.int _)
       . rename_i h1 h2
         exact cB (fun hb => by cases hb) (fun _ => no (by simp [con, h1, h2]) _ (ag.refl _))
       . rename_i h1
         exact cB (fun hb => by cases hb) (fun _ => no (by simp [con, h1]) _ (ag.refl _))
   have jo : bI H1 q1 (((cs.filter fun c => con t c && wy o c).map wt).map PyData.int) := by rw [List.map_map]; exact kA
   repeat' (walk_at "rd1")
   exact q _ (by walk_at "same")
theorem A8 (T : Txt K mg a) : ki P w K mg base 1 a.a8 ["claims", "ahead", "waking"] [] t7 :=
 ⟨⟨_, _, DS T, T.eS.binds fun _ _ _ _ _ _ => .all fun us hl => match us, hl with | [_, _, _], _ => rfl, .nil⟩⟩
def pI (H : Hp) (x : V) (ns : List Int) : Prop := ∃ q, x = .ref q /\ H q = some (.lst (ns.map V.int)) /\ 0 < ns.length
theorem pI.keeps {H H' : Hp} {x : V} {ns : List Int} (s : ag H H') (h : pI H x ns) : pI H' x ns := let ⟨q, e1, e2, e3⟩ := h; ⟨q, e1, s _ _ e2, e3⟩
theorem pI.app {H : Hp} {x : V} {ns : List Int} {p : Addr} {xs ys : List V} {rows : List (List Int)} (hp : H p = some (.lst xs)) (hr : RL (pI H) xs rows) (h : pI H x ns) : pI (upd H p (.lst ys)) x ns := by
 obtain ⟨q, e1, e2, e3⟩ := h
 refine ⟨q, e1, ?_, e3⟩
 rw [aw (fun z => by
  rw [z, hp] at e2
  have := Option.some.inj e2
  injection this with h1
  cases ns with
  | nil => simp at e3
  | cons n ns =>
    have h0 : xs[0]? = some (.int n) := by rw [h1]; rfl
    have cq : 0 < rows.length := by rw [<- hr.1]; exact (List.getElem?_eq_some_iff.mp h0).1
    obtain ⟨_, e, _⟩ := hr.2 0 _ _ h0 (List.getElem?_eq_getElem cq)
    cases e)]
 exact e2
theorem wW {H : Hp} {x : V} {o : Option Int} (h : Dv H x (Ej o)) : x = ow o := by
 cases o with
 | none => exact h.xG
 | some n => exact h.int_inv
theorem sG (ps : List Int) (i : Nat) : (eC ps i).map Ej = [PyData.none] ++ (ps.map PyData.int).take i := by
 unfold eC
 rw [List.map_cons, List.map_map, List.map_take]
 rfl
def cb (cs : List C4) (ps : List Int) : Nat -> List (List Int)
 | 0 => []
 | n + 1 => cb cs ps n ++ [bT cs ps n (ps.getD n 0)]
def jW : Sp := fun vs H Q _ => ∃ (v : V) (p : Addr) (cs : List C4) (ps : List Int), vs = [v, .ref p] /\ Dv H v (.list (cs.map bV)) /\ cs.length <= 60 /\ bI H p (ps.map PyData.int) /\ ps.length <= 60 /\ ∀ g H' xs, ag H H' -> H g = none -> H' g = some (.lst xs) -> RL (pI H') xs (cb cs ps ps.length) -> Q (.ref g) H'
theorem wN {H : Hp} {Q : VK} {E : XK} {v : V} {p : Addr} {cs : List C4} {ps : List Int} (h : Dv H v (.list (cs.map bV))) (hl : cs.length <= 60) (hp : bI H p (ps.map PyData.int)) (qf : ps.length <= 60) (q : ∀ g H' xs, ag H H' -> H g = none -> H' g = some (.lst xs) -> RL (pI H') xs (cb cs ps ps.length) -> Q (.ref g) H') : jW [v, .ref p] H Q E := ⟨v, p, cs, ps, rfl, h, hl, hp, qf, q⟩
theorem sY (T : Txt K mg a) : bJ P w K mg base ic 2 a.bN a.ji ["claims", "points"] jW := by
 have mw := A8 (P := P) (w := w) (base := base) T
 refine T.gT.ok dF (fun vs H Q E h => ?_) (fun cV A outer s H vs Q E hr h => ?_)
 . obtain ⟨_, _, _, _, rfl, _⟩ := h; rfl
 . obtain ⟨v, p, cs, ps, rfl, hv, hl, hp, qf, q⟩ := h
   refine ⟨_, (ai (au (i := 2) dF.nd rfl (Or.inl rfl) (a9 ah))
    (ai (cH PassesOwn.never rfl (lM rfl T.bR (ae (pv 1) ah)) (gP (n := 2) rfl (av (aq (i := 3) dF.nd rfl (Or.inl rfl)) (av (aq (i := 4) dF.nd rfl (Or.inr rfl)) cf)))
     (ao (f7 (lA PySem.F.plainAttrs_list PySem.F.slot_list_append PySem.F.type_list_append c7 (pv 2) (ae (fN (T := ["ahead"]) (M := ["claims", "points", "gains", "place", "waking"]) (rF (ak er) ["claims", "points", "gains", "place", "waking"] rfl rfl (by decide +kernel)) rfl (bp (aj sI (a9 (ae gS ah)) (bX jz (pv 1) dz (b4 (pv 3))))) (fun _ _ _ _ _ => (aq (i := 0) (show List.Nodup (["ahead", "claims", "points", "gains", "place", "waking"] : List Str) by decide +kernel) rfl (Or.inl rfl))) (cD (by decide)) (fun _ _ _ _ _ => eP) (fun _ _ _ _ _ => (aF mw (hr.mono (by decide)) rfl T.gG T.gu (ae (pv 1) (ae (pv 0) (ae (pv 5) ah)))))) ah)))))
    (ao (aP (pv 2))))), ?_⟩
   repeat' (walk_at "rd1")
   rename_i g H1 g5 rK IG
   have EK : H1 g = some (.lst []) := bI.ints (ns := []) IG
   clear IG
   have Mb : p ≠ g := hp.ne rK
   refine yi (Hb := H) (cs := ps) hp.dv (fun i σ' H' => ∃ z3 z4 xs, σ' = [some v, some (.ref p), some (.ref g), z3, z4] /\ ag H H' /\ H' g = some (.lst xs) /\ RL (pI H') xs (cb cs ps i)) ⟨_, _, _, rfl, g5, EK, .nil⟩ (fun i σ' H' _ ⟨_, _, _, _, sm, _⟩ a' xs e hx => ag.seq sm hx) ?_ ?_
   . rintro i c t σ' H' hc ⟨z3, z4, xs, rfl, sm, hg, hR⟩ ht
     have xB : i < ps.length := (List.getElem?_eq_some_iff.mp hc).1
     have AG : xs.length <= 60 := by
      have : ∀ n, (cb cs ps n).length = n := fun n => by
       induction n with
       | zero => rfl
       | succ n ih => rw [cb, List.length_append, ih]; rfl
      rw [hR.1, this]; omega
     refine mz aA ?_
     have g5 : ag H' (upd H' t (.tup [.int (i : Int), .int c])) := aL ht
     generalize upd H' t (.tup [.int (i : Int), .int c]) = H2 at *
     have ck := sm.trans g5
     have tu : Dv H2 v (.list (cs.map bV)) := hv.keeps ck
     have rL : bI H2 p (ps.map PyData.int) := hp.keeps ck
     have FO := g5.at hg
     have xm := hR.mono (R' := pI H2) fun x c h => h.keeps g5
     repeat' (walk_at "rd1")
     rename_i q4 H4 mG uD GB q5 H5 kn xH Kj
     refine uT (GB.keeps kn) Kj (by simp; omega) (fun q6 H6 lI yD Kt => ?_)
     have FU : Dv H6 (.ref q6) (.list ((eC ps i).map Ej)) := by rw [sG]; exact Kt.dv
     have Ds := (mG.trans kn).trans lI
     have JD : Dv H6 v (.list (cs.map bV)) := tu.keeps Ds
     repeat' (walk_at "rd1")
     refine kd (cs := eC ps i) (gd := Ej) (fun _ => true) (fun o => .int (ju cs o c)) FU (by unfold eC; simp; omega) (fun _ => rfl) (fun x o H7 N ho lB hx yes no => ?_) (fun q7 H7 lB D2 Ir => ?_)
     . obtain rfl := wW hx
       have Jq : Dv H7 v (.list (cs.map bV)) := JD.keeps lB
       repeat' (walk_at "rd1")
       refine cB (fun hb => ?_) (fun hb => by cases hb)
       repeat' (walk_at "rd1")
       refine Fq Jq hl (fun H8 uy => ?_)
       repeat' (walk_at "rd1")
       exact yes rfl _ _ uy (.int _)
     . rw [eX] at Ir
       have Fb : bI H7 q7 ((bT cs ps i c).map PyData.int) := by unfold bT; rw [List.map_map]; exact Ir
       have A7 := Ds.trans lB
       have Fd := A7.at FO
       have Fp := xm.mono (R' := pI H7) fun x c h => h.keeps A7
       repeat' (walk_at "rd1")
       refine sA Fd (by omega) ?_
       have GW : pI H7 (.ref q7) (bT cs ps i c) := ⟨q7, rfl, bI.ints Fb, by unfold bT eC; simp⟩
       have uW : ps.getD i 0 = c := by rw [List.getD_eq_getElem?_getD, hc]; rfl
       refine ⟨_, _, _, rfl, fun b u e => ?_, aA, ?_⟩
       . rw [aw (aG e rK)]; exact (ck.trans A7) b u e
       . rw [cb, uW]
         exact (Fp.mono fun x c h => h.app Fd Fp).snoc (GW.app Fd Fp)
   . rintro σ' H' ⟨z3, z4, xs, rfl, sm, hg, hR⟩
     repeat' (walk_at "rd1")
     exact q g H' xs sm rK hg hR
theorem qv (T : Txt K mg a) : ki P w K mg base 2 a.bN ["claims", "points"] [] jW :=
 ⟨⟨_, _, sY T, T.gT.binds fun _ _ _ _ _ _ => .all fun us hl => match us, hl with | [_, _], _ => rfl, .nil⟩⟩
theorem vh.GQ {cs : List C4} {ps : List Int} {k : Nat} {cl : List (Int × List Int)} (h : vh cs ps k cl) : ∀ e ∈ cl, e.2.length <= k := by
 intro e he
 obtain ⟨j, hj, ej⟩ := List.getElem_of_mem he
 have uB : cl[j]? = some e := by rw [List.getElem?_eq_getElem hj, ej]
 cases j with
 | zero => rw [h.nil] at uB; cases uB; exact Nat.zero_le _
 | succ j =>
   have hk : 0 < k := by
    rcases Nat.eq_zero_or_pos k with rfl | hk
    . rw [h.len, if_pos rfl] at hj; omega
    . exact hk
   have nL : j < ps.length := by rw [h.len, if_neg (by omega)] at hj; omega
   obtain ⟨e', y1, hE⟩ := h.ent hk j _ (List.getElem?_eq_getElem nL)
   rw [uB] at y1
   cases y1
   exact hE.len
structure Bv (cs : List C4) (ps : List Int) (k i : Nat) (el : List (Int × List Int)) : Prop where
 nil : el[0]? = some (0, [])
 len : el.length = i + 1
 ent : ∀ j p, j < i -> ps[j]? = some p -> ∃ e, el[j + 1]? = some e /\ Ent cs ps (k + 1) (some p) e
theorem Bv.IE {cs : List C4} {ps : List Int} {k : Nat} {el : List (Int × List Int)} (h : Bv cs ps k ps.length el) : vh cs ps (k + 1) el :=
 ⟨h.nil, by rw [h.len, if_neg (by omega)], fun _ i p hp => h.ent i p (List.getElem?_eq_some_iff.mp hp).1 hp⟩
theorem Bv.snoc {cs : List C4} {ps : List Int} {k i : Nat} {el : List (Int × List Int)} {p : Int} {r : Int × List Int} (h : Bv cs ps k i el) (hi : ps[i]? = some p) (hr : Ent cs ps (k + 1) (some p) r) : Bv cs ps k (i + 1) (el ++ [r]) := by
 refine ⟨?_, by rw [List.length_append, h.len]; rfl, fun j q hj hq => ?_⟩
 . rw [List.getElem?_append_left (by rw [h.len]; omega)]; exact h.nil
 . by_cases zJ : j < i
   . obtain ⟨e, he, hE⟩ := h.ent j q zJ hq
     exact ⟨e, by rw [List.getElem?_append_left (by rw [h.len]; omega)]; exact he, hE⟩
   . have : j = i := by omega
     subst this
     rw [hi] at hq
     cases hq
     exact ⟨r, by rw [List.getElem?_append_right (by rw [h.len]; omega), h.len]; simp, hr⟩
theorem lr (cs : List C4) (ps : List Int) {i : Nat} {p : Int} (hp : ps[i]? = some p) : ∀ n, i < n -> (cb cs ps n)[i]? = some (bT cs ps i p)
 | 0, h => by omega
 | n + 1, h => by
   have hl : ∀ n, (cb cs ps n).length = n := fun n => by
    induction n with
    | zero => rfl
    | succ n ih => rw [cb, List.length_append, ih]; rfl
   rw [cb]
   by_cases hi : i < n
   . rw [List.getElem?_append_left (by rw [hl]; exact hi)]; exact lr cs ps hp n hi
   . have : i = n := by omega
     subst this
     rw [List.getElem?_append_right (by rw [hl]; exact Nat.le_refl _), hl, Nat.sub_self, List.getD_eq_getElem?_getD, hp]
     rfl
theorem DK {K : PySem.W.Frag} {H : Hp} {Q : VK} {p : Addr} {xs : List V} {i : Nat} {v : V} (h : H p = some (.lst xs)) (hi : xs[i]? = some v) (g : Q v H) : js K (.ref p) (.int (i : Int)) H Q := x3 (bh.of h) (ez hi) g
theorem Aq {H : Hp} {Q : VK} {n : Int} {l : Addr} (h : bI H l []) (k : ∀ p H2, ag H H2 -> H p = none -> H2 p = some (.tup [.int n, .ref l]) -> H2 l = some (.lst []) -> Q (.ref p) H2) : rV [.int n, .ref l] H Q :=
 iT (ds := [.int n, .list []]) (gm rfl) (.cons (.int _) (.cons h.dv .nil)) fun p H2 sm hn hp => k p H2 sm hn hp (sm.at (bI.ints (ns := []) h))
theorem Ac {H : Hp} {Q : VK} {n : Int} {t l : Addr} (h1 : H t = some (.tup [.int n, .ref l])) (h2 : H l = some (.lst [])) (k : ∀ p H2, ag H H2 -> H p = none -> H2 p = some (.lst [.ref t]) -> Q (.ref p) H2) : t6 [.ref t] H Q :=
 tX (ds := [.tuple [.int n, .list []]]) (gm rfl) (.cons (.tup h1 (.cons (.int _) (.cons (.lst (.inl h2) .nil) .nil))) .nil) fun p H2 sm hn hp _ _ => k p H2 sm hn hp
local macro_rules | `(tactic| walk_at "rd1") => `(tactic| first
 | ((with_reducible refine' Ac ?e1 ?e2 (fun _ _ _ _ _ => ?_)); (case e1 => assumption); (case e2 => assumption))
 | ((with_reducible refine' Aq ?e (fun _ _ _ _ _ _ => ?_)); case e => walk_at "lat")
 | fail)
def rU : Sp := fun vs H Q _ => ∃ (v : V) (m : Int) (cs : List C4), vs = [v, .int m] /\ Dv H v (.list (cs.map bV)) /\ jr cs /\ cs.length <= 60 /\ 0 <= m /\ ∀ l H' W, ag H H' -> H l = none -> H' l = some (.lst (W.map V.int)) -> rG cs m W -> W.length <= 60 -> Q (.ref l) H'
theorem GN {H : Hp} {Q : VK} {E : XK} {v : V} {m : Int} {cs : List C4} (h : Dv H v (.list (cs.map bV))) (ho : jr cs) (hl : cs.length <= 60) (h0 : 0 <= m) (q : ∀ l H' W, ag H H' -> H l = none -> H' l = some (.lst (W.map V.int)) -> rG cs m W -> W.length <= 60 -> Q (.ref l) H') : rU [v, .int m] H Q E := ⟨v, m, cs, rfl, h, ho, hl, h0, q⟩
theorem BW (T : Txt K mg a) : bJ P w K mg base ic 3 a.aT a.e8 ["claims", "most"] rU := by
 have oC := qv (P := P) (w := w) (base := base) T
 have m7 := yP (P := P) (w := w) (base := base) T
 refine T.dq.ok ay (fun vs H Q E h => ?_) (fun cV A outer s H vs Q E hr h => ?_)
 . obtain ⟨_, _, _, rfl, _⟩ := h; rfl
 . obtain ⟨v, m, cs, rfl, hv, aQ, hl, m0, q⟩ := h
   refine ⟨_, (ai (au (i := 2) ay.nd rfl (Or.inl rfl) (jS (fN (T := ["name", "first", "last", "weight"]) (M := ["claims", "most", "points", "gains", "best", "chains", "turn", "longer", "place", "waking", "010", "wakings"]) (rF (ak cg) ["claims", "most", "points", "gains", "best", "chains", "turn", "longer", "place", "waking", "weight", "wakings"] rfl rfl (by decide +kernel)) rfl (bp (pv 0)) (fun _ _ _ _ _ => (g8 (K := K) (n := 4) rfl rfl (av (aq (i := 0) (show List.Nodup (["name", "first", "last", "weight", "claims", "most", "points", "gains", "best", "chains", "turn", "longer", "place", "waking", "010", "wakings"] : List Str) by decide +kernel) rfl (Or.inl rfl)) (av (aq (i := 1) (show List.Nodup (["name", "first", "last", "weight", "claims", "most", "points", "gains", "best", "chains", "turn", "longer", "place", "waking", "010", "wakings"] : List Str) by decide +kernel) rfl (Or.inl rfl)) (av (aq (i := 2) (show List.Nodup (["name", "first", "last", "weight", "claims", "most", "points", "gains", "best", "chains", "turn", "longer", "place", "waking", "010", "wakings"] : List Str) by decide +kernel) rfl (Or.inl rfl)) (av (aq (i := 3) (show List.Nodup (["name", "first", "last", "weight", "claims", "most", "points", "gains", "best", "chains", "turn", "longer", "place", "waking", "010", "wakings"] : List Str) by decide +kernel) rfl (Or.inl rfl)) cf)))))) (fR (aD (by decide) (aD (by decide) (aD (by decide) (aD (by decide) dU))))) (fun _ _ _ _ _ => eP) (fun _ _ _ _ _ => (pv 2))) rfl rfl T.cC rfl T.jY))
    (ai (au (i := 3) ay.nd rfl (Or.inl rfl) (aF oC (hr.mono (by decide)) rfl T.i9 T.jm (ae (pv 0) (ae (pv 2) ah))))
    (ai (au (i := 4) ay.nd rfl (Or.inl rfl) (dG (ae af (ae (a9 ah) ah))))
    (ai (au (i := 5) ay.nd rfl (Or.inl rfl) (a9 (ae (pv 4) ah)))
    (ai (cH PassesOwn.never rfl (fV rfl T.dh (ae (aW (k7 rfl) rfl T.ke PyProof.Rows.boot_min (ae (pv 1) (ae (aW cF rfl T.dM PySem.boot_len (ae (pv 2) ah)) ah))) ah)) (aq (i := 6) ay.nd rfl (Or.inl rfl))
     (ai (au (i := 7) ay.nd rfl (Or.inl rfl) (a9 (ae (dG (ae af (ae (a9 ah) ah))) ah)))
     (ai (cH PassesOwn.never rfl (lM rfl T.bR (ae (pv 2) ah)) (gP (n := 2) rfl (av (aq (i := 8) ay.nd rfl (Or.inl rfl)) (av (aq (i := 9) ay.nd rfl (Or.inl rfl)) cf)))
      (ao (f7 (lA PySem.F.plainAttrs_list PySem.F.slot_list_append PySem.F.type_list_append c7 (pv 7) (ae (aF m7 (hr.mono (by decide)) rfl T.ig T.iy (ae (bX jz (pv 5) dz (b4 (aj aN (pv 8) af))) (ae (aI cz (pv 3) (pv 8) (fun _ _ => rfl)) (ae (pv 9) ah)))) ah)))))
     (ai (au (i := 5) ay.nd rfl (Or.inl rfl) (pv 7))
     (ao (cH PassesOwn.never rfl (bp (pv 5)) (gP (n := 2) rfl (av (aq (i := 10) ay.nd rfl (Or.inl rfl)) (av (aq (i := 11) ay.nd rfl (Or.inl rfl)) cf)))
      (ao (fB (a7 ur (pv 10) (aI eA (pv 4) af (fun _ _ => rfl)) (bM _))
       (ao (au (i := 4) ay.nd rfl (Or.inl rfl) (dG (ae (pv 10) (ae (pv 11) ah)))))
       cI))))))))
    (ao (aP (aI eA (pv 4) af (fun _ _ => rfl))))))))), ?_⟩
   repeat' (walk_at "rd1")
   refine jN ?_
   repeat' (walk_at "rd1")
   refine kd (cs := cs) (gd := bV) (fun _ => true) (fun c => .int c.2.2.1) hv (by omega) (fun _ => rfl) (fun x c H2 N hc ck hx yes no => ?_) (fun q1 H1 g5 rK kA => ?_)
   . have g0 : Dv H2 x (.tuple [.str c.1, .int c.2.1, .int c.2.2.1, .int c.2.2.2]) := hx
     refine iE g0 (fun v1 v2 v3 v4 e1 e2 e3 e4 => ?_)
     obtain rfl := e1.str_inv
     obtain rfl := e2.int_inv
     obtain rfl := e3.int_inv
     obtain rfl := e4.int_inv
     refine cB (fun hb => ?_) (fun hb => by cases hb)
     repeat' (walk_at "rd1")
     exact yes rfl _ _ (ag.refl _) (.int _)
   have jo : Dv H1 (.ref q1) (.list ((cs.map (·.2.2.1)).map PyData.int)) := by
    have := kA.dv
    rw [eX] at this
    rw [List.map_map]; exact this
   refine kW jo (by rw [List.length_map]; omega) (fun q2 H2 ps ck mF cq kI p9 => ?_)
   have mE : ps.length <= 60 := by
    have := j5 (cq.imp fun h => Int.ne_of_lt h) (fun x hx => (kI x).mp hx)
    rw [List.length_map] at this
    omega
   have Ds := g5.trans ck
   have tu : Dv H2 v (.list (cs.map bV)) := hv.keeps Ds
   clear kA jo
   repeat' (walk_at "rd1")
   refine wN tu hl p9 mE (fun g H3 gs sm3 qZ IP Jc => ?_)
   have Cu := p9.keeps sm3
   have A7 := Ds.trans sm3
   repeat' (walk_at "rd1")
   rename_i l0 H4 mG uD Mp t0 H5 kn xH GP JM LQ H6 lI yD Gb N hN Lz L0
   have Eu : ag H3 H6 := (mG.trans kn).trans lI
   have JH : 0 <= N := by omega
   obtain ⟨n, rfl⟩ := Int.eq_ofNat_of_zero_le JH
   have Hz : jD H H6 (.ref t0) (0, []) := .mk (A7.none uD) (lI.at GP) (lI.at JM)
   refine fY (fun k σ' H' => ∃ (b : V) (ch : Addr) (z6 z7 z8 z9 jq nG : Option V) (xs : List V) (cl : List (Int × List Int)) (bs : Int × List Int), σ' = [some v, some (.int m), some (.ref q2), some (.ref g), some b, some (.ref ch), z6, z7, z8, z9, jq, nG] /\ ag H3 H' /\ jD H H' b bs /\ H' ch = some (.lst xs) /\ RL (jD H H') xs cl /\ vh cs ps k cl /\ vd cs ps k bs) ⟨_, _, _, _, _, _, _, _, _, [(0, [])], (0, []), rfl, Eu, Hz, Gb, RL.snoc RL.nil Hz, vh.zero cs ps, vd.zero cs ps⟩ ?_ ?_
   . rintro k σ' H' hk ⟨b, ch, z6, z7, z8, z9, jq, nG, xs, cl, bs, rfl, g6, hb, qJ, HB, hC, hB⟩
     have vg : k < n := by simpa using hk
     have Fh := Cu.keeps g6
     have Kq := g6.at IP
     have Ks := Jc.mono (R' := pI H') fun x c h => h.keeps g6
     have Ed := A7.trans g6
     obtain ⟨tb, lb, rfl, nb, b1, b2⟩ := hb
     repeat' (walk_at "rd1")
     rename_i l1 H7 lB D2 LU t1 H8 uy Ji Jz JG p H9 Bd II Ja
     have Ez : ag H' H9 := (lB.trans uy).trans Bd
     have FC : H' p = none := (lB.trans uy).none II
     have JN : jD H H9 (.ref t1) (0, []) := .mk (Ed.none D2) (Bd.at Jz) (Bd.at JG)
     refine yi (Hb := H') (cs := ps) Fh.dv (fun i σ' H2 => ∃ (z8 z9 : Option V) (ys : List V) (el : List (Int × List Int)), σ' = [some v, some (.int m), some (.ref q2), some (.ref g), some (.ref tb), some (.ref ch), some (.int (0 + (k : Int))), some (.ref p), z8, z9, jq, nG] /\ ag H' H2 /\ H2 p = some (.lst (.ref t1 :: ys)) /\ RL (jD H H2) (.ref t1 :: ys) el /\ Bv cs ps k i el) ⟨_, _, _, [(0, [])], rfl, Ez, Ja, RL.snoc RL.nil JN, ⟨rfl, rfl, fun j _ hj => by omega⟩⟩ (fun i σ' H' _ ⟨_, _, _, _, _, sm, _⟩ a' xs e hx => ag.seq sm hx) ?_ ?_
     . rintro i c t σ' H2 hc ⟨z8, z9, ys, el, rfl, ck, rL, xm, hL⟩ ht
       have xB : i < ps.length := (List.getElem?_eq_some_iff.mp hc).1
       refine mz aA ?_
       have GO : ag H2 (upd H2 t (.tup [.int (i : Int), .int c])) := aL ht
       generalize upd H2 t (.tup [.int (i : Int), .int c]) = Ha at *
       have Gw := ck.trans GO
       have Fj := Gw.at qJ
       have Le := Gw.at Kq
       have Bt := GO.at rL
       repeat' (walk_at "rd1")
       rw [show ((i : Int) + 1) = ((i + 1 : Nat) : Int) from by omega]
       refine yQ (i + 1) Fj (fun cu Hb D4 LV Jb => ?_)
       repeat' (walk_at "rd1")
       obtain ⟨gx, JI, gq, rfl, Kn, uW⟩ := Ks.get (lr cs ps hc _ xB)
       refine DK (D4.at Le) JI ?_
       repeat' (walk_at "rd1")
       have vC := Gw.trans D4
       have KU : 0 < cl.length := (List.getElem?_eq_some_iff.mp hC.nil).1
       refine FN (H0 := H) (el := cl.take (i + 1)) Jb ((HB.mono fun x c h => h.keeps vC).take (i + 1)) (vC.at Kn) (by rw [List.length_take]; omega) uW (fun e he => by have := hC.GQ e (List.mem_of_mem_take he); omega) (fun t2 l2 Hc r E9 L1 Fx J4 qf IW => ?_)
       repeat' (walk_at "rd1")
       have FW := vC.trans E9
       have zE := (D4.trans E9).at Bt
       have Hh : (V.ref t1 :: ys).length <= 100 := by rw [xm.1, hL.len]; omega
       refine sA zE (by omega) ?_
       have Kc : RL (jD H Hc) (.ref t1 :: ys) el := xm.mono fun x c h => h.keeps (GO.trans (D4.trans E9))
       have nN : jD H Hc (.ref t2) r := ⟨t2, l2, rfl, (Ed.trans vC).none Fx, J4, qf⟩
       refine ⟨_, _, ys ++ [.ref t2], el ++ [r], rfl, fun b u e => ?_, aA, ?_, hL.snoc hc (hC.step cq hc IW)⟩
       . rw [aw (aG e FC)]; exact FW b u e
       . exact (Kc.mono fun x c h => h.app zE).snoc (nN.app zE)
     . rintro σ' H2 ⟨z8, z9, ys, el, rfl, ck, rL, xm, hL⟩
       repeat' (walk_at "rd1")
       refine forL (bh.of rL) (fun j σ' H3 => ∃ (b : V) (jq nG : Option V), σ' = [some v, some (.int m), some (.ref q2), some (.ref g), some b, some (.ref p), some (.int (0 + (k : Int))), some (.ref p), z8, z9, jq, nG] /\ ag H2 H3 /\ jD H H3 b ((el.take j).foldl pick bs)) ⟨_, _, _, rfl, ag.refl _, tb, lb, rfl, nb, ck.at b1, ck.at b2⟩ (fun j σ' H3 _ ⟨_, _, _, _, sm, _⟩ => bh.of (sm.at rL)) ?_ ?_
       . rintro j x σ' H3 hx ⟨b, jq, nG, rfl, sm3, hb⟩
         have nL : j < el.length := by rw [<- xm.1]; exact (List.getElem?_eq_some_iff.mp hx).1
         have Hl : el[j]? = some el[j] := List.getElem?_eq_getElem nL
         obtain ⟨tx, lx, rfl, nx, x1, x2⟩ := (xm.2 j x _ hx Hl).keeps sm3
         rw [take_snoc Hl, List.foldl_append]
         generalize el[j] = e at *
         generalize (el.take j).foldl pick bs = bj at *
         obtain ⟨tc, lc, rfl, nc, c1, c2⟩ := hb
         refine mz x1 ?_
         repeat' (walk_at "rd1")
         . rename_i yH
           refine iT (ds := [.int e.1, .list (e.2.map PyData.int)]) (gm rfl) (.cons (.int _) (.cons (Dv.lst (.inl x2) (dI _)) .nil)) (fun tn H4 mG uD v5 => ?_)
           repeat' (walk_at "rd1")
           refine ⟨_, _, _, rfl, sm3.trans mG, ?_⟩
           have : [e].foldl pick bj = e := by show (if e.1 > bj.1 then e else bj) = e; rw [if_pos yH]
           rw [this]
           exact ⟨tn, lx, rfl, nx, v5, mG.at x2⟩
         . rename_i yH
           refine ⟨_, _, _, rfl, sm3, ?_⟩
           have : [e].foldl pick bj = bj := by show (if e.1 > bj.1 then e else bj) = bj; rw [if_neg yH]
           rw [this]
           exact ⟨tc, lc, rfl, nc, c1, c2⟩
       . rintro σ' H3 ⟨b, jq, nG, rfl, sm3, hb⟩
         rw [xm.1, List.take_length] at hb
         refine ⟨_, _, _, _, _, _, _, _, _, el, el.foldl pick bs, rfl, (g6.trans ck).trans sm3, hb, sm3.at rL, xm.mono fun x c h => h.keeps sm3, hL.IE, hB.step hL.IE⟩
   . rintro σ' H' ⟨b, ch, z6, z7, z8, z9, jq, nG, xs, cl, bs, rfl, g6, hb, qJ, HB, hC, hB⟩
     obtain ⟨tb, lb, rfl, nb, b1, b2⟩ := hb
     have Ed := A7.trans g6
     repeat' (walk_at "rd1")
     have hO : rG cs m bs.2 := hB.Et cq (fun c hc => (kI _).mpr (List.mem_map_of_mem hc)) (fun c hc => by have := (aQ.w1 c hc).1; show 0 <= c.2.2.2; omega) (by simp; omega) (by simp; omega)
     exact q lb H' bs.2 Ed nb b2 hO (by have := hB.len; simp at this; omega)
theorem zL (T : Txt K mg a) : ki P w K mg base 3 a.aT ["claims", "most"] [] rU :=
 ⟨⟨_, _, BW T, T.dq.binds fun _ _ _ _ _ _ => .all fun us hl => match us, hl with | [_, _], _ => rfl, .nil⟩⟩
theorem pJ : ∀ {cs : List C4}, (∀ c ∈ cs, 1 <= c.2.2.2 /\ c.2.2.2 <= 10 ^ 12) -> 0 <= (cs.map wt).sum /\ (cs.map wt).sum <= 10 ^ 12 * cs.length
 | [], _ => by simp
 | c :: cs, h => by
   have ih := pJ (cs := cs) fun d hd => h d (List.mem_cons_of_mem _ hd)
   have hc := h c List.mem_cons_self
   rw [List.map_cons, List.sum_cons, List.length_cons]
   unfold wt at ih ⊢
   omega
def Br (cs : List C4) (pr s : Int) : Prop := ∃ f, xS pr cs f /\ Exact pr cs f /\ s = (cs.map fun c => f c.1).sum
def Dn (cs : List C4) (m p : Int) : Prop := p = 0 \/ ∃ s0 s1, Br cs (p - 1) s0 /\ Br cs p s1 /\ m < s1 - s0
def Up (cs : List C4) (m p : Int) : Prop := p = (cs.map wt).sum \/ ∃ s0 s1, Br cs p s0 /\ Br cs (p + 1) s1 /\ s1 - s0 <= m
def lQ : Sp := fun vs H Q _ => ∃ (v : V) (pr : Int) (cs : List C4), vs = [v, .int pr] /\ Dv H v (.list (cs.map bV)) /\ jr cs /\ cs.length <= 60 /\ 0 <= pr /\ ∀ H' s, ag H H' -> Br cs pr s -> Q (.int s) H'
theorem sx {H : Hp} {Q : VK} {E : XK} {v : V} {pr : Int} {cs : List C4} (h : Dv H v (.list (cs.map bV))) (ho : jr cs) (hl : cs.length <= 60) (h0 : 0 <= pr) (q : ∀ H' s, ag H H' -> Br cs pr s -> Q (.int s) H') : lQ [v, .int pr] H Q E := ⟨v, pr, cs, rfl, h, ho, hl, h0, q⟩
theorem wU (T : Txt K mg a) : bJ P w K mg base ic 6 a.bz a.hZ ["claims", "price"] lQ := by
 have fS := kr (P := P) (w := w) (base := base) T
 refine T.fD.ok mj (fun vs H Q E h => ?_) (fun cV A outer s H vs Q E hr h => ?_)
 . obtain ⟨_, _, _, rfl, _⟩ := h; rfl
 . obtain ⟨v, pr, cs, rfl, hv, aQ, hl, p0, q⟩ := h
   refine ⟨_, (ao (aP (vL (aF fS (hr.mono (by decide)) rfl T.d7 T.eJ (ae (pv 1) (ae (pv 0) ah))) rfl rfl T.eW))), ?_⟩
   repeat' (walk_at "rd1")
   refine nI hv aQ hl p0 (fun pd H5 f kn xH hd Bo hx => ?_)
   repeat' (walk_at "rd1")
   refine AZ (ns := cs.map fun c => f c.1) hd (by unfold jC; rw [List.map_map, List.map_map]; rfl) ?_
   repeat' (walk_at "rd1")
   exact q _ _ kn ⟨f, Bo, hx, rfl⟩
theorem uR (T : Txt K mg a) : ki P w K mg base 6 a.bz ["claims", "price"] [] lQ :=
 ⟨⟨_, _, wU T, T.fD.binds fun _ _ _ _ _ _ => .all fun us hl => match us, hl with | [_, _], _ => rfl, .nil⟩⟩
def om : Sp := fun vs H Q _ => ∃ (v : V) (m : Int) (cs : List C4), vs = [v, .int m] /\ Dv H v (.list (cs.map bV)) /\ jr cs /\ cs.length <= 60 /\ ∀ H' p, ag H H' -> 0 <= p -> p <= (cs.map wt).sum -> Dn cs m p -> Up cs m p -> Q (.int p) H'
theorem Dl {H : Hp} {Q : VK} {E : XK} {v : V} {m : Int} {cs : List C4} (h : Dv H v (.list (cs.map bV))) (ho : jr cs) (hl : cs.length <= 60) (q : ∀ H' p, ag H H' -> 0 <= p -> p <= (cs.map wt).sum -> Dn cs m p -> Up cs m p -> Q (.int p) H') : om [v, .int m] H Q E := ⟨v, m, cs, rfl, h, ho, hl, q⟩
theorem z0 (T : Txt K mg a) : bJ P w K mg base ic 7 a.bO a.i6 ["claims", "most"] om := by
 have iZ := uR (P := P) (w := w) (base := base) T
 refine T.gL.ok b8 (fun vs H Q E h => ?_) (fun cV A outer s H vs Q E hr h => ?_)
 . obtain ⟨_, _, _, rfl, _⟩ := h; rfl
 . obtain ⟨v, m, cs, rfl, hv, aQ, hl, q⟩ := h
   refine ⟨_, (ai (au (i := 2) b8.nd rfl (Or.inl rfl) af)
    (ai (au (i := 3) b8.nd rfl (Or.inl rfl) (aW (dS rfl) rfl T.eW PyProof.Rows.boot_sum (ae (fN (T := ["name", "first", "last", "weight"]) (M := ["claims", "most", "low", "high", "middle"]) (rF (ak eN) ["claims", "most", "low", "high", "middle"] rfl rfl (by decide +kernel)) rfl (bp (pv 0)) (fun _ _ _ _ _ => (g8 (K := K) (n := 4) rfl rfl (av (aq (i := 0) (show List.Nodup (["name", "first", "last", "weight", "claims", "most", "low", "high", "middle"] : List Str) by decide +kernel) rfl (Or.inl rfl)) (av (aq (i := 1) (show List.Nodup (["name", "first", "last", "weight", "claims", "most", "low", "high", "middle"] : List Str) by decide +kernel) rfl (Or.inl rfl)) (av (aq (i := 2) (show List.Nodup (["name", "first", "last", "weight", "claims", "most", "low", "high", "middle"] : List Str) by decide +kernel) rfl (Or.inl rfl)) (av (aq (i := 3) (show List.Nodup (["name", "first", "last", "weight", "claims", "most", "low", "high", "middle"] : List Str) by decide +kernel) rfl (Or.inl rfl)) cf)))))) (fR (aD (by decide) (aD (by decide) (aD (by decide) (aD (by decide) dU))))) (fun _ _ _ _ _ => eP) (fun _ _ _ _ _ => (pv 3))) ah)))
    (ai (mZ PassesOwn.never (a7 pN (pv 2) (pv 3) (bM _))
     (ai (au (i := 4) b8.nd rfl (Or.inl rfl) (aj aM (aj aN (pv 2) (pv 3)) af))
     (ao (fB (a7 iz (aj eM (aF iZ (hr.mono (by decide)) rfl T.eT T.d8 (ae (pv 0) (ae (aj aN (pv 4) af) ah))) (aF iZ (hr.mono (by decide)) rfl T.eT T.d8 (ae (pv 0) (ae (pv 4) ah)))) (pv 1) (bM _))
      (ao (au (i := 3) b8.nd rfl (Or.inl rfl) (pv 4)))
      (ao (au (i := 2) b8.nd rfl (Or.inl rfl) (aj aN (pv 4) af)))))))
    (ao (aP (pv 2)))))), ?_⟩
   repeat' (walk_at "rd1")
   refine kd (cs := cs) (gd := bV) (fun _ => true) (fun c => .int (wt c)) hv (by omega) (fun _ => rfl) (fun x c H2 N hc ck hx yes no => ?_) (fun q1 H1 g5 rK kA => ?_)
   . have g0 : Dv H2 x (.tuple [.str c.1, .int c.2.1, .int c.2.2.1, .int c.2.2.2]) := hx
     refine iE g0 (fun v1 v2 v3 v4 e1 e2 e3 e4 => ?_)
     obtain rfl := e1.str_inv
     obtain rfl := e2.int_inv
     obtain rfl := e3.int_inv
     obtain rfl := e4.int_inv
     refine cB (fun hb => ?_) (fun hb => by cases hb)
     repeat' (walk_at "rd1")
     exact yes rfl _ _ (ag.refl _) (.int _)
   rw [eX] at kA
   have jo : Dv H1 (.ref q1) (.list ((cs.map wt).map PyData.int)) := by rw [List.map_map]; exact kA.dv
   have hb := pJ aQ.w1
   repeat' (walk_at "rd1")
   clear kA jo
   have hU : Up cs m (cs.map wt).sum := .inl rfl
   generalize (cs.map wt).sum = tw at *
   refine px (fun r σ' H' => ∃ (lo hi : Int) (z4 : Option V), σ' = [some v, some (.int m), some (.int lo), some (.int hi), z4] /\ ag H H' /\ 0 <= lo /\ lo <= hi /\ hi <= tw /\ Dn cs m lo /\ Up cs m hi /\ r = (hi - lo).toNat) ⟨_, 0, tw, _, rfl, g5, Int.le_refl _, hb.1, Int.le_refl _, .inl rfl, hU, rfl⟩ ?_
   rintro r σ' H' ⟨lo, hi, z4, rfl, sm, h0, h1, h2, hD, Hw, rfl⟩
   have Bn : Dv H' v (.list (cs.map bV)) := hv.keeps sm
   repeat' (walk_at "rd1")
   . rename_i cq
     refine sx Bn aQ hl (by omega) (fun H2 s1 ck Hj => ?_)
     have tu : Dv H2 v (.list (cs.map bV)) := Bn.keeps ck
     repeat' (walk_at "rd1")
     refine sx tu aQ hl (by omega) (fun H3 s0 sm3 Iz => ?_)
     repeat' (walk_at "rd1")
     . rename_i hle
       refine ⟨_, ?_, lo, (lo + hi) / 2, _, rfl, (sm.trans ck).trans sm3, h0, by omega, by omega, hD, .inr ⟨s0, s1, Iz, Hj, hle⟩, rfl⟩
       omega
     . rename_i hle
       refine ⟨_, ?_, (lo + hi) / 2 + 1, hi, _, rfl, (sm.trans ck).trans sm3, by omega, by omega, by omega, .inr ⟨s0, s1, ?_, Hj, by omega⟩, Hw, rfl⟩
       . omega
       . rw [show (lo + hi) / 2 + 1 - 1 = (lo + hi) / 2 by omega]; exact Iz
   . rename_i cq
     have : lo = hi := by omega
     subst this
     exact q H' lo sm h0 h2 hD Hw
theorem wI (T : Txt K mg a) : ki P w K mg base 7 a.bO ["claims", "most"] [] om :=
 ⟨⟨_, _, z0 T, T.gL.binds fun _ _ _ _ _ _ => .all fun us hl => match us, hl with | [_, _], _ => rfl, .nil⟩⟩
def mB : Sp := fun vs H Q _ => ∃ (v : V) (m : Int) (cs : List C4), vs = [v, .int m] /\ Dv H v (.list (cs.map bV)) /\ jr cs /\ cs.length <= 60 /\ 0 <= m /\ ∀ t l d H' W p f, ag H H' -> H l = none -> H d = none -> H' t = some (.tup [.ref l, .int p, .ref d]) -> H' l = some (.lst (W.map V.int)) -> iG H' d (jC f cs) -> rG cs m W -> W.length <= 60 -> 0 <= p -> p <= (cs.map wt).sum -> Dn cs m p -> Up cs m p -> xS p cs f -> Exact p cs f -> l ≠ d -> Q (.ref t) H'
theorem yz {H : Hp} {Q : VK} {E : XK} {v : V} {m : Int} {cs : List C4} (h : Dv H v (.list (cs.map bV))) (ho : jr cs) (hl : cs.length <= 60) (h0 : 0 <= m) (q : ∀ t l d H' W p f, ag H H' -> H l = none -> H d = none -> H' t = some (.tup [.ref l, .int p, .ref d]) -> H' l = some (.lst (W.map V.int)) -> iG H' d (jC f cs) -> rG cs m W -> W.length <= 60 -> 0 <= p -> p <= (cs.map wt).sum -> Dn cs m p -> Up cs m p -> xS p cs f -> Exact p cs f -> l ≠ d -> Q (.ref t) H') : mB [v, .int m] H Q E := ⟨v, m, cs, rfl, h, ho, hl, h0, q⟩
theorem wm (T : Txt K mg a) : bJ P w K mg base ic 8 a.fF a.o9 ["claims", "most"] mB := by
 have oN := wI (P := P) (w := w) (base := base) T
 have jX := zL (P := P) (w := w) (base := base) T
 have fS := kr (P := P) (w := w) (base := base) T
 refine T.n8.ok pX (fun vs H Q E h => ?_) (fun cV A outer s H vs Q E hr h => ?_)
 . obtain ⟨_, _, _, rfl, _⟩ := h; rfl
 . obtain ⟨v, m, cs, rfl, hv, aQ, hl, m0, q⟩ := h
   refine ⟨_, (ai (au (i := 2) pX.nd rfl (Or.inl rfl) (aF oN (hr.mono (by decide)) rfl T.ja T.jf (ae (pv 0) (ae (pv 1) ah))))
    (ao (aP (dG (ae (aF jX (hr.mono (by decide)) rfl T.fq T.fh (ae (pv 0) (ae (pv 1) ah))) (ae (pv 2) (ae (aF fS (hr.mono (by decide)) rfl T.d7 T.eJ (ae (pv 2) (ae (pv 0) ah))) ah))))))), ?_⟩
   repeat' (walk_at "rd1")
   refine Dl hv aQ hl (fun H1 p g5 p0 p1 hD hU => ?_)
   have Bq : Dv H1 v (.list (cs.map bV)) := hv.keeps g5
   repeat' (walk_at "rd1")
   refine GN Bq aQ hl m0 (fun l H2 W ck mF qf hO hW => ?_)
   have tu : Dv H2 v (.list (cs.map bV)) := Bq.keeps ck
   repeat' (walk_at "rd1")
   refine nI tu aQ hl p0 (fun d H3 f sm3 qZ hd Bo hx => ?_)
   repeat' (walk_at "rd1")
   have FT := sm3.at qf
   refine iT (ds := [.list (W.map PyData.int), .int p, _]) (gm rfl) (.cons (.lst (.inl FT) (dI _)) (.cons (.int _) (.cons hd.dv .nil))) (fun tn H4 mG uD v5 => ?_)
   repeat' (walk_at "rd1")
   exact q tn l d H4 W p f (((g5.trans ck).trans sm3).trans mG) (g5.none mF) ((g5.trans ck).none qZ) v5 (mG.at FT) (hd.keeps mG) hO hW p0 p1 hD hU Bo hx (aG qf qZ)
theorem tE (T : Txt K mg a) : ki P w K mg base 8 a.fF ["claims", "most"] [] mB :=
 ⟨⟨_, _, wm T, T.n8.binds fun _ _ _ _ _ _ => .all fun us hl => match us, hl with | [_, _], _ => rfl, .nil⟩⟩
theorem mr {p q : Int -> Bool} : ∀ {A : List Int}, (∀ a ∈ A, p a = true -> q a = true) -> (A.filter p).length <= (A.filter q).length /\ ((A.filter q).length <= (A.filter p).length -> ∀ a ∈ A, q a = true -> p a = true)
 | [], _ => ⟨Nat.le_refl _, fun _ a h => by simp at h⟩
 | x :: A, h => by
   obtain ⟨h1, h2⟩ := mr (A := A) fun a ha => h a (List.mem_cons_of_mem _ ha)
   have hx := h x List.mem_cons_self
   rw [List.filter_cons, List.filter_cons]
   cases hp : p x with
   | true =>
     have hq := hx hp
     rw [hq, if_pos rfl, if_pos rfl, List.length_cons, List.length_cons]
     refine ⟨by omega, fun hle a ha BV => ?_⟩
     rcases List.mem_cons.mp ha with rfl | ha
     . exact hp
     . exact h2 (by omega) a ha BV
   | false =>
     cases hq : q x with
     | true =>
       rw [if_neg (by simp), if_pos rfl, List.length_cons]
       exact ⟨by omega, fun hle => by omega⟩
     | false =>
       rw [if_neg (by simp), if_neg (by simp)]
       refine ⟨h1, fun hle a ha BV => ?_⟩
       rcases List.mem_cons.mp ha with rfl | ha
       . rw [hq] at BV; cases BV
       . exact h2 hle a ha BV
def aO (A : List Int) : List Int -> Nat
 | [] => A.length
 | b :: _ => (A.filter fun a => decide (a < b)).length
def lK (x : Int) : Int -> Bool := fun a => decide (a <= x)
def ve (x : Int) : Int -> Bool := fun a => decide (x < a)
theorem pS (x : Int) : ∀ A : List Int, (A.filter (lK x)).length + (A.filter (ve x)).length = A.length
 | [] => rfl
 | a :: A => by
   have ih := pS x A
   rw [List.filter_cons, List.filter_cons]
   unfold lK ve at ih ⊢
   by_cases h : a <= x
   . rw [decide_eq_true h, decide_eq_false (by omega), if_pos rfl, if_neg (by simp), List.length_cons, List.length_cons]; omega
   . rw [decide_eq_false h, decide_eq_true (by omega), if_neg (by simp), if_pos rfl, List.length_cons, List.length_cons]; omega
theorem cross {A B : List Int} {d : Int} : ∀ (Bs Bp : List Int), B = Bp ++ Bs -> kx B -> (Bp.length : Int) - aO A Bs < d -> d <= (B.length : Int) - A.length -> ∃ x, x ∈ B /\ (∀ a ∈ A, x < a -> ∃ b ∈ B, x < b /\ b <= a) /\ ((B.filter (lK x)).length : Int) - (A.filter (lK x)).length = d
 | [], Bp, hB, hI, h1, h2 => by
   rw [List.append_nil] at hB
   subst hB
   have e : aO A [] = A.length := rfl
   rw [e] at h1
   omega
 | b :: Bs, Bp, hB, hI, h1, h2 => by
   by_cases h3 : ((Bp ++ [b]).length : Int) - aO A Bs < d
   . exact cross Bs (Bp ++ [b]) (by rw [hB]; simp) hI h3 h2
   . rw [List.length_append, List.length_singleton] at h3
     subst hB
     obtain ⟨i1, i2, i3⟩ := List.pairwise_append.mp hI
     obtain ⟨j1, j2⟩ := List.pairwise_cons.mp i2
     have Im : b ∈ Bp ++ b :: Bs := by simp
     have Hn : ((Bp ++ b :: Bs).filter (lK b)).length = Bp.length + 1 := by
      have f1 : Bp.filter (lK b) = Bp := List.filter_eq_self.mpr fun y hy => decide_eq_true (Int.le_of_lt (i3 y hy b List.mem_cons_self))
      have f2 : Bs.filter (lK b) = [] := List.filter_eq_nil_iff.mpr fun y hy => by have := j1 y hy; simp [lK]; omega
      have f3 : lK b b = true := decide_eq_true (Int.le_refl b)
      rw [List.filter_append, List.length_append, f1, List.filter_cons, if_pos f3, f2]
      rfl
     have g1 := mr (A := A) (p := fun a => decide (a < b)) (q := lK b) (fun a _ h => decide_eq_true (Int.le_of_lt (of_decide_eq_true h)))
     have e0 : aO A (b :: Bs) = (A.filter fun a => decide (a < b)).length := rfl
     cases Bs with
     | nil =>
       have e1 : aO A [] = A.length := rfl
       have g2 := pS b A
       refine ⟨b, Im, fun a ha cq => ?_, ?_⟩
       . have E5 : A.filter (ve b) = [] := List.length_eq_zero_iff.mp (by omega)
         have := List.filter_eq_nil_iff.mp E5 a ha
         exact absurd (decide_eq_true cq) this
       . rw [Hn]; omega
     | cons b' Bs =>
       have FE := j1 b' List.mem_cons_self
       have e1 : aO A (b' :: Bs) = (A.filter fun a => decide (a < b')).length := rfl
       have g2 := mr (A := A) (p := lK b) (q := fun a => decide (a < b')) (fun a _ h => decide_eq_true (by have := of_decide_eq_true h; omega))
       refine ⟨b, Im, fun a ha cq => ⟨b', by simp, FE, ?_⟩, ?_⟩
       . by_cases AF : b' <= a
         . exact AF
         . have := g2.2 (by omega) a ha (decide_eq_true (by omega))
           have := of_decide_eq_true this
           omega
       . rw [Hn]; omega
theorem Ak {A B : List Int} {x w : Int} {c : C4} (hx : x ∈ B) (h2 : ∀ a ∈ A, x < a -> ∃ b ∈ B, x < b /\ b <= a) (hw : 0 <= w) : (if hit A c = true then w else 0) + (if hit B c = true then w else 0) <= (if hit (A.filter (lK x) ++ B.filter (ve x)) c = true then w else 0) + (if hit (B.filter (lK x) ++ A.filter (ve x)) c = true then w else 0) := by
 have Be : ∀ {U W : List Int} {u : Int}, u ∈ U -> u <= x -> c.2.1 <= u -> u <= c.2.2.1 -> hit (U.filter (lK x) ++ W) c = true := fun hu h3 h4 h5 => (bw _ c).mpr ⟨_, List.mem_append_left _ (List.mem_filter.mpr ⟨hu, decide_eq_true h3⟩), h4, h5⟩
 have CJ : ∀ {U W : List Int} {u : Int}, u ∈ W -> x < u -> c.2.1 <= u -> u <= c.2.2.1 -> hit (U ++ W.filter (ve x)) c = true := fun hu h3 h4 h5 => (bw _ c).mpr ⟨_, List.mem_append_right _ (List.mem_filter.mpr ⟨hu, decide_eq_true h3⟩), h4, h5⟩
 by_cases hA : hit A c = true
 . obtain ⟨u, hu, u1, u2⟩ := (bw A c).mp hA
   by_cases hB : hit B c = true
   . obtain ⟨v, hv, v1, v2⟩ := (bw B c).mp hB
     have k : hit (A.filter (lK x) ++ B.filter (ve x)) c = true /\ hit (B.filter (lK x) ++ A.filter (ve x)) c = true := by
      by_cases h3 : u <= x
      . refine ⟨Be hu h3 u1 u2, ?_⟩
        by_cases h4 : v <= x
        . exact Be hv h4 v1 v2
        . exact Be hx (Int.le_refl _) (by omega) (by omega)
      . by_cases h4 : v <= x
        . obtain ⟨b, hb, b1, b2⟩ := h2 u hu (by omega)
          exact ⟨CJ hb b1 (by omega) (by omega), Be hv h4 v1 v2⟩
        . exact ⟨CJ hv (by omega) v1 v2, CJ hu (by omega) u1 u2⟩
     rw [if_pos hA, if_pos hB, if_pos k.1, if_pos k.2]
     exact Int.le_refl _
   . rw [if_pos hA, if_neg hB]
     by_cases h3 : u <= x
     . rw [if_pos (Be hu h3 u1 u2)]; split <;> omega
     . rw [if_pos (CJ (U := B.filter (lK x)) hu (by omega) u1 u2)]; split <;> omega
 . rw [if_neg hA]
   by_cases hB : hit B c = true
   . obtain ⟨v, hv, v1, v2⟩ := (bw B c).mp hB
     rw [if_pos hB]
     by_cases h4 : v <= x
     . rw [if_pos (Be (W := A.filter (ve x)) hv h4 v1 v2)]; split <;> omega
     . rw [if_pos (CJ (U := A.filter (lK x)) hv (by omega) v1 v2)]; split <;> omega
   . rw [if_neg hB]; split <;> split <;> omega
theorem Gp {A B : List Int} (hA : kx A) (hB : kx B) (hl : A.length + 2 <= B.length) {cs : List C4} (hw : ∀ c ∈ cs, 0 <= wt c) : ∃ A' B' : List Int, kx A' /\ kx B' /\ A'.length = A.length + 1 /\ B'.length + 1 = B.length /\ fE A cs + fE B cs <= fE A' cs + fE B' cs := by
 have yw : (([] : List Int).length : Int) - aO A B < (B.length : Int) - A.length - 1 := by
  have h0 : (([] : List Int).length : Int) = 0 := rfl
  rw [h0]; omega
 obtain ⟨x, hx, h2, hd⟩ := cross (A := A) (B := B) (d := (B.length : Int) - A.length - 1) B [] rfl hB yw (by omega)
 have l1 := pS x A
 have l2 := pS x B
 have mix : ∀ {U W : List Int}, kx U -> kx W -> kx (U.filter (lK x) ++ W.filter (ve x)) := fun hU hW => List.pairwise_append.mpr ⟨hU.filter _, hW.filter _, fun u hu v hv => by
  have h3 := of_decide_eq_true (List.mem_filter.mp hu).2
  have h4 := of_decide_eq_true (List.mem_filter.mp hv).2
  omega⟩
 refine ⟨_, _, mix hA hB, mix hB hA, by rw [List.length_append]; omega, by rw [List.length_append]; omega, ?_⟩
 rw [eO, eO, eO, eO]
 clear hd l1 l2 mix yw
 induction cs with
 | nil => exact Int.le_refl _
 | cons c cs ih =>
   have ih := ih fun d hd => hw d (List.mem_cons_of_mem _ hd)
   have := Ak (c := c) hx h2 (hw c List.mem_cons_self)
   rw [bE, bE, bE, bE]
   omega
theorem rG.vJ {cs : List C4} {m : Int} {W0 W1 W2 : List Int} (hw : ∀ c ∈ cs, 0 <= wt c) (h0 : rG cs (m - 1) W0) (h1 : rG cs m W1) (h2 : rG cs (m + 1) W2) : fE W2 cs - fE W1 cs <= fE W1 cs - fE W0 cs := by
 have a0 := h1.opt W0 (by have := h0.len; omega)
 by_cases hl : (W2.length : Int) <= m
 . have := h1.opt W2 hl
   omega
 . have l0 := h0.len
   have l2 := h2.len
   obtain ⟨A', B', _, _, e1, e2, e3⟩ := Gp h0.inc h2.inc (by omega) hw
   have := h1.opt A' (by omega)
   have := h1.opt B' (by omega)
   omega
theorem v7 {W : List Int} {cs : List C4} (hn : (cs.map (·.1)).Nodup) {ss : List Str} (hp : ss.Perm (xl W cs)) : ∀ c ∈ cs, ss.contains c.1 = !hit W c := by
 intro c hc
 rw [Bool.eq_iff_iff, List.contains_iff_mem, hp.mem_iff]
 unfold xl
 constructor
 . intro h
   obtain ⟨d, hd, e⟩ := List.mem_map.mp h
   obtain ⟨h1, h2⟩ := List.mem_filter.mp hd
   obtain ⟨i, hi, ei⟩ := List.getElem_of_mem hc
   obtain ⟨j, hj, ej⟩ := List.getElem_of_mem h1
   have e' : (cs.map (·.1))[i]'(by rw [List.length_map]; exact hi) = (cs.map (·.1))[j]'(by rw [List.length_map]; exact hj) := by rw [List.getElem_map, List.getElem_map, ei, ej]; exact e.symm
   have jd : i = j := by
    rcases Nat.lt_trichotomy i j with k | k | k
    . exact absurd e' ((List.pairwise_iff_getElem.mp (List.nodup_iff_pairwise_ne.mp hn)) i j _ _ k)
    . exact k
    . exact absurd e'.symm ((List.pairwise_iff_getElem.mp (List.nodup_iff_pairwise_ne.mp hn)) j i _ _ k)
   subst jd
   rw [<- ei, ej]; exact h2
 . intro h
   exact List.mem_map.mpr ⟨c, List.mem_filter.mpr ⟨hc, h⟩, rfl⟩
theorem tK {W : List Int} {cs : List C4} (hn : (cs.map (·.1)).Nodup) {ss : List Str} (hp : ss.Perm (xl W cs)) : fE W cs + sf (fun c => ss.contains c.1) wt cs = (cs.map wt).sum := by
 have e : sf (fun c => ss.contains c.1) wt cs = sf (fun c => !hit W c) wt cs := by
  unfold sf
  rw [List.filter_congr (v7 hn hp)]
 rw [e, eO]
 exact jZ cs
theorem Cd {K : PySem.W.Frag} {H : Hp} {Q : VK} {p : Addr} {x y z n i : Int} (h : bI H p [.int x, .int y, .int z]) (e : kF [PyData.int x, .int y, .int z] i = some (.int n)) (q : Q (.int n) H) : js K (.ref p) (.int i) H Q := lj (.inr h.dv) e (jB q)
local macro_rules | `(tactic| walk_at "rd1") => `(tactic| first
 | ((with_reducible refine' Cd ?e1 ?e2 ?_); (case e1 => assumption); (case e2 => exact rfl))
 | fail)
theorem y8 (T : Txt K mg a) : bJ P w K mg base ic 10 a.gI a.lX ["_law_script"] (uk K) := by
 have bx := cR (P := P) (w := w) (base := base) T
 have kz := mY (P := P) (w := w) (base := base) T
 have lT := q0 (P := P) (w := w) (base := base) T
 have y3 := tE (P := P) (w := w) (base := base) T
 have i7 := xj (P := P) (w := w) (base := base) T
 have nT := vH (P := P) (w := w) (base := base) T
 refine T.sO.ok dQ (fun vs H Q E h => ?_) (fun cV A outer s H vs Q E hr h => ?_)
 . obtain ⟨_, _, rfl, _⟩ := h; rfl
 . obtain ⟨l, ns, rfl, hl, hn, q⟩ := h
   refine ⟨_, (ai (au (i := 1) dQ.nd rfl (Or.inl rfl) (aF kz (hr.mono (by decide)) rfl T.fv T.fU (ae (pv 0) (ae (aj aB (aF bx (hr.mono (by decide)) rfl T.bH T.bG (ae (pv 0) (ae af ah))) af) ah))))
    (ai (au (i := 2) dQ.nd rfl (Or.inl rfl) (aj aN af (aj aB (aF bx (hr.mono (by decide)) rfl T.bH T.bG (ae (pv 0) (ae af ah))) af)))
    (ai (au (i := 3) dQ.nd rfl (Or.inl rfl) (aW (dS rfl) rfl T.eW PyProof.Rows.boot_sum (ae (fN (T := ["_law_one"]) (M := ["_law_script", "_law_claims_here", "_law_most", "_law_total", "_law_sums", "_law_k", "_law_wakings", "_law_weight", "_law_left", "_law_cell"]) (rF (ak mO) ["_law_script", "_law_claims_here", "_law_most", "_law_total", "_law_sums", "_law_k", "_law_wakings", "_law_weight", "_law_left", "_law_cell"] rfl rfl (by decide +kernel)) rfl (bp (pv 1)) (fun _ _ _ _ _ => (aq (i := 0) (show List.Nodup (["_law_one", "_law_script", "_law_claims_here", "_law_most", "_law_total", "_law_sums", "_law_k", "_law_wakings", "_law_weight", "_law_left", "_law_cell"] : List Str) by decide +kernel) rfl (Or.inl rfl))) (cD (by decide)) (fun _ _ _ _ _ => eP) (fun _ _ _ _ _ => (aI (kN (K := K) rfl) (pv 0) af (fun _ _ => rfl)))) ah)))
    (ai (au (i := 4) dQ.nd rfl (Or.inl rfl) (a9 ah))
    (ai (cH PassesOwn.never rfl (fV rfl T.dh (ae af ah)) (aq (i := 5) dQ.nd rfl (Or.inl rfl))
     (ai (au (i := 6) dQ.nd rfl (Or.inl rfl) (aI cz (aF y3 (hr.mono (by decide)) rfl T.pH T.pT (ae (f9 dB rfl T.eU PyProof.Rows.boot_list (ae (pv 1) ah)) (ae (aj aN (aj eM (pv 2) af) (pv 5)) ah))) af (fun _ _ => rfl)))
     (ai (au (i := 7) dQ.nd rfl (Or.inl rfl) (aF i7 (hr.mono (by decide)) rfl T.d5 T.eh (ae (pv 6) (ae (f9 dB rfl T.eU PyProof.Rows.boot_list (ae (pv 1) ah)) ah))))
     (ai (au (i := 8) dQ.nd rfl (Or.inr rfl) (aF nT (hr.mono (by decide)) rfl T.jj T.je (ae (pv 6) (ae (f9 dB rfl T.eU PyProof.Rows.boot_list (ae (pv 1) ah)) ah))))
     (ai (fB (a7 (oD hr.Bw) (aj aN (pv 7) (aW (dS rfl) rfl T.eW PyProof.Rows.boot_sum (ae (fN (T := ["_law_one"]) (M := ["_law_script", "_law_claims_here", "_law_most", "_law_total", "_law_sums", "_law_k", "_law_wakings", "_law_weight", "_law_left", "_law_cell"]) (rF (ak mO) ["_law_script", "_law_claims_here", "_law_most", "_law_total", "_law_sums", "_law_k", "_law_wakings", "_law_weight", "_law_left", "_law_cell"] rfl rfl (by decide +kernel)) rfl (bp (pv 1)) (fun _ _ _ _ _ => (aq (i := 0) (show List.Nodup (["_law_one", "_law_script", "_law_claims_here", "_law_most", "_law_total", "_law_sums", "_law_k", "_law_wakings", "_law_weight", "_law_left", "_law_cell"] : List Str) by decide +kernel) rfl (Or.inl rfl))) (cD (by decide)) (fun _ _ _ _ _ => (ik (a7 (yM (K := K) rfl) (aI (kN (K := K) rfl) (pv 0) af (fun _ _ => rfl)) (pv 9) rfl))) (fun _ _ _ _ _ => (aI (kN (K := K) rfl) (pv 0) af (fun _ _ => rfl)))) ah))) (pv 3) (bM _))
      (ao (aP ql))
      cI)
     (ao (f7 (lA PySem.F.plainAttrs_list PySem.F.slot_list_append PySem.F.type_list_append c7 (pv 4) (ae (pv 7) ah)))))))))
    (ai (cH PassesOwn.never rfl (bp (bX jz (pv 0) (b4 af) (b4 af))) (aq (i := 9) dQ.nd rfl (Or.inl rfl))
     (ao (fB (a7 ur (aF i7 (hr.mono (by decide)) rfl T.d5 T.eh (ae (aF lT (hr.mono (by decide)) rfl T.gE T.gA (ae (pv 1) (ae (pv 9) (ae (pv 2) ah)))) (ae (f9 dB rfl T.eU PyProof.Rows.boot_list (ae (pv 1) ah)) ah))) (aI cz (pv 4) af (fun _ _ => rfl)) (bM _))
      (ao (aP ql))
      cI)))
    (ai (fB (PW.pt (uJ (a7 (n6 hr.Bw) (pv 2) af (bM _)) (pj (a7 (oD hr.Bw) (aI cz (pv 4) af (fun _ _ => rfl)) af (bM _)))))
     (ao (aP ql))
     cI)
    (ao (aP (uZ iz iz af (aj eM (aI cz (pv 4) af (fun _ _ => rfl)) (aI cz (pv 4) af (fun _ _ => rfl))) (aj eM (aI cz (pv 4) af (fun _ _ => rfl)) (aI cz (pv 4) af (fun _ _ => rfl))))))))))))), ?_⟩
   repeat' (walk_at "rd1")
   refine qO hl (by omega) (by omega) (fun pc H1 cs g5 rK q9 aQ zE => ?_)
   have Eg : cs.length <= 26 := by omega
   have EV : bh K H1 l (ns.map V.int) := by walk_at "sql"
   repeat' (walk_at "rd1")
   rename_i m0 m1
   refine kd (cs := cs) (gd := bV) (fun _ => true) (fun c => .int (wt c)) zE.dv (by omega) (fun _ => rfl) (fun x c H2 N hc ck hx yes no => ?_) (fun q1 H2 ck mF kA => ?_)
   . have g0 : Dv H2 x (.tuple [.str c.1, .int c.2.1, .int c.2.2.1, .int c.2.2.2]) := hx
     repeat' (walk_at "rd1")
     refine cB (fun hb => ?_) (fun hb => by cases hb)
     repeat' (walk_at "rd1")
     exact yes rfl _ _ (ag.refl _) (.int _)
   rw [eX] at kA
   have jo : Dv H2 (.ref q1) (.list ((cs.map wt).map PyData.int)) := by rw [List.map_map]; exact kA.dv
   have qy := zE.keeps ck
   have qf : bh K H2 l (ns.map V.int) := by walk_at "sql"
   repeat' (walk_at "rd1")
   clear kA jo
   rename_i sq H3 sm3 qZ EF
   have LY : 1 <= 1 + cell ns (Int.toNat 2) % 5 := by omega
   have Mg : 1 + cell ns (Int.toNat 2) % 5 <= 5 := by omega
   generalize 1 + cell ns (Int.toNat 2) % 5 = m at *
   have JO := qy.keeps sm3
   have FT : bh K H3 l (ns.map V.int) := ag.seq sm3 qf
   have LK : pc ≠ sq := qy.ne qZ
   refine fY (fun j σ' H' => ∃ (z5 z6 z7 z8 : Option V) (Ws : List (List Int)), σ' = [some (.ref l), some (.ref pc), some (.int m), some (.int (cs.map wt).sum), some (.ref sq), z5, z6, z7, z8, none] /\ ag H2 H' /\ bI H' sq ((Ws.map fun W => fE W cs).map PyData.int) /\ Ws.length = j /\ ∀ (i : Nat) W, Ws[i]? = some W -> rG cs (m - 1 + i) W) ⟨_, _, _, _, [], rfl, sm3, EF, rfl, fun i W h => by simp at h⟩ ?_ ?_
   . rintro j σ' H' hj ⟨z5, z6, z7, z8, Ws, rfl, g6, mI, vx, hO⟩
     have Iu : j < 3 := by simpa using hj
     have Cp := qy.keeps g6
     repeat' (walk_at "rd1")
     rename_i pa H4 mG uD Bt
     refine yz Bt.dv aQ (by omega) (by omega) (fun t lw d H5 W p f kn xH Bh GP Kw hd Ip Mh p0 p1 hD hU Bo hx L4 => ?_)
     have K0 : Dv H5 (.ref t) (.tuple [.list (W.map PyData.int), .int p, _]) := .tup GP (.cons (.lst (.inl Kw) (dI _)) (.cons (.int _) (.cons hd.dv .nil)))
     repeat' (walk_at "rd1")
     rename_i vw F9 pb H6 lI yD Io
     refine xW (F9.keeps lI) Io.dv (by omega) (fun H7 lB => ?_)
     have EZ := (F9.keeps lI).keeps lB
     have CH : ag H2 H7 := (((g6.trans mG).trans kn).trans lI).trans lB
     have Lr := qy.keeps CH
     clear K0 F9 Io Bt
     repeat' (walk_at "rd1")
     rename_i pd H8 uy Ji Hf
     refine C3 (EZ.keeps uy) Hf.dv (by omega) (fun pl H9 ss Bd II jP El mE => ?_)
     have F6 : ag H2 H9 := (CH.trans uy).trans Bd
     have FR := qy.keeps F6
     have FZ := tK aQ.nd jP
     clear Hf
     repeat' (walk_at "rd1")
     refine kd (cs := cs) (gd := bV) (fun c => ss.contains c.1) (fun c => .int (wt c)) FR.dv (by omega) (fun _ => rfl) (fun x c H2 N hc ck hx yes no => ?_) (fun q1 HH Gj JF kA => ?_)
     . have g0 : Dv H2 x (.tuple [.str c.1, .int c.2.1, .int c.2.2.1, .int c.2.2.2]) := hx
       have Jm := mE.keeps ck
       repeat' (walk_at "rd1")
       refine cB (fun hb => ?_) (fun hb => no hb _ (ag.refl _))
       repeat' (walk_at "rd1")
       exact yes hb _ _ (ag.refl _) (.int _)
     have jo : Dv HH (.ref q1) (.list (((cs.filter fun c => ss.contains c.1).map wt).map PyData.int)) := by rw [List.map_map]; exact kA.dv
     have x8 : ag H' HH := (((((mG.trans kn).trans lI).trans lB).trans uy).trans Bd).trans Gj
     have JT := mI.keeps x8
     have G7 : (List.map PyData.int (Ws.map fun W => fE W cs)).length <= 3 := by rw [List.length_map, List.length_map]; omega
     repeat' (walk_at "rd1")
     . rename_i hb
       exact absurd FZ hb
     . rename_i hb LO F7 Gu
       refine ⟨_, _, _, _, Ws ++ [W], rfl, ?_, by rw [List.map_append, List.map_append]; exact Gu, by simp [vx], fun i W' h => ?_⟩
       . exact Mv.yu (g6.trans x8) F7 qZ
       . by_cases hi : i < Ws.length
         . rw [List.getElem?_append_left hi] at h; exact hO i W' h
         . have oK := (List.getElem?_eq_some_iff.mp h).1
           rw [List.length_append, List.length_singleton] at oK
           have Kg : i = j := by omega
           subst Kg
           rw [<- vx, List.getElem?_append_right (Nat.le_refl _), Nat.sub_self] at h
           cases h
           rw [Int.zero_add] at Ip
           exact Ip
   . rintro σ' H' ⟨z5, z6, z7, z8, Ws, rfl, g6, mI, vx, hO⟩
     have CU : Ws.length = 3 := vx
     obtain ⟨W0, W1, W2, rfl⟩ : ∃ W0 W1 W2, Ws = [W0, W1, W2] := by
      match Ws, CU with
      | [W0, W1, W2], _ => exact ⟨_, _, _, rfl⟩
     have O0 := hO 0 W0 rfl
     have O1 := hO 1 W1 rfl
     have O2 := hO 2 W2 rfl
     clear hO vx CU
     rw [show m - 1 + ((0 : Nat) : Int) = m - 1 by omega] at O0
     rw [show m - 1 + ((1 : Nat) : Int) = m by omega] at O1
     rw [show m - 1 + ((2 : Nat) : Int) = m + 1 by omega] at O2
     have hw : ∀ c ∈ cs, 0 <= wt c := fun c hc => by have := (aQ.w1 c hc).1; show 0 <= c.2.2.2; omega
     have LW := rG.vJ hw O0 O1 O2
     have h12 := O2.opt W1 (by have := O1.len; omega)
     have Cp := qy.keeps g6
     have G2 : bI H' sq [.int (fE W0 cs), .int (fE W1 cs), .int (fE W2 cs)] := mI
     clear mI
     repeat' (walk_at "rd1")
     refine uf 3 15 (ag.seq g6 qf) (fun pf H4 mG uD Bz => ?_)
     generalize (ns.drop 3).take (15 - 3) = ts at *
     have HQ := G2.keeps mG
     have Fc := Cp.keeps mG
     repeat' (walk_at "rd1")
     refine qh (Hb := H4) (cs := ts) (gd := PyData.int) Bz.dv (fun j σ' H5 => ag H4 H5 /\ ∃ z9, σ' = [some (.ref l), some (.ref pc), some (.int m), some (.int (cs.map wt).sum), some (.ref sq), z5, z6, z7, z8, z9]) ⟨ag.refl _, _, rfl⟩ (fun i σ' H' _ ⟨sm, _⟩ a' xs _ hx => ag.seq sm hx) ?_ ?_
     . rintro j c x σ' H5 hc ⟨kn, z9, rfl⟩ _ hd
       obtain rfl := (hd kn).int_inv
       have HU := HQ.keeps kn
       have Dw := Fc.keeps kn
       repeat' (walk_at "rd1")
       refine vy Dw.dv aQ.ok (by omega) (by omega) (by omega) (fun pt H6 us lI yD KJ Jo => ?_)
       have KL := HU.keeps lI
       have Ka := Dw.keeps lI
       repeat' (walk_at "rd1")
       rename_i pa H7 lB D2 Bt
       refine xW (Jo.keeps lB).dv Bt.dv (by omega) (fun H8 uy => ?_)
       have Ma := (KL.keeps lB).keeps uy
       have hle := O1.opt us (by omega)
       repeat' (walk_at "rd1")
       . exact ⟨((kn.trans lI).trans lB).trans uy, _, rfl⟩
     . rintro σ' H5 ⟨kn, z9, rfl⟩
       have HU := HQ.keeps kn
       repeat' (walk_at "rd1")
       . rename_i h1 hb
         have hz : W0 = [] := List.length_eq_zero_iff.mp (by have := O0.len; omega)
         rw [hz, eu] at hb
         exact absurd rfl hb
       all_goals first
        | (exfalso; omega)
        | (show Q (.bl (decide _)) _; rw [decide_eq_true (by omega)]; exact q _)
end
end My
open PySem PySem.W PyProof.Rows
local macro_rules | `(tactic| walk_at "k_dg") => `(tactic| (refine' ⟨?a, ⟨_, L2.vX ?l ?c⟩, ?k⟩; (case a => k_is); (case l => k_is); (case c => k_is); (case k => k_is)))
theorem PySem.W.Fast.tw1447190254109133557 : True := trivial
theorem PySem.W.Fast.tw11139582874519222831 : True := trivial
theorem PySem.W.Fast.tw1161367265011907856 : True := trivial
theorem PySem.W.Fast.tw15887031470178436968 : True := trivial
theorem PySem.W.Fast.tw5920396953031503540 : True := trivial
theorem PySem.W.Fast.tw2050790597890295142 : True := trivial
theorem PySem.W.Fast.tw5975583384174783825 : True := trivial
set_option maxRecDepth 100000 in
set_option maxHeartbeats 0 in
theorem PySem.Challenge.cw_wakefew_k48_whole_no_wakings_do_more_holds : PySem.Challenge.rw_wakefew_k48_whole_no_wakings_do_more.Holds := by
 w_on; o_law; k_head; (case hw => w_witness2)
 k_fill
 refine L2.rW (l := PySem.Challenge.rw_wakefew_k48_whole_no_wakings_do_more) (n := 63) (k := 14) (x := "_law_script") (CX := L2.ic) (sp := My.uk) rfl (by decide) rfl ⟨rfl, by decide, by decide⟩ (fun w h Y => PySem.W.kIn_of Y) ?F ?S ?C
 case F =>
  intro w mg fa h KX G B4
  have T : ∃ a : My.Ad, a.gI = a.gI /\ My.Txt (L2.Il KX) mg a := by
   dsimp only [L2.Il]
   refine' My.A4 KX G ?h2 ?h3 ?h4 ?h5 ?h6 ?h7 ?h8 ?h9 ?h10 ?h11 ?h12 ?h13 ?h14 ?h15 ?h16 ?h17 ?h18 ?h19 ?h20 ?h21 ?h22 ?h23 ?h24 ?h25 ?h26 ?h27 ?h28 ?h29 ?h30 ?h31 ?h32
   (case h2 => walk_at "k_dg")
   (case h3 => walk_at "k_dg")
   (case h4 => walk_at "k_dg")
   (case h5 => walk_at "k_dg")
   (case h6 => walk_at "k_dg")
   (case h7 => walk_at "k_dg")
   (case h8 => walk_at "k_dg")
   (case h9 => walk_at "k_dg")
   (case h10 => walk_at "k_dg")
   (case h11 => walk_at "k_dg")
   (case h12 => walk_at "k_dg")
   (case h13 => walk_at "k_dg")
   (case h14 => walk_at "k_dg")
   (case h15 => walk_at "k_dg")
   (case h16 => walk_at "k_dg")
   (case h17 => walk_at "k_dg")
   (case h18 => walk_at "k_dg")
   (case h19 => walk_at "k_dg")
   (case h20 => walk_at "k_dg")
   (case h21 => walk_at "k_dg")
   (case h22 => walk_at "k_dg")
   (case h23 => k_is)
   (case h24 => k_is)
   (case h25 => k_is)
   (case h26 => k_is)
   (case h27 => k_is)
   (case h28 => k_is)
   (case h29 => k_is)
   (case h30 => k_is)
   (case h31 => k_is)
   (case h32 => k_is)
  obtain ⟨a, _, T⟩ := T
  have e0 := B4.symm.trans T.rS
  cases e0
  exact ⟨a.lX, fun s u => My.rj T s u, fun base kb nb => (My.y8 T).mono (by decide)⟩
 case S => exact fun K H l ns hl hO hS => ⟨l, ns, rfl, hS, hl, fun _ => rfl⟩
 case C => exact fun H s e s' h => h
