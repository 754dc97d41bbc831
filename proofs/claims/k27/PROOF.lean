import PyProof.Rows.All
import Wide.All
import OpenK.AllK
import Wide.FinOn
import Lean
import PyProof.EqAt
import PyProof.EqKinds
import PyProof.TupleCall
import PyProof.StrLawsRepr
import PySem.Challenge.RW_wakefew_k27_whole_only_marks_count
set_option compiler.extract_closed false
set_option Elab.async false
set_option linter.all false
set_option maxRecDepth 100000
namespace L2
open PySem PySem.Spec PyProof.Rows
abbrev Key := Sum Int Str
def ll : Key -> Value -> Bool
 | .inl k, v => Value.isInt k v
 | .inr x, v => Value.isStrOf x v
def Fb (w : World) : Key -> Int
 | .inl k => hashInt k
 | .inr x => hashStr w x
theorem bq : ∀ {k : Key} {v : Value}, ll k v = true -> (∃ i t, k = Sum.inl i /\ v = Value.int i t) \/ (∃ x t, k = Sum.inr x /\ v = Value.str x t)
 | .inl i, v, h => by
   obtain ⟨t, e⟩ := Value.isInt_shape (k := i) (v := v) h
   exact .inl ⟨i, t, rfl, e⟩
 | .inr x, v, h => by
   obtain ⟨t, e⟩ := Value.isStrOf_shape (x := x) (v := v) h
   exact .inr ⟨x, t, rfl, e⟩
theorem r0 (i : Int) (t : Tok) : ll (.inl i) (.int i t) = true := by simp [ll, Value.isInt]
theorem rQ (x : Str) (t : Tok) : ll (.inr x) (.str x t) = true := by simp [ll, Value.isStrOf]
theorem Ba (a b : Int) : decide ((Sum.inl a : Key) = Sum.inl b) = (a == b) := by
 by_cases e : a = b
 . subst e; simp
 . have h : ¬ (Sum.inl a : Key) = Sum.inl b := fun q => e (Sum.inl.inj q)
   rw [decide_eq_false h]
   exact (beq_eq_false_iff_ne.mpr e).symm
theorem zE (a b : Str) : decide ((Sum.inr a : Key) = Sum.inr b) = decide (a = b) := by
 by_cases e : a = b
 . subst e; simp
 . have h : ¬ (Sum.inr a : Key) = Sum.inr b := fun q => e (Sum.inr.inj q)
   rw [decide_eq_false h, decide_eq_false e]
theorem zp (a : Int) (b : Str) : decide ((Sum.inl a : Key) = Sum.inr b) = false := decide_eq_false (fun q => nomatch q)
theorem Az (a : Str) (b : Int) : decide ((Sum.inr a : Key) = Sum.inl b) = false := decide_eq_false (fun q => nomatch q)
def aV (prog : Program) (w : World) : PySem.KeyKind prog w Key where
 is := ll
 hash := Fb w
 inj := fun v a b ha hb => by
  rcases bq ha with ⟨i, t, rfl, rfl⟩ | ⟨x, t, rfl, rfl⟩
  . rcases bq hb with ⟨j, u, rfl, e⟩ | ⟨y, u, rfl, e⟩
    . injection e with e1 _; rw [e1]
    . exact nomatch e
  . rcases bq hb with ⟨j, u, rfl, e⟩ | ⟨y, u, rfl, e⟩
    . exact nomatch e
    . injection e with e1 _; rw [e1]
 byValue := fun k v h => by
  rcases bq h with ⟨i, t, rfl, rfl⟩ | ⟨x, t, rfl, rfl⟩ <;> rfl
 pyHash := fun hv h => by
  rcases bq hv with ⟨i, t, rfl, rfl⟩ | ⟨x, t, rfl, rfl⟩
  . exact wpAny_pyHash_int h
  . exact wpAny_pyHash_str h
 eqBool := fun hu hv h => by
  rcases bq hu with ⟨i, t, rfl, rfl⟩ | ⟨x, t, rfl, rfl⟩
  . rcases bq hv with ⟨j, u, rfl, rfl⟩ | ⟨y, u, rfl, rfl⟩
    . rw [Ba] at h; exact wpAny_eqBool_int h
    . rw [zp] at h; exact SeqAt.EqAt.int_str i t y u _ _ _ _ h
  . rcases bq hv with ⟨j, u, rfl, rfl⟩ | ⟨y, u, rfl, rfl⟩
    . rw [Az] at h; exact SeqAt.EqAt.str_int x t j u _ _ _ _ h
    . rw [zE] at h; exact wpAny_eqBool_str h
 «strs» := fun k x t v h => by
  rcases bq h with ⟨i, u, rfl, e⟩ | ⟨y, u, rfl, e⟩
  . exact nomatch e
  . injection e with e1 _
    subst e1
    cases v <;> rfl
theorem oK (prog : Program) (w : World) (i : Int) (t : Tok) : (aV prog w).is (.inl i) (.int i t) = true := r0 i t
theorem oS (prog : Program) (w : World) (x : Str) (t : Tok) : (aV prog w).is (.inr x) (.str x t) = true := rQ x t
inductive V where
 | a0 | bl (b : Bool) | int (i : Int) | str (x : Str) | qh (b : Array UInt8) | zO (b : UInt64) | ref (a : Addr) | ty (n : String)
 deriving DecidableEq
def RelV : V -> Value -> Prop
 | .a0, u => u = Value.none
 | .bl b, u => u = Value.bool b
 | .int i, u => ∃ t, u = Value.int i t
 | .str x, u => ∃ t, u = Value.str x t
 | .qh b, u => ∃ t, u = Value.bytes b t
 | .zO b, u => ∃ t, u = Value.float b t
 | .ref a, u => u = Value.ref a
 | .ty n, u => u = Value.type n
abbrev Vals : List V -> List Value -> Prop := Paired RelV
theorem Vals.length {xs : List V} {us : List Value} (r : Vals xs us) : xs.length = us.length := Paired.length r
theorem Vals.get : ∀ {xs : List V} {us : List Value} {i : Nat} {x : V}, Vals xs us -> xs[i]? = some x -> ∃ u, us[i]? = some u /\ RelV x u
 | _, _, _, _, .nil, e => by simp at e
 | _, _, 0, _, .cons r _, e => by simp at e; subst e; exact ⟨_, rfl, r⟩
 | _, _, i + 1, x, .cons _ t, e => by
   obtain ⟨u, h1, h2⟩ := Vals.get (i := i) (x := x) t (by simpa using e)
   exact ⟨u, by simpa using h1, h2⟩
theorem Vals.append : ∀ {xs ys : List V} {us ws : List Value}, Vals xs us -> Vals ys ws -> Vals (xs ++ ys) (us ++ ws)
 | _, _, _, _, .nil, s => s
 | _, _, _, _, .cons r t, s => .cons r (Vals.append t s)
theorem Vals.take : ∀ {xs : List V} {us : List Value} (n : Nat), Vals xs us -> Vals (xs.take n) (us.take n)
 | _, _, 0, _ => .nil
 | _, _, _ + 1, .nil => .nil
 | _, _, n + 1, .cons r t => .cons r (Vals.take n t)
theorem Vals.drop : ∀ {xs : List V} {us : List Value} (n : Nat), Vals xs us -> Vals (xs.drop n) (us.drop n)
 | _, _, 0, r => r
 | _, _, _ + 1, .nil => .nil
 | _, _, n + 1, .cons _ t => Vals.drop n t
def hU : Option V -> Option Value -> Prop
 | some v, some u => RelV v u
 | none, none => True
 | _, _ => False
def KV {κ : Type} : List (κ × V) -> List (κ × Value) -> Prop := Paired fun (p : κ × V) (q : κ × Value) => p.1 = q.1 /\ RelV p.2 q.2
def kV : Key -> V
 | .inl i => .int i
 | .inr x => .str x
inductive HO where
 | lst (xs : List V)
 | tup (xs : List V)
 | dK (kvs : List (Key × V)) | dT (kvs : List (List Key × V))
 | set (S : Int -> Bool) (n : Nat)
 | ins (C dx : Addr) (fs : List (Str × V))
 | own (x : Addr)
 | xd (fs : List (Str × V))
 | met (f x : Addr)
 | Gw (lo hi : Int)
 | gN (o : Obj) (u : HO)
 | ix (ps : Array Value)
 | ext (φ : Heap -> Prop)
abbrev Hp := Addr -> Option HO
def upd (H : Hp) (a : Addr) (o : HO) : Hp := fun b => if b = a then some o else H b
theorem ay {H : Hp} {a : Addr} {o : HO} : upd H a o a = some o := by unfold upd; rw [if_pos rfl]
theorem ak {H : Hp} {a b : Addr} {o : HO} (h : b ≠ a) : upd H a o b = H b := by unfold upd; rw [if_neg h]
theorem d9 {H : Hp} {a b : Addr} {o u : HO} (h : H a = some o) (h' : H b = some u) (d : o ≠ u) : a ≠ b := by
 intro e; subst e; rw [h] at h'; exact d (Option.some.inj h')
theorem ax {H : Hp} {a b : Addr} {o : HO} (h : H a = some o) (h' : H b = none) : a ≠ b := by
 intro e; subst e; rw [h] at h'; cases h'
section
variable (P : Program) (w : World)
def bH (H : Hp) (h : Heap) (a : Addr) : HO -> Prop
 | .lst xs => xs.length <= sizeLine /\ ∃ (aS : List Value) (n : Nat), Vals xs aS /\ h.get? a = some { cls := .type "list", data := .seq aS.toArray n }
 | .tup xs => xs.length <= sizeLine /\ ∃ aS : List Value, Vals xs aS /\ IsTup h a aS.toArray
 | .dK kvs => kvs.length <= sizeLine /\ (a == sysModules) = false /\ ∃ vs, KV kvs vs /\ h.DictOf (aV P w) a vs
 | .dT kvs => kvs.length <= sizeLine /\ (a == sysModules) = false /\ ∃ xs : List (List Key × Addr × Value),
  Paired (fun (p : List Key × V) (q : List Key × Addr × Value) => p.1 = q.1 /\ H q.2.1 = some (.tup (p.1.map kV)) /\ RelV p.2 q.2.2) kvs xs /\
  ∃ o es ep, h.get? a = some o /\ o.ExactDict /\ o.data = .dict es ep /\ es.toList = xs.map (entryOfKey (tupleKind (aV P w))) /\ (xs.map (·.1)).Nodup
 | .set S n => h.SetOf (intKind P w) a S n
 | .ins C dx fs => H dx = some (.own a) /\ fs.length <= 1000 /\ dx ≠ a /\ h.get? a = some (PySem.W.instObj C dx) /\
  ∃ mA, h.Ns1 dx mA /\ (∀ f, hU (fs.lookup f) (mA f)) /\ PySem.Within mA (fs.map (·.1))
 | .own _ => ∃ o, h.get? a = some o
 | .xd fs => ∃ mA, h.Ns1 a mA /\ ∀ f, hU (fs.lookup f) (mA f)
 | .Gw lo hi => ∃ t u v, h.get? a = some { cls := .type "range", data := .fields #[.int lo t, .int hi u, .int 1 v] }
 | .gN o u => h.get? a = some o /\ bH H h a u
 | .ix ps => h.get? a = some { cls := .none, data := .fields ps }
 | .met f x => h.get? a = some (PySem.W.methodObj (.ref f) (.ref x))
 | .ext φ => φ h /\ (∃ o, h.get? a = some o) /\ ∀ h1 h2 : Heap, φ h1 -> (∀ o, h1.get? a = some o -> h2.get? a = some o) -> φ h2
def gf (H : Hp) (h : Heap) : Prop := ∀ a o, H a = some o -> bH P w H h a o
end
section
variable {P : Program} {w : World} {H H' : Hp} {h h' : Heap} {a : Addr} {o : HO}
theorem bH.lt (x : bH P w H h a o) : a < h.objs.size := by
 cases o with
 | lst xs => obtain ⟨_, _, _, _, e⟩ := x; exact Heap.lt_size e
 | tup xs => obtain ⟨_, _, _, p⟩ := x; exact p.lt
 | dK kvs => obtain ⟨_, _, _, _, o, _, _, e, _⟩ := x; exact Heap.lt_size e
 | dT kvs => obtain ⟨_, _, _, _, o, _, _, e, _⟩ := x; exact Heap.lt_size e
 | set S n => obtain ⟨o, _, _, _, e, _⟩ := x; exact Heap.lt_size e
 | ins C dx fs => obtain ⟨_, _, _, e, _⟩ := x; exact Heap.lt_size e
 | own y => obtain ⟨_, e⟩ := x; exact Heap.lt_size e
 | xd fs => obtain ⟨_, ⟨_, _, _, e, _⟩, _⟩ := x; exact Heap.lt_size e
 | Gw lo hi => obtain ⟨_, _, _, e⟩ := x; exact Heap.lt_size e
 | gN ob u => obtain ⟨e, _⟩ := x; exact Heap.lt_size e
 | ix ps => exact Heap.lt_size (show h.get? a = some _ from x)
 | met f y => exact Heap.lt_size (show h.get? a = some _ from x)
 | ext φ => obtain ⟨_, ⟨_, e⟩, _⟩ := x; exact Heap.lt_size e
theorem Paired.Bl {α β : Type} {F G : α -> β -> Prop} : ∀ {l₁ : List α} {l₂ : List β}, Paired F l₁ l₂ -> (∀ a b, F a b -> G a b) -> Paired G l₁ l₂
 | _, _, .nil, _ => .nil
 | _, _, .cons r t, f => .cons (f _ _ r) (Paired.Bl t f)
theorem bH.lh (x : bH P w H h a o) (k : ∀ b u, (b = a \/ H b = some (.own a)) -> h.get? b = some u -> h'.get? b = some u)
 (ho : ∀ b, H b = some (.own a) -> H' b = some (.own a)) (ht : ∀ b xs, H b = some (.tup xs) -> H' b = some (.tup xs)) : bH P w H' h' a o := by
 induction o with
 | lst xs => obtain ⟨z, aS, n, r, e⟩ := x; exact ⟨z, aS, n, r, k _ _ (.inl rfl) e⟩
 | tup xs => obtain ⟨z, aS, r, ob, e, c⟩ := x; exact ⟨z, aS, r, ob, k _ _ (.inl rfl) e, c⟩
 | dK kvs => obtain ⟨z, y, vs, r, ob, es, ep, e, c⟩ := x; exact ⟨z, y, vs, r, ob, es, ep, k _ _ (.inl rfl) e, c⟩
 | dT kvs =>
   obtain ⟨z, y, xs, r, ob, es, ep, e, c⟩ := x
   exact ⟨z, y, xs, Paired.Bl r fun p q z => ⟨z.1, ht _ _ z.2.1, z.2.2⟩, ob, es, ep, k _ _ (.inl rfl) e, c⟩
 | set S n => obtain ⟨ob, es, ep, t, e, c⟩ := x; exact ⟨ob, es, ep, t, k _ _ (.inl rfl) e, c⟩
 | ins C dx fs =>
   obtain ⟨d, z, ne, e, mA, ⟨od, es, ep, e2, c⟩, r⟩ := x
   exact ⟨ho _ d, z, ne, k _ _ (.inl rfl) e, mA, ⟨od, es, ep, k _ _ (.inr d) e2, c⟩, r⟩
 | own y => obtain ⟨ob, e⟩ := x; exact ⟨ob, k _ _ (.inl rfl) e⟩
 | xd fs => obtain ⟨mA, ⟨od, es, ep, e, c⟩, r⟩ := x; exact ⟨mA, ⟨od, es, ep, k _ _ (.inl rfl) e, c⟩, r⟩
 | Gw lo hi => obtain ⟨t, u, v, e⟩ := x; exact ⟨t, u, v, k _ _ (.inl rfl) e⟩
 | gN ob u ih => obtain ⟨e, q⟩ := x; exact ⟨k _ _ (.inl rfl) e, ih q⟩
 | ix ps =>
   have e : h.get? a = some { cls := .none, data := .fields ps } := x
   show h'.get? a = some { cls := .none, data := .fields ps }
   exact k a _ (.inl rfl) e
 | met f y =>
   have e : h.get? a = some (PySem.W.methodObj (.ref f) (.ref y)) := x
   show h'.get? a = some (PySem.W.methodObj (.ref f) (.ref y))
   exact k a _ (.inl rfl) e
 | ext φ => obtain ⟨p, ⟨o, e⟩, st⟩ := x; exact ⟨st _ _ p fun o q => k _ _ (.inl rfl) q, ⟨o, k _ _ (.inl rfl) e⟩, st⟩
theorem gf.lt (x : gf P w H h) (e : H a = some o) : a < h.objs.size := (x a o e).lt
theorem gf.fresh (x : gf P w H h) (e : h.objs.size <= a) : H a = none := by
 cases q : H a with
 | none => rfl
 | some u => exact absurd (Nat.lt_of_lt_of_le (x.lt q) e) (Nat.lt_irrefl _)
theorem gf.kept (x : gf P w H h) (k : ∀ b u, h.get? b = some u -> h'.get? b = some u) : gf P w H h' := fun a o e =>
 (x a o e).lh (fun b u _ q => k b u q) (fun _ q => q) fun _ _ q => q
theorem gf.laid (x : gf P w H h) (k : ∀ b u, h.get? b = some u -> h'.get? b = some u) (hp : h.objs.size <= a) (new : bH P w (upd H a o) h' a o) : gf P w (upd H a o) h' := fun b u e => by
 have hn := x.fresh hp
 by_cases hb : b = a
 . subst hb; rw [ay] at e; cases e; exact new
 . rw [ak hb] at e
   exact (x b u e).lh (fun c v _ q => k c v q) (fun c q => by rw [ak (ax q hn)]; exact q) fun c xs q => by rw [ak (ax q hn)]; exact q
end
def Rd (H : Hp) (a : Addr) (u : HO) : Prop := H a = some u \/ ∃ o, H a = some (.gN o u)
theorem Rd.of {H : Hp} {a : Addr} {u : HO} (h : H a = some u) : Rd H a u := .inl h
theorem Rd.ok {P : Program} {w : World} {H : Hp} {h : Heap} {a : Addr} {u : HO} (r : Rd H a u) (x : gf P w H h) : bH P w H h a u := by
 rcases r with r | ⟨o, r⟩
 . exact x a u r
 . obtain ⟨_, q⟩ := x a _ r
   exact q
def Df : Option HO -> Prop
 | some (.lst _) => True
 | some (.dK _) => True
 | some (.dT _) => True
 | some (.set _ _) => True
 | some (.ins _ _ _) => True
 | some (.ext _) => True
 | _ => False
section
variable {P : Program} {w : World} {H : Hp} {h h' : Heap} {x e : Addr} {o' : HO}
theorem gf.write (ok : gf P w H h) (mu : Df (H x)) (he : e = x \/ H e = some (.own x)) (k : ∀ b u, b ≠ e -> h.get? b = some u -> h'.get? b = some u) (yP : ∃ u, h'.get? e = some u)
 (new : bH P w (upd H x o') h' x o') : gf P w (upd H x o') h' := fun b u q => by
 have Dp : ∀ c y, H c = some (.own y) -> c ≠ x := fun c y r z => by subst z; rw [r] at mu; exact mu
 have GJ : ∀ c xs, H c = some (.tup xs) -> c ≠ x := fun c xs r z => by subst z; rw [r] at mu; exact mu
 by_cases hb : b = x
 . subst hb; rw [ay] at q; cases q; exact new
 . rw [ak hb] at q
   by_cases Bf : b = e
   . have q' : H b = some (.own x) := by
      rcases he with z | z
      . exact absurd (Bf.trans z) hb
      . rw [Bf]; exact z
     rw [q] at q'; cases q'
     obtain ⟨v, hv⟩ := yP
     exact ⟨v, by rw [Bf]; exact hv⟩
   . refine (ok b u q).lh (fun c v hc r => k c v ?_ r) (fun c r => by rw [ak (Dp c b r)]; exact r) fun c xs r => by rw [ak (GJ c xs r)]; exact r
     rcases hc with rfl | hc
     . exact Bf
     . rintro rfl
       rcases he with z | z
       . exact Dp c b hc z
       . rw [hc] at z; cases z; exact hb rfl
end
structure Un (fs ex : List Addr) (H H' : Hp) (h h' : Heap) : Prop where
 keep : ∀ b o, h.get? b = some o -> H b = none -> b ∉ fs -> b ∉ ex -> h'.get? b = some o
 slot : ∀ b o, h.get? b = some o -> H b = none -> b ∈ fs -> b ∉ ex -> ∃ sl, h'.get? b = some { o with slots := sl }
 free : ∀ b o, h.get? b = some o -> H b = none -> b ∉ ex -> H' b = none
 there : ∀ b o, h.get? b = some o -> b ∉ ex -> ∃ o', h'.get? b = some o'
 jl : ∀ b xs, H b = some (.tup xs) -> H' b = some (.tup xs)
 ig : ∀ b o u, H b = some (.gN o u) -> H' b = some (.gN o u)
 jE : ∀ b ps, H b = some (.ix ps) -> ∃ more, H' b = some (.ix (ps ++ more))
section
variable {fs EY ex LX : List Addr} {H H1 H2 : Hp} {h h1 h2 h' : Heap} {a x e : Addr} {o : HO}
theorem Un.any (u : Un fs ex H H1 h h1) {b : Addr} {ob : Obj} (q : h.get? b = some ob) (n : H b = none) (hx : b ∉ ex) : ∃ sl, h1.get? b = some { ob with slots := sl } := by
 by_cases hb : b ∈ fs
 . exact u.slot b ob q n hb hx
 . exact ⟨ob.slots, u.keep b ob q n hb hx⟩
theorem Un.kept (k : ∀ b u, h.get? b = some u -> h'.get? b = some u) : Un fs ex H H h h' :=
 ⟨fun b ob q _ _ _ => k b ob q, fun b ob q _ _ _ => ⟨ob.slots, k b ob q⟩, fun _ _ _ n _ => n, fun b ob q _ => ⟨ob, k b ob q⟩, fun _ _ q => q, fun _ _ _ q => q, fun _ ps q => ⟨#[], by rw [q]; simp⟩⟩
theorem Un.refl : Un fs ex H H h h := Un.kept fun _ _ q => q
theorem Un.laid (k : ∀ b u, h.get? b = some u -> h'.get? b = some u) (hp : h.objs.size <= a) (hn : H a = none) : Un fs ex H (upd H a o) h h' where
 keep := fun b u q _ _ _ => k b u q
 slot := fun b u q _ _ _ => ⟨u.slots, k b u q⟩
 free := fun b u q n _ => by rw [ak (Nat.ne_of_lt (Nat.lt_of_lt_of_le (Heap.lt_size q) hp))]; exact n
 there := fun b u q _ => ⟨u, k b u q⟩
 jl := fun b xs q => by rw [ak (ax q hn)]; exact q
 ig := fun b u xs q => by rw [ak (ax q hn)]; exact q
 jE := fun b ps q => ⟨#[], by rw [ak (ax q hn), q]; simp⟩
theorem Un.write (mu : Df (H x)) (he : e = x \/ H e = some (.own x)) (k : ∀ b u, b ≠ e -> h.get? b = some u -> h'.get? b = some u) (yP : ∃ u, h'.get? e = some u) : Un fs ex H (upd H x o) h h' := by
 have hx : ∀ b, H b = none -> b ≠ x := fun b n z => by subst z; rw [n] at mu; exact mu
 have hb : ∀ b, H b = none -> b ≠ e := fun b n z => by
  subst z
  rcases he with r | r
  . exact hx b n r
  . rw [n] at r; cases r
 have hm : ∀ b u, H b = some u -> ¬ Df (some u) -> b ≠ x := fun b u q nm z => by subst z; rw [q] at mu; exact nm mu
 refine ⟨fun b u q n _ _ => k b u (hb b n) q, fun b u q n _ _ => ⟨u.slots, k b u (hb b n) q⟩, fun b u q n _ => by rw [ak (hx b n)]; exact n, fun b u q _ => ?_,
  fun b xs q => by rw [ak (hm b _ q fun z => z)]; exact q, fun b u xs q => by rw [ak (hm b _ q fun z => z)]; exact q, fun b ps q => ⟨#[], by rw [ak (hm b _ q fun z => z), q]; simp⟩⟩
 by_cases Bf : b = e
 . subst Bf; exact yP
 . exact ⟨u, k b u Bf q⟩
end
def EB (h : Heap) (H : Hp) : List Addr := (List.range h.objs.size).filter fun a => (H a).isSome
def lT (h : Heap) (H : Hp) : Heap := PySem.W.hideAll h (EB h H)
theorem sA (h : Heap) (H : Hp) : (lT h H).objs.size = h.objs.size := PySem.W.hideAll_size _ _
theorem uN {h : Heap} {H : Hp} {b : Addr} {o : Obj} (e : h.get? b = some o) (n : H b = none) : (lT h H).get? b = some o :=
 PySem.W.hideAll_get _ e fun hm => by
  have q : (H b).isSome = true := (List.mem_filter.mp hm).2
  rw [n] at q; simp at q
theorem wB {h : Heap} {H : Hp} {b : Addr} {o : Obj} (e : (lT h H).get? b = some o) : h.get? b = some o /\ H b = none := by
 have e' : h.get? b = some o := PySem.W.of_hideAll (EB h H) e
 refine ⟨e', ?_⟩
 cases q : H b with
 | none => rfl
 | some x =>
   have hm : b ∈ EB h H := List.mem_filter.mpr ⟨List.mem_range.mpr (Heap.lt_size e'), by simp [q]⟩
   have z : (lT h H).get? b = none := PySem.W.hideAll_none (EB h H) hm
   rw [z] at e; cases e
def xX (g h : Heap) (L : Addr) : List (Addr × Obj) := (List.range h.objs.size).filterMap fun a => if a = L \/ (g.get? a).isSome = true then none else (h.get? a).map fun o => (a, o)
def rest (g h : Heap) (L d : Addr) : List (Addr × Obj) := (xX g h L).filter fun p => decide (p.1 ≠ d)
structure Mod (K : PySem.W.Frag) (mg : Str -> Option Value) (base : Heap) : Prop where
 EC : K.In base
 glob : base.Ns mainGlobals mg
 blt : ∃ mb, base.Ns builtinsNs mb /\ ∀ x : Str, x ≠ "__name__" -> mb x = bootBuiltins x
 nolimit : base.NoLimit
structure Cx where
 prog : Program
 w : World
 K : PySem.W.Frag
 mg : Str -> Option Value
 base : Heap
 A : Around
 N : List Str
 dh : Shared
 og : Hp
 env : Env
 outer : List Env
 stack : List Env
 ex : List Addr
 fn : Str -> Bool
 calm : Bool
 pn : List (Addr × Obj)
 xe : Value -> Shared -> Prop
def nS (l : List Env) : List Addr := l.filterMap (·.frame)
abbrev Cx.fs (X : Cx) : List Addr := nS X.outer
def B1 (sc : Scope) (x : Str) : Prop := sc.names.lookup x = some .local \/ sc.names.lookup x = some .cell \/ sc.names.lookup x = some .free
def Loc (sc : Scope) (x : Str) : Prop := sc.names.lookup x = some .local \/ sc.names.lookup x = some .cell
def Look (env : Env) (h : Heap) (m : Str -> Option Value) (x : Str) (u : Value) : Prop :=
 (env.kindOf x = some .local /\ m x = some u) \/ ((env.kindOf x = some .cell \/ env.kindOf x = some .free) /\ ∃ c, env.cells.lookup x = some c /\ h.IsCell c (some u))
structure Cx.Ok (X : Cx) : Prop where
 mod : Mod X.K X.mg X.base
 kind : X.env.scope.kind = .function
 glob : X.env.globals = mainGlobals
 blt : X.env.builtins = builtinsNs
 above : X.dh.heap.objs.size <= X.env.locals
 inj : ∀ x y c, X.env.cells.lookup x = some c -> X.env.cells.lookup y = some c -> x = y
 has : ∀ x, (X.env.kindOf x = some .cell \/ X.env.kindOf x = some .free) -> ∃ c, X.env.cells.lookup x = some c
 BG : ∀ x c, X.fn x = true -> X.env.cells.lookup x = some c -> X.dh.heap.objs.size <= c
 hd : X.calm = true -> X.A.handled = none
 frames : X.A.frames = some X.stack
 Di : X.stack = X.outer \/ (X.stack = X.env :: X.outer /\ X.env.frame = some X.env.locals)
 DI : ∀ b ∈ X.ex, b ≠ X.env.locals /\ ∀ x c, X.env.cells.lookup x = some c -> c ≠ b
 bs : ∀ b o, X.base.get? b = some o -> X.dh.heap.get? b = some o /\ X.og b = none
 tf : X.base.objs.size <= X.dh.heap.objs.size
 sJ : ∀ b o, X.base.get? b = some o -> b ∉ X.ex
 rK : ∀ b ∈ X.ex, b ∉ X.fs
 iP : X.dh.heap.FunFrames X.base X.outer
 vR : ∀ b ∈ X.fs, X.og b = none
structure Inv (X : Cx) (pins : List (Addr × Obj)) (σ : List (Option V)) (H : Hp) (s : Shared) : Prop where
 ok : X.Ok
 os : s.os = X.dh.os
 bare : AllBare s.gens
 base : Un X.fs X.ex X.og H X.dh.heap s.heap
 loc : ∃ m, s.heap.Ns X.env.locals m /\ ∀ (i : Nat) (x : Str) (v : V), X.N[i]? = some x -> σ[i]? = some (some v) -> B1 X.env.scope x -> ∃ u, RelV v u /\ Look X.env s.heap m x u
 cell : ∀ x c, X.env.cells.lookup x = some c -> ∃ v, s.heap.IsCell c v
 free : H X.env.locals = none
 eD : ∀ x c, X.env.cells.lookup x = some c -> H c = none
 pin : ∀ p ∈ X.pn ++ pins, s.heap.get? p.1 = some p.2 /\ H p.1 = none /\ p.1 ≠ X.env.locals /\ p.1 ∉ X.fs /\ ∀ v, p.2.data ≠ .cell v
 aT : gf X.prog X.w H s.heap
 len : σ.length = X.N.length
section
variable {X : Cx} {pins : List (Addr × Obj)} {σ : List (Option V)} {H H' : Hp} {s : Shared} {h' : Heap}
theorem Cx.Ok.FX (ok : X.Ok) {b : Addr} {o : Obj} (e : X.base.get? b = some o) : b ∉ X.fs := fun hb => by
 have := (ok.iP.mem hb).1
 rw [e] at this; cases this
theorem Inv.bs (I : Inv X pins σ H s) : ∀ b o, X.base.get? b = some o -> s.heap.get? b = some o /\ H b = none := fun b o e =>
 ⟨I.base.keep b o (I.ok.bs b o e).1 (I.ok.bs b o e).2 (I.ok.FX e) (I.ok.sJ b o e), I.base.free b o (I.ok.bs b o e).1 (I.ok.bs b o e).2 (I.ok.sJ b o e)⟩
theorem Inv.bk (I : Inv X pins σ H s) : ∀ b o, X.base.get? b = some o -> s.heap.get? b = some o := fun b o e => (I.bs b o e).1
theorem Inv.mod (I : Inv X pins σ H s) : Mod X.K X.mg X.base := I.ok.mod
theorem Inv.kg (I : Inv X pins σ H s) : X.K.In s.heap := I.ok.mod.EC.keeps I.bk
theorem Inv.nolimit (I : Inv X pins σ H s) : s.heap.NoLimit := I.ok.mod.nolimit.keeps I.bk
theorem Inv.lt (I : Inv X pins σ H s) : X.env.locals < s.heap.objs.size := let ⟨_, hn, _⟩ := I.loc; hn.lt
theorem Inv.sz (I : Inv X pins σ H s) : X.dh.heap.objs.size <= s.heap.objs.size := Nat.le_trans I.ok.above (Nat.le_of_lt I.lt)
theorem Inv.Dd (I : Inv X pins σ H s) {a : Addr} (h : s.heap.objs.size <= a) : a ∉ X.fs := fun hb => by
 obtain ⟨_, o, ho, _⟩ := I.ok.iP.mem hb
 exact absurd (Nat.lt_of_lt_of_le (Heap.lt_size ho) (Nat.le_trans I.sz h)) (Nat.lt_irrefl _)
theorem Inv.A7 (I : Inv X pins σ H s) : ∀ x c, X.env.cells.lookup x = some c -> c ≠ X.env.locals := fun x c e z => by
 obtain ⟨v, o, ho, hd⟩ := I.cell x c e
 obtain ⟨m, ⟨o', es, ep, xZ, nE, _⟩, _⟩ := I.loc
 rw [z, xZ] at ho; cases ho; rw [nE] at hd; cases hd
theorem Inv.iP (I : Inv X pins σ H s) : s.heap.FunFrames X.base X.outer := by
 have all : ∀ (l : List Env), (∀ b ∈ nS l, b ∈ X.fs) -> X.dh.heap.FunFrames X.base l -> s.heap.FunFrames X.base l := by
  intro l
  induction l with
  | nil => intro _ _; trivial
  | cons env r ih =>
    intro hs hl
    obtain ⟨hk, ⟨L, o, hf, hn, ho, hd⟩, hr⟩ := hl
    have hL : L ∈ X.fs := hs L (by unfold nS; rw [List.filterMap_cons, hf]; exact List.mem_cons_self)
    obtain ⟨sl, e⟩ := I.base.slot L o ho (I.ok.vR L hL) hL fun z => I.ok.rK L z hL
    exact ⟨hk, ⟨L, _, hf, hn, e, hd⟩, ih (fun b hb => hs b (by unfold nS; rw [List.filterMap_cons, hf]; exact List.mem_cons_of_mem _ hb)) hr⟩
 exact all X.outer (fun _ hb => hb) I.ok.iP
theorem Inv.stack (I : Inv X pins σ H s) : s.heap.FunFrames X.base X.stack := by
 rcases I.ok.Di with e | ⟨e, hf⟩
 . rw [e]; exact I.iP
 . rw [e]
   obtain ⟨m, hn, _⟩ := I.loc
   refine .cons (by rw [I.ok.kind]; decide) hf hn ?_ I.iP
   exact Heap.get?_none_of_le (Nat.le_trans I.ok.tf I.ok.above)
theorem Inv.pN (I : Inv X pins σ H s) : ∀ b ∈ nS X.stack, b ∈ X.env.locals :: X.fs := fun b hb => by
 rcases I.ok.Di with e | ⟨e, hf⟩
 . rw [e] at hb; exact List.mem_cons_of_mem _ hb
 . rw [e] at hb
   unfold nS at hb
   rw [List.filterMap_cons, hf] at hb
   exact hb
theorem Inv.qB (I : Inv X pins σ H s) : ∀ b ∈ nS X.stack, H b = none := fun b hb => by
 rcases List.mem_cons.mp (I.pN b hb) with e | hb
 . rw [e]; exact I.free
 . obtain ⟨_, o, ho, _⟩ := I.ok.iP.mem hb
   exact I.base.free b o ho (I.ok.vR b hb) fun z => I.ok.rK b z hb
theorem Inv.step {g' : Array GenState} {t' : Nat} {d' : Drawn} {ch : List Addr} (I : Inv X pins σ H s)
 (sW : ∀ b ∈ ch, (b ∈ X.ex \/ X.dh.heap.objs.size <= b) /\ b ≠ X.env.locals /\ (∀ x c, X.env.cells.lookup x = some c -> c ≠ b) /\ ∀ p ∈ X.pn ++ pins, p.1 ≠ b)
 (keep : ∀ b o, b ≠ X.env.locals -> b ∉ X.fs -> b ∉ ch -> s.heap.get? b = some o -> H b = none -> h'.get? b = some o)
 (slot : ∀ b o, b ≠ X.env.locals -> b ∈ X.fs -> b ∉ ch -> s.heap.get? b = some o -> H b = none -> ∃ sl, h'.get? b = some { o with slots := sl }) (free : ∀ b o, b ∉ ch -> s.heap.get? b = some o -> H b = none -> H' b = none)
 (there : ∀ b o, b ∉ ch -> s.heap.get? b = some o -> ∃ o', h'.get? b = some o')
 (jl : ∀ b xs, H b = some (.tup xs) -> H' b = some (.tup xs)) (ig : ∀ b o u, H b = some (.gN o u) -> H' b = some (.gN o u)) (jE : ∀ b ps, H b = some (.ix ps) -> ∃ more, H' b = some (.ix (ps ++ more)))
 (ns : ∀ m, s.heap.Ns X.env.locals m -> h'.Ns X.env.locals m) (aT : gf X.prog X.w H' h') (hg : AllBare g') :
 Inv X pins σ H' { s with heap := h', gens := g', drawn := d', toks := t' } := by
 have pV : ∀ b o, X.dh.heap.get? b = some o -> b ≠ X.env.locals := fun b o e => Nat.ne_of_lt (Nat.lt_of_lt_of_le (Heap.lt_size e) I.ok.above)
 have EG : ∀ b o, X.dh.heap.get? b = some o -> b ∉ X.ex -> b ∉ ch := fun b o e hx hb => by
  rcases (sW b hb).1 with z | z
  . exact hx z
  . exact absurd (Nat.lt_of_lt_of_le (Heap.lt_size e) z) (Nat.lt_irrefl _)
 have cellK : ∀ x c, X.env.cells.lookup x = some c -> ∀ v, s.heap.IsCell c v -> h'.IsCell c v := fun x c e v ⟨o, ho, hd⟩ => by
  have CF : c ∉ ch := fun z => (sW c z).2.2.1 x c e rfl
  by_cases hc : c ∈ X.fs
  . obtain ⟨sl, q⟩ := slot c o (I.A7 x c e) hc CF ho (I.eD x c e)
    exact ⟨_, q, hd⟩
  . exact ⟨o, keep c o (I.A7 x c e) hc CF ho (I.eD x c e), hd⟩
 refine ⟨I.ok, I.os, hg, ⟨fun b o e n hb hx => ?_, fun b o e n hb hx => ?_, fun b o e n hx => ?_, fun b o e hx => ?_, fun b xs e => jl b xs (I.base.jl b xs e), fun b o xs e => ig b o xs (I.base.ig b o xs e), fun b ps e => ?_⟩, ?_, fun x c e => ?_, ?_, fun x c e => ?_, fun p hp => ?_, aT, I.len⟩
 . exact keep b o (pV b o e) hb (EG b o e hx) (I.base.keep b o e n hb hx) (I.base.free b o e n hx)
 . obtain ⟨sl, e1⟩ := I.base.slot b o e n hb hx
   obtain ⟨Et, e2⟩ := slot b _ (pV b o e) hb (EG b o e hx) e1 (I.base.free b o e n hx)
   exact ⟨Et, e2⟩
 . obtain ⟨o', e1⟩ := I.base.there b o e hx
   exact free b o' (EG b o e hx) e1 (I.base.free b o e n hx)
 . obtain ⟨o', e1⟩ := I.base.there b o e hx
   exact there b o' (EG b o e hx) e1
 . obtain ⟨m1, e1⟩ := I.base.jE b ps e
   obtain ⟨m2, e2⟩ := jE b _ e1
   exact ⟨m1 ++ m2, by rw [e2, Array.append_assoc]⟩
 . obtain ⟨m, hn, hl⟩ := I.loc
   refine ⟨m, ns m hn, fun i x v e1 e2 e3 => ?_⟩
   obtain ⟨u, r, l⟩ := hl i x v e1 e2 e3
   refine ⟨u, r, ?_⟩
   rcases l with l | ⟨k, c, e, z⟩
   . exact .inl l
   . exact .inr ⟨k, c, e, cellK x c e _ z⟩
 . obtain ⟨v, z⟩ := I.cell x c e
   exact ⟨v, cellK x c e v z⟩
 . obtain ⟨m, ⟨o, _, _, ho, _⟩, _⟩ := I.loc
   exact free _ o (fun z => (sW _ z).2.1 rfl) ho I.free
 . obtain ⟨v, o, ho, hd⟩ := I.cell x c e
   exact free c o (fun z => (sW c z).2.2.1 x c e rfl) ho (I.eD x c e)
 . obtain ⟨e, n, ne, nf, d⟩ := I.pin p hp
   have CF : p.1 ∉ ch := fun z => (sW p.1 z).2.2.2 p hp rfl
   exact ⟨keep p.1 p.2 ne nf CF e n, free p.1 p.2 CF e n, ne, nf, d⟩
theorem Inv.un {t' : Nat} (I : Inv X pins σ H s) (u : Un X.fs [] H H' s.heap h') (aT : gf X.prog X.w H' h') : Inv X pins σ H' { s with heap := h', toks := t' } := by
 obtain ⟨m, ⟨o, es, ep, ho, r⟩, _⟩ := id I.loc
 obtain ⟨sl, hL⟩ := u.any ho I.free (by simp)
 exact I.step (g' := s.gens) (d' := s.drawn) (ch := []) (fun _ z => nomatch z) (fun b o _ hb _ e n => u.keep b o e n hb (by simp)) (fun b o _ hb _ e n => u.slot b o e n hb (by simp)) (fun b o _ e n => u.free b o e n (by simp)) (fun b o _ e => u.there b o e (by simp)) u.jl u.ig u.jE (fun m' hm => by
  obtain ⟨o', GV, Fv, xZ, r'⟩ := hm
  rw [ho] at xZ; cases xZ
  exact ⟨_, GV, Fv, hL, r'⟩) aT I.bare
theorem Inv.call {g' : Array GenState} {t' : Nat} {d' : Drawn} {ch : List Addr} (I : Inv X pins σ H s) (u : Un (nS X.stack) ch H H' s.heap h') (aT : gf X.prog X.w H' h') (hg : AllBare g')
 (sW : ∀ b ∈ ch, (b ∈ X.ex \/ X.dh.heap.objs.size <= b) /\ b ≠ X.env.locals /\ (∀ x c, X.env.cells.lookup x = some c -> c ≠ b) /\ ∀ p ∈ X.pn ++ pins, p.1 ≠ b) :
 Inv X pins σ H' { s with heap := h', gens := g', drawn := d', toks := t' } := by
 obtain ⟨m, ⟨o, es, ep, ho, r⟩, _⟩ := id I.loc
 obtain ⟨sl, hL⟩ := u.any ho I.free fun z => (sW _ z).2.1 rfl
 exact I.step (ch := ch) sW (fun b o hL hb hc e n => u.keep b o e n (fun z => (List.mem_cons.mp (I.pN b z)).elim hL hb) hc) (fun b o _ _ hc e n => u.any e n hc) (fun b o hc e n => u.free b o e n hc) (fun b o hc e => u.there b o e hc) u.jl u.ig u.jE (fun m' hm => by
  obtain ⟨o', GV, Fv, xZ, r'⟩ := hm
  rw [ho] at xZ; cases xZ
  exact ⟨_, GV, Fv, hL, r'⟩) aT hg
theorem Inv.turned {t' : Nat} {it : Addr} (I : Inv X pins σ H s) (k : ∀ b o, b ≠ it -> s.heap.get? b = some o -> h'.get? b = some o) (hn : H it = none) (hL : it ≠ X.env.locals)
 (h1 : it ∈ X.ex \/ X.dh.heap.objs.size <= it) (h2 : ∀ x c, X.env.cells.lookup x = some c -> c ≠ it) (h3 : ∀ p ∈ X.pn ++ pins, p.1 ≠ it) : Inv X pins σ H { s with heap := h', toks := t' } := by
 have zQ : ∀ b u, H b = some u -> b ≠ it := fun b u e z => by rw [z, hn] at e; cases e
 refine I.step (g' := s.gens) (d' := s.drawn) (ch := [it]) (fun b hb => ?_) (fun b o _ _ hc e _ => k b o (fun z => hc (by simp [z])) e) (fun b o _ _ hc e _ => ⟨o.slots, k b o (fun z => hc (by simp [z])) e⟩) (fun _ _ _ _ n => n)
  (fun b o hc e => ⟨o, k b o (fun z => hc (by simp [z])) e⟩) (fun _ _ e => e) (fun _ _ _ e => e) (fun b ps e => ⟨#[], by rw [e]; simp⟩) (fun m hm => ?_) (fun b u e => ?_) I.bare
 . have e : b = it := by simpa using hb
   subst e
   exact ⟨h1, hL, h2, h3⟩
 . obtain ⟨o, es, ep, ho, r⟩ := hm
   exact ⟨o, es, ep, k _ o (Ne.symm hL) ho, r⟩
 . refine (I.aT b u e).lh (fun c v hc q => k c v ?_ q) (fun _ q => q) fun _ _ q => q
   rcases hc with z | z
   . rw [z]; exact zQ b u e
   . exact zQ c _ z
theorem Inv.tok (I : Inv X pins σ H s) (t : Nat) : Inv X pins σ H { s with toks := t } := I.un (h' := s.heap) (t' := t) Un.refl I.aT
theorem Inv.kept {t' : Nat} (I : Inv X pins σ H s) (k : ∀ b u, s.heap.get? b = some u -> h'.get? b = some u) : Inv X pins σ H { s with heap := h', toks := t' } := I.un (Un.kept k) (I.aT.kept k)
theorem Inv.laid {a : Addr} {o : HO} {t' : Nat} (I : Inv X pins σ H s) (k : ∀ b u, s.heap.get? b = some u -> h'.get? b = some u) (hp : s.heap.objs.size <= a) (new : bH X.prog X.w (upd H a o) h' a o) :
 Inv X pins σ (upd H a o) { s with heap := h', toks := t' } := I.un (Un.laid k hp (I.aT.fresh hp)) (I.aT.laid k hp new)
theorem Inv.write {x e : Addr} {o : HO} {t' : Nat} (I : Inv X pins σ H s) (mu : Df (H x)) (he : e = x \/ H e = some (.own x)) (k : ∀ b u, b ≠ e -> s.heap.get? b = some u -> h'.get? b = some u) (yP : ∃ u, h'.get? e = some u)
 (new : bH X.prog X.w (upd H x o) h' x o) : Inv X pins σ (upd H x o) { s with heap := h', toks := t' } := I.un (Un.write mu he k yP) (I.aT.write mu he k yP new)
theorem Inv.weak {σ' : List (Option V)} (I : Inv X pins σ H s) (hl : σ'.length = σ.length) (w : ∀ (i : Nat) v, σ'[i]? = some (some v) -> σ[i]? = some (some v)) : Inv X pins σ' H s :=
 ⟨I.ok, I.os, I.bare, I.base, let ⟨m, hn, sX⟩ := I.loc; ⟨m, hn, fun i x v e1 e2 e3 => sX i x v e1 (w i v e2) e3⟩, I.cell, I.free, I.eD, I.pin, I.aT, hl.trans I.len⟩
theorem Inv.fQ {yk : List (Addr × Obj)} (I : Inv X pins σ H s) (h : ∀ p ∈ yk, s.heap.get? p.1 = some p.2 /\ H p.1 = none /\ p.1 ≠ X.env.locals /\ p.1 ∉ X.fs /\ ∀ v, p.2.data ≠ .cell v) : Inv X yk σ H s :=
 ⟨I.ok, I.os, I.bare, I.base, I.loc, I.cell, I.free, I.eD, fun p hp => (List.mem_append.mp hp).elim (fun z => I.pin p (List.mem_append_left _ z)) (h p), I.aT, I.len⟩
theorem nZ {N : List Str} (hN : N.Nodup) {i j : Nat} {x : Str} (a : N[i]? = some x) (b : N[j]? = some x) : i = j := by
 obtain ⟨h1, e1⟩ := List.getElem?_eq_some_iff.mp a
 obtain ⟨h2, e2⟩ := List.getElem?_eq_some_iff.mp b
 exact (List.getElem_inj hN).mp (e1.trans e2.symm)
theorem sO {M : Model} {A : Around} {E : Value -> Shared -> Prop} {i : Nat} {x : Str} {v : V} {u : Value} {Q : Unit -> Shared -> Prop} (I : Inv X pins σ H s) (hN : X.N.Nodup) (hi : X.N[i]? = some x) (hx : Loc X.env.scope x) (r : RelV v u)
 (h : ∀ s', Inv X pins (σ.set i (some v)) H s' -> (∃ a, Heap.SameBut a s.heap s'.heap /\ (a = X.env.locals \/ X.env.cells.lookup x = some a)) -> Q () s') (hf : X.fn x = true \/ X.env.scope.names.lookup x = some .local := by first | exact .inl rfl | exact .inr rfl | assumption) : wpAny M A (storeName X.env x u) Q E s := by
 obtain ⟨m, hn, hl⟩ := id I.loc
 have F4 : (X.env.scope.kind == .class || (X.env.scope.kind == .module && X.env.locals != X.env.globals)) = false := by rw [I.ok.kind]; rfl
 have CY : i < σ.length := by rw [I.len]; exact (List.getElem?_eq_some_iff.mp hi).1
 have A7 := I.A7
 have tracked : ∀ {a : Addr} {h' : Heap}, (∃ o, s.heap.get? a = some o /\ H a = none) -> Heap.SameBut a s.heap h' -> gf X.prog X.w H h' := fun {a h'} ha hs b ob e => by
  obtain ⟨_, _, yM⟩ := ha
  refine (I.aT b ob e).lh (fun c w' hc q => (hs.2 c ?_).trans q) (fun _ q => q) fun _ _ q => q
  rintro rfl
  rcases hc with rfl | hc
  . rw [yM] at e; cases e
  . rw [yM] at hc; cases hc
 rcases hx with hk | hk
 . refine wpAny_storeName_local hk hn (fun h' Fg hs => ?_) F4
   obtain ⟨oL, _, _, BO, _⟩ := id hn
   refine h _ ⟨I.ok, I.os, I.bare, ⟨fun b o e n hb hx => ?_, fun b o e n hb hx => ?_, I.base.free, fun b o e hx => ?_, I.base.jl, I.base.ig, I.base.jE⟩, ⟨_, Fg, fun j y v' e1 e2 e3 => ?_⟩, fun y c e => ?_, I.free, I.eD, fun p hp => ?_, tracked ⟨oL, BO, I.free⟩ hs, by simpa using I.len⟩ ⟨_, hs, .inl rfl⟩
   . exact (hs.2 b (Nat.ne_of_lt (Nat.lt_of_lt_of_le (Heap.lt_size e) I.ok.above))).trans (I.base.keep b o e n hb hx)
   . obtain ⟨sl, e1⟩ := I.base.slot b o e n hb hx
     exact ⟨sl, (hs.2 b (Nat.ne_of_lt (Nat.lt_of_lt_of_le (Heap.lt_size e) I.ok.above))).trans e1⟩
   . obtain ⟨o', e1⟩ := I.base.there b o e hx
     exact ⟨o', (hs.2 b (Nat.ne_of_lt (Nat.lt_of_lt_of_le (Heap.lt_size e) I.ok.above))).trans e1⟩
   . by_cases hj : j = i
     . subst hj
       rw [hi] at e1; cases e1
       rw [List.getElem?_set_self CY] at e2
       cases e2
       exact ⟨u, r, .inl ⟨hk, by simp⟩⟩
     . rw [List.getElem?_set_ne (Ne.symm hj)] at e2
       obtain ⟨u', r', q⟩ := hl j y v' e1 e2 e3
       refine ⟨u', r', ?_⟩
       rcases q with ⟨k, e⟩ | ⟨k, c, e, z⟩
       . refine .inl ⟨k, ?_⟩
         have : y ≠ x := fun e => hj (nZ hN e1 (e ▸ hi))
         simp [this, e]
       . exact .inr ⟨k, c, e, z.sameBut hs (A7 y c e)⟩
   . obtain ⟨w', z⟩ := I.cell y c e
     exact ⟨w', z.sameBut hs (A7 y c e)⟩
   . obtain ⟨e, n, ne, nf, d⟩ := I.pin p hp
     exact ⟨(hs.2 p.1 ne).trans e, n, ne, nf, d⟩
 . have G3 : X.fn x = true := by
    rcases hf with z | z
    . exact z
    . rw [z] at hk; cases hk
   obtain ⟨c, hc⟩ := I.ok.has x (.inl hk)
   obtain ⟨w', z⟩ := I.cell x c hc
   refine wpAny_storeName_cell I.ok.kind hk hc z (fun h' sD hs => ?_)
   obtain ⟨oc, HK, Hk⟩ := id z
   refine h { s with heap := h' } ⟨I.ok, I.os, I.bare, ⟨fun b o e n hb hx => ?_, fun b o e n hb hx => ?_, I.base.free, fun b o e hx => ?_, I.base.jl, I.base.ig, I.base.jE⟩, ⟨m, hn.sameBut hs (Ne.symm (A7 x c hc)), fun j y v' e1 e2 e3 => ?_⟩, fun y c' e => ?_, I.free, I.eD, fun p hp => ?_, tracked ⟨oc, HK, I.eD x c hc⟩ hs, by simpa using I.len⟩ ⟨c, hs, .inr hc⟩
   . exact (hs.2 b (Nat.ne_of_lt (Nat.lt_of_lt_of_le (Heap.lt_size e) (I.ok.BG x c G3 hc)))).trans (I.base.keep b o e n hb hx)
   . obtain ⟨sl, e1⟩ := I.base.slot b o e n hb hx
     exact ⟨sl, (hs.2 b (Nat.ne_of_lt (Nat.lt_of_lt_of_le (Heap.lt_size e) (I.ok.BG x c G3 hc)))).trans e1⟩
   . obtain ⟨o', e1⟩ := I.base.there b o e hx
     exact ⟨o', (hs.2 b (Nat.ne_of_lt (Nat.lt_of_lt_of_le (Heap.lt_size e) (I.ok.BG x c G3 hc)))).trans e1⟩
   . by_cases hj : j = i
     . subst hj
       rw [hi] at e1; cases e1
       rw [List.getElem?_set_self CY] at e2
       cases e2
       exact ⟨u, r, .inr ⟨.inl hk, c, hc, sD⟩⟩
     . rw [List.getElem?_set_ne (Ne.symm hj)] at e2
       obtain ⟨u', r', q⟩ := hl j y v' e1 e2 e3
       refine ⟨u', r', ?_⟩
       rcases q with q | ⟨k, c', e, z'⟩
       . exact .inl q
       . refine .inr ⟨k, c', e, z'.sameBut hs ?_⟩
         rintro rfl
         exact hj (nZ hN e1 (I.ok.inj _ _ _ e hc ▸ hi))
   . by_cases yB : c' = c
     . subst yB; exact ⟨_, sD⟩
     . obtain ⟨w2, z2⟩ := I.cell y c' e
       exact ⟨w2, z2.sameBut hs yB⟩
   . obtain ⟨e, n, ne, nf, d⟩ := I.pin p hp
     refine ⟨(hs.2 p.1 ?_).trans e, n, ne, nf, d⟩
     intro q
     rw [q, HK] at e
     have q' : oc = p.2 := Option.some.inj e
     exact d w' (by rw [<- q']; exact Hk)
theorem ow {M : Model} {A : Around} {E : Value -> Shared -> Prop} {i : Nat} {x : Str} {v : V} {u : Value} {Q : Unit -> Shared -> Prop} (I : Inv X pins σ H s) (hN : X.N.Nodup) (hi : X.N[i]? = some x) (hx : Loc X.env.scope x) (r : RelV v u)
 (h : ∀ s', Inv X pins (σ.set i (some v)) H s' -> Q () s') (hf : X.fn x = true \/ X.env.scope.names.lookup x = some .local := by first | exact .inl rfl | exact .inr rfl | assumption) : wpAny M A (storeName X.env x u) Q E s :=
 sO I hN hi hx r (fun s' I' _ => h s' I') hf
theorem Inv.DN {s' : Shared} {ch : List Addr} (I : Inv X pins σ H s) (ho : s'.os = s.os) (u : Un (nS X.stack) ch H H' s.heap s'.heap) (aT : gf X.prog X.w H' s'.heap) (hg : AllBare s'.gens)
 (sW : ∀ b ∈ ch, (b ∈ X.ex \/ X.dh.heap.objs.size <= b) /\ b ≠ X.env.locals /\ (∀ x c, X.env.cells.lookup x = some c -> c ≠ b) /\ ∀ p ∈ X.pn ++ pins, p.1 ≠ b) : Inv X pins σ H' s' := by
 obtain ⟨h', g', d', t', o'⟩ := s'
 have e : o' = s.os := ho
 subst e
 exact I.call (g' := g') (t' := t') (d' := d') u aT hg sW
end
abbrev XK := Value -> Option Addr -> Hp -> Prop
abbrev St := List (Option V)
abbrev VK := V -> Hp -> Prop
abbrev TE := St -> Hp -> VK -> Prop
abbrev TT := St -> Hp -> (Bool -> Hp -> Prop) -> Prop
abbrev TA := St -> Hp -> (List V -> Hp -> Prop) -> Prop
structure Ends where
 nx : St -> Hp -> Prop
 rt : VK
 bk : St -> Hp -> Prop := fun _ _ => False
 ct : St -> Hp -> Prop := fun _ _ => False
abbrev TS := Ends -> St -> Hp -> Prop
def EP (X : Cx) (pins : List (Addr × Obj)) (σ : St) (Q : VK) (u : Value) (s' : Shared) : Prop := ∃ v H', Inv X pins σ H' s' /\ RelV v u /\ Q v H'
def TP (X : Cx) (pins : List (Addr × Obj)) (σ : St) (Q : Bool -> Hp -> Prop) (b : Bool) (s' : Shared) : Prop := ∃ H', Inv X pins σ H' s' /\ Q b H'
def AP (X : Cx) (pins : List (Addr × Obj)) (σ : St) (Q : List V -> Hp -> Prop) (us : List Value) (s' : Shared) : Prop := ∃ vs H', Inv X pins σ H' s' /\ Vals vs us /\ Q vs H'
def SP (X : Cx) (pins : List (Addr × Obj)) (D : Ends) (f : Flow) (s' : Shared) : Prop :=
 match f with
 | .next => ∃ σ' H', Inv X pins σ' H' s' /\ D.nx σ' H'
 | .brk => ∃ σ' H', Inv X pins σ' H' s' /\ D.bk σ' H'
 | .cont => ∃ σ' H', Inv X pins σ' H' s' /\ D.ct σ' H'
 | .ret u => ∃ v σ' H', Inv X pins σ' H' s' /\ RelV v u /\ D.rt v H'
def PE (X : Cx) (e : Expr) (t : TE) : Prop :=
 ∀ (pins : List (Addr × Obj)) (s : Shared) (σ : St) (H : Hp) (Q : VK), Inv X pins σ H s -> t σ H Q -> wpAny (model X.prog X.w) X.A (eval e X.env) (EP X pins σ Q) X.xe s
def PT (X : Cx) (e : Expr) (t : TT) : Prop :=
 ∀ (pins : List (Addr × Obj)) (s : Shared) (σ : St) (H : Hp) (Q : Bool -> Hp -> Prop), Inv X pins σ H s -> t σ H Q -> wpAny (model X.prog X.w) X.A (isTrue e X.env (eval e X.env)) (TP X pins σ Q) X.xe s
def PW (X : Cx) (e : Expr) (t : TT) : Prop :=
 ∀ (whole : Sem Value) (pins : List (Addr × Obj)) (s : Shared) (σ : St) (H : Hp) (Q : Bool -> Hp -> Prop), Inv X pins σ H s -> t σ H Q -> wpAny (model X.prog X.w) X.A (isTrue e X.env whole) (TP X pins σ Q) X.xe s
theorem PW.pt {X : Cx} {e : Expr} {t : TT} (h : PW X e t) : PT X e t := h _
def PA (X : Cx) (es : List Expr) (t : TA) : Prop :=
 ∀ (pos : Pos) (pins : List (Addr × Obj)) (s : Shared) (σ : St) (H : Hp) (Q : List V -> Hp -> Prop), Inv X pins σ H s -> t σ H Q -> wpAny (model X.prog X.w) X.A (spliced (backTo pos (starEach es X.env))) (AP X pins σ Q) X.xe s
def PS (X : Cx) (st : Stmt) (t : TS) : Prop :=
 ∀ (pins : List (Addr × Obj)) (s : Shared) (σ : St) (H : Hp) (D : Ends), Inv X pins σ H s -> t D σ H -> wpAny (model X.prog X.w) X.A (exec st X.env) (SP X pins D) X.xe s
def oF (X : Cx) (st : List Stmt) (t : TS) : Prop :=
 ∀ (pins : List (Addr × Obj)) (s : Shared) (σ : St) (H : Hp) (D : Ends), Inv X pins σ H s -> t D σ H -> wpAny (model X.prog X.w) X.A (execs st X.env) (SP X pins D) X.xe s
theorem cj {α : Type} {t : Sem α} {Q Q' : α -> Shared -> Prop} {M : Model} {A : Around} {E : Value -> Shared -> Prop} {s : Shared} (h : wpAny M A t Q E s) (hQ : ∀ a s, Q a s -> Q' a s) : wpAny M A t Q' E s := wpAny_mono h hQ fun _ _ x => x
section
variable {X : Cx}
def AF (i : Nat) : TE := fun σ H Q => ∃ v, σ[i]? = some (some v) /\ Q v H
def tC (v : V) : TE := fun _ H Q => Q v H
theorem Bt {i : Nat} {x : Str} {pos : Pos} (hN : X.N[i]? = some x) (hv : B1 X.env.scope x) (hd : (x == ("__debug__" : Str)) = false := by decide) (lJ : (x == ("__classdict__" : Str)) = false := by decide) : PE X (.Name x pos) (AF i) := by
 intro pins s σ H Q I h
 obtain ⟨v, e, h⟩ := h
 obtain ⟨m, hn, hl⟩ := I.loc
 obtain ⟨u, r, l⟩ := hl i x v hN e hv
 have fin : EP X pins σ Q u s := ⟨v, H, I, r, h⟩
 rcases l with ⟨hk, hm⟩ | ⟨hk, c, hc, mD⟩
 . exact wpAny_Name (wpAny_loadName_local I.ok.kind hk hn hm fin) hd
 . rcases hk with hk | hk
   . exact wpAny_Name (wpAny_loadName_cell I.ok.kind hk hc mD fin) hd
   . exact wpAny_Name (wpAny_loadName_free I.ok.kind hk hc mD fin lJ) hd
theorem aq {i j pos} : PE X (.Constant (.int i) j pos) (tC (.int i)) := fun _ _ _ H _ I h => wpAny_Constant_int ⟨.int i, H, I.tok _, ⟨_, rfl⟩, h⟩
theorem mx {b j pos} : PE X (.Constant (.bool b) j pos) (tC (.bl b)) := fun _ _ _ H _ I h => Constant_bool ⟨.bl b, H, I, rfl, h⟩
theorem lC {j pos} : PE X (.Constant .none j pos) (tC .a0) := fun _ _ _ H _ I h => Constant_none ⟨.a0, H, I, rfl, h⟩
theorem kU {x j pos} : PE X (.Constant (.str x) j pos) (tC (.str x)) := fun _ _ _ H _ I h => Calls.Constant_str ⟨.str x, H, I.tok _, ⟨_, rfl⟩, h⟩
def Gl (X : Cx) (x : Str) : Prop := X.env.kindOf x = some .globalImplicit
theorem nj {E : Value -> Shared -> Prop} {pins : List (Addr × Obj)} {s : Shared} {σ : St} {H : Hp} {x : Str} {u : Value} {pos : Pos} {Q : Value -> Shared -> Prop} (I : Inv X pins σ H s) (hg : Gl X x) (hm : X.mg x = some u) (h : Q u s)
 (hd : (x == ("__debug__" : Str)) = false := by decide) : wpAny (model X.prog X.w) X.A (eval (.Name x pos) X.env) Q E s :=
 Calls.Name_function_global I.ok.kind hg (Calls.loadGlobal_global (by rw [I.ok.glob]; exact I.mod.glob.keeps I.bk) hm h) hd
theorem jU {E : Value -> Shared -> Prop} {pins : List (Addr × Obj)} {s : Shared} {σ : St} {H : Hp} {x : Str} {u : Value} {pos : Pos} {Q : Value -> Shared -> Prop} (I : Inv X pins σ H s) (hg : Gl X x) (hm : X.mg x = none) (hv : bootBuiltins x = some u) (h : Q u s)
 (hn : x ≠ "__name__" := by decide) (hd : (x == ("__debug__" : Str)) = false := by decide) : wpAny (model X.prog X.w) X.A (eval (.Name x pos) X.env) Q E s := by
 obtain ⟨mb, h1, h2⟩ := I.mod.blt
 exact Calls.Name_function_global I.ok.kind hg (Calls.loadGlobal_builtin (by rw [I.ok.glob]; exact I.mod.glob.keeps I.bk) hm (by rw [I.ok.blt]; exact h1.keeps I.bk) ((h2 x hn).trans hv) h) hd
theorem xQ {x : Str} {v : V} {u : Value} {pos : Pos} (hg : Gl X x) (hm : X.mg x = some u) (r : RelV v u) (hd : (x == ("__debug__" : Str)) = false := by decide) : PE X (.Name x pos) (tC v) :=
 fun _ _ _ H _ I h => nj I hg hm ⟨v, H, I, r, h⟩ hd
theorem qz {x : Str} {v : V} {u : Value} {pos : Pos} (hg : Gl X x) (hm : X.mg x = none) (hv : bootBuiltins x = some u) (r : RelV v u) (hn : x ≠ "__name__" := by decide) (hd : (x == ("__debug__" : Str)) = false := by decide) : PE X (.Name x pos) (tC v) :=
 fun _ _ _ H _ I h => jU I hg hm hv ⟨v, H, I, r, h⟩ hn hd
variable {a b : Expr} {ta tb : TE} {pos : Pos}
def PC (X : Cx) (op : CmpOp) (a b : Expr) (t : TE) : Prop :=
 ∀ (pins : List (Addr × Obj)) (s : Shared) (σ : St) (H : Hp) (Q : VK), Inv X pins σ H s -> t σ H Q ->
   wpAny (model X.prog X.w) X.A (eval a X.env) (fun v s₁ => wpAny (model X.prog X.w) X.A (eval b X.env) (fun u s₂ => wpAny (model X.prog X.w) X.A (compareOp op v u) (EP X pins σ Q) X.xe s₂) X.xe s₁) X.xe s
def tB (t : TE) : TT := fun σ H Q => t σ H fun x H1 => ∃ c, x = .bl c /\ Q c H1
theorem Ah {op : CmpOp} {t : TE} (h : PC X op a b t) (h1 : behindInMarks op b = false := by first | exact uV _ (by decide) (by decide) | rfl) : PE X (.Compare a [op] [b] pos) t := fun pins s σ H Q I hw => wpAny_Compare1 (h pins s σ H Q I hw) h1
theorem pz {op : CmpOp} {t : TE} (h : PC X op a b t) (h1 : behindInMarks op b = false := by first | exact uV _ (by decide) (by decide) | rfl) : PT X (.Compare a [op] [b] pos) (tB t) := by
 intro pins s σ H Q I hw
 refine wpAny_isTrue_Compare1 (cj (h pins s σ H _ I hw) fun v s1 h1 => cj h1 fun u s2 h2 => cj h2 fun c s3 ⟨x, H1, I1, r1, q1⟩ => ?_) h1
 obtain ⟨d, rfl, q⟩ := q1
 cases r1
 exact wpAny_truthy_bool ⟨H1, I1, q⟩
variable {tA Ey : TT} {rest : List Expr}
def Eg (t u : TT) : TT := fun σ H Q => t σ H fun c H1 => if c = true then u σ H1 Q else Q false H1
def HE (t u : TT) : TT := fun σ H Q => t σ H fun c H1 => if c = true then Q true H1 else u σ H1 Q
def D3 (t : TT) : TT := fun σ H Q => t σ H fun c H1 => Q (!c) H1
theorem w4 (ha : PT X a tA) : PW X (.BoolOp .And [a] pos) tA := by
 intro wh pins s σ H Q I h
 refine isTrue_and (cj (ha pins s σ H Q I h) fun c s1 e => ?_)
 cases c with
 | true => exact isTrue_and_nil e
 | false => exact e
theorem kF (ha : PT X a tA) : PW X (.BoolOp .Or [a] pos) tA := by
 intro wh pins s σ H Q I h
 refine isTrue_or (cj (ha pins s σ H Q I h) fun c s1 e => ?_)
 cases c with
 | false => exact isTrue_or_nil e
 | true => exact e
theorem AY (ha : PT X a tA) (hb : PW X (.BoolOp .And (b :: rest) pos) Ey) : PW X (.BoolOp .And (a :: b :: rest) pos) (Eg tA Ey) := by
 intro wh pins s σ H Q I h
 refine isTrue_and (cj (ha pins s σ H _ I h) fun c s1 ⟨H1, I1, q1⟩ => ?_)
 cases c with
 | true => exact hb wh pins s1 σ H1 Q I1 q1
 | false => exact ⟨H1, I1, q1⟩
theorem oQ (ha : PT X a tA) (hb : PW X (.BoolOp .Or (b :: rest) pos) Ey) : PW X (.BoolOp .Or (a :: b :: rest) pos) (HE tA Ey) := by
 intro wh pins s σ H Q I h
 refine isTrue_or (cj (ha pins s σ H _ I h) fun c s1 ⟨H1, I1, q1⟩ => ?_)
 cases c with
 | true => exact ⟨H1, I1, q1⟩
 | false => exact hb wh pins s1 σ H1 Q I1 q1
theorem pQ (ha : PT X a tA) : PT X (.UnaryOp .Not a pos) (D3 tA) := by
 intro pins s σ H Q I h
 exact isTrue_not (ha pins s σ H (fun c H1 => Q (!c) H1) I h)
def ym (ta tb : TE) : TE := fun σ H Q => ta σ H fun x H1 => ∃ c, x = .bl c /\ if c = true then tb σ H1 Q else Q (.bl false) H1
def yp (ta : TE) : TE := fun σ H Q => ta σ H fun x H1 => ∃ c, x = .bl c /\ Q (.bl (!c)) H1
theorem pL {op} {t : TE} (h : PE X a t) : PE X (.BoolOp op [a] pos) t := fun pins s σ H Q I hw => BoolOp_one (h pins s σ H Q I hw)
theorem mO (ha : PE X a ta) (hb : PE X (.BoolOp .And (b :: rest) pos) tb) : PE X (.BoolOp .And (a :: b :: rest) pos) (ym ta tb) := by
 intro pins s σ H Q I h
 refine BoolOp_and (cj (ha pins s σ H _ I h) fun v s1 ⟨x, H1, I1, r1, q1⟩ => ?_)
 obtain ⟨c, rfl, q1⟩ := q1
 cases r1
 refine wpAny_truthy_bool ?_
 cases c with
 | true => exact hb pins s1 σ H1 Q I1 q1
 | false => exact ⟨.bl false, H1, I1, rfl, q1⟩
theorem zJ (ha : PE X a ta) : PE X (.UnaryOp .Not a pos) (yp ta) := by
 intro pins s σ H Q I h
 refine UnaryOp_ (cj (ha pins s σ H _ I h) fun v s1 ⟨x, H1, I1, r1, q1⟩ => ?_)
 obtain ⟨c, rfl, q1⟩ := q1
 cases r1
 exact not_of (wpAny_truthy_bool ⟨.bl (!c), H1, I1, rfl, q1⟩)
end
def dA (K : PySem.W.Frag) (H : Hp) (a : Addr) (xs : List V) : Prop :=
 Rd H a (.lst xs) \/
  ∃ (o : Obj) (aS : Array Value) (n : Nat), K.lookup a = some o /\ o.cls = .type "list" /\ o.dict = none /\ o.data = .seq aS n /\ aS.size <= sizeLine /\ Vals xs aS.toList
def qA (K : PySem.W.Frag) (H : Hp) (a : Addr) (xs : List V) : Prop :=
 Rd H a (.tup xs) \/
  ∃ (o : Obj) (aS : Array Value) (n : Nat), K.lookup a = some o /\ o.cls = .type "tuple" /\ o.data = .seq aS n /\ aS.size <= sizeLine /\ Vals xs aS.toList
def G8 : Value -> Option V
 | .none => some .a0
 | .bool b => some (.bl b)
 | .int i _ => some (.int i)
 | .str x _ => some (.str x)
 | .bytes b _ => some (.qh b)
 | .float b _ => some (.zO b)
 | .ref a => some (.ref a)
 | .type n => some (.ty n)
 | _ => none
theorem RelV.abs {x : V} {u : Value} (r : RelV x u) : G8 u = some x := by
 cases x with
 | a0 => cases r; rfl
 | bl _ => cases r; rfl
 | int _ => obtain ⟨t, rfl⟩ := r; rfl
 | str _ => obtain ⟨t, rfl⟩ := r; rfl
 | qh _ => obtain ⟨t, rfl⟩ := r; rfl
 | zO _ => obtain ⟨t, rfl⟩ := r; rfl
 | ref _ => cases r; rfl
 | ty _ => cases r; rfl
theorem RelV.inj {x y : V} {u : Value} (r : RelV x u) (q : RelV y u) : x = y := Option.some.inj (r.abs.symm.trans q.abs)
theorem Vals.inj : ∀ {xs ys : List V} {us : List Value}, Vals xs us -> Vals ys us -> xs = ys
 | _, _, _, .nil, .nil => rfl
 | _, _, _, .cons r t, .cons r' t' => by rw [r.inj r', Vals.inj t t']
section
variable {X : Cx} {pins : List (Addr × Obj)} {σ : St} {H : Hp} {s : Shared} {a : Addr} {xs ys : List V}
theorem dA.of {K : PySem.W.Frag} (h : H a = some (.lst xs)) : dA K H a xs := .inl (.inl h)
theorem qA.of {K : PySem.W.Frag} (h : H a = some (.tup xs)) : qA K H a xs := .inl (.inl h)
theorem Inv.list (I : Inv X pins σ H s) (h : dA X.K H a xs) : ∃ aS : List Value, Vals xs aS /\ PlainL s.heap a aS.toArray /\ xs.length <= sizeLine := by
 rcases h with h | ⟨o, aS, n, hk, hc, hd, hs, hz, r⟩
 . obtain ⟨z, aS, n, r, e⟩ := h.ok I.aT
   exact ⟨aS, r, ⟨_, n, e, rfl, rfl, rfl⟩, z⟩
 . refine ⟨aS.toList, r, ⟨o, n, I.kg a o hk, hc, hd, by simpa using hs⟩, ?_⟩
   have e := r.length
   simp only [Array.length_toList] at e
   omega
theorem Inv.tuple (I : Inv X pins σ H s) (h : qA X.K H a xs) : ∃ aS : List Value, Vals xs aS /\ IsTup s.heap a aS.toArray /\ xs.length <= sizeLine := by
 rcases h with h | ⟨o, aS, n, hk, hc, hs, hz, r⟩
 . obtain ⟨z, aS, r, p⟩ := h.ok I.aT
   exact ⟨aS, r, p, z⟩
 . refine ⟨aS.toList, r, ⟨o, I.kg a o hk, hc, n, by simpa using hs⟩, ?_⟩
   have e := r.length
   simp only [Array.length_toList] at e
   omega
theorem Inv.kP (I : Inv X pins σ H s) (h : dA X.K H a xs) (h' : dA X.K H a ys) : xs = ys := by
 obtain ⟨aS, r, ⟨o, n, e, _, _, d⟩, _⟩ := I.list h
 obtain ⟨its', r', ⟨o', n', e', _, _, d'⟩, _⟩ := I.list h'
 rw [e] at e'; cases e'
 rw [d] at d'
 injection d' with d1 _
 have : aS = its' := by simpa using congrArg Array.toList d1
 subst this
 exact r.inj r'
end
abbrev Cx.lR (X : Cx) (E : Value -> Shared -> Prop) : Cx := { X with xe := E }
abbrev Cx.BQ (X : Cx) : Cx := X.lR fun _ _ => False
theorem Cx.Ok.lR {X : Cx} (ok : X.Ok) (E : Value -> Shared -> Prop) : (X.lR E).Ok :=
 ⟨ok.mod, ok.kind, ok.glob, ok.blt, ok.above, ok.inj, ok.has, ok.BG, ok.hd, ok.frames, ok.Di, ok.DI, ok.bs, ok.tf, ok.sJ, ok.rK, ok.iP, ok.vR⟩
theorem Cx.Ok.hE {X : Cx} {E : Value -> Shared -> Prop} (ok : (X.lR E).Ok) : X.Ok :=
 ⟨ok.mod, ok.kind, ok.glob, ok.blt, ok.above, ok.inj, ok.has, ok.BG, ok.hd, ok.frames, ok.Di, ok.DI, ok.bs, ok.tf, ok.sJ, ok.rK, ok.iP, ok.vR⟩
section
variable {X : Cx} {pins : List (Addr × Obj)} {σ : St} {H : Hp} {s : Shared} {E : Value -> Shared -> Prop}
theorem Inv.lR (I : Inv X pins σ H s) (E : Value -> Shared -> Prop) : Inv (X.lR E) pins σ H s := ⟨I.ok.lR E, I.os, I.bare, I.base, I.loc, I.cell, I.free, I.eD, I.pin, I.aT, I.len⟩
theorem Inv.hE (I : Inv (X.lR E) pins σ H s) : Inv X pins σ H s := ⟨I.ok.hE, I.os, I.bare, I.base, I.loc, I.cell, I.free, I.eD, I.pin, I.aT, I.len⟩
theorem SP.hE {D : Ends} {f : Flow} {s' : Shared} (h : SP (X.lR E) pins D f s') : SP X pins D f s' := by
 cases f with
 | next => obtain ⟨σ', H', I, q⟩ := h; exact ⟨σ', H', I.hE, q⟩
 | brk => obtain ⟨σ', H', I, q⟩ := h; exact ⟨σ', H', I.hE, q⟩
 | cont => obtain ⟨σ', H', I, q⟩ := h; exact ⟨σ', H', I.hE, q⟩
 | ret u => obtain ⟨v, σ', H', I, r, q⟩ := h; exact ⟨v, σ', H', I.hE, r, q⟩
theorem oF.BQ {st : List Stmt} {t : TS} (h : oF X.BQ st t) : oF X st t := fun pins s σ H D I hw =>
 wpAny_mono (h pins s σ H D (I.lR _) hw) (fun _ _ q => q.hE) fun _ _ z => False.elim z
end
section
variable {X : Cx} {st : Stmt} {rest : List Stmt} {t u : TS} {e : Expr} {te : TE} {pos : Pos}
def yu : TS := fun D σ H => D.nx σ H
theorem aU : oF X [] yu := fun _ _ σ H _ I h => wpAny_execs_nil ⟨σ, H, I, h⟩
theorem ao (h1 : PS X st t) : oF X [st] t := by
 intro pins s σ H D I h
 refine wpAny_execs_cons (cj (h1 pins s σ H D I h) fun f s1 q => ?_)
 cases f with
 | next => exact wpAny_execs_nil q
 | ret v => exact q
 | brk => exact q
 | cont => exact q
theorem Inv.quiet {pins : List (Addr × Obj)} {σ : St} {H : Hp} {s : Shared} (I : Inv X pins σ H s) : interactive X.env = false := by simp [interactive, I.ok.kind]
def yR (te : TE) : TS := fun D σ H => te σ H fun _ H1 => D.nx σ H1
theorem bE (he : PE X e te) (hs : swapsWith e none pos.line X.env = pure false := by rfl) : PS X (.Expr e pos) (yR te) := by
 intro pins s σ H D I h
 exact wpAny_Expr_any (cj (he pins s σ H _ I h) fun v s1 ⟨x, H1, I1, r1, q1⟩ => ⟨σ, H1, I1, q1⟩) I.quiet hs
def DX (te : TE) : TS := fun D σ H => te σ H D.rt
theorem aL (he : PE X e te) : PS X (.Return (some e) pos) (DX te) := by
 intro pins s σ H D I h
 exact wpAny_Return_some (cj (he pins s σ H _ I h) fun v s1 ⟨x, H1, I1, r1, q1⟩ => ⟨x, σ, H1, I1, r1, q1⟩)
def Cq (c : TT) (t u : TS) : TS := fun D σ H => c σ H fun b H1 => if b = true then t D σ H1 else u D σ H1
theorem cI {c : Expr} {a b : List Stmt} {tc : TT} (hc : PT X c tc) (ha : oF X a t) (hb : oF X b u) : PS X (.If c a b pos) (Cq tc t u) := by
 intro pins s σ H D I h
 refine wpAny_If (cj (hc pins s σ H _ I h) fun d s1 ⟨H1, I1, q1⟩ => ?_)
 cases d with
 | true => exact ha pins s1 σ H1 D I1 q1
 | false => exact hb pins s1 σ H1 D I1 q1
def As : TS := fun _ _ _ => False
theorem k9 : PS X st As := fun _ _ _ _ _ _ h => h.elim
end
abbrev TG := V -> St -> Hp -> (St -> Hp -> Prop) -> Prop
abbrev A6 := List V -> St -> Hp -> (St -> Hp -> Prop) -> Prop
def PG (X : Cx) (target : Expr) (t : TG) : Prop :=
 ∀ (pins : List (Addr × Obj)) (s : Shared) (σ : St) (H : Hp) (v : V) (u : Value) (Q : St -> Hp -> Prop), Inv X pins σ H s -> RelV v u -> t v σ H Q ->
   wpAny (model X.prog X.w) X.A (assign target X.env u) (fun _ s' => ∃ σ' H', Inv X pins σ' H' s' /\ Q σ' H') X.xe s
def EJ (X : Cx) (ts : List Expr) (t : A6) : Prop :=
 ∀ (pins : List (Addr × Obj)) (s : Shared) (σ : St) (H : Hp) (vs : List V) (us : List Value) (Q : St -> Hp -> Prop), Inv X pins σ H s -> Vals vs us -> t vs σ H Q ->
   wpAny (model X.prog X.w) X.A (assignInOrder ((assignEach ts X.env).map (·.2)) us) (fun _ s' => ∃ σ' H', Inv X pins σ' H' s' /\ Q σ' H') X.xe s
section
variable {X : Cx} {pos : Pos}
def kM (i : Nat) : TG := fun v σ H Q => Q (σ.set i (some v)) H
theorem cT {i : Nat} {x : Str} (hN : X.N.Nodup) (hi : X.N[i]? = some x) (hx : Loc X.env.scope x) (hf : X.fn x = true \/ X.env.scope.names.lookup x = some .local := by first | exact .inl rfl | exact .inr rfl | assumption) : PG X (.Name x pos) (kM i) := by
 intro pins s σ H v u Q I r h
 exact wpAny_assign_Name (ow I hN hi hx r (fun s' I' => ⟨_, H, I', h⟩) hf)
def Cz : A6 := fun vs σ H Q => vs = [] /\ Q σ H
def uE (t : TG) (u : A6) : A6 := fun vs σ H Q => ∃ v r, vs = v :: r /\ t v σ H fun σ' H' => u r σ' H' Q
theorem xi : EJ X [] Cz := by
 intro pins s σ H vs us Q I r h
 obtain ⟨e, h⟩ := h
 subst e
 cases r
 exact assignInOrder_nil ⟨σ, H, I, h⟩
theorem oH {e : Expr} {es : List Expr} {t : TG} {u : A6} (h1 : PG X e t) (h2 : EJ X es u)
 (hs : (assignEach (e :: es) X.env).map (·.2) = assign e X.env :: (assignEach es X.env).map (·.2) := by rfl) : EJ X (e :: es) (uE t u) := by
 intro pins s σ H vs us Q I r h
 obtain ⟨v, vr, e1, h⟩ := h
 subst e1
 cases r with
 | cons r rr =>
   rw [hs]
   refine assignInOrder_cons (cj (h1 pins s σ H _ _ _ I r h) fun _ s1 ⟨σ1, H1, I1, q1⟩ => ?_)
   exact h2 pins s1 σ1 H1 _ _ Q I1 rr q1
def CM (K : PySem.W.Frag) (n : Nat) (t : A6) : TG := fun v σ H Q => ∃ a xs, v = .ref a /\ qA K H a xs /\ xs.length = n /\ t xs σ H Q
theorem Bc {es : List Expr} {k : Nat} {t : A6} {n : Nat} (hc : X.calm = true) (h : EJ X es t)
 (hn : (assignEach es X.env).length = n := by rfl) (qE : (assignEach es X.env).findIdx? (·.1) = none := by rfl) : PG X (.Tuple es k pos) (CM X.K n t) := by
 intro pins s σ H v u Q I r hw
 obtain ⟨a, xs, e1, hq, hl, hw⟩ := hw
 subst e1
 cases r
 obtain ⟨aS, rv, ht, hz⟩ := I.tuple hq
 refine assign_Tuple_tuple (I.ok.hd hc) ht (by simp [hn, <- hl, rv.length]) qE fun h' hx => ?_
 have I1 : Inv X pins σ H { s with heap := h' } := I.kept (t' := s.toks) fun b o e => hx b o (Nat.ne_of_lt (Heap.lt_size e)) e
 exact h pins _ σ H xs _ Q I1 (by simpa using rv) hw
def Dt (te : TE) (g : TG) : TS := fun D σ H => te σ H fun x H1 => g x σ H1 D.nx
theorem aF {i : Nat} {x : Str} {e : Expr} {te : TE} {pos' : Pos} (hN : X.N.Nodup) (hi : X.N[i]? = some x) (hx : Loc X.env.scope x) (he : PE X e te) (hs : swapsWith e (some (.Name x pos')) pos.line X.env = pure false := by rfl) (hf : X.fn x = true \/ X.env.scope.names.lookup x = some .local := by first | exact .inl rfl | exact .inr rfl | assumption) :
 PS X (.Assign [.Name x pos'] e pos) (Dt te (kM i)) := by
 intro pins s σ H D I h
 refine wpAny_Assign_Name (cj (he pins s σ H _ I h) fun v s1 ⟨y, H1, I1, r1, q1⟩ => ?_) hs
 exact ow I1 hN hi hx r1 (fun s2 I2 => ⟨_, H1, I2, q1⟩) hf
end
section
variable {X : Cx} {pos : Pos}
def vC (c : TT) (tb : TS) : TS := fun D σ H => ∃ W : Nat -> St -> Hp -> Prop, (∃ m, W m σ H) /\ ∀ m σ H, W m σ H ->
 c σ H fun b H1 => if b = true then ∃ N : St -> Hp -> Prop, (∀ σ' H', N σ' H' -> ∃ m', m' < m /\ W m' σ' H') /\ tb { D with nx := N, ct := N, bk := D.nx } σ H1 else D.nx σ H1
theorem vi {c : Expr} {body : List Stmt} {tc : TT} {tb : TS} (hp : PassesOwn (model X.prog X.w) X.A X.env X.xe) (hc : PT X c tc) (hb : oF X body tb) : PS X (.While c body [] pos) (vC tc tb) := by
 intro pins s σ H D I h
 obtain ⟨W, ⟨m0, w0⟩, turn⟩ := h
 refine wpAny_While (codeAny_whileLoop (fun n s' => ∃ σ' H', Inv X pins σ' H' s' /\ W n σ' H') ?_ m0 ⟨σ, H, I, w0⟩)
 rintro n s1 ⟨σ1, H1, I1, w1⟩
 refine wpAny_passesOwn hp (cj (hc pins s1 σ1 H1 _ I1 (turn n σ1 H1 w1)) fun b s2 ⟨H2, I2, q2⟩ => ?_)
 cases b with
 | true =>
   obtain ⟨N, hN, q2⟩ := q2
   rw [if_pos rfl]
   refine wpAny_passesOwn hp (cj (hb pins s2 σ1 H2 _ I2 q2) fun f s3 q3 => ?_)
   cases f with
   | next =>
     obtain ⟨σ3, H3, I3, n3⟩ := q3
     obtain ⟨m', hm, w3⟩ := hN σ3 H3 n3
     exact ⟨m', hm, σ3, H3, I3, w3⟩
   | cont =>
     obtain ⟨σ3, H3, I3, n3⟩ := q3
     obtain ⟨m', hm, w3⟩ := hN σ3 H3 n3
     exact ⟨m', hm, σ3, H3, I3, w3⟩
   | brk => exact q3
   | ret v => exact q3
 | false =>
   rw [if_neg Bool.false_ne_true]
   exact wpAny_execs_nil ⟨σ1, H2, I2, q2⟩
end
structure It where
 go : Nat -> Hp -> Prop
 v9 : Nat -> Hp -> V -> Hp -> Prop
 stop : Nat -> Hp -> Prop
def dQ (X : Cx) (pins : List (Addr × Obj)) (H : Hp) (b : Addr) : Prop :=
 H b = none /\ b ≠ X.env.locals /\ b ∉ X.fs /\ (b ∈ X.ex \/ X.dh.heap.objs.size <= b) /\ (∀ x c, X.env.cells.lookup x = some c -> c ≠ b) /\ ∀ p ∈ X.pn ++ pins, p.1 ≠ b
theorem Inv.mR {X : Cx} {pins : List (Addr × Obj)} {σ : St} {H H' : Hp} {s : Shared} {b : Addr} (I : Inv X pins σ H s) (hb : s.heap.objs.size <= b) (hn : H' b = none) : dQ X pins H' b := by
 refine ⟨hn, Nat.ne_of_gt (Nat.lt_of_lt_of_le I.lt hb), I.Dd hb, .inr (Nat.le_trans I.sz hb), fun x c e z => ?_, fun p hp z => ?_⟩
 . obtain ⟨v, q⟩ := I.cell x c e
   exact absurd (Nat.lt_of_lt_of_le q.lt (by rw [z]; exact hb)) (Nat.lt_irrefl _)
 . exact absurd (Nat.lt_of_lt_of_le (Heap.lt_size (I.pin p hp).1) (by rw [z]; exact hb)) (Nat.lt_irrefl _)
structure Turn (P : Program) (w : World) (K : PySem.W.Frag) (tg : Expr) (J : It) (fp : List Addr) (it : Addr) (tn : Nat -> Heap -> Prop) : Prop where
 mem : it ∈ fp
 obj : ∀ i h, tn i h -> ∀ b ∈ fp, ∃ o, h.get? b = some o /\ ∀ v, o.data ≠ .cell v
 keep : ∀ i h h', tn i h -> (∀ b ∈ fp, ∀ o, h.get? b = some o -> h'.get? b = some o) -> tn i h'
 item : ∀ (X : Cx), X.prog = P -> X.w = w -> X.K = K -> X.calm = true -> ∀ (i : Nat) (pins : List (Addr × Obj)) (s : Shared) (σ : St) (H : Hp) (E : Value -> Shared -> Prop), Inv X pins σ H s -> (∀ b ∈ fp, dQ X pins H b) -> tn i s.heap -> J.go i H ->
  wpAny (model P w) X.A (pyNext (.ref it)) (fun r s1 => ∃ u, r = some u /\
   wpAny (model P w) X.A (letOwnedTupleGo tg (.ref it) u) (fun _ s2 => ∃ x H', Inv X pins σ H' s2 /\ RelV x u /\ J.v9 i H x H' /\ tn (i + 1) s2.heap /\ ∀ b ∈ fp, H' b = none) E s1) E s
 done : ∀ (X : Cx), X.prog = P -> X.w = w -> X.K = K -> X.calm = true -> ∀ (i : Nat) (pins : List (Addr × Obj)) (s : Shared) (σ : St) (H : Hp) (E : Value -> Shared -> Prop), Inv X pins σ H s -> (∀ b ∈ fp, dQ X pins H b) -> tn i s.heap -> J.stop i H ->
  wpAny (model P w) X.A (pyNext (.ref it)) (fun r s1 => r = none /\ Inv X pins σ H s1) E s
 self : ∀ (A : Around) (i : Nat) (s : Shared) (Q : Value -> Shared -> Prop) (E : Value -> Shared -> Prop), tn i s.heap -> Q (.ref it) s -> wpAny (model P w) A (pyIter (.ref it)) Q E s
abbrev TI := St -> Hp -> (It -> Hp -> Prop) -> Prop
def IH (X : Cx) (pins : List (Addr × Obj)) (σ : St) (tg : Expr) (R : It -> Hp -> Prop) (Fu : Value) (s2 : Shared) : Prop :=
 ∃ (it : Addr) (fp : List Addr) (tn : Nat -> Heap -> Prop) (J : It) (H' : Hp), Fu = .ref it /\ Inv X pins σ H' s2 /\ Turn X.prog X.w X.K tg J fp it tn /\ tn 0 s2.heap /\ (∀ b ∈ fp, dQ X pins H' b) /\ R J H'
def PI (X : Cx) (tg iter : Expr) (wi : TI) : Prop :=
 ∀ (pins : List (Addr × Obj)) (s : Shared) (σ : St) (H : Hp) (R : It -> Hp -> Prop), Inv X pins σ H s -> wi σ H R ->
   wpAny (model X.prog X.w) X.A (eval iter X.env) (fun v s1 => wpAny (model X.prog X.w) X.A (pyIter v) (IH X pins σ tg R) X.xe s1) X.xe s
theorem rg {M : Model} {A : Around} {E : Value -> Shared -> Prop} {s : Shared} {tg : Expr} {it : Addr} {u : Value} {o : Obj} {n : String} {vs : Array Value} {Q : Unit -> Shared -> Prop} (ho : s.heap.get? it = some o) (hc : o.cls = .type n) (hd : o.data = .fields vs)
 (hn : ["enumerate", "zip", "dict_itemiterator", "dict_reverseitemiterator", "odict_iterator", "itertools.zip_longest", "itertools.pairwise"].contains n = false) (hQ : Q () s) : wpAny M A (letOwnedTupleGo tg (.ref it) u) Q E s := by
 unfold letOwnedTupleGo
 cases tg <;> first
  | exact wpAny_pure hQ
  | (cases u <;> first
   | exact wpAny_pure hQ
   | (refine wpAny_bind (wpAny_load ho ?_)
      rw [hc, hd]
      show wpAny M A (if (["enumerate", "zip", "dict_itemiterator", "dict_reverseitemiterator", "odict_iterator", "itertools.zip_longest", "itertools.pairwise"].contains n && vs[0]? == some (rawInt _)) = true then _ else _) Q E s
      rw [if_neg (by intro h; rw [hn, Bool.false_and] at h; cases h)]
      exact wpAny_pure hQ))
def vL (K : PySem.W.Frag) (a : Addr) : It :=
 ⟨fun i H => ∃ xs x, dA K H a xs /\ xs[i]? = some x, fun i H x H' => H' = H /\ ∀ xs, dA K H a xs -> xs[i]? = some x, fun i H => ∃ xs, dA K H a xs /\ xs.length <= i⟩
def xl (lo : Int) (n : Nat) : It := ⟨fun i _ => i < n, fun i H x H' => H' = H /\ x = .int (lo + i), fun i _ => n <= i⟩
theorem sy {P : Program} {w : World} {K : PySem.W.Frag} {tg : Expr} (a it : Addr) : Turn P w K tg (vL K a) [it] it (fun i h => h.IsListIter it a i) where
 mem := by simp
 obj := fun i h st b hb => by
  have e : b = it := by simpa using hb
  subst e
  obtain ⟨o, e, c, d⟩ := st
  exact ⟨o, e, fun v z => by rw [d] at z; cases z⟩
 keep := fun i h h' st k => st.at fun o e => k it (by simp) o e
 item := by
  intro X hP hw hK hc i pins s σ H E I hf st hg
  subst hP hw hK
  obtain ⟨xs, x, hq, hx⟩ := hg
  obtain ⟨aS, rv, p, hz⟩ := I.list hq
  obtain ⟨u, hu, ru⟩ := rv.get hx
  obtain ⟨f0, f1, f2, f3, f4, f5⟩ := hf it (by simp)
  refine wpAny_pyNext_list_item st p.isList (x := u) (by simpa using hu) fun h' o5 sb => ?_
  have I1 : Inv X pins σ H { s with heap := h' } := I.turned (t' := s.toks) (fun b o hb e => (sb.2 b hb).trans e) f0 f1 f3 f4 f5
  obtain ⟨o, e, c, d⟩ := id o5
  exact ⟨u, rfl, rg (s := { s with heap := h' }) e c d (by decide) ⟨x, H, I1, ru, ⟨rfl, fun ys hy => by rw [I.kP hy hq]; exact hx⟩, o5, fun b hb => (hf b hb).1⟩⟩
 done := by
  intro X hP hw hK hc i pins s σ H E I hf st hg
  subst hP hw hK
  obtain ⟨xs, hq, hx⟩ := hg
  obtain ⟨aS, rv, p, hz⟩ := I.list hq
  obtain ⟨f0, f1, f2, f3, f4, f5⟩ := hf it (by simp)
  have hl := rv.length
  exact wpAny_pyNext_list_end (I.ok.hd hc) st p.isList (by simp; omega) fun h' eb => ⟨rfl, I.turned (t' := s.toks) (fun b o hb e => eb b o hb e) f0 f1 f3 f4 f5⟩
 self := fun _ _ _ _ _ st h => wpAny_pyIter_listiter st h
theorem p5 {P : Program} {w : World} {K : PySem.W.Frag} {tg : Expr} (it : Addr) (lo : Int) (n : Nat) : Turn P w K tg (xl lo n) [it] it (fun i h => IsRangeIter h it (lo + (i : Nat) * 1) ((n : Int) - (i : Nat)) 1) where
 mem := by simp
 obj := fun i h st b hb => by
  have e : b = it := by simpa using hb
  subst e
  exact ⟨_, st, fun v z => by
   have z' : Data.fields _ = Data.cell v := z
   cases z'⟩
 keep := fun i h h' st k => k it (by simp) _ st
 item := by
  intro X hP hw hK hc i pins s σ H E I hf st hg
  subst hP hw hK
  obtain ⟨f0, f1, f2, f3, f4, f5⟩ := hf it (by simp)
  have W := Walks.range (prog := X.prog) (w := X.w) (I.ok.hd hc) it lo 1 n
  refine W.item i s _ _ hg st fun v h' tk hv o5 kk => ?_
  obtain ⟨t, rfl⟩ := hv
  have I1 : Inv X pins σ H { s with heap := h', toks := tk } := I.turned (fun b o hb e => kk b o (by simpa using hb) e) f0 f1 f3 f4 f5
  refine ⟨_, rfl, rg (s := { s with heap := h', toks := tk }) (n := "range_iterator") o5 rfl rfl (by decide) ⟨.int (lo + i), H, I1, ⟨t, ?_⟩, ⟨rfl, rfl⟩, o5, fun b hb => (hf b hb).1⟩⟩
  rw [Int.mul_one]
 done := by
  intro X hP hw hK hc i pins s σ H E I hf st hg
  subst hP hw hK
  obtain ⟨f0, f1, f2, f3, f4, f5⟩ := hf it (by simp)
  exact wpAny_pyNext_range_end (I.ok.hd hc) st (by have : n <= i := hg; omega) fun h' eb => ⟨rfl, I.turned (t' := s.toks) (fun b o hb e => eb b o hb e) f0 f1 f3 f4 f5⟩
 self := fun _ _ _ _ _ st h => wpAny_pyIter_rangeiter st h
section
variable {X : Cx} {tg : Expr}
def tX (K : PySem.W.Frag) (tl : TE) : TI := fun σ H R => tl σ H fun x H1 => ∃ a, x = .ref a /\ (∃ xs, dA K H1 a xs) /\ R (vL K a) H1
theorem ib {l : Expr} {tl : TE} (hl : PE X l tl) : PI X tg l (tX X.K tl) := by
 intro pins s σ H R I h
 refine cj (hl pins s σ H _ I h) fun v s1 ⟨x, H1, I1, r1, q1⟩ => ?_
 obtain ⟨a, e, ⟨xs, hq⟩, q⟩ := q1
 subst e
 cases r1
 obtain ⟨aS, rv, p, hz⟩ := I1.list hq
 refine wpAny_pyIter_list p.isList ?_
 refine ⟨s1.heap.objs.size, [s1.heap.objs.size], _, _, H1, rfl, I1.kept (t' := s1.toks) fun b o e => Heap.get?_push_of_some _ e, sy a _, ⟨_, Heap.get?_push_size _ rfl, rfl, rfl⟩, fun b hb => ?_, q⟩
 have e : b = s1.heap.objs.size := by simpa using hb
 subst e
 exact I1.mR (Nat.le_refl _) (I1.aT.fresh (Nat.le_refl _))
theorem vn {pins : List (Addr × Obj)} {σ : St} {H : Hp} {s : Shared} {R : It -> Hp -> Prop} {E : Value -> Shared -> Prop} {lo hi : Int} {t u v : Tok} {tk : Nat} (I : Inv X pins σ H s) (h1 : -(2 ^ 62) <= lo) (h2 : lo < 2 ^ 62) (h3 : -(2 ^ 62) <= hi) (h4 : hi < 2 ^ 62)
 (q : R (xl lo (hi - lo).toNat) H) : wpAny (model X.prog X.w) X.A (pyIter (.ref s.heap.objs.size)) (IH X pins σ tg R) E { s with heap := s.heap.push { cls := .type "range", data := .fields #[.int lo t, .int hi u, .int 1 v] }, toks := tk } := by
 refine wpAny_pyIter_range (IsRange.new ..) (small_one h1 h2 h3 h4) ?_
 have I1 : Inv X pins σ H { s with heap := s.heap.push { cls := .type "range", data := .fields #[.int lo t, .int hi u, .int 1 v] }, toks := tk } := I.kept fun b o e => Heap.get?_push_of_some _ e
 refine ⟨(s.heap.push { cls := .type "range", data := .fields #[.int lo t, .int hi u, .int 1 v] }).objs.size, [(s.heap.push { cls := .type "range", data := .fields #[.int lo t, .int hi u, .int 1 v] }).objs.size], _, _, H, rfl,
  I1.kept (t' := tk) fun b o e => Heap.get?_push_of_some _ e, p5 _ lo (hi - lo).toNat, ?_, fun b hb => ?_, q⟩
 . have e1 : lo + ((0 : Nat) : Int) * 1 = lo := by simp
   have e2 : (((hi - lo).toNat : Nat) : Int) - ((0 : Nat) : Int) = Builtin.Range.rangeSize lo hi 1 := by rw [rangeSize_one]; split <;> omega
   show IsRangeIter _ _ (lo + ((0 : Nat) : Int) * 1) ((((hi - lo).toNat : Nat) : Int) - ((0 : Nat) : Int)) 1
   rw [e1, e2]
   exact Heap.get?_push_size _ rfl
 . have e : b = (s.heap.push { cls := .type "range", data := .fields #[.int lo t, .int hi u, .int 1 v] }).objs.size := by simpa using hb
   subst e
   exact I1.mR (Nat.le_refl _) (I1.aT.fresh (Nat.le_refl _))
def ye (ta : TA) : TI := fun σ H R => ta σ H fun vs H1 => ∃ j : Int, vs = [.int j] /\ -(2 ^ 62) <= j /\ j < 2 ^ 62 /\ R (xl 0 j.toNat) H1
theorem ml {a : Expr} {ta : TA} {p pos : Pos} (hg : Gl X "range") (hm : X.mg "range" = none) (ha : PA X [a] ta) (hs : starEach [a] X.env = [(false, eval a X.env)] := by rfl) : PI X tg (.Call (.Name "range" p) [a] [] pos) (ye ta) := by
 intro pins s σ H R I h
 refine Call_ (jU I hg hm boot_range (PyProof.Rows.callWith_type1 (cj (ha pos pins s σ H _ I h) fun us s1 ⟨vs, H1, I1, r1, q1⟩ => ?_) hs rfl))
 obtain ⟨j, e, q1, q2, q⟩ := q1
 subst e
 cases r1 with
 | cons r rr =>
   cases rr
   obtain ⟨t, rfl⟩ := r
   exact call_range_1 (vn I1 (by omega) (by omega) q1 q2 (by simpa using q))
def tU (wi : TI) (g : TG) (tb : TS) : TS := fun D σ H => wi σ H fun J H1 => ∃ W : Nat -> Nat -> St -> Hp -> Prop, (∃ m, W 0 m σ H1) /\ ∀ i m σ H, W i m σ H ->
 (J.stop i H /\ D.nx σ H) \/ (J.go i H /\ ∃ N : St -> Hp -> Prop, (∀ σ' H', N σ' H' -> ∃ m', m' < m /\ W (i + 1) m' σ' H') /\ ∀ x H', J.v9 i H x H' -> g x σ H' fun σ2 H2 => tb { D with nx := N, ct := N, bk := D.nx } σ2 H2)
def la (fp : List Addr) (h : Heap) : List (Addr × Obj) := fp.filterMap fun b => (h.get? b).map fun o => (b, o)
theorem fZ {fp : List Addr} {h : Heap} {b : Addr} {o : Obj} (hb : b ∈ fp) (e : h.get? b = some o) : (b, o) ∈ la fp h := List.mem_filterMap.mpr ⟨b, hb, by rw [e]; rfl⟩
theorem sN {fp : List Addr} {h : Heap} {p : Addr × Obj} (hp : p ∈ la fp h) : p.1 ∈ fp /\ h.get? p.1 = some p.2 := by
 obtain ⟨b, hb, e⟩ := List.mem_filterMap.mp hp
 cases q : h.get? b with
 | none => rw [q] at e; cases e
 | some o =>
   rw [q] at e
   have e' : (b, o) = p := Option.some.inj e
   subst e'
   exact ⟨hb, q⟩
theorem Inv.pinned {pins : List (Addr × Obj)} {σ : St} {H : Hp} {s : Shared} {fp : List Addr} (I : Inv X pins σ H s) (hf : ∀ b ∈ fp, dQ X pins H b) (ho : ∀ b ∈ fp, ∃ o, s.heap.get? b = some o /\ ∀ v, o.data ≠ .cell v) : Inv X (pins ++ la fp s.heap) σ H s :=
 I.fQ fun p hp => (List.mem_append.mp hp).elim (fun z => I.pin p (List.mem_append_right _ z)) fun z => by
  obtain ⟨hb, e⟩ := sN z
  obtain ⟨f0, f1, f2, _⟩ := hf p.1 hb
  obtain ⟨o, e', d⟩ := ho p.1 hb
  rw [e] at e'; cases e'
  exact ⟨e, f0, f1, f2, d⟩
theorem Inv.g9 {pins pl : List (Addr × Obj)} {σ : St} {H : Hp} {s : Shared} (I : Inv X (pins ++ pl) σ H s) : Inv X pins σ H s := I.fQ fun p hp => I.pin p (List.mem_append_right _ (List.mem_append_left _ hp))
theorem iW {iter : Expr} {body : List Stmt} {wi : TI} {g : TG} {tb : TS} {pos : Pos} (hp : PassesOwn (model X.prog X.w) X.A X.env X.xe) (hc : X.calm = true) (hi : PI X tg iter wi) (hg : PG X tg g) (hb : oF X body tb)
 (hs : ∀ x, foldedSetIterable iter X.env x = pure x := by intro _; rfl) : PS X (.For tg iter body [] pos) (tU wi g tb) := by
 intro pins s σ H D I h
 refine wpAny_For (cj (hi pins s σ H _ I h) fun v s1 h1 => cj h1 fun Fu s2 h2 => ?_) hs
 obtain ⟨it, fp, tn, J, H2, e, I2, T, Kc, f2, W, ⟨m0, w0⟩, turn⟩ := h2
 subst e
 have stat : ∀ {H' : Hp}, (∀ b ∈ fp, H' b = none) -> ∀ b ∈ fp, dQ X pins H' b := fun hn b hb => ⟨hn b hb, (f2 b hb).2⟩
 refine codeAny_forLoop_any (fun n s' => ∃ i σ' H', Inv X pins σ' H' s' /\ tn i s'.heap /\ (∀ b ∈ fp, H' b = none) /\ W i n σ' H') ?_ m0 ⟨0, σ, H2, I2, Kc, fun b hb => (f2 b hb).1, w0⟩
 rintro n s3 ⟨i, σ3, H3, I3, Ct, Cj, w3⟩
 rcases turn i n σ3 H3 w3 with ⟨stop, qn⟩ | ⟨go, N, hN, step⟩
 . refine wpAny_passesOwn hp (cj (T.done X rfl rfl rfl hc i pins s3 σ3 H3 X.xe I3 (stat Cj) Ct stop) fun r s4 ⟨hr, I4⟩ => ?_)
   subst hr
   exact wpAny_execs_nil ⟨σ3, H3, I4, qn⟩
 . refine wpAny_passesOwn hp (cj (T.item X rfl rfl rfl hc i pins s3 σ3 H3 X.xe I3 (stat Cj) Ct go) fun r s4 ⟨u, hr, h4⟩ => ?_)
   subst hr
   refine wpAny_passesOwn hp (cj h4 fun _ s5 ⟨x, H5, I5, r5, y5, Bv, GD⟩ => ?_)
   have GC := I5.pinned (stat GD) (T.obj _ _ Bv)
   refine wpAny_passesOwn hp (cj (hg _ s5 σ3 H5 x u _ GC r5 (step x H5 y5)) fun _ s6 ⟨σ6, H6, I6, q6⟩ => ?_)
   refine wpAny_passesOwn hp (cj (hb _ s6 σ6 H6 _ I6 q6) fun f s7 q7 => ?_)
   have again : ∀ {σ7 : St} {H7 : Hp}, Inv X (pins ++ la fp s5.heap) σ7 H7 s7 -> N σ7 H7 -> ∃ m, m < n /\ ∃ i σ' H', Inv X pins σ' H' s7 /\ tn i s7.heap /\ (∀ b ∈ fp, H' b = none) /\ W i m σ' H' := fun {σ7 H7} I7 n7 => by
    obtain ⟨m', hm, w7⟩ := hN σ7 H7 n7
    refine ⟨m', hm, i + 1, σ7, H7, I7.g9, T.keep _ _ _ Bv fun b hb o e => (I7.pin (b, o) (List.mem_append_right _ (List.mem_append_right _ (fZ hb e)))).1, fun b hb => ?_, w7⟩
    obtain ⟨o, e, d⟩ := T.obj _ _ Bv b hb
    exact (I7.pin (b, o) (List.mem_append_right _ (List.mem_append_right _ (fZ hb e)))).2.1
   cases f with
   | next => obtain ⟨σ7, H7, I7, n7⟩ := q7; exact again I7 n7
   | cont => obtain ⟨σ7, H7, I7, n7⟩ := q7; exact again I7 n7
   | brk => obtain ⟨σ7, H7, I7, q7⟩ := q7; exact ⟨σ7, H7, I7.g9, q7⟩
   | ret v => obtain ⟨x7, σ7, H7, I7, r7, q7⟩ := q7; exact ⟨x7, σ7, H7, I7.g9, r7, q7⟩
end
theorem vx {K : PySem.W.Frag} {a : Addr} {xs : List V} {g : TG} {tb : TS} {D : Ends} {σ : St} {H : Hp} (Pv : Nat -> St -> Hp -> Prop) (h0 : Pv 0 σ H) (hl : ∀ i σ H, i <= xs.length -> Pv i σ H -> dA K H a xs)
 (hs : ∀ i x σ H, xs[i]? = some x -> Pv i σ H -> g x σ H fun σ2 H2 => tb { D with nx := Pv (i + 1), ct := Pv (i + 1), bk := D.nx } σ2 H2) (hd : ∀ σ H, Pv xs.length σ H -> D.nx σ H) :
 ∃ W : Nat -> Nat -> St -> Hp -> Prop, (∃ m, W 0 m σ H) /\ ∀ i m σ H, W i m σ H ->
   ((vL K a).stop i H /\ D.nx σ H) \/ ((vL K a).go i H /\ ∃ N : St -> Hp -> Prop, (∀ σ' H', N σ' H' -> ∃ m', m' < m /\ W (i + 1) m' σ' H') /\ ∀ x H', (vL K a).v9 i H x H' -> g x σ H' fun σ2 H2 => tb { D with nx := N, ct := N, bk := D.nx } σ2 H2) := by
 refine ⟨fun i m σ H => m = xs.length - i /\ i <= xs.length /\ Pv i σ H, ⟨xs.length, by simp, Nat.zero_le _, h0⟩, ?_⟩
 rintro i m σ H ⟨rfl, hi, p⟩
 have q := hl i σ H hi p
 by_cases jK : i < xs.length
 . refine .inr ⟨⟨xs, xs[i], q, by simp [jK]⟩, Pv (i + 1), fun σ' H' p' => ⟨xs.length - (i + 1), by omega, rfl, jK, p'⟩, fun x H' y => ?_⟩
   obtain ⟨e, y⟩ := y
   subst e
   exact hs i x σ _ (y xs q) p
 . have e : i = xs.length := by omega
   subst e
   exact .inl ⟨⟨xs, q, Nat.le_refl _⟩, hd σ H p⟩
theorem mj {lo : Int} {n : Nat} {g : TG} {tb : TS} {D : Ends} {σ : St} {H : Hp} (Pv : Nat -> St -> Hp -> Prop) (h0 : Pv 0 σ H)
 (hs : ∀ i σ H, i < n -> Pv i σ H -> g (.int (lo + i)) σ H fun σ2 H2 => tb { D with nx := Pv (i + 1), ct := Pv (i + 1), bk := D.nx } σ2 H2) (hd : ∀ σ H, Pv n σ H -> D.nx σ H) :
 ∃ W : Nat -> Nat -> St -> Hp -> Prop, (∃ m, W 0 m σ H) /\ ∀ i m σ H, W i m σ H ->
   ((xl lo n).stop i H /\ D.nx σ H) \/ ((xl lo n).go i H /\ ∃ N : St -> Hp -> Prop, (∀ σ' H', N σ' H' -> ∃ m', m' < m /\ W (i + 1) m' σ' H') /\ ∀ x H', (xl lo n).v9 i H x H' -> g x σ H' fun σ2 H2 => tb { D with nx := N, ct := N, bk := D.nx } σ2 H2) := by
 refine ⟨fun i m σ H => m = n - i /\ i <= n /\ Pv i σ H, ⟨n, by simp, Nat.zero_le _, h0⟩, ?_⟩
 rintro i m σ H ⟨rfl, hi, p⟩
 by_cases jK : i < n
 . refine .inr ⟨jK, Pv (i + 1), fun σ' H' p' => ⟨n - (i + 1), by omega, rfl, jK, p'⟩, fun x H' y => ?_⟩
   obtain ⟨e, y⟩ := y
   subst e y
   exact hs i σ _ jK p
 . have e : i = n := by omega
   subst e
   exact .inl ⟨Nat.le_refl _, hd σ H p⟩
abbrev R2 := V -> V -> Hp -> VK -> Prop
def iT (X : Cx) (f : Value -> Value -> Sem Value) (r : R2) : Prop :=
 ∀ (pins : List (Addr × Obj)) (s : Shared) (σ : St) (H : Hp) (x y : V) (v u : Value) (Q : VK), Inv X pins σ H s -> RelV x v -> RelV y u -> r x y H Q ->
   wpAny (model X.prog X.w) X.A (f v u) (EP X pins σ Q) X.xe s
def Fp (X : Cx) (f : Value -> Sem Value) (r : V -> Hp -> VK -> Prop) : Prop :=
 ∀ (pins : List (Addr × Obj)) (s : Shared) (σ : St) (H : Hp) (x : V) (v : Value) (Q : VK), Inv X pins σ H s -> RelV x v -> r x H Q ->
   wpAny (model X.prog X.w) X.A (f v) (EP X pins σ Q) X.xe s
def j1 (X : Cx) (f : Value) (r : List V -> Hp -> VK -> Prop) : Prop :=
 ∀ (pins : List (Addr × Obj)) (s : Shared) (σ : St) (H : Hp) (xs : List V) (us : List Value) (Q : VK), Inv X pins σ H s -> Vals xs us -> r xs H Q ->
   wpAny (model X.prog X.w) X.A (call f us) (EP X pins σ Q) X.xe s
def Gu (X : Cx) (r : V -> Hp -> (Bool -> Hp -> Prop) -> Prop) : Prop :=
 ∀ (pins : List (Addr × Obj)) (s : Shared) (σ : St) (H : Hp) (x : V) (v : Value) (Q : Bool -> Hp -> Prop), Inv X pins σ H s -> RelV x v -> r x H Q ->
   wpAny (model X.prog X.w) X.A (truthy v) (TP X pins σ Q) X.xe s
def D4 (r : R2) (ta tb : TE) : TE := fun σ H Q => ta σ H fun x H1 => tb σ H1 fun y H2 => r x y H2 Q
def HC (r : V -> Hp -> VK -> Prop) (ta : TE) : TE := fun σ H Q => ta σ H fun x H1 => r x H1 Q
def rI (C : Int -> Int -> Prop) (g : Int -> Int -> V) : R2 := fun x y H Q => ∃ i j, x = .int i /\ y = .int j /\ C i j /\ Q (g i j) H
def yz (g : Int -> Int -> V) : R2 := fun x y H Q => ∃ i j, x = .int i /\ y = .int j /\ Q (g i j) H
def rU (g : Int -> V) : V -> Hp -> VK -> Prop := fun x H Q => ∃ i, x = .int i /\ Q (g i) H
section
variable {X : Cx} {a b c : Expr} {ta tb tc : TE} {pos : Pos}
theorem Bw (ha : PE X a ta) (hb : PE X b tb) {pins : List (Addr × Obj)} {s : Shared} {σ : St} {H : Hp} {R : V -> V -> Hp -> Prop} (I : Inv X pins σ H s)
 (h : ta σ H fun x H1 => tb σ H1 fun y H2 => R x y H2) {Q : Value -> Shared -> Prop} {f : Value -> Value -> Sem Value}
 (hf : ∀ v u s2 x y H2, Inv X pins σ H2 s2 -> RelV x v -> RelV y u -> R x y H2 -> wpAny (model X.prog X.w) X.A (f v u) Q X.xe s2) :
 wpAny (model X.prog X.w) X.A (eval a X.env) (fun v s₁ => wpAny (model X.prog X.w) X.A (eval b X.env) (fun u s₂ => wpAny (model X.prog X.w) X.A (f v u) Q X.xe s₂) X.xe s₁) X.xe s := by
 refine cj (ha pins s σ H _ I h) fun v s1 ⟨x, H1, I1, r1, q1⟩ => ?_
 refine cj (hb pins s1 σ H1 _ I1 q1) fun u s2 ⟨y, H2, I2, r2, q2⟩ => ?_
 exact hf v u s2 x y H2 I2 r1 r2 q2
theorem aB {op : Operator} {r : R2} (ho : iT X (binaryOp op) r) (ha : PE X a ta) (hb : PE X b tb) : PE X (.BinOp a op b pos) (D4 r ta tb) := by
 intro pins s σ H Q I h
 exact wpAny_BinOp (Bw ha hb I h fun v u s2 x y H2 I2 rx ry q => ho pins s2 σ H2 x y v u Q I2 rx ry q)
theorem C3 {op : UnaryOp} {r : V -> Hp -> VK -> Prop} (ho : Fp X (unaryOp op) r) (ha : PE X a ta) : PE X (.UnaryOp op a pos) (HC r ta) := by
 intro pins s σ H Q I h
 exact UnaryOp_ (cj (ha pins s σ H _ I h) fun v s1 ⟨x, H1, I1, r1, q1⟩ => ho pins s1 σ H1 x v Q I1 r1 q1)
theorem Dy {f : Value -> Value -> Sem Value} {C : Int -> Int -> Prop} {g : Int -> Int -> Int}
 (rule : ∀ (i j : Int) (t u : Tok) (s : Shared) (Q : Value -> Shared -> Prop) (E : Value -> Shared -> Prop), C i j -> Q (.int (g i j) s.toks) { s with toks := s.toks + 1 } -> wpAny (model X.prog X.w) X.A (f (.int i t) (.int j u)) Q E s) :
 iT X f (rI C fun i j => .int (g i j)) := by
 intro pins s σ H x y v u Q I rx ry h
 obtain ⟨i, j, rfl, rfl, hc, q⟩ := h
 obtain ⟨t, rfl⟩ := rx
 obtain ⟨t', rfl⟩ := ry
 exact rule i j t t' s _ _ hc ⟨.int (g i j), H, I.tok _, ⟨_, rfl⟩, q⟩
theorem Cg {f : Value -> Value -> Sem Value} {g : Int -> Int -> Int}
 (rule : ∀ (i j : Int) (t u : Tok) (s : Shared) (Q : Value -> Shared -> Prop) (E : Value -> Shared -> Prop), Q (.int (g i j) s.toks) { s with toks := s.toks + 1 } -> wpAny (model X.prog X.w) X.A (f (.int i t) (.int j u)) Q E s) :
 iT X f (yz fun i j => .int (g i j)) := by
 intro pins s σ H x y v u Q I rx ry h
 obtain ⟨i, j, rfl, rfl, q⟩ := h
 obtain ⟨t, rfl⟩ := rx
 obtain ⟨t', rfl⟩ := ry
 exact rule i j t t' s _ _ ⟨.int (g i j), H, I.tok _, ⟨_, rfl⟩, q⟩
theorem Am {f : Value -> Value -> Sem Value} {g : Int -> Int -> Bool}
 (rule : ∀ (i j : Int) (t u : Tok) (s : Shared) (Q : Value -> Shared -> Prop) (E : Value -> Shared -> Prop), Q (.bool (g i j)) s -> wpAny (model X.prog X.w) X.A (f (.int i t) (.int j u)) Q E s) :
 iT X f (yz fun i j => .bl (g i j)) := by
 intro pins s σ H x y v u Q I rx ry h
 obtain ⟨i, j, rfl, rfl, q⟩ := h
 obtain ⟨t, rfl⟩ := rx
 obtain ⟨t', rfl⟩ := ry
 exact rule i j t t' s _ _ ⟨.bl (g i j), H, I, rfl, q⟩
def Bq (i j : Int) : Prop := 0 <= j /\ j <= 1000000 /\ i.natAbs < 2 ^ 64
def AW (i j : Int) : Prop := (-(2 ^ 64) < i /\ i < 2 ^ 64) \/ (-(2 ^ 64) < j /\ j < 2 ^ 64)
theorem AW.ok {i j : Int} (h : AW i j) : IntMulOk i j := by
 rcases h with ⟨h1, h2⟩ | ⟨h1, h2⟩
 . exact .of_left (intBits_le_64 h1 h2)
 . exact .of_right (intBits_le_64 h1 h2)
theorem kB : iT X (binaryOp .Add) (yz fun i j => .int (i + j)) := Cg fun _ _ _ _ _ _ _ q => add_int q
theorem zo : iT X (binaryOp .Sub) (yz fun i j => .int (i - j)) := Cg fun _ _ _ _ _ _ _ q => sub_int q
theorem za : iT X (binaryOp .Mult) (rI AW fun i j => .int (i * j)) := Dy fun _ _ _ _ _ _ _ hc q => mul_int q hc.ok
theorem An : iT X (binaryOp .Mod) (rI (fun _ j => 0 < j) fun i j => .int (i % j)) := Dy fun i j _ _ _ _ _ hc q => by
 have h1 : (0 : Int) < j := hc
 exact mod_int' (by omega) (by rw [Int.fmod_eq_emod_of_nonneg i (by omega)]; exact q)
theorem uc : iT X (binaryOp .Pow) (rI Bq fun i j => .int (i ^ j.toNat)) := Dy fun _ _ _ _ _ _ _ hc q => pow_int_small hc.1 hc.2.1 hc.2.2 q
theorem Jx {f : Value -> Sem Value} {g : Int -> Int}
 (rule : ∀ (i : Int) (t : Tok) (s : Shared) (Q : Value -> Shared -> Prop) (E : Value -> Shared -> Prop), Q (.int (g i) s.toks) { s with toks := s.toks + 1 } -> wpAny (model X.prog X.w) X.A (f (.int i t)) Q E s) :
 Fp X f (rU fun i => .int (g i)) := by
 intro pins s σ H x v Q I rx h
 obtain ⟨i, rfl, q⟩ := h
 obtain ⟨t, rfl⟩ := rx
 exact rule i t s _ _ ⟨.int (g i), H, I.tok _, ⟨_, rfl⟩, q⟩
theorem Ap : Fp X (unaryOp .USub) (rU fun i => .int (-i)) := Jx fun _ _ _ _ _ q => neg_int q
end
def xU : V -> V -> Bool
 | .a0, .a0 => true | .a0, .int _ => true | .int _, .a0 => true | .a0, .bl _ => true | .bl _, .a0 => true | .a0, .str _ => true | .str _, .a0 => true
 | .int _, .int _ => true | .bl _, .bl _ => true | .str _, .str _ => true | .qh _, .qh _ => true
 | .int _, .str _ => true | .str _, .int _ => true | .bl _, .str _ => true | .str _, .bl _ => true
 | _, _ => false
def JW : R2 := fun x y H Q => xU x y = true /\ Q (.bl (decide (x = y))) H
def Kh : R2 := fun x y H Q => xU x y = true /\ Q (.bl (!decide (x = y))) H
theorem qj {i j : Int} : decide (V.int i = V.int j) = (i == j) := by
 rw [Bool.eq_iff_iff]
 simp
theorem tO {i j : Bool} : decide (V.bl i = V.bl j) = (i == j) := by
 rw [Bool.eq_iff_iff]
 simp
theorem qR {i j : Str} : decide (V.str i = V.str j) = (i == j) := by
 rw [Bool.eq_iff_iff]
 simp
theorem qV {i j : Array UInt8} : decide (V.qh i = V.qh j) = (i.toList == j.toList) := by
 rw [Bool.eq_iff_iff]
 cases i
 cases j
 simp
section
variable {X : Cx} {a b c : Expr} {ta tb tc : TE} {pos : Pos}
theorem aK {pins : List (Addr × Obj)} {σ : St} {H : Hp} {s : Shared} {Q : VK} {k k' : Bool} (I : Inv X pins σ H s) (q : Q (.bl k) H) (e : k = k') : EP X pins σ Q (.bool k') s := by
 subst e
 exact ⟨.bl k, H, I, rfl, q⟩
theorem B3 : iT X (compareOp .Eq) JW := by
 intro pins s σ H x y v u Q I rx ry h
 obtain ⟨hs, q⟩ := h
 cases x with
 | a0 =>
   cases rx
   cases y with
   | a0 => cases ry; exact PySem.EqNone.eq_none_none (aK I q (by simp))
   | bl j => cases ry; exact PySem.EqNone.eq_none_bool (aK I q (by simp))
   | int j => obtain ⟨t', rfl⟩ := ry; exact PySem.EqNone.eq_none_int (aK I q (by simp))
   | str j => obtain ⟨t', rfl⟩ := ry; exact PySem.EqNone.eq_none_str (aK I q (by simp))
   | _ => exact absurd (show false = true from hs) Bool.false_ne_true
 | bl i =>
   cases rx
   cases y with
   | a0 => cases ry; exact PySem.EqNone.eq_bool_none (aK I q (by simp))
   | bl j => cases ry; exact eq_bool (aK I q tO)
   | str j => obtain ⟨t', rfl⟩ := ry; exact PySem.EqMixed.eq_bool_str (aK I q (by simp))
   | _ => exact absurd (show false = true from hs) Bool.false_ne_true
 | int i =>
   obtain ⟨t, rfl⟩ := rx
   cases y with
   | a0 => cases ry; exact PySem.EqNone.eq_int_none (aK I q (by simp))
   | int j => obtain ⟨t', rfl⟩ := ry; exact eq_int (aK I q qj)
   | str j => obtain ⟨t', rfl⟩ := ry; exact PySem.EqMixed.eq_int_str (aK I q (by simp))
   | _ => exact absurd (show false = true from hs) Bool.false_ne_true
 | str i =>
   obtain ⟨t, rfl⟩ := rx
   cases y with
   | a0 => cases ry; exact PySem.EqNone.eq_str_none (aK I q (by simp))
   | bl j => cases ry; exact PySem.EqMixed.eq_str_bool (aK I q (by simp))
   | int j => obtain ⟨t', rfl⟩ := ry; exact PySem.EqMixed.eq_str_int (aK I q (by simp))
   | str j => obtain ⟨t', rfl⟩ := ry; exact eq_str (aK I q qR)
   | _ => exact absurd (show false = true from hs) Bool.false_ne_true
 | qh i =>
   obtain ⟨t, rfl⟩ := rx
   cases y with
   | qh j => obtain ⟨t', rfl⟩ := ry; exact PySem.W.eq_bytes (aK I q qV)
   | _ => exact absurd (show false = true from hs) Bool.false_ne_true
 | _ => cases y <;> exact absurd (show false = true from hs) Bool.false_ne_true
theorem CL : iT X (compareOp .NotEq) Kh := by
 intro pins s σ H x y v u Q I rx ry h
 obtain ⟨hs, q⟩ := h
 cases x with
 | a0 =>
   cases rx
   cases y with
   | a0 => cases ry; exact PySem.EqNone.ne_none_none (aK I q (by simp))
   | bl j => cases ry; exact PySem.EqNone.ne_none_bool (aK I q (by simp))
   | int j => obtain ⟨t', rfl⟩ := ry; exact PySem.EqNone.ne_none_int (aK I q (by simp))
   | str j => obtain ⟨t', rfl⟩ := ry; exact PySem.EqNone.ne_none_str (aK I q (by simp))
   | _ => exact absurd (show false = true from hs) Bool.false_ne_true
 | bl i =>
   cases rx
   cases y with
   | a0 => cases ry; exact PySem.EqNone.ne_bool_none (aK I q (by simp))
   | bl j => cases ry; exact ne_bool (aK I q (congrArg not tO))
   | str j => obtain ⟨t', rfl⟩ := ry; exact PySem.EqMixed.ne_bool_str (aK I q (by simp))
   | _ => exact absurd (show false = true from hs) Bool.false_ne_true
 | int i =>
   obtain ⟨t, rfl⟩ := rx
   cases y with
   | a0 => cases ry; exact PySem.EqNone.ne_int_none (aK I q (by simp))
   | int j => obtain ⟨t', rfl⟩ := ry; exact ne_int (aK I q (congrArg not qj))
   | str j => obtain ⟨t', rfl⟩ := ry; exact PySem.EqMixed.ne_int_str (aK I q (by simp))
   | _ => exact absurd (show false = true from hs) Bool.false_ne_true
 | str i =>
   obtain ⟨t, rfl⟩ := rx
   cases y with
   | a0 => cases ry; exact PySem.EqNone.ne_str_none (aK I q (by simp))
   | bl j => cases ry; exact PySem.EqMixed.ne_str_bool (aK I q (by simp))
   | int j => obtain ⟨t', rfl⟩ := ry; exact PySem.EqMixed.ne_str_int (aK I q (by simp))
   | str j => obtain ⟨t', rfl⟩ := ry; exact ne_str (aK I q (congrArg not qR))
   | _ => exact absurd (show false = true from hs) Bool.false_ne_true
 | qh i =>
   obtain ⟨t, rfl⟩ := rx
   cases y with
   | qh j => obtain ⟨t', rfl⟩ := ry; exact PySem.W.ne_bytes (aK I q (congrArg not qV))
   | _ => exact absurd (show false = true from hs) Bool.false_ne_true
 | _ => cases y <;> exact absurd (show false = true from hs) Bool.false_ne_true
theorem yl : iT X (compareOp .Lt) (yz fun i j => .bl (decide (i < j))) := Am fun _ _ _ _ _ _ _ q => lt_int q
theorem uo : iT X (compareOp .Gt) (yz fun i j => .bl (decide (j < i))) := Am fun _ _ _ _ _ _ _ q => gt_int q
theorem CO : iT X (compareOp .GtE) (yz fun i j => .bl (decide (j <= i))) := Am fun _ _ _ _ _ _ _ q => ge_int q
theorem qW : iT X (compareOp .IsNot) (fun x y H Q => y = .a0 /\ Q (.bl (!decide (x = .a0))) H) := by
 intro pins s σ H x y v u Q I rx ry h
 obtain ⟨rfl, q⟩ := h
 cases ry
 refine isnot_none_gen (aK I q ?_)
 cases x <;> first
  | (cases rx; rfl)
  | (obtain ⟨t, rfl⟩ := rx; rfl)
theorem a7 (b : Expr) {op : CmpOp} (h : op ≠ .In := by decide) (h2 : op ≠ .NotIn := by decide) : behindInMarks op b = false := by
 have e1 : (op == CmpOp.In) = false := by cases op <;> first | rfl | exact absurd rfl h
 have e2 : (op == CmpOp.NotIn) = false := by cases op <;> first | rfl | exact absurd rfl h2
 cases b <;> simp [behindInMarks, e1, e2]
theorem iZ {op : CmpOp} {r : R2} (ho : iT X (compareOp op) r) (ha : PE X a ta) (hb : PE X b tb) (hm : behindInMarks op b = false) : PE X (.Compare a [op] [b] pos) (D4 r ta tb) := by
 intro pins s σ H Q I h
 exact wpAny_Compare1 (Bw ha hb I h fun v u s2 x y H2 I2 rx ry q => ho pins s2 σ H2 x y v u Q I2 rx ry q) hm
def yy (t : TE) : TT := fun σ H Q => t σ H fun x H' => ∃ k, x = .bl k /\ Q k H'
theorem aI {op : CmpOp} {r : R2} (ho : iT X (compareOp op) r) (ha : PE X a ta) (hb : PE X b tb) (hm : behindInMarks op b = false) : PT X (.Compare a [op] [b] pos) (yy (D4 r ta tb)) := by
 intro pins s σ H Q I h
 refine wpAny_isTrue_Compare1 (cj (ha pins s σ H _ I h) fun v s1 ⟨x, H1, I1, r1, q1⟩ => cj (hb pins s1 σ H1 _ I1 q1) fun u s2 ⟨y, H2, I2, r2, q2⟩ =>
  cj (ho pins s2 σ H2 x y v u _ I2 r1 r2 q2) fun c s3 ⟨z, H3, I3, r3, k, e, q3⟩ => ?_) hm
 subst e
 cases r3
 exact wpAny_truthy_bool ⟨H3, I3, q3⟩
def xr (K : PySem.W.Frag) (x : V) (H : Hp) (k : Bool) : Prop :=
 match x with
 | .a0 => k = false
 | .bl b => k = b
 | .int i => k = (i != 0)
 | .str y => y.length <= sizeLine /\ k = ((y.length : Int) != 0)
 | .qh y => y.size <= sizeLine /\ k = ((y.size : Int) != 0)
 | .ref p => (∃ xs, dA K H p xs /\ k = !xs.isEmpty) \/ (∃ xs, qA K H p xs /\ k = !xs.isEmpty) \/ ∃ kvs, H p = some (.dK kvs) /\ k = !kvs.isEmpty
 | _ => False
theorem pC {κ : Type} {kvs : List (κ × V)} {vs : List (κ × Value)} (r : KV kvs vs) : (!vs.isEmpty) = !kvs.isEmpty := by
 cases r <;> rfl
theorem kC {xs : List V} {aS : List Value} (r : Vals xs aS) : (!aS.toArray.isEmpty) = !xs.isEmpty := by
 cases r <;> simp
theorem jH : (sizeLine : Nat) < 2 ^ 63 := by rw [sizeLine_eq]; decide
theorem zY : Gu X (fun x H Q => ∃ k, xr X.K x H k /\ Q k H) := by
 intro pins s σ H x v Q I rx h
 obtain ⟨k, e, q⟩ := h
 have hl := jH
 have hs : sizeLine = 16777216 := sizeLine_eq
 cases x with
 | a0 =>
   cases rx
   have e' : k = false := e
   subst e'
   exact truthy_none ⟨H, I, q⟩
 | bl b =>
   cases rx
   have e' : k = b := e
   subst e'
   exact wpAny_truthy_bool ⟨H, I, q⟩
 | int i =>
   obtain ⟨t, rfl⟩ := rx
   have e' : k = (i != 0) := e
   subst e'
   exact PySem.P.truthy_int ⟨H, I, q⟩
 | str y =>
   obtain ⟨t, rfl⟩ := rx
   obtain ⟨hy, e'⟩ : y.length <= sizeLine /\ k = ((y.length : Int) != 0) := e
   subst e'
   exact PySem.P.truthy_str (by omega) ⟨H, I.tok _, q⟩
 | qh y =>
   obtain ⟨t, rfl⟩ := rx
   obtain ⟨hy, e'⟩ : y.size <= sizeLine /\ k = ((y.size : Int) != 0) := e
   subst e'
   exact PySem.W.truthy_bytes (by omega) ⟨H, I.tok _, q⟩
 | ref p =>
   cases rx
   have e' : (∃ xs, dA X.K H p xs /\ k = !xs.isEmpty) \/ (∃ xs, qA X.K H p xs /\ k = !xs.isEmpty) \/ ∃ kvs, H p = some (.dK kvs) /\ k = !kvs.isEmpty := e
   rcases e' with ⟨xs, hx, e'⟩ | ⟨xs, hx, e'⟩ | ⟨kvs, hx, e'⟩
   . subst e'
     obtain ⟨aS, r, pl, hz⟩ := I.list hx
     have hlen := r.length
     exact wpAny_truthy_list pl.isList (by simp only [List.size_toArray]; omega) ⟨H, I.tok _, by rw [kC r]; exact q⟩
   . subst e'
     obtain ⟨aS, r, pl, hz⟩ := I.tuple hx
     have hlen := r.length
     exact truthy_tuple pl (by simp only [List.size_toArray]; omega) ⟨H, I.tok _, by rw [kC r]; exact q⟩
   . subst e'
     obtain ⟨hz, hS, vs, r, m⟩ : kvs.length <= sizeLine /\ (p == sysModules) = false /\ ∃ vs, KV kvs vs /\ s.heap.DictOf (aV X.prog X.w) p vs := I.aT p _ hx
     have hlen : kvs.length = vs.length := Paired.length r
     exact wpAny_truthy_dict hS m (by omega) ⟨H, I.tok _, by rw [pC r]; exact q⟩
 | _ => exact (show False from e).elim
theorem hJ (ha : PE X a ta) (he : ∀ whole, isTrue a X.env whole = (do let v <- whole; standAt a.pos; holding [v] (truthy v))) :
 PT X a (fun σ H Q => ta σ H fun x H' => ∃ k, xr X.K x H' k /\ Q k H') := by
 intro pins s σ H Q I h
 exact isTrue_plain (cj (ha pins s σ H _ I h) fun v s1 ⟨x, H1, I1, r1, q1⟩ => zY pins s1 σ H1 x v Q I1 r1 q1) (he _)
theorem pH : iT X (binaryOp .Add) (fun x y H Q => ∃ i j, x = .str i /\ y = .str j /\ i.length + j.length <= sizeLine /\ Q (.str (i ++ j)) H) := by
 intro pins s σ H x y v u Q I rx ry h
 obtain ⟨i, j, rfl, rfl, hz, q⟩ := h
 obtain ⟨t, rfl⟩ := rx
 obtain ⟨t', rfl⟩ := ry
 exact add_str (fun t' tk => ⟨.str (i ++ j), H, I.tok _, ⟨_, rfl⟩, q⟩) hz
theorem vals1 {x : V} {us : List Value} (r : Vals [x] us) : ∃ u, us = [u] /\ RelV x u := by
 cases r with
 | cons r1 r2 => cases r2; exact ⟨_, rfl, r1⟩
theorem vals2 {x y : V} {us : List Value} (r : Vals [x, y] us) : ∃ u w', us = [u, w'] /\ RelV x u /\ RelV y w' := by
 cases r with
 | cons r1 r2 =>
   cases r2 with
   | cons r3 r4 => cases r4; exact ⟨_, _, rfl, r1, r3⟩
end
structure pd (h : Heap) (x dx C : Addr) (mA : Str -> Option Value) : Prop where
 obj : h.get? x = some (PySem.W.instObj C dx)
 ns : h.Ns1 dx mA
 ne : dx ≠ x
theorem sh {h : Heap} {dx : Addr} {mA : Str -> Option Value} (n : h.Ns1 dx mA) : ∃ od, h.get? dx = some od /\ ∀ name, PySem.W.lookIn name od = some (mA name) := by
 obtain ⟨o, es, ep, ho, hd, hk, _, hm⟩ := n
 refine ⟨o, ho, fun name => ?_⟩
 have e := hm name
 unfold nsFind findBy at e
 rw [<- Array.find?_toList] at e
 unfold PySem.W.lookIn
 rw [hd]
 dsimp only
 split
 . rename_i y q
   rw [q] at e
   exact congrArg some e
 . rename_i q
   rw [q] at e
   have a : es.toList.any (·.refKey) = false := by
    rw [List.any_eq_false]
    intro y hy
    obtain ⟨z, t, FY⟩ := hk y (Array.mem_toList_iff.mp hy)
    simp [DictEntry.refKey, FY]
   have a' : ¬ es.toList.any (·.refKey) = true := by rw [a]; exact Bool.false_ne_true
   rw [if_neg a']
   exact congrArg some e
theorem pd.look {h : Heap} {x dx C : Addr} {mA : Str -> Option Value} (I : pd h x dx C mA) : ∃ od, PySem.W.InstAt h x (PySem.W.instObj C dx) C (some od) /\ ∀ name, PySem.W.lookIn name od = some (mA name) :=
 let ⟨od, ho, hl⟩ := sh I.ns
 ⟨od, ⟨I.obj, rfl, rfl, ho⟩, hl⟩
section
variable {prog : Program} {w : World} {A : Around} {E : Value -> Shared -> Prop} {s : Shared} {K : PySem.W.Frag} {x dx C f : Addr} {mA : Str -> Option Value} {name : Str} {v : Value}
theorem get_map {expr : Bool} {Q : Value -> Shared -> Prop} (X : K.In s.heap) (I : pd s.heap x dx C mA) (hg : PySem.W.plainGet K C name = true) (hh : PySem.W.hasDictIn K C = true)
 (ha : PySem.W.findIn K (.ref C) name = some none) (hv : mA name = some v) (Jq : PySem.W.handedIn v = true) (h : Q v { s with toks := s.toks + 1 }) :
 wpAny (model prog w) A (getAttr (.ref x) name expr) Q E s := by
 obtain ⟨od, J, hl⟩ := I.look
 exact PySem.W.get_value X J (PySem.W.plainGet_of hg).1 (PySem.W.findObj_own hh ha rfl (by rw [hl, hv])) Jq h
theorem vk {pl : Sem Bool} {Q : Value × List Value -> Shared -> Prop} (X : K.In s.heap) (I : pd s.heap x dx C mA) (hg : PySem.W.plainGet K C name = true)
 (hf : PySem.W.findIn K (.ref C) name = some (some (.ref f))) (ht : PySem.W.isFn K (.ref f) = true) (hv : mA name = none) (h : Q (.ref f, [.ref x]) s) :
 wpAny (model prog w) A (getMethod (.ref x) name pl) Q E s := by
 obtain ⟨od, J, hl⟩ := I.look
 exact PySem.W.method_fn X J (PySem.W.plainGet_of hg).1 (PySem.W.plainGet_of hg).2 hf (beq_iff_eq.mp ht) (by show (PySem.W.lookIn name od).map (·.isSome) = some false; rw [hl, hv]; rfl) h
theorem wm {ns : List Str} {Q : Unit -> Shared -> Prop} (X : K.In s.heap) (I : pd s.heap x dx C mA)
 (hs : PySem.W.findIn K (.ref C) "__setattr__" = some (some (.builtin "object.__setattr__"))) (hp : PySem.W.plainOver K C = true) (ht : PySem.W.takerIn K C name = some none) (hh : PySem.W.hasDictIn K C = true)
 (hw : PySem.Within mA ns) (hsz : ns.length <= sizeLine)
 (h : ∀ h', pd h' x dx C (fun y => if y = name then some v else mA y) -> Heap.SameBut dx s.heap h' -> Q () { s with heap := h', toks := s.toks + 2 }) :
 wpAny (model prog w) A (setAttr (.ref x) name v) Q E s := by
 obtain ⟨od, J, hl⟩ := I.look
 refine PySem.W.set_plain X J hs (PySem.W.osa_open (s := { s with toks := s.toks + 1 }) (r := none) X J hp ht fun b => ?_)
 obtain ⟨cd, hc, nE⟩ := PySem.W.any_some hh
 have hx : s.heap.get? x = some ⟨.ref C, some dx, .plain, #[]⟩ := I.obj
 refine wpAny_bind (wpAny_pure (wpAny_bind (wpAny_bind (wpAny_loadPart hx (wpAny_bind (PySem.W.Looks.here (s := { s with toks := s.toks + 1 }) (PySem.W.looks_clsIn X hc) ?_))))))
 rw [nE]
 refine wpAny_pure (a := some dx) (wpAny_bind (wpAny_pure (wpAny_bind ?_)))
 refine wpAny_nsSet1 (s := { s with toks := s.toks + 1 }) I.ns fun h' yx yg => ?_
 obtain ⟨oD, LK, Mr, J1, Js, Lp⟩ := yx.count (PySem.Within.cons name v hw)
 refine wpAny_bind (wpAny_lookBehind J1 (by rw [Js]; exact pastItsLine_dict (Nat.le_trans Lp (by rw [List.length_cons]; omega))) ?_)
 exact wpAny_pure (h _ ⟨(yg.2 _ (Ne.symm I.ne)).trans I.obj, yx, I.ne⟩ yg)
theorem vf {R : Result -> Shared -> Prop} {vs : List Value} {kw : List (Str × Value)} (X : K.In s.heap) (hm : PySem.W.makesIn K C = true)
 (hi : PySem.W.findIn K (.ref C) "__init__" = some (some (.ref f))) (hf : PySem.W.typeIn K (.ref f) = some (.type "function"))
 (h : codeAny (model prog w) (A.under (.builtin "type.__call__" ⟨.ref C :: vs, kw⟩)) (.call (.ref f) ⟨.ref (s.heap.objs.size + 1) :: vs, kw⟩) (PySem.W.InitBack (s.heap.objs.size + 1) R)
  { s with heap := (s.heap.push PySem.W.emptyDict).push (PySem.W.instObj C s.heap.objs.size) }) :
 codeAny (model prog w) A (.call (.ref C) ⟨vs, kw⟩) R s := by
 obtain ⟨hh, g, d, t, os⟩ := s
 exact PySem.W.make_core (PySem.W.makes_of X hm) (PySem.W.looks_findIn X hi) (fun self => PySem.W.bind_fn X self hf) (.inl rfl) h
end
def fF (f : Str) (v : V) : List (Str × V) -> List (Str × V)
 | [] => [(f, v)]
 | (g, x) :: r => if g = f then (g, v) :: r else (g, x) :: fF f v r
theorem j5 (f g : Str) (v : V) : ∀ fs : List (Str × V), (fF f v fs).lookup g = if g = f then some v else fs.lookup g
 | [] => by
   show List.lookup g [(f, v)] = _
   by_cases h : g = f
   . have hb : (g == f) = true := beq_iff_eq.mpr h
     simp only [List.lookup, hb, if_pos h]
   . have hb : (g == f) = false := beq_eq_false_iff_ne.mpr h
     simp only [List.lookup, hb, if_neg h]
 | (k, x) :: r => by
   have ih := j5 f g v r
   rw [show fF f v ((k, x) :: r) = (if k = f then (k, v) :: r else (k, x) :: fF f v r) from rfl]
   by_cases hk : k = f
   . rw [if_pos hk]
     by_cases h : g = k
     . have hb : (g == k) = true := beq_iff_eq.mpr h
       simp only [List.lookup, hb, if_pos (h.trans hk)]
     . have hb : (g == k) = false := beq_eq_false_iff_ne.mpr h
       simp only [List.lookup, hb, if_neg (fun e : g = f => h (e.trans hk.symm))]
   . rw [if_neg hk]
     by_cases h : g = k
     . have hb : (g == k) = true := beq_iff_eq.mpr h
       simp only [List.lookup, hb, if_neg (fun e : g = f => hk (h.symm.trans e))]
     . have hb : (g == k) = false := beq_eq_false_iff_ne.mpr h
       simp only [List.lookup, hb]
       exact ih
theorem jF (f : Str) (v : V) : ∀ fs : List (Str × V), f ∈ (fF f v fs).map (·.1) /\ ∀ g, g ∈ fs.map (·.1) -> g ∈ (fF f v fs).map (·.1)
 | [] => ⟨by simp [fF], fun g h => by simp at h⟩
 | (k, x) :: r => by
   obtain ⟨i1, i2⟩ := jF f v r
   rw [show fF f v ((k, x) :: r) = (if k = f then (k, v) :: r else (k, x) :: fF f v r) from rfl]
   by_cases hk : k = f
   . rw [if_pos hk]
     subst hk
     exact ⟨by simp, fun g h => by simpa using h⟩
   . rw [if_neg hk]
     refine ⟨?_, fun g h => ?_⟩
     . rw [List.map_cons]
       exact List.mem_cons_of_mem _ i1
     . rw [List.map_cons] at h ⊢
       rcases List.mem_cons.mp h with e | e
       . exact List.mem_cons.mpr (.inl e)
       . exact List.mem_cons_of_mem _ (i2 g e)
theorem j0 (f : Str) (v : V) : ∀ fs : List (Str × V), (fF f v fs).length <= fs.length + 1
 | [] => by simp [fF]
 | (k, x) :: r => by
   have ih := j0 f v r
   rw [show fF f v ((k, x) :: r) = (if k = f then (k, v) :: r else (k, x) :: fF f v r) from rfl]
   by_cases hk : k = f
   . rw [if_pos hk, List.length_cons, List.length_cons]; omega
   . rw [if_neg hk, List.length_cons, List.length_cons]; omega
theorem hU.some_of {v : V} {o : Option Value} (r : hU (some v) o) : ∃ u, o = some u /\ RelV v u := by
 cases o with
 | none => exact (show False from r).elim
 | some u => exact ⟨u, rfl, r⟩
theorem hU.none_of {o : Option Value} (r : hU none o) : o = none := by
 cases o with
 | none => rfl
 | some u => exact (show False from r).elim
theorem sF {v : V} {u : Value} (r : RelV v u) : PySem.W.handedIn u = true := by
 cases v with
 | a0 => cases (show u = Value.none from r); rfl
 | bl b => cases (show u = Value.bool b from r); rfl
 | int i => obtain ⟨t, e⟩ := (show ∃ t, u = Value.int i t from r); cases e; rfl
 | str x => obtain ⟨t, e⟩ := (show ∃ t, u = Value.str x t from r); cases e; rfl
 | qh b => obtain ⟨t, e⟩ := (show ∃ t, u = Value.bytes b t from r); cases e; rfl
 | zO b => obtain ⟨t, e⟩ := (show ∃ t, u = Value.float b t from r); cases e; rfl
 | ref a => cases (show u = Value.ref a from r); rfl
 | ty n => cases (show u = Value.type n from r); rfl
section
variable {P : Program} {w : World} {H H' : Hp} {h h' : Heap} {a C dx : Addr} {fs EY : List (Str × V)}
theorem kn (aT : gf P w H h) (e : H a = some (.ins C dx fs)) : ∃ mA, pd h a dx C mA /\ (∀ f, hU (fs.lookup f) (mA f)) /\ PySem.Within mA (fs.map (·.1)) /\ fs.length <= 1000 /\ H dx = some (.own a) := by
 obtain ⟨d, z, ne, ob, mA, n, r, q⟩ := (show bH P w H h a (.ins C dx fs) from aT a _ e)
 exact ⟨mA, ⟨ob, n, ne⟩, r, q, z, d⟩
end
structure lO (K : PySem.W.Frag) (C : Addr) : Prop where
 pg : PySem.W.plainGet K C Str.empty = true
 hd : PySem.W.hasDictIn K C = true
 po : PySem.W.plainOver K C = true
 sa : PySem.W.findIn K (.ref C) "__setattr__" = some (some (.builtin "object.__setattr__"))
theorem lO.get {K : PySem.W.Frag} {C : Addr} (c : lO K C) (f : Str) : PySem.W.plainGet K C f = true := c.pg
def di (K : PySem.W.Frag) (C : Addr) (f : Str) : Prop := PySem.W.findIn K (.ref C) f = some none
theorem di.CB {K : PySem.W.Frag} {C : Addr} {f : Str} (n : di K C f) : PySem.W.takerIn K C f = some none := by
 unfold PySem.W.takerIn
 rw [show PySem.W.findIn K (.ref C) f = some none from n]
 rfl
structure L6 (K : PySem.W.Frag) (C : Addr) (f : Str) (v : V) (u : Value) : Prop where
 at_ : PySem.W.findIn K (.ref C) f = some (some u)
 rel : RelV v u
 get : PySem.W.specialIn K u "__get__" = some none
 cp : PySem.W.copiedNames.contains f = false
structure Meth (K : PySem.W.Frag) (C : Addr) (m : Str) (f : Addr) : Prop where
 at_ : PySem.W.findIn K (.ref C) m = some (some (.ref f))
 fn : PySem.W.isFn K (.ref f) = true
 kp : PySem.W.keepIn K (.ref f) = true
section
variable {X : Cx} {pins : List (Addr × Obj)} {σ : St} {H : Hp} {s : Shared} {a C dx : Addr} {fs : List (Str × V)} {f : Str} {v : V} {A : Around} {E : Value -> Shared -> Prop}
theorem px {b : Bool} {Q : Value -> Shared -> Prop} (I : Inv X pins σ H s) (e : H a = some (.ins C dx fs)) (c : lO X.K C) (n : di X.K C f) (l : fs.lookup f = some v)
 (h : ∀ u s', Inv X pins σ H s' -> RelV v u -> Q u s') : wpAny (model X.prog X.w) A (getAttr (.ref a) f b) Q E s := by
 obtain ⟨mA, O, r, _, _, _⟩ := kn I.aT e
 obtain ⟨u, hu, ru⟩ := hU.some_of (v := v) (o := mA f) (by rw [<- l]; exact r f)
 exact get_map I.kg O (c.get f) c.hd n hu (sF ru) (h u _ (I.tok _) ru)
theorem kW {m : Str} {g : Addr} {pl : Sem Bool} {Q : Value × List Value -> Shared -> Prop} (I : Inv X pins σ H s) (e : H a = some (.ins C dx fs)) (c : lO X.K C) (k : Meth X.K C m g) (l : fs.lookup m = none)
 (h : Q (.ref g, [.ref a]) s) : wpAny (model X.prog X.w) A (getMethod (.ref a) m pl) Q E s := by
 obtain ⟨mA, O, r, _, _, _⟩ := kn I.aT e
 have hn : mA m = none := hU.none_of (by rw [<- l]; exact r m)
 exact vk I.kg O (c.get m) k.at_ k.fn hn h
theorem pG {y : V} {u : Value} {Q : Unit -> Shared -> Prop} (I : Inv X pins σ H s) (e : H a = some (.ins C dx fs)) (c : lO X.K C) (n : di X.K C f) (hl : fs.length < 1000) (ry : RelV y u)
 (h : ∀ s', Inv X pins σ (upd H a (.ins C dx (fF f y fs))) s' -> Q () s') : wpAny (model X.prog X.w) A (setAttr (.ref a) f u) Q E s := by
 obtain ⟨mA, O, r, wi, _, ho⟩ := kn I.aT e
 have hz : (fs.map (·.1)).length <= sizeLine := by rw [List.length_map, sizeLine_eq]; omega
 refine wm I.kg O c.sa c.po n.CB c.hd wi hz fun h' O' sb => h _ ?_
 have hd : ∃ o, h'.get? dx = some o := let ⟨o, _, _, e', _⟩ := O'.ns; ⟨o, e'⟩
 refine I.write (x := a) (e := dx) (by rw [e]; exact True.intro) (.inr ho) (fun b q hb z => (sb.2 b hb).trans z) hd ?_
 refine ⟨by rw [ak O.ne]; exact ho, ?_, O.ne, O'.obj, _, O'.ns, fun g => ?_, fun g hg => ?_⟩
 . have := j0 f y fs; omega
 . show hU ((fF f y fs).lookup g) (if g = f then some u else mA g)
   rw [j5]
   by_cases q : g = f
   . rw [if_pos q, if_pos q]; exact ry
   . rw [if_neg q, if_neg q]; exact r g
 . by_cases q : g = f
   . rw [q]; exact (jF f y fs).1
   . refine (jF f y fs).2 g (wi g fun z => hg ?_)
     show (if g = f then some u else mA g) = none
     rw [if_neg q]; exact z
theorem Inv.made (I : Inv X pins σ H s) : Inv X pins σ (upd (upd H s.heap.objs.size (.own (s.heap.objs.size + 1))) (s.heap.objs.size + 1) (.ins C s.heap.objs.size []))
 { s with heap := (s.heap.push PySem.W.emptyDict).push (PySem.W.instObj C s.heap.objs.size) } := by
 have e1 : (s.heap.push PySem.W.emptyDict).get? s.heap.objs.size = some PySem.W.emptyDict := Heap.get?_push_size s.heap rfl
 have e2 : ((s.heap.push PySem.W.emptyDict).push (PySem.W.instObj C s.heap.objs.size)).get? (s.heap.objs.size + 1) = some (PySem.W.instObj C s.heap.objs.size) := by
  have := Heap.get?_push_size (s.heap.push PySem.W.emptyDict) (o := PySem.W.instObj C s.heap.objs.size) rfl
  rwa [Heap.size_push] at this
 have e3 : (s.heap.push PySem.W.emptyDict).Ns s.heap.objs.size (fun _ => none) := ⟨PySem.W.emptyDict, #[], _, e1, rfl, (fun e he => absurd he (by simp)), fun _ => rfl⟩
 have I1 := I.laid (a := s.heap.objs.size) (o := .own (s.heap.objs.size + 1)) (h' := s.heap.push PySem.W.emptyDict) (t' := s.toks) (fun b u q => Heap.get?_push_of_some _ q) (Nat.le_refl _) ⟨_, e1⟩
 refine I1.laid (a := s.heap.objs.size + 1) (o := .ins C s.heap.objs.size []) (t' := s.toks) (fun b u q => Heap.get?_push_of_some _ q) (Nat.le_of_eq (Heap.size_push _ _)) ?_
 have ne : s.heap.objs.size ≠ s.heap.objs.size + 1 := Nat.ne_of_lt (Nat.lt_succ_self _)
 refine ⟨by rw [ak ne, ay], Nat.zero_le _, ne, e2, fun _ => none, (Heap.Ns1.of_empty e3).at fun o q => Heap.get?_push_of_some _ q, fun _ => True.intro, fun y hy => absurd rfl hy⟩
theorem yb {prog : Program} {w : World} {env : Env} {e : Expr} {f : Str} {pos : Pos} {s : Shared} {Q : Value -> Shared -> Prop} (hb : attributeBase e f env (eval e env) = eval e env)
 (h : wpAny (model prog w) A (eval e env) (fun o s₁ => wpAny (model prog w) A (getAttr o f true) Q E s₁) E s) : wpAny (model prog w) A (eval (.Attribute e f pos) env) Q E s :=
 Attribute_any_ h (by rw [arm_eval_Attribute, hb])
end
def C4 (K : PySem.W.Frag) (ta : TE) (f : Str) : TE := fun σ H Q => ta σ H fun x H1 => ∃ a C dx fs v, x = .ref a /\ H1 a = some (.ins C dx fs) /\ lO K C /\ di K C f /\ fs.lookup f = some v /\ Q v H1
def DJ (K : PySem.W.Frag) (ta tv : TE) (f : Str) : TS := fun D σ H => tv σ H fun y H1 => ta σ H1 fun x H2 => ∃ a C dx fs, x = .ref a /\ H2 a = some (.ins C dx fs) /\ lO K C /\ di K C f /\ fs.length < 1000 /\
 D.nx σ (upd H2 a (.ins C dx (fF f y fs)))
section
variable {X : Cx} {o e value : Expr} {f : Str} {pos pos' Au : Pos} {ta tv : TE}
theorem eS (he : PE X e ta) (hb : attributeBase e f X.env (eval e X.env) = eval e X.env) : PE X (.Attribute e f pos) (C4 X.K ta f) := by
 intro pins s σ H Q I h
 refine yb hb (cj (he pins s σ H _ I h) fun u s1 ⟨x, H1, I1, rx, a, C, dx, fs, v, ex, ea, c, n, l, q⟩ => ?_)
 subst ex
 obtain rfl : u = Value.ref a := rx
 exact px I1 ea c n l fun u' s2 I2 ru => ⟨v, H1, I2, ru, q⟩
theorem ub (ha : PE X o ta) (hv : PE X value tv) (hs : swapsWith value (some (.Attribute o f pos')) pos.line X.env = pure false) : PS X (.Assign [.Attribute o f pos'] value pos) (DJ X.K ta tv f) := by
 intro pins s σ H D I h
 refine plainObj_wpAny_Assign_Attribute (cj (hv pins s σ H _ I h) fun u s1 ⟨y, H1, I1, ry, q⟩ => cj (ha pins s1 σ H1 _ I1 q) fun ov s2 ⟨x, H2, I2, rx, a, C, dx, fs, ex, ea, c, n, l, q2⟩ => ?_) hs
 subst ex
 obtain rfl : ov = Value.ref a := rx
 exact pG I2 ea c n l ry fun s3 I3 => ⟨σ, _, I3, q2⟩
end
section
variable {X : Cx} {pins : List (Addr × Obj)} {σ : St} {H : Hp} {s : Shared} {A : Around} {E : Value -> Shared -> Prop} {Q : Value -> Shared -> Prop} {c : Value} {b : Bool}
inductive jc (K : PySem.W.Frag) (H : Hp) : V -> Value -> Prop where
 | a0 : jc K H .a0 (.type "NoneType")
 | bl (x : Bool) : jc K H (.bl x) (.type "bool")
 | int (i : Int) : jc K H (.int i) (.type "int")
 | str (x : Str) : jc K H (.str x) (.type "str")
 | zO (x : UInt64) : jc K H (.zO x) (.type "float")
 | lst {a : Addr} {xs : List V} (e : H a = some (.lst xs)) : jc K H (.ref a) (.type "list")
 | gN {a : Addr} {o : Obj} {xs : List V} (e : H a = some (.gN o (.lst xs))) : jc K H (.ref a) (.type "list")
 | tup {a : Addr} {xs : List V} (e : H a = some (.tup xs)) : jc K H (.ref a) (.type "tuple")
 | dK {a : Addr} {kvs : List (Key × V)} (e : H a = some (.dK kvs)) : jc K H (.ref a) (.type "dict")
 | dT {a : Addr} {kvs : List (List Key × V)} (e : H a = some (.dT kvs)) : jc K H (.ref a) (.type "dict")
 | ins {a C dx : Addr} {fs : List (Str × V)} (e : H a = some (.ins C dx fs)) (cl : lO K C) (ha : PySem.W.findIn K (.ref C) "__class__" = some (some (.builtin "object.__class__")))
  (hn : PySem.W.specialIn K (.builtin "object.__class__") "__get__" = some (some (.builtin "getset_descriptor.__get__"))) (r6 : PySem.W.takesIn K (.builtin "object.__class__") = some true)
  (hm : PySem.W.mroIn K C (.type "object") = some true) : jc K H (.ref a) (.ref C)
theorem rH {x : V} {u t : Value} (I : Inv X pins σ H s) (rx : RelV x u) (ty : jc X.K H x t) (e : PySem.W.kitOne X.K t c = some b) (h : ∀ tk, Q (.bool b) { s with toks := tk }) :
 wpAny (model X.prog X.w) A (call (.builtin "isinstance") [u, c]) Q E s := by
 cases ty with
 | a0 => cases (show u = Value.none from rx); exact PySem.W.kia_one PySem.W.kitx_none I.kg True.intro e (fun z => nomatch z) h
 | bl y => cases (show u = Value.bool y from rx); exact PySem.W.kia_one PySem.W.kitx_bool I.kg True.intro e (fun z => nomatch z) h
 | int i => obtain ⟨t, q⟩ := (show ∃ t, u = Value.int i t from rx); cases q; exact PySem.W.kia_one PySem.W.kitx_int I.kg True.intro e (fun z => nomatch z) h
 | str y => obtain ⟨t, q⟩ := (show ∃ t, u = Value.str y t from rx); cases q; exact PySem.W.kia_one PySem.W.kitx_str I.kg True.intro e (fun z => nomatch z) h
 | zO y => obtain ⟨t, q⟩ := (show ∃ t, u = Value.float y t from rx); cases q; exact PySem.W.kia_one PySem.W.kitx_float I.kg True.intro e (fun z => nomatch z) h
 | @lst a xs ea =>
   cases (show u = Value.ref a from rx)
   obtain ⟨_, _, n, _, h1⟩ := (show bH X.prog X.w H s.heap a (.lst xs) from I.aT a _ ea)
   exact PySem.W.kia_one PySem.W.kitx_list I.kg ⟨_, h1, rfl⟩ e (fun z => nomatch z) h
 | @gN a ob xs ea =>
   cases (show u = Value.ref a from rx)
   obtain ⟨_, _, _, n, _, h1⟩ := (show bH X.prog X.w H s.heap a (.gN ob (.lst xs)) from I.aT a _ ea)
   exact PySem.W.kia_one PySem.W.kitx_list I.kg ⟨_, h1, rfl⟩ e (fun z => nomatch z) h
 | @tup a xs ea =>
   cases (show u = Value.ref a from rx)
   obtain ⟨_, _, _, p⟩ := (show bH X.prog X.w H s.heap a (.tup xs) from I.aT a _ ea)
   obtain ⟨o, h1, h2, _⟩ := p
   exact PySem.W.kia_one PySem.W.kitx_tuple I.kg ⟨o, h1, h2⟩ e (fun z => nomatch z) h
 | @dK a kvs ea =>
   cases (show u = Value.ref a from rx)
   obtain ⟨_, _, vs, _, p⟩ := (show bH X.prog X.w H s.heap a (.dK kvs) from I.aT a _ ea)
   obtain ⟨o, es, ep, h1, h2, _⟩ := p
   exact PySem.W.kia_one PySem.W.kitx_dict I.kg ⟨o, h1, h2.1⟩ e (fun z => nomatch z) h
 | @dT a kvs ea =>
   cases (show u = Value.ref a from rx)
   obtain ⟨_, _, xs, _, o, es, ep, h1, h2, _⟩ := (show bH X.prog X.w H s.heap a (.dT kvs) from I.aT a _ ea)
   exact PySem.W.kia_one PySem.W.kitx_dict I.kg ⟨o, h1, h2.1⟩ e (fun z => nomatch z) h
 | @ins a C dx fs ea cl ha hn r6 hm =>
   cases (show u = Value.ref a from rx)
   obtain ⟨mA, O, _⟩ := kn I.aT ea
   obtain ⟨od, J, _⟩ := O.look
   exact PySem.W.kia_one (PySem.W.kitx_own (cl.get _) cl.hd ha hn r6 hm) I.kg J e (fun z => nomatch z) h
end
structure bG (k : Nat) (A : Around) : Prop where
 hd : A.handled = none
 dp : A.depth + 3 * k + 5 < recursionLimit
 un : A.units + 16 * k + 200 < cLine
theorem bG.mono {j k : Nat} {A : Around} (r : bG k A) (h : j <= k) : bG j A := ⟨r.hd, by have := r.dp; omega, by have := r.un; omega⟩
theorem bG.deeper {k : Nat} {A : Around} (r : bG (k + 1) A) (env : Env) : bG k (A.deeper env) :=
 ⟨r.hd, by have := r.dp; show A.depth + 1 + 3 * k + 5 < _; omega, by have := r.un; show A.units + 3 + 16 * k + 200 < _; omega⟩
theorem bG.in1 {k : Nat} {A : Around} (r : bG (k + 1) A) : bG k A.in1 :=
 ⟨r.hd, by have := r.dp; show A.depth + 3 * k + 5 < _; omega, by have := r.un; show A.units + 1 + 16 * k + 200 < _; omega⟩
theorem pU {A : Around} {C : Addr} {us : List Value} {kw : List (Str × Value)} : (A.under (.builtin "type.__call__" ⟨.ref C :: us, kw⟩)).depth = A.depth + 1 := by
 first | rfl | simp [Around.under, Code.weight, Code.isCreation, Code.isGuard, Code.isCaller, Code.frames, Code.isFrame, guardIds]
theorem pM {A : Around} {C : Addr} {us : List Value} {kw : List (Str × Value)} : (A.under (.builtin "type.__call__" ⟨.ref C :: us, kw⟩)).units = A.units + 1 := by
 first | rfl | simp [Around.under, Code.cUnits, Code.frames, Code.isFrame]
theorem bG.make {k : Nat} {A : Around} (r : bG (k + 1) A) (C : Addr) (us : List Value) (kw : List (Str × Value)) : bG k (A.under (.builtin "type.__call__" ⟨.ref C :: us, kw⟩)) :=
 ⟨r.hd, by have := r.dp; rw [pU]; omega, by have := r.un; rw [pM]; omega⟩
theorem bG.depth {k : Nat} {A : Around} (r : bG k A) : A.depth < recursionLimit := by have := r.dp; omega
theorem bG.units {k : Nat} {A : Around} (r : bG k A) : A.units + 64 < cLine := by have := r.un; omega
def pY : TA := fun _ H Q => Q [] H
def yL (ta : TE) (tr : TA) : TA := fun σ H Q => ta σ H fun x H1 => tr σ H1 fun xs H2 => Q (x :: xs) H2
section
variable {X : Cx} {e : Expr} {es : List Expr} {te : TE} {t : TA} {pos : Pos}
theorem ai : PA X [] pY := fun _ _ _ _ H Q I h => Calls.spliced_nil ⟨[], H, I, .nil, h⟩
theorem af (ha : PE X e te) (hr : PA X es t) (hs : starEach (e :: es) X.env = (false, eval e X.env) :: starEach es X.env := by rfl) : PA X (e :: es) (yL te t) := by
 intro pos pins s σ H Q I h
 rw [hs]
 show wpAny _ _ (spliced ((false, eval e X.env) :: backTo pos (starEach es X.env))) _ _ s
 refine Calls.spliced_cons (cj (ha pins s σ H _ I h) fun u s1 ⟨x, H1, I1, r1, q1⟩ => ?_)
 exact cj (hr pos pins s1 σ H1 _ I1 q1) fun us s2 ⟨xs, H2, I2, r2, q2⟩ => ⟨x :: xs, H2, I2, .cons r1 r2, q2⟩
def Fc (t : TA) : TE := fun σ H Q => t σ H fun xs H1 => xs.length <= sizeLine /\ ∀ p, H1 p = none -> Q (.ref p) (upd H1 p (.tup xs))
def F6 (t : TA) : TE := fun σ H Q => t σ H fun xs H1 => xs.length <= sizeLine /\ ∀ p, H1 p = none -> Q (.ref p) (upd H1 p (.lst xs))
theorem y9 {x1} (h : PA X es t) : PE X (.Tuple es x1 pos) (Fc t) := by
 intro pins s σ H Q I hq
 refine wpAny_Tuple_spliced (cj (h pos pins s σ H _ I hq) fun us s1 ⟨xs, H1, I1, r, z, q⟩ => ⟨by rw [<- r.length]; exact z, ?_⟩)
 have hf : H1 s1.heap.objs.size = none := I1.aT.fresh (Nat.le_refl _)
 refine ⟨.ref s1.heap.objs.size, upd H1 s1.heap.objs.size (.tup xs), I1.laid (t' := s1.toks) (fun b u e => Heap.get?_push_of_some _ e) (Nat.le_refl _) ?_, rfl, q _ hf⟩
 exact ⟨z, us, r, ⟨_, Heap.get?_push_size _ rfl, rfl, _, rfl⟩⟩
theorem AJ (h : PA X es t) : PE X (.List es pos) (F6 t) := by
 intro pins s σ H Q I hq
 refine wpAny_List_spliced (cj (h pos pins s σ H _ I hq) fun us s1 ⟨xs, H1, I1, r, z, q⟩ => ⟨by rw [<- r.length]; exact z, ?_⟩)
 have hf : H1 s1.heap.objs.size = none := I1.aT.fresh (Nat.le_refl _)
 refine ⟨.ref s1.heap.objs.size, upd H1 s1.heap.objs.size (.lst xs), I1.laid (t' := s1.toks) (fun b u e => Heap.get?_push_of_some _ e) (Nat.le_refl _) ?_, rfl, q _ hf⟩
 exact ⟨z, us, 0, r, Heap.get?_push_size _ rfl⟩
end
abbrev Sp := List V -> Hp -> VK -> XK -> Prop
abbrev oW := List Env -> Hp -> Shared -> XK -> Value -> Shared -> Prop
structure lQ (P : Program) (w : World) (K : PySem.W.Frag) (mg : Str -> Option Value) (base : Heap) (A : Around) (outer : List Env) (s : Shared) (H : Hp) : Prop where
 frames : A.frames = some outer
 mod : Mod K mg base
 bs : ∀ b o, base.get? b = some o -> s.heap.get? b = some o /\ H b = none
 tf : base.objs.size <= s.heap.objs.size
 iP : s.heap.FunFrames base outer
 vR : ∀ b ∈ nS outer, H b = none
 aT : gf P w H s.heap
 bare : AllBare s.gens
def CE (outer : List Env) (P : Program) (w : World) (H : Hp) (s : Shared) (Q : VK) (u : Value) (s' : Shared) : Prop :=
 ∃ v H', s'.os = s.os /\ AllBare s'.gens /\ Un (nS outer) [] H H' s.heap s'.heap /\ gf P w H' s'.heap /\ RelV v u /\ Q v H'
def CR (CX : oW) (outer : List Env) (P : Program) (w : World) (H : Hp) (s : Shared) (Q : VK) (E : XK) (r : Result) (s' : Shared) : Prop :=
 match r with
 | .ok (.ret u) => CE outer P w H s Q u s'
 | .ok _ => False
 | .error e => CX outer H s E e s'
structure bR (P : Program) (w : World) (K : PySem.W.Frag) (mg : Str -> Option Value) (base : Heap) (CX : oW) (k : Nat) (f : Addr) (fd : FuncData) (ps : List Str) (sp : Sp) : Prop where
 len : ∀ vs H Q E, sp vs H Q E -> vs.length = ps.length
 run : ∀ (A : Around) (outer : List Env) (s : Shared) (H : Hp) (args : Args) (us : List Value) (vs : List V) (Q : VK) (E : XK), bG k A -> lQ P w K mg base A outer s H -> BindsTo s fd args (ps.zip us) -> Vals vs us -> sp vs H Q E ->
  codeAny (model P w) A (.call (.ref f) args) (CR CX outer P w H s Q E) s
theorem bR.mono {P : Program} {w : World} {K : PySem.W.Frag} {mg : Str -> Option Value} {base : Heap} {CX : oW} {j k : Nat} {f : Addr} {fd : FuncData} {ps : List Str} {sp : Sp} (F : bR P w K mg base CX j f fd ps sp) (h : j <= k) :
 bR P w K mg base CX k f fd ps sp := ⟨F.len, fun A outer s H args us vs Q E hr => F.run A outer s H args us vs Q E (hr.mono h)⟩
theorem lQ.make {P : Program} {w : World} {K : PySem.W.Frag} {mg : Str -> Option Value} {base : Heap} {A : Around} {outer : List Env} {s : Shared} {H : Hp} (e : lQ P w K mg base A outer s H) (C : Addr) (us : List Value) (kw : List (Str × Value)) :
 lQ P w K mg base (A.under (.builtin "type.__call__" ⟨.ref C :: us, kw⟩)) outer s H := ⟨by first | exact e.frames | (simpa [Around.under, Code.envs, Code.isFrame, pushEnvs] using e.frames), e.mod, e.bs, e.tf, e.iP, e.vR, e.aT, e.bare⟩
theorem lQ.in1 {P : Program} {w : World} {K : PySem.W.Frag} {mg : Str -> Option Value} {base : Heap} {A : Around} {outer : List Env} {s : Shared} {H : Hp} (e : lQ P w K mg base A outer s H) :
 lQ P w K mg base A.in1 outer s H := ⟨e.frames, e.mod, e.bs, e.tf, e.iP, e.vR, e.aT, e.bare⟩
section
variable {X : Cx} {pins : List (Addr × Obj)} {σ : St} {H : Hp} {s s' : Shared}
theorem Inv.wJ (I : Inv X pins σ H s) : lQ X.prog X.w X.K X.mg X.base X.A X.stack s H :=
 ⟨I.ok.frames, I.ok.mod, I.bs, Nat.le_trans I.ok.tf I.sz, I.stack, I.qB, I.aT, I.bare⟩
theorem Inv.after {Q : VK} {u : Value} (I : Inv X pins σ H s) (h : CE X.stack X.prog X.w H s Q u s') : EP X pins σ Q u s' := by
 obtain ⟨v, H', os, bare, un, aT, r, q⟩ := h
 obtain ⟨hh, g, d, t, K9⟩ := s'
 obtain rfl : K9 = s.os := os
 exact ⟨v, H', I.call (h' := hh) (g' := g) (d' := d) (t' := t) (ch := []) un aT bare (fun b z => absurd z (by simp)), r, q⟩
end
def qL (sp : Sp) (cC : List V) (E : XK) (t : TA) : TE := fun σ H Q => t σ H fun vs H1 => sp (vs ++ cC) H1 Q E
def lU (C : Addr) (m : Str) (sp : Sp) (cC : List V) (E : XK) (ta : TE) (t : TA) : TE := fun σ H Q => ta σ H fun x H1 => ∃ a dx fs, x = .ref a /\ H1 a = some (.ins C dx fs) /\ fs.lookup m = none /\
 t σ H1 fun vs H2 => sp (x :: (vs ++ cC)) H2 Q E
def vq (C : Addr) (sp : Sp) (cC : List V) (E : XK) (t : TA) : TE := fun σ H Q => t σ H fun vs H1 => ∀ x dx, H1 x = none -> H1 dx = none -> dx ≠ x ->
 sp (.ref x :: (vs ++ cC)) (upd (upd H1 dx (.own x)) x (.ins C dx [])) (fun v H2 => v = .a0 /\ Q (.ref x) H2) E
def Binds (K : PySem.W.Frag) (fd : FuncData) (ps : List Str) (ds : List Value) : Prop :=
 ∀ (s : Shared) (us : List Value), K.In s.heap -> (us ++ ds).length = ps.length -> BindsTo s fd ⟨us, []⟩ (ps.zip (us ++ ds))
theorem Binds.all {K : PySem.W.Frag} {fd : FuncData} {ps : List Str} (h : ∀ us : List Value, us.length = ps.length -> bindArgs fd ⟨us, []⟩ = pure (ps.zip us)) : Binds K fd ps [] := fun s us _ hl => by
 rw [List.append_nil] at hl ⊢
 exact .of_eq (h us hl)
def Passes (CX : oW) (X : Cx) (E : XK) : Prop := ∀ (pins : List (Addr × Obj)) (σ : St) (H : Hp) (s : Shared) (e : Value) (s' : Shared), Inv X pins σ H s -> CX X.stack H s E e s' -> X.xe e s'
section
variable {X : Cx} {CX : oW} {k : Nat} {f C : Addr} {fd : FuncData} {ps : List Str} {sp : Sp} {cC : List V} {ds : List Value} {E : XK} {x m : Str} {p pos apos : Pos} {e o : Expr} {es : List Expr} {ta : TE} {t : TA}
theorem p4 {pins : List (Addr × Obj)} {σ : St} {H : Hp} {s : Shared} {Q : VK} {us : List Value} {vs : List V} (F : bR X.prog X.w X.K X.mg X.base CX k f fd ps sp) (hr : bG k X.A) (hb : Binds X.K fd ps ds) (hd : Vals cC ds) (hx : Passes CX X E)
 (I : Inv X pins σ H s) (r : Vals vs us) (h : sp (vs ++ cC) H Q E) : wpAny (model X.prog X.w) X.A (call (.ref f) us) (EP X pins σ Q) X.xe s := by
 have r2 : Vals (vs ++ cC) (us ++ ds) := r.append hd
 have hl : (us ++ ds).length = ps.length := by rw [<- r2.length]; exact F.len _ _ _ _ h
 refine wpAny_call (codeAny_mono (F.run X.A X.stack s H ⟨us, []⟩ (us ++ ds) (vs ++ cC) Q E hr I.wJ (hb s us I.kg hl) r2 h) fun r s' hq => ?_)
 cases r with
 | error e => exact hx pins σ H s e s' I hq
 | ok fl =>
   cases fl with
   | ret u => exact I.after hq
   | next => exact False.elim hq
   | brk => exact False.elim hq
   | cont => exact False.elim hq
theorem v5 (F : bR X.prog X.w X.K X.mg X.base CX k f fd ps sp) (hr : bG k X.A) (hg : Gl X x) (hm : X.mg x = some (.ref f)) (hk : PySem.W.keepIn X.K (.ref f) = true) (hb : Binds X.K fd ps ds) (hd : Vals cC ds) (hx : Passes CX X E)
 (ha : PA X (e :: es) t) (uX : (x == ("__debug__" : Str)) = false := by decide) (he : starEach (e :: es) X.env = (false, eval e X.env) :: starEach es X.env := by rfl) (oX : (backTo pos (starEach es X.env)).any (·.1) = false := by rfl) :
 PE X (.Call (.Name x p) (e :: es) [] pos) (qL sp cC E t) := by
 intro pins s σ H Q I h
 refine wpAny_Call_Name_kw (nj I hg hm ?_ uX)
 refine PySem.W.callWith_K (h₀ := X.base) I.ok.mod.EC hk (cj (ha pos pins s σ H _ I h) fun us s1 ⟨vs, H1, I1, r, q⟩ => ⟨I1.kg, ?_⟩) he oX
 exact p4 F hr hb hd hx I1 r q
theorem xm {pl : Sem Bool} (he : PE X o ta) (c : lO X.K C) (hm : Meth X.K C m f) (F : bR X.prog X.w X.K X.mg X.base CX k f fd ps sp) (hr : bG k X.A) (hb : Binds X.K fd ps ds) (hd : Vals cC ds) (hx : Passes CX X E) (ha : PA X (e :: es) t)
 (qE : starEach (e :: es) X.env = (false, eval e X.env) :: starEach es X.env := by rfl) (oX : (backTo pos (starEach es X.env)).any (·.1) = false := by rfl)
 (ht : eval (.Call (.Attribute o m apos) (e :: es) [] pos) X.env = (do
  let ov <- eval o X.env
  standAt apos.atName
  let (f, first) <- holding [ov] (getMethod ov m pl)
  callWith pos f first (backTo pos (starEach (e :: es) X.env)) (backToKw pos (keywordEach [] X.env))) := by rfl) :
 PE X (.Call (.Attribute o m apos) (e :: es) [] pos) (lU C m sp cC E ta t) := by
 intro pins s σ H Q I h
 refine PySem.W.methodCall_KW (pl := pl) (cj (he pins s σ H _ I h) fun u s1 ⟨x, H1, I1, rx, a, dx, fs, ex, ea, l, q⟩ => ?_) ht
 subst ex
 obtain rfl : u = Value.ref a := rx
 refine kW I1 ea c hm l ?_
 refine PySem.W.callWith_K (first := [.ref a]) (h₀ := X.base) I.ok.mod.EC hm.kp (cj (ha pos pins s1 σ H1 _ I1 q) fun us s2 ⟨vs, H2, I2, r, q2⟩ => ⟨I2.kg, ?_⟩) qE oX
 exact p4 (us := .ref a :: us) (vs := .ref a :: vs) F hr hb hd hx I2 (.cons rfl r) q2
theorem uS {pl : Sem Bool} (he : PE X o ta) (c : lO X.K C) (hm : Meth X.K C m f) (F : bR X.prog X.w X.K X.mg X.base CX k f fd ps sp) (hr : bG k X.A) (hb : Binds X.K fd ps ds) (hd : Vals cC ds) (hx : Passes CX X E)
 (ht : eval (.Call (.Attribute o m apos) [] [] pos) X.env = (do
  let ov <- eval o X.env
  standAt apos.atName
  let (f, first) <- holding [ov] (getMethod ov m pl)
  callWith pos f first (backTo pos (starEach [] X.env)) (backToKw pos (keywordEach [] X.env))) := by rfl) :
 PE X (.Call (.Attribute o m apos) [] [] pos) (lU C m sp cC E ta pY) := by
 intro pins s σ H Q I h
 refine PySem.W.methodCall_KW (pl := pl) (cj (he pins s σ H _ I h) fun u s1 ⟨x, H1, I1, rx, a, dx, fs, ex, ea, l, q⟩ => ?_) ht
 subst ex
 obtain rfl : u = Value.ref a := rx
 refine kW I1 ea c hm l ?_
 exact PySem.W.callWith_K0 (first := [.ref a]) I1.kg hm.kp (p4 (us := [.ref a]) (vs := [.ref a]) F hr hb hd hx I1 (.cons rfl .nil) q)
structure Mk (K : PySem.W.Frag) (C f : Addr) : Prop where
 makes : PySem.W.makesIn K C = true
 init : PySem.W.findIn K (.ref C) "__init__" = some (some (.ref f))
 fn : PySem.W.isFn K (.ref f) = true
 kp : PySem.W.keepIn K (.ref C) = true
theorem uM {pins : List (Addr × Obj)} {σ : St} {H : Hp} {s : Shared} {Q : VK} {us : List Value} {vs : List V} (M : Mk X.K C f) (F : bR X.prog X.w X.K X.mg X.base CX k f fd ps sp) (hr : bG (k + 1) X.A) (hb : Binds X.K fd ps ds) (hd : Vals cC ds)
 (hx : Passes CX X E) (I : Inv X pins σ H s) (r : Vals vs us)
 (h : ∀ x dx, H x = none -> H dx = none -> dx ≠ x -> sp (.ref x :: (vs ++ cC)) (upd (upd H dx (.own x)) x (.ins C dx [])) (fun v H2 => v = .a0 /\ Q (.ref x) H2) E) :
 wpAny (model X.prog X.w) X.A (call (.ref C) us) (EP X pins σ Q) X.xe s := by
 have hq := h (s.heap.objs.size + 1) s.heap.objs.size (I.aT.fresh (Nat.le_succ _)) (I.aT.fresh (Nat.le_refl _)) (Nat.ne_of_lt (Nat.lt_succ_self _))
 have I2 := Inv.made (C := C) I
 have r2 : Vals (V.ref (s.heap.objs.size + 1) :: (vs ++ cC)) (Value.ref (s.heap.objs.size + 1) :: (us ++ ds)) := .cons rfl (r.append hd)
 have hl : (Value.ref (s.heap.objs.size + 1) :: us ++ ds).length = ps.length := by
  have e := r2.length
  rw [F.len _ _ _ _ hq] at e
  exact e.symm
 refine wpAny_call (vf (f := f) I.kg M.makes M.init (beq_iff_eq.mp M.fn) (codeAny_mono (F.run _ X.stack _ _ ⟨Value.ref (s.heap.objs.size + 1) :: us, []⟩ (Value.ref (s.heap.objs.size + 1) :: (us ++ ds)) _ _ E (hr.make C us [])
  (I2.wJ.make C us []) (hb _ (Value.ref (s.heap.objs.size + 1) :: us) I2.kg hl) r2 hq) fun r s' y4 => ?_))
 cases r with
 | error e => exact hx pins σ _ _ e s' I2 y4
 | ok fl =>
   cases fl with
   | ret u =>
     obtain ⟨v, H', I3, rv, ev, q3⟩ := I2.after y4
     subst ev
     exact ⟨rv, ⟨V.ref (s.heap.objs.size + 1), H', I3, rfl, q3⟩⟩
   | next => exact False.elim y4
   | brk => exact False.elim y4
   | cont => exact False.elim y4
theorem uz (M : Mk X.K C f) (F : bR X.prog X.w X.K X.mg X.base CX k f fd ps sp) (hr : bG (k + 1) X.A) (hg : Gl X x) (hm : X.mg x = some (.ref C)) (hb : Binds X.K fd ps ds) (hd : Vals cC ds) (hx : Passes CX X E)
 (uX : (x == ("__debug__" : Str)) = false := by decide) : PE X (.Call (.Name x p) [] [] pos) (vq C sp cC E pY) := by
 intro pins s σ H Q I h
 refine wpAny_Call_Name_kw (nj I hg hm ?_ uX)
 exact PySem.W.callWith_K0 I.kg M.kp (uM (us := []) M F hr hb hd hx I .nil h)
end
section
variable {X : Cx} {CX : oW} {k : Nat} {f C : Addr} {fd : FuncData} {ps ks : List Str} {sp : Sp} {E : XK} {x m : Str} {p pos apos AG : Pos} {e o : Expr} {es : List Expr} {L8 : List Keyword} {te ta : TE} {t tk : TA} {nm : Option Str}
structure G0 (K : PySem.W.Frag) (fd : FuncData) (ps ks : List Str) (g : List Value -> List Value -> List Value) (gV : List V -> List V -> List V) : Prop where
 to : ∀ (s : Shared) (us ws : List Value), K.In s.heap -> (g us ws).length = ps.length -> BindsTo s fd ⟨us, ks.zip ws⟩ (ps.zip (g us ws))
 rel : ∀ {vs : List V} {us : List Value} {zs : List V} {ws : List Value}, Vals vs us -> Vals zs ws -> Vals (gV vs zs) (g us ws)
variable {g : List Value -> List Value -> List Value} {gV : List V -> List V -> List V}
end
structure aG (N P : List Str) (sc : Scope) : Prop where
 kind : sc.kind = .function
 co : sc.isCoroutine = false
 gen : sc.isGenerator = false
 nd : N.Nodup
 pre : N.take P.length = P
 par : ∀ x ∈ P, sc.names.lookup x = some .local \/ sc.names.lookup x = some .cell
 zG : ∀ y ∈ sc.names, y.2 ≠ .free
theorem mE {kindOf : Str -> Option NameKind} {x : Str} : ∀ {binds : List (Str × Value)} {m : Str -> Option Value}, (∀ v, (x, v) ∉ binds) -> bindL kindOf binds m x = m x
 | [], _, _ => rfl
 | (n, v) :: r, m, h => by
   unfold bindL
   rw [mE fun w hw => h w (List.mem_cons_of_mem _ hw)]
   split
   . have : x ≠ n := by rintro rfl; exact h v List.mem_cons_self
     simp [this]
   . rfl
theorem mw {kindOf : Str -> Option NameKind} {x : Str} : ∀ {binds : List (Str × Value)} {m : Str -> Option Value}, (∀ v, (x, v) ∉ binds) -> bindC kindOf binds m x = m x
 | [], _, _ => rfl
 | (n, v) :: r, m, h => by
   unfold bindC
   rw [mw fun w hw => h w (List.mem_cons_of_mem _ hw)]
   split
   . rfl
   . have : x ≠ n := by rintro rfl; exact h v List.mem_cons_self
     simp [this]
theorem mh {kindOf : Str -> Option NameKind} {x : Str} {v : Value} : ∀ {P : List Str} {vs : List Value} {i : Nat} {m : Str -> Option Value}, P.Nodup -> P[i]? = some x -> vs[i]? = some v -> kindOf x = some .local ->
 bindL kindOf (P.zip vs) m x = some v
 | [], _, _, _, _, h, _, _ => by simp at h
 | _ :: _, [], _, _, _, _, h, _ => by simp at h
 | p :: P, w :: vs, 0, m, nd, h1, h2, hk => by
   simp at h1 h2; subst h1; subst h2
   show bindL kindOf ((p, w) :: P.zip vs) m p = _
   unfold bindL
   rw [mE fun v hv => (List.nodup_cons.mp nd).1 (List.of_mem_zip hv).1, if_pos hk]
   simp
 | p :: P, w :: vs, i + 1, m, nd, h1, h2, hk => by
   show bindL kindOf ((p, w) :: P.zip vs) m x = _
   unfold bindL
   exact mh (i := i) (List.nodup_cons.mp nd).2 (by simpa using h1) (by simpa using h2) hk
theorem mr {kindOf : Str -> Option NameKind} {x : Str} {v : Value} : ∀ {P : List Str} {vs : List Value} {i : Nat} {m : Str -> Option Value}, P.Nodup -> P[i]? = some x -> vs[i]? = some v -> kindOf x ≠ some .local ->
 bindC kindOf (P.zip vs) m x = some v
 | [], _, _, _, _, h, _, _ => by simp at h
 | _ :: _, [], _, _, _, _, h, _ => by simp at h
 | p :: P, w :: vs, 0, m, nd, h1, h2, hk => by
   simp at h1 h2; subst h1; subst h2
   show bindC kindOf ((p, w) :: P.zip vs) m p = _
   unfold bindC
   rw [mw fun v hv => (List.nodup_cons.mp nd).1 (List.of_mem_zip hv).1, if_neg hk]
   simp
 | p :: P, w :: vs, i + 1, m, nd, h1, h2, hk => by
   show bindC kindOf ((p, w) :: P.zip vs) m x = _
   unfold bindC
   exact mr (i := i) (List.nodup_cons.mp nd).2 (by simpa using h1) (by simpa using h2) hk
def start (N : List Str) (vs : List V) : St := vs.map some ++ List.replicate (N.length - vs.length) none
def pA (CX : oW) (P : Program) (w : World) (K : PySem.W.Frag) (mg : Str -> Option Value) (base : Heap) (N : List Str) (qual : Str) (scope : Scope) (f : Addr) (cd : Value) (A : Around) (outer : List Env) (s : Shared) (H : Hp) (E : XK) : Cx where
 prog := P
 w := w
 K := K
 mg := mg
 base := base
 A := A.deeper (envOfC qual scope s.heap.objs.size f cd)
 N := N
 dh := s
 og := H
 env := envOfC qual scope s.heap.objs.size f cd
 outer := outer
 stack := envOfC qual scope s.heap.objs.size f cd :: outer
 ex := []
 calm := true
 fn := fun _ => true
 pn := []
 xe := fun e s' => wpAny (model P w) (A.deeper (envOfC qual scope s.heap.objs.size f cd)) (leaving (envOfC qual scope s.heap.objs.size f cd) e) (fun _ Fs => CX outer H s E e Fs) (fun e' Fs => CX outer H s E e' Fs) s'
theorem oO {sc : Scope} {n : Nat} {x : Str} (h : sc.names.lookup x = some .cell) : ∃ c, (cellsFrom n sc.names []).lookup x = some c := by
 have q := PySem.W.cellsFrom_some sc.names n [] (.inl h)
 exact Option.isSome_iff_exists.mp q
theorem rz {CX : oW} {P : Program} {w : World} {K : PySem.W.Frag} {mg : Str -> Option Value} {base : Heap} {N ps : List Str} {qual : Str} {scope : Scope} {f : Addr} {cd : Value} {A : Around} {outer : List Env} {s s1 : Shared} {H : Hp} {E : XK} {us : List Value} {vs : List V}
 (S : aG N ps scope) (hd : A.handled = none) (e0 : lQ P w K mg base A outer s H) (hl : vs.length = ps.length) (r : Vals vs us)
 (x : InCallC s s.heap.objs.size (bindL (envOfC qual scope s.heap.objs.size f cd).kindOf (ps.zip us) fun _ => none) (cellsFrom (s.heap.objs.size + 1) scope.names []) (bindC (envOfC qual scope s.heap.objs.size f cd).kindOf (ps.zip us) fun _ => none) s1) :
 Inv (pA CX P w K mg base N qual scope f cd A outer s H E) [] (start N vs) H s1 := by
 have oX : ps.length <= N.length := by have := congrArg List.length S.pre; rw [List.length_take] at this; omega
 obtain ⟨h1, tk, rfl, hk⟩ := x.done
 have xx : ∀ b : Addr, b ∉ (pA CX P w K mg base N qual scope f cd A outer s H E).ex := fun b z => absurd (show b ∈ ([] : List Addr) from z) (by simp)
 refine ⟨⟨e0.mod, S.kind, rfl, rfl, Nat.le_refl _, fun y z c h1 h2 => ?_, fun y hy => ?_, fun y c _ h => ?_, fun _ => hd, Around.frames_deeper e0.frames, .inr ⟨rfl, rfl⟩, fun b z => absurd z (xx b), e0.bs, e0.tf, fun b _ _ => xx b, fun b z => absurd z (xx b), e0.iP, e0.vR⟩,
  rfl, e0.bare, Un.kept hk, ⟨_, x.toInCall.ns, fun i y v h1 h2 h3 => ?_⟩, fun y c h => ⟨_, x.cell y c h⟩, e0.aT.fresh (Nat.le_refl _), fun y c h => ?_, fun p hp => absurd (show p ∈ ([] : List (Addr × Obj)) from hp) (by simp), e0.aT.kept hk, ?_⟩
 . exact name_of_addr x.apart (PySem.mem_of_lookup h1) (PySem.mem_of_lookup h2)
 . have hy : scope.names.lookup y = some .cell \/ scope.names.lookup y = some .free := hy
   rcases hy with hy | hy
   . exact oO hy
   . exact absurd rfl (S.zG _ (PySem.mem_of_lookup hy))
 . exact Nat.le_of_lt (x.above y c (PySem.mem_of_lookup h))
 . have hi : i < vs.length := by
    unfold start at h2
    by_cases hi : i < vs.length
    . exact hi
    . rw [List.getElem?_append_right (by simpa using hi)] at h2
      rw [List.getElem?_replicate] at h2
      split at h2 <;> cases h2
   have ha : vs[i]? = some v := by
    unfold start at h2
    rw [List.getElem?_append_left (by simpa using hi), List.getElem?_map] at h2
    cases e : vs[i]? with
    | none => rw [e] at h2; cases h2
    | some a => rw [e] at h2; cases h2; rfl
   obtain ⟨u, hu, rv⟩ := r.get ha
   have hp : ps[i]? = some y := by
    rw [<- S.pre, List.getElem?_take_of_lt (by omega)]; exact h1
   have HD : ps.Nodup := by rw [<- S.pre]; exact S.nd.sublist (List.take_sublist _ _)
   refine ⟨u, rv, ?_⟩
   rcases S.par y (List.mem_of_getElem? hp) with k | k
   . exact .inl ⟨k, mh HD hp hu k⟩
   . obtain ⟨c, e⟩ := oO (n := s.heap.objs.size + 1) k
     refine .inr ⟨.inl k, c, e, ?_⟩
     have q := x.cell y c e
     rw [mr HD hp hu (by show scope.names.lookup y ≠ _; rw [k]; decide)] at q
     exact q
 . exact e0.aT.fresh (Nat.le_of_lt (x.above y c (PySem.mem_of_lookup h)))
 . unfold start
   show _ = N.length
   rw [List.length_append, List.length_map, List.length_replicate]
   omega
theorem yK {CX : oW} {P : Program} {w : World} {K : PySem.W.Frag} {mg : Str -> Option Value} {base : Heap} {k : Nat} {f : Addr} {name qual : Str} {params : Arguments} {body : List Stmt} {scope : Scope} {dV kV doc pm dR ct oc : Value} {an od : Option Addr}
 {rJ : Array (Option Value)} {N ps : List Str} {sp : Sp} (lk : K.lookup f = some ⟨oc, od, .func (PySem.W.fnOf name qual params body scope dV kV doc pm an dR ct), rJ⟩) (lJ : PySem.W.codeIn K dR qual = true) (S : aG N ps scope)
 (len : ∀ vs H Q E, sp vs H Q E -> vs.length = ps.length)
 (j6 : ∀ (A : Around) (outer : List Env) (s : Shared) (H : Hp) (vs : List V) (Q : VK) (E : XK), bG k (A.deeper (envOfC qual scope s.heap.objs.size f dR)) -> sp vs H Q E ->
  ∃ t, oF (pA CX P w K mg base N qual scope f dR A outer s H E) body t /\ t { nx := fun _ H' => Q .a0 H', rt := Q } (start N vs) H) :
 bR P w K mg base CX (k + 1) f (PySem.W.fnOf name qual params body scope dV kV doc pm an dR ct) ps sp := by
 refine ⟨len, fun A outer s H args us vs Q E hr e0 hb r vQ => ?_⟩
 have hl := len _ _ _ _ vQ
 have KX : K.In s.heap := e0.mod.EC.keeps fun b o e => (e0.bs b o e).1
 have lim : s.heap.NoLimit := e0.mod.nolimit.keeps fun b o e => (e0.bs b o e).1
 have D1 : ∀ y ∈ ps.zip us, scope.names.lookup y.1 = some .local \/ (scope.names.lookup y.1 = some .cell /\ ((cellsFrom (s.heap.objs.size + 1) scope.names []).lookup y.1).isSome = true) := fun ⟨n, v⟩ hy => by
  rcases S.par n (List.of_mem_zip hy).1 with q | q
  . exact .inl q
  . exact .inr ⟨q, PySem.W.cellsFrom_some _ _ _ (.inl q)⟩
 refine codeAny_call_function hr.depth (KX _ _ lk) rfl S.co S.gen rfl (PySem.W.codeRec_of KX lJ) (hb _ _ _ _ ?_)
 refine wpAny_newFunctionEnv_cells S.kind D1 fun env he s1 x => ?_
 subst he
 refine ⟨lim.keeps x.toInCall.keep, codeAny_func ?_⟩
 obtain ⟨t, ht, hq⟩ := j6 A outer s H vs Q E (hr.deeper _) vQ
 have I : Inv (pA CX P w K mg base N qual scope f dR A outer s H E) [] (start N vs) H s1 := rz S hr.hd e0 hl r x
 refine wpAny_mono (ht [] s1 (start N vs) H _ I hq) (fun fl s' hs => ?_) fun e s' hs => hs
 have fin : ∀ {σ' : St} {H' : Hp} {v : V} {u : Value}, Inv (pA CX P w K mg base N qual scope f dR A outer s H E) [] σ' H' s' -> RelV v u -> Q v H' -> CE outer P w H s Q u s' :=
  fun {σ' H' v u} J rv q => ⟨v, H', J.os, J.bare, J.base, J.aT, rv, q⟩
 cases fl with
 | ret u =>
   obtain ⟨v, σ', H', J, rv, q⟩ := hs
   exact fin J rv q
 | next =>
   obtain ⟨σ', H', J, q⟩ := hs
   exact fin (v := V.a0) (u := Value.none) J rfl q
 | brk =>
   obtain ⟨_, _, _, q⟩ := hs
   exact False.elim q
 | cont =>
   obtain ⟨_, _, _, q⟩ := hs
   exact False.elim q
section
variable {X : Cx} {x : Str} {p pos : Pos} {e : Expr} {es : List Expr} {t : TA} {id T : String} {r : List V -> Hp -> VK -> Prop}
def Ip (r : List V -> Hp -> VK -> Prop) (t : TA) : TE := fun σ H Q => t σ H fun vs H1 => r vs H1 Q
theorem b7 (hc : j1 X (.builtin id) r) (hg : Gl X x) (hm : X.mg x = none) (hv : bootBuiltins x = some (.builtin id)) (ha : PA X (e :: es) t) (hn : x ≠ "__name__" := by decide) (uX : (x == ("__debug__" : Str)) = false := by decide)
 (he : starEach (e :: es) X.env = (false, eval e X.env) :: starEach es X.env := by rfl) (oX : (backTo pos (starEach es X.env)).any (·.1) = false := by rfl) : PE X (.Call (.Name x p) (e :: es) [] pos) (Ip r t) := by
 intro pins s σ H Q I h
 refine wpAny_Call_Name_kw (jU I hg hm hv ?_ hn uX)
 exact PyProof.Rows.callWith_builtin1 (cj (ha pos pins s σ H _ I h) fun us s1 ⟨vs, H1, I1, r1, q1⟩ => hc pins s1 σ H1 vs us Q I1 r1 q1) he oX
end
end L2
namespace HT
open PySem PyProof.Rows
section
open PySem.SeqAt
open PySem.AutoSeq1 (wpAny_loadPart')
open PySem.MeetsSeq PySem.MeetsSeq2 PySem.MeetsSeq3
end
section
variable {prog : Program} {w : World} {A : Around} {E : Value -> Shared -> Prop} {s : Shared}
def oY (n d : Nat) : Option Int -> Nat
 | none => d
 | some v => if v < 0 then (v + (n : Int)).toNat else min v.toNat n
theorem q4 (n d k : Nat) : oY n d (some (k : Int)) = min k n := by
 show (if (k : Int) < 0 then ((k : Int) + (n : Int)).toNat else min (k : Int).toNat n) = min k n
 rw [if_neg (by omega), Int.toNat_natCast]
end
end HT
namespace L2
open PySem PySem.Spec PyProof.Rows
abbrev TO := St -> Hp -> (Option Int -> Hp -> Prop) -> Prop
def PO (X : Cx) (e : Option Expr) (t : TO) : Prop :=
 ∀ (pins : List (Addr × Obj)) (s : Shared) (σ : St) (H : Hp) (Q : Option Int -> Hp -> Prop), Inv X pins σ H s -> t σ H Q ->
   wpAny (model X.prog X.w) X.A (evalPart e X.env) (fun u s' => ∃ o H', Inv X pins σ H' s' /\ IsPart u o /\ Q o H') X.xe s
def yr (t : TE) : TO := fun σ H Q => t σ H fun x H1 => ∃ i, x = .int i /\ Q (some i) H1
section
variable {X : Cx} {e : Expr} {te : TE} {lo hi : Option Expr} {tl th : TO} {pos p2 : Pos}
theorem qu (h : PE X e te) : PO X (some e) (yr te) := by
 intro pins s σ H Q I hw
 rw [evalPart_some]
 refine cj (h pins s σ H _ I hw) fun u s1 ⟨x, H1, I1, r1, q1⟩ => ?_
 obtain ⟨i, rfl, q⟩ := q1
 obtain ⟨t, rfl⟩ := r1
 exact ⟨some i, H1, I1, .int i t, q⟩
def IB (X : Cx) (r : V -> Option Int -> Option Int -> Hp -> VK -> Prop) : Prop :=
 ∀ (pins : List (Addr × Obj)) (s : Shared) (σ : St) (H : Hp) (x : V) (v vl vu : Value) (lo hi : Option Int) (sl : Addr) (Q : VK), Inv X pins σ H s -> RelV x v -> s.heap.IsSliceOf sl vl vu .none -> IsPart vl lo -> IsPart vu hi -> r x lo hi H Q ->
   ∃ T id, typeLookup (.type T) "__getitem__" = pure (some (.builtin id)) /\ s.TypeIs v T /\ wpAny (model X.prog X.w) X.A (getItem v (.ref sl)) (EP X pins σ Q) X.xe s
def Iw (r : V -> Option Int -> Option Int -> Hp -> VK -> Prop) (te : TE) (tl th : TO) : TE := fun σ H Q => te σ H fun x H1 => tl σ H1 fun l H2 => th σ H2 fun u H3 => r x l u H3 Q
theorem tK {r : V -> Option Int -> Option Int -> Hp -> VK -> Prop} (hr : IB X r) (he : PE X e te) (hl : PO X lo tl) (hu : PO X hi th) : PE X (.Subscript e (.Slice lo hi none p2) pos) (Iw r te tl th) := by
 intro pins s σ H Q I h
 refine Subscript_ (cj (he pins s σ H _ I h) fun v s1 ⟨x, H1, I1, r1, q1⟩ => ?_)
 refine wpAny_Slice (cj (hl pins s1 σ H1 _ I1 q1) fun vl s2 ⟨l, H2, I2, pl, q2⟩ => cj (hu pins s2 σ H2 _ I2 q2) fun vu s3 ⟨u, H3, I3, pu, q3⟩ => ?_)
 rw [evalPart_none]
 refine wpAny_pure ?_
 have I4 : Inv X pins σ H3 { s3 with heap := s3.heap.push { cls := .type "slice", data := .fields #[vl, vu, .none] } } := I3.kept (t' := s3.toks) fun b ob q => Heap.get?_push_of_some _ q
 obtain ⟨T, id, hT, ht, hg⟩ := hr pins { s3 with heap := s3.heap.push { cls := .type "slice", data := .fields #[vl, vu, .none] } } σ H3 x v vl vu l u s3.heap.objs.size Q I4 r1 (Heap.IsSliceOf.new ..) pl pu q3
 show wpAny (model X.prog X.w) X.A (subscriptTail e (.Slice lo hi none p2) v (.ref s3.heap.objs.size)) (EP X pins σ Q) X.xe { s3 with heap := s3.heap.push { cls := .type "slice", data := .fields #[vl, vu, .none] } }
 exact tail_any (ops := [.ref s3.heap.objs.size, v]) ht hT hg (by with_unfolding_all rfl)
def sr (xs : List V) (lo hi : Option Int) : List V := (xs.drop (HT.oY xs.length 0 lo)).take (HT.oY xs.length xs.length hi - HT.oY xs.length 0 lo)
theorem n9 (xs : List V) (lo hi : Option Int) : (sr xs lo hi).length <= xs.length := by
 unfold sr
 rw [List.length_take, List.length_drop]
 omega
end
def xA (n : Nat) (i : Int) : Option Nat := if 0 <= i then (if i < n then some i.toNat else none) else if -(n : Int) <= i then some (i + n).toNat else none
def md {α : Type} (xs : List α) (i : Int) : Option α := (xA xs.length i).bind fun j => xs[j]?
theorem xF {n : Nat} {i : Int} {j : Nat} (h : xA n i = some j) : seqIndex? i n = some j /\ j < n /\ -(n : Int) <= i /\ i < n := by
 unfold xA at h
 by_cases h0 : 0 <= i
 . rw [if_pos h0] at h
   by_cases h1 : i < n
   . rw [if_pos h1] at h
     have e : i.toNat = j := Option.some.inj h
     exact ⟨by rw [seqIndex_of h0 h1, e], by omega, by omega, h1⟩
   . rw [if_neg h1] at h; cases h
 . rw [if_neg h0] at h
   by_cases h1 : -(n : Int) <= i
   . rw [if_pos h1] at h
     have e : (i + n).toNat = j := Option.some.inj h
     exact ⟨by rw [seqIndex_neg (by omega) h1, e], by omega, h1, by omega⟩
   . rw [if_neg h1] at h; cases h
theorem mP {α : Type} {xs : List α} {i : Int} {v : α} (h : md xs i = some v) : ∃ j, seqIndex? i xs.length = some j /\ xs[j]? = some v /\ j < xs.length /\ -(xs.length : Int) <= i /\ i < xs.length := by
 unfold md at h
 cases e : xA xs.length i with
 | none => rw [e] at h; cases h
 | some j =>
   rw [e] at h
   obtain ⟨h1, h2, h3, h4⟩ := xF e
   exact ⟨j, h1, h, h2, h3, h4⟩
theorem ko {α : Type} {xs : List α} {j : Nat} {v : α} (h : xs[j]? = some v) : md xs (j : Int) = some v := by
 have hj : j < xs.length := (List.getElem?_eq_some_iff.mp h).1
 have e : xA xs.length (j : Int) = some j := by
  unfold xA
  rw [if_pos (by omega), if_pos (by omega)]; simp
 unfold md; rw [e]; exact h
theorem uw {α : Type} (xs : List α) (v : α) : md (xs ++ [v]) (-1) = some v := by
 have hl : (xs ++ [v]).length = xs.length + 1 := by simp
 have e : xA (xs ++ [v]).length (-1) = some xs.length := by
  unfold xA
  rw [hl, if_neg (by decide), if_pos (by omega)]
  congr 1
  omega
 unfold md
 rw [e]
 show (xs ++ [v])[xs.length]? = some v
 simp
def xC (b : Expr) : Prop := ∀ o i, subscripted b false o i = operate [o, i] (getItem o i)
def tq (X : Cx) (r : R2) : Prop :=
 ∀ (value slice : Expr) (pins : List (Addr × Obj)) (s : Shared) (σ : St) (H : Hp) (x y : V) (v u : Value) (Q : VK), Inv X pins σ H s -> RelV x v -> RelV y u -> r x y H Q ->
   subscripted slice false v u = operate [v, u] (getItem v u) -> wpAny (model X.prog X.w) X.A (subscriptTail value slice v u) (EP X pins σ Q) X.xe s
def Kr (X : Cx) (id : String) (r : V -> List V -> Hp -> VK -> Prop) : Prop :=
 ∀ (pins : List (Addr × Obj)) (s : Shared) (σ : St) (H : Hp) (x : V) (xs : List V) (v : Value) (us : List Value) (Q : VK), Inv X pins σ H s -> RelV x v -> Vals xs us -> r x xs H Q ->
   wpAny (model X.prog X.w) X.A (call (.builtin id) (v :: us)) (EP X pins σ Q) X.xe s
section
variable {X : Cx} {a b : Expr} {ta tb : TE} {pos : Pos}
theorem tq.or {r r' : R2} (h : tq X r) (h' : tq X r') : tq X (fun x y H Q => r x y H Q \/ r' x y H Q) := by
 intro value slice pins s σ H x y v u Q I rx ry q hs
 rcases q with q | q
 . exact h value slice pins s σ H x y v u Q I rx ry q hs
 . exact h' value slice pins s σ H x y v u Q I rx ry q hs
theorem dn {r : R2} (hr : tq X r) (ha : PE X a ta) (hb : PE X b tb) (hs : xC b) : PE X (.Subscript a b pos) (D4 r ta tb) := by
 intro pins s σ H Q I h
 exact Subscript_ (Bw ha hb I h fun v u s2 x y H2 I2 rx ry q => hr a b pins s2 σ H2 x y v u Q I2 rx ry q (hs _ _))
def zD (K : PySem.W.Frag) : R2 := fun x y H Q => ∃ p xs i v, x = .ref p /\ y = .int i /\ dA K H p xs /\ md xs i = some v /\ Q v H
def D7 (K : PySem.W.Frag) : R2 := fun x y H Q => ∃ p xs i v, x = .ref p /\ y = .int i /\ qA K H p xs /\ md xs i = some v /\ Q v H
def Bz : R2 := fun x y H Q => ∃ z i c, x = .str z /\ y = .int i /\ z.length <= sizeLine /\ md z.cps.toList i = some c /\ Q (.str ⟨#[c]⟩) H
theorem qt : tq X (zD X.K) := by
 intro value slice pins s σ H x y v u Q I rx ry h hs
 obtain ⟨p, xs, i, z, rfl, rfl, hq, he, q⟩ := h
 cases rx
 obtain ⟨t, rfl⟩ := ry
 obtain ⟨aS, r, pl, hz⟩ := I.list hq
 obtain ⟨j, h1, h2, h3, h4, h5⟩ := mP he
 obtain ⟨w, ew, va⟩ := r.get h2
 have hl := r.length
 have hn := jH
 have fin : EP X pins σ Q w s := ⟨z, H, I, va, q⟩
 by_cases h0 : 0 <= i
 . have hj : i.toNat = j := by
    rw [seqIndex_of h0 h5] at h1
    exact Option.some.inj h1
   exact item_listR pl.isList h0 (by omega) (by rw [hj]; simpa using ew) fin hs
 . have hj : (i + (aS.toArray.size : Int)).toNat = j := by
    rw [seqIndex_neg (by omega) h4] at h1
    rw [List.size_toArray, <- hl]
    exact Option.some.inj h1
   exact subscriptTail_builtinR (x := w) pl.isList.typeIs slot_list_getitem.lookup
    (wpAny_getItem_list_neg (Q := fun r s' => r = w /\ EP X pins σ Q r s') pl.isList (by omega) (by rw [List.size_toArray] <;> omega) (by omega) (by rw [hj]; simpa using ew) ⟨rfl, fin⟩) hs
theorem zm : tq X (D7 X.K) := by
 intro value slice pins s σ H x y v u Q I rx ry h hs
 obtain ⟨p, xs, i, z, rfl, rfl, hq, he, q⟩ := h
 cases rx
 obtain ⟨t, rfl⟩ := ry
 obtain ⟨aS, r, pl, hz⟩ := I.tuple hq
 obtain ⟨j, h1, h2, h3, h4, h5⟩ := mP he
 obtain ⟨w, ew, va⟩ := r.get h2
 have hl := r.length
 have hn := jH
 have fin : EP X pins σ Q w s := ⟨z, H, I, va, q⟩
 exact subscriptTail_builtinR (x := w) pl.typeIs slot_tuple_getitem.lookup
  (getItem_tuple (j := j) (Q := fun r s' => r = w /\ EP X pins σ Q r s') pl (by omega) (by omega) (by rw [List.size_toArray, <- hl]; exact h1) (by simpa using ew) ⟨rfl, fin⟩) hs
theorem Aw : tq X Bz := by
 intro value slice pins s σ H x y v u Q I rx ry h hs
 obtain ⟨z, i, c, rfl, rfl, hz, he, q⟩ := h
 obtain ⟨t, rfl⟩ := rx
 obtain ⟨t', rfl⟩ := ry
 obtain ⟨j, h1, h2, h3, h4, h5⟩ := mP he
 have hl : z.cps.toList.length = z.length := by simp [Str.length]
 rw [hl] at h1 h4 h5
 have hn := jH
 exact tail_any (typeIs_str s z t) slot_str_getitem.lookup (getItem_str (c := c) (by
  have e1 : decide (i < -(2 ^ 63 : Int)) = false := decide_eq_false (by omega)
  have e2 : decide (i ≥ 2 ^ 63) = false := decide_eq_false (by omega)
  rw [e1, e2, Bool.or_false]) (by rw [h1]; simpa using h2) ⟨.str ⟨#[c]⟩, H, I.tok _, ⟨_, rfl⟩, q⟩) hs
def Ij (K : PySem.W.Frag) : R2 := fun x y H Q => zD K x y H Q \/ D7 K x y H Q \/ Bz x y H Q
theorem zv : tq X (Ij X.K) := qt.or (zm.or Aw)
theorem mJ (lo hi : Option Int) (n : Nat) : (sliceBounds lo hi none n).1 = ((HT.oY n 0 lo : Nat) : Int) /\ (sliceBounds lo hi none n).2.1 = ((HT.oY n n hi : Nat) : Int) /\ (sliceBounds lo hi none n).2.2 = 1 := by
 refine ⟨?_, ?_, rfl⟩
 . cases lo with
   | none => simp [sliceBounds, HT.oY]
   | some i =>
     simp only [sliceBounds, HT.oY, Option.getD_none, show (1 : Int) > 0 by decide, if_true]
     by_cases h : i < 0
     . simp only [h, if_true] <;> omega
     . simp only [h, if_false] <;> omega
 . cases hi with
   | none => simp [sliceBounds, HT.oY]
   | some i =>
     simp only [sliceBounds, HT.oY, Option.getD_none, show (1 : Int) > 0 by decide, if_true]
     by_cases h : i < 0
     . simp only [h, if_true] <;> omega
     . simp only [h, if_false] <;> omega
theorem lS (aS : List Value) (lo hi : Option Int) : slicePick aS.toArray lo hi none = ((aS.drop (HT.oY aS.length 0 lo)).take (HT.oY aS.length aS.length hi - HT.oY aS.length 0 lo)).toArray := by
 obtain ⟨h1, h2, h3⟩ := mJ lo hi aS.toArray.size
 unfold slicePick
 rw [h1, h2, h3]
 simp only [sliceRange_one, pick_run, List.size_toArray] <;> rfl
def DM (K : PySem.W.Frag) : V -> Option Int -> Option Int -> Hp -> VK -> Prop := fun x lo hi H Q => ∃ a xs, x = .ref a /\ dA K H a xs /\ ∀ p, H p = none -> Q (.ref p) (upd H p (.lst (sr xs lo hi)))
theorem xj : IB X (DM X.K) := by
 intro pins s σ H x v vl vu lo hi sl Q I rx hs pl pu h
 obtain ⟨a, xs, rfl, hx, q⟩ := h
 cases rx
 obtain ⟨aS, r, ht, hz⟩ := I.list hx
 have hlen := r.length
 refine ⟨"list", _, slot_list_getitem.lookup, ht.isList.typeIs, ?_⟩
 refine wpAny_getItem_list_slice ht.isList hs pl pu .none (by simp) ?_ (by rw [List.size_toArray] <;> omega)
 rw [lS, <- hlen]
 refine ⟨.ref s.heap.objs.size, _, I.laid (t' := s.toks) (o := .lst (sr xs lo hi)) (fun b ob q => Heap.get?_push_of_some _ q) (Nat.le_refl _) ?_, rfl, q _ (I.aT.fresh (Nat.le_refl _))⟩
 exact ⟨Nat.le_trans (n9 xs lo hi) hz, _, 0, (r.drop (HT.oY xs.length 0 lo)).take (HT.oY xs.length xs.length hi - HT.oY xs.length 0 lo), Heap.get?_push_size _ rfl⟩
def iF : V -> Bool
 | .a0 => true
 | .bl _ => true
 | .int _ => true
 | .str _ => true
 | _ => false
def wq : V -> V -> Bool
 | .a0, .a0 => true
 | .bl a, .bl b => a == b
 | .bl a, .int b => (if a then 1 else 0) == b
 | .int a, .bl b => a == (if b then 1 else 0)
 | .int a, .int b => a == b
 | .str a, .str b => a == b
 | _, _ => false
theorem BD {A : Around} {s : Shared} {y x : V} {u v : Value} (ry : RelV y u) (rx : RelV x v) (fy : iF y = true) (fx : iF x = true) : SeqAt.EqAt A s u v (wq y x) := by
 cases y with
 | a0 =>
   cases ry
   cases x with
   | a0 => cases rx; exact SeqAt.EqAt.same _
   | bl b => cases rx; exact SeqAt.EqAt.none_bool b
   | int b => obtain ⟨t, rfl⟩ := rx; exact SeqAt.EqAt.none_int b t
   | str b => obtain ⟨t, rfl⟩ := rx; exact SeqAt.EqAt.none_str b t
   | _ => exact absurd (show false = true from fx) Bool.false_ne_true
 | bl a =>
   cases ry
   cases x with
   | a0 => cases rx; exact SeqAt.EqAt.bool_none a
   | bl b => cases rx; exact SeqAt.EqAt.bool_bool a b
   | int b => obtain ⟨t, rfl⟩ := rx; exact SeqAt.EqAt.bool_int a b t
   | str b => obtain ⟨t, rfl⟩ := rx; exact SeqAt.EqAt.bool_str a b t
   | _ => exact absurd (show false = true from fx) Bool.false_ne_true
 | int a =>
   obtain ⟨t', rfl⟩ := ry
   cases x with
   | a0 => cases rx; exact SeqAt.EqAt.int_none a t'
   | bl b => cases rx; exact SeqAt.EqAt.int_bool a t' b
   | int b => obtain ⟨t, rfl⟩ := rx; exact SeqAt.EqAt.int_int a t' b t
   | str b => obtain ⟨t, rfl⟩ := rx; exact SeqAt.EqAt.int_str a t' b t
   | _ => exact absurd (show false = true from fx) Bool.false_ne_true
 | str a =>
   obtain ⟨t', rfl⟩ := ry
   cases x with
   | a0 => cases rx; exact SeqAt.EqAt.str_none a t'
   | bl b => cases rx; exact SeqAt.EqAt.str_bool a t' b
   | int b => obtain ⟨t, rfl⟩ := rx; exact SeqAt.EqAt.str_int a t' b t
   | str b => obtain ⟨t, rfl⟩ := rx; exact SeqAt.EqAt.str_str a t' b t
   | _ => exact absurd (show false = true from fx) Bool.false_ne_true
 | _ => exact absurd (show false = true from fy) Bool.false_ne_true
def pS (x : V) (u : Value) : Bool := match u with
 | .none => wq .a0 x
 | .bool b => wq (.bl b) x
 | .int i _ => wq (.int i) x
 | .str z _ => wq (.str z) x
 | _ => false
theorem um {x y : V} {u : Value} (r : RelV y u) (f : iF y = true) : pS x u = wq y x := by
 cases y with
 | a0 => cases r; rfl
 | bl b => cases r; rfl
 | int i => obtain ⟨t, rfl⟩ := r; rfl
 | str z => obtain ⟨t, rfl⟩ := r; rfl
 | _ => exact absurd (show false = true from f) Bool.false_ne_true
theorem jn {x : V} : ∀ {xs : List V} {us : List Value}, Vals xs us -> xs.all iF = true -> us.any (pS x) = xs.any fun y => wq y x
 | _, _, .nil, _ => rfl
 | y :: xs, u :: us, .cons r t, f => by
   rw [List.all_cons, Bool.and_eq_true] at f
   rw [List.any_cons, List.any_cons, um r f.1, jn t f.2]
theorem gQ {A : Around} {s : Shared} {x : V} {v : Value} (rx : RelV x v) (fx : iF x = true) : ∀ {xs : List V} {us : List Value}, Vals xs us -> xs.all iF = true -> ∀ u ∈ us, SeqAt.EqAt A s u v (pS x u)
 | _, _, .nil, _ => fun u hu => by cases hu
 | y :: xs, u :: us, .cons r t, f => fun u' hu => by
   rw [List.all_cons, Bool.and_eq_true] at f
   rcases List.mem_cons.mp hu with rfl | hu
   . rw [um r f.1]; exact BD r rx f.1 fx
   . exact gQ rx fx t f.2 u' hu
def EI (x : V) (xs : List V) : Bool := xs.any fun y => wq y x
def BP (K : PySem.W.Frag) (neg : Bool) : R2 := fun x y H Q => ∃ p xs, y = .ref p /\ (dA K H p xs \/ qA K H p xs) /\ iF x = true /\ xs.all iF = true /\ Q (.bl (if neg then !EI x xs else EI x xs)) H
theorem rB : iT X (compareOp .In) (BP X.K false) := by
 intro pins s σ H x y v u Q I rx ry h
 obtain ⟨p, xs, rfl, hq, fx, fs, q⟩ := h
 cases ry
 rcases hq with hq | hq
 . obtain ⟨aS, r, pl, hz⟩ := I.list hq
   refine SeqAt.in_listAt (pS x) pl.isList (fun w hw => gQ rx fx r fs w (by simpa using hw)) ⟨.bl _, H, I, rfl, ?_⟩
   rw [show aS.toArray.any (pS x) = aS.any (pS x) by simp, jn r fs]
   exact q
 . obtain ⟨aS, r, pl, hz⟩ := I.tuple hq
   refine SeqAt.in_tupleAt (pS x) pl (fun w hw => gQ rx fx r fs w (by simpa using hw)) ⟨.bl _, H, I, rfl, ?_⟩
   rw [show aS.toArray.any (pS x) = aS.any (pS x) by simp, jn r fs]
   exact q
theorem fN : iT X (compareOp .NotIn) (BP X.K true) := by
 intro pins s σ H x y v u Q I rx ry h
 obtain ⟨p, xs, rfl, hq, fx, fs, q⟩ := h
 cases ry
 rcases hq with hq | hq
 . obtain ⟨aS, r, pl, hz⟩ := I.list hq
   refine SeqAt.notIn_listAt (pS x) pl.isList (fun w hw => gQ rx fx r fs w (by simpa using hw)) ⟨.bl _, H, I, rfl, ?_⟩
   rw [show aS.toArray.any (pS x) = aS.any (pS x) by simp, jn r fs]
   exact q
 . obtain ⟨aS, r, pl, hz⟩ := I.tuple hq
   refine SeqAt.notIn_tupleAt (pS x) pl (fun w hw => gQ rx fx r fs w (by simpa using hw)) ⟨.bl _, H, I, rfl, ?_⟩
   rw [show aS.toArray.any (pS x) = aS.any (pS x) by simp, jn r fs]
   exact q
theorem gv : j1 X (.builtin "len") (fun xs H Q => ∃ p ys, xs = [.ref p] /\ (dA X.K H p ys \/ qA X.K H p ys) /\ Q (.int ys.length) H) := by
 intro pins s σ H xs us Q I r h
 obtain ⟨p, ys, rfl, hq, q⟩ := h
 obtain ⟨u, rfl, rx⟩ := vals1 r
 cases rx
 have hn := jH
 rcases hq with hq | hq
 . obtain ⟨aS, r', pl, hz⟩ := I.list hq
   have hlen := r'.length
   exact Calls.call_len_list pl.isList (by simp only [List.size_toArray] <;> omega) ⟨.int ys.length, H, I.tok _, ⟨s.toks + 1, by rw [List.size_toArray, hlen]⟩, q⟩
 . obtain ⟨aS, r', pl, hz⟩ := I.tuple hq
   have hlen := r'.length
   exact len_tuple pl (by simp only [List.size_toArray] <;> omega) ⟨.int ys.length, H, I.tok _, ⟨s.toks + 1, by rw [List.size_toArray, hlen]⟩, q⟩
theorem mZ : j1 X (.builtin "len") (fun xs H Q => ∃ z, xs = [.str z] /\ z.length <= sizeLine /\ Q (.int z.length) H) := by
 intro pins s σ H xs us Q I r h
 obtain ⟨z, rfl, hz, q⟩ := h
 obtain ⟨u, rfl, t, rfl⟩ := vals1 r
 have hn := jH
 exact len_str (by omega) ⟨.int z.length, H, I.tok _, ⟨_, rfl⟩, q⟩
def DA (K : PySem.W.Frag) (T : String) (x : V) (H : Hp) : Prop := match x with
 | .str _ => T = "str"
 | .int _ => T = "int"
 | .ref p => (T = "list" /\ ∃ xs, dA K H p xs) \/ (T = "tuple" /\ ∃ o, K.lookup p = some o /\ o.cls = .type "tuple" /\ o.dict = none) \/
  (T = "dict" /\ ((∃ kvs, H p = some (.dK kvs)) \/ ∃ kvs, H p = some (.dT kvs))) \/ (T = "set" /\ ∃ S n, H p = some (.set S n))
 | _ => False
theorem zF {pins : List (Addr × Obj)} {σ : St} {H : Hp} {s : Shared} {T : String} {x : V} {v : Value} (I : Inv X pins σ H s) (r : RelV x v) (ty : DA X.K T x H) :
 s.TypeIs v T /\ ∀ a, v = .ref a -> ∃ ob, s.heap.get? a = some ob /\ ob.dict = none := by
 cases x with
 | str z =>
   obtain ⟨t, rfl⟩ := r
   cases (show T = "str" from ty)
   exact ⟨typeIs_str s z t, fun _ e => nomatch e⟩
 | int i =>
   obtain ⟨t, rfl⟩ := r
   cases (show T = "int" from ty)
   exact ⟨typeIs_int s i t, fun _ e => nomatch e⟩
 | ref p =>
   cases r
   rcases ty with ⟨rfl, xs, hq⟩ | ⟨rfl, o, hk, hc, hd⟩ | ⟨rfl, hk⟩ | ⟨rfl, S, n, hk⟩
   . obtain ⟨aS, _, pl, _⟩ := I.list hq
     refine ⟨pl.isList.typeIs, fun a e => ?_⟩
     cases e
     obtain ⟨o, n, e, c, hd, _⟩ := pl
     exact ⟨o, e, hd⟩
   . refine ⟨⟨o, I.kg p o hk, hc⟩, fun a e => ?_⟩
     cases e
     exact ⟨o, I.kg _ o hk, hd⟩
   . have z : ∃ o, s.heap.get? p = some o /\ o.ExactDict := by
      rcases hk with ⟨kvs, hk⟩ | ⟨kvs, hk⟩
      . obtain ⟨_, _, _, _, o, _, _, e, ex, _⟩ := I.aT p _ hk
        exact ⟨o, e, ex⟩
      . obtain ⟨_, _, _, _, o, _, _, e, ex, _⟩ := I.aT p _ hk
        exact ⟨o, e, ex⟩
     obtain ⟨o, e, ex⟩ := z
     refine ⟨⟨o, e, ex.1⟩, fun a e2 => ?_⟩
     cases e2
     exact ⟨o, e, ex.2.1⟩
   . obtain ⟨o, _, _, _, e, ex, _⟩ := I.aT p _ hk
     refine ⟨⟨o, e, ex.1⟩, fun a e2 => ?_⟩
     cases e2
     exact ⟨o, e, ex.2.1⟩
 | _ => exact False.elim ty
def Ie (K : PySem.W.Frag) (T : String) (r : V -> List V -> Hp -> VK -> Prop) (to : TE) (t : TA) : TE := fun σ H Q => to σ H fun x H1 => DA K T x H1 /\ t σ H1 fun xs H2 => r x xs H2 Q
variable {o e : Expr} {es : List Expr} {to : TE} {t : TA} {name : Str} {apos eg : Pos} {T id : String} {r : V -> List V -> Hp -> VK -> Prop}
theorem l0 (pa : PlainAttrs T) (slot : Slot T name id) (Kl : typeOf (.builtin id) = pure (.type "method_descriptor")) (hm : Kr X id r) (ho : PE X o to) (ha : PA X (e :: es) t)
 (Dz : attributeBase o name X.env (eval o X.env) = eval o X.env := by rfl)
 (GB : ((backTo eg (starEach (e :: es) X.env)).all (fun x => !x.1) && (backToKw eg (keywordEach [] X.env)).all (fun x => x.1.isSome)
  && decide ((e :: es).length + ([] : List Keyword).length + (if ([] : List Keyword).isEmpty then 0 else 1) < 30)) = true := by rfl)
 (hline : (apos.endLine == eg.line) = true := by rfl) (hs : starEach (e :: es) X.env = (false, eval e X.env) :: starEach es X.env := by rfl) (Al : (backTo eg (starEach es X.env)).any (·.1) = false := by rfl) :
 PE X (.Call (.Attribute o name apos) (e :: es) [] eg) (Ie X.K T r to t) := by
 intro pins s σ H Q I h
 refine wpAny_Call_method_late Dz GB hline rfl (cj (ho pins s σ H _ I h) fun v s1 ⟨x, H1, I1, r1, ty, q1⟩ => ?_)
 obtain ⟨h1, h2⟩ := zF I1 r1 ty
 refine ⟨T, id, pa, slot, Kl, h1, h2, ?_⟩
 have hA := ha eg pins s1 σ H1 _ I1 q1
 rw [hs] at hA ⊢
 refine Calls.callWith_builtin (by show (false || (backTo eg (starEach es X.env)).any (·.1)) = false; rw [Al] <;> rfl) (Calls.evalArgs_plain ?_)
 exact cj hA fun us s2 ⟨vs, H2, I2, r2, q2⟩ => hm pins s2 σ H2 x vs v us Q I2 r1 r2 q2
end
def Ii (X : Cx) (id : String) (r : V -> List V -> Hp -> VK -> Prop) : Prop :=
 ∀ (pins : List (Addr × Obj)) (s : Shared) (σ : St) (H : Hp) (x : V) (xs : List V) (v : Value) (us : List Value) (Q : VK), Inv X pins σ H s -> RelV x v -> Vals xs us -> r x xs H Q ->
   wpAny (model X.prog X.w) X.A (call (.builtin id) (v :: us)) (EP X pins σ Q) X.xe s
theorem Vals.one : ∀ {x : V} {us : List Value}, Vals [x] us -> ∃ u, us = [u] /\ RelV x u
 | _, _, .cons r .nil => ⟨_, rfl, r⟩
section
variable {X : Cx} {pins : List (Addr × Obj)} {σ : St} {H : Hp} {s : Shared} {l b : Addr} {xs ys zs : List V}
theorem Inv.F5 {aS its' : List Value} {n : Nat} {f : Array Value -> Array Value} {t' : Nat} (I : Inv X pins σ H s) (hH : H l = some (.lst xs))
 (e : s.heap.get? l = some { cls := .type "list", data := .seq aS.toArray n }) (hf : f aS.toArray = its'.toArray) (hv : Vals ys its') (hz : ys.length <= sizeLine) :
 Inv X pins σ (upd H l (.lst ys)) { s with heap := s.heap.update l (Obj.mapSeq f), toks := t' } := by
 have q := PySem.IsL.update e f
 rw [hf] at q
 refine I.write (x := l) (e := l) (by rw [hH]; exact trivial) (.inl rfl) (fun b' u hb hu => (Heap.get?_update_other s.heap (Obj.mapSeq f) (Ne.symm hb)).trans hu) ⟨_, q⟩ ?_
 exact ⟨hz, its', _, hv, q⟩
theorem Inv.GP (I : Inv X pins σ H s) (hH : H l = some (.lst xs)) : xs.length <= sizeLine /\ ∃ (aS : List Value) (n : Nat), Vals xs aS /\ xs.length = aS.length /\ s.heap.get? l = some { cls := .type "list", data := .seq aS.toArray n } := by
 obtain ⟨z, aS, n, r, e⟩ := I.aT l _ hH
 exact ⟨z, aS, n, r, r.length, e⟩
end
section
variable {X : Cx}
def qi : V -> List V -> Hp -> VK -> Prop := fun x vs H Q => ∃ l xs y, x = .ref l /\ vs = [y] /\ H l = some (.lst xs) /\ xs.length < sizeLine /\ Q .a0 (upd H l (.lst (xs ++ [y])))
theorem ie : Ii X "list.append" qi := by
 intro pins s σ H x vs v us Q I rx rv h
 obtain ⟨l, xs, y, rfl, rfl, hH, hz, q⟩ := h
 cases rx
 obtain ⟨u, rfl, ru⟩ := rv.one
 obtain ⟨z, aS, n, r, hl, e⟩ := I.GP hH
 refine call_meets F.slot_list_append ⟨_, e, rfl⟩ F.entry_list_append (F.args_list_append_2 _ _) (PySem.list_append l aS.toArray n u (by rw [List.size_toArray]; omega)) ⟨e, ?_⟩
 refine ⟨.a0, _, I.F5 (its' := aS ++ [u]) hH e (by simp) (r.append (.cons ru .nil)) ?_, rfl, q⟩
 rw [List.length_append, List.length_singleton]
 omega
end
section
variable {prog : Program} {w : World} {A : Around} {E : Value -> Shared -> Prop} {s : Shared}
set_option maxRecDepth 100000 in
end
section
variable {X : Cx}
end
section
variable {κ : Type} [DecidableEq κ]
def iL (kvs : List (κ × V)) (k : κ) : Option V := (kvs.find? fun kv => decide (kv.1 = k)).map (·.2)
def putK (kvs : List (κ × V)) (k : κ) (v : V) : List (κ × V) :=
 if (kvs.any fun kv => decide (kv.1 = k)) = true then kvs.map (fun kv => if kv.1 = k then (kv.1, v) else kv) else kvs ++ [(k, v)]
def jz (kvs : List (κ × V)) (k : κ) : List (κ × V) := kvs.filter fun kv => decide (kv.1 ≠ k)
theorem ju {p : κ × V} {r : List (κ × V)} {k : κ} (e : p.1 = k) : iL (p :: r) k = some p.2 := by simp [iL, List.find?_cons, e]
theorem gR {p : κ × V} {r : List (κ × V)} {k : κ} (e : ¬ p.1 = k) : iL (p :: r) k = iL r k := by simp [iL, List.find?_cons, e]
theorem oI (k : κ) : ∀ kvs : List (κ × V), (kvs.any fun kv => decide (kv.1 = k)) = (iL kvs k).isSome
 | [] => rfl
 | p :: r => by
   rw [List.any_cons]
   by_cases e : p.1 = k
   . simp only [ju e, decide_eq_true e, Bool.true_or, Option.isSome_some]
   . rw [gR e, decide_eq_false e, Bool.false_or]; exact oI k r
theorem j2 (kvs : List (κ × V)) (k : κ) (v : V) : (putK kvs k v).length <= kvs.length + 1 := by
 unfold putK
 split
 . rw [List.length_map]; omega
 . rw [List.length_append, List.length_cons, List.length_nil]; omega
theorem hU.fD {o : Option V} {u : Option Value} (r : hU o u) : o.isSome = u.isSome := by
 cases o with
 | none => cases u with
   | none => rfl
   | some _ => exact (show False from r).elim
 | some _ => cases u with
   | none => exact (show False from r).elim
   | some _ => rfl
theorem KV.val {kvs : List (κ × V)} {vs : List (κ × Value)} (r : KV kvs vs) (k : κ) : hU (iL kvs k) (valueAt vs k) := by
 unfold KV at r
 induction r with
 | nil => exact True.intro
 | @cons p q ps qs h t ih =>
   obtain ⟨h1, h2⟩ := h
   by_cases e : p.1 = k
   . have e' : q.1 = k := h1.symm.trans e
     have b : valueAt (q :: qs) k = some q.2 := by simp [valueAt, List.find?_cons, e']
     rw [ju e, b]; exact h2
   . have e' : ¬ q.1 = k := fun z => e (h1.trans z)
     have b : valueAt (q :: qs) k = valueAt qs k := by simp [valueAt, List.find?_cons, e']
     rw [gR e, b]; exact ih
theorem KV.any {kvs : List (κ × V)} {vs : List (κ × Value)} (r : KV kvs vs) (k : κ) : (kvs.any fun kv => decide (kv.1 = k)) = vs.any fun kv => decide (kv.1 = k) := by
 unfold KV at r
 induction r with
 | nil => rfl
 | cons h t ih => rw [List.any_cons, List.any_cons, ih, h.1]
theorem KV.repl {kvs : List (κ × V)} {vs : List (κ × Value)} (r : KV kvs vs) (k : κ) {y : V} {u : Value} (ry : RelV y u) :
 KV (kvs.map fun kv => if kv.1 = k then (kv.1, y) else kv) (vs.map fun kv => if kv.1 = k then (kv.1, u) else kv) := by
 unfold KV at r ⊢
 induction r with
 | nil => exact .nil
 | @cons p q ps qs h t ih =>
   rw [List.map_cons, List.map_cons]
   refine .cons ?_ ih
   obtain ⟨h1, h2⟩ := h
   by_cases e : p.1 = k
   . rw [if_pos e, if_pos (h1.symm.trans e)]; exact ⟨h1, ry⟩
   . rw [if_neg e, if_neg (fun z => e (h1.trans z))]; exact ⟨h1, h2⟩
theorem KV.put {kvs : List (κ × V)} {vs : List (κ × Value)} (r : KV kvs vs) (k : κ) {y : V} {u : Value} (ry : RelV y u) : KV (putK kvs k y) (stored vs k u) := by
 unfold putK stored
 rw [r.any k]
 by_cases e : (vs.any fun kv => decide (kv.1 = k)) = true
 . rw [if_pos e, if_pos e]; exact r.repl k ry
 . rw [if_neg e, if_neg e]; exact Paired.snoc r ⟨rfl, ry⟩
theorem KV.drop {kvs : List (κ × V)} {vs : List (κ × Value)} (r : KV kvs vs) (k : κ) : KV (jz kvs k) (without vs k) := by
 unfold KV at r ⊢
 unfold jz without
 induction r with
 | nil => exact .nil
 | @cons p q ps qs h t ih =>
   obtain ⟨h1, h2⟩ := h
   rw [List.filter_cons, List.filter_cons]
   by_cases e : p.1 = k
   . have a : ¬ decide (p.1 ≠ k) = true := by simp [e]
     have b : ¬ decide (q.1 ≠ k) = true := by simp [h1.symm.trans e]
     rw [if_neg a, if_neg b]; exact ih
   . have e' : ¬ q.1 = k := fun z => e (h1.trans z)
     have a : decide (p.1 ≠ k) = true := by simp [e]
     have b : decide (q.1 ≠ k) = true := by simp [e']
     rw [if_pos a, if_pos b]; exact .cons ⟨h1, h2⟩ ih
theorem KV.length {kvs : List (κ × V)} {vs : List (κ × Value)} (r : KV kvs vs) : kvs.length = vs.length := Paired.length r
theorem tR (kvs : List (κ × V)) (k : κ) : (jz kvs k).length <= kvs.length := List.length_filter_le _ _
end
theorem mz {P : Program} {w : World} {k : Key} {u : Value} (r : RelV (kV k) u) : (aV P w).is k u = true := by
 cases k with
 | inl i => obtain ⟨t, e⟩ := (show ∃ t, u = Value.int i t from r); subst e; exact oK P w i t
 | inr x => obtain ⟨t, e⟩ := (show ∃ t, u = Value.str x t from r); subst e; exact oS P w x t
theorem lV {P : Program} {w : World} : ∀ {ks : List Key} {us : List Value}, Vals (ks.map kV) us -> ItemsAre (aV P w) ks us
 | [], _, r => by rw [List.map_nil] at r; cases r; exact .nil
 | k :: ks, _, r => by
   rw [List.map_cons] at r
   cases r with
   | cons h t => exact .cons (mz h) (lV t)
abbrev KT (H : Hp) : List (List Key × V) -> List (List Key × Addr × Value) -> Prop := Paired fun p q => p.1 = q.1 /\ H q.2.1 = some (.tup (p.1.map kV)) /\ RelV p.2 q.2.2
theorem KT.val {H : Hp} {kvs : List (List Key × V)} {xs : List (List Key × Addr × Value)} (r : KT H kvs xs) (k : List Key) : hU (iL kvs k) ((atKey xs k).map (·.2)) := by
 induction r with
 | nil => exact True.intro
 | @cons p q ps qs h t ih =>
   obtain ⟨h1, _, h2⟩ := h
   by_cases e : p.1 = k
   . have e' : q.1 = k := h1.symm.trans e
     have b : atKey (q :: qs) k = some q.2 := by simp [atKey, List.find?_cons, e']
     rw [ju e, b]; exact h2
   . have e' : ¬ q.1 = k := fun z => e (h1.trans z)
     have b : atKey (q :: qs) k = atKey qs k := by simp [atKey, List.find?_cons, e']
     rw [gR e, b]; exact ih
theorem KT.repl {H : Hp} {kvs : List (List Key × V)} {xs : List (List Key × Addr × Value)} (r : KT H kvs xs) (k : List Key) {y : V} {u : Value} (ry : RelV y u) :
 KT H (kvs.map fun kv => if kv.1 = k then (kv.1, y) else kv) (xs.map (putAt k u)) := by
 induction r with
 | nil => exact .nil
 | @cons p q ps qs h t ih =>
   rw [List.map_cons, List.map_cons]
   refine .cons ?_ ih
   obtain ⟨h1, h2, h3⟩ := h
   unfold putAt
   by_cases e : p.1 = k
   . rw [if_pos e, if_pos (h1.symm.trans e)]; exact ⟨h1, h2, ry⟩
   . rw [if_neg e, if_neg (fun z => e (h1.trans z))]; exact ⟨h1, h2, h3⟩
theorem KT.put {H : Hp} {kvs : List (List Key × V)} {xs : List (List Key × Addr × Value)} (r : KT H kvs xs) (k : List Key) {b : Addr} {y : V} {u : Value} (hb : H b = some (.tup (k.map kV))) (ry : RelV y u) :
 KT H (putK kvs k y) (storedH xs k b u) := by
 have e : (kvs.any fun kv => decide (kv.1 = k)) = (atKey xs k).isSome := by
  rw [oI, (r.val k).fD, Option.isSome_map]
 unfold putK storedH
 rw [e]
 by_cases q : (atKey xs k).isSome = true
 . rw [if_pos q, if_pos q]; exact r.repl k ry
 . rw [if_neg q, if_neg q]; exact Paired.snoc r ⟨rfl, hb, ry⟩
theorem KT.keeps {H H' : Hp} {kvs : List (List Key × V)} {xs : List (List Key × Addr × Value)} (r : KT H kvs xs) (ht : ∀ b ys, H b = some (.tup ys) -> H' b = some (.tup ys)) : KT H' kvs xs :=
 Paired.Bl r fun _ _ z => ⟨z.1, ht _ _ z.2.1, z.2.2⟩
section
variable {P : Program} {w : World} {H : Hp} {h : Heap} {a : Addr}
theorem yH {u : HO} (ok : gf P w H h) (e : Rd H a u) : bH P w H h a u := e.ok ok
theorem oE {kvs : List (Key × V)} (ok : gf P w H h) (e : Rd H a (.dK kvs)) : kvs.length <= sizeLine /\ (a == sysModules) = false /\ ∃ vs, KV kvs vs /\ h.DictOf (aV P w) a vs :=
 show bH P w H h a (.dK kvs) from yH ok e
theorem yi {kvs : List (Key × V)} (ok : gf P w H h) (e : H a = some (.dK kvs)) : kvs.length <= sizeLine /\ (a == sysModules) = false /\ ∃ vs, KV kvs vs /\ h.DictOf (aV P w) a vs := oE ok (.inl e)
theorem kI {ks : List Key} (ok : gf P w H h) (e : H a = some (.tup (ks.map kV))) : (tupleKind (aV P w)).is h ks a := by
 obtain ⟨_, aS, r, o, h1, h2, n, h3⟩ := (show bH P w H h a (.tup (ks.map kV)) from ok a _ e)
 exact ⟨o, aS.toArray, n, h1, h2, h3, by simpa using lV r⟩
theorem oC {kvs : List (List Key × V)} (ok : gf P w H h) (e : Rd H a (.dT kvs)) : kvs.length <= sizeLine /\ (a == sysModules) = false /\
 ∃ xs, KT H kvs xs /\ h.DictOfH (tupleKind (aV P w)) a xs := by
 obtain ⟨z, y, xs, r, o, es, ep, h1, h2, h3, h4, h5⟩ := (show bH P w H h a (.dT kvs) from yH ok e)
 refine ⟨z, y, xs, r, o, es, ep, h1, h2, h3, h4, fun x hx => ?_, h5⟩
 have all : ∀ {l : List (List Key × V)} {m : List (List Key × Addr × Value)}, KT H l m -> ∀ x ∈ m, (tupleKind (aV P w)).is h x.1 x.2.1 := by
  intro l m q
  induction q with
  | nil => intro x hx; exact nomatch hx
  | @cons p q ps qs hq t ih =>
    intro x hx
    rcases List.mem_cons.mp hx with e | hx
    . subst e
      exact kI ok (by rw [<- hq.1]; exact hq.2.1)
    . exact ih x hx
 exact all r x hx
theorem CW {kvs : List (List Key × V)} (ok : gf P w H h) (e : H a = some (.dT kvs)) : kvs.length <= sizeLine /\ (a == sysModules) = false /\
 ∃ xs, KT H kvs xs /\ h.DictOfH (tupleKind (aV P w)) a xs := oC ok (.inl e)
end
def ka (H : Hp) (a : Addr) (y : V) (r : Option V) : Prop :=
 (∃ kvs k, Rd H a (.dK kvs) /\ y = kV k /\ r = iL kvs k) \/ ∃ kvs k b, Rd H a (.dT kvs) /\ y = .ref b /\ H b = some (.tup (k.map kV)) /\ r = iL kvs k
def o9 (H : Hp) (a : Addr) (y v : V) (H' : Hp) : Prop :=
 (∃ kvs k, H a = some (.dK kvs) /\ y = kV k /\ kvs.length < sizeLine /\ H' = upd H a (.dK (putK kvs k v))) \/
 ∃ kvs k b, H a = some (.dT kvs) /\ y = .ref b /\ H b = some (.tup (k.map kV)) /\ kvs.length < sizeLine /\ H' = upd H a (.dT (putK kvs k v))
theorem o9.k {H : Hp} {a : Addr} {kvs : List (Key × V)} {k : Key} {v : V} (e : H a = some (.dK kvs)) (hl : kvs.length < sizeLine) : o9 H a (kV k) v (upd H a (.dK (putK kvs k v))) := .inl ⟨kvs, k, e, rfl, hl, rfl⟩
section
variable {X : Cx} {pins : List (Addr × Obj)} {σ : St} {H : Hp} {s : Shared} {a : Addr} {y v : V} {u r : Value} {o : Option V} {A : Around} {E : Value -> Shared -> Prop}
theorem Inv.big (I : Inv X pins σ H s) : sysModules < s.heap.objs.size := by
 have h : mainGlobals < s.heap.objs.size := (I.mod.glob.keeps I.bk).lt
 exact Nat.lt_trans (by decide) h
theorem rM {Q : Value -> Shared -> Prop} (hu : A.units + 1 < cLine) (I : Inv X pins σ H s) (g : ka H a y (some v)) (ry : RelV y u) (h : ∀ w' s', Inv X pins σ H s' -> RelV v w' -> Q w' s') :
 wpAny (model X.prog X.w) A (getItem (.ref a) u) Q E s := by
 rcases g with ⟨kvs, k, e, ey, l⟩ | ⟨kvs, k, b, e, ey, eb, l⟩
 . subst ey
   obtain ⟨z, hd, vs, rel, dd⟩ := oE I.aT e
   obtain ⟨w', hw, va⟩ := hU.some_of (v := v) (o := valueAt vs k) (by rw [l]; exact rel.val k)
   exact wpAny_getItem_of (mz ry) dd.mapOf hw (h w' _ (I.tok _) va)
 . subst ey
   cases (show u = Value.ref b from ry)
   obtain ⟨z, hd, xs, rel, dd⟩ := oC I.aT e
   obtain ⟨w', hw, va⟩ := hU.some_of (v := v) (o := (atKey xs k).map (·.2)) (by rw [l]; exact rel.val k)
   obtain ⟨p, hp, sU⟩ := Option.map_eq_some_iff.mp hw
   refine wpAny_getItem_heap (tupleKind_room_in1 hu) (kI I.aT eb) dd hp ?_
   rw [sU]
   exact h w' _ (I.tok _) va
theorem Hh {Q : Value -> Shared -> Prop} (hu : A.units + 1 < cLine) (I : Inv X pins σ H s) (g : ka H a y o) (ry : RelV y u) (h : ∀ s', Inv X pins σ H s' -> Q (.bool o.isSome) s') :
 wpAny (model X.prog X.w) A (compareOp .In u (.ref a)) Q E s := by
 rcases g with ⟨kvs, k, e, ey, l⟩ | ⟨kvs, k, b, e, ey, eb, l⟩
 . subst ey
   obtain ⟨z, hd, vs, rel, dd⟩ := oE I.aT e
   refine wpAny_in_of (mz ry) hd dd.mapOf ?_
   rw [<- (rel.val k).fD, <- l]
   exact h _ (I.tok _)
 . subst ey
   cases (show u = Value.ref b from ry)
   obtain ⟨z, hd, xs, rel, dd⟩ := oC I.aT e
   refine wpAny_in_heap (tupleKind_room_in1 hu) (kI I.aT eb) hd dd ?_
   have q := (rel.val k).fD
   rw [Option.isSome_map] at q
   rw [<- q, <- l]
   exact h _ (I.tok _)
theorem wN {Q : Value -> Shared -> Prop} (hu : A.units + 1 < cLine) (I : Inv X pins σ H s) (g : ka H a y o) (ry : RelV y u) (h : ∀ s', Inv X pins σ H s' -> Q (.bool (!o.isSome)) s') :
 wpAny (model X.prog X.w) A (compareOp .NotIn u (.ref a)) Q E s := by
 rcases g with ⟨kvs, k, e, ey, l⟩ | ⟨kvs, k, b, e, ey, eb, l⟩
 . subst ey
   obtain ⟨z, hd, vs, rel, dd⟩ := oE I.aT e
   refine wpAny_notIn_of (mz ry) hd dd.mapOf ?_
   rw [<- (rel.val k).fD, <- l]
   exact h _ (I.tok _)
 . subst ey
   cases (show u = Value.ref b from ry)
   obtain ⟨z, hd, xs, rel, dd⟩ := oC I.aT e
   refine wpAny_notIn_heap (tupleKind_room_in1 hu) (kI I.aT eb) hd dd ?_
   have q := (rel.val k).fD
   rw [Option.isSome_map] at q
   rw [<- q, <- l]
   exact h _ (I.tok _)
theorem m5 {h' : Heap} {t' : Nat} {ob : HO} (I : Inv X pins σ H s) (mu : Df (H a)) (hs : Heap.SameBut a s.heap h') (he : ∃ q, h'.get? a = some q) (new : bH X.prog X.w (upd H a ob) h' a ob) :
 Inv X pins σ (upd H a ob) { s with heap := h', toks := t' } :=
 I.write (x := a) (e := a) mu (.inl rfl) (fun b q hb z => (hs.2 b hb).trans z) he new
theorem ti {P : Program} {w : World} {H' : Hp} {h' : Heap} {kvs : List (Key × V)} {vs : List (Key × Value)} (z : kvs.length <= sizeLine) (hd : (a == sysModules) = false) (rel : KV kvs vs) (dd : h'.DictOf (aV P w) a vs) :
 bH P w H' h' a (.dK kvs) := ⟨z, hd, vs, rel, dd⟩
theorem sx {H' : Hp} {Q : Unit -> Shared -> Prop} (hu : A.units + 1 < cLine) (I : Inv X pins σ H s) (g : o9 H a y v H') (ry : RelV y u) (rv : RelV v r) (h : ∀ s', Inv X pins σ H' s' -> Q () s') :
 wpAny (model X.prog X.w) A (setItem (.ref a) u r) Q E s := by
 rcases g with ⟨kvs, k, e, ey, l, eH⟩ | ⟨kvs, k, b, e, ey, eb, l, eH⟩
 . subst ey eH
   obtain ⟨z, hd, vs, rel, dd⟩ := yi I.aT e
   have hz : vs.length <= sizeLine := by rw [<- rel.length]; exact z
   have hl : (putK kvs k v).length <= sizeLine := by have := j2 kvs k v; omega
   refine wpAny_setItem_pairs (hsz := hz) (mz ry) dd fun h' Av hs => h _ ?_
   have he : ∃ q, h'.get? a = some q := let ⟨q, _, _, hq, _⟩ := Av; ⟨q, hq⟩
   exact m5 I (by rw [e]; exact True.intro) hs he (ti hl hd (rel.put k rv) Av)
 . subst ey eH
   cases (show u = Value.ref b from ry)
   obtain ⟨z, hd, xs, rel, dd⟩ := CW I.aT e
   have hz : xs.length <= sizeLine := by rw [<- Paired.length rel]; exact z
   have hl : (putK kvs k v).length <= sizeLine := by have := j2 kvs k v; omega
   refine wpAny_setItem_heap (hsz := hz) (tupleKind_room_in1 hu) (kI I.aT eb) dd fun h' Av hs => h _ ?_
   obtain ⟨q, es, ep, hq, h2, h3, h4, _, h5⟩ := Av
   refine m5 I (by rw [e]; exact True.intro) hs ⟨q, hq⟩ ⟨hl, hd, _, (rel.put k eb rv).keeps fun c ys ec => ?_, q, es, ep, hq, h2, h3, h4, h5⟩
   rw [ak (d9 ec e (fun z => nomatch z))]
   exact ec
end
section
variable {X : Cx} {pins : List (Addr × Obj)} {σ : St} {H : Hp} {s : Shared} {a : Addr} {kvs : List (Key × V)} {k : Key} {u : Value} {A : Around} {E : Value -> Shared -> Prop}
theorem Ci {v : V} {more : List Value} {Q : Value -> Shared -> Prop} (I : Inv X pins σ H s) (e : H a = some (.dK kvs)) (ry : RelV (kV k) u) (l : iL kvs k = some v) (hm : more = [] \/ ∃ x, more = [x])
 (h : ∀ w' s', Inv X pins σ (upd H a (.dK (jz kvs k))) s' -> RelV v w' -> Q w' s') : wpAny (model X.prog X.w) A (call (.builtin "dict.pop") (.ref a :: u :: more)) Q E s := by
 obtain ⟨z, hd, vs, rel, dd⟩ := yi I.aT e
 obtain ⟨w', hw, va⟩ := hU.some_of (v := v) (o := valueAt vs k) (by rw [<- l]; exact rel.val k)
 have hp : (keyPart u).isSome = true := by
  cases k with
  | inl i => obtain ⟨t, q⟩ := (show ∃ t, u = Value.int i t from ry); subst q; rfl
  | inr x => obtain ⟨t, q⟩ := (show ∃ t, u = Value.str x t from ry); subst q; rfl
 have ha : argsOk "dict.pop" ⟨.ref a :: u :: more, []⟩ := by
  rcases hm with q | ⟨x, q⟩
  . subst q; exact PySem.F.args_dict_pop_2 _ _
  . subst q; exact PySem.F.args_dict_pop_3 _ _ _
 refine call_meetsIn PySem.F.slot_dict_pop dd.typeIs PySem.F.entry_dict_pop ha (meets_dict_pop_there (aV X.prog X.w) a (mz ry) more hm hp)
  ⟨vs, w', dd, by rw [<- rel.length]; exact z, hw, fun h' Av hs => h w' _ ?_ va⟩
 have he : ∃ q, h'.get? a = some q := let ⟨q, _, _, hq, _⟩ := Av; ⟨q, hq⟩
 exact m5 I (by rw [e]; exact True.intro) hs he (ti (Nat.le_trans (tR kvs k) z) hd (rel.drop k) Av)
end
def CJ (i : Expr) : Prop := ∀ ov iv, subscripted i false ov iv = operate [ov, iv] (getItem ov iv)
theorem wz {prog : Program} {w : World} {A : Around} {E : Value -> Shared -> Prop} {s : Shared} {env : Env} {value slice : Expr} {pos : Pos} {T id : String} {Q : Value -> Shared -> Prop}
 (hl : typeLookup (.type T) "__getitem__" = pure (some (.builtin id))) (hs : CJ slice)
 (h : wpAny (model prog w) A (eval value env) (fun o s₁ => wpAny (model prog w) A (eval slice env) (fun i s₂ => s₂.TypeIs o T /\ wpAny (model prog w) A (getItem o i) Q E s₂) E s₁) E s) :
 wpAny (model prog w) A (eval (.Subscript value slice pos) env) Q E s := by
 refine Subscript_ (wpAny_mono h (fun o s₁ h₁ => wpAny_mono h₁ (fun i s₂ h₂ => ?_) fun _ _ x => x) fun _ _ x => x)
 obtain ⟨hT, h₂⟩ := h₂
 unfold subscriptTail
 refine wpAny_bind ?_
 rw [getitemInPython_of_ne hT.not_modules]
 refine wpAny_bind (wpAny_specialOf hT hl ?_)
 have fin : wpAny (model prog w) A (subscripted slice false o i) (fun r s₃ => wpAny (model prog w) A (letTemporaryGo value o r >>= fun _ => pure r) Q E s₃) E s₂ := by
  rw [hs o i]
  exact wpAny_operating (wpAny_mono h₂ (fun r s₃ h₃ => wpAny_bind (wpAny_letTemporaryGo (wpAny_pure h₃))) fun _ _ x => x)
 first
  | exact wpAny_pure (wpAny_bind fin)
  | exact wpAny_bind (wpAny_pure (wpAny_bind fin))
  | exact wpAny_bind fin
theorem om {X : Cx} {pins : List (Addr × Obj)} {σ : St} {H : Hp} {s : Shared} {a : Addr} {y : V} {o : Option V} (I : Inv X pins σ H s) (g : ka H a y o) : s.TypeIs (.ref a) "dict" := by
 rcases g with ⟨kvs, k, e, _, _⟩ | ⟨kvs, k, b, e, _, _, _⟩
 . obtain ⟨_, _, vs, _, dd⟩ := oE I.aT e
   exact dd.typeIs
 . obtain ⟨_, _, xs, _, dd⟩ := oC I.aT e
   exact dd.typeIs
def yq (td ty : TE) : TE := fun σ H Q => td σ H fun x H1 => ty σ H1 fun y H2 => ∃ a v, x = .ref a /\ ka H2 a y (some v) /\ Q v H2
def CD (ty td : TE) : TE := fun σ H Q => ty σ H fun y H1 => td σ H1 fun x H2 => ∃ a o, x = .ref a /\ ka H2 a y o /\ Q (.bl o.isSome) H2
def qY (ty td : TE) : TE := fun σ H Q => ty σ H fun y H1 => td σ H1 fun x H2 => ∃ a o, x = .ref a /\ ka H2 a y o /\ Q (.bl (!o.isSome)) H2
def yA (td ty tv : TE) : TS := fun D σ H => tv σ H fun v H1 => td σ H1 fun x H2 => ty σ H2 fun y H3 => ∃ a H4, x = .ref a /\ o9 H3 a y v H4 /\ D.nx σ H4
section
variable {X : Cx} {o i e value : Expr} {pos pos' Au : Pos} {td ty tv : TE}
theorem wu (hu : X.A.units + 1 < cLine) (ho : PE X o td) (hi : PE X i ty) (hs : CJ i) : PE X (.Subscript o i pos) (yq td ty) := by
 intro pins s σ H Q I h
 refine wz PySem.F.slot_dict_getitem.lookup hs (cj (ho pins s σ H _ I h) fun u s1 ⟨x, H1, I1, rx, q1⟩ => cj (hi pins s1 σ H1 _ I1 q1) fun iv s2 ⟨y, H2, I2, ry, a, v, ex, g, q2⟩ => ?_)
 subst ex
 obtain rfl : u = Value.ref a := rx
 exact ⟨om I2 g, rM hu I2 g ry fun w' s3 I3 va => ⟨v, H2, I3, va, q2⟩⟩
theorem pF (hu : X.A.units + 1 < cLine) (hi : PE X i ty) (ho : PE X o td) : PC X .In i o (CD ty td) := by
 intro pins s σ H Q I h
 refine cj (hi pins s σ H _ I h) fun iv s1 ⟨y, H1, I1, ry, q1⟩ => cj (ho pins s1 σ H1 _ I1 q1) fun u s2 ⟨x, H2, I2, rx, a, ov, ex, g, q2⟩ => ?_
 subst ex
 obtain rfl : u = Value.ref a := rx
 exact Hh hu I2 g ry fun s3 I3 => ⟨.bl ov.isSome, H2, I3, rfl, q2⟩
theorem rZ (hu : X.A.units + 1 < cLine) (hi : PE X i ty) (ho : PE X o td) : PC X .NotIn i o (qY ty td) := by
 intro pins s σ H Q I h
 refine cj (hi pins s σ H _ I h) fun iv s1 ⟨y, H1, I1, ry, q1⟩ => cj (ho pins s1 σ H1 _ I1 q1) fun u s2 ⟨x, H2, I2, rx, a, ov, ex, g, q2⟩ => ?_
 subst ex
 obtain rfl : u = Value.ref a := rx
 exact wN hu I2 g ry fun s3 I3 => ⟨.bl (!ov.isSome), H2, I3, rfl, q2⟩
theorem ro (hu : X.A.units + 1 < cLine) (ho : PE X o td) (hi : PE X i ty) (hv : PE X value tv) (hs : swapsWith value (some (.Subscript o i pos')) pos.line X.env = pure false) :
 PS X (.Assign [.Subscript o i pos'] value pos) (yA td ty tv) := by
 intro pins s σ H D I h
 refine wpAny_Assign_Subscript (cj (hv pins s σ H _ I h) fun r s1 ⟨v, H1, I1, rv, q1⟩ => cj (ho pins s1 σ H1 _ I1 q1) fun u s2 ⟨x, H2, I2, rx, q2⟩ => cj (hi pins s2 σ H2 _ I2 q2) fun iv s3 ⟨y, H3, I3, ry, a, H4, ex, g, q3⟩ => ?_) hs
 subst ex
 obtain rfl : u = Value.ref a := rx
 exact sx hu I3 g ry rv fun s4 I4 => ⟨σ, H4, I4, q3⟩
end
theorem vI {P : Program} {w : World} {H : Hp} (h : Heap) (hb : sysModules < h.objs.size) : bH P w H (h.push { cls := .type "dict", data := .dict #[] }) h.objs.size (.dK []) :=
 ⟨Nat.zero_le _, beq_eq_false_iff_ne.mpr (Ne.symm (Nat.ne_of_lt hb)), [], .nil, Heap.DictOf.new h⟩
def u5 : TE := fun _ H Q => ∀ p, H p = none -> Q (.ref p) (upd H p (.dK []))
section
variable {X : Cx} {pos : Pos}
theorem nT : PE X (.Dict [] [] pos) u5 := fun pins s σ H Q I h =>
 wpAny_Dict_empty ⟨.ref s.heap.objs.size, _, I.laid (a := s.heap.objs.size) (o := .dK []) (t' := s.toks) (fun _ _ q => Heap.get?_push_of_some _ q) (Nat.le_refl _) (vI s.heap I.big), rfl, h _ (I.aT.fresh (Nat.le_refl _))⟩
end
structure M1 (X : Cx) (o : Expr) (m : Str) (apos : Pos) (e : Expr) (eg : Pos) : Prop where
 base : attributeBase o m X.env (eval o X.env) = eval o X.env
 few : ((backTo eg (starEach [e] X.env)).all (fun x => !x.1) && (backToKw eg (keywordEach [] X.env)).all (fun x => x.1.isSome)
  && decide (([e] : List Expr).length + ([] : List Keyword).length + (if ([] : List Keyword).isEmpty then 0 else 1) < 30)) = true
 line : (apos.endLine == eg.line) = true
 trees : backTo eg (starEach [e] X.env) = [(false, eval e X.env)]
structure M2 (X : Cx) (o : Expr) (m : Str) (apos : Pos) (e f : Expr) (eg : Pos) : Prop where
 base : attributeBase o m X.env (eval o X.env) = eval o X.env
 few : ((backTo eg (starEach [e, f] X.env)).all (fun x => !x.1) && (backToKw eg (keywordEach [] X.env)).all (fun x => x.1.isSome)
  && decide (([e, f] : List Expr).length + ([] : List Keyword).length + (if ([] : List Keyword).isEmpty then 0 else 1) < 30)) = true
 line : (apos.endLine == eg.line) = true
 trees : backTo eg (starEach [e, f] X.env) = [(false, eval e X.env), (false, eval f X.env)]
section
variable {X : Cx} {pins : List (Addr × Obj)} {σ : St} {H : Hp} {s : Shared} {a : Addr} {y d : V} {u r : Value} {o : Option V} {A : Around} {E : Value -> Shared -> Prop}
end
section
variable {X : Cx} {o e f : Expr} {apos eg : Pos} {td ty tx : TE}
end
section
variable {X : Cx} {pins : List (Addr × Obj)} {σ : St} {H : Hp} {s : Shared} {a : Addr} {kvs : List (Key × V)} {A : Around} {E : Value -> Shared -> Prop}
end
section
variable {X : Cx} {pins : List (Addr × Obj)} {σ : St} {H : Hp} {s : Shared} {a : Addr} {y : V} {u : Value} {A : Around} {E : Value -> Shared -> Prop}
end
end L2
namespace HS
open PySem PySem.W PySem.Calls PyProof.Rows
theorem ki {P : Params} {h : Heap} : ∀ (ns : List Int) (vs : List Value), WellAll P h vs (ns.map WData.int) -> IntsAre vs ns := by
 intro ns
 induction ns with
 | nil =>
   intro vs w
   rw [List.map_nil] at w
   cases w
   exact .nil
 | cons n ns ih =>
   intro vs w
   rw [List.map_cons] at w
   cases w with
   | cons a b =>
     cases a
     exact .cons _ _ (ih _ b)
theorem rF {l : OpenLaw} {n : Nat} (hn : l.most = some n) {P : Params} {h : Heap} {args : List WData} {vals : List Value}
 (vT : l.row.toRowW.claim.pre args = true) (EZ : WellAll P h vals args) :
 ∃ a vs ns, vals = [Value.ref a] /\ args = [WData.list (ns.map WData.int)] /\ h.get? a = some { cls := .type "list", data := .seq vs.toArray } /\ IntsAre vs ns /\ ns.length <= n := by
 have JL : WShape.hasAll [] args [.list .int] = true := (pre_splitW vT).1
 have hc : l.pre.holds [] { args := args } = true := (pre_splitW vT).2
 obtain ⟨d, r, rfl, h1, h2⟩ := hasAllW_cons JL
 obtain rfl := hasAllW_nil h2
 obtain ⟨xs, rfl, h3⟩ := hasW_list h1
 obtain ⟨ns, rfl⟩ := items_int h3
 have hlen : ns.length <= n := by
  unfold OpenLaw.pre at hc
  have h4 : (WTm.not (.lt (.lit (.int (n : Int))) (.len (.arg 0)))).holds [] { args := [.list (ns.map .int)] } = true := by
   have h4 := (holds_andW hc).1
   rw [hn] at h4
   exact h4
  have h5 := condW_of h4 (w_not (w_lt w_lit (w_len_list (w_arg rfl))))
  rw [List.length_map] at h5
  refine Nat.le_of_not_lt fun q => ?_
  have q' : (n : Int) < ((ns.length : Nat) : Int) := by omega
  first
   | (rw [decide_eq_true q'] at h5; exact absurd h5 (by decide))
   | (simp at h5; omega)
 cases EZ with
 | cons w1 w2 =>
   cases w2
   cases w1 with
   | list ho Br => exact ⟨_, _, ns, rfl, rfl, ho, ki ns _ Br, hlen⟩
theorem rY (l : OpenLaw) (args : List WData) : l.row.toRowW.claim.post args (.bool true) args = true :=
 postW_of (r := l.row.toRowW) (X := (true == true))
  (show WShape.has [] (.bool true) .bool = true by first | rfl | decide | simp [WShape.has, WShape.arms, WShape.armsAll])
  (show (WTm.eq .res (.lit (.bool true))).value [] { args := args, res := some (.bool true), after := args } = some (.bool (true == true)) from w_eq_bool (w_res rfl) w_lit) rfl
theorem oq {l : OpenLaw} {n : Nat} {q : Program} {loose : List Str} {XP : (Str -> Option Value) -> Heap -> Prop} {YP : World -> Heap -> Prop} {d : DefRec}
 (hn : l.most = some n) (Gs : d.params.defaults = [])
 (call : ∀ (w : World) (dh s₁ : Shared) (mg mb : Str -> Option Value) (fa : Addr) (o : Obj) (pm cd doc : Value) (a : Addr) (vs : List Value) (ns : List Int),
  Ground q loose [] XP w dh mg mb s₁.heap -> YP w s₁.heap ->
  s₁.heap.get? fa = some o -> o.data = .func (docDef d.name d.params d.body d.scope pm cd doc) -> s₁.heap.CodeRec cd d.name -> mg d.name = some (.ref fa) ->
  s₁.heap.get? a = some { cls := .type "list", data := .seq vs.toArray } -> IntsAre vs ns -> ns.length <= n -> s₁.gens = #[] ->
  codeAny (model l.prog w) callerA (.call (.ref fa) ⟨[.ref a], []⟩) (fun r s' => r = .ok (.ret (.bool true)) /\ OldK s₁.heap s'.heap /\ s'.os = s₁.os /\ AllBare s'.gens) s₁) :
 WalkO q loose XP YP l.row.toRowW d [] (fun f vs => PySem.call f vs) := by
 intro w dh s₁ mg mb G Y fa o pm cd doc dV kV ho hd lJ hD By hg args vals as vT Kk HI EZ Mg
 obtain rfl : dV = .none := Dflts.none hD Gs
 obtain rfl : kV = .none := Dflts.noKw hD
 obtain ⟨a, vs, ns, rfl, rfl, zy, hints, hlen⟩ := rF hn vT EZ
 refine enter_call (codeAny_mono (call w dh s₁ mg mb fa o pm cd doc a vs ns G Y ho (fd_plain hd) lJ By zy hints hlen hg) fun r s' hq => ?_)
 obtain ⟨rfl, h2, h3, h4⟩ := hq
 exact ⟨.inl ⟨.bool true, .bool true, [], rfl, fun _ => rfl, .bool true, rY l _, fun _ => ⟨List.Pairwise.nil, fun _ hm => (nomatch hm)⟩⟩, h2, h3, h4⟩
section
variable {prog : Program} {w : World} {A : Around} {E : Value -> Shared -> Prop} {s : Shared} {K : Frag}
end
end HS
namespace L2
open PySem PySem.Spec PyProof.Rows
theorem my : ∀ {vs : List Value} {ns : List Int}, IntsAre vs ns -> Vals (ns.map V.int) vs
 | _, _, .nil => .nil
 | _, _, .cons n t h => .cons ⟨t, rfl⟩ (my h)
def inClass (s : Stmt) (j : Nat) : Stmt := match s with
 | .ClassDef _ _ _ body _ _ _ _ _ _ _ => body.getD j (.Pass ⟨0, 0, 0, 0⟩)
 | _ => .Pass ⟨0, 0, 0, 0⟩
def jr (s : Stmt) : Arguments := match s with
 | .FunctionDef _ a _ _ _ _ _ _ _ _ => a
 | _ => { posonlyargs := [], args := [], vararg := none, kwonlyargs := [], kw_defaults := [], kwarg := none, defaults := [] }
def gw (s : Stmt) : List Stmt := match s with
 | .FunctionDef _ _ b _ _ _ _ _ _ _ => b
 | _ => []
def au (s : Stmt) : Scope := match s with
 | .FunctionDef _ _ _ _ _ _ sc _ _ _ => sc
 | _ => { kind := .function, names := [], isGenerator := false, isCoroutine := false }
abbrev ik : oW := fun _ _ _ _ _ _ => False
abbrev E0 : XK := fun _ _ _ => False
theorem rq {X : Cx} : Passes ik X E0 := fun _ _ _ _ _ _ _ h => h.elim
structure Mj (K : PySem.W.Frag) (x qual : Str) (st : Stmt) (f : Addr) (fd : FuncData) : Prop where
 ex : ∃ (oc : Value) (od : Option Addr) (kV doc pm : Value) (an : Option Addr) (dR ct : Value) (rJ : Array (Option Value)),
  fd = PySem.W.fnOf x qual (jr st) (gw st) (au st) .none kV doc pm an dR ct /\ K.lookup f = some ⟨oc, od, .func fd, rJ⟩ /\ PySem.W.codeIn K dR qual = true
 kp : PySem.W.keepIn K (.ref f) = true
section
variable {P : Program} {w : World} {K : PySem.W.Frag} {mg : Str -> Option Value} {base : Heap}
end
theorem kQ {A : Around} {k : Nat} (hr : bG k A) : A.units + 1 < cLine := Nat.lt_of_le_of_lt (Nat.add_le_add_left (by decide : 1 <= 64) _) hr.units
section
variable {X : Cx}
theorem pv (i : Nat) {x : Str} {pos : Pos} (hN : X.N[i]? = some x := by rfl) (hv : B1 X.env.scope x := by first | exact Or.inl rfl | exact Or.inr (Or.inl rfl) | exact Or.inr (Or.inr rfl)) (hd : (x == ("__debug__" : Str)) = false := by decide)
 (lJ : (x == ("__classdict__" : Str)) = false := by decide) : PE X (.Name x pos) (AF i) := Bt hN hv hd lJ
end
theorem Fo {A B : Prop} (h : B) : if false = true then A else B := by
 rw [if_neg Bool.false_ne_true]
 exact h
theorem Hi {A B : Prop} (h : A) : if true = true then A else B := by
 rw [if_pos rfl]
 exact h
def az (H H' : Hp) : Prop := ∀ b o, H b = some o -> H' b = some o
theorem az.refl (H : Hp) : az H H := fun _ _ h => h
theorem az.trans {H H1 H2 : Hp} (a : az H H1) (b : az H1 H2) : az H H2 := fun c o h => b c o (a c o h)
theorem az.seq {K : PySem.W.Frag} {H H' : Hp} {a : Addr} {xs : List V} (e : az H H') (h : dA K H a xs) : dA K H' a xs := by
 rcases h with (h | ⟨o, h⟩) | h
 . exact .inl (.inl (e _ _ h))
 . exact .inl (.inr ⟨o, e _ _ h⟩)
 . exact .inr h
section
variable {κ : Type} [DecidableEq κ]
end
section
variable {X : Cx}
def qo (i j : Int) : Prop := i.natAbs < 2 ^ 2000 /\ j.natAbs < 2 ^ 2000
theorem qo.ok {i j : Int} (h : qo i j) : IntMulOk i j := by
 have h1 : Builtin.Int.intBits i <= 2000 := PyProof.Rows.intBits_le h.1
 have h2 : Builtin.Int.intBits j <= 2000 := PyProof.Rows.intBits_le h.2
 have h3 : Builtin.Int.intTooBig ((Builtin.Int.intBits i + Builtin.Int.intBits j : Nat) : Int) = false := by
  unfold Builtin.Int.intTooBig
  have : (bitsLine : Nat) = 134217728 := rfl
  refine decide_eq_false ?_
  omega
 unfold IntMulOk
 have h4 : Builtin.Int.intTooBig (Builtin.Int.intBits i + Builtin.Int.intBits j) = false := by
  have e : ((Builtin.Int.intBits i : Int) + (Builtin.Int.intBits j : Int)) = ((Builtin.Int.intBits i + Builtin.Int.intBits j : Nat) : Int) := by omega
  rw [e]; exact h3
 rw [h4]
 simp
theorem kq : iT X (binaryOp .Mult) (rI qo fun i j => .int (i * j)) := Dy fun _ _ _ _ _ _ _ hc q => mul_int q hc.ok
def yd (_ j : Int) : Prop := 0 < j /\ j.natAbs < 2 ^ 2000
theorem aY : iT X (binaryOp .FloorDiv) (rI yd fun i j => .int (i / j)) := Dy fun i j _ _ _ _ _ hc q => by
 have e : i.fdiv j = i / j := Int.fdiv_eq_ediv_of_nonneg _ (Int.le_of_lt hc.1)
 have hl : j.natAbs.log2 < 9000 := by
  have h0 : j.natAbs ≠ 0 := by have := hc.1; omega
  have h2 : j.natAbs.log2 < 2000 := (Nat.log2_lt h0).mpr hc.2
  omega
 refine floordiv_int (by have := hc.1; omega) ?_ (.inl (PyProof.noPylong_of_log2 hl))
 rw [e]; exact q
inductive yV : V -> Value -> Prop where
 | ty (n : String) : yV (.ty n) (.type n)
 | ref (C : Addr) : yV (.ref C) (.ref C)
def Ak (K : PySem.W.Frag) : List V -> Hp -> VK -> Prop := fun xs H Q => ∃ x c cv t b, xs = [x, c] /\ yV c cv /\ jc K H x t /\ PySem.W.kitOne K t cv = some b /\ Q (.bl b) H
theorem n5 : j1 X (.builtin "isinstance") (Ak X.K) := by
 intro pins s σ H xs us Q I r h
 obtain ⟨x, c, cv, t, b, rfl, hc, ty, e, q⟩ := h
 obtain ⟨u, w', rfl, r1, r2⟩ := vals2 r
 have ew : w' = cv := by cases hc <;> exact r2
 subst ew
 exact rH I r1 ty e fun tk => ⟨.bl b, H, I.tok tk, rfl, q⟩
structure HB (K : PySem.W.Frag) (C : Addr) (m : Str) (f : Addr) : Prop where
 ga : PySem.W.specialIn K (.ref C) "__getattribute__" = some (some (.builtin "type.__getattribute__"))
 rd : PySem.W.readsIn K C (.type "type") = true
 fd : PySem.W.findCls K (.ref C) (.type "type") m = some (.val (.ref f))
 kp : PySem.W.keepIn K (.ref f) = true
end
mutual
inductive g4 (K : PySem.W.Frag) (H : Hp) : V -> PyData -> Prop where
 | a0 : g4 K H .a0 .none
 | bl (b : Bool) : g4 K H (.bl b) (.bool b)
 | int (i : Int) : g4 K H (.int i) (.int i)
 | str (x : Str) : g4 K H (.str x) (.str x)
 | tup {a : Addr} {xs : List V} {ds : List PyData} (h : qA K H a xs) (r : dM K H xs ds) : g4 K H (.ref a) (.tuple ds)
 | lst {a : Addr} {xs : List V} {ds : List PyData} (h : dA K H a xs) (r : dM K H xs ds) : g4 K H (.ref a) (.list ds)
inductive dM (K : PySem.W.Frag) (H : Hp) : List V -> List PyData -> Prop where
 | nil : dM K H [] []
 | cons {x : V} {d : PyData} {xs : List V} {ds : List PyData} (h : g4 K H x d) (r : dM K H xs ds) : dM K H (x :: xs) (d :: ds)
end
theorem qA.keeps {K : PySem.W.Frag} {H H' : Hp} {a : Addr} {xs : List V} (e : az H H') (h : qA K H a xs) : qA K H' a xs := by
 rcases h with (h | ⟨o, h⟩) | h
 . exact .inl (.inl (e _ _ h))
 . exact .inl (.inr ⟨o, e _ _ h⟩)
 . exact .inr h
mutual
theorem g4.keeps {K : PySem.W.Frag} {H H' : Hp} (e : az H H') : ∀ {v : V} {d : PyData}, g4 K H v d -> g4 K H' v d
 | _, _, .a0 => .a0
 | _, _, .bl b => .bl b
 | _, _, .int i => .int i
 | _, _, .str x => .str x
 | _, _, .tup h r => .tup (qA.keeps e h) (dM.keeps e r)
 | _, _, .lst h r => .lst (az.seq e h) (dM.keeps e r)
theorem dM.keeps {K : PySem.W.Frag} {H H' : Hp} (e : az H H') : ∀ {vs : List V} {ds : List PyData}, dM K H vs ds -> dM K H' vs ds
 | _, _, .nil => .nil
 | _, _, .cons h r => .cons (g4.keeps e h) (dM.keeps e r)
end
section
variable {X : Cx} {pins : List (Addr × Obj)} {σ : St} {H : Hp} {s : Shared}
mutual
theorem g4.reads (I : Inv X pins σ H s) : ∀ {v : V} {d : PyData} {u : Value}, g4 X.K H v d -> RelV v u -> ∃ as, Reads s.heap u d as
 | _, _, _, .a0, r => by cases r; exact ⟨_, .none⟩
 | _, _, _, .bl b, r => by cases r; exact ⟨_, .bool b⟩
 | _, _, _, .int i, r => by obtain ⟨t, rfl⟩ := r; exact ⟨_, .int i t⟩
 | _, _, _, .str x, r => by obtain ⟨t, rfl⟩ := r; exact ⟨_, .str x t⟩
 | _, _, _, .tup h q, r => by
   cases r
   obtain ⟨aS, rv, ⟨o, h1, h2, n, h3⟩, _⟩ := I.tuple h
   obtain ⟨as, ra⟩ := dM.reads I q rv
   exact ⟨_, .tuple h1 h2 h3 (by simpa using ra)⟩
 | _, _, _, .lst h q, r => by
   cases r
   obtain ⟨aS, rv, ⟨o, n, h1, h2, _, h3⟩, _⟩ := I.list h
   obtain ⟨as, ra⟩ := dM.reads I q rv
   exact ⟨_, .list h1 h2 h3 (by simpa using ra)⟩
theorem dM.reads (I : Inv X pins σ H s) : ∀ {vs : List V} {ds : List PyData} {us : List Value}, dM X.K H vs ds -> Vals vs us -> ∃ as, ReadsAll s.heap us ds as
 | _, _, _, .nil, r => by cases r; exact ⟨_, .nil⟩
 | _, _, _, .cons h q, r => by
   cases r with
   | cons r1 r2 =>
     obtain ⟨as, ra⟩ := g4.reads I h r1
     obtain ⟨bs, rb⟩ := dM.reads I q r2
     exact ⟨_, .cons ra rb⟩
end
end
section
variable {X : Cx}
def Cv (K : PySem.W.Frag) (f : Bool -> Bool) : R2 := fun x y H Q => ∃ d e, g4 K H x d /\ g4 K H y e /\ d.canLay0 = true /\ e.canLay0 = true /\ d.depth <= 8 /\ Q (.bl (f (PyData.eqv d e))) H
theorem zx (hu : X.A.units + 8 < cLine) : iT X (compareOp .Eq) (Cv X.K id) := by
 intro pins s σ H x y v u Q I rx ry h
 obtain ⟨d, e, hd, he, c1, c2, hn, q⟩ := h
 obtain ⟨as, ra⟩ := hd.reads I rx
 obtain ⟨bs, rb⟩ := he.reads I ry
 exact SeqAt.compareEq_reads ra rb c1 c2 (by have := Nat.min_le_left d.depth e.depth; omega) ⟨.bl _, H, I, rfl, q⟩
theorem zc (hu : X.A.units + 8 < cLine) : iT X (compareOp .NotEq) (Cv X.K not) := by
 intro pins s σ H x y v u Q I rx ry h
 obtain ⟨d, e, hd, he, c1, c2, hn, q⟩ := h
 obtain ⟨as, ra⟩ := hd.reads I rx
 obtain ⟨bs, rb⟩ := he.reads I ry
 exact SeqAt.compareNe_reads ra rb c1 c2 (by have := Nat.min_le_left d.depth e.depth; omega) ⟨.bl _, H, I, rfl, q⟩
end
structure iN (P : Program) (w : World) (K : PySem.W.Frag) (mg : Str -> Option Value) (base : Heap) (k : Nat) (f : Addr) (ps : List Str) (cC : List V) (sp : Sp) : Prop where
 ex : ∃ (fd : FuncData) (ds : List Value), bR P w K mg base ik k f fd ps sp /\ Binds K fd ps ds /\ Vals cC ds
section
variable {X : Cx} {k : Nat} {f C : Addr} {ps : List Str} {sp : Sp} {cC : List V} {x m : Str} {p pos apos : Pos} {e o : Expr} {es : List Expr} {ta : TE} {t : TA}
theorem xY (c : iN X.prog X.w X.K X.mg X.base k f ps cC sp) (hr : bG k X.A) (hg : Gl X x) (hm : X.mg x = some (.ref f)) (hk : PySem.W.keepIn X.K (.ref f) = true)
 (ha : PA X (e :: es) t) (uX : (x == ("__debug__" : Str)) = false := by decide) (he : starEach (e :: es) X.env = (false, eval e X.env) :: starEach es X.env := by rfl) (oX : (backTo pos (starEach es X.env)).any (·.1) = false := by rfl) :
 PE X (.Call (.Name x p) (e :: es) [] pos) (qL sp cC E0 t) := by
 obtain ⟨fd, ds, F, hb, hd⟩ := c.ex
 exact v5 F hr hg hm hk hb hd rq ha uX he oX
theorem wx {pl : Sem Bool} (he : PE X o ta) (c : lO X.K C) (hm : Meth X.K C m f) (F : iN X.prog X.w X.K X.mg X.base k f ps cC sp) (hr : bG k X.A) (ha : PA X (e :: es) t)
 (qE : starEach (e :: es) X.env = (false, eval e X.env) :: starEach es X.env := by rfl) (oX : (backTo pos (starEach es X.env)).any (·.1) = false := by rfl)
 (ht : eval (.Call (.Attribute o m apos) (e :: es) [] pos) X.env = (do
  let ov <- eval o X.env
  standAt apos.atName
  let (f, first) <- holding [ov] (getMethod ov m pl)
  callWith pos f first (backTo pos (starEach (e :: es) X.env)) (backToKw pos (keywordEach [] X.env))) := by rfl) :
 PE X (.Call (.Attribute o m apos) (e :: es) [] pos) (lU C m sp cC E0 ta t) := by
 obtain ⟨fd, ds, F, hb, hd⟩ := F.ex
 exact xm he c hm F hr hb hd rq ha qE oX ht
theorem u3 {pl : Sem Bool} (he : PE X o ta) (c : lO X.K C) (hm : Meth X.K C m f) (F : iN X.prog X.w X.K X.mg X.base k f ps cC sp) (hr : bG k X.A)
 (ht : eval (.Call (.Attribute o m apos) [] [] pos) X.env = (do
  let ov <- eval o X.env
  standAt apos.atName
  let (f, first) <- holding [ov] (getMethod ov m pl)
  callWith pos f first (backTo pos (starEach [] X.env)) (backToKw pos (keywordEach [] X.env))) := by rfl) :
 PE X (.Call (.Attribute o m apos) [] [] pos) (lU C m sp cC E0 ta pY) := by
 obtain ⟨fd, ds, F, hb, hd⟩ := F.ex
 exact uS he c hm F hr hb hd rq ht
end
structure cJ (K : PySem.W.Frag) (x qual : Str) (st : Stmt) (f : Addr) (dV : Value) (fd : FuncData) : Prop where
 ex : ∃ (oc : Value) (od : Option Addr) (kV doc pm : Value) (an : Option Addr) (dR ct : Value) (rJ : Array (Option Value)),
  fd = PySem.W.fnOf x qual (jr st) (gw st) (au st) dV kV doc pm an dR ct /\ K.lookup f = some ⟨oc, od, .func fd, rJ⟩ /\ PySem.W.codeIn K dR qual = true
theorem qx {K : PySem.W.Frag} {x qual : Str} {st : Stmt} {f : Addr} {oc : Value} {od an : Option Addr} {rJ : Array (Option Value)} {dV kV doc pm dR ct : Value} (l : K.lookup f = some ⟨oc, od, .func (PySem.W.fnOf x qual (jr st) (gw st) (au st) dV kV doc pm an dR ct), rJ⟩)
 (c : PySem.W.codeIn K dR qual = true) : cJ K x qual st f dV (PySem.W.fnOf x qual (jr st) (gw st) (au st) dV kV doc pm an dR ct) := ⟨⟨oc, od, kV, doc, pm, an, dR, ct, rJ, rfl, l, c⟩⟩
section
variable {P : Program} {w : World} {K : PySem.W.Frag} {mg : Str -> Option Value} {base : Heap}
theorem cJ.ok {x qual : Str} {st : Stmt} {f : Addr} {dV : Value} {fd : FuncData} {N ps : List Str} {k : Nat} {sp : Sp} (F : cJ K x qual st f dV fd) (S : aG N ps (au st)) (len : ∀ vs H Q E, sp vs H Q E -> vs.length = ps.length)
 (j6 : ∀ (dR : Value) (A : Around) (outer : List Env) (s : Shared) (H : Hp) (vs : List V) (Q : VK) (E : XK), bG k (A.deeper (envOfC qual (au st) s.heap.objs.size f dR)) -> sp vs H Q E ->
  ∃ t, oF (pA ik P w K mg base N qual (au st) f dR A outer s H E).BQ (gw st) t /\ t { nx := fun _ H' => Q .a0 H', rt := Q } (start N vs) H) : bR P w K mg base ik (k + 1) f fd ps sp := by
 obtain ⟨oc, od, kV, doc, pm, an, dR, ct, rJ, rfl, lk, lJ⟩ := F.ex
 refine yK lk lJ S len fun A outer s H vs Q E hr vQ => ?_
 obtain ⟨t, h, q⟩ := j6 dR A outer s H vs Q E hr vQ
 exact ⟨t, h.BQ, q⟩
theorem cJ.binds {x qual : Str} {st : Stmt} {f : Addr} {dV : Value} {fd : FuncData} {ps : List Str} {ds : List Value} (F : cJ K x qual st f dV fd)
 (h : ∀ (kV doc pm : Value) (an : Option Addr) (dR ct : Value), Binds K (PySem.W.fnOf x qual (jr st) (gw st) (au st) dV kV doc pm an dR ct) ps ds) : Binds K fd ps ds := by
 obtain ⟨oc, od, kV, doc, pm, an, dR, ct, rJ, rfl, lk, lJ⟩ := F.ex
 exact h kV doc pm an dR ct
end
structure Ar (K : PySem.W.Frag) (T : Addr) (items : Array Value) : Prop where
 ex : ∃ (o : Obj) (n : Nat), K.lookup T = some o /\ o.data = .seq items n
structure DP (K : PySem.W.Frag) (C : Addr) : Prop where
 ha : PySem.W.findIn K (.ref C) "__class__" = some (some (.builtin "object.__class__"))
 hn : PySem.W.specialIn K (.builtin "object.__class__") "__get__" = some (some (.builtin "getset_descriptor.__get__"))
 ht : PySem.W.takesIn K (.builtin "object.__class__") = some true
 hm : PySem.W.mroIn K C (.type "object") = some true
section
variable {σ : St} {H : Hp} {Q : VK} {D : Ends} {K : PySem.W.Frag}
theorem zq (h : D.nx σ H) : yu D σ H := h
theorem Eb {te : TE} (h : te σ H D.rt) : DX te D σ H := h
theorem AO {te : TE} (h : te σ H fun _ H1 => D.nx σ H1) : yR te D σ H := h
theorem Ep {c : TT} {t u : TS} (h : c σ H fun b H1 => if b = true then t D σ H1 else u D σ H1) : Cq c t u D σ H := h
theorem DU {te : TE} {i : Nat} (h : te σ H fun x H1 => D.nx (σ.set i (some x)) H1) : Dt te (kM i) D σ H := h
theorem Er {i : Nat} {v : V} (e : σ[i]? = some (some v)) (h : Q v H) : AF i σ H Q := ⟨v, e, h⟩
theorem KP {v : V} (h : Q v H) : tC v σ H Q := h
theorem Gv {r : R2} {ta tb : TE} (h : ta σ H fun x H1 => tb σ H1 fun y H2 => r x y H2 Q) : D4 r ta tb σ H Q := h
theorem Gd {r : V -> Hp -> VK -> Prop} {ta : TE} (h : ta σ H fun x H1 => r x H1 Q) : HC r ta σ H Q := h
theorem Gn {g : Int -> Int -> V} {i j : Int} (h : Q (g i j) H) : yz g (.int i) (.int j) H Q := ⟨i, j, rfl, rfl, h⟩
theorem HH {C : Int -> Int -> Prop} {g : Int -> Int -> V} {i j : Int} (c : C i j) (h : Q (g i j) H) : rI C g (.int i) (.int j) H Q := ⟨i, j, rfl, rfl, c, h⟩
theorem K7 {g : Int -> V} {i : Int} (h : Q (g i) H) : rU g (.int i) H Q := ⟨i, rfl, h⟩
theorem AI {t : TE} {Q : Bool -> Hp -> Prop} (h : t σ H fun x H' => ∃ k, x = .bl k /\ Q k H') : yy t σ H Q := h
theorem B9 {t u : TT} {Q : Bool -> Hp -> Prop} (h : t σ H fun c H1 => if c = true then u σ H1 Q else Q false H1) : Eg t u σ H Q := h
theorem FA {t u : TT} {Q : Bool -> Hp -> Prop} (h : t σ H fun c H1 => if c = true then Q true H1 else u σ H1 Q) : HE t u σ H Q := h
theorem Ec {t : TT} {Q : Bool -> Hp -> Prop} (h : t σ H fun c H1 => Q (!c) H1) : D3 t σ H Q := h
theorem Ac {ta tb : TE} (h : ta σ H fun x H1 => ∃ c, x = .bl c /\ if c = true then tb σ H1 Q else Q (.bl false) H1) : ym ta tb σ H Q := h
theorem BE {ta : TE} (h : ta σ H fun x H1 => ∃ c, x = .bl c /\ Q (.bl (!c)) H1) : yp ta σ H Q := h
theorem Hl {b : Bool} {R : Bool -> Prop} (h : R b) : ∃ k, V.bl b = .bl k /\ R k := ⟨b, rfl, h⟩
theorem DL {Q : List V -> Hp -> Prop} (h : Q [] H) : pY σ H Q := h
theorem Bn {ta : TE} {tr : TA} {Q : List V -> Hp -> Prop} (h : ta σ H fun x H1 => tr σ H1 fun xs H2 => Q (x :: xs) H2) : yL ta tr σ H Q := h
theorem Fd {r : List V -> Hp -> VK -> Prop} {t : TA} (h : t σ H fun vs H1 => r vs H1 Q) : Ip r t σ H Q := h
theorem Eh {ta : TE} {f : Str} (h : ta σ H fun x H1 => ∃ a C dx fs v, x = .ref a /\ H1 a = some (.ins C dx fs) /\ lO K C /\ di K C f /\ fs.lookup f = some v /\ Q v H1) : C4 K ta f σ H Q := h
theorem uv {A B : Prop} (h : A) : if true = true then A else B := by rw [if_pos rfl]; exact h
theorem sG {A B : Prop} (h : B) : if false = true then A else B := by rw [if_neg Bool.false_ne_true]; exact h
end
section
variable {X : Cx} {e : Expr} {es : List Expr}
theorem PE.weak {t u : TE} (h1 : PE X e t) (h : ∀ σ H Q, u σ H Q -> t σ H Q) : PE X e u := fun pins s σ H Q I q => h1 pins s σ H Q I (h σ H Q q)
def mA (t : TA) : TA := fun σ H Q => ∃ Q' : List V -> Hp -> Prop, t σ H Q' /\ ∀ v H', Q' v H' -> Q v H'
theorem PA.m {t : TA} (h : PA X es t) : PA X es (mA t) := fun pos pins s σ H Q I ⟨Q', q, m⟩ => cj (h pos pins s σ H Q' I q) fun _ _ ⟨v, H', I', r, z⟩ => ⟨v, H', I', r, m v H' z⟩
end
def F0 : Key -> PyData
 | .inl i => .int i
 | .inr x => .str x
mutual
inductive Dv (H : Hp) : V -> PyData -> Prop where
 | a0 : Dv H .a0 .none
 | bl (b : Bool) : Dv H (.bl b) (.bool b)
 | int (i : Int) : Dv H (.int i) (.int i)
 | str (x : Str) : Dv H (.str x) (.str x)
 | tup {a : Addr} {xs : List V} {ds : List PyData} (h : H a = some (.tup xs)) (r : cu H xs ds) : Dv H (.ref a) (.tuple ds)
 | lst {a : Addr} {xs : List V} {ds : List PyData} (h : Rd H a (.lst xs)) (r : cu H xs ds) : Dv H (.ref a) (.list ds)
 | dct {a : Addr} {kvs : List (Key × V)} {ds : List (PyData × PyData)} (h : H a = some (.dK kvs)) (r : xo H kvs ds) : Dv H (.ref a) (.dict ds)
inductive xo (H : Hp) : List (Key × V) -> List (PyData × PyData) -> Prop where
 | nil : xo H [] []
 | cons {k : Key} {x : V} {d : PyData} {xs : List (Key × V)} {ds : List (PyData × PyData)} (h : Dv H x d) (r : xo H xs ds) : xo H ((k, x) :: xs) ((F0 k, d) :: ds)
inductive cu (H : Hp) : List V -> List PyData -> Prop where
 | nil : cu H [] []
 | cons {x : V} {d : PyData} {xs : List V} {ds : List PyData} (h : Dv H x d) (r : cu H xs ds) : cu H (x :: xs) (d :: ds)
end
mutual
theorem Dv.has {K : PySem.W.Frag} {H : Hp} : ∀ {v : V} {d : PyData}, Dv H v d -> d.canLay0 = true -> g4 K H v d
 | _, _, .a0, _ => .a0
 | _, _, .bl b, _ => .bl b
 | _, _, .int i, _ => .int i
 | _, _, .str x, _ => .str x
 | _, _, .tup h r, c => .tup (.of h) (cu.has r (by simpa [PyData.canLay0] using c))
 | _, _, .lst h r, c => .lst (.inl h) (cu.has r (by simpa [PyData.canLay0] using c))
 | _, _, .dct h r, c => by simp [PyData.canLay0] at c
theorem cu.has {K : PySem.W.Frag} {H : Hp} : ∀ {v : List V} {d : List PyData}, cu H v d -> PyData.canLayAll0 d = true -> dM K H v d
 | _, _, .nil, _ => .nil
 | _, _, .cons h r, c => by
   have c' := c
   simp only [PyData.canLayAll0, Bool.and_eq_true] at c'
   exact .cons (Dv.has h c'.1) (cu.has r c'.2)
end
theorem az.rd {H H' : Hp} {a : Addr} {u : HO} (e : az H H') (h : Rd H a u) : Rd H' a u := by
 rcases h with h | ⟨o, h⟩
 . exact .inl (e _ _ h)
 . exact .inr ⟨o, e _ _ h⟩
mutual
theorem Dv.keeps {H H' : Hp} (e : az H H') : ∀ {v : V} {d : PyData}, Dv H v d -> Dv H' v d
 | _, _, .a0 => .a0
 | _, _, .bl b => .bl b
 | _, _, .int i => .int i
 | _, _, .str x => .str x
 | _, _, .tup h r => .tup (e _ _ h) (cu.keeps e r)
 | _, _, .lst h r => .lst (e.rd h) (cu.keeps e r)
 | _, _, .dct h r => .dct (e _ _ h) (xo.keeps e r)
theorem xo.keeps {H H' : Hp} (e : az H H') : ∀ {v : List (Key × V)} {d : List (PyData × PyData)}, xo H v d -> xo H' v d
 | _, _, .nil => .nil
 | _, _, .cons h r => .cons (Dv.keeps e h) (xo.keeps e r)
theorem cu.keeps {H H' : Hp} (e : az H H') : ∀ {v : List V} {d : List PyData}, cu H v d -> cu H' v d
 | _, _, .nil => .nil
 | _, _, .cons h r => .cons (Dv.keeps e h) (cu.keeps e r)
end
theorem cu.length {H : Hp} : ∀ {xs : List V} {ds : List PyData}, cu H xs ds -> xs.length = ds.length
 | _, _, .nil => rfl
 | _, _, .cons _ r => by simp [cu.length r]
theorem cu.get {H : Hp} : ∀ {xs : List V} {ds : List PyData} {i : Nat} {d : PyData}, cu H xs ds -> ds[i]? = some d -> ∃ x, xs[i]? = some x /\ Dv H x d
 | _, _, _, _, .nil, e => by simp at e
 | _, _, 0, _, .cons h _, e => by simp at e; subst e; exact ⟨_, rfl, h⟩
 | _, _, i + 1, x, .cons _ r, e => by
   obtain ⟨d, h1, h2⟩ := cu.get (i := i) (d := x) r (by simpa using e)
   exact ⟨d, by simpa using h1, h2⟩
theorem cu.append {H : Hp} : ∀ {xs ys : List V} {ds es : List PyData}, cu H xs ds -> cu H ys es -> cu H (xs ++ ys) (ds ++ es)
 | _, _, _, _, .nil, s => s
 | _, _, _, _, .cons r t, s => .cons r (cu.append t s)
theorem cu.ints {H : Hp} : ∀ (ns : List Int), cu H (ns.map V.int) (ns.map PyData.int)
 | [] => .nil
 | n :: ns => .cons (.int n) (cu.ints ns)
theorem Dv.int_inv {H : Hp} {v : V} {i : Int} (h : Dv H v (.int i)) : v = .int i := by cases h; rfl
theorem Dv.str_inv {H : Hp} {v : V} {i : Str} (h : Dv H v (.str i)) : v = .str i := by cases h; rfl
def nu (H : Hp) (d : PyData) (Q : VK) : Prop := match d with
 | .none => Q .a0 H
 | .bool b => Q (.bl b) H
 | .int i => Q (.int i) H
 | .str x => Q (.str x) H
 | d => ∀ v, Dv H v d -> Q v H
theorem nu.use {H : Hp} {d : PyData} {Q : VK} (g : nu H d Q) {v : V} (h : Dv H v d) : Q v H := by
 cases h with
 | a0 => exact g
 | bl b => exact g
 | int i => exact g
 | str x => exact g
 | tup h r => exact g _ (.tup h r)
 | lst h r => exact g _ (.lst h r)
 | dct h r => exact g _ (.dct h r)
theorem qm {H : Hp} {xs : List V} {ds : List PyData} {i : Int} {d : PyData} (r : cu H xs ds) (h : md ds i = some d) : ∃ x, md xs i = some x /\ Dv H x d := by
 unfold md at h ⊢
 rw [r.length]
 cases e : xA ds.length i with
 | none => rw [e] at h; simp at h
 | some j =>
   rw [e] at h
   have h' : ds[j]? = some d := by simpa using h
   obtain ⟨x, h1, h2⟩ := r.get h'
   exact ⟨x, by simpa using h1, h2⟩
def mG (H : Hp) (v : V) (ds : List PyData) : Prop := Dv H v (.tuple ds) \/ Dv H v (.list ds)
def C2 : R2 := fun x y H Q => ∃ ds i d, y = .int i /\ mG H x ds /\ md ds i = some d /\ nu H d Q
theorem xE {K : PySem.W.Frag} {x y : V} {H : Hp} {Q : VK} (h : C2 x y H Q) : Ij K x y H Q := by
 obtain ⟨ds, i, d, rfl, hs, hi, g⟩ := h
 rcases hs with hs | hs
 . cases hs with
   | tup h r =>
     obtain ⟨v, h1, h2⟩ := qm r hi
     exact .inr (.inl ⟨_, _, i, v, rfl, rfl, .of h, h1, g.use h2⟩)
 . cases hs with
   | lst h r =>
     obtain ⟨v, h1, h2⟩ := qm r hi
     exact .inl ⟨_, _, i, v, rfl, rfl, .inl h, h1, g.use h2⟩
section
variable {X : Cx}
def Bh : R2 := fun x y H Q => C2 x y H Q \/ Bz x y H Q
theorem E5 : tq X Bh := fun value slice pins s σ H x y v u Q I r1 r2 h => zv value slice pins s σ H x y v u Q I r1 r2 (h.elim xE fun z => .inr (.inr z))
def t8 : List V -> Hp -> VK -> Prop := fun xs H Q => (∃ v ds, xs = [v] /\ mG H v ds /\ Q (.int (ds.length : Nat)) H) \/ ∃ z, xs = [.str z] /\ z.length <= sizeLine /\ Q (.int (z.length : Nat)) H
theorem rP : j1 X (.builtin "len") t8 := fun pins s σ H xs us Q I r h => by
 rcases h with ⟨v, ds, rfl, hs, q⟩ | h
 . rcases hs with hs | hs
   . cases hs with
     | tup h t => exact gv pins s σ H _ us Q I r ⟨_, _, rfl, .inr (.of h), by rw [t.length]; exact q⟩
   . cases hs with
     | lst h t => exact gv pins s σ H _ us Q I r ⟨_, _, rfl, .inl (.inl h), by rw [t.length]; exact q⟩
 . exact mZ pins s σ H _ us Q I r h
def EH : PyData -> String
 | .none => "NoneType" | .bool _ => "bool" | .int _ => "int" | .str _ => "str" | .list _ => "list" | .tuple _ => "tuple" | .dict _ => "dict"
def vD (t n : String) : Option Bool := if ((Value.type t) == (Value.type n)) = true then some true else if PySem.W.kitMeta n = true then (PySem.fastBuiltinMro t).map (·.contains (.type n)) else none
theorem tG {K : PySem.W.Frag} {t n : String} {b : Bool} (h : vD t n = some b) : PySem.W.kitOne K (.type t) (.type n) = some b := h
def Ax (t n : String) : Bool := t == n || (t == "bool" && n == "int")
theorem sC : (["NoneType", "bool", "int", "str", "list", "tuple", "dict"].all fun t => ["int", "bool", "str", "list", "tuple", "dict"].all fun n => vD t n == some (Ax t n)) = true := by decide +kernel
theorem uU {t n : String} (ht : t ∈ ["NoneType", "bool", "int", "str", "list", "tuple", "dict"]) (hn : n ∈ ["int", "bool", "str", "list", "tuple", "dict"]) : vD t n = some (Ax t n) := by
 have h := List.all_eq_true.mp (List.all_eq_true.mp sC t ht) n hn
 exact beq_iff_eq.mp h
theorem vU (d : PyData) : EH d ∈ ["NoneType", "bool", "int", "str", "list", "tuple", "dict"] := by
 cases d <;> simp [EH]
theorem Dv.ty {K : PySem.W.Frag} {H : Hp} {v : V} {d : PyData} (h : Dv H v d) : jc K H v (.type (EH d)) := by
 cases h with
 | a0 => exact .a0
 | bl b => exact .bl b
 | int i => exact .int i
 | str x => exact .str x
 | tup h r => exact .tup h
 | lst h r =>
   rcases h with h | ⟨o, h⟩
   . exact .lst h
   . exact .gN h
 | dct h r => exact .dK h
theorem A9 {K : PySem.W.Frag} {H : Hp} {v : V} {d : PyData} {n : String} {Q : VK} (h : Dv H v d) (hn : n ∈ ["int", "bool", "str", "list", "tuple", "dict"]) (q : Q (.bl (Ax (EH d) n)) H) : Ak K [v, .ty n] H Q :=
 ⟨v, .ty n, .type n, _, _, rfl, .ty n, h.ty, tG (uU (vU d) hn), q⟩
def oi (K : PySem.W.Frag) (f : Bool -> Bool) : R2 := fun x y H Q => (xU x y = true /\ Q (.bl (f (decide (x = y)))) H) \/ ∃ d e, Dv H x d /\ Dv H y e /\ d.canLay0 = true /\ e.canLay0 = true /\ d.depth <= 8 /\ Q (.bl (f (PyData.eqv d e))) H
theorem dF (hu : X.A.units + 8 < cLine) : iT X (compareOp .Eq) (oi X.K id) := fun pins s σ H x y v u Q I rx ry h => by
 rcases h with h | ⟨d, e, h1, h2, h3, h4, h5, h6⟩
 . exact B3 pins s σ H x y v u Q I rx ry h
 . exact zx hu pins s σ H x y v u Q I rx ry ⟨d, e, h1.has h3, h2.has h4, h3, h4, h5, h6⟩
theorem kN (hu : X.A.units + 8 < cLine) : iT X (compareOp .NotEq) (oi X.K not) := fun pins s σ H x y v u Q I rx ry h => by
 rcases h with h | ⟨d, e, h1, h2, h3, h4, h5, h6⟩
 . exact CL pins s σ H x y v u Q I rx ry h
 . exact zc hu pins s σ H x y v u Q I rx ry ⟨d, e, h1.has h3, h2.has h4, h3, h4, h5, h6⟩
variable {es : List Expr} {t : TA} {pos : Pos}
def zH (xs : List V) (H1 : Hp) (Q : VK) : Prop := xs.length <= sizeLine /\ ∃ ds, cu H1 xs ds /\ ∀ p H2, az H1 H2 -> H1 p = none -> H2 p = some (.tup xs) -> Dv H2 (.ref p) (.tuple ds) -> Q (.ref p) H2
def zj (xs : List V) (H1 : Hp) (Q : VK) : Prop := xs.length <= sizeLine /\ ∃ ds, cu H1 xs ds /\ ∀ p H2, az H1 H2 -> H1 p = none -> H2 p = some (.lst xs) -> cu H2 xs ds -> Dv H2 (.ref p) (.list ds) -> Q (.ref p) H2
def yD (t : TA) : TE := fun σ H Q => t σ H fun xs H1 => zH xs H1 Q
theorem wH {x1} (h : PA X es t) : PE X (.Tuple es x1 pos) (yD t) := PE.weak (y9 h.m) fun σ H Q q => ⟨_, q, fun xs H1 ⟨hl, ds, hd, k⟩ => ⟨hl, fun p hp => by
 have sm : az H1 (upd H1 p (.tup xs)) := fun b u e => by rw [ak (ax e hp)]; exact e
 exact k p _ sm hp ay (.tup ay (hd.keeps sm))⟩⟩
def yG (t : TA) : TE := fun σ H Q => t σ H fun xs H1 => zj xs H1 Q
theorem fc (h : PA X es t) : PE X (.List es pos) (yG t) := PE.weak (AJ h.m) fun σ H Q q => ⟨_, q, fun xs H1 ⟨hl, ds, hd, k⟩ => ⟨hl, fun p hp => by
 have sm : az H1 (upd H1 p (.lst xs)) := fun b u e => by rw [ak (ax e hp)]; exact e
 exact k p _ sm hp ay (hd.keeps sm) (.lst (.of ay) (hd.keeps sm))⟩⟩
variable {st : Stmt} {rest : List Stmt}
def zh (t u : TS) : TS := fun D σ H => ∃ R : St -> Hp -> Prop, t { D with nx := R } σ H /\ ∀ σ' H', R σ' H' -> u D σ' H'
theorem aj {t u : TS} (h1 : PS X st t) (h2 : oF X rest u) : oF X (st :: rest) (zh t u) := by
 intro pins s σ H D I ⟨R, h, k⟩
 refine wpAny_execs_cons (cj (h1 pins s σ H { D with nx := R } I h) fun f s1 q => ?_)
 cases f with
 | next =>
   obtain ⟨σ', H', I', q⟩ := q
   exact h2 pins s1 σ' H' D I' (k _ _ q)
 | ret v => exact q
 | brk => exact q
 | cont => exact q
end
section
variable {σ : St} {H : Hp} {Q : VK} {D : Ends} {K : PySem.W.Frag}
theorem yZ {t u : TS} (h : t { D with nx := u D } σ H) : zh t u D σ H := ⟨u D, h, fun _ _ z => z⟩
theorem zX {t : TA} (h : t σ H fun xs H1 => zH xs H1 Q) : yD t σ H Q := h
theorem zu {xs : List V} {ds : List PyData} (hl : xs.length <= sizeLine) (hd : cu H xs ds) (k : ∀ v H2, az H H2 -> Dv H2 v (.tuple ds) -> Q v H2) : zH xs H Q := ⟨hl, ds, hd, fun p H2 s _ _ d => k (.ref p) H2 s d⟩
theorem Ao {t : TA} (h : t σ H fun xs H1 => zj xs H1 Q) : yG t σ H Q := h
theorem De {f : Bool -> Bool} {x y : V} (e : xU x y = true) (h : Q (.bl (f (decide (x = y)))) H) : oi K f x y H Q := .inl ⟨e, h⟩
theorem vm {f : Bool -> Bool} {x y : V} {d e : PyData} (h1 : Dv H x d) (h2 : Dv H y e) (h3 : d.canLay0 = true) (h4 : e.canLay0 = true) (h5 : d.depth <= 8) (h : Q (.bl (f (PyData.eqv d e))) H) : oi K f x y H Q := .inr ⟨d, e, h1, h2, h3, h4, h5, h⟩
theorem Cw {x : V} {ds : List PyData} {i : Int} {d : PyData} (hs : mG H x ds) (hi : md ds i = some d) (g : nu H d Q) : Bh x (.int i) H Q := .inl ⟨ds, i, d, rfl, hs, hi, g⟩
theorem A0 {v : V} {ds : List PyData} (hs : mG H v ds) (h : Q (.int (ds.length : Nat)) H) : t8 [v] H Q := .inl ⟨v, ds, rfl, hs, h⟩
theorem xR {i : Int} (h : Q (.int i) H) : nu H (.int i) Q := h
theorem wc (h : Q .a0 H) : nu H .none Q := h
theorem nr {i : Str} (h : Q (.str i) H) : nu H (.str i) Q := h
theorem Du {b : Bool} {A B : Prop} (h1 : b = true -> A) (h2 : b = false -> B) : if b = true then A else B := by
 cases b
 . exact Fo (h2 rfl)
 . exact Hi (h1 rfl)
end
theorem bG.nJ {k : Nat} {A : Around} (r : bG k A) : A.units + 8 < cLine := Nat.lt_of_le_of_lt (by omega) r.units
theorem az.at {H H' : Hp} {a : Addr} {o : HO} (s : az H H') (h : H a = some o) : H' a = some o := s a o h
theorem dS {H : Hp} {t : Addr} {o : HO} (h : H t = none) : az H (upd H t o) := fun b u e => by rw [ak (ax e h)]; exact e
section
variable {σ : St} {H : Hp} {Q : VK} {D : Ends} {K : PySem.W.Frag}
end
def isInt : PyData -> Bool | .int _ => true | .bool _ => true | _ => false
def isBool : PyData -> Bool | .bool _ => true | _ => false
def isStr : PyData -> Bool | .str _ => true | _ => false
def C9 : PyData -> Bool | .list _ => true | _ => false
def isTup : PyData -> Bool | .tuple _ => true | _ => false
def DQ : PyData -> Bool | .dict _ => true | _ => false
section
variable {K : PySem.W.Frag} {H : Hp} {v : V} {d : PyData} {Q : VK}
theorem pT (h : Dv H v d) (q : Q (.bl (isBool d)) H) : Ak K [v, .ty "bool"] H Q := A9 h (by decide) (by cases d <;> exact q)
def sS (H : Hp) (v : V) (C : Addr) (fs : List (Str × V)) : Prop := ∃ p dx, v = .ref p /\ H p = some (.ins C dx fs)
theorem sS.keeps {H H' : Hp} {C : Addr} {fs : List (Str × V)} (s : az H H') (h : sS H v C fs) : sS H' v C fs := by
 obtain ⟨p, dx, rfl, e⟩ := h; exact ⟨p, dx, rfl, s _ _ e⟩
theorem AK {R : V -> Prop} {C : Addr} {fs : List (Str × V)} {f : Str} {x : V} (hp : sS H v C fs) (c : lO K C) (n : di K C f) (l : fs.lookup f = some x) (h : R x) :
 ∃ a C dx fs x, v = .ref a /\ H a = some (.ins C dx fs) /\ lO K C /\ di K C f /\ fs.lookup f = some x /\ R x := by
 obtain ⟨p, dx, rfl, e⟩ := hp
 exact ⟨p, C, dx, fs, x, rfl, e, c, n, l, h⟩
theorem wV {C : Addr} {m : Str} {fs : List (Str × V)} {R : Prop} (hp : sS H v C fs) (hl : fs.lookup m = none) (h : R) : ∃ a dx fs, v = .ref a /\ H a = some (.ins C dx fs) /\ fs.lookup m = none /\ R := by
 obtain ⟨p, dx, rfl, e⟩ := hp
 exact ⟨p, dx, fs, rfl, e, hl, h⟩
end
def look (f : Str) : List (Str × V) -> Option V
 | [] => none
 | (g, v) :: r => if f = g then some v else look f r
theorem j3 (f : Str) : ∀ fs : List (Str × V), fs.lookup f = look f fs
 | [] => rfl
 | (g, v) :: r => by
   show (match f == g with | true => some v | false => r.lookup f) = if f = g then some v else look f r
   by_cases h : f = g
   . subst h; rw [if_pos rfl, beq_self_eq_true]
   . rw [if_neg h, beq_eq_false_iff_ne.mpr h]; exact j3 f r
section
variable {X : Cx}
def sH (K : PySem.W.Frag) : R2 := fun x y H Q => Bh x y H Q \/ zD K x y H Q
theorem gs : tq X (sH X.K) := fun value slice pins s σ H x y v u Q I r1 r2 h => h.elim (E5 value slice pins s σ H x y v u Q I r1 r2) (qt value slice pins s σ H x y v u Q I r1 r2)
def qy (K : PySem.W.Frag) : List V -> Hp -> VK -> Prop := fun xs H Q => t8 xs H Q \/ ∃ p ys, xs = [.ref p] /\ dA K H p ys /\ Q (.int ys.length) H
theorem cW : j1 X (.builtin "len") (qy X.K) := fun pins s σ H xs us Q I r h => by
 rcases h with h | ⟨p, ys, e, hl, q⟩
 . exact rP pins s σ H xs us Q I r h
 . exact gv pins s σ H xs us Q I r ⟨p, ys, e, .inl hl, q⟩
end
section
variable {σ : St} {H : Hp} {Q : VK} {D : Ends} {K : PySem.W.Frag}
theorem rk {x : V} {ds : List PyData} {i : Int} {d : PyData} (hs : mG H x ds) (hi : md ds i = some d) (g : nu H d Q) : sH K x (.int i) H Q := .inl (Cw hs hi g)
theorem Ek {p : Addr} {xs : List V} {i : Int} {v : V} (hs : dA K H p xs) (hi : md xs i = some v) (g : Q v H) : sH K (.ref p) (.int i) H Q := .inr ⟨p, xs, i, v, rfl, rfl, hs, hi, g⟩
theorem vp {v : V} {ds : List PyData} (hs : mG H v ds) (h : Q (.int (ds.length : Nat)) H) : qy K [v] H Q := .inl (A0 hs h)
theorem zI {p : Addr} {xs : List V} (hs : dA K H p xs) (h : Q (.int xs.length) H) : qy K [.ref p] H Q := .inr ⟨p, xs, rfl, hs, h⟩
theorem zA {ta tv : TE} {f : Str} (h : tv σ H fun y H1 => ta σ H1 fun x H2 => ∃ a C dx fs, x = .ref a /\ H2 a = some (.ins C dx fs) /\ lO K C /\ di K C f /\ fs.length < 1000 /\ D.nx σ (upd H2 a (.ins C dx (fF f y fs)))) : DJ K ta tv f D σ H := h
theorem xa {p C dx : Addr} {fs EY : List (Str × V)} {f : Str} {y : V} (hp : H p = some (.ins C dx fs)) (c : lO K C) (n : di K C f) (hl : fs.length < 1000) (e : fF f y fs = EY) (h : D.nx σ (upd H p (.ins C dx EY))) :
 ∃ a C dx fs, V.ref p = .ref a /\ H a = some (.ins C dx fs) /\ lO K C /\ di K C f /\ fs.length < 1000 /\ D.nx σ (upd H a (.ins C dx (fF f y fs))) := ⟨p, C, dx, fs, rfl, hp, c, n, hl, by rw [e]; exact h⟩
theorem GK {R : Prop} (h : R) : V.a0 = V.a0 /\ R := ⟨rfl, h⟩
end
theorem bg {i : Int} (h1 : -(10 ^ 200) < i) (h2 : i < 10 ^ 200) : i.natAbs < 2 ^ 2000 := by
 have : (10 : Nat) ^ 200 < 2 ^ 2000 := by decide +kernel
 have h3 : i.natAbs < 10 ^ 200 := by
  have e : ((10 : Nat) ^ 200 : Nat) = ((10 : Int) ^ 200).toNat := by decide +kernel
  rw [e]
  generalize (10 : Int) ^ 200 = m at h1 h2 ⊢
  omega
 exact Nat.lt_trans h3 this
theorem Ej {i j : Int} (h1 : -(10 ^ 200) < i /\ i < 10 ^ 200) (h2 : -(10 ^ 200) < j /\ j < 10 ^ 200) : qo i j := ⟨bg h1.1 h1.2, bg h2.1 h2.2⟩
theorem DK {i j : Int} (h1 : 0 < j) (h2 : j < 10 ^ 200) : yd i j := ⟨h1, bg (Int.lt_trans (by decide) h1) h2⟩
def cell (ns : List Int) (k : Nat) : Int := ns.getD k 0
def pI (K : PySem.W.Frag) : Sp := fun vs H Q _ => ∃ l ns k, vs = [.ref l, .int k] /\ dA K H l (ns.map V.int) /\ 0 <= k /\ Q (.int (cell ns k.toNat)) H
theorem Bp {K : PySem.W.Frag} {H : Hp} {Q : VK} {E : XK} {l : Addr} {ns : List Int} {k : Int} (h : dA K H l (ns.map V.int)) (hk : 0 <= k) (q : Q (.int (cell ns k.toNat)) H) : pI K [.ref l, .int k] H Q E := ⟨l, ns, k, rfl, h, hk, q⟩
theorem xS {ns : List Int} {k : Int} (h0 : 0 <= k) (h : k < (ns.map V.int).length) : md (ns.map V.int) k = some (.int (cell ns k.toNat)) := by
 obtain ⟨n, rfl⟩ := Int.eq_ofNat_of_zero_le h0
 refine ko ?_
 have hn : n < ns.length := by simpa using h
 simp [cell, hn, List.getD_eq_getElem?_getD]
theorem wa {ns : List Int} {k : Int} (h0 : 0 <= k) (h : ¬ k < (ns.map V.int).length) : cell ns k.toNat = 0 := by
 have : ns.length <= k.toNat := by simp at h; omega
 simp [cell, List.getD_eq_getElem?_getD, this]
def lH (sp : Sp) (vs : List V) (H : Hp) (Q : VK) (E : XK) : Prop := ∃ ws, vs = ws /\ sp ws H Q E
theorem oA (sp : Sp) (vs : List V) (H : Hp) (Q : VK) (E : XK) : lH sp vs H Q E = sp vs H Q E := propext ⟨fun ⟨_, e, h⟩ => e ▸ h, fun h => ⟨vs, rfl, h⟩⟩
def nB (sp : Sp) (cC : List V) (E : XK) (t : TA) : TE := fun σ H Q => t σ H fun vs H1 => lH sp (vs ++ cC) H1 Q E
theorem rL (sp : Sp) (cC : List V) (E : XK) (t : TA) : nB sp cC E t = qL sp cC E t := by
 funext σ H Q; unfold nB qL; congr 1; funext vs H1; exact oA _ _ _ _ _
def kX (C : Addr) (m : Str) (sp : Sp) (cC : List V) (E : XK) (ta : TE) (t : TA) : TE := fun σ H Q => ta σ H fun x H1 => ∃ a dx fs, x = .ref a /\ H1 a = some (.ins C dx fs) /\ fs.lookup m = none /\
 t σ H1 fun vs H2 => lH sp (x :: (vs ++ cC)) H2 Q E
theorem lZ (C : Addr) (m : Str) (sp : Sp) (cC : List V) (E : XK) (ta : TE) (t : TA) : kX C m sp cC E ta t = lU C m sp cC E ta t := by
 funext σ H Q; unfold kX lU; congr 1; funext x H1
 have : ∀ H2 : Hp, (fun vs H2 => lH sp (x :: (vs ++ cC)) H2 Q E) = fun vs H2 => sp (x :: (vs ++ cC)) H2 Q E := fun _ => by funext vs H2; exact oA _ _ _ _ _
 rw [this H1]
def nU (C : Addr) (sp : Sp) (vs : List V) (H1 : Hp) (Q : VK) (E : XK) : Prop := ∃ ws, vs = ws /\ ∀ x dx, H1 x = none -> H1 dx = none -> dx ≠ x ->
 sp (.ref x :: ws) (upd (upd H1 dx (.own x)) x (.ins C dx [])) (fun v H2 => v = .a0 /\ Q (.ref x) H2) E
def nq (C : Addr) (sp : Sp) (cC : List V) (E : XK) (t : TA) : TE := fun σ H Q => t σ H fun vs H1 => nU C sp (vs ++ cC) H1 Q E
theorem rV (C : Addr) (sp : Sp) (cC : List V) (E : XK) (t : TA) : nq C sp cC E t = vq C sp cC E t := by
 funext σ H Q; unfold nq vq nU; congr 1; funext vs H1
 exact propext ⟨fun ⟨_, e, h⟩ => by subst e; exact h, fun h => ⟨_, rfl, h⟩⟩
section
variable {X : Cx} {k : Nat} {f C : Addr} {ps : List Str} {sp : Sp} {cC : List V} {x m : Str} {p pos apos : Pos} {e o : Expr} {es : List Expr} {ta : TE} {t : TA}
theorem cw (c : iN X.prog X.w X.K X.mg X.base k f ps cC sp) (hr : bG k X.A) (hg : Gl X x) (hm : X.mg x = some (.ref f)) (hk : PySem.W.keepIn X.K (.ref f) = true)
 (ha : PA X (e :: es) t) (uX : (x == ("__debug__" : Str)) = false := by decide) (he : starEach (e :: es) X.env = (false, eval e X.env) :: starEach es X.env := by rfl) (oX : (backTo pos (starEach es X.env)).any (·.1) = false := by rfl) :
 PE X (.Call (.Name x p) (e :: es) [] pos) (nB sp cC E0 t) := by rw [rL]; exact xY c hr hg hm hk ha uX he oX
theorem aA {pl : Sem Bool} (he : PE X o ta) (c : lO X.K C) (hm : Meth X.K C m f) (F : iN X.prog X.w X.K X.mg X.base k f ps cC sp) (hr : bG k X.A) (ha : PA X (e :: es) t)
 (qE : starEach (e :: es) X.env = (false, eval e X.env) :: starEach es X.env := by rfl) (oX : (backTo pos (starEach es X.env)).any (·.1) = false := by rfl)
 (ht : eval (.Call (.Attribute o m apos) (e :: es) [] pos) X.env = (do
  let ov <- eval o X.env
  standAt apos.atName
  let (f, first) <- holding [ov] (getMethod ov m pl)
  callWith pos f first (backTo pos (starEach (e :: es) X.env)) (backToKw pos (keywordEach [] X.env))) := by rfl) :
 PE X (.Call (.Attribute o m apos) (e :: es) [] pos) (kX C m sp cC E0 ta t) := by rw [lZ]; exact wx he c hm F hr ha qE oX ht
theorem fL {pl : Sem Bool} (he : PE X o ta) (c : lO X.K C) (hm : Meth X.K C m f) (F : iN X.prog X.w X.K X.mg X.base k f ps cC sp) (hr : bG k X.A)
 (ht : eval (.Call (.Attribute o m apos) [] [] pos) X.env = (do
  let ov <- eval o X.env
  standAt apos.atName
  let (f, first) <- holding [ov] (getMethod ov m pl)
  callWith pos f first (backTo pos (starEach [] X.env)) (backToKw pos (keywordEach [] X.env))) := by rfl) :
 PE X (.Call (.Attribute o m apos) [] [] pos) (kX C m sp cC E0 ta pY) := by rw [lZ]; exact u3 he c hm F hr ht
end
section
variable {σ : St} {H : Hp} {Q : VK} {D : Ends} {K : PySem.W.Frag}
theorem wO {sp : Sp} {cC : List V} {E : XK} {t : TA} (h : t σ H fun vs H1 => lH sp (vs ++ cC) H1 Q E) : nB sp cC E t σ H Q := h
theorem pK {sp : Sp} {vs ws : List V} {E : XK} (e : vs = ws) (h : sp ws H Q E) : lH sp vs H Q E := ⟨ws, e, h⟩
theorem wG {C : Addr} {m : Str} {sp : Sp} {cC : List V} {E : XK} {ta : TE} {t : TA} (h : ta σ H fun x H1 => ∃ a dx fs, x = .ref a /\ H1 a = some (.ins C dx fs) /\ fs.lookup m = none /\ t σ H1 fun vs H2 => lH sp (x :: (vs ++ cC)) H2 Q E) : kX C m sp cC E ta t σ H Q := h
theorem vZ {C : Addr} {sp : Sp} {cC : List V} {E : XK} {t : TA} (h : t σ H fun vs H1 => nU C sp (vs ++ cC) H1 Q E) : nq C sp cC E t σ H Q := h
theorem Bj {b : Bool} {R : Bool -> Prop} (h : R b) : ∃ k, xr K (.bl b) H k /\ R k := ⟨b, rfl, h⟩
end
theorem yI {n : Nat} (h : Nat.ble n 64 = true) : n <= sizeLine := Nat.le_trans (Nat.le_of_ble_eq_true h) (by decide)
section
variable {X : Cx} {st : Stmt} {rest : List Stmt}
def yQ (t u : TS) : TS := zh t u
theorem ud {t u : TS} (h1 : PS X st t) (h2 : oF X rest u) : oF X (st :: rest) (yQ t u) := aj h1 h2
end
section
variable {σ : St} {H : Hp} {Q : VK} {D : Ends} {K : PySem.W.Frag}
theorem Ab {t u : TS} (R : St -> Hp -> Prop) (h : t { D with nx := R } σ H) (k : ∀ σ' H', R σ' H' -> u D σ' H') : yQ t u D σ H := ⟨R, h, k⟩
def A4 (K : PySem.W.Frag) (x : V) (g : TG) (tb : TS) (D : Ends) (σ : St) (H1 : Hp) : Prop := ∃ a, x = .ref a /\ (∃ xs, dA K H1 a xs) /\ ∃ W : Nat -> Nat -> St -> Hp -> Prop, (∃ m, W 0 m σ H1) /\ ∀ i m σ H, W i m σ H ->
 ((vL K a).stop i H /\ D.nx σ H) \/ ((vL K a).go i H /\ ∃ N : St -> Hp -> Prop, (∀ σ' H', N σ' H' -> ∃ m', m' < m /\ W (i + 1) m' σ' H') /\ ∀ x H', (vL K a).v9 i H x H' -> g x σ H' fun σ2 H2 => tb { D with nx := N, ct := N, bk := D.nx } σ2 H2)
theorem C7 {tl : TE} {g : TG} {tb : TS} (h : tl σ H fun x H1 => A4 K x g tb D σ H1) : tU (tX K tl) g tb D σ H := h
theorem forL {a : Addr} {xs : List V} {g : TG} {tb : TS} (hl : dA K H a xs) (Pv : Nat -> St -> Hp -> Prop) (h0 : Pv 0 σ H) (hk : ∀ i σ H, i <= xs.length -> Pv i σ H -> dA K H a xs)
 (hs : ∀ i x σ H, xs[i]? = some x -> Pv i σ H -> g x σ H fun σ2 H2 => tb { D with nx := Pv (i + 1), ct := Pv (i + 1), bk := D.nx } σ2 H2) (hd : ∀ σ H, Pv xs.length σ H -> D.nx σ H) : A4 K (.ref a) g tb D σ H :=
 ⟨a, rfl, ⟨xs, hl⟩, vx Pv h0 hk hs hd⟩
def Hj (lo : Int) (n : Nat) (g : TG) (tb : TS) (D : Ends) (σ : St) (H1 : Hp) : Prop := ∃ W : Nat -> Nat -> St -> Hp -> Prop, (∃ m, W 0 m σ H1) /\ ∀ i m σ H, W i m σ H ->
 ((xl lo n).stop i H /\ D.nx σ H) \/ ((xl lo n).go i H /\ ∃ N : St -> Hp -> Prop, (∀ σ' H', N σ' H' -> ∃ m', m' < m /\ W (i + 1) m' σ' H') /\ ∀ x H', (xl lo n).v9 i H x H' -> g x σ H' fun σ2 H2 => tb { D with nx := N, ct := N, bk := D.nx } σ2 H2)
theorem v7 {ta : TA} {g : TG} {tb : TS} (h : ta σ H fun vs H1 => ∃ j : Int, vs = [.int j] /\ -(2 ^ 62) <= j /\ j < 2 ^ 62 /\ Hj 0 j.toNat g tb D σ H1) : tU (ye ta) g tb D σ H := h
theorem zR {j : Int} {R : Int -> Prop} (h1 : -(2 ^ 62) <= j) (h2 : j < 2 ^ 62) (h : R j) : ∃ i : Int, [V.int j] = [.int i] /\ -(2 ^ 62) <= i /\ i < 2 ^ 62 /\ R i := ⟨j, rfl, h1, h2, h⟩
end
section
variable {X : Cx}
def yJ : R2 := fun x y H Q => ∃ i j, x = .int i /\ y = .int j /\ 0 < j /\ (0 <= i % j -> i % j < j -> Q (.int (i % j)) H)
theorem aM : iT X (binaryOp .Mod) yJ := fun pins s σ H x y v u Q I rx ry ⟨i, j, e1, e2, hj, h⟩ => An pins s σ H x y v u Q I rx ry ⟨i, j, e1, e2, hj, h (Int.emod_nonneg _ (by omega)) (Int.emod_lt_of_pos _ hj)⟩
end
section
variable {σ : St} {H : Hp} {Q : VK} {D : Ends} {K : PySem.W.Frag}
theorem Bo {i j : Int} (hj : 0 < j) (h : 0 <= i % j -> i % j < j -> Q (.int (i % j)) H) : yJ (.int i) (.int j) H Q := ⟨i, j, rfl, rfl, hj, h⟩
end
section
variable {σ : St} {H : Hp} {Q : VK} {D : Ends} {K : PySem.W.Frag}
def yN (Pv : Nat -> St -> Hp -> Prop) (m : Nat) (tb : TS) (D : Ends) (σ : St) (H1 : Hp) : Prop := ∃ N : St -> Hp -> Prop, (∀ σ' H', N σ' H' -> ∃ m', m' < m /\ Pv m' σ' H') /\ tb { D with nx := N, ct := N, bk := D.nx } σ H1
theorem BA {Pv : Nat -> St -> Hp -> Prop} {m : Nat} {tb : TS} (h : tb { D with nx := fun σ' H' => ∃ m', m' < m /\ Pv m' σ' H', ct := fun σ' H' => ∃ m', m' < m /\ Pv m' σ' H', bk := D.nx } σ H) : yN Pv m tb D σ H := ⟨_, fun _ _ h => h, h⟩
theorem x8 {c : TT} {tb : TS} (Pv : Nat -> St -> Hp -> Prop) (h0 : ∃ m, Pv m σ H) (hs : ∀ m σ H, Pv m σ H -> c σ H fun b H1 => if b = true then yN Pv m tb D σ H1 else D.nx σ H1) : vC c tb D σ H := ⟨Pv, h0, hs⟩
end
end L2
namespace L2
theorem wU {n : Nat} (h : Nat.blt n 1000 = true) : n < 1000 := by
 unfold Nat.blt at h
 exact Nat.le_of_ble_eq_true h
end L2
namespace L2
open PySem PySem.Spec PyProof.Rows
section
variable {X : Cx}
end
section
variable {σ : St} {H : Hp} {Q : VK} {D : Ends} {K : PySem.W.Frag}
end
theorem Bd {H : Hp} {Q : VK} {i j p : Int} (c : Bq i j) (e : i ^ j.toNat = p) (h : Q (.int p) H) : rI Bq (fun i j => .int (i ^ j.toNat)) (.int i) (.int j) H Q := ⟨i, j, rfl, rfl, c, by show Q (.int (i ^ j.toNat)) H; rw [e]; exact h⟩
section
variable {X : Cx} {e : Expr}
end
section
variable {σ : St} {H : Hp} {Q : VK} {D : Ends} {K : PySem.W.Frag}
end
end L2
namespace L2
end L2
namespace L2
open PySem PySem.Spec PyProof.Rows PySem.W
structure K4 (lt : Nat -> Nat -> Bool) : Prop where
 D2 : ∀ a, lt a a = false
 Dm : ∀ a b, lt a b = true -> lt b a = false
 vP : ∀ a b c, lt a b = false -> lt b c = false -> lt a c = false
section
variable {lt : Nat -> Nat -> Bool} {n : Nat} {S : Shared -> Prop} {cmp : Nat -> Nat -> (Bool -> Shared -> Prop) -> Shared -> Prop}
def Up (lt : Nat -> Nat -> Bool) (p : Array Nat) (k : Nat) : Prop := ∀ i j, i < j -> j < k -> lt (p.getD j 0) (p.getD i 0) = false
def Down (lt : Nat -> Nat -> Bool) (p : Array Nat) (k : Nat) : Prop := ∀ i j, i < j -> j < k -> lt (p.getD i 0) (p.getD j 0) = false
def Alike (lt : Nat -> Nat -> Bool) (p : Array Nat) (a b : Nat) : Prop := ∀ i j, a <= i -> i < b -> a <= j -> j < b -> lt (p.getD i 0) (p.getD j 0) = false
structure Ix (n : Nat) (p : Array Nat) : Prop where
 sz : p.size = n
 pm : p.toList.Perm (List.range n)
theorem Ix.low {p : Array Nat} (h : Ix n p) {i : Nat} (hi : i < n) : p.getD i 0 < n := by
 have sg : i < p.size := by rw [h.sz]; exact hi
 have e : p.getD i 0 = p[i] := by simp [Array.getD, sg]
 rw [e]
 have : p[i] ∈ p.toList := by simp
 exact List.mem_range.mp (h.pm.mem_iff.mp this)
theorem Ix.perm {p q : Array Nat} (h : Ix n p) (hq : q.Perm p) : Ix n q := ⟨hq.size_eq.trans h.sz, (Array.perm_iff_toList_perm.mp hq).trans h.pm⟩
theorem dP {p : Array Nat} {i j : Nat} (hj : j <= p.size) (k : Nat) : (kas_rev p i j).getD k 0 = if i <= k /\ k < j then p.getD (i + j - 1 - k) 0 else p.getD k 0 := by
 unfold kas_rev
 rw [Array.getD_eq_getD_getElem?, getElem?_mirror_all hj k]
 by_cases h : i <= k /\ k < j
 . rw [if_pos h, if_pos h, Array.getD_eq_getD_getElem?]
 . rw [if_neg h, if_neg h, Array.getD_eq_getD_getElem?]
theorem kO {p : Array Nat} (h : Ix n p) (i j : Nat) : Ix n (kas_rev p i j) := h.perm (mirror_perm _ _ _ _)
theorem nM {p : Array Nat} {k d : Nat} (hk : k < p.size) (hd : d <= k) (i : Nat) : (bubble p k d).getD i 0 = if i = k - d then p.getD k 0 else if k - d < i /\ i <= k then p.getD (i - 1) 0 else p.getD i 0 := by
 rw [Array.getD_eq_getD_getElem?, getElem?_bubble hk d hd i]
 by_cases h : i = k - d
 . rw [if_pos h, if_pos h, Array.getD_eq_getD_getElem?]
 . rw [if_neg h, if_neg h]
   by_cases h2 : k - d < i /\ i <= k
   . rw [if_pos h2, if_pos h2, Array.getD_eq_getD_getElem?]
   . rw [if_neg h2, if_neg h2, Array.getD_eq_getD_getElem?]
def C0 (n : Nat) (lt : Nat -> Nat -> Bool) (S : Shared -> Prop) (cmp : Nat -> Nat -> (Bool -> Shared -> Prop) -> Shared -> Prop) : Prop :=
 ∀ i j C s, i < n -> j < n -> S s -> (∀ s', S s' -> C (lt i j) s') -> cmp i j C s
variable (w : K4 lt) (ha : C0 n lt S cmp)
include w ha
theorem pB {p : Array Nat} (hp : Ix n p) {Q : Nat -> Shared -> Prop} : ∀ (f k : Nat), 1 <= k -> k + f <= n -> Up lt p k -> (∀ m s, S s -> k <= m -> m <= k + f -> Up lt p m -> (m = k + f \/ (m < k + f /\ lt (p.getD m 0) (p.getD (m - 1) 0) = true)) -> Q m s) -> ∀ s, S s -> (kas_asc p f k).kasWp cmp Q s
 | 0, k, _, _, hu, hq, s, hs => hq k s hs (Nat.le_refl _) (Nat.le_refl _) hu (.inl rfl)
 | f + 1, k, h1, hf, hu, hq, s, hs => by
   refine ha _ _ _ _ (hp.low (by omega)) (hp.low (by omega)) hs fun s' t7 => ?_
   cases e : lt (p.getD k 0) (p.getD (k - 1) 0) with
   | true => exact hq k s' t7 (Nat.le_refl _) (by omega) hu (.inr ⟨by omega, e⟩)
   | false =>
     refine pB hp f (k + 1) (by omega) (by omega) (fun i j lA hj => ?_) (fun m s hs a b c d => hq m s hs (by omega) (by omega) c (by rcases d with d | d; exact .inl (by omega); exact .inr ⟨by omega, d.2⟩)) s' t7
     by_cases Ay : j < k
     . exact hu i j lA Ay
     . have : j = k := by omega
       subst this
       by_cases hi : i = j - 1
       . rw [hi]; exact e
       . exact w.vP _ _ _ e (hu i (j - 1) (by omega) (by omega))
theorem kl {Q : Array Nat × Nat × Nat -> Shared -> Prop} : ∀ (f : Nat) (p : Array Nat) (k q : Nat), Ix n p -> k + f <= n -> q + 1 <= k -> Down lt p k -> Alike lt p (k - (q + 1)) k ->
 (∀ p' k' q' s, S s -> Ix n p' -> k <= k' -> k' <= k + f -> q' + 1 <= k' -> Down lt p' k' -> Alike lt p' (k' - (q' + 1)) k' -> Q (p', k', q') s) -> ∀ s, S s -> (kas_desc f p k q).kasWp cmp Q s
 | 0, p, k, q, hp, _, h1, hd, hl, hq, s, hs => hq p k q s hs hp (Nat.le_refl _) (Nat.le_refl _) h1 hd hl
 | f + 1, p, k, q, hp, hf, h1, hd, hl, hq, s, hs => by
   refine ha _ _ _ _ (hp.low (by omega)) (hp.low (by omega)) hs fun s' t7 => ?_
   cases e : lt (p.getD k 0) (p.getD (k - 1) 0) with
   | true =>
     have p9 : ∀ i, i < k -> lt (p.getD i 0) (p.getD k 0) = false := fun i hi => by
      by_cases h : i = k - 1
      . rw [h]; exact w.Dm _ _ e
      . exact w.vP _ _ _ (hd i (k - 1) (by omega) (by omega)) (w.Dm _ _ e)
     by_cases h0 : q > 0
     . simp only [if_true, if_pos h0]
       have hk : k <= p.size := by rw [hp.sz]; omega
       refine kl f _ (k + 1) 0 (kO hp _ _) (by omega) (by omega) (fun i j lA hj => ?_) (fun i j a b c d => ?_) (fun p' k' q' s hs a b c d e f => hq p' k' q' s hs a (by omega) (by omega) d e f) s' t7
       . rw [dP hk, dP hk]
         by_cases Ay : j = k
         . subst Ay
           rw [if_neg (show ¬ (j - (q + 1) <= j /\ j < j) by omega)]
           by_cases hi : j - (q + 1) <= i /\ i < j
           . rw [if_pos hi]; exact p9 _ (by omega)
           . rw [if_neg hi]; exact p9 _ lA
         . by_cases hi : k - (q + 1) <= i /\ i < k
           . rw [if_pos hi, if_pos (show k - (q + 1) <= j /\ j < k by omega)]
             exact hl _ _ (by omega) (by omega) (by omega) (by omega)
           . rw [if_neg hi]
             by_cases yU : k - (q + 1) <= j /\ j < k
             . rw [if_pos yU]; exact hd _ _ (by omega) (by omega)
             . rw [if_neg yU]; exact hd _ _ lA (by omega)
       . have : i = k := by omega
         have : j = k := by omega
         subst_vars
         exact w.D2 _
     . simp only [if_true, if_neg h0]
       refine kl f _ (k + 1) 0 hp (by omega) (by omega) (fun i j lA hj => ?_) (fun i j a b c d => ?_) (fun p' k' q' s hs a b c d e f => hq p' k' q' s hs a (by omega) (by omega) d e f) s' t7
       . by_cases Ay : j = k
         . subst Ay; exact p9 _ lA
         . exact hd _ _ lA (by omega)
       . have : i = k := by omega
         have : j = k := by omega
         subst_vars
         exact w.D2 _
   | false =>
     simp only [Bool.false_eq_true, if_false]
     refine ha _ _ _ _ (hp.low (by omega)) (hp.low (by omega)) t7 fun s2 yg => ?_
     cases e2 : lt (p.getD (k - 1) 0) (p.getD k 0) with
     | true => simp only [if_true]; exact hq p k q s2 yg hp (Nat.le_refl _) (by omega) h1 hd hl
     | false =>
       simp only [Bool.false_eq_true, if_false]
       refine kl f _ (k + 1) (q + 1) hp (by omega) (by omega) (fun i j lA hj => ?_) (fun i j a b c d => ?_) (fun p' k' q' s hs a b c d e f => hq p' k' q' s hs a (by omega) (by omega) d e f) s2 yg
       . by_cases Ay : j = k
         . subst Ay
           by_cases h : i = j - 1
           . rw [h]; exact e2
           . exact w.vP _ _ _ (hd i (j - 1) (by omega) (by omega)) e2
         . exact hd _ _ lA (by omega)
       . by_cases hi : i = k
         . by_cases hj : j = k
           . rw [hi, hj]; exact w.D2 _
           . rw [hi]; exact w.vP _ _ _ e (hl _ _ (by omega) (by omega) (by omega) (by omega))
         . by_cases hj : j = k
           . rw [hj]; exact w.vP _ _ _ (hl _ _ (by omega) (by omega) (by omega) (by omega)) e2
           . exact hl _ _ (by omega) (by omega) (by omega) (by omega)
theorem oB {Q : Nat × Array Nat -> Shared -> Prop} {p : Array Nat} {k : Nat} (hp : Ix n p) (h1 : 1 <= k) (hk : k <= n) (hd : Down lt p k) (hq : ∀ m p' s, S s -> Ix n p' -> 1 <= m -> m <= n -> Up lt p' m -> Q (m, p') s) (s : Shared) (hs : S s) : (kas_tail3 k n p).kasWp cmp Q s := by
 unfold kas_tail3
 rw [KasT.kasWp_bind]
 have qw : k <= p.size := by rw [hp.sz]; exact hk
 refine pB w ha (kO hp 0 k) (n - k) k h1 (by omega) (fun i j lA hj => ?_) (fun m s hs a b c _ => hq m _ s hs (kO hp _ _) (by omega) (by omega) c) s hs
 rw [dP qw, dP qw, if_pos (by omega), if_pos (by omega)]
 exact hd _ _ (by omega) (by omega)
theorem j4 {Q : Nat × Array Nat -> Shared -> Prop} {p : Array Nat} {k : Nat} (hp : Ix n p) (h1 : 1 <= k) (hk : k + 1 <= n) (hd : Down lt p (k + 1)) (hq : ∀ m p' s, S s -> Ix n p' -> 1 <= m -> m <= n -> Up lt p' m -> Q (m, p') s) (s : Shared) (hs : S s) : (kas_descPart k n p).kasWp cmp Q s := by
 unfold kas_descPart
 rw [KasT.kasWp_bind]
 refine kl w ha _ p (k + 1) 0 hp (by omega) (by omega) hd (fun i j a b c d => ?_) (fun p' k' q' s hs CQ a b c nE hl => ?_) s hs
 . have : i = k := by omega
   have : j = k := by omega
   subst_vars
   exact w.D2 _
 . by_cases h0 : q' > 0
   . simp only [if_pos h0]
     have qw : k' <= p'.size := by rw [CQ.sz]; omega
     refine oB w ha (kO CQ _ _) (by omega) (by omega) (fun i j lA hj => ?_) hq s hs
     rw [dP qw, dP qw]
     by_cases hi : k' - (q' + 1) <= i /\ i < k'
     . rw [if_pos hi, if_pos (by omega)]; exact hl _ _ (by omega) (by omega) (by omega) (by omega)
     . rw [if_neg hi]
       by_cases yU : k' - (q' + 1) <= j /\ j < k'
       . rw [if_pos yU]; exact nE _ _ (by omega) (by omega)
       . rw [if_neg yU]; exact nE _ _ lA (by omega)
   . simp only [if_neg h0]
     exact oB w ha CQ (by omega) (by omega) nE hq s hs
theorem vj {Q : Nat × Array Nat -> Shared -> Prop} {p : Array Nat} (hn : 1 <= n) (hp : Ix n p) (hq : ∀ m p' s, S s -> Ix n p' -> 1 <= m -> m <= n -> Up lt p' m -> Q (m, p') s) (s : Shared) (hs : S s) : (kas_count n p).kasWp cmp Q s := by
 unfold kas_count
 rw [KasT.kasWp_bind]
 refine pB w ha hp (n - 1) 1 (Nat.le_refl _) (by omega) (fun i j _ _ => by omega) (fun m s hs a b hu hc => ?_) s hs
 by_cases hm : (m == n) = true
 . simp only [if_pos hm]; exact hq m p s hs hp a (by have := beq_iff_eq.mp hm; omega) hu
 . simp only [if_neg hm]
   have LV : m ≠ n := fun z => hm (beq_iff_eq.mpr z)
   have jK : m < n := by omega
   have sD : lt (p.getD m 0) (p.getD (m - 1) 0) = true := by
    rcases hc with hc | hc
    . omega
    . exact hc.2
   by_cases h1 : m > 1
   . simp only [if_pos h1]
     refine ha _ _ _ _ (hp.low (by omega)) (hp.low (by omega)) hs fun s2 yg => ?_
     cases e : lt (p.getD 0 0) (p.getD (m - 1) 0) with
     | true => simp only [if_true]; exact hq m p s2 yg hp a (by omega) hu
     | false =>
       simp only [Bool.false_eq_true, if_false]
       have hk : m <= p.size := by rw [hp.sz]; omega
       have al : ∀ i j, i < m -> j < m -> lt (p.getD i 0) (p.getD j 0) = false := fun i j hi hj => by
        have h1 : lt (p.getD i 0) (p.getD 0 0) = false := by
         by_cases h : i = 0
         . rw [h]; exact w.D2 _
         . exact hu 0 i (by omega) hi
        have h2 : lt (p.getD i 0) (p.getD (m - 1) 0) = false := w.vP _ _ _ h1 e
        by_cases h : j = m - 1
        . rw [h]; exact h2
        . exact w.vP _ _ _ h2 (hu j (m - 1) (by omega) (by omega))
       refine j4 w ha (kO hp _ _) a (by omega) (fun i j lA hj => ?_) hq s2 yg
       rw [dP hk, dP hk, if_pos (by omega)]
       by_cases L9 : j < m
       . rw [if_pos (by omega)]; exact al _ _ (by omega) (by omega)
       . rw [if_neg (by omega)]
         have : j = m := by omega
         subst this
         exact w.vP _ _ _ (al _ (j - 1) (by omega) (by omega)) (w.Dm _ _ sD)
   . simp only [if_neg h1]
     refine j4 w ha hp a (by omega) (fun i j lA hj => ?_) hq s hs
     have h1 : m = 1 := by omega
     have hi : i = m - 1 := by omega
     have hj : j = m := by omega
     rw [hi, hj]
     exact w.Dm _ _ sD
theorem lz {p : Array Nat} {k : Nat} (hp : Ix n p) (hk : k < n) (hu : Up lt p k) {Q : Nat -> Shared -> Prop} : ∀ (f l r : Nat), l <= r -> r <= k -> r - l <= f -> (∀ i, i < l -> lt (p.getD k 0) (p.getD i 0) = false) -> (∀ i, r <= i -> i < k -> lt (p.getD k 0) (p.getD i 0) = true) ->
 (∀ l s, S s -> l <= k -> (∀ i, i < l -> lt (p.getD k 0) (p.getD i 0) = false) -> (∀ i, l <= i -> i < k -> lt (p.getD k 0) (p.getD i 0) = true) -> Q l s) -> ∀ s, S s -> (kas_place p k f l r).kasWp cmp Q s
 | 0, l, r, Jo, hr, hf, h1, h2, hq, s, hs => hq l s hs (by omega) h1 (fun i a b => h2 i (by omega) b)
 | f + 1, l, r, Jo, hr, hf, h1, h2, hq, s, hs => by
   unfold kas_place
   by_cases h : l ≥ r
   . rw [if_pos h]; exact hq l s hs (by omega) h1 (fun i a b => h2 i (by omega) b)
   . rw [if_neg h]
     refine ha _ _ _ _ (hp.low hk) (hp.low (by omega)) hs fun s' t7 => ?_
     cases e : lt (p.getD k 0) (p.getD ((l + r) / 2) 0) with
     | true =>
       simp only [if_true]
       refine lz hp hk hu f l ((l + r) / 2) (by omega) (by omega) (by omega) h1 (fun i a b => ?_) hq s' t7
       by_cases hi : i = (l + r) / 2
       . rw [hi]; exact e
       . cases e3 : lt (p.getD k 0) (p.getD i 0) with
         | true => rfl
         | false => rw [w.vP _ _ _ e3 (hu ((l + r) / 2) i (by omega) b)] at e; exact e
     | false =>
       simp only [Bool.false_eq_true, if_false]
       refine lz hp hk hu f ((l + r) / 2 + 1) r (by omega) (by omega) (by omega) (fun i a => ?_) h2 hq s' t7
       by_cases hi : i = (l + r) / 2
       . rw [hi]; exact e
       . exact w.vP _ _ _ e (hu i ((l + r) / 2) (by omega) (by omega))
theorem uW {Q : Array Nat -> Shared -> Prop} : ∀ (f : Nat) (p : Array Nat) (k : Nat), Ix n p -> k + f = n -> Up lt p k -> (∀ p' s, S s -> Ix n p' -> Up lt p' n -> Q p' s) -> ∀ s, S s -> (kas_bin f p k).kasWp cmp Q s
 | 0, p, k, hp, hf, hu, hq, s, hs => by
   have : k = n := by omega
   subst this
   exact hq p s hs hp hu
 | f + 1, p, k, hp, hf, hu, hq, s, hs => by
   unfold kas_bin
   rw [KasT.kasWp_bind]
   refine lz w ha hp (by omega) hu k 0 k (by omega) (Nat.le_refl _) (by omega) (fun i h => by omega) (fun i a b => by omega) (fun l s hs hl h1 h2 => ?_) s hs
   have hk : k < p.size := by rw [hp.sz]; omega
   refine uW f _ (k + 1) (hp.perm (bubble_perm _ _ _)) (by omega) (fun i j lA hj => ?_) hq s hs
   rw [nM hk (by omega), nM hk (by omega)]
   have el : k - (k - l) = l := by omega
   rw [el]
   by_cases yT : j = l
   . rw [if_pos yT, if_neg (by omega), if_neg (by omega)]; exact h1 i (by omega)
   . rw [if_neg yT]
     by_cases EA : i = l
     . rw [if_pos EA, if_pos (by omega)]; exact w.Dm _ _ (h2 _ (by omega) (by omega))
     . rw [if_neg EA]
       by_cases vN : l < i /\ i <= k
       . rw [if_pos vN, if_pos (by omega)]; exact hu _ _ (by omega) (by omega)
       . rw [if_neg vN]
         by_cases yU : l < j /\ j <= k
         . rw [if_pos yU]; exact hu _ _ (by omega) (by omega)
         . rw [if_neg yU]; exact hu _ _ lA (by omega)
theorem xg {Q : Array Nat -> Shared -> Prop} (hn : 1 <= n) (hq : ∀ p' s, S s -> Ix n p' -> Up lt p' n -> Q p' s) (s : Shared) (hs : S s) : (kas_sort n).kasWp cmp Q s := by
 unfold kas_sort
 rw [KasT.kasWp_bind]
 refine vj w ha hn ⟨by simp, by simp⟩ (fun m p' s hs hp h1 hm hu => ?_) s hs
 by_cases h : m < n
 . simp only [if_pos h]
   have : max m 1 = m := by omega
   rw [this]
   exact uW w ha _ p' m hp (by omega) hu hq s hs
 . simp only [if_neg h]
   have : m = n := by omega
   subst this
   exact hq p' s hs hp hu
end
section
variable {X : Cx} {pins : List (Addr × Obj)} {σ : St} {H H' : Hp} {s : Shared} {a : Addr}
theorem Inv.wy {f : Obj -> Obj} (I : Inv X pins σ H s) (fa : dQ X pins H a) : Inv X pins σ H { s with heap := s.heap.update a f } :=
 I.turned (t' := s.toks) (fun b o hb e => by rw [Heap.get?_update_ne _ _ _ _ hb]; exact e) fa.1 fa.2.1 fa.2.2.2.1 fa.2.2.2.2.1 fa.2.2.2.2.2
theorem Inv.rm {o : Obj} (I : Inv X pins σ H s) : Inv X pins σ H { s with heap := s.heap.push o } := I.kept (t' := s.toks) fun b u e => Heap.get?_push_of_some _ e
theorem dQ.keep (fa : dQ X pins H a) (h : H' a = none) : dQ X pins H' a := ⟨h, fa.2⟩
theorem Inv.C8 {acc : List V} {aS : List Value} {n : Nat} (I : Inv X pins σ H s) (fa : dQ X pins H a) (xq : X.dh.heap.objs.size <= a) (hl : acc.length <= sizeLine) (r : Vals acc aS) (hd : s.heap.get? a = some { cls := .type "list", data := .seq aS.toArray n }) :
 Inv X pins σ (upd H a (.lst acc)) s := by
 have ne : ∀ b u, H b = some u -> b ≠ a := fun b u e => ax e fa.1
 have old : ∀ b o, X.dh.heap.get? b = some o -> b ≠ a := fun b o e => Nat.ne_of_lt (Nat.lt_of_lt_of_le (Heap.lt_size e) xq)
 have U := I.base
 refine ⟨I.ok, I.os, I.bare, ⟨U.keep, U.slot, fun b o e n hx => ?_, U.there, fun b xs e => ?_, fun b o u e => ?_, fun b ps e => ?_⟩, I.loc, I.cell, ?_, fun x c e => ?_, fun p hp => ?_, fun b u e => ?_, I.len⟩
 . rw [ak (old b o e)]; exact U.free b o e n hx
 . rw [ak (ne b _ (U.jl b xs e))]; exact U.jl b xs e
 . rw [ak (ne b _ (U.ig b o u e))]; exact U.ig b o u e
 . obtain ⟨more, q⟩ := U.jE b ps e
   exact ⟨more, by rw [ak (ne b _ q)]; exact q⟩
 . rw [ak (Ne.symm fa.2.1)]; exact I.free
 . rw [ak (fa.2.2.2.2.1 x c e)]; exact I.eD x c e
 . obtain ⟨e1, e2, e3⟩ := I.pin p hp
   exact ⟨e1, by rw [ak (fa.2.2.2.2.2 p hp)]; exact e2, e3⟩
 . by_cases hb : b = a
   . subst hb
     rw [ay] at e
     cases e
     exact ⟨hl, aS, n, r, hd⟩
   . rw [ak hb] at e
     exact (I.aT b u e).lh (fun c v _ q => q) (fun c q => by rw [ak (ne c _ q)]; exact q) fun c xs q => by rw [ak (ne c _ q)]; exact q
end
def oM (a b : Str) : Bool := decide (a.cps.toList < b.cps.toList)
def cX (a b : Int × Str) : Bool := decide (a.1 < b.1) || (decide (a.1 = b.1) && oM a.2 b.2)
theorem wd (a : Str) : oM a a = false := decide_eq_false (List.lt_irrefl _)
theorem w6 {a b : Str} (h : oM a b = true) : oM b a = false := decide_eq_false (List.lt_asymm (of_decide_eq_true h))
theorem qM {a b c : Str} (h : oM a b = false) (h2 : oM b c = false) : oM a c = false := by
 unfold oM at *
 have uA : b.cps.toList <= a.cps.toList := List.not_lt.mp (of_decide_eq_false h)
 have Cu : c.cps.toList <= b.cps.toList := List.not_lt.mp (of_decide_eq_false h2)
 exact decide_eq_false (List.not_lt.mpr (List.le_trans Cu uA))
theorem rp {a b : Str} (h : a.cps.toList = b.cps.toList) : a = b := by
 cases a; cases b
 simp only at h
 rw [Array.toList_inj.mp h]
theorem rn {a b : Str} (h : oM a b = false) (h2 : oM b a = false) : a = b := by
 unfold oM at *
 have uA : b.cps.toList <= a.cps.toList := List.not_lt.mp (of_decide_eq_false h)
 have Cu : a.cps.toList <= b.cps.toList := List.not_lt.mp (of_decide_eq_false h2)
 exact rp (List.le_antisymm Cu uA)
theorem vb {a b : Int × Str} : cX a b = true ↔ a.1 < b.1 \/ (a.1 = b.1 /\ oM a.2 b.2 = true) := by
 unfold cX; simp
theorem cV {a b : Int × Str} : cX a b = false ↔ ¬ a.1 < b.1 /\ (a.1 = b.1 -> oM a.2 b.2 = false) := by
 unfold cX; simp
theorem oo (a : Int × Str) : cX a a = false := cV.mpr ⟨by omega, fun _ => wd _⟩
theorem vy {a b : Int × Str} (h : cX a b = true) : cX b a = false := by
 rcases vb.mp h with h | ⟨h, h2⟩
 . exact cV.mpr ⟨by omega, fun _ => by omega⟩
 . exact cV.mpr ⟨by omega, fun _ => w6 h2⟩
theorem uL {a b c : Int × Str} (h : cX a b = false) (h2 : cX b c = false) : cX a c = false := by
 obtain ⟨h1, h3⟩ := cV.mp h
 obtain ⟨h4, h5⟩ := cV.mp h2
 refine cV.mpr ⟨by omega, fun e => ?_⟩
 exact qM (h3 (by omega)) (h5 (by omega))
theorem tj {a b : Int × Str} (h : cX a b = false) (h2 : cX b a = false) : a = b := by
 obtain ⟨h1, h3⟩ := cV.mp h
 obtain ⟨h4, h5⟩ := cV.mp h2
 have e : a.1 = b.1 := by omega
 exact Prod.ext e (rn (h3 e) (h5 e.symm))
section
variable {prog : Program} {w : World} {A : Around} {E : Value -> Shared -> Prop} {s : Shared}
theorem wC {x y : Addr} {i j : Int} {t u t2 u2 : Tok} {c d : Str} {Q : Bool -> Shared -> Prop} (hx : IsTup s.heap x #[.int i t, .str c t2]) (hy : IsTup s.heap y #[.int j u, .str d u2]) (h : Q (cX (i, c) (j, d)) s) :
 wpAny (model prog w) A (keyLt' (tuples' true) (.ref x) (.ref y)) Q E s := by
 obtain ⟨ox, KI, cx, nx, dx⟩ := hx
 obtain ⟨oy, Lf, cy, ny, dy⟩ := hy
 refine kat_lt KI dx Lf dy ?_
 refine kat_cons (wpAny_eqBool_int ?_)
 by_cases e : i = j
 . rw [show (i == j) = true from beq_iff_eq.mpr e]
   refine kat_yes (kat_cons (wpAny_eqBool_str ?_))
   by_cases e2 : c = d
   . rw [decide_eq_true e2]
     refine kat_yes (kat_nil ?_)
     have : cX (i, c) (j, d) = false := by rw [e, e2]; exact oo _
     rw [this] at h
     exact h
   . rw [decide_eq_false e2]
     refine kat_no (kat_one _ _ (lt_str ?_))
     have : cX (i, c) (j, d) = oM c d := by unfold cX; simp [e]
     rw [this] at h
     exact h
 . rw [show (i == j) = false from beq_eq_false_iff_ne.mpr e]
   refine kat_no (oneLt_int ?_)
   have : cX (i, c) (j, d) = decide (i < j) := by unfold cX; simp [e]
   rw [this] at h
   exact h
end
def ph (sp : Sp) (kf : V -> Int × Str) (H : Hp) (xs : List V) : Prop := ∀ v ∈ xs, ∀ H', az H H' -> sp [v] H' (fun y H2 => az H' H2 /\ Dv H2 y (.tuple [.int (kf v).1, .str (kf v).2])) E0
def mU {α : Type} (lt : α -> α -> Bool) (kf : V -> α) (ys xs : List V) : Prop := ys.Perm xs /\ ys.Pairwise fun x y => lt (kf y) (kf x) = false
section
variable {X : Cx} {pins : List (Addr × Obj)} {σ : St} {H : Hp} {s : Shared} {k : Nat} {f : Addr} {fd : FuncData} {ps : List Str} {sp : Sp} {kf : V -> Int × Str} {A : Around}
structure Aq (X : Cx) (pins : List (Addr × Obj)) (σ : St) (H : Hp) (kf : V -> Int × Str) (a kS : Addr) (oa : Obj) (xs : List V) (s' : Shared) : Prop where
 mk ::
 ex : ∃ H' us e ys, Inv X pins σ H' s' /\ az H H' /\ H' a = none /\ H' kS = none /\ s'.heap.get? a = some oa /\ s'.heap.get? kS = some (seqObj "list" (List.toArray us) e) /\ Vals ys us /\ cu H' ys (xs.map fun v => .tuple [.int (kf v).1, .str (kf v).2])
theorem t4 {xs : List V} {p : Array Nat} {α : Type} {lt : α -> α -> Bool} {kf : V -> α} (hp : Ix xs.length p) (hu : Up (fun i j => lt (kf (xs.getD i .a0)) (kf (xs.getD j .a0))) p xs.length) : mU lt kf (p.toList.map fun i => xs.getD i .a0) xs := by
 refine ⟨?_, ?_⟩
 . have h := hp.pm.map fun i => xs.getD i .a0
   have e : (List.range xs.length).map (fun i => xs.getD i .a0) = xs := by
    refine List.ext_getElem? fun i => ?_
    rw [List.getElem?_map]
    by_cases hi : i < xs.length
    . rw [List.getElem?_range hi]; simp [hi]
    . rw [List.getElem?_eq_none (by simpa using hi), List.getElem?_eq_none (by simpa using hi)]; rfl
   rw [e] at h
   exact h
 . rw [List.pairwise_map, List.pairwise_iff_getElem]
   intro i j hi hj lA
   have hsz : p.toList.length = xs.length := by simp [hp.sz]
   have := hu i j lA (by omega)
   have gi : p.getD i 0 = p.toList[i] := by simp [Array.getD, show i < p.size by rw [hp.sz]; omega]
   have gj : p.getD j 0 = p.toList[j] := by simp [Array.getD, show j < p.size by rw [hp.sz]; omega]
   rw [gi, gj] at this
   exact this
theorem jL : ∀ {xs : List V} {us : List Value} (i : Nat), Vals xs us -> RelV (xs.getD i .a0) (us.getD i Value.none)
 | _, _, _, .nil => rfl
 | _, _, 0, .cons r _ => r
 | _, _, i + 1, .cons _ t => by simpa using jL i t
theorem lX {xs : List V} {us : List Value} (r : Vals xs us) : ∀ l : List Nat, Vals (l.map fun i => xs.getD i .a0) (l.map fun i => us.getD i Value.none)
 | [] => .nil
 | i :: l => .cons (jL i r) (lX r l)
theorem oG {H : Hp} {g : V -> PyData} : ∀ {ys : List V} {xs : List V} {i : Nat}, cu H ys (xs.map g) -> i < xs.length -> Dv H (ys.getD i .a0) (g (xs.getD i .a0))
 | _, [], _, _, h => by simp at h
 | _, _ :: _, 0, .cons h _, _ => h
 | _, _ :: _, i + 1, .cons _ t, hi => by simpa using oG (i := i) t (by simpa using hi)
def qH (X : Cx) (pins : List (Addr × Obj)) (σ : St) (H : Hp) {α : Type} (lt : α -> α -> Bool) (kf : V -> α) (xs : List V) (Q : VK) : Prop :=
 ∀ a ys H', az H H' -> H a = none -> H' a = none -> mU lt kf ys xs -> Q (.ref a) (upd H' a (.lst ys))
theorem rT {H' : Hp} {s' : Shared} {xs ys : List V} {us : List Value} {A : Around} (I : Inv X pins σ H' s') (rv : Vals ys us) (dv : cu H' ys (xs.map fun v => .tuple [.int (kf v).1, .str (kf v).2])) :
 C0 xs.length (fun i j => cX (kf (xs.getD i .a0)) (kf (xs.getD j .a0))) (fun z => z = s') (kas_ask X.prog X.w A (tuples' true) us) := by
 intro i j C z hi hj hz hC
 subst hz
 have one : ∀ i, i < xs.length -> ∃ x t t2, us.getD i Value.none = .ref x /\ IsTup z.heap x #[.int (kf (xs.getD i .a0)).1 t, .str (kf (xs.getD i .a0)).2 t2] := fun i hi => by
  have d := oG dv hi
  have r := jL i rv
  generalize ys.getD i .a0 = y at d r
  generalize us.getD i Value.none = u at r
  cases d with
  | tup h q =>
    have r' : u = .ref _ := r
    obtain ⟨aS, rr, tt, _⟩ := I.tuple (.of h)
    cases q with
    | cons h1 q =>
      cases q with
      | cons h2 q =>
        cases q
        cases h1; cases h2
        cases rr with
        | cons r1 rr =>
          cases rr with
          | cons r2 rr =>
            cases rr
            obtain ⟨t1, rfl⟩ := r1
            obtain ⟨t2, rfl⟩ := r2
            exact ⟨_, t1, t2, r', tt⟩
 obtain ⟨x, t, t2, e1, hx⟩ := one i hi
 obtain ⟨y, u, u2, e2, hy⟩ := one j hj
 show wpAny (model X.prog X.w) A (keyLt' (tuples' true) (us.getD i Value.none) (us.getD j Value.none)) C (fun _ _ => False) z
 rw [e1, e2]
 exact wC hx hy (hC _ rfl)
theorem kJ {H' : Hp} {s' : Shared} : ∀ {xs ys : List V} {us : List Value}, Inv X pins σ H' s' -> Vals ys us -> cu H' ys (xs.map fun v => .tuple [.int (kf v).1, .str (kf v).2]) ->
 ∃ fs, KatTups s'.heap us fs /\ fs.length = us.length /\ ∀ v ∈ fs, Looks (model X.prog X.w) s'.heap (typeOf v) (.type "int")
 | [], _, _, I, rv, dv => by
   cases dv
   cases rv
   exact ⟨[], trivial, rfl, fun _ z => nomatch z⟩
 | x :: xs, _, _, I, rv, dv => by
   cases dv with
   | cons d dv =>
     cases rv with
     | cons r rv =>
       obtain ⟨fs, h1, h2, h3⟩ := kJ I rv dv
       cases d with
       | tup h q =>
         obtain ⟨aS, rr, tt, _⟩ := I.tuple (.of h)
         cases q with
         | cons q1 q =>
           cases q with
           | cons q2 q =>
             cases q
             cases q1; cases q2
             cases rr with
             | cons r1 rr =>
               cases rr with
               | cons r2 rr =>
                 cases rr
                 obtain ⟨t1, rfl⟩ := r1
                 obtain ⟨t2, rfl⟩ := r2
                 cases r
                 obtain ⟨o, ho, hc, n, hd⟩ := tt
                 refine ⟨_ :: fs, KatTups.cons ho hc hd rfl h1, by simp [h2], fun v hv => ?_⟩
                 rcases List.mem_cons.mp hv with rfl | hv
                 . exact .now
                 . exact h3 v hv
end
section
variable {X : Cx} {pins : List (Addr × Obj)} {σ : St} {H : Hp} {s : Shared} {k : Nat} {f : Addr} {fd : FuncData} {ps : List Str} {sp : Sp} {kf : V -> Int × Str} {A : Around}
theorem mq {H' : Hp} {s' : Shared} {a kS : Addr} {e e1 : Nat} {us out : List Value} {ys : List V} {st : SortSt} {E : Value -> Shared -> Prop} {P : PySem.Fin -> Shared -> Prop} (I : Inv X pins σ H' s') (fa : dQ X pins H' a) (fk : dQ X pins H' kS) (vK : a ≠ kS) (xq : X.dh.heap.objs.size <= a)
 (oa : s'.heap.get? a = some (seqObj "list" #[] e1)) (ok : s'.heap.get? kS = some (seqObj "list" (List.toArray us) e)) (hz : us.length < 64) (Gy : (arrOf st).map (·.2) = List.toArray out) (ho : out.length < 64) (hf : failedOf st = none) (rv : Vals ys out)
 (h : ∀ s2, Inv X pins σ (upd H' a (.lst ys)) s2 -> P (.done (.ret .none)) s2) : wpAny (model X.prog X.w) A (ksk_tail a false e1 (.ref kS) st) P E s' := by
 have GZ : (64 : Nat) <= sizeLine := by decide
 unfold ksk_tail
 dsimp only
 rw [Gy]
 refine wpAny_bind (listUpdate_at ok rfl ?_ (by rw [List.size_toArray]; omega) (Nat.zero_le _))
 refine wpAny_bind (wpAny_letGo ?_)
 have G1 : (s'.heap.update kS (Obj.mapSeq fun _ => (#[] : Array Value))).get? a = some (seqObj "list" #[] e1) := by rw [Heap.get?_update_ne _ _ _ _ vK]; exact oa
 have I1 : Inv X pins σ H' { s' with heap := s'.heap.update kS (Obj.mapSeq fun _ => (#[] : Array Value)) } := I.wy fk
 refine wpAny_bind (seqEpoch_at G1 rfl ?_)
 refine wpAny_bind (listUpdate_at G1 rfl ?_ (Nat.zero_le _) (by show (List.toArray out).size <= _; rw [List.size_toArray]; omega))
 rw [hf]
 simp only [bne_self_eq_false, Bool.false_eq_true, if_false]
 refine wpAny_pure (h _ ?_)
 have I2 := I1.wy (f := Obj.mapSeq fun _ => List.toArray out) fa
 exact I2.C8 fa xq (by rw [rv.length]; omega) rv (get?_update_seq G1 fun _ => List.toArray out)
theorem tu {H' : Hp} {s' : Shared} {a kS : Addr} {e e1 : Nat} {us vs : List Value} {xs ys : List V} {Q : VK} {E : Value -> Shared -> Prop} {P : PySem.Fin -> Shared -> Prop} (sm : az H H') (HW : H a = none) (I : Inv X pins σ H' s') (fa : dQ X pins H' a) (fk : dQ X pins H' kS) (vK : a ≠ kS) (xq : X.dh.heap.objs.size <= a)
 (oa : s'.heap.get? a = some (seqObj "list" #[] e1)) (ok : s'.heap.get? kS = some (seqObj "list" (List.toArray us) e)) (Bx : xs.length < 64) (rx : Vals xs vs) (ry : Vals ys us) (dv : cu H' ys (xs.map fun v => .tuple [.int (kf v).1, .str (kf v).2]))
 (fin : qH X pins σ H cX kf xs Q) (h : ∀ s2, EP X pins σ Q (.ref a) s2 -> P (.done (.ret .none)) s2) : wpAny (model X.prog X.w) A (ksk_end a false vs.toArray e1 (.ref kS) (List.toArray us)) P E s' := by
 have lx := rx.length
 have ly := ry.length
 have ld := dv.length
 rw [List.length_map] at ld
 unfold ksk_end
 simp only [Bool.false_eq_true, if_false]
 by_cases h2 : vs.toArray.size < 2
 . rw [if_pos h2, if_pos h2]
   refine wpAny_bind (wpAny_pure ?_)
   rw [StateT.run_pure]
   refine wpAny_bind (wpAny_pure ?_)
   refine mq (out := vs) (ys := xs) I fa fk vK xq oa ok (by omega) ?_ (by omega) rfl rx (fun s2 I2 => h s2 ⟨.ref a, _, I2, rfl, fin a xs H' sm HW fa.1 ⟨List.Perm.refl _, ?_⟩⟩)
   . show ((List.toArray us).zip vs.toArray).map (·.2) = List.toArray vs
     apply Array.toList_inj.mp
     have : us.length = vs.length := by omega
     simp [List.map_snd_zip, this]
   . rw [List.size_toArray] at h2
     match xs, lx with
     | [], _ => exact .nil
     | [_], _ => exact List.pairwise_singleton _ _
     | _ :: _ :: _, lx => simp at lx; omega
 . rw [if_neg h2, if_neg h2]
   rw [List.size_toArray] at h2
   obtain ⟨fs, k1, k2, k3⟩ := kJ I ry dv
   refine wpAny_bind (kat_kind k1 (by omega) k3 (by decide) ?_)
   have BL : us.length = vs.length := by omega
   refine wpAny_bind (wpAny_mono (kat_run (Q := fun o5 s2 => s2 = s' /\ ∃ p : Array Nat, Ix xs.length p /\ arrOf o5 = p.map (kas_item ((List.toArray us).zip (List.toArray vs))) /\ failedOf o5 = none /\ Up (fun i j => cX (kf (xs.getD i .a0)) (kf (xs.getD j .a0))) p xs.length)
    (G := fun p s2 => s2 = s' /\ Ix xs.length p /\ Up (fun i j => cX (kf (xs.getD i .a0)) (kf (xs.getD j .a0))) p xs.length) BL (by omega) (by omega) (fun p o5 s2 a1 a2 a3 ⟨a4, a5, a6⟩ => ⟨a4, p, a5, a2, a3, a6⟩) ?_) ?_ fun _ _ z => z)
   . rw [show vs.length = xs.length by omega]
     refine xg (lt := fun i j => cX (kf (xs.getD i .a0)) (kf (xs.getD j .a0))) (S := fun z => z = s') ⟨fun _ => oo _, fun _ _ => vy, fun _ _ _ => uL⟩ (rT I ry dv) (by omega) (fun p s2 hs hp hu => ⟨hs, hp, hu⟩) s' rfl
   . rintro ⟨⟨⟩, o5⟩ s2 ⟨rfl, p, hp, Ja, hf, hu⟩
     dsimp only
     refine mq (out := p.toList.map fun i => vs.getD i Value.none) (ys := p.toList.map fun i => xs.getD i .a0) I fa fk vK xq oa ok (by omega) (kat_snds BL Ja) (by simp [hp.sz]; omega) hf (lX rx _) (fun s3 I3 => h s3 ⟨.ref a, _, I3, rfl, fin a _ H' sm HW fa.1 (t4 hp hu)⟩)
end
section
variable {X : Cx} {k : Nat} {f : Addr} {ps : List Str} {sp : Sp} {e : Expr} {t : TA} {x : Str} {p p2 pos AG : Pos}
end
end L2
namespace L2
open PySem PySem.Spec PyProof.Rows
theorem qg {scope : Scope} {env : Env} (h : ∀ x ∈ scope.names, x.2 = .free -> ∃ c, env.cells.lookup x.1 = some c) :
 ∃ cl, closureFor scope env = pure cl /\ (∀ x c, cl.lookup x = some c -> env.cells.lookup x = some c) /\ ∀ x ∈ scope.names, x.2 = .free -> ∃ c, cl.lookup x.1 = some c := by
 have key : ∀ (l : List (Str × NameKind)) (acc : List (Str × Addr)), (∀ x ∈ l, x.2 = .free -> ∃ c, env.cells.lookup x.1 = some c) -> (∀ x c, acc.lookup x = some c -> env.cells.lookup x = some c) ->
  ∃ cl, (forIn l acc (fun (x : Str × NameKind) (r : List (Str × Addr)) => (match x with
    | (name, kind) => if (kind == NameKind.free) = true then (do let c <- cellOf env name; pure (ForInStep.yield ((name, c) :: r))) else pure (ForInStep.yield r) : Sem (ForInStep (List (Str × Addr))))) : Sem _) = pure cl /\
    (∀ x c, cl.lookup x = some c -> env.cells.lookup x = some c) /\ (∀ x ∈ l, x.2 = .free -> ∃ c, cl.lookup x.1 = some c) /\ ∀ x, (∃ c, acc.lookup x = some c) -> ∃ c, cl.lookup x = some c := by
  intro l
  induction l with
  | nil => intro acc _ ha; exact ⟨acc, rfl, ha, fun _ z => (nomatch z), fun _ z => z⟩
  | cons p r ih =>
    intro acc hl ha
    obtain ⟨n, k⟩ := p
    rw [List.forIn_cons]
    by_cases hk : k = .free
    . subst hk
      obtain ⟨c, hc⟩ := hl (n, .free) List.mem_cons_self rfl
      have mD : cellOf env n = pure c := by unfold cellOf; rw [hc]
      obtain ⟨cl, e, h1, h2, h3⟩ := ih ((n, c) :: acc) (fun x hx => hl x (List.mem_cons_of_mem _ hx)) (fun x d hd => by
       rw [List.lookup_cons] at hd
       by_cases hx : x = n
       . subst hx; rw [beq_self_eq_true] at hd; cases hd; exact hc
       . rw [beq_eq_false_iff_ne.mpr hx] at hd; exact ha x d hd)
      refine ⟨cl, ?_, h1, fun x hx hf => ?_, fun x ⟨d, hd⟩ => h3 x ?_⟩
      . simp only [beq_self_eq_true, if_true, mD]
        exact e
      . rcases List.mem_cons.mp hx with rfl | hx
        . exact h3 n ⟨c, by rw [List.lookup_cons, beq_self_eq_true]⟩
        . exact h2 x hx hf
      . rw [List.lookup_cons]
        by_cases hx : x = n
        . subst hx; rw [beq_self_eq_true]; exact ⟨c, rfl⟩
        . rw [beq_eq_false_iff_ne.mpr hx]; exact ⟨d, hd⟩
    . obtain ⟨cl, e, h1, h2, h3⟩ := ih acc (fun x hx => hl x (List.mem_cons_of_mem _ hx)) ha
      refine ⟨cl, ?_, h1, fun x hx hf => ?_, h3⟩
      . have : (k == NameKind.free) = false := by simpa using hk
        simp only [this, Bool.false_eq_true, if_false]
        exact e
      . rcases List.mem_cons.mp hx with rfl | hx
        . exact absurd hf hk
        . exact h2 x hx hf
 obtain ⟨cl, e, h1, h2, _⟩ := key scope.names [] h (fun _ _ z => by simp at z)
 refine ⟨cl, ?_, h1, h2⟩
 unfold closureFor
 show (forIn scope.names [] _ >>= fun cs => pure cs) = _
 refine Eq.trans (congrArg (· >>= _) e) rfl
theorem fW {env : Env} {scope : Scope} {x : Str} : (relabel scope env).names.lookup x = (scope.names.lookup x).map fun k => if (k == NameKind.free && env.scope.kind == .function && env.kindOf x == some .cell) = true then .cell else k := by
 unfold relabel
 show List.lookup x (List.map _ scope.names) = _
 generalize scope.names = l
 induction l with
 | nil => rfl
 | cons p r ih =>
   obtain ⟨n, k⟩ := p
   rw [List.map_cons]
   dsimp only
   by_cases hx : x = n
   . subst hx
     by_cases hc : (k == NameKind.free && env.scope.kind == .function && env.kindOf x == some .cell) = true
     . rw [if_pos hc, List.lookup_cons, List.lookup_cons, beq_self_eq_true]; simp only [Option.map_some, if_pos hc]
     . rw [if_neg hc, List.lookup_cons, List.lookup_cons, beq_self_eq_true]; simp only [Option.map_some, if_neg hc]
   . have hb : (x == n) = false := beq_eq_false_iff_ne.mpr hx
     by_cases hc : (k == NameKind.free && env.scope.kind == .function && env.kindOf n == some .cell) = true
     . rw [if_pos hc, List.lookup_cons, List.lookup_cons, hb]; exact ih
     . rw [if_neg hc, List.lookup_cons, List.lookup_cons, hb]; exact ih
theorem mem_lookup {α : Type} {x : Str} {k : α} : ∀ {l : List (Str × α)}, l.lookup x = some k -> (x, k) ∈ l
 | [], h => by simp at h
 | (n, j) :: r, h => by
   rw [List.lookup_cons] at h
   by_cases hx : x = n
   . subst hx; rw [beq_self_eq_true] at h; cases h; exact List.mem_cons_self
   . rw [beq_eq_false_iff_ne.mpr hx] at h; exact List.mem_cons_of_mem _ (mem_lookup h)
def f7 (X : Cx) (N : List Str) (scope : Scope) (cl : List (Str × Addr)) (C : Addr) (s : Shared) (H : Hp) (fp : List Addr) : Cx :=
 { X with N := N, dh := s, og := H, env := compEnvC scope cl C X.env, outer := X.stack, stack := X.stack, ex := fp, fn := fun _ => false, pn := [], xe := fun _ _ => False }
structure i3 (X : Cx) (T M : List Str) (scope : Scope) : Prop where
 kind : scope.kind = .function
 cell : ∀ y ∈ scope.names, y.2 ≠ .cell
 names : ∀ y ∈ scope.names, y.2 = .local -> scope.names.lookup y.1 = some .local
 free : ∀ y ∈ scope.names, y.2 = .free -> X.env.scope.names.lookup y.1 = some .cell \/ X.env.scope.names.lookup y.1 = some .free
 len : M.length = X.N.length
 old : ∀ (i : Nat) x, M[i]? = some x -> X.N[i]? = some x /\ scope.names.lookup x = some .free \/ scope.names.lookup x = none
section
variable {X : Cx} {pins : List (Addr × Obj)} {σ : St} {H : Hp} {s : Shared} {T M : List Str} {scope : Scope} {cl : List (Str × Addr)} {fp : List Addr}
theorem D9 {C : Addr} (I : Inv X pins σ H s) (hN : i3 X T M scope) (h1 : ∀ x c, cl.lookup x = some c -> X.env.cells.lookup x = some c) (h2 : ∀ x ∈ scope.names, x.2 = .free -> ∃ c, cl.lookup x.1 = some c)
 (hC : s.heap.objs.size <= C) (hf : ∀ b ∈ fp, dQ X pins H b) (BZ : ∀ b ∈ fp, b < s.heap.objs.size) : (f7 X (T ++ M) scope cl C s H fp).Ok where
 mod := I.ok.mod
 kind := hN.kind
 glob := I.ok.glob
 blt := I.ok.blt
 above := hC
 inj := fun x y c e1 e2 => I.ok.inj x y c (h1 x c e1) (h1 y c e2)
 has := fun x hx => by
  have n6 : (relabel scope X.env).names.lookup x = some .cell \/ (relabel scope X.env).names.lookup x = some .free := hx
  rw [fW] at n6
  cases e : scope.names.lookup x with
  | none => rw [e] at n6; simp at n6
  | some k =>
    have hm := mem_lookup e
    have hk : k = .free := by
     rw [e] at n6
     simp only [Option.map_some, Option.some.injEq] at n6
     by_cases hf : k = .free
     . exact hf
     . have : (k == NameKind.free) = false := by simpa using hf
       simp only [this, Bool.false_and, Bool.false_eq_true, if_false] at n6
       rcases n6 with n6 | n6
       . exact absurd n6 (hN.cell _ hm)
       . exact n6
    exact h2 (x, k) hm hk
 BG := fun _ _ z => by cases z
 hd := I.ok.hd
 frames := I.ok.frames
 Di := .inl rfl
 DI := fun b hb => ⟨Nat.ne_of_lt (Nat.lt_of_lt_of_le (BZ b hb) hC), fun x c e => (hf b hb).2.2.2.2.1 x c (h1 x c e)⟩
 bs := I.bs
 tf := Nat.le_trans I.ok.tf I.sz
 sJ := fun b o e hb => by
  rcases (hf b hb).2.2.2.1 with z | z
  . exact I.ok.sJ b o e z
  . exact absurd (Nat.lt_of_lt_of_le (Heap.lt_size e) (Nat.le_trans I.ok.tf z)) (Nat.lt_irrefl _)
 rK := fun b hb z => by
  rcases List.mem_cons.mp (I.pN b z) with e | e
  . exact (hf b hb).2.1 e
  . exact (hf b hb).2.2.1 e
 iP := I.stack
 vR := I.qB
theorem vt {C : Addr} {h₁ : Heap} {tk : Nat} (I : Inv X pins σ H s) (hN : i3 X T M scope) (h1 : ∀ x c, cl.lookup x = some c -> X.env.cells.lookup x = some c) (h2 : ∀ x ∈ scope.names, x.2 = .free -> ∃ c, cl.lookup x.1 = some c)
 (hC : s.heap.objs.size <= C) (hf : ∀ b ∈ fp, dQ X pins H b) (BZ : ∀ b ∈ fp, b < s.heap.objs.size)
 {m : Str -> Option Value} (hn : h₁.Ns C m) (old : ∀ b o, s.heap.get? b = some o -> h₁.get? b = some o) :
 Inv (f7 X (T ++ M) scope cl C s H fp) [] (List.replicate T.length none ++ σ) H { s with heap := h₁, toks := tk } where
 ok := D9 I hN h1 h2 hC hf BZ
 os := rfl
 bare := I.bare
 base := Un.kept old
 loc := by
  refine ⟨m, hn, fun i x v e1 e2 e3 => ?_⟩
  have IG : (T ++ M)[i]? = some x := e1
  by_cases hi : i < T.length
  . rw [List.getElem?_append_left (by simpa using hi), List.getElem?_replicate, if_pos hi] at e2
    cases e2
  . have sg : T.length <= i := Nat.le_of_not_lt hi
    rw [List.getElem?_append_right sg] at IG
    rw [List.getElem?_append_right (by simpa using sg), List.length_replicate] at e2
    have G9 : B1 (relabel scope X.env) x := e3
    rcases hN.old _ x IG with ⟨hx, j8⟩ | Kt
    . obtain ⟨m0, xq, EL⟩ := I.loc
      have hk := hN.free _ (mem_lookup j8) rfl
      have qw : X.env.scope.names.lookup x = some .cell \/ X.env.scope.names.lookup x = some .free := hk
      obtain ⟨u, r, l⟩ := EL _ x v hx e2 (.inr qw)
      refine ⟨u, r, .inr ?_⟩
      rcases l with ⟨z, _⟩ | ⟨_, c, hc, mD⟩
      . have z' : X.env.scope.names.lookup x = some .local := z
        rw [z'] at qw; rcases qw with q | q <;> cases q
      . obtain ⟨c', sD⟩ := h2 _ (mem_lookup j8) rfl
        have : c' = c := by have := h1 _ _ sD; rw [hc] at this; exact (Option.some.inj this).symm
        subst this
        refine ⟨?_, c', sD, ?_⟩
        . show (relabel scope X.env).names.lookup x = some .cell \/ (relabel scope X.env).names.lookup x = some .free
          rw [fW, j8]
          simp only [Option.map_some, Option.some.injEq]
          by_cases hc : (NameKind.free == NameKind.free && X.env.scope.kind == .function && X.env.kindOf x == some .cell) = true
          . left; rw [if_pos hc]
          . right; rw [if_neg hc]
        . obtain ⟨o, ho, hd⟩ := mD
          exact ⟨o, old _ _ ho, hd⟩
    . unfold B1 at G9
      rw [fW, Kt] at G9
      simp at G9
 cell := fun x c e => by
  obtain ⟨v, o, ho, hd⟩ := I.cell x c (h1 x c e)
  exact ⟨v, o, old _ _ ho, hd⟩
 free := I.aT.fresh hC
 eD := fun x c e => I.eD x c (h1 x c e)
 pin := fun p hp => nomatch hp
 aT := I.aT.kept old
 len := by
  show (List.replicate T.length none ++ σ).length = (T ++ M).length
  rw [List.length_append, List.length_append, List.length_replicate, hN.len, I.len]
theorem wt {C D : Addr} {s' : Shared} {σ' : St} {H' : Hp} {acc : List V} {aS : List Value} {n : Nat} (I : Inv X pins σ H s) (I' : Inv (f7 X (T ++ M) scope cl C s H fp) [] σ' H' s')
 (hf : ∀ b ∈ fp, dQ X pins H b) (hD : s.heap.objs.size <= D) (hn : H' D = none) (hl : acc.length <= sizeLine) (r : Vals acc aS) (hd : s'.heap.get? D = some { cls := .type "list", data := .seq aS.toArray n }) :
 Inv X pins σ (upd H' D (.lst acc)) s' := by
 have U : Un (nS X.stack) fp H H' s.heap s'.heap := I'.base
 have Ce : ∀ b o, s.heap.get? b = some o -> b ≠ D := fun b o e => Nat.ne_of_lt (Nat.lt_of_lt_of_le (Heap.lt_size e) hD)
 have neT : ∀ b u, H' b = some u -> b ≠ D := fun b u e => ax e hn
 refine I.DN (ch := fp) I'.os ⟨U.keep, U.slot, fun b o e1 e2 e3 => ?_, U.there, fun b xs e => ?_, fun b o u e => ?_, fun b ps e => ?_⟩ (fun b u e => ?_) I'.bare (fun b hb => ⟨(hf b hb).2.2.2.1, (hf b hb).2.1, (hf b hb).2.2.2.2.1, (hf b hb).2.2.2.2.2⟩)
 . rw [ak (Ce b o e1)]; exact U.free b o e1 e2 e3
 . rw [ak (neT b _ (U.jl b xs e))]; exact U.jl b xs e
 . rw [ak (neT b _ (U.ig b o u e))]; exact U.ig b o u e
 . obtain ⟨more, q⟩ := U.jE b ps e
   exact ⟨more, by rw [ak (neT b _ q)]; exact q⟩
 . by_cases hb : b = D
   . subst hb
     rw [ay] at e
     cases e
     exact ⟨hl, aS, n, r, hd⟩
   . rw [ak hb] at e
     exact (I'.aT b u e).lh (fun c v _ q => q) (fun c q => by rw [ak (neT c _ q)]; exact q) fun c xs q => by rw [ak (neT c _ q)]; exact q
end
theorem pR {prog : Program} {w : World} {A : Around} {R : Result -> Shared -> Prop} {s : Shared} {elt target iter : Expr} {ifs : List Expr} {scope : Scope} {pos : Pos} {it acc : Value} {env : Env} (I : Nat -> Shared -> Prop)
 (turn : ∀ n s, I n s -> wpAny (model prog w) A (pyNext it) (fun r s₁ => match r with
  | none => R (.ok .next) s₁
  | some v => wpAny (model prog w) A (letOwnedTupleGo target it v) (fun _ yh => wpAny (model prog w) A (assign target env v) (fun _ s₂ =>
   wpAny (model prog w) A (forIn ifs true fun c r => if r = true then do let ok <- isTrue c env (eval c env); pure (ForInStep.yield ok) else pure (ForInStep.yield r)) (fun ok s₃ =>
    if ok = true then wpAny (model prog w) A (eval elt env) (fun x s₄ =>
     wpAny (model prog w) A (call (.builtin "list.append") [acc, x]) (fun _ s₅ => ∃ m, m < n /\ I m s₅) (fun _ _ => False) s₄) (fun _ _ => False) s₃
    else ∃ m, m < n /\ I m s₃) (fun _ _ => False) s₂) (fun _ _ => False) yh) (fun _ _ => False) s₁) (fun _ _ => False) s)
 (n : Nat) (h : I n s) :
 codeAny (model prog w) A (.compLoop (.ListComp elt [⟨target, iter, ifs, 0⟩] scope pos) 0 it acc env) R s := by
 refine codeAny_loop rfl I (fun n s hI => ?_) n h
 show wpAny _ A ((compTurn (.ListComp elt [⟨target, iter, ifs, 0⟩] scope pos) 0 it acc env).onRaise (fun x => do noteFrame x env; theTreesLotGoes x)) _ _ s
 refine wpAny_noted ?_
 rw [compTurn_list]
 refine wpAny_bind (wpAny_standAt (wpAny_bind (wpAny_mono (turn n s hI) (fun r s₁ h₁ => ?_) fun _ _ h' => h'.elim)))
 cases r with
 | none => exact wpAny_pure h₁
 | some v =>
   refine wpAny_bind (wpAny_mono h₁ (fun _ yh DS => ?_) fun _ _ h' => h'.elim)
   refine wpAny_bind (wpAny_mono DS (fun _ s₂ h₂ => wpAny_bind (wpAny_mono h₂ (fun ok s₃ h₃ => ?_) fun _ _ h' => h'.elim)) fun _ _ h' => h'.elim)
   cases ok with
   | false => exact wpAny_pure ⟨rfl, h₃⟩
   | true =>
     exact wpAny_bind (wpAny_bind (wpAny_mono h₃ (fun x s₄ h₄ => wpAny_bind (wpAny_mono h₄ (fun _ s₅ h₅ => wpAny_pure (wpAny_pure ⟨rfl, h₅⟩)) fun _ _ h' => h'.elim)) fun _ _ h' => h'.elim))
def ER (X : Cx) (ifs : List Expr) (t : TT) : Prop :=
 ∀ (pins : List (Addr × Obj)) (s : Shared) (σ : St) (H : Hp) (Q : Bool -> Hp -> Prop), Inv X pins σ H s -> t σ H Q ->
   wpAny (model X.prog X.w) X.A (forIn ifs true fun c r => if r = true then do let ok <- isTrue c X.env (eval c X.env); pure (ForInStep.yield ok) else pure (ForInStep.yield r)) (TP X pins σ Q) X.xe s
def Gp : TT := fun _ H Q => Q true H
theorem xc {X : Cx} : ER X [] Gp := fun _ _ _ H _ I h => wpAny_tests_nil ⟨H, I, h⟩
theorem nh {X : Cx} {c : Expr} {t : TT} (h : PT X c t) : ER X [c] t := fun pins s σ H Q I q => wpAny_tests_one (h pins s σ H Q I q)
def Ew (k : Nat) (g : TG) (tc : TT) (te : TE) (Fin : List V -> Hp -> Prop) (σ : St) (J : It) (H1 : Hp) : Prop :=
 ∃ W : Nat -> Nat -> List V -> Hp -> Prop, (∃ m, W 0 m [] H1) /\ ∀ i m acc H, W i m acc H ->
   (J.stop i H /\ Fin acc H) \/ (J.go i H /\ acc.length < sizeLine /\ ∀ x H', J.v9 i H x H' -> g x (List.replicate k none ++ σ) H' fun σ2 H2 => tc σ2 H2 fun b H3 =>
    if b = true then te σ2 H3 fun y H4 => ∃ m', m' < m /\ W (i + 1) m' (acc ++ [y]) H4 else ∃ m', m' < m /\ W (i + 1) m' acc H3)
section
variable {X : Cx} {pins : List (Addr × Obj)} {σ : St} {H : Hp} {s : Shared} {T M : List Str} {scope : Scope} {cl : List (Str × Addr)} {fp : List Addr} {g : TG} {tc : TT} {te : TE} {tg elt iter : Expr} {ifs : List Expr} {pos : Pos}
theorem Inv.forget {X : Cx} {pins : List (Addr × Obj)} {σ σ' : St} {H : Hp} {s : Shared} (I : Inv X pins σ' H s) (k : Nat) (hk : k + σ.length = σ'.length) (h : σ'.drop k = σ) : Inv X pins (List.replicate k none ++ σ) H s := by
 refine I.weak (by simp [hk]) (fun i v e => ?_)
 by_cases hi : i < k
 . rw [List.getElem?_append_left (by simpa using hi), List.getElem?_replicate, if_pos hi] at e; cases e
 . rw [List.getElem?_append_right (by simpa using hi), List.length_replicate, <- h, List.getElem?_drop] at e
   have : k + (i - k) = i := by omega
   rw [this] at e; exact e
theorem yX {it : Addr} {tn : Nat -> Heap -> Prop} {J : It} {RR : Value -> Addr -> Result -> Shared -> Prop} {Fin : List V -> Hp -> Prop} {E : Value -> Shared -> Prop}
 (hN : i3 X T M scope) (mm : X.calm = true) (h1 : ∀ x c, cl.lookup x = some c -> X.env.cells.lookup x = some c) (h2 : ∀ x ∈ scope.names, x.2 = .free -> ∃ c, cl.lookup x.1 = some c)
 (hg : ∀ cl C s H fp, PG (f7 X (T ++ M) scope cl C s H fp) tg g) (Ko : ∀ v H Q, g v (List.replicate T.length none ++ σ) H Q -> g v (List.replicate T.length none ++ σ) H fun σ2 H2 => Q σ2 H2 /\ T.length + σ.length = σ2.length /\ σ2.drop T.length = σ)
 (hc : ∀ cl C s H fp, ER (f7 X (T ++ M) scope cl C s H fp) ifs tc) (he : ∀ cl C s H fp, PE (f7 X (T ++ M) scope cl C s H fp) elt te)
 (I : Inv X pins σ H s) (Tn : Turn X.prog X.w X.K tg J fp it tn) (st : tn 0 s.heap) (hf : ∀ b ∈ fp, dQ X pins H b) (hW : Ew T.length g tc te Fin σ J H)
 (hR : ∀ D C s' H' acc m, s.heap.objs.size <= D -> s.heap.objs.size <= C -> C ≠ D -> s'.heap.Ns C m -> H' C = none -> H' D = none -> Inv X pins σ (upd H' D (.lst acc)) s' -> Fin acc H' -> RR (.ref D) C (.ok .next) s') :
 wpAny (model X.prog X.w) X.A (newList []) (fun acc s₃ => wpAny (model X.prog X.w) X.A (newFunctionEnv scope X.env.globals cl [] X.env.qual none .none (some X.env)) (fun CU s₄ =>
  codeAny (model X.prog X.w) X.A (.compStart (.ListComp elt [⟨tg, iter, ifs, 0⟩] scope pos) 0 (.ref it) acc { CU with scope := relabel scope X.env }) (RR acc CU.locals) s₄) E s₃) E s := by
 refine wpAny_newObj_type (wpAny_newFunctionEnv hN.cell (by intro y hy; simp at hy) (fun h₁ o8 mL => ?_) hN.kind)
 dsimp only at o8 mL ⊢
 generalize GU : s.heap.push { cls := .type "list", dict := none, data := .seq ([] : List Value).toArray } = H2 at o8 mL ⊢
 have hC : H2.objs.size = s.heap.objs.size + 1 := by rw [<- GU, Heap.size_push]
 have E2 : s.heap.objs.size ≠ H2.objs.size := by rw [hC]; exact Nat.ne_of_lt (Nat.lt_succ_self _)
 have AZ : s.heap.objs.size <= H2.objs.size := by rw [hC]; exact Nat.le_succ _
 have BZ : ∀ b ∈ fp, b < s.heap.objs.size := fun b hb => by obtain ⟨o, ho, _⟩ := Tn.obj _ _ st b hb; exact Heap.lt_size ho
 have old : ∀ b o, s.heap.get? b = some o -> h₁.get? b = some o := fun b o e => mL.extBut b o (Nat.ne_of_lt (Nat.lt_of_lt_of_le (Heap.lt_size e) AZ)) (Heap.get?_push_of_some _ (GU ▸ Heap.get?_push_of_some _ e))
 have iS : h₁.PlainList s.heap.objs.size #[] := ⟨_, mL.extBut _ _ E2 (Heap.get?_push_of_some _ (GU ▸ Heap.get?_push_size _ rfl))⟩
 generalize y7 : s.heap.objs.size = D at *
 generalize LZ : H2.objs.size = C at *
 have I0 : Inv (f7 X (T ++ M) scope cl C s H fp) [] (List.replicate T.length none ++ σ) H { s with heap := h₁, toks := s.toks + ([] : List (Str × Value)).length } :=
  vt I hN h1 h2 (by rw [y7]; exact AZ) hf (by rw [y7]; exact BZ) o8 old
 have Ir : tn 0 h₁ := Tn.keep _ _ _ st fun b _ o e => old b o e
 obtain ⟨W, ⟨m0, w0⟩, turn⟩ := hW
 have Io : ∀ b ∈ fp, b ≠ D := fun b hb => Nat.ne_of_lt (BZ b hb)
 have stat : ∀ {H' : Hp} {pl : List (Addr × Obj)}, (∀ b ∈ fp, H' b = none) -> (∀ p ∈ pl, p.1 = D) -> ∀ b ∈ fp, dQ (f7 X (T ++ M) scope cl C s H fp) pl H' b := fun {H' pl} hn hp b hb => by
  have ok := I0.ok
  refine ⟨hn b hb, (ok.DI b hb).1, ok.rK b hb, .inl hb, (ok.DI b hb).2, fun p hq => ?_⟩
  have y4 : p ∈ pl := hq
  rw [hp p y4]; exact Ne.symm (Io b hb)
 have loop : codeAny (model X.prog X.w) X.A (.compLoop (.ListComp elt [⟨tg, iter, ifs, 0⟩] scope pos) 0 (.ref it) (.ref D) (compEnvC scope cl C X.env)) (RR (.ref D) C) { s with heap := h₁, toks := s.toks + ([] : List (Str × Value)).length } := by
  refine pR (fun n s' => ∃ i acc H' aS, Inv (f7 X (T ++ M) scope cl C s H fp) [] (List.replicate T.length none ++ σ) H' s' /\ tn i s'.heap /\ (∀ b ∈ fp, H' b = none) /\ s'.heap.PlainList D aS /\ H' D = none /\ Vals acc aS.toList /\ acc.length <= sizeLine /\ W i n acc H') ?_ m0
   ⟨0, [], H, #[], I0, Ir, fun b hb => (hf b hb).1, iS, I.aT.fresh (by rw [y7]; exact Nat.le_refl _), .nil, Nat.zero_le _, w0⟩
  rintro n s3 ⟨i, acc, H3, aS, I3, Ct, Cj, ⟨nn, ho⟩, FR, hv, hlen, w3⟩
  have GW : ∀ {H'} {s'} {σ'} {o : Obj}, Inv (f7 X (T ++ M) scope cl C s H fp) [] σ' H' s' -> s'.heap.get? D = some o -> (∀ v, o.data ≠ .cell v) -> H' D = none -> Inv (f7 X (T ++ M) scope cl C s H fp) [(D, o)] σ' H' s' := fun {H' s' σ' o} I' e d hn => by
   refine I'.fQ fun p hp => ?_
   have e' : p = (D, o) := by simpa using hp
   subst e'
   refine ⟨e, hn, E2, fun z => ?_, d⟩
   have z' : D ∈ nS X.stack := z
   obtain ⟨_, o', xZ, _⟩ := I.stack.mem z'
   exact absurd (Heap.lt_size xZ) (by rw [y7]; exact Nat.lt_irrefl _)
  have Hx := GW I3 ho (fun v z => by cases z) FR
  rcases turn i n acc H3 w3 with ⟨stop, fin⟩ | ⟨go, hl, step⟩
  . refine cj (Tn.done (f7 X (T ++ M) scope cl C s H fp) rfl rfl rfl mm i _ s3 _ H3 _ Hx (stat Cj (by simp)) Ct stop) fun r s4 ⟨hr, I4⟩ => ?_
    subst hr
    have e4 := (I4.pin (D, _) (List.mem_append_right _ List.mem_cons_self)).1
    have FI : Inv (f7 X (T ++ M) scope cl C s H fp) [] (List.replicate T.length none ++ σ) H3 s4 := I4.fQ fun p hp => nomatch hp
    obtain ⟨m4, n4, _⟩ := FI.loc
    exact hR D C s4 H3 acc m4 (Nat.le_refl _) AZ (Ne.symm E2) n4 FI.free FR (wt I FI hf (by rw [y7]; exact Nat.le_refl _) FR hlen hv (by simpa using e4)) fin
  . refine cj (Tn.item (f7 X (T ++ M) scope cl C s H fp) rfl rfl rfl mm i _ s3 _ H3 _ Hx (stat Cj (by simp)) Ct go) fun r s4 ⟨u, hr, h4⟩ => ?_
    subst hr
    refine cj h4 fun _ s5 ⟨x, H5, I5, r5, y5, Bv, GD⟩ => ?_
    have GC := I5.pinned (stat GD (by simp)) (Tn.obj _ _ Bv)
    refine cj (hg _ _ _ _ _ _ s5 _ H5 x u _ GC r5 (Ko _ _ _ (step x H5 y5))) fun _ s6 ⟨σ6, H6, I6, q6, KR, Jn⟩ => ?_
    refine cj (hc _ _ _ _ _ _ s6 σ6 H6 _ I6 q6) fun b s7 ⟨H7, I7, q7⟩ => ?_
    have rest : ∀ {s8 : Shared} {H8 : Hp}, Inv (f7 X (T ++ M) scope cl C s H fp) ([(D, _)] ++ la fp s5.heap) σ6 H8 s8 -> tn (i + 1) s8.heap /\ (∀ b ∈ fp, H8 b = none) /\ s8.heap.PlainList D aS /\ H8 D = none /\ Inv (f7 X (T ++ M) scope cl C s H fp) [] (List.replicate T.length none ++ σ) H8 s8 := fun {s8 H8} I8 => by
     refine ⟨Tn.keep _ _ _ Bv fun b hb o e => (I8.pin (b, o) (List.mem_append_right _ (List.mem_append_right _ (fZ hb e)))).1, fun b hb => ?_, ⟨nn, (I8.pin (D, _) (List.mem_append_right _ (List.mem_append_left _ List.mem_cons_self))).1⟩, (I8.pin (D, _) (List.mem_append_right _ (List.mem_append_left _ List.mem_cons_self))).2.1, (I8.forget T.length KR Jn).fQ fun p hp => nomatch hp⟩
     obtain ⟨o, e, d⟩ := Tn.obj _ _ Bv b hb
     exact (I8.pin (b, o) (List.mem_append_right _ (List.mem_append_right _ (fZ hb e)))).2.1
    cases b with
    | false =>
      obtain ⟨m', hm, w7⟩ := q7
      obtain ⟨a1, a2, a3, a4, a5⟩ := rest I7
      exact ⟨m', hm, i + 1, acc, H7, aS, a5, a1, a2, a3, a4, hv, hlen, w7⟩
    | true =>
      refine cj (he _ _ _ _ _ _ s7 σ6 H7 _ I7 q7) fun y s8 ⟨yv, H8, I8, r8, m', hm, w8⟩ => ?_
      obtain ⟨a1, a2, a3, a4, a5⟩ := rest I8
      have hsz : aS.size <= sizeLine := by have := hv.length; simp at this; omega
      refine wpAny_list_append_plain (hsz := hsz) a3 fun h9 xI IP => ?_
      refine ⟨m', hm, i + 1, acc ++ [yv], H8, aS.push y, ?_, ?_, a2, xI, a4, ?_, by simp; omega, w8⟩
      . exact a5.turned (t' := s8.toks) (it := D) (fun b o hb e => (IP.2 b hb).trans e) a4 E2 (.inr (by show s.heap.objs.size <= D; rw [y7]; exact Nat.le_refl _)) (fun x c e z => by
         obtain ⟨v, o, ho, _⟩ := I.cell x c (h1 x c e)
         exact absurd (Heap.lt_size ho) (by rw [y7, z]; exact Nat.lt_irrefl _)) (fun p hp => nomatch hp)
      . exact Tn.keep _ _ _ a1 fun b hb o e => (IP.2 b (Io b hb)).trans e
      . simpa using Vals.append hv (.cons r8 .nil)
 exact codeAny_compStart_list loop (Tn.self _ _ _ _ _ Ir loop)
end
def CA (k : Nat) (g : TG) : Prop := ∀ v (τ σ : St) H Q, τ.length = k -> g v (τ ++ σ) H Q -> g v (τ ++ σ) H fun σ2 H2 => Q σ2 H2 /\ ∃ τ', τ'.length = k /\ σ2 = τ' ++ σ
theorem ia {k i : Nat} (h : i < k) : CA k (kM i) := fun v τ σ H Q hl q => by
 have e : (τ ++ σ).set i (some v) = τ.set i (some v) ++ σ := List.set_append_left _ _ (by omega)
 exact ⟨q, τ.set i (some v), by simp [hl], e⟩
def vG (Q : VK) (acc : List V) (H : Hp) : Prop := ∀ p, H p = none -> Q (.ref p) (upd H p (.lst acc))
def Gg (k : Nat) (wi : TI) (g : TG) (tc : TT) (te : TE) : TE := fun σ H Q => wi σ H fun J H1 => Ew k g tc te (vG Q) σ J H1
section
variable {X : Cx} {T M : List Str} {scope : Scope} {g : TG} {tc : TT} {te : TE} {wi : TI} {tg elt iter : Expr} {ifs : List Expr} {pos : Pos}
theorem rj (hN : i3 X T M scope) (mm : X.calm = true) (hi : PI X tg iter wi) (hg : ∀ cl C s H fp, PG (f7 X (T ++ M) scope cl C s H fp) tg g) (JR : CA T.length g)
 (hc : ∀ cl C s H fp, ER (f7 X (T ++ M) scope cl C s H fp) ifs tc) (he : ∀ cl C s H fp, PE (f7 X (T ++ M) scope cl C s H fp) elt te)
 (hs : ∀ x, foldedSetIterable iter X.env x = pure x := by intro _; rfl) : PE X (.ListComp elt [⟨tg, iter, ifs, 0⟩] scope pos) (Gg T.length wi g tc te) := by
 intro pins s σ H Q I h
 obtain ⟨cl, gX, h1, h2⟩ := qg (scope := scope) (env := X.env) fun x hx hf => I.ok.has x.1 (hN.free x hx hf)
 rw [eval_ListComp]
 refine wpAny_comprehension_free (use := none) rfl hs gX hN.kind hN.names (cj (hi pins s σ H _ I h) fun xv s1 uA => cj uA fun Fu s2 Cu => ?_)
 obtain ⟨it, fp, tn, J, H2, e, I2, Tn, st, hf, hW⟩ := Cu
 subst e
 refine yX (RR := fun acc C => compPost (model X.prog X.w) X.A X.xe none (EP X pins σ Q) acc C) hN mm h1 h2 hg (fun v H Q q => ?_) hc he I2 Tn st hf hW ?_
 . have := JR v (List.replicate T.length none) σ H Q (by simp) q
   refine (by
    have e : (fun (σ2 : St) (H2 : Hp) => Q σ2 H2 /\ T.length + σ.length = σ2.length /\ σ2.drop T.length = σ) = fun σ2 H2 => Q σ2 H2 /\ ∃ τ' : St, τ'.length = T.length /\ σ2 = τ' ++ σ := by
     funext σ2 H2
     refine propext ⟨fun ⟨a, b, c⟩ => ⟨a, σ2.take T.length, by rw [List.length_take]; omega, by rw [<- c, List.take_append_drop]⟩, fun ⟨a, τ', b, c⟩ => ⟨a, by rw [c, List.length_append, b], by rw [c, <- b, List.drop_left]⟩⟩
    rw [e]; exact this)
 . intro D C s' H' acc m hD hC nQ hn Kd JB Ib fin
   refine ⟨m, hn, fun h' t7 => ⟨.ref D, _, ?_, rfl, fin D JB⟩⟩
   exact Ib.turned (t' := s'.toks) (it := C) (fun b o hb e => (t7.2 b hb).trans e) (by rw [ak nQ]; exact Kd) (Nat.ne_of_gt (Nat.lt_of_lt_of_le I2.lt hC)) (.inr (Nat.le_trans I2.sz hC)) (fun x c e z => by
    obtain ⟨v, q⟩ := I2.cell x c e
    exact absurd (Nat.lt_of_lt_of_le q.lt (by rw [z]; exact hC)) (Nat.lt_irrefl _)) (fun p hp z => absurd (Nat.lt_of_lt_of_le (Heap.lt_size (I2.pin p hp).1) (by rw [z]; exact hC)) (Nat.lt_irrefl _))
end
end L2
namespace L2
open PySem PySem.Spec PyProof.Rows PySem.W
mutual
def nk : PyData -> Bool
 | .none => true
 | .bool _ => true
 | .int _ => true
 | .str _ => true
 | .tuple ds => bA ds
 | .list _ => false
 | .dict _ => false
def bA : List PyData -> Bool
 | [] => true
 | d :: ds => nk d && bA ds
end
theorem iR : ∀ {ds : List PyData}, bA ds = true ↔ ∀ d ∈ ds, nk d = true
 | [] => by simp [bA]
 | d :: ds => by simp [bA, iR (ds := ds)]
theorem iu {ds es : List PyData} (h1 : bA ds = true) (h2 : bA es = true) : bA (ds ++ es) = true := by
 rw [iR] at *
 intro d hd
 rcases List.mem_append.mp hd with h | h
 . exact h1 d h
 . exact h2 d h
theorem dE {α : Type} {f : α -> PyData} (h : ∀ x, nk (f x) = true) (xs : List α) : bA (xs.map f) = true := by
 rw [iR]
 intro d hd
 obtain ⟨x, _, rfl⟩ := List.mem_map.mp hd
 exact h x
structure Mv (S : List Addr) (H H' : Hp) : Prop where
 kp : ∀ a o, a ∉ S -> H a = some o -> H' a = some o
 tp : ∀ a xs, H a = some (.tup xs) -> H' a = some (.tup xs)
 dm : ∀ a, H' a = none -> H a = none
theorem Mv.refl {S : List Addr} {H : Hp} : Mv S H H := ⟨fun _ _ _ h => h, fun _ _ h => h, fun _ h => h⟩
theorem az.mv {S : List Addr} {H H' : Hp} (s : az H H') : Mv S H H' := ⟨fun a o _ h => s a o h, fun a xs h => s a _ h, fun a h => by
 cases e : H a with
 | none => rfl
 | some o => rw [s a o e] at h; cases h⟩
theorem Mv.trans {S : List Addr} {H H1 H2 : Hp} (m : Mv S H H1) (m2 : Mv S H1 H2) : Mv S H H2 := ⟨fun a o n h => m2.kp a o n (m.kp a o n h), fun a xs h => m2.tp a xs (m.tp a xs h), fun a h => m.dm a (m2.dm a h)⟩
theorem Mv.step {S S1 : List Addr} {H H1 H2 : Hp} (m : Mv S H H1) (m2 : Mv S1 H1 H2) (hs : ∀ a ∈ S1, a ∈ S \/ H a = none) : Mv S H H2 := by
 refine ⟨fun a o n h => ?_, fun a xs h => m2.tp a xs (m.tp a xs h), fun a h => m.dm a (m2.dm a h)⟩
 refine m2.kp a o (fun z => ?_) (m.kp a o n h)
 rcases hs a z with q | q
 . exact n q
 . rw [q] at h; cases h
theorem Mv.g5 {S : List Addr} {H H1 H2 : Hp} (m : Mv S H H1) (s : az H1 H2) : Mv S H H2 := m.trans s.mv
theorem Mv.at {S : List Addr} {H H' : Hp} {a : Addr} {o : HO} (m : Mv S H H') (n : a ∉ S) (h : H a = some o) : H' a = some o := m.kp a o n h
theorem Mv.none {S : List Addr} {H H' : Hp} {a : Addr} (m : Mv S H H') (h : H' a = none) : H a = none := m.dm a h
theorem az.none {H H' : Hp} {a : Addr} (m : az H H') (h : H' a = none) : H a = none := (m.mv (S := [])).dm a h
theorem Mv.jQ {H : Hp} {p : Addr} {o u : HO} (h : H p = some u) (nt : ∀ xs, u ≠ .tup xs) : Mv [p] H (upd H p o) := ⟨fun a v n e => by
 rw [ak (fun z => n (by simp [z]))]; exact e, fun a xs e => by
 rw [ak (fun z => by subst z; rw [h] at e; exact nt xs (Option.some.inj e))]; exact e, fun a e => by
 by_cases z : a = p
 . subst z; rw [ay] at e; cases e
 . rw [ak z] at e; exact e⟩
mutual
theorem Dv.mS {H H' : Hp} (t : ∀ a xs, H a = some (.tup xs) -> H' a = some (.tup xs)) : ∀ {v : V} {d : PyData}, Dv H v d -> nk d = true -> Dv H' v d
 | _, _, .a0, _ => .a0
 | _, _, .bl b, _ => .bl b
 | _, _, .int i, _ => .int i
 | _, _, .str x, _ => .str x
 | _, _, .tup h r, c => .tup (t _ _ h) (cu.mS t r (by simpa [nk] using c))
 | _, _, .lst h r, c => by simp [nk] at c
 | _, _, .dct h r, c => by simp [nk] at c
theorem cu.mS {H H' : Hp} (t : ∀ a xs, H a = some (.tup xs) -> H' a = some (.tup xs)) : ∀ {v : List V} {d : List PyData}, cu H v d -> bA d = true -> cu H' v d
 | _, _, .nil, _ => .nil
 | _, _, .cons h r, c => by
   have c' := c
   simp only [bA, Bool.and_eq_true] at c'
   exact .cons (Dv.mS t h c'.1) (cu.mS t r c'.2)
end
theorem Mv.yY {S : List Addr} {H H' : Hp} {v : List V} {d : List PyData} (m : Mv S H H') (i : bA d = true) (h : cu H v d) : cu H' v d := h.mS m.tp i
def cM (H : Hp) (p : Addr) (ds : List PyData) : Prop := ∃ xs, H p = some (.lst xs) /\ cu H xs ds /\ bA ds = true
theorem cM.dv {H : Hp} {p : Addr} {ds : List PyData} (h : cM H p ds) : Dv H (.ref p) (.list ds) := let ⟨_, e, d, _⟩ := h; .lst (.of e) d
theorem cM.keeps {H H' : Hp} {p : Addr} {ds : List PyData} (s : az H H') (h : cM H p ds) : cM H' p ds := let ⟨xs, e, d, i⟩ := h; ⟨xs, s _ _ e, d.keeps s, i⟩
theorem cM.mv {S : List Addr} {H H' : Hp} {p : Addr} {ds : List PyData} (m : Mv S H H') (n : p ∉ S) (h : cM H p ds) : cM H' p ds := let ⟨xs, e, d, i⟩ := h; ⟨xs, m.at n e, m.yY i d, i⟩
theorem cM.ne {H : Hp} {p q : Addr} {ds : List PyData} (h : cM H p ds) (hn : H q = none) : p ≠ q := let ⟨_, e, _, _⟩ := h; ax e hn
theorem cM.mS {H : Hp} {p : Addr} {ds : List PyData} (h : cM H p ds) : bA ds = true := let ⟨_, _, _, i⟩ := h; i
theorem wD {H : Hp} {p : Addr} {xs : List V} {ds : List PyData} (hn : H p = none) (d : cu H xs ds) (i : bA ds = true) : cM (upd H p (.lst xs)) p ds := ⟨xs, ay, d.keeps (dS hn), i⟩
theorem uK {p q : Addr} (h : p ≠ q) : p ∉ [q] := by simpa using h
theorem small {n m : Nat} (h : n <= m) (hm : m <= 4000 := by decide) : n <= sizeLine := Nat.le_trans h (Nat.le_trans hm (by decide))
theorem fg {n : Nat} (h : n <= 4000) : n < sizeLine := Nat.lt_of_le_of_lt h (by decide)
section
variable {σ : St} {H : Hp} {Q : VK} {D : Ends} {K : PySem.W.Frag} {p : Addr} {ds : List PyData}
theorem FZ {T : String} {r : V -> List V -> Hp -> VK -> Prop} {to : TE} {t : TA} (h : to σ H fun x H1 => DA K T x H1 /\ t σ H1 fun xs H2 => r x xs H2 Q) : Ie K T r to t σ H Q := h
theorem CG {R : Prop} (hp : cM H p ds) (h : R) : DA K "list" (.ref p) H /\ R := let ⟨xs, e, _, _⟩ := hp; ⟨.inl ⟨rfl, xs, dA.of e⟩, h⟩
theorem CP {y : V} {d : PyData} (hp : cM H p ds) (hl : ds.length <= 4000) (hy : Dv H y d) (hi : nk d = true) (h : ∀ H2, Mv [p] H H2 -> cM H2 p (ds ++ [d]) -> Q .a0 H2) : qi (.ref p) [y] H Q := by
 obtain ⟨xs, e, dv, i⟩ := hp
 have m : Mv [p] H (upd H p (.lst (xs ++ [y]))) := .jQ e (by intro _ z; cases z)
 refine ⟨p, xs, y, rfl, rfl, e, by rw [dv.length]; exact fg hl, h _ m ⟨_, ay, m.yY (iu i (by simp [bA, hi])) (dv.append (.cons hy .nil)), iu i (by simp [bA, hi])⟩⟩
theorem AA {xs : List V} (hl : xs.length <= sizeLine) (hd : cu H xs ds) (hi : bA ds = true) (k : ∀ p H2, az H H2 -> H p = none -> cM H2 p ds -> Q (.ref p) H2) : zj xs H Q :=
 ⟨hl, ds, hd, fun p H2 s n e d _ => k p H2 s n ⟨xs, e, d, hi⟩⟩
end
mutual
theorem Dv.fn {H : Hp} : ∀ {v : V} {d e : PyData}, Dv H v d -> Dv H v e -> nk d = true -> d = e
 | _, _, _, .a0, h, _ => by cases h; rfl
 | _, _, _, .bl b, h, _ => by cases h; rfl
 | _, _, _, .int i, h, _ => by cases h; rfl
 | _, _, _, .str x, h, _ => by cases h; rfl
 | _, _, _, .tup h r, h2, c => by
   cases h2 with
   | tup h' r' =>
     have c' := (by simpa [nk] using c : bA _ = true)
     rw [h] at h'
     cases h'
     rw [cu.fn r r' c']
   | lst h' r' =>
     rcases h' with h' | ⟨o, h'⟩ <;> rw [h] at h' <;> cases h'
   | dct h' r' => rw [h] at h'; cases h'
 | _, _, _, .lst h r, _, c => by simp [nk] at c
 | _, _, _, .dct h r, _, c => by simp [nk] at c
theorem cu.fn {H : Hp} : ∀ {v : List V} {d e : List PyData}, cu H v d -> cu H v e -> bA d = true -> d = e
 | _, _, _, .nil, h, _ => by cases h; rfl
 | _, _, _, .cons h r, h2, c => by
   have c' := c
   simp only [bA, Bool.and_eq_true] at c'
   cases h2 with
   | cons h' r' => rw [Dv.fn h h' c'.1, cu.fn r r' c'.2]
end
theorem Dv.lst_inv {H : Hp} {v : V} {ds : List PyData} (h : Dv H v (.list ds)) : ∃ a xs, v = .ref a /\ (∀ K : PySem.W.Frag, dA K H a xs) /\ cu H xs ds := by
 cases h with
 | lst h r => exact ⟨_, _, rfl, fun _ => .inl h, r⟩
section
variable {σ : St} {H : Hp} {Q : VK} {D : Ends} {K : PySem.W.Frag} {p : Addr} {v : V} {ds : List PyData}
def Ed (te : TE) (N : Option V -> Hp -> Prop) (σ2 : St) (b : Bool) (H3 : Hp) : Prop := if b = true then te σ2 H3 (fun y H4 => N (some y) H4) else N none H3
theorem CK {k : Nat} {tl : TE} {g : TG} {tc : TT} {te : TE} (h : tl σ H fun x H1 => ∃ a, x = .ref a /\ (∃ xs, dA K H1 a xs) /\ Ew k g tc te (vG Q) σ (vL K a) H1) : Gg k (tX K tl) g tc te σ H Q := h
theorem zT {k : Nat} {g : TG} {tc : TT} {te : TE} {α : Type} {cs : List α} {gd : α -> PyData} (pf : α -> Bool) (fd : α -> PyData) (hl : Dv H v (.list (cs.map gd))) (hlen : cs.length <= 4000) (hi : ∀ c, nk (fd c) = true)
 (turn : ∀ x c H' (N : Option V -> Hp -> Prop), c ∈ cs -> az H H' -> Dv H' x (gd c) -> (pf c = true -> ∀ y H4, az H' H4 -> Dv H4 y (fd c) -> N (some y) H4) -> (pf c = false -> ∀ H3, az H' H3 -> N none H3) ->
  g x (List.replicate k none ++ σ) H' fun σ2 H2 => tc σ2 H2 fun b H3 => Ed te N σ2 b H3)
 (kk : ∀ q H', az H H' -> H q = none -> cM H' q ((cs.filter pf).map fd) -> Q (.ref q) H') : ∃ a, v = .ref a /\ (∃ xs, dA K H a xs) /\ Ew k g tc te (vG Q) σ (vL K a) H := by
 obtain ⟨p, xs, rfl, e, dv⟩ := hl.lst_inv
 have EL : dA K H p xs := e K
 have BF : xs.length = cs.length := by rw [dv.length, List.length_map]
 refine ⟨p, rfl, ⟨xs, EL⟩, fun i m acc H' => i <= cs.length /\ m = cs.length - i /\ az H H' /\ cu H' acc (((cs.take i).filter pf).map fd), ⟨cs.length, Nat.zero_le _, rfl, az.refl _, by simpa using cu.nil⟩, ?_⟩
 rintro i m acc H' ⟨D5, hm, sm, iS⟩
 have sX : dA K H' p xs := az.seq sm EL
 have HM : acc.length <= cs.length := by
  rw [iS.length, List.length_map]
  exact Nat.le_trans (List.length_filter_le _ _) (by rw [List.length_take]; omega)
 by_cases hc : i = cs.length
 . left
   refine ⟨⟨xs, sX, by omega⟩, fun q hq => ?_⟩
   rw [hc, List.take_length] at iS
   have lN : az H (upd H' q (.lst acc)) := sm.trans (dS hq)
   exact kk q _ lN (sm.none hq) ⟨acc, ay, iS.keeps (dS hq), dE hi _⟩
 . right
   have jK : i < cs.length := by omega
   have Fw : i < xs.length := by omega
   refine ⟨⟨xs, xs[i], sX, List.getElem?_eq_getElem Fw⟩, fg (by omega), fun x H2 hy => ?_⟩
   obtain ⟨rfl, hy⟩ := hy
   have hx := hy xs sX
   have vB : cs[i]? = some cs[i] := List.getElem?_eq_getElem jK
   obtain ⟨x', n6, hd⟩ := dv.get (i := i) (d := gd cs[i]) (by rw [List.getElem?_map, vB]; rfl)
   rw [hx] at n6
   cases n6
   have r6 : cs.take (i + 1) = cs.take i ++ [cs[i]] := by rw [List.take_add_one, vB]; rfl
   exact turn x cs[i] H2 (fun o H4 => match o with | some y => ∃ m', m' < m /\ i + 1 <= cs.length /\ m' = cs.length - (i + 1) /\ az H H4 /\ cu H4 (acc ++ [y]) (((cs.take (i + 1)).filter pf).map fd) | none => ∃ m', m' < m /\ i + 1 <= cs.length /\ m' = cs.length - (i + 1) /\ az H H4 /\ cu H4 acc (((cs.take (i + 1)).filter pf).map fd))
    (List.getElem_mem jK) sm (hd.keeps sm)
    (fun hp y H4 s4 d4 => ⟨cs.length - (i + 1), by omega, jK, rfl, sm.trans s4, by
     rw [r6, List.filter_append, List.map_append]
     simp only [List.filter_cons, hp, if_true, List.filter_nil, List.map_cons, List.map_nil]
     exact cu.append (iS.keeps s4) (.cons d4 .nil)⟩)
    (fun hp H3 s3 => ⟨cs.length - (i + 1), by omega, jK, rfl, sm.trans s3, by
     rw [r6, List.filter_append, List.map_append]
     simp only [List.filter_cons, hp, Bool.false_eq_true, if_false, List.filter_nil, List.map_nil, List.append_nil]
     exact iS.keeps s3⟩)
end
def qQ (scope sc : Scope) (N M : List Str) : Bool :=
 (scope.kind == .function) && scope.names.all (fun y => y.2 != .cell) && scope.names.all (fun y => y.2 != .local || scope.names.lookup y.1 == some .local) &&
  scope.names.all (fun y => y.2 != .free || (sc.names.lookup y.1 == some .cell || sc.names.lookup y.1 == some .free)) && (M.length == N.length) &&
  (M.zip N).all fun p => (p.1 == p.2 && scope.names.lookup p.1 == some .free) || scope.names.lookup p.1 == none
theorem EW {X : Cx} {T M : List Str} {scope : Scope} (sc : Scope) (N : List Str) (hs : X.env.scope = sc) (hN : X.N = N) (h : qQ scope sc N M = true) : i3 X T M scope := by
 unfold qQ at h
 simp only [Bool.and_eq_true, List.all_eq_true, Bool.or_eq_true, bne_iff_ne, beq_iff_eq, ne_eq] at h
 obtain ⟨⟨⟨⟨⟨h1, h2⟩, h3⟩, h4⟩, h5⟩, h6⟩ := h
 refine ⟨h1, h2, fun y hy e => ?_, fun y hy e => ?_, by rw [hN]; exact h5, fun i x hx => ?_⟩
 . rcases h3 y hy with z | z
   . exact absurd e z
   . exact z
 . rw [hs]
   rcases h4 y hy with z | z
   . exact absurd e z
   . exact z
 . have hi : i < M.length := (List.getElem?_eq_some_iff.mp hx).1
   have II : i < N.length := by omega
   have hz : (M.zip N)[i]? = some (x, N[i]) := by
    rw [List.getElem?_zip_eq_some]
    exact ⟨hx, List.getElem?_eq_getElem II⟩
   rcases h6 _ (List.mem_of_getElem? hz) with ⟨a, b⟩ | a
   . left
     refine ⟨?_, b⟩
     rw [hN, List.getElem?_eq_getElem II]
     have a' : x = N[i] := a
     rw [a']
   . exact .inr a
section
variable {σ : St} {H : Hp} {Q : VK} {D : Ends} {K : PySem.W.Frag} {p : Addr} {v : V} {ds : List PyData}
theorem zW {z : Str} {i : Int} {c : Nat} (hl : z.length <= sizeLine) (hi : md z.cps.toList i = some c) (h : Q (.str ⟨#[c]⟩) H) : sH K (.str z) (.int i) H Q := .inl (.inr ⟨z, i, c, rfl, rfl, hl, hi, h⟩)
def t5 : R2 := fun x y H Q => ∃ i j, x = .str i /\ y = .str j /\ i.length + j.length <= sizeLine /\ Q (.str (i ++ j)) H
theorem jd {X : Cx} : iT X (binaryOp .Add) t5 := pH
theorem vE {i j : Str} (hl : i.length + j.length <= 4000) (h : Q (.str (i ++ j)) H) : t5 (.str i) (.str j) H Q := ⟨i, j, rfl, rfl, small hl, h⟩
theorem xB (xs : List V) (i j : Nat) : sr xs (some (i : Int)) (some (j : Int)) = (xs.drop i).take (j - i) := by
 unfold sr
 rw [HT.q4, HT.q4]
 by_cases h : i <= xs.length
 . rw [Nat.min_eq_left h]
   by_cases h2 : j <= xs.length
   . rw [Nat.min_eq_left h2]
   . rw [Nat.min_eq_right (by omega)]
     rw [List.take_of_length_le (by rw [List.length_drop]; omega), List.take_of_length_le (by rw [List.length_drop]; omega)]
 . rw [List.drop_of_length_le (show xs.length <= min i xs.length by omega), List.drop_of_length_le (show xs.length <= i by omega), List.take_nil, List.take_nil]
theorem Fz {te : TE} {tl th : TO} {r : V -> Option Int -> Option Int -> Hp -> VK -> Prop} (h : te σ H fun x H1 => tl σ H1 fun l H2 => th σ H2 fun u H3 => r x l u H3 Q) : Iw r te tl th σ H Q := h
theorem zU {t : TE} {R : Option Int -> Hp -> Prop} (h : t σ H fun x H1 => ∃ i, x = .int i /\ R (some i) H1) : yr t σ H R := h
theorem w9 {i : Int} {R : Int -> Prop} (h : R i) : ∃ j, V.int i = .int j /\ R j := ⟨i, rfl, h⟩
theorem yW {ns : List Int} (i j : Nat) (hp : dA K H p (ns.map V.int)) (k : ∀ q H', az H H' -> H q = none -> cM H' q (((ns.drop i).take (j - i)).map PyData.int) -> Q (.ref q) H') : DM K (.ref p) (some (i : Int)) (some (j : Int)) H Q := by
 refine ⟨p, _, rfl, hp, fun q hq => ?_⟩
 rw [xB, <- List.map_drop, <- List.map_take]
 exact k q _ (dS hq) hq ⟨_, ay, cu.ints _, dE (fun _ => rfl) _⟩
theorem kD {H : Hp} {x : Str} : ∀ {xs : List V} {ss : List Str}, cu H xs (ss.map PyData.str) -> xs.all iF = true /\ EI (.str x) xs = ss.contains x
 | _, [], .nil => ⟨rfl, rfl⟩
 | _, s :: ss, .cons h r => by
   cases h
   obtain ⟨a, b⟩ := kD (x := x) r
   refine ⟨by simpa [iF] using a, ?_⟩
   show (wq (.str s) (.str x) || EI (.str x) _) = _
   rw [b]
   show ((s == x) || ss.contains x) = _
   rw [List.contains_cons, show (s == x) = (x == s) from by rw [Bool.eq_iff_iff, beq_iff_eq, beq_iff_eq]; exact eq_comm]
theorem D8 {ss : List Str} {x : Str} (hp : Dv H v (.list (ss.map PyData.str))) (h : Q (.bl (ss.contains x)) H) : BP K false (.str x) v H Q := by
 obtain ⟨p, xs, rfl, e, dv⟩ := hp.lst_inv
 obtain ⟨a, b⟩ := kD (x := x) dv
 refine ⟨p, xs, rfl, .inl (e K), rfl, a, ?_⟩
 rw [b]; exact h
theorem AU {ss : List Str} {x : Str} (hp : Dv H v (.list (ss.map PyData.str))) (h : Q (.bl (!ss.contains x)) H) : BP K true (.str x) v H Q := by
 obtain ⟨p, xs, rfl, e, dv⟩ := hp.lst_inv
 obtain ⟨a, b⟩ := kD (x := x) dv
 refine ⟨p, xs, rfl, .inl (e K), rfl, a, ?_⟩
 rw [b]; exact h
end
end L2
namespace L2
theorem uy {H H1 H2 : Hp} (a : ∀ x, H1 x = none -> H x = none) (b : ∀ x, H2 x = none -> H1 x = none) : ∀ x, H2 x = none -> H x = none := fun x h => a x (b x h)
theorem Bg {H H' : Hp} {p : PySem.Addr} (s : ∀ x, H' x = none -> H x = none) (h : H' p = none) : H p = none := s p h
theorem az.KZ {H H' : Hp} (s : az H H') : ∀ x, H' x = Option.none -> H x = Option.none := (s.mv (S := [])).dm
end L2
namespace L2
open PySem
theorem tS {α β : Type} [Inhabited α] {f : α -> β} {xs : List α} {i : Int} (h0 : 0 <= i) (h1 : i < xs.length) : md (xs.map f) i = some (f (xs.getD i.toNat default)) := by
 obtain ⟨m, rfl⟩ := Int.eq_ofNat_of_zero_le h0
 have hm : m < xs.length := by omega
 refine ko ?_
 rw [List.getElem?_map, List.getElem?_eq_getElem hm]
 simp [hm]
theorem Af {α : Type} {g : α -> PyData} {xs : List α} {K : PySem.W.Frag} {H : Hp} {Q : VK} {v : V} (hs : Dv H v (.list (xs.map g))) (h : Q (.int (xs.length : Nat)) H) : qy K [v] H Q := vp (.inr hs) (by rw [List.length_map]; exact h)
theorem we {i : Nat} {v : V} {σ : St} {H : Hp} {R : St -> Hp -> Prop} (h : R (σ.set i (some v)) H) : kM i v σ H R := h
theorem Mv.yn {p : Addr} {H H1 H2 : Hp} (s : az H H1) (m : Mv [p] H1 H2) (n : H p = Option.none) : az H H2 := fun a o e => m.kp a o (uK (ax e n)) (s a o e)
theorem Mv.sq {K : PySem.W.Frag} {S : List Addr} {H H' : Hp} {a : Addr} {xs : List V} (m : Mv S H H') (n : a ∉ S) (h : dA K H a xs) : dA K H' a xs := by
 rcases h with (h | ⟨o, h⟩) | h
 . exact .inl (.inl (m.at n h))
 . exact .inl (.inr ⟨o, m.at n h⟩)
 . exact .inr h
theorem qK {te : TE} {N : Option V -> Hp -> Prop} {σ2 : St} {b : Bool} {H3 : Hp} (h1 : b = true -> te σ2 H3 (fun y H4 => N (some y) H4)) (h2 : b = false -> N none H3) : Ed te N σ2 b H3 := by
 unfold Ed
 cases b with
 | true => rw [if_pos rfl]; exact h1 rfl
 | false => rw [if_neg (by simp)]; exact h2 rfl
end L2
namespace L2
open PySem PySem.Spec PyProof.Rows
section
variable {X : Cx} {K : PySem.W.Frag} {a b e : Expr} {es : List Expr} {ta : TE} {pos : Pos}
theorem y3 (h : X.K = K) : iT X (compareOp .In) (BP K false) := by rw [<- h]; exact rB
theorem x5 (h : X.K = K) : iT X (compareOp .NotIn) (BP K true) := by rw [<- h]; exact fN
theorem sE (h : X.K = K) (ha : PE X a ta) (he : ∀ whole, isTrue a X.env whole = (do let v <- whole; standAt a.pos; holding [v] (truthy v))) : PT X a (fun σ H Q => ta σ H fun x H' => ∃ k, xr K x H' k /\ Q k H') := by rw [<- h]; exact hJ ha he
end
end L2
namespace L2
open PySem PySem.Spec PyProof.Rows PySem.W
inductive fU (H : Hp) : List (Key × V) -> List (Str × PyData) -> Prop where
 | nil : fU H [] []
 | cons {k : Str} {v : V} {d : PyData} {kvs : List (Key × V)} {m : List (Str × PyData)} (h : Dv H v d) (i : nk d = true) (r : fU H kvs m) : fU H ((.inr k, v) :: kvs) ((k, d) :: m)
theorem fU.mS {H H' : Hp} (t : ∀ a xs, H a = some (.tup xs) -> H' a = some (.tup xs)) : ∀ {kvs : List (Key × V)} {m : List (Str × PyData)}, fU H kvs m -> fU H' kvs m
 | _, _, .nil => .nil
 | _, _, .cons h i r => .cons (h.mS t i) i (fU.mS t r)
theorem fU.length {H : Hp} : ∀ {kvs : List (Key × V)} {m : List (Str × PyData)}, fU H kvs m -> kvs.length = m.length
 | _, _, .nil => rfl
 | _, _, .cons _ _ r => by simp [fU.length r]
def bF (m : List (Str × PyData)) (k : Str) : Option PyData := (m.find? fun kv => decide (kv.1 = k)).map (·.2)
def putD (m : List (Str × PyData)) (k : Str) (d : PyData) : List (Str × PyData) := if (m.any fun kv => decide (kv.1 = k)) = true then m.map (fun kv => if kv.1 = k then (kv.1, d) else kv) else m ++ [(k, d)]
def cB (m : List (Str × PyData)) (k : Str) : List (Str × PyData) := m.filter fun kv => decide (kv.1 ≠ k)
theorem xP {a b : Str} : ((Sum.inr a : Key) = Sum.inr b) = (a = b) := propext ⟨fun h => Sum.inr.inj h, fun h => by rw [h]⟩
theorem fU.val {H : Hp} {k : Str} : ∀ {kvs : List (Key × V)} {m : List (Str × PyData)}, fU H kvs m -> (∀ d, bF m k = some d -> ∃ v, iL kvs (.inr k) = some v /\ Dv H v d) /\ (bF m k = none -> iL kvs (.inr k) = none)
 | _, _, .nil => ⟨fun d h => by simp [bF] at h, fun _ => rfl⟩
 | _, _, .cons (k := j) h i r => by
   obtain ⟨h1, h2⟩ := fU.val (k := k) r
   by_cases e : j = k
   . subst e
     refine ⟨fun d hd => ⟨_, ju rfl, ?_⟩, fun hd => by simp [bF] at hd⟩
     simp [bF] at hd
     subst hd; exact h
   . have e' : (Sum.inr j : Key) ≠ .inr k := fun z => e (Sum.inr.inj z)
     have el : ∀ (d : PyData) (m : List (Str × PyData)), bF ((j, d) :: m) k = bF m k := fun d m => by simp [bF, List.find?_cons, e]
     refine ⟨fun d hd => ?_, fun hd => ?_⟩
     . rw [el] at hd
       obtain ⟨v, hv, nE⟩ := h1 d hd
       exact ⟨v, by rw [gR e']; exact hv, nE⟩
     . rw [el] at hd
       rw [gR e']; exact h2 hd
theorem fU.any {H : Hp} {k : Str} : ∀ {kvs : List (Key × V)} {m : List (Str × PyData)}, fU H kvs m -> (kvs.any fun kv => decide (kv.1 = .inr k)) = m.any fun kv => decide (kv.1 = k)
 | _, _, .nil => rfl
 | _, _, .cons h i r => by
   simp only [List.any_cons, fU.any r, xP]
theorem fU.append {H : Hp} : ∀ {kvs Cm : List (Key × V)} {m m' : List (Str × PyData)}, fU H kvs m -> fU H Cm m' -> fU H (kvs ++ Cm) (m ++ m')
 | _, _, _, _, .nil, s => s
 | _, _, _, _, .cons h i r, s => .cons h i (fU.append r s)
theorem fU.repl {H : Hp} {k : Str} {v : V} {d : PyData} (hv : Dv H v d) (hi : nk d = true) : ∀ {kvs : List (Key × V)} {m : List (Str × PyData)}, fU H kvs m -> fU H (kvs.map fun kv => if kv.1 = .inr k then (kv.1, v) else kv) (m.map fun kv => if kv.1 = k then (kv.1, d) else kv)
 | _, _, .nil => .nil
 | _, _, .cons (k := j) h i r => by
   rw [List.map_cons, List.map_cons]
   by_cases e : j = k
   . subst e
     rw [if_pos rfl, if_pos rfl]
     exact .cons hv hi (fU.repl hv hi r)
   . rw [if_neg (fun z => e (Sum.inr.inj z)), if_neg e]
     exact .cons h i (fU.repl hv hi r)
theorem fU.put {H : Hp} {k : Str} {v : V} {d : PyData} {kvs : List (Key × V)} {m : List (Str × PyData)} (r : fU H kvs m) (hv : Dv H v d) (hi : nk d = true) : fU H (putK kvs (.inr k) v) (putD m k d) := by
 unfold putK putD
 rw [r.any]
 by_cases h : (m.any fun kv => decide (kv.1 = k)) = true
 . rw [if_pos h, if_pos h]; exact r.repl hv hi
 . rw [if_neg h, if_neg h]; exact r.append (.cons hv hi .nil)
theorem fU.drop {H : Hp} {k : Str} : ∀ {kvs : List (Key × V)} {m : List (Str × PyData)}, fU H kvs m -> fU H (jz kvs (.inr k)) (cB m k)
 | _, _, .nil => .nil
 | _, _, .cons (k := j) h i r => by
   by_cases e : j = k
   . subst e
     have := fU.drop (k := j) r
     simpa [jz, cB] using this
   . have := fU.drop (k := k) r
     have e' : (Sum.inr j : Key) ≠ .inr k := fun z => e (Sum.inr.inj z)
     simp only [jz, cB, List.filter_cons] at this ⊢
     rw [if_pos (by simpa using e'), if_pos (by simpa using e)]
     exact .cons h i this
def hO (H : Hp) (p : Addr) (m : List (Str × PyData)) : Prop := ∃ kvs, H p = some (.dK kvs) /\ fU H kvs m
theorem hO.keeps {H H' : Hp} {p : Addr} {m : List (Str × PyData)} (s : az H H') (h : hO H p m) : hO H' p m := let ⟨kvs, e, d⟩ := h; ⟨kvs, s _ _ e, d.mS fun a xs e => s _ _ e⟩
theorem hO.mv {S : List Addr} {H H' : Hp} {p : Addr} {m : List (Str × PyData)} (v : Mv S H H') (n : p ∉ S) (h : hO H p m) : hO H' p m := let ⟨kvs, e, d⟩ := h; ⟨kvs, v.at n e, d.mS v.tp⟩
theorem hO.ne {H : Hp} {p q : Addr} {m : List (Str × PyData)} (h : hO H p m) (hn : H q = none) : p ≠ q := let ⟨_, e, _⟩ := h; ax e hn
theorem hO.pV {H : Hp} {p q : Addr} {m : List (Str × PyData)} {ds : List PyData} (h : hO H p m) (h2 : cM H q ds) : p ≠ q := let ⟨_, e, _⟩ := h; let ⟨_, e2, _, _⟩ := h2; d9 e e2 (by intro z; cases z)
section
variable {σ : St} {H : Hp} {Q : VK} {D : Ends} {K : PySem.W.Frag} {p : Addr} {m : List (Str × PyData)} {k : Str}
theorem zi (h : ∀ p H2, az H H2 -> H p = none -> hO H2 p [] -> Q (.ref p) H2) : u5 σ H Q := fun p hp => h p _ (dS hp) hp ⟨[], ay, .nil⟩
theorem vW {td ty tv : TE} (h : tv σ H fun v H1 => td σ H1 fun x H2 => ty σ H2 fun y H3 => ∃ a H4, x = .ref a /\ o9 H3 a y v H4 /\ D.nx σ H4) : yA td ty tv D σ H := h
theorem Ag {v : V} {d : PyData} {R : Hp -> Prop} (hp : hO H p m) (hl : m.length <= 4000) (hv : Dv H v d) (hi : nk d = true) (h : ∀ H2, Mv [p] H H2 -> hO H2 p (putD m k d) -> R H2) : ∃ a H4, V.ref p = .ref a /\ o9 H a (.str k) v H4 /\ R H4 := by
 obtain ⟨kvs, e, dk⟩ := hp
 have mv : Mv [p] H (upd H p (.dK (putK kvs (.inr k) v))) := .jQ e (by intro _ z; cases z)
 exact ⟨p, _, rfl, o9.k (k := .inr k) e (by rw [dk.length]; exact fg hl), h _ mv ⟨_, ay, (dk.put hv hi).mS mv.tp⟩⟩
theorem wL {td ty : TE} (h : td σ H fun x H1 => ty σ H1 fun y H2 => ∃ a v, x = .ref a /\ ka H2 a y (some v) /\ Q v H2) : yq td ty σ H Q := h
theorem A5 {td ty : TE} (h : ty σ H fun y H1 => td σ H1 fun x H2 => ∃ a o, x = .ref a /\ ka H2 a y o /\ Q (.bl o.isSome) H2) : CD ty td σ H Q := h
theorem xk {td ty : TE} (h : ty σ H fun y H1 => td σ H1 fun x H2 => ∃ a o, x = .ref a /\ ka H2 a y o /\ Q (.bl (!o.isSome)) H2) : qY ty td σ H Q := h
end
end L2
namespace L2
theorem Fi {t : TE} {σ : St} {H : Hp} {Q : Bool -> Hp -> Prop} (h : t σ H fun x H' => ∃ k, x = .bl k /\ Q k H') : tB t σ H Q := h
end L2
namespace L2
open PySem
theorem u9 {Hb : Hp} {σ : St} {H : Hp} {D : Ends} {K : PySem.W.Frag} {v : V} {α : Type} {cs : List α} {gd : α -> PyData} {g : TG} {tb : TS} (hl : Dv Hb v (.list (cs.map gd))) (Pv : Nat -> St -> Hp -> Prop) (h0 : Pv 0 σ H) (hk : ∀ i σ H', i <= cs.length -> Pv i σ H' -> ∀ a xs, v = .ref a -> dA K Hb a xs -> dA K H' a xs)
 (hs : ∀ i c x σ H', cs[i]? = some c -> Pv i σ H' -> (nk (gd c) = true -> (∀ a xs, Hb a = some (.tup xs) -> H' a = some (.tup xs)) -> Dv H' x (gd c)) -> (az Hb H' -> Dv H' x (gd c)) -> g x σ H' fun σ2 H2 => tb { D with nx := Pv (i + 1), ct := Pv (i + 1), bk := D.nx } σ2 H2) (hd : ∀ σ H', Pv cs.length σ H' -> D.nx σ H') : A4 K v g tb D σ H := by
 obtain ⟨p, xs, rfl, e, dv⟩ := hl.lst_inv
 have BF : xs.length = cs.length := by rw [dv.length, List.length_map]
 refine forL (hk 0 σ H (Nat.zero_le _) h0 p xs rfl (e K)) Pv h0 (fun i σ H' hi hp => hk i σ H' (by omega) hp p xs rfl (e K)) (fun i x σ H' hx hp => ?_) (fun σ H' hp => hd σ H' (by rw [<- BF]; exact hp))
 have hi : i < cs.length := by have := (List.getElem?_eq_some_iff.mp hx).1; omega
 obtain ⟨x', n6, nE⟩ := dv.get (i := i) (d := gd cs[i]) (by rw [List.getElem?_map, List.getElem?_eq_getElem hi]; rfl)
 rw [hx] at n6
 cases n6
 exact hs i cs[i] x σ H' (List.getElem?_eq_getElem hi) hp (fun im t => nE.mS t im) (fun s => nE.keeps s)
end L2
namespace L2
open PySem PySem.Spec PyProof.Rows PySem.W
section
variable {X : Cx} {tg : Expr}
def El : List V -> Hp -> VK -> Prop := fun xs H Q => ∃ (v : V) (bs : List Bool), xs = [v] /\ Dv H v (.list (bs.map PyData.bool)) /\ Q (.bl (bs.any id)) H
theorem ot {H : Hp} : ∀ {xs : List V} {bs : List Bool} {us : List Value}, cu H xs (bs.map PyData.bool) -> Vals xs us -> us = bs.map Value.bool
 | _, [], _, .nil, .nil => rfl
 | _, b :: bs, _, .cons h r, .cons q t => by
   cases h
   cases q
   rw [ot r t]; rfl
theorem pJ {H : Hp} {pins : List (Addr × Obj)} {σ : St} {s : Shared} {v : V} {u : Value} {bs : List Bool} {A : Around} {E : Value -> Shared -> Prop} {Q : (Nat -> Bool) -> Shared -> Prop} (hA : A.handled = none) (I : Inv X pins σ H s) (rv : RelV v u) (hd : Dv H v (.list (bs.map PyData.bool)))
 (fin : ∀ h' tk, Inv X pins σ H { s with heap := h', toks := tk } -> Q (fun i => bs.getD i false) { s with heap := h', toks := tk }) :
 wpAny (model X.prog X.w) A (pyIter u) (fun it s2 => ∃ J fp wr n P St tr, it = .ref J /\ Walks X.prog X.w A J fp wr n P St /\ St 0 s2.heap /\ TruthOf X.prog X.w A P tr /\ n = bs.length /\ (tr = fun i => bs.getD i false) /\
  ∀ h' tk, (∀ b o, b ∉ wr -> s2.heap.get? b = some o -> h'.get? b = some o) -> Q tr { s2 with heap := h', toks := tk }) E s := by
 obtain ⟨p, xs, rfl, e, dv⟩ := hd.lst_inv
 obtain ⟨aS, EE, pl, _⟩ := I.list (e X.K)
 have hits := ot dv EE
 have hu : u = .ref p := rv
 subst hu
 refine wpAny_pyIter_list pl.isList ?_
 have jK : p < s.heap.objs.size := by obtain ⟨o, n, e1, _⟩ := pl; exact Heap.lt_size e1
 refine ⟨s.heap.objs.size, _, _, _, _, _, fun i => bs.getD i false, rfl, Walks.list hA _ p (Nat.ne_of_lt jK) aS.toArray, ⟨⟨_, Heap.get?_push_size _ rfl, rfl, rfl⟩, pl.isList.at fun o e => Heap.get?_push_of_some _ e⟩, ?_, ?_, rfl, fun h' tk kk => ?_⟩
 . intro i w' s3 Q3 E3 hP q
   subst hits
   have hi : (bs.map Value.bool)[i]? = some w' := by simpa using hP
   rw [List.getElem?_map] at hi
   cases hb : bs[i]? with
   | none => rw [hb] at hi; cases hi
   | some b =>
     rw [hb] at hi
     have : w' = .bool b := (Option.some.inj hi).symm
     subst this
     refine wpAny_truthy_bool ?_
     have : bs.getD i false = b := by simp [hb]
     have q' : Q3 (bs.getD i false) s3 := q
     rw [this] at q'
     exact q'
 . subst hits; simp
 . have I1 := I.kept (t' := s.toks) (h' := s.heap.push { cls := Value.type "list_iterator", data := Data.fields #[Value.ref p, Value.int 0 0] }) fun b o e => Heap.get?_push_of_some _ e
   have fp := I.mR (H' := H) (Nat.le_refl _) (I.aT.fresh (Nat.le_refl _))
   have I2 := I1.turned (t' := tk) (h' := h') (it := s.heap.objs.size) (fun b o hb e => kk b o (by simpa using hb) e) fp.1 fp.2.1 fp.2.2.2.1 fp.2.2.2.2.1 fp.2.2.2.2.2
   exact fin h' tk I2
theorem range_any (bs : List Bool) : (List.range bs.length).any (fun i => bs.getD i false) = bs.any id := by
 rw [Bool.eq_iff_iff]
 simp only [List.any_eq_true, List.mem_range, id]
 constructor
 . rintro ⟨i, hi, e⟩
   simp [hi] at e
   exact ⟨_, List.getElem_mem hi, e⟩
 . rintro ⟨b, hb, e⟩
   obtain ⟨i, hi, e2⟩ := List.getElem_of_mem hb
   exact ⟨i, hi, by simp [hi, e2, e]⟩
theorem su (hc : X.calm = true) : j1 X (.builtin "any") El := by
 intro pins s σ H xs us Q I r h
 obtain ⟨v, bs, rfl, hd, q⟩ := h
 obtain ⟨u, rfl, ru⟩ := vals1 r
 refine call_any_walk (cj (pJ (Q := fun g s' => EP X pins σ Q (.bool ((List.range bs.length).any g)) s') (show X.A.in1.handled = none from I.ok.hd hc) I ru hd (fun h' tk I' => ⟨.bl _, H, I', rfl, ?_⟩)) fun it s2 hq => ?_)
 . rw [range_any]; exact q
 . obtain ⟨J, fp, wr, n, P, St, tr, e1, W, st, tt, hn, Mm, k⟩ := hq
   subst hn
   exact ⟨J, fp, wr, _, P, St, tr, e1, W, st, tt, k⟩
section
variable {σ : St} {H : Hp} {Q : VK} {D : Ends} {K : PySem.W.Frag}
theorem Cd {v : V} {bs : List Bool} (hd : Dv H v (.list (bs.map PyData.bool))) (h : Q (.bl (bs.any id)) H) : El [v] H Q := ⟨v, bs, rfl, hd, h⟩
end
end
end L2
namespace L2
open PySem
section
variable {H : Hp} {Q : VK} {K : PySem.W.Frag}
end
end L2
namespace L2
open PySem PySem.Spec PyProof.Rows PySem.W
section
variable {X : Cx}
theorem qX {H : Hp} : ∀ {xs : List V} {ss : List Str} {us : List Value}, cu H xs (ss.map PyData.str) -> Vals xs us -> StrsAre us ss
 | _, [], _, .nil, .nil => .nil
 | _, b :: bs, _, .cons h r, .cons q t => by
   cases h
   obtain ⟨tk, rfl⟩ := q
   exact .cons _ _ (qX r t)
end
section
variable {σ : St} {H : Hp} {Q : VK} {D : Ends} {K : PySem.W.Frag} {p : Addr} {ds : List PyData}
end
end L2
namespace L2
open PySem PySem.Calls PyProof.Rows
section
variable {X : Cx} {e k : Expr} {te tk : TE} {pos p2 : Pos}
end
section
variable {X : Cx}
end
section
variable {K : PySem.W.Frag} {σ : St} {H : Hp} {Q : VK} {p : Addr} {ds : List PyData}
end
end L2
namespace L2
open PySem PySem.Spec PyProof.Rows PySem.W
section
variable {X : Cx}
def uq (ss : List Str) : Prop := ss.Pairwise fun a b => oM b a = false
theorem jb : ∀ (r : List Str) (p : Str), risingS p r = true -> (∀ x ∈ r, oM x p = false) /\ uq r
 | [], _, _ => ⟨fun x hx => (by cases hx), List.Pairwise.nil⟩
 | y :: r, p, h => by
   unfold risingS at h
   rw [Bool.and_eq_true] at h
   obtain ⟨h1, h2⟩ := h
   have uA : oM y p = false := by
    have : ltCps y.cps.toList p.cps.toList = false := by simpa using h1
    rw [ltCps_eq] at this
    exact this
   obtain ⟨a, b⟩ := jb r y h2
   refine ⟨fun x hx => ?_, List.pairwise_cons.mpr ⟨a, b⟩⟩
   rcases List.mem_cons.mp hx with rfl | hx
   . exact uA
   . exact qM (a x hx) uA
theorem m7 {ss : List Str} (h : sortedS ss = true) : uq ss := by
 cases ss with
 | nil => exact List.Pairwise.nil
 | cons x r => obtain ⟨a, b⟩ := jb r x h; exact List.pairwise_cons.mpr ⟨a, b⟩
theorem ic : ∀ {xs ys : List Str}, xs.Perm ys -> uq xs -> uq ys -> xs = ys
 | [], _, hp, _, _ => List.Perm.nil_eq hp
 | x :: xs, [], hp, _, _ => by have := hp.length_eq; simp at this
 | x :: xs, y :: ys, hp, h1, h2 => by
   have hx := List.pairwise_cons.mp h1
   have hy := List.pairwise_cons.mp h2
   have BL : x = y := by
    have m1 : y ∈ x :: xs := hp.mem_iff.mpr List.mem_cons_self
    have m2 : x ∈ y :: ys := hp.mem_iff.mp List.mem_cons_self
    rcases List.mem_cons.mp m1 with e | Gx
    . exact e.symm
    rcases List.mem_cons.mp m2 with e | Gj
    . exact e
    exact rn (hy.1 x Gj) (hx.1 y Gx)
   subst BL
   rw [ic (List.Perm.cons_inv hp) hx.2 hy.2]
def uI : List V -> Hp -> VK -> Prop := fun xs H Q => ∃ (v : V) (ss : List Str), xs = [v] /\ Dv H v (.list (ss.map PyData.str)) /\ ss.length < 64 /\ ∀ (q : Addr) (H' : Hp) (uT : List Str), az H H' -> H q = none -> uT.Perm ss -> uq uT -> cM H' q (uT.map PyData.str) -> Q (.ref q) H'
theorem mB : ∀ {us : List Value} {ss : List Str}, StrsAre us ss -> Vals (ss.map V.str) us
 | _, _, .nil => .nil
 | _, _, .cons _ t r => .cons ⟨t, rfl⟩ (mB r)
theorem lb {H : Hp} : ∀ (ss : List Str), cu H (ss.map V.str) (ss.map PyData.str)
 | [] => .nil
 | x :: r => .cons (.str x) (lb r)
theorem pX : j1 X (.builtin "sorted") uI := by
 intro pins s σ H xs us Q I r h
 obtain ⟨v, ss, rfl, hd, hl, q⟩ := h
 obtain ⟨u, rfl, ru⟩ := vals1 r
 obtain ⟨p, ys, rfl, e, dv⟩ := hd.lst_inv
 obtain ⟨aS, EE, pl, _⟩ := I.list (e X.K)
 cases ru
 have hS := qX dv EE
 refine sorted_strs pl.isList hS (by rw [<- EE.length, dv.length, List.length_map]; exact hl) fun out uT h1 h2 h3 => ?_
 obtain ⟨ep, he⟩ := sortedAll_at s.heap aS out
 have hq : H (s.heap.objs.size + 1) = none := I.aT.fresh (Nat.le_succ _)
 refine ⟨.ref (s.heap.objs.size + 1), upd H (s.heap.objs.size + 1) (.lst (uT.map V.str)), I.laid (t' := s.toks) (fun b ob q => sortedAll_old q) (Nat.le_succ _) ?_, rfl, q _ _ uT (dS hq) hq h2 (m7 h3) (wD hq (lb uT) (dE (fun _ => rfl) _))⟩
 exact ⟨by rw [List.length_map, h2.length_eq]; exact Nat.le_of_lt (fg (by omega)), out.toList, ep, mB h1, by simpa [seqObj] using he⟩
end
section
variable {prog : Program} {w : World} {A : Around} {E : Value -> Shared -> Prop} {s : Shared} {it l : Addr} {aS : Array Value}
end
section
variable {X : Cx} {e : Expr} {te : TE} {p p2 pos xD : Pos}
end
section
variable {K : PySem.W.Frag} {σ : St} {H : Hp} {Q : VK} {p : Addr} {ds : List PyData} {v : V}
theorem xH {ss : List Str} (hp : Dv H v (.list (ss.map PyData.str))) (hl : ss.length < 64) (k : ∀ q H' uT, az H H' -> H q = none -> uT.Perm ss -> uq uT -> cM H' q (uT.map PyData.str) -> Q (.ref q) H') : uI [v] H Q := ⟨v, ss, rfl, hp, hl, k⟩
end
section
variable {P : Program} {w : World} {H : Hp} {h : Heap} {d : Addr} {o : Obj} {kvs : List (Key × V)}
theorem gf.gN (ok : gf P w H h) (hd : H d = some (.dK kvs)) (ho : h.get? d = some o) : gf P w (upd H d (.gN o (.dK kvs))) h := by
 intro b u q
 by_cases hb : b = d
 . subst hb
   rw [ay] at q
   cases q
   exact ⟨ho, ok b _ hd⟩
 . rw [ak hb] at q
   refine (ok b u q).lh (fun c v _ r => r) (fun c r => ?_) fun c xs r => ?_
   . rw [ak (d9 r hd (by intro z; cases z))]; exact r
   . rw [ak (d9 r hd (by intro z; cases z))]; exact r
theorem gf.zg (ok : gf P w H h) (hd : H d = some (.gN o (.dK kvs))) : gf P w (upd H d (.dK kvs)) h := by
 intro b u q
 by_cases hb : b = d
 . subst hb
   rw [ay] at q
   cases q
   exact (ok b _ hd).2
 . rw [ak hb] at q
   refine (ok b u q).lh (fun c v _ r => r) (fun c r => ?_) fun c xs r => ?_
   . rw [ak (d9 r hd (by intro z; cases z))]; exact r
   . rw [ak (d9 r hd (by intro z; cases z))]; exact r
end
section
variable {X : Cx} {pins : List (Addr × Obj)} {σ : St} {H : Hp} {s : Shared} {d : Addr} {o : Obj} {kvs : List (Key × V)}
theorem Inv.freeze (I : Inv X pins σ H s) (hd : H d = some (.dK kvs)) (ho : s.heap.get? d = some o) : Inv X pins σ (upd H d (.gN o (.dK kvs))) s := by
 have u : Un X.fs [] H (upd H d (.gN o (.dK kvs))) s.heap s.heap := {
  keep := fun b u e n _ _ => e
  slot := fun b u e n _ _ => ⟨u.slots, e⟩
  free := fun b u e n _ => by rw [ak (Ne.symm (ax hd n))]; exact n
  there := fun b u e _ => ⟨u, e⟩
  jl := fun b xs e => by rw [ak (d9 e hd (by intro z; cases z))]; exact e
  ig := fun b u v e => by rw [ak (d9 e hd (by intro z; cases z))]; exact e
  jE := fun b ps e => ⟨#[], by rw [ak (d9 e hd (by intro z; cases z)), e]; simp⟩ }
 exact I.un (h' := s.heap) (t' := s.toks) u (I.aT.gN hd ho)
theorem Inv.zg (I : Inv X pins σ H s) (hd : H d = some (.gN o (.dK kvs))) (h0 : ∀ u v, X.og d ≠ some (.gN u v)) : Inv X pins σ (upd H d (.dK kvs)) s := by
 have nn : ∀ b, H b = none -> upd H d (.dK kvs) b = none := fun b n => by rw [ak (Ne.symm (ax hd n))]; exact n
 refine ⟨I.ok, I.os, I.bare, ⟨I.base.keep, I.base.slot, fun b u e n x => nn b (I.base.free b u e n x), I.base.there, fun b xs e => ?_, fun b u v e => ?_, fun b ps e => ?_⟩, I.loc, I.cell, nn _ I.free, fun x c e => nn c (I.eD x c e), fun p hp => ?_, I.aT.zg hd, I.len⟩
 . have z := I.base.jl b xs e
   rw [ak (d9 z hd (by intro q; cases q))]; exact z
 . have z := I.base.ig b u v e
   have hb : b ≠ d := fun q => h0 u v (q ▸ e)
   rw [ak hb]; exact z
 . obtain ⟨m, z⟩ := I.base.jE b ps e
   exact ⟨m, by rw [ak (d9 z hd (by intro q; cases q))]; exact z⟩
 . obtain ⟨a1, a2, a3⟩ := I.pin p hp
   exact ⟨a1, nn _ a2, a3⟩
theorem Inv.Cr (I : Inv X pins σ H s) (hd : H d = some (.dK kvs)) : ∀ u v, X.og d ≠ some (.gN u v) := fun u v z => by
 have := I.base.ig d u v z
 rw [hd] at this
 cases this
def yC (t : TE) : TE := fun σ H Q => ∃ d kvs, H d = some (.dK kvs) /\ t σ H fun v H' => (∃ o, H' d = some (.gN o (.dK kvs))) /\ Q v (upd H' d (.dK kvs))
theorem xu {e : Expr} {t : TE} (h : PE X e t) : PE X e (yC t) := by
 intro pins s σ H Q I ⟨d, kvs, hd, ht⟩
 have h0 := I.Cr hd
 exact cj (h pins s σ H _ I ht) fun v s1 ⟨x, H1, I1, r, ⟨o, ho⟩, q⟩ => ⟨x, _, I1.zg ho h0, r, q⟩
end
def Hs (d : Addr) (o : Obj) (kvs : List (Key × V)) : It := ⟨fun i H => i < kvs.length /\ H d = some (.gN o (.dK kvs)), fun i H v H' => H' = H /\ ∃ kv, kvs[i]? = some kv /\ v = kV kv.1, fun i H => i = kvs.length /\ H d = some (.gN o (.dK kvs))⟩
theorem qO {P : Program} {w : World} {H : Hp} {h : Heap} {d : Addr} {o : Obj} {kvs : List (Key × V)} {es : Array DictEntry} {ep : Nat} (ok : gf P w H h) (hd : H d = some (.gN o (.dK kvs))) (he : o.data = .dict es ep) : (d == sysModules) = false /\ ∃ vs, KV kvs vs /\ h.DictAt (aV P w) d vs ep := by
 obtain ⟨ho, _, hs, vs, kv, o2, LJ, Mb, a1, a2, a3, a4⟩ := ok d _ hd
 rw [ho] at a1
 cases a1
 rw [he] at a3
 cases a3
 exact ⟨hs, vs, kv, _, _, ho, a2, he, a4⟩
theorem lq {α β : Type} {F : α -> β -> Prop} : ∀ {xs : List α} {ys : List β}, Paired F xs ys -> ∀ {i : Nat} {x : α}, xs[i]? = some x -> ∃ y, ys[i]? = some y /\ F x y
 | _, _, .nil, i, x, h => by simp at h
 | _, _, .cons r t, 0, x, h => by
   have e := Option.some.inj h
   exact ⟨_, rfl, e ▸ r⟩
 | _, _, .cons r t, i + 1, x, h => by
   obtain ⟨y, e, q⟩ := lq t (i := i) (by simpa using h)
   exact ⟨y, by simpa using e, q⟩
theorem oV {k : Key} {v : Value} (h : ll k v = true) : RelV (kV k) v := by
 rcases bq h with ⟨i, t, rfl, rfl⟩ | ⟨x, t, rfl, rfl⟩
 . exact ⟨t, rfl⟩
 . exact ⟨t, rfl⟩
theorem rN {P : Program} {w : World} {K : PySem.W.Frag} {tg : Expr} {it d : Addr} {o : Obj} {kvs : List (Key × V)} {es : Array DictEntry} {ep : Nat} (he : o.data = .dict es ep) (nQ : d ≠ it) :
 Turn P w K tg (Hs d o kvs) [it] it (fun i h => h.IsKeyIter it d i kvs.length ep) where
 mem := by simp
 obj := fun i h st b hb => by
  have e : b = it := by simpa using hb
  subst e
  obtain ⟨o, e, c, d⟩ := st
  exact ⟨o, e, fun v z => by rw [d] at z; cases z⟩
 keep := fun i h h' st k => let ⟨o, e, r⟩ := st; ⟨o, k it (by simp) o e, r⟩
 item := by
  intro X hP hw hK hc i pins s σ H E I hf st hg
  subst hP hw hK
  obtain ⟨f0, f1, f2, f3, f4, f5⟩ := hf it (by simp)
  obtain ⟨hi, hd⟩ := hg
  obtain ⟨_, vs, kv, da⟩ := qO I.aT hd he
  have hl : vs.length = kvs.length := kv.length.symm
  refine (Walks.dictKeys (knd := aV X.prog X.w) (I.ok.hd hc) it d nQ vs ep).item i s _ _ (by rw [hl]; exact hi) ⟨by rw [hl]; exact st, da⟩ fun v h' tk hv o5 kk => ?_
  obtain ⟨k, x, hx, hk⟩ := hv
  have I1 : Inv X pins σ H { s with heap := h', toks := tk } := I.turned (fun b u hb e => kk b u (by simpa using hb) e) f0 f1 f3 f4 f5
  have HV : h'.IsKeyIter it d (i + 1) kvs.length ep := by rw [<- hl]; exact o5.1
  obtain ⟨o1, e1, c1, d1⟩ := id HV
  refine ⟨_, rfl, rg (s := { s with heap := h', toks := tk }) e1 c1 d1 (by decide) ⟨kV k, H, I1, oV hk, ⟨rfl, ?_⟩, HV, fun b hb => (hf b hb).1⟩⟩
  obtain ⟨q, hq⟩ : ∃ q, kvs[i]? = some q := ⟨_, List.getElem?_eq_getElem hi⟩
  obtain ⟨y, hy, Kb⟩ := lq kv hq
  rw [hx] at hy
  cases hy
  exact ⟨q, hq, by rw [Kb.1]⟩
 done := by
  intro X hP hw hK hc i pins s σ H E I hf st hg
  subst hP hw hK
  obtain ⟨f0, f1, f2, f3, f4, f5⟩ := hf it (by simp)
  obtain ⟨hi, hd⟩ := hg
  obtain ⟨_, vs, kv, da⟩ := qO I.aT hd he
  have hl : vs.length = kvs.length := kv.length.symm
  subst hi
  refine (Walks.dictKeys (knd := aV X.prog X.w) (I.ok.hd hc) it d nQ vs ep).done s _ _ ⟨by rw [hl]; exact st, da⟩ fun h' tk kk => ⟨rfl, I.turned (fun b u hb e => kk b u (by simpa using hb) e) f0 f1 f3 f4 f5⟩
 self := fun A i s Q E st q => wpAny_pyIter_keyiter st q
def yo (tl : TE) : TI := fun σ H R => tl σ H fun v H1 => ∃ d kvs, v = .ref d /\ H1 d = some (.dK kvs) /\ ∀ o, R (Hs d o kvs) (upd H1 d (.gN o (.dK kvs)))
theorem xV {X : Cx} {tg l : Expr} {tl : TE} (hl : PE X l tl) : PI X tg l (yo tl) := by
 intro pins s σ H R I h
 refine cj (hl pins s σ H _ I h) fun v s1 ⟨y, H1, I1, r1, q1⟩ => ?_
 obtain ⟨d, kvs, rfl, hd, q⟩ := q1
 cases r1
 obtain ⟨_, hs, vs, kv, o, es, ep, ho, a2, a3, a4⟩ := (show bH X.prog X.w H1 s1.heap d (.dK kvs) from I1.aT d _ hd)
 have da : s1.heap.DictAt (aV X.prog X.w) d vs ep := ⟨o, es, ho, a2, a3, a4⟩
 refine wpAny_pyIter_dict hs da ?_
 have I2 := I1.freeze hd ho
 have jK : d < s1.heap.objs.size := Heap.lt_size ho
 have hlen : vs.length = kvs.length := kv.length.symm
 refine ⟨s1.heap.objs.size, [s1.heap.objs.size], _, _, _, rfl, I2.kept (t' := s1.toks) fun b u e => Heap.get?_push_of_some _ e, rN a3 (Nat.ne_of_lt jK), ⟨_, Heap.get?_push_size _ rfl, rfl, by rw [hlen]; rfl⟩, fun b hb => ?_, q o⟩
 have e : b = s1.heap.objs.size := by simpa using hb
 subst e
 exact I2.mR (Nat.le_refl _) (I2.aT.fresh (Nat.le_refl _))
def qG (H : Hp) (p : Addr) (m : List (Str × PyData)) : Prop := ∃ kvs, Rd H p (.dK kvs) /\ fU H kvs m
theorem hO.rd {H : Hp} {p : Addr} {m : List (Str × PyData)} (h : hO H p m) : qG H p m := let ⟨kvs, e, d⟩ := h; ⟨kvs, .inl e, d⟩
theorem qG.keeps {H H' : Hp} {p : Addr} {m : List (Str × PyData)} (s : az H H') (h : qG H p m) : qG H' p m := by
 obtain ⟨kvs, r, d⟩ := h
 refine ⟨kvs, ?_, d.mS fun a xs e => s _ _ e⟩
 rcases r with r | ⟨o, r⟩
 . exact .inl (s _ _ r)
 . exact .inr ⟨o, s _ _ r⟩
theorem qG.mv {S : List Addr} {H H' : Hp} {p : Addr} {m : List (Str × PyData)} (v : Mv S H H') (n : p ∉ S) (h : qG H p m) : qG H' p m := by
 obtain ⟨kvs, r, d⟩ := h
 refine ⟨kvs, ?_, d.mS v.tp⟩
 rcases r with r | ⟨o, r⟩
 . exact .inl (v.at n r)
 . exact .inr ⟨o, v.at n r⟩
theorem fU.D6 {H : Hp} : ∀ {kvs : List (Key × V)} {m : List (Str × PyData)}, fU H kvs m -> ∀ {i : Nat} {kv : Key × V}, kvs[i]? = some kv -> ∃ k d, m[i]? = some (k, d) /\ kv.1 = .inr k /\ Dv H kv.2 d
 | _, _, .nil, i, kv, h => by simp at h
 | _, _, .cons (k := k) (d := d) hv _ r, 0, kv, h => by
   have e := (Option.some.inj h).symm
   subst e
   exact ⟨k, d, rfl, rfl, hv⟩
 | _, _, .cons _ _ r, i + 1, kv, h => by
   obtain ⟨k, d, e, q⟩ := fU.D6 r (i := i) (by simpa using h)
   exact ⟨k, d, by simpa using e, q⟩
section
variable {σ : St} {H : Hp} {Q : VK} {K : PySem.W.Frag} {p : Addr} {m : List (Str × PyData)} {k : Str}
theorem x4 {d : PyData} {R : V -> Prop} (hp : qG H p m) (hk : bF m k = some d) (h : nu H d fun v _ => R v) : ∃ a v, V.ref p = .ref a /\ ka H a (.str k) (some v) /\ R v := by
 obtain ⟨kvs, e, dk⟩ := hp
 obtain ⟨v, hv, hd⟩ := (dk.val (k := k)).1 d hk
 exact ⟨p, v, rfl, .inl ⟨kvs, .inr k, e, rfl, hv.symm⟩, h.use hd⟩
theorem A2 {R : Option V -> Prop} (hp : qG H p m) (h : ∀ o : Option V, o.isSome = (bF m k).isSome -> R o) : ∃ a o, V.ref p = .ref a /\ ka H a (.str k) o /\ R o := by
 obtain ⟨kvs, e, dk⟩ := hp
 refine ⟨p, iL kvs (.inr k), rfl, .inl ⟨kvs, .inr k, e, rfl, rfl⟩, h _ ?_⟩
 obtain ⟨h1, h2⟩ := dk.val (k := k)
 cases hl : bF m k with
 | none => rw [h2 hl]; rfl
 | some d => obtain ⟨v, hv, _⟩ := h1 d hl; rw [hv]; rfl
theorem B5 {n : Nat} {tl : TE} {g : TG} {tc : TT} {te : TE} (hp : hO H p m) (JV : ∀ R : V -> Hp -> Prop, R (.ref p) H -> tl σ H R) (pf : Str -> Bool) (fd : Str -> PyData) (hlen : m.length <= 4000) (hi : ∀ c, nk (fd c) = true)
 (turn : ∀ c Hf H' (N : Option V -> Hp -> Prop), c ∈ m.map (·.1) -> Mv [p] H Hf -> qG Hf p m -> az Hf H' -> (pf c = true -> ∀ y H4, az H' H4 -> Dv H4 y (fd c) -> N (some y) H4) -> (pf c = false -> ∀ H3, az H' H3 -> N none H3) ->
  g (.str c) (List.replicate n none ++ σ) H' fun σ2 H2 => tc σ2 H2 fun b H3 => Ed te N σ2 b H3)
 (kk : ∀ q H', az H H' -> H q = none -> cM H' q (((m.map (·.1)).filter pf).map fd) -> Q (.ref q) H') : yC (Gg n (yo tl) g tc te) σ H Q := by
 obtain ⟨kvs, e, dk⟩ := hp
 refine ⟨p, kvs, e, JV _ ⟨p, kvs, rfl, e, fun o => ?_⟩⟩
 have mv : Mv [p] H (upd H p (.gN o (.dK kvs))) := .jQ e (by intro _ z; cases z)
 have rd : qG (upd H p (.gN o (.dK kvs))) p m := ⟨kvs, .inr ⟨o, ay⟩, dk.mS mv.tp⟩
 have hl : kvs.length = m.length := dk.length
 refine ⟨fun i j acc H' => i <= m.length /\ j = m.length - i /\ az (upd H p (.gN o (.dK kvs))) H' /\ cu H' acc ((((m.map (·.1)).take i).filter pf).map fd), ⟨m.length, Nat.zero_le _, rfl, az.refl _, by simpa using cu.nil⟩, ?_⟩
 rintro i j acc H' ⟨D5, rfl, sm, iS⟩
 have Dq : H' p = some (.gN o (.dK kvs)) := sm _ _ ay
 have HM : acc.length <= m.length := by
  rw [iS.length, List.length_map]
  refine Nat.le_trans (List.length_filter_le _ _) ?_
  rw [List.length_take, List.length_map]
  omega
 by_cases hc : i = m.length
 . left
   refine ⟨⟨by omega, Dq⟩, fun q hq => ?_⟩
   have GQ : p ≠ q := ax Dq hq
   have tk : (m.map (·.1)).take i = m.map (·.1) := List.take_of_length_le (by rw [List.length_map]; omega)
   rw [tk] at iS
   have ups : upd (upd H' q (.lst acc)) p (.dK kvs) q = some (.lst acc) := by rw [ak (Ne.symm GQ), ay]
   refine ⟨⟨o, by rw [ak GQ]; exact Dq⟩, kk q _ (fun a u z => ?_) ?_ ⟨acc, ups, iS.mS (fun a xs z => ?_) (dE hi _), dE hi _⟩⟩
   . by_cases ha : a = p
     . subst ha; rw [e] at z; cases z; exact ay
     . have z1 : H' a = some u := sm _ _ (by rw [ak ha]; exact z)
       rw [ak ha, ak (ax z1 hq)]; exact z1
   . cases hz : H q with
     | none => rfl
     | some u =>
       have : H' q = some u := sm _ _ (by rw [ak (Ne.symm GQ)]; exact hz)
       rw [hq] at this; cases this
   . rw [ak (d9 z Dq (by intro y; cases y)), ak (ax z hq)]; exact z
 . right
   have jK : i < m.length := by omega
   refine ⟨⟨by omega, Dq⟩, fg (by omega), fun x H2 hy => ?_⟩
   obtain ⟨rfl, kv, K8, rfl⟩ := hy
   obtain ⟨c, d, hm, Li, _⟩ := dk.D6 K8
   have vB : (m.map (·.1))[i]? = some c := by rw [List.getElem?_map, hm]; rfl
   have r6 : (m.map (·.1)).take (i + 1) = (m.map (·.1)).take i ++ [c] := by rw [List.take_add_one, vB]; rfl
   rw [show kV kv.1 = .str c by rw [Li]; rfl]
   refine turn c _ H2 (fun r H4 => match r with | some y => ∃ j', j' < m.length - i /\ i + 1 <= m.length /\ j' = m.length - (i + 1) /\ az (upd H p (.gN o (.dK kvs))) H4 /\ cu H4 (acc ++ [y]) ((((m.map (·.1)).take (i + 1)).filter pf).map fd) | none => ∃ j', j' < m.length - i /\ i + 1 <= m.length /\ j' = m.length - (i + 1) /\ az (upd H p (.gN o (.dK kvs))) H4 /\ cu H4 acc ((((m.map (·.1)).take (i + 1)).filter pf).map fd))
    (List.mem_of_getElem? vB) mv rd sm (fun hb y H4 s4 d4 => ⟨m.length - (i + 1), by omega, jK, rfl, sm.trans s4, ?_⟩) (fun hb H3 s3 => ⟨m.length - (i + 1), by omega, jK, rfl, sm.trans s3, ?_⟩)
   . rw [r6, List.filter_append, List.map_append]
     simp only [List.filter_cons, hb, if_true, List.filter_nil, List.map_cons, List.map_nil]
     exact cu.append (iS.keeps s4) (.cons d4 .nil)
   . rw [r6, List.filter_append, List.map_append]
     simp only [List.filter_cons, hb, Bool.false_eq_true, if_false, List.filter_nil, List.map_nil, List.append_nil]
     exact iS.keeps s3
end
section
variable {X : Cx}
def jR (i : Str) (n : Int) : Str := if n < 1 then Str.empty else if (n == 1 || i.length == 0) = true then i else ⟨(List.replicate n.toNat i.cps).foldl (· ++ ·) #[]⟩
def u0 : R2 := fun x y H Q => ∃ i n, x = .str i /\ y = .int n /\ 0 <= n /\ n <= 10 /\ i.length <= 10 /\ (jR i n).length <= 4000 /\ Q (.str (jR i n)) H
theorem qT : iT X (binaryOp .Mult) u0 := by
 intro pins s σ H x y v u Q I rx ry h
 obtain ⟨i, n, rfl, rfl, h0, h1, hl, hm, q⟩ := h
 obtain ⟨t, rfl⟩ := rx
 obtain ⟨t', rfl⟩ := ry
 have Em : ((i.length : Nat) : Int) <= 10 := by omega
 refine PySem.P.mul_str (by simp; omega) (fun a _ => ?_) (fun a _ => ?_) ?_
 . have c : n = 1 \/ n = 2 \/ n = 3 \/ n = 4 \/ n = 5 \/ n = 6 \/ n = 7 \/ n = 8 \/ n = 9 \/ n = 10 := by omega
   rcases c with rfl | rfl | rfl | rfl | rfl | rfl | rfl | rfl | rfl | rfl <;> omega
 . have : i.length * n.toNat <= 10 * 10 := Nat.mul_le_mul hl (by omega)
   exact decide_eq_false (Nat.not_lt.mpr (Nat.le_trans this (Nat.le_of_lt (fg (by decide)))))
 . unfold jR at hm q
   split
   . rename_i c
     rw [if_pos c] at hm q
     exact ⟨Nat.le_of_lt (fg hm), .str _, H, I.tok _, ⟨_, rfl⟩, q⟩
   . rename_i c
     rw [if_neg c] at hm q
     split
     . rename_i c2
       rw [if_pos c2] at hm q
       exact ⟨.str _, H, I, ⟨_, rfl⟩, q⟩
     . rename_i c2
       rw [if_neg c2] at hm q
       exact ⟨Nat.le_of_lt (fg hm), .str _, H, I.tok _, ⟨_, rfl⟩, q⟩
def yS : V -> List V -> Hp -> VK -> Prop := fun x vs H Q => ∃ a kvs k v, x = .ref a /\ vs = [kV k] /\ H a = some (.dK kvs) /\ iL kvs k = some v /\ Q v (upd H a (.dK (jz kvs k)))
theorem qD : Ii X "dict.pop" yS := by
 intro pins s σ H x vs v us Q I rx rv h
 obtain ⟨a, kvs, k, y, rfl, rfl, hH, hv, q⟩ := h
 cases rx
 obtain ⟨u, rfl, ru⟩ := rv.one
 exact Ci I hH ru hv (.inl rfl) fun w' s' I' r => ⟨y, _, I', r, q⟩
end
section
variable {σ : St} {H : Hp} {Q : VK} {K : PySem.W.Frag} {p : Addr} {m : List (Str × PyData)} {k : Str}
theorem A1 {i : Str} {n : Int} (h0 : 0 <= n) (h1 : n <= 10) (hl : i.length <= 10) (hm : (jR i n).length <= 4000) (h : Q (.str (jR i n)) H) : u0 (.str i) (.int n) H Q := ⟨i, n, rfl, rfl, h0, h1, hl, hm, h⟩
theorem Dg {R : Prop} (hp : hO H p m) (h : R) : DA K "dict" (.ref p) H /\ R := let ⟨kvs, e, _⟩ := hp; ⟨.inr (.inr (.inl ⟨rfl, .inl ⟨kvs, e⟩⟩)), h⟩
theorem zB {d : PyData} (hp : hO H p m) (hk : bF m k = some d) (h : ∀ v H2, Mv [p] H H2 -> hO H2 p (cB m k) -> Q v H2) : yS (.ref p) [.str k] H Q := by
 obtain ⟨kvs, e, dk⟩ := hp
 obtain ⟨v, hv, hd⟩ := (dk.val (k := k)).1 d hk
 have mv : Mv [p] H (upd H p (.dK (jz kvs (.inr k)))) := .jQ e (by intro _ z; cases z)
 refine ⟨p, kvs, .inr k, v, rfl, rfl, e, hv, h v _ mv ⟨_, ay, dk.drop.mS mv.tp⟩⟩
end
section
variable {σ : St} {H : Hp} {Q : VK} {K : PySem.W.Frag} {p : Addr}
end
section
variable {X : Cx}
end
theorem pZ {h : Heap} {o u : Obj} {b : Addr} (e : (h.push o).get? b = some u) (n : b ≠ h.objs.size) : h.get? b = some u := by
 obtain ⟨e1, e2⟩ := Heap.get?_some_iff.mp e
 refine Heap.get?_some_iff.mpr ⟨?_, e2⟩
 cases h
 simpa [Heap.push, Array.getElem?_push, n] using e1
section
variable {prog : Program} {w : World} {K : Type} [DecidableEq K] {knd : KeyKind prog w K} {A : Around} {E : Value -> Shared -> Prop} {s : Shared} {d : Addr} {kvs : List (K × Value)} {ep : Nat}
end
section
variable {X : Cx}
theorem pW {P : Program} {w : World} {kvs : List (Key × V)} {vs : List (Key × Value)} {acc : Array Value} (kv : KV kvs vs) (h : ItemsOf (fun i v => ∃ k x, vs[i]? = some (k, x) /\ (aV P w).is k v = true) acc vs.length) : Vals (kvs.map fun kv => kV kv.1) acc.toList := by
 obtain ⟨h0, h1⟩ := h
 have key : ∀ (kvs : List (Key × V)) (vs : List (Key × Value)), KV kvs vs -> ∀ l : List Value, l.length = vs.length -> (∀ (i : Nat) (v : Value), l[i]? = some v -> ∃ k x, vs[i]? = some (k, x) /\ (aV P w).is k v = true) -> Vals (kvs.map fun kv => kV kv.1) l := by
  intro kvs vs r
  induction r with
  | nil =>
    intro l hl _
    cases l with
    | nil => exact .nil
    | cons => simp at hl
  | cons r t ih =>
    intro l hl hi
    cases l with
    | nil => simp at hl
    | cons v l =>
      refine .cons ?_ (ih l (by simpa using hl) fun i v e => ?_)
      . obtain ⟨k, x, e, hk⟩ := hi 0 v rfl
        have e' := Option.some.inj e
        dsimp only
        rw [r.1, e']
        exact oV hk
      . exact hi (i + 1) v (by simpa using e)
 exact key kvs vs kv acc.toList (by simpa using h0) fun i v e => h1 i v (by simpa using e)
end
section
variable {σ : St} {H : Hp} {Q : VK} {p : Addr} {m : List (Str × PyData)}
theorem jZ : ∀ ss : List Str, bA (ss.map PyData.str) = true
 | [] => rfl
 | _ :: r => by rw [List.map_cons, bA, jZ r]; rfl
end
section
variable {σ : St} {H : Hp} {D : Ends} {p : Addr} {m : List (Str × PyData)} {g : TG} {tb : TS}
end
section
variable {σ : St} {H : Hp} {K : PySem.W.Frag}
theorem y0 {x : V} {i j : Nat} {d1 d2 : PyData} {R : St -> Hp -> Prop} (hd : Dv H x (.tuple [d1, d2])) (h : ∀ v1 v2, Dv H v1 d1 -> Dv H v2 d2 -> R ((σ.set i (some v1)).set j (some v2)) H) :
 CM K 2 (uE (kM i) (uE (kM j) Cz)) x σ H R := by
 cases hd with
 | tup ha r =>
   cases r with
   | cons h1 r =>
     cases r with
     | cons h2 r =>
       cases r
       exact ⟨_, _, rfl, .of ha, rfl, _, _, rfl, _, _, rfl, rfl, h _ _ h1 h2⟩
end
end L2
namespace L2
open PySem
def IY (xs : Array Nat) : Prop := ∀ i j, (hi : i < xs.size) -> (hj : j < xs.size) -> i < j -> xs[i] < xs[j]
structure Good (t : SetTable) : Prop where
 up : IY t.place
 nd : t.dummies = #[]
section
variable {prog : Program} {w : World} {A : Around} {E : Value -> Shared -> Prop} {s : Shared}
end
section
variable {prog : Program} {w : World} {A : Around} {E : Value -> Shared -> Prop} {s : Shared}
end
set_option maxRecDepth 100000
section
variable {prog : Program} {w : World} {A : Around} {E : Value -> Shared -> Prop} {s : Shared} {it a : Addr} {o : Obj} {es : Array (Int × Value)} {ep : Nat} {t : SetTable}
end
section
variable {prog : Program} {w : World} {A : Around} {E : Value -> Shared -> Prop} {s : Shared} {it a : Addr} {o : Obj} {es : Array (Int × Value)} {ep : Nat} {t : SetTable}
end
section
variable {prog : Program} {w : World} {A : Around} {E : Value -> Shared -> Prop} {s : Shared} {it a : Addr} {o : Obj} {es : Array (Int × Value)} {ep : Nat} {t : SetTable}
end
end L2
namespace L2
open PySem PySem.Spec PyProof.Rows
section
variable {prog : Program} {w : World} {A : Around} {R : Result -> Shared -> Prop} {it y : Addr} {fp wr : List Addr} {G : Array GenState -> Array GenState -> Prop} {n : Nat} {Pv : Nat -> Value -> Prop} {St : Nat -> Shared -> Prop}
end
section
variable {prog : Program} {w : World} {A : Around} {E : Value -> Shared -> Prop} {s : Shared}
set_option maxRecDepth 100000 in
set_option maxHeartbeats 3200000 in
end
section
variable {prog : Program} {w : World} {A : Around} {E : Value -> Shared -> Prop} {s : Shared} {a : Addr} {S : Int -> Bool} {n : Nat}
end
end L2
namespace L2
open PySem PySem.Spec PyProof.Rows PySem.W
section
variable {X : Cx} {e : Expr} {te : TE} {p p2 pos xD : Pos}
end
section
variable {σ : St} {H : Hp} {Q : VK} {v : V}
end
section
variable {X : Cx}
end
section
variable {σ : St} {H : Hp} {Q : VK} {K : PySem.W.Frag} {p : Addr} {m : List (Str × PyData)}
end
def Tr (h : Heap) (a T : Addr) (c : Value) : Prop := ∃ oe vs oT ts, h.get? a = some oe /\ oe.cls = c /\ oe.dict = none /\ oe.data = .fields vs /\ vs[1]? = some (.ref T) /\ T ≠ a /\ h.get? T = some oT /\ oT.data = .fields ts /\ ts[3]? = some .none /\ vs[2]? = some .none
structure Lv (l : List Env) (S : List Addr) (h h' : Heap) : Prop where
 keep : ∀ b o, b ∉ nS l -> b ∉ S -> h.get? b = some o -> h'.get? b = some o
 slot : ∀ b o, b ∈ nS l -> h.get? b = some o -> ∃ sl, h'.get? b = some { o with slots := sl }
section
variable {M : Model} {A : Around} {E : Value -> Shared -> Prop} {s : Shared} {env : Env} {outer : List Env} {L a T : Addr} {c : Value} {base : Heap} {Q : Unit -> Shared -> Prop}
end
def Kj (P : Program) (w : World) : oW := fun outer H s E e s' => ∃ a T C H', e = .ref a /\ s'.os = s.os /\ AllBare s'.gens /\ Un (nS outer) [] H H' s.heap s'.heap /\ gf P w H' s'.heap /\ Tr s'.heap a T (.ref C) /\ s.heap.get? a = none /\ s.heap.get? T = none /\ H' a = none /\ H' T = none /\ E (.ref C) none H'
section
variable {P : Program} {w : World} {K : PySem.W.Frag} {mg : Str -> Option Value} {base : Heap} {N : List Str} {qual : Str} {scope : Scope} {f : Addr} {cd : Value} {A : Around} {outer : List Env} {s0 : Shared} {H0 : Hp} {E : XK} {CX : oW} {pins : List (Addr × Obj)} {σ : St} {H : Hp} {s : Shared}
end
section
variable {K : PySem.W.Frag} {h : Heap} {C : Addr} {BH : List Value} {newId : String}
def zz (h : Heap) (C : Addr) (BH : List Value) (newId : String) : Prop := ∃ (bm : List Value) (N : Addr) (nm q : Str) (bs : List Value) (hd : Bool) (sn : List Str) (sub : List Value) (ab : Bool) (col : Option Bool) (dd : Option Addr) (k0 k1 k2 k3 k5 : Option Value) (mN : Str -> Option Value),
 h.get? C = some (excClassObj nm q C N bs bm hd sn sub ab col dd k0 k1 k2 k3 k5 newId) /\ h.Ns N mN /\ mN "__init__" = none /\ OwnTail h BH bm
theorem Bb (X : K.In h) (q : excIn K C BH newId = true) : zz h C BH newId := by
 unfold excIn at q
 split at q
 . rename_i dd cd sl ho
   split at q
   . rename_i C' bm k0 k1 k2 k3 n k5 hm hs
     simp only [Bool.and_eq_true, beq_iff_eq, Bool.not_eq_true'] at q
     obtain ⟨⟨⟨⟨⟨rfl, rfl⟩, Ei⟩, ht⟩, aT⟩, Im⟩ := q
     obtain ⟨nm, bs, mro, ns, qn, hd, sn, sub, ab, col, del⟩ := cd
     dsimp only at hm Ei aT Im
     subst hm Ei
     obtain ⟨l⟩ := sl
     dsimp only at hs
     subst hs
     exact ⟨bm, ns, nm, qn, bs, hd, sn, sub, ab, col, dd, k0, k1, k2, k3, k5, _, X _ _ ho, .of_isNs (isNs_of_in X aT), nsMap_none_of_in X aT Im, tail_of_in X ht⟩
   . cases q
 . cases q
end
abbrev G5 : List Value := [.type "ValueError", .type "Exception", .type "BaseException", .type "object"]
def zL (K : PySem.W.Frag) (C : Addr) : Prop := excIn K C G5 "ValueError.__new__" = true
section
variable {X : Cx} {pins : List (Addr × Obj)} {σ : St} {H : Hp} {s : Shared}
abbrev Cx.hand (X : Cx) (a : Addr) : Cx := { X with A := X.A.mark (some (.ref a)), calm := false, xe := fun _ _ => False }
end
section
variable {M : Model} {A : Around} {E : Value -> Shared -> Prop}
end
structure KG (K : PySem.W.Frag) (C : Addr) : Prop where
 ga : PySem.W.findIn K (.ref C) "__getattribute__" = some (some (.builtin "BaseException.__getattribute__"))
 gn : PySem.W.findIn K (.ref C) "__getattr__" = some none
 mb : PySem.W.mroIn K C (.type "BaseException") = some true
 hd : PySem.W.hasDictIn K C = true
 ty : DP K C
section
variable {X : Cx}
end
section
variable {P : Program} {w : World} {K : PySem.W.Frag} {mg : Str -> Option Value} {base : Heap}
structure JA (P : Program) (w : World) (K : PySem.W.Frag) (mg : Str -> Option Value) (base : Heap) (k : Nat) (f : Addr) (ps : List Str) (cC : List V) (sp : Sp) : Prop where
 ex : ∃ (fd : FuncData) (ds : List Value), bR P w K mg base (Kj P w) k f fd ps sp /\ Binds K fd ps ds /\ Vals cC ds
end
section
variable {X : Cx} {k : Nat} {f : Addr} {ps : List Str} {sp : Sp} {cC : List V} {E : XK} {x : Str} {p pos : Pos} {e : Expr} {es : List Expr} {t : TA}
end
section
variable {σ : St} {H : Hp} {Q : VK} {D : Ends} {K : PySem.W.Frag} {E : XK} {C : Addr} {ta : TA}
end
section
variable {X : Cx}
end
section
variable {σ : St} {H : Hp} {Q : VK} {D : Ends} {K : PySem.W.Frag}
end
section
variable {X : Cx} {k : Nat} {f C : Addr} {ps : List Str} {sp : Sp} {cC : List V} {E : XK} {x m : Str} {p pos apos : Pos} {e : Expr} {es : List Expr} {t : TA}
end
section
variable {prog : Program} {w : World} {A : Around} {E : Value -> Shared -> Prop} {s : Shared}
end
section
variable {σ : St} {H : Hp} {Q : VK} {D : Ends}
end
section
variable {X : Cx} {pins : List (Addr × Obj)} {σ : St} {H : Hp} {s : Shared} {h' : Heap}
theorem Inv.wo {t' : Nat} {i1 i2 : Addr} (I : Inv X pins σ H s) (k : ∀ b o, b ≠ i1 -> b ≠ i2 -> s.heap.get? b = some o -> h'.get? b = some o) (f1 : dQ X pins H i1) (f2 : dQ X pins H i2) : Inv X pins σ H { s with heap := h', toks := t' } := by
 have zQ : ∀ b u, H b = some u -> b ≠ i1 /\ b ≠ i2 := fun b u e => ⟨fun z => (by rw [z, f1.1] at e; cases e), fun z => (by rw [z, f2.1] at e; cases e)⟩
 have nc : ∀ {b : Addr}, b ∉ [i1, i2] -> b ≠ i1 /\ b ≠ i2 := fun {b} h => by simpa using h
 refine I.step (g' := s.gens) (d' := s.drawn) (ch := [i1, i2]) (fun b hb => ?_) (fun b o _ _ hc e _ => k b o (nc hc).1 (nc hc).2 e) (fun b o _ _ hc e _ => ⟨o.slots, k b o (nc hc).1 (nc hc).2 e⟩) (fun _ _ _ _ n => n)
  (fun b o hc e => ⟨o, k b o (nc hc).1 (nc hc).2 e⟩) (fun _ _ e => e) (fun _ _ _ e => e) (fun b ps e => ⟨#[], by rw [e]; simp⟩) (fun m hm => ?_) (fun b u e => ?_) I.bare
 . have e : b = i1 \/ b = i2 := by simpa using hb
   rcases e with rfl | rfl
   . exact ⟨f1.2.2.2.1, f1.2.1, f1.2.2.2.2.1, f1.2.2.2.2.2⟩
   . exact ⟨f2.2.2.2.1, f2.2.1, f2.2.2.2.2.1, f2.2.2.2.2.2⟩
 . obtain ⟨o, es, ep, ho, r⟩ := hm
   exact ⟨o, es, ep, k _ o (Ne.symm f1.2.1) (Ne.symm f2.2.1) ho, r⟩
 . refine (I.aT b u e).lh (fun c v hc q => k c v ?_ ?_ q) (fun _ q => q) fun _ _ q => q
   . rcases hc with z | z
     . rw [z]; exact (zQ b u e).1
     . exact (zQ c _ z).1
   . rcases hc with z | z
     . rw [z]; exact (zQ b u e).2
     . exact (zQ c _ z).2
end
theorem gB : entryFor table "enumerate.__iter__" = some Builtin.«dict_keyiterator.__iter__» :=
 entryFor_alias (id' := "dict_keyiterator.__iter__") (by kernel_rfl) rfl (by decide +kernel) (by kernel_rfl)
def DB (K : PySem.W.Frag) (a : Addr) : It := ⟨fun i H => ∃ xs x, dA K H a xs /\ xs[i]? = some x, fun i H v H' => ∃ t x, (∀ xs, dA K H a xs -> xs[i]? = some x) /\ v = .ref t /\ H t = none /\ H' = upd H t (.tup [.int i, x]), fun i H => ∃ xs, dA K H a xs /\ xs.length <= i⟩
theorem rS {P : Program} {w : World} {K : PySem.W.Frag} {elts : List Expr} {x1} {pos : Pos} {e it a : Addr} (nQ : e ≠ it) :
 Turn P w K (.Tuple elts x1 pos) (DB K a) [e, it] e (fun i h => (∃ old, IsEnum h e it (i : Nat) old) /\ h.IsListIter it a i) where
 mem := by simp
 obj := fun i h st b hb => by
  have e' : b = e \/ b = it := by simpa using hb
  obtain ⟨⟨old, q⟩, o, e1, c, d⟩ := st
  rcases e' with rfl | rfl
  . exact ⟨_, q, fun v z => by cases z⟩
  . exact ⟨o, e1, fun v z => by rw [d] at z; cases z⟩
 keep := fun i h h' st k => ⟨let ⟨old, q⟩ := st.1; ⟨old, k e (by simp) _ q⟩, st.2.at fun o q => k it (by simp) o q⟩
 item := by
  intro X hP hw hK hc i pins s σ H E I hf st hg
  subst hP hw hK
  have fe := hf e (by simp)
  have fi := hf it (by simp)
  obtain ⟨xs, x, hq, hx⟩ := hg
  obtain ⟨aS, rv, p, hz⟩ := I.list hq
  obtain ⟨u, hu, ru⟩ := rv.get hx
  obtain ⟨⟨old, he⟩, hit⟩ := st
  have J3 : e < s.heap.objs.size := Heap.lt_size he
  have EA : it < s.heap.objs.size := by obtain ⟨o, ho, _⟩ := id hit; exact Heap.lt_size ho
  have hn : H s.heap.objs.size = none := I.aT.fresh (Nat.le_refl _)
  refine wpAny_pyNext_enum_item he hit p.isList (x := u) (by simpa using hu) nQ fun h' yP Fq ht Mq kk => ?_
  refine ⟨_, rfl, wpAny_letOwnedTupleGo_enum (s := { s with heap := h', toks := s.toks + 1 }) yP fun h2 Kq sb => ?_⟩
  replace sb : Heap.SameBut e h' h2 := sb
  let tb : Obj := { cls := .type "tuple", data := .seq #[.int i s.toks, u] }
  have I1 : Inv X pins σ (upd H s.heap.objs.size (.tup [.int i, x])) { s with heap := s.heap.push tb } :=
   I.laid (t' := s.toks) (fun b u e => Heap.get?_push_of_some _ e) (Nat.le_refl _) (show bH X.prog X.w _ _ _ (.tup [.int i, x]) from ⟨by rw [sizeLine_eq]; simp, [.int i s.toks, u], .cons ⟨_, rfl⟩ (.cons ru .nil), IsTup.new _ _⟩)
  have Dh : upd H s.heap.objs.size (.tup [.int i, x]) e = none := by rw [ak (Nat.ne_of_lt J3)]; exact fe.1
  have Ef : upd H s.heap.objs.size (.tup [.int i, x]) it = none := by rw [ak (Nat.ne_of_lt EA)]; exact fi.1
  have I2 : Inv X pins σ (upd H s.heap.objs.size (.tup [.int i, x])) { s with heap := h2, toks := s.toks + 1 } := by
   refine Inv.wo (s := { s with heap := s.heap.push tb }) (h' := h2) (t' := s.toks + 1) (i1 := e) (i2 := it) I1 (fun b u' DZ nH q => ?_) ⟨Dh, fe.2⟩ ⟨Ef, fi.2⟩
   by_cases Hq : b = s.heap.objs.size
   . subst Hq
     have e0 : (s.heap.push tb).get? s.heap.objs.size = some tb := Heap.get?_push_size _ rfl
     have e1 := e0.symm.trans q
     cases e1
     exact (sb.2 _ DZ).trans ht
   . exact (sb.2 _ DZ).trans (kk b u' DZ nH (pZ q Hq))
  refine ⟨.ref s.heap.objs.size, _, I2, rfl, ⟨_, x, fun ys hy => by rw [I.kP hy hq]; exact hx, rfl, hn, rfl⟩, ⟨⟨_, Kq⟩, Fq.at fun o q => (sb.2 it (Ne.symm nQ)).trans q⟩, fun b hb => ?_⟩
  have e' : b = e \/ b = it := by simpa using hb
  rcases e' with rfl | rfl
  . exact Dh
  . exact Ef
 done := by
  intro X hP hw hK hc i pins s σ H E I hf st hg
  subst hP hw hK
  obtain ⟨f0, f1, f2, f3, f4, f5⟩ := hf it (by simp)
  obtain ⟨xs, hq, hx⟩ := hg
  obtain ⟨aS, rv, p, hz⟩ := I.list hq
  have hl := rv.length
  obtain ⟨⟨old, he⟩, hit⟩ := st
  exact wpAny_pyNext_enum_end (I.ok.hd hc) he hit p.isList (by simp; omega) fun h' eb => ⟨rfl, I.turned (t' := s.toks) (fun b o hb e => eb b o hb e) f0 f1 f3 f4 f5⟩
 self := fun A i s Q E st q => by
  obtain ⟨⟨old, he⟩, hit⟩ := st
  have hT : s.TypeIs (.ref e) "enumerate" := ⟨_, he, rfl⟩
  refine wpAny_pyIter_slot hT F.slot_enumerate_iter (wpAny_call_entry F.slot_enumerate_iter hT gB ?_ (F.args_enumerate_iter_1 _))
  show wpAny _ _ (ret (.ref e)) _ _ s
  exact wpAny_pure ⟨_, rfl, "enumerate", _, hT, F.slot_enumerate_next.lookup, q⟩
def yO (K : PySem.W.Frag) (ta : TA) : TI := fun σ H R => ta σ H fun vs H1 => ∃ a, vs = [.ref a] /\ (∃ xs, dA K H1 a xs) /\ R (DB K a) H1
theorem w5 {X : Cx} {elts : List Expr} {x1} {Au : Pos} {a : Expr} {ta : TA} {p pos : Pos} (hg : Gl X "enumerate") (hm : X.mg "enumerate" = none) (ha : PA X [a] ta) (hs : starEach [a] X.env = [(false, eval a X.env)] := by rfl) :
 PI X (.Tuple elts x1 Au) (.Call (.Name "enumerate" p) [a] [] pos) (yO X.K ta) := by
 intro pins s σ H R I h
 refine Call_ (jU I hg hm boot_enumerate (PyProof.Rows.callWith_type1 (cj (ha pos pins s σ H _ I h) fun us s1 ⟨vs, H1, I1, r1, q1⟩ => ?_) hs rfl))
 obtain ⟨l, e, ⟨xs, hq⟩, q⟩ := q1
 subst e
 cases r1 with
 | cons r rr =>
   cases rr
   cases r
   obtain ⟨aS, rv, p, hz⟩ := I1.list hq
   refine call_enumerate_list p.isList fun h' he hit hsz hk => ?_
   have hT : (⟨h', s1.gens, s1.drawn, s1.toks, s1.os⟩ : Shared).TypeIs (.ref (s1.heap.objs.size + 1)) "enumerate" := ⟨_, he, rfl⟩
   refine wpAny_pyIter_slot hT F.slot_enumerate_iter (wpAny_call_entry F.slot_enumerate_iter hT gB ?_ (F.args_enumerate_iter_1 _))
   show wpAny _ _ (ret (.ref (s1.heap.objs.size + 1))) _ _ _
   refine wpAny_pure ⟨_, rfl, "enumerate", _, hT, F.slot_enumerate_next.lookup, ?_⟩
   refine ⟨s1.heap.objs.size + 1, [s1.heap.objs.size + 1, s1.heap.objs.size], _, _, H1, rfl, I1.kept (t' := s1.toks) hk, rS (a := l) (Nat.succ_ne_self _), ⟨⟨_, he⟩, hit⟩, fun b hb => ?_, q⟩
   have e : b = s1.heap.objs.size + 1 \/ b = s1.heap.objs.size := by simpa using hb
   rcases e with rfl | rfl
   . exact I1.mR (Nat.le_succ _) (I1.aT.fresh (Nat.le_succ _))
   . exact I1.mR (Nat.le_refl _) (I1.aT.fresh (Nat.le_refl _))
section
variable {X : Cx}
end
section
variable {σ : St} {H : Hp} {Q : VK}
end
section
variable {σ : St} {H : Hp} {Q : VK} {K : PySem.W.Frag} {v : V}
end
end L2
namespace L2
open PySem
section
variable {H : Hp} {Q : VK} {K : PySem.W.Frag}
end
end L2
namespace L2
open PySem PySem.Spec PyProof.Rows PySem.W
section
variable {X : Cx}
end
section
variable {σ : St} {H : Hp} {Q : VK}
end
section
variable {X : Cx} {pins : List (Addr × Obj)} {σ : St} {H : Hp} {s : Shared}
end
section
variable {σ : St} {H : Hp} {Q : VK}
end
section
variable {σ : St} {H : Hp} {Q : VK} {K : PySem.W.Frag} {p : Addr} {m : List (Str × PyData)} {k : Str}
end
def Il (h : Heap) (a T : Addr) (c : Value) (od : Option Addr) : Prop := ∃ oe vs oT ts, h.get? a = some oe /\ oe.cls = c /\ oe.dict = od /\ oe.data = .fields vs /\ vs[1]? = some (.ref T) /\ T ≠ a /\ h.get? T = some oT /\ oT.data = .fields ts /\ ts[3]? = some .none /\ vs[2]? = some .none
section
variable {M : Model} {A : Around} {E : Value -> Shared -> Prop} {s : Shared} {env : Env} {outer : List Env} {L a T : Addr} {c : Value} {od : Option Addr} {base : Heap} {Q : Unit -> Shared -> Prop}
end
def J8 (P : Program) (w : World) : oW := fun outer H s E e s' => ∃ a T C od H', e = .ref a /\ s'.os = s.os /\ AllBare s'.gens /\ Un (nS outer) [] H H' s.heap s'.heap /\ gf P w H' s'.heap /\ Il s'.heap a T (.ref C) od /\ s.heap.get? a = none /\ s.heap.get? T = none /\ H' a = none /\ H' T = none /\ E (.ref C) od H'
section
variable {P : Program} {w : World} {K : PySem.W.Frag} {mg : Str -> Option Value} {base : Heap} {N : List Str} {qual : Str} {scope : Scope} {f : Addr} {cd : Value} {A : Around} {outer : List Env} {s0 : Shared} {H0 : Hp} {E : XK} {CX : oW} {pins : List (Addr × Obj)} {σ : St} {H : Hp} {s : Shared}
end
structure Jl (P : Program) (w : World) (K : PySem.W.Frag) (mg : Str -> Option Value) (base : Heap) (k : Nat) (f : Addr) (ps : List Str) (cC : List V) (sp : Sp) : Prop where
 ex : ∃ (fd : FuncData) (ds : List Value), bR P w K mg base (J8 P w) k f fd ps sp /\ Binds K fd ps ds /\ Vals cC ds
section
variable {X : Cx} {CX : oW} {k : Nat} {f C : Addr} {fd : FuncData} {ps : List Str} {sp : Sp} {cC : List V} {ds : List Value} {E : St -> XK} {x m : Str} {p pos apos : Pos} {e o : Expr} {es : List Expr} {ta : TE} {t : TA}
end
section
variable {P : Program} {w : World} {K : PySem.W.Frag} {mg : Str -> Option Value} {base : Heap}
end
section
variable {prog : Program} {w : World} {A : Around} {E : Value -> Shared -> Prop} {s : Shared} {K : PySem.W.Frag} {x C : Addr} {ox : Obj} {name : Str} {v : Value} {cd : ClassData}
open Builtin.ObjectAttr in
open Builtin.ObjectAttr in
end
structure Ms (K : PySem.W.Frag) (C W fI : Addr) : Prop where
 cls : ∃ (nm q : Str) (N : Addr) (bs : List Value) (sn : List Str) (sub : List Value) (ab : Bool) (col : Option Bool) (dd : Option Addr) (k0 k1 k2 k3 k5 : Option Value), K.lookup C = some (excClassObj nm q C N bs (.ref W :: G5) true sn sub ab col dd k0 k1 k2 k3 k5 "ValueError.__new__")
 up : zL K W
 init : PySem.W.findIn K (.ref C) "__init__" = some (some (.ref fI))
 fn : PySem.W.isFn K (.ref fI) = true
 te : KG K C
 sa : PySem.W.findIn K (.ref C) "__setattr__" = some (some (.builtin "object.__setattr__"))
 tk : PySem.W.takerIn K C "name" = some none
 nm : PySem.W.findIn K (.ref C) "name" = some none
def Fn (K : PySem.W.Frag) (C : Addr) : Prop := ∀ h : Heap, K.In h -> ∃ (bm : List Value) (N : Addr) (nm q : Str) (bs : List Value) (hd : Bool) (sn : List Str) (sub : List Value) (ab : Bool) (col : Option Bool) (dd : Option Addr) (k0 k1 k2 k3 k5 : Option Value),
 h.get? C = some (excClassObj nm q C N bs bm hd sn sub ab col dd k0 k1 k2 k3 k5 "ValueError.__new__") /\ OwnTail h G5 bm
theorem zL.o {K : PySem.W.Frag} {C : Addr} (h : zL K C) : Fn K C := fun hp X => by
 obtain ⟨bm, N, nm, q, bs, hd, sn, sub, ab, col, dd, k0, k1, k2, k3, k5, mN, hC, _, _, T⟩ := Bb X h
 exact ⟨bm, N, nm, q, bs, hd, sn, sub, ab, col, dd, k0, k1, k2, k3, k5, hC, T⟩
section
variable {prog : Program} {w : World} {A : Around} {E : Value -> Shared -> Prop} {h : Heap} {g : Array GenState} {d : Drawn} {t : Nat} {os : OsState}
variable {nm q : Str} {C N : Addr} {bs bm BH : List Value} {Ff : Bool} {sn : List Str} {sub : List Value} {ab : Bool} {col : Option Bool} {dd : Option Addr} {k0 k1 k2 k3 k5 : Option Value} {B newId FD : String}
end
structure Ht (K : PySem.W.Frag) (W : Addr) : Prop where
 ga : PySem.W.specialIn K (.ref W) "__getattribute__" = some (some (.builtin "type.__getattribute__"))
 rd : PySem.W.readsIn K W (.type "type") = true
 fd : PySem.W.findCls K (.ref W) (.type "type") "__init__" = some (.val (.builtin "ValueError.__init__"))
section
variable {X : Cx} {W : Addr} {x : Str} {p pos apos : Pos} {e : Expr} {es : List Expr} {t : TA} {pl : Sem Bool}
end
def del (H : Hp) (a : Addr) : Hp := fun b => if b = a then none else H b
section
variable {prog : Program} {w : World} {A : Around} {E : Value -> Shared -> Prop} {s : Shared} {env : Env}
variable {nm q : Str} {C N : Addr} {bs bm BH : List Value} {Ff : Bool} {sn : List Str} {sub : List Value} {ab : Bool} {col : Option Bool} {dd : Option Addr} {k0 k1 k2 k3 k5 : Option Value} {newId : String}
end
def IZ (X : Cx) (cl : Expr) (hit : Addr -> Bool -> Prop) : Prop := ∀ (a C T : Addr) (od : Option Addr) (pins : List (Addr × Obj)) (σ : St) (H : Hp) (s : Shared) (Q : Bool -> Shared -> Prop) (E : Value -> Shared -> Prop) (b : Bool), Inv X pins σ H s -> Il s.heap a T (.ref C) od -> hit C b ->
 (∀ h', (∀ b o, s.heap.get? b = some o -> h'.get? b = some o) -> Q b { s with heap := h' }) ->
 wpAny (model X.prog X.w) (X.hand a).A (eval cl X.env) (fun c s1 => wpAny (model X.prog X.w) (X.hand a).A (excMatches (.ref a) c) Q E s1) E s
structure Hr where
 hit : Addr -> Bool -> Prop
 i : Option Nat
 ts : Addr -> TS
def zf (X : Cx) : Option Str -> Option Nat -> Prop
 | some n, some i => X.N[i]? = some n /\ X.env.scope.names.lookup n = some .local
 | none, none => True
 | _, _ => False
inductive vA (X : Cx) : List ExceptHandler -> List Hr -> Prop
 | nil : vA X [] []
 | cons {cl : Expr} {n : Option Str} {b0 : Stmt} {yw : List Stmt} {pos : Pos} {hs : List ExceptHandler} {hit : Addr -> Bool -> Prop} {i : Option Nat} {ts : Addr -> TS} {rs : List Hr} (hc : IZ X cl hit) (hb : ∀ a, oF (X.hand a) (b0 :: yw) (ts a)) (hn : zf X n i) (r : vA X hs rs) :
  vA X (.ExceptHandler (some cl) n (b0 :: yw) pos :: hs) (⟨hit, i, ts⟩ :: rs)
section
variable {X : Cx} {pins : List (Addr × Obj)} {σ : St} {H : Hp} {a C : Addr} {od : Option Addr} {Dn : Ends}
end
section
variable {X : Cx} {e : Expr} {te : TE} {y y2 : Str} {k k2 : Nat} {p1 p2 p3 pos : Pos}
end
section
variable {σ : St} {H : Hp} {Q : VK} {D : Ends} {K : PySem.W.Frag} {C : Addr} {E : St -> XK}
end
section
variable {prog : Program} {w : World} {A : Around} {R : Result -> Shared -> Prop} {I S : Addr} {fp wr : List Addr} {n : Nat} {P : Nat -> Value -> Prop} {St : Nat -> Heap -> Prop} {bt : Nat -> Nat -> Bool}
end
section
variable {prog : Program} {w : World} {A : Around} {E : Value -> Shared -> Prop} {s : Shared}
end
section
variable {X : Cx}
end
section
variable {σ : St} {H : Hp} {Q : VK} {D : Ends} {K : PySem.W.Frag}
def Ee (K : PySem.W.Frag) (vs : List V) (g : TG) (tb : TS) (D : Ends) (σ : St) (H1 : Hp) : Prop := ∃ a, vs = [.ref a] /\ (∃ xs, dA K H1 a xs) /\ ∃ W : Nat -> Nat -> St -> Hp -> Prop, (∃ m, W 0 m σ H1) /\ ∀ i m σ H, W i m σ H ->
 ((DB K a).stop i H /\ D.nx σ H) \/ ((DB K a).go i H /\ ∃ N : St -> Hp -> Prop, (∀ σ' H', N σ' H' -> ∃ m', m' < m /\ W (i + 1) m' σ' H') /\ ∀ x H', (DB K a).v9 i H x H' -> g x σ H' fun σ2 H2 => tb { D with nx := N, ct := N, bk := D.nx } σ2 H2)
theorem AH {ta : TA} {g : TG} {tb : TS} (h : ta σ H fun vs H1 => Ee K vs g tb D σ H1) : tU (yO K ta) g tb D σ H := h
theorem DW {Hb : Hp} {v : V} {cs : List Int} {g : TG} {tb : TS} (hl : Dv Hb v (.list (cs.map PyData.int))) (Pv : Nat -> St -> Hp -> Prop) (h0 : Pv 0 σ H) (hk : ∀ i σ H', i <= cs.length -> Pv i σ H' -> ∀ a xs, v = .ref a -> dA K Hb a xs -> dA K H' a xs)
 (hs : ∀ i c t σ H', cs[i]? = some c -> Pv i σ H' -> H' t = none -> g (.ref t) σ (upd H' t (.tup [.int (i : Int), .int c])) fun σ2 H2 => tb { D with nx := Pv (i + 1), ct := Pv (i + 1), bk := D.nx } σ2 H2) (hd : ∀ σ H', Pv cs.length σ H' -> D.nx σ H') : Ee K [v] g tb D σ H := by
 obtain ⟨p, xs, rfl, e, dv⟩ := hl.lst_inv
 have BF : xs.length = cs.length := by rw [dv.length, List.length_map]
 have at' : ∀ i σ H', i <= cs.length -> Pv i σ H' -> dA K H' p xs := fun i σ H' hi hp => hk i σ H' hi hp p xs rfl (e K)
 refine ⟨p, rfl, ⟨xs, at' 0 σ H (Nat.zero_le _) h0⟩, fun i m σ H => i <= cs.length /\ m = cs.length - i /\ Pv i σ H, ⟨_, Nat.zero_le _, rfl, h0⟩, ?_⟩
 rintro i m σ H' ⟨hi, hm, hp⟩
 have sX := at' i σ H' hi hp
 by_cases hc : i = cs.length
 . subst hc
   exact .inl ⟨⟨xs, sX, by omega⟩, hd σ H' hp⟩
 . have Fw : i < xs.length := by omega
   refine .inr ⟨⟨xs, xs[i], sX, List.getElem?_eq_getElem Fw⟩, Pv (i + 1), fun σ' H2 sU => ⟨cs.length - (i + 1), by omega, by omega, rfl, sU⟩, fun x H2 hy => ?_⟩
   obtain ⟨t, x', hy, rfl, ht, rfl⟩ := hy
   have hx := hy xs sX
   have vB : cs[i]? = some cs[i] := List.getElem?_eq_getElem (by omega)
   obtain ⟨x2, EF, hd⟩ := dv.get (i := i) (d := .int cs[i]) (by rw [List.getElem?_map, vB]; rfl)
   rw [hx] at EF
   cases EF
   obtain rfl := hd.int_inv
   exact hs i cs[i] t σ H' vB hp ht
end
section
variable {X : Cx}
end
section
open PySem.SeqAt
open PySem.AutoSeq1 (wpAny_loadPart')
open PySem.MeetsSeq PySem.MeetsSeq2 PySem.MeetsSeq3
end
section
variable {X : Cx}
end
section
variable {σ : St} {H : Hp} {Q : VK} {D : Ends} {K : PySem.W.Frag}
end
def BM (mg : Str -> Option Value) (h : Heap) : Prop := ∃ bm ob, mg "__builtins__" = some (.ref bm) /\ bm ≠ builtinsNs /\ h.get? bm = some ob /\ ob.cls = .type "module" /\ ob.dict = some builtinsNs /\ ob.data = .plain
def kH (c : Addr) (q : Str) : HO := .ext fun h => h.CodeRec (.ref c) q
def TabAt (H : Hp) (P : Addr) (pos : Pos) (q : Str) : Prop := H P = some (.ix #[]) \/ ∃ c, c ≠ P /\ H P = some (.ix #[rawInt pos.line, rawInt pos.col, .ref c]) /\ H c = some (kH c q)
theorem TabAt.keeps {H H' : Hp} {P : Addr} {pos : Pos} {q : Str} (sm : az H H') (h : TabAt H P pos q) : TabAt H' P pos q := by
 rcases h with h | ⟨c, h0, h1, h2⟩
 . exact .inl (sm _ _ h)
 . exact .inr ⟨c, h0, sm _ _ h1, sm _ _ h2⟩
theorem TabAt.mv {H H' : Hp} {S : List Addr} {P : Addr} {pos : Pos} {q : Str} (mv : Mv S H H') (hS : ∀ b ∈ S, b ≠ P /\ ∀ φ, H b ≠ some (.ext φ)) (h : TabAt H P pos q) : TabAt H' P pos q := by
 rcases h with h | ⟨c, h0, h1, h2⟩
 . exact .inl (mv.at (fun z => (hS _ z).1 rfl) h)
 . exact .inr ⟨c, h0, mv.at (fun z => (hS _ z).1 rfl) h1, mv.at (fun z => (hS _ z).2 _ h2) h2⟩
theorem uf {P : Program} {w : World} {H : Hp} {h : Heap} {c : Addr} {q : Str} (e : h.CodeRec (.ref c) q) : bH P w H h c (kH c q) := by
 refine ⟨e, ?_, fun h1 h2 x k => ?_⟩
 . obtain ⟨c', o, vs, t, e1, e2, _⟩ := e
   cases e1
   exact ⟨o, e2⟩
 . obtain ⟨c', o, vs, t, e1, e2, r⟩ := x
   cases e1
   exact ⟨c, o, vs, t, rfl, k _ e2, r⟩
theorem nN {env : Env} {x : Str} {c : Addr} (hc : env.cells.lookup x = some c) : ∀ (names : List (Str × NameKind)) (acc : List (Str × Addr)), (names.filter fun y => y.2 == .free).map (·.1) = [x] ->
 (forIn names acc fun (y : Str × NameKind) (cs : List (Str × Addr)) => (if (y.2 == NameKind.free) = true then (do let a <- cellOf env y.1; pure (ForInStep.yield ((y.1, a) :: cs))) else pure (ForInStep.yield cs) : Sem _)) = pure ((x, c) :: acc)
 | [], _, h => by cases h
 | (n, k) :: r, acc, h => by
   rw [List.forIn_cons]
   by_cases hk : (k == NameKind.free) = true
   . simp only [hk, if_true]
     rw [List.filter_cons, if_pos hk, List.map_cons] at h
     obtain ⟨e1, e2⟩ := List.cons.inj h
     have e1 : n = x := e1
     subst e1
     have GR : cellOf env n = pure c := by unfold cellOf; rw [hc]
     rw [GR]
     simp only [pure_bind]
     have e3 : r.filter (fun y => y.2 == .free) = [] := List.map_eq_nil_iff.mp e2
     clear h
     induction r generalizing acc with
     | nil => rfl
     | cons y r ih =>
       rw [List.forIn_cons]
       have hy : (y.2 == NameKind.free) = false := by
        cases z : (y.2 == NameKind.free) with
        | false => rfl
        | true => rw [List.filter_cons, if_pos z] at e3; cases e3
       have e4 : r.filter (fun y => y.2 == .free) = [] := by rw [List.filter_cons, if_neg (by rw [hy]; decide)] at e3; exact e3
       simp only [hy, Bool.false_eq_true, if_false, pure_bind]
       exact ih acc (by rw [e4]; rfl) e4
   . have qw : (k == NameKind.free) = false := by simpa using hk
     rw [List.filter_cons, if_neg (by rw [qw]; decide)] at h
     simp only [qw, Bool.false_eq_true, if_false, pure_bind]
     exact nN hc r acc h
theorem nY {scope : Scope} {env : Env} {x : Str} {c : Addr} (h : (scope.names.filter fun y => y.2 == .free).map (·.1) = [x]) (hc : env.cells.lookup x = some c) : closureFor scope env = pure [(x, c)] := by
 unfold closureFor
 have := nN hc scope.names [] h
 simp only [bind_pure_comp] at this ⊢
 rw [this, pure_bind]
section
variable {X : Cx} {pins : List (Addr × Obj)} {σ : St} {H : Hp} {s : Shared} {c P : Addr} {params : Arguments} {body : Expr} {scope : Scope} {pos : Pos} {bQ : List (Str × Addr)} {E : Value -> Shared -> Prop}
theorem Inv.grow {h' : Heap} {c' P : Addr} {ps more : Array Value} {q : Str} {tk : Nat} (I : Inv X pins σ H s) (hT : H P = some (.ix ps)) (hx : Heap.ExtBut P s.heap h') (BX : s.heap.objs.size <= c') (zP : h'.CodeRec (.ref c') q) (hP : h'.get? P = some (tabObj (ps ++ more))) :
 Inv X pins σ (upd (upd H P (.ix (ps ++ more))) c' (kH c' q)) { s with heap := h', toks := tk } := by
 have zS : H c' = none := I.aT.fresh BX
 have EX : P ≠ c' := ax hT zS
 have nP : ∀ b, H b = none -> b ≠ P := fun b n z => by rw [z, hT] at n; cases n
 have kp : ∀ b u, b ≠ P -> H b = some u -> upd (upd H P (.ix (ps ++ more))) c' (kH c' q) b = some u := fun b u hb e => by rw [ak (ax e zS), ak hb]; exact e
 have Jj : upd (upd H P (.ix (ps ++ more))) c' (kH c' q) P = some (.ix (ps ++ more)) := by rw [ak EX, ay]
 refine I.step (g' := s.gens) (d' := s.drawn) (ch := []) (fun _ z => nomatch z) (fun b o _ _ _ e n => hx b o (nP b n) e) (fun b o _ _ _ e n => ⟨o.slots, hx b o (nP b n) e⟩) (fun b o _ e n => ?_) (fun b o _ e => ?_) (fun b xs e => kp b _ (fun z => by rw [z, hT] at e; cases e) e)
  (fun b o u e => kp b _ (fun z => by rw [z, hT] at e; cases e) e) (fun b L0 e => ?_) (fun m hm => ?_) (fun b u e => ?_) I.bare
 . rw [ak (Nat.ne_of_lt (Nat.lt_of_lt_of_le (Heap.lt_size e) BX)), ak (nP b n)]; exact n
 . by_cases hb : b = P
   . exact ⟨_, hb ▸ hP⟩
   . exact ⟨o, hx b o hb e⟩
 . by_cases hb : b = P
   . subst hb
     rw [hT] at e; cases e
     exact ⟨more, Jj⟩
   . exact ⟨#[], by rw [kp b _ hb e]; simp⟩
 . obtain ⟨o, es, ep, ho, r⟩ := hm
   exact ⟨o, es, ep, hx _ o (nP _ I.free) ho, r⟩
 . by_cases hb : b = c'
   . subst hb
     rw [ay] at e; cases e
     exact uf zP
   . rw [ak hb] at e
     by_cases nH : b = P
     . subst nH
       rw [ay] at e; cases e
       exact hP
     . rw [ak nH] at e
       refine (I.aT b u e).lh (fun d v hd z => hx d v (fun y => ?_) z) (fun d z => kp d _ (fun y => by rw [y, hT] at z; cases z) z) fun d xs z => kp d _ (fun y => by rw [y, hT] at z; cases z) z
       rcases hd with rfl | hd
       . exact nH y
       . rw [y, hT] at hd; cases hd
theorem tJ {Q : Value -> Shared -> Prop} (I : Inv X pins σ H s) (lJ : X.env.code = .ref c) (C : CodeHd X.base c P) (hB : BM X.mg X.base) (hT : TabAt H P pos (X.env.qual ++ "<lambda>")) (GO : defaultsOf params X.env = ([], [])) (gX : closureFor scope X.env = pure bQ)
 (h : ∀ g c' pm oR H' s', Inv X (pins ++ [(g, kla_obj "<lambda>" (X.env.qual ++ "<lambda>") params body scope bQ pm c' oR)]) σ H' s' -> H' c' = some (kH c' (X.env.qual ++ "<lambda>")) -> Mv [P] H H' -> TabAt H' P pos (X.env.qual ++ "<lambda>") -> Q (.ref g) s') :
 wpAny (model X.prog X.w) X.A (eval (.Lambda params body scope pos) X.env) Q E s := by
 obtain ⟨bm, ob, b1, b2, b3, b4, b5, b6⟩ := hB
 have IM : s.heap.Ns mainGlobals X.mg := I.mod.glob.keeps I.bk
 have Cs := C.keeps I.bk
 have Dw : ∀ {h' : Heap} {H' : Hp} {o : Obj} {tk : Nat}, Inv X pins σ H' { s with heap := h'.push o, toks := tk } -> s.heap.objs.size <= h'.objs.size -> H' h'.objs.size = none -> (∀ v, o.data ≠ .cell v) -> o.isFreed = false -> Inv X (pins ++ [(h'.objs.size, o)]) σ H' { s with heap := h'.push o, toks := tk } := fun {h' H' o tk} J hsz hn hv j8 => J.fQ fun p hp => by
  rcases List.mem_append.mp hp with hp | hp
  . exact J.pin p (List.mem_append_right _ hp)
  . rw [List.mem_singleton.mp hp]
    exact ⟨Heap.get?_push_size _ j8, hn, Nat.ne_of_gt (Nat.lt_of_lt_of_le I.lt hsz), I.Dd hsz, hv⟩
 have Ih : ∀ ps, H P = some (.ix ps) -> bm ≠ P := fun ps e z => by
  have := (I.bs bm ob b3).2
  rw [z, e] at this; cases this
 have IK : bm ≠ mainGlobals := fun z => by
  obtain ⟨o, es, ep, e, hd, _⟩ := I.mod.glob
  rw [z, e] at b3; cases b3; rw [hd] at b6; cases b6
 have JE : ∀ ps, H P = some (.ix ps) -> mainGlobals ≠ P := fun ps e z => by
  obtain ⟨o, es, ep, e1, hd, _⟩ := I.mod.glob
  have := (I.bs _ o e1).2
  rw [z, e] at this; cases this
 refine kla_eval GO ?_
 rcases hT with hT | ⟨c', JK, hT, sD⟩
 . have Gi : s.heap.get? P = some (tabObj #[]) := I.aT P _ hT
   refine kla_makeFunction (mg := X.mg) gX I.ok.glob IM lJ Cs Gi trivial rfl (JE _ hT) ⟨bm, ob, b1, b2, IK, Ih _ hT, (I.bs _ _ b3).1, b4, b5, b6⟩ fun c' oR h' tk hx BX jK zP JO => ?_
   have J := I.grow (tk := tk) hT hx BX zP JO
   have zS : H c' = none := I.aT.fresh BX
   have EX : P ≠ c' := ax hT zS
   have J2 := J.rm (o := kla_obj "<lambda>" (X.env.qual ++ "<lambda>") params body scope bQ ((X.mg "__name__").getD .none) c' oR)
   have hsz : s.heap.objs.size <= h'.objs.size := Nat.le_trans BX (Nat.le_of_lt jK)
   refine h h'.objs.size c' _ oR _ _ (Dw J2 hsz (J.aT.fresh (Nat.le_refl _)) (fun v z => by cases z) rfl) ay ⟨fun b o hb e => ?_, fun b xs e => ?_, fun b e => ?_⟩ (.inr ⟨c', Ne.symm EX, by rw [ak EX, ay]; rfl, ay⟩)
   . rw [ak (ax e zS), ak (by simpa using hb)]; exact e
   . rw [ak (ax e zS), ak (fun z => by rw [z, hT] at e; cases e)]; exact e
   . by_cases hb : b = c'
     . rw [hb]; exact zS
     . rw [ak hb] at e
       by_cases nH : b = P
       . rw [nH, ay] at e; cases e
       . rw [ak nH] at e; exact e
 . have Gi : s.heap.get? P = some (tabObj #[rawInt pos.line, rawInt pos.col, .ref c']) := I.aT P _ hT
   refine kla_makeFunctionHit (mg := X.mg) gX I.ok.glob IM lJ Cs Gi ?_ (cv := .ref c') ?_ ⟨bm, ob, b1, b2, IK, Ih _ hT, (I.bs _ _ b3).1, b4, b5, b6⟩ fun oR h' tk hk hsz => ?_
   . simp [TriplesOk, rawInt]
   . exact codeAmong_snoc [] trivial rfl
   have J2 : Inv X pins σ H { s with heap := h'.push (kla_obj "<lambda>" (X.env.qual ++ "<lambda>") params body scope bQ ((X.mg "__name__").getD .none) c' oR), toks := tk } := I.kept fun b u e => Heap.get?_push_of_some _ (hk b u e)
   exact h h'.objs.size c' _ oR _ _ (Dw J2 hsz (I.aT.fresh hsz) (fun v z => by cases z) rfl) sD Mv.refl (.inr ⟨c', JK, hT, sD⟩)
end
def lB (qual : Str) (scope : Scope) (L g : Addr) (cd : Value) (bQ : List (Str × Addr)) : Env := newEnv scope L mainGlobals bQ (qual ++ ".<locals>.") (some g) cd none builtinsNs
def n0 (X : Cx) (A : Around) (N : List Str) (qual : Str) (scope : Scope) (g : Addr) (cd : Value) (bQ : List (Str × Addr)) (s : Shared) (H : Hp) : Cx where
 prog := X.prog
 w := X.w
 K := X.K
 mg := X.mg
 base := X.base
 A := A.deeper (lB qual scope s.heap.objs.size g cd bQ)
 N := N
 dh := s
 og := H
 env := lB qual scope s.heap.objs.size g cd bQ
 outer := X.stack
 stack := lB qual scope s.heap.objs.size g cd bQ :: X.stack
 ex := []
 fn := fun _ => false
 calm := true
 pn := []
 xe := fun _ _ => False
structure i7 (N : List Str) (p : Str) (scope : Scope) : Prop where
 kind : scope.kind = .function
 co : scope.isCoroutine = false
 gen : scope.isGenerator = false
 nd : N.Nodup
 pre : N[0]? = some p
 par : scope.names.lookup p = some .local
 tD : ∀ y ∈ scope.names, y.2 ≠ .cell
def tF (X : Cx) (σ : St) (N : List Str) (scope : Scope) (v : V) (σ' : St) : Prop := σ'.length = N.length /\ σ'[0]? = some (some v) /\ ∀ (i : Nat) (x : Str) (w : V), 0 < i -> N[i]? = some x -> σ'[i]? = some (some w) -> scope.names.lookup x = some .free /\ ∃ j : Nat, X.N[j]? = some x /\ σ[j]? = some (some w) /\ (X.env.kindOf x = some .cell \/ X.env.kindOf x = some .free)
section
variable {X : Cx} {pins : List (Addr × Obj)} {σ σ' : St} {H : Hp} {s : Shared} {A : Around} {N : List Str} {p name qual : Str} {params : Arguments} {body : Expr} {scope : Scope} {bQ : List (Str × Addr)} {g c' : Addr} {pm oR : Value} {v : V} {u : Value} {k : Nat} {Q : VK} {te : TE}
theorem rE {h1 : Heap} {tk : Nat} {cd : Value} (I : Inv X pins σ H s) (hA : A.frames = some X.stack) (hh : A.handled = none) (S : i7 N p scope) (gX : ∀ x c, bQ.lookup x = some c -> X.env.cells.lookup x = some c) (j8 : ∀ x, scope.names.lookup x = some .free -> ∃ c, bQ.lookup x = some c)
 (qE : tF X σ N scope v σ') (rv : RelV v u) (sY : h1.Ns s.heap.objs.size fun x => [(p, u)].reverse.lookup x) (hk : ∀ b o, s.heap.get? b = some o -> h1.get? b = some o) : Inv (n0 X A N qual scope g cd bQ s H) [] σ' H { s with heap := h1, toks := tk } := by
 obtain ⟨hlen, h0, FE⟩ := qE
 have e0 := I.wJ
 have xx : ∀ b : Addr, b ∉ (n0 X A N qual scope g cd bQ s H).ex := fun b z => absurd (show b ∈ ([] : List Addr) from z) (by simp)
 refine ⟨⟨e0.mod, S.kind, rfl, rfl, Nat.le_refl _, fun y z c h1 h2 => I.ok.inj y z c (gX _ _ h1) (gX _ _ h2), fun y hy => ?_, fun y c h => (nomatch (show false = true from h)), fun _ => hh, Around.frames_deeper hA, .inr ⟨rfl, rfl⟩, fun b z => absurd z (xx b), e0.bs, e0.tf, fun b _ _ => xx b, fun b z => absurd z (xx b), e0.iP, e0.vR⟩,
  rfl, I.bare, Un.kept hk, ⟨_, sY, fun i y w uA h2 h3 => ?_⟩, fun y c h => ?_, e0.aT.fresh (Nat.le_refl _), fun y c h => I.eD y c (gX y c h), fun p hp => absurd (show p ∈ ([] : List (Addr × Obj)) from hp) (by simp), e0.aT.kept hk, hlen⟩
 . have hy : scope.names.lookup y = some .cell \/ scope.names.lookup y = some .free := hy
   rcases hy with hy | hy
   . exact absurd rfl (S.tD _ (PySem.mem_of_lookup hy))
   . exact j8 y hy
 . by_cases hi : i = 0
   . subst hi
     have e1 : N[0]? = some y := uA
     rw [S.pre] at e1; cases e1
     rw [h0] at h2; cases h2
     exact ⟨u, rv, .inl ⟨S.par, by simp⟩⟩
   . obtain ⟨hf, j, hj, Km, HN⟩ := FE i y w (by omega) uA h2
     obtain ⟨c, hc⟩ := j8 y hf
     have Fy : B1 X.env.scope y := by
      rcases HN with z | z
      . exact .inr (.inl z)
      . exact .inr (.inr z)
     obtain ⟨m, _, hl⟩ := I.loc
     obtain ⟨u', ru, l⟩ := hl j y w hj Km Fy
     rcases l with ⟨z, _⟩ | ⟨_, c2, e2, e3⟩
     . rcases HN with y' | y' <;> (rw [z] at y'; cases y')
     . have e4 := gX y c hc
       rw [e2] at e4; cases e4
       refine ⟨u', ru, .inr ⟨.inr hf, _, hc, ?_⟩⟩
       obtain ⟨o, ho, hd⟩ := e3
       exact ⟨o, hk _ _ ho, hd⟩
 . obtain ⟨w, o, ho, hd⟩ := I.cell y c (gX y c h)
   exact ⟨w, o, hk _ _ ho, hd⟩
theorem xJ (I : Inv X pins σ H s) (hA : A.frames = some X.stack) (hr : bG (k + 1) A) (S : i7 N p scope) (gX : ∀ x c, bQ.lookup x = some c -> X.env.cells.lookup x = some c) (j8 : ∀ x, scope.names.lookup x = some .free -> ∃ c, bQ.lookup x = some c)
 (hp : (g, kla_obj name qual params body scope bQ pm c' oR) ∈ pins) (lJ : s.heap.CodeRec (.ref c') qual) (tQ : bindArgs (kla_fn name qual params body scope bQ pm (.ref c') oR) ⟨[u], []⟩ = pure [(p, u)]) (qE : tF X σ N scope v σ') (rv : RelV v u)
 (ht : PE (n0 X A N qual scope g (.ref c') bQ s H) body te) (hq : te σ' H Q) : codeAny (model X.prog X.w) A (.call (.ref g) ⟨[u], []⟩) (CR ik X.stack X.prog X.w H s Q E0) s := by
 have hg := (I.pin _ (List.mem_append_right _ hp)).1
 refine kla_callFunE hr.depth hg rfl S.co S.gen rfl lJ ?_
 rw [tQ]
 refine wpAny_pure (wpAny_newFunctionEnv S.tD (fun y hy => ?_) (fun h1 sY Lb => ?_) S.kind)
 . rw [List.mem_singleton.mp hy]; exact S.par
 have hk : ∀ b o, s.heap.get? b = some o -> h1.get? b = some o := fun b o e => Lb.extBut b o (Nat.ne_of_lt (Heap.lt_size e)) (Heap.get?_push_of_some _ e)
 refine ⟨I.nolimit.keeps hk, kla_codeExpr ?_⟩
 have J := rE (qual := qual) (g := g) (cd := .ref c') (tk := s.toks + 1) I hA hr.hd S gX j8 qE rv sY hk
 refine wpAny_mono (ht [] _ σ' H Q J hq) (fun w s' h => ?_) fun _ _ h => h.elim
 obtain ⟨v', H', J', r', q'⟩ := h
 exact ⟨v', H', J'.os, J'.bare, J'.base, J'.aT, r', q'⟩
end
section
variable {X : Cx} {pins : List (Addr × Obj)} {σ : St} {H : Hp} {s : Shared} {f a : Addr} {sp : Sp} {kf : V -> Int × Str} {A : Around}
def m3 (X : Cx) (pins : List (Addr × Obj)) (σ : St) (H : Hp) (f : Addr) (sp : Sp) : Prop := ∀ (pl : List (Addr × Obj)) (s' : Shared) (H' : Hp) (v : V) (u : Value) (Q : VK), Inv X pl σ H' s' -> (∀ p ∈ pins, p ∈ pl) -> az H H' -> RelV v u -> sp [v] H' Q E0 ->
 wpAny (model X.prog X.w) X.A.in1.in1 (call (.ref f) [u]) (EP X pl σ Q) (fun _ _ => False) s'
theorem lE {kS : Addr} {oa : Obj} {body : Value -> PUnit -> Sem (ForInStep PUnit)} {E : Value -> Shared -> Prop} (KC : m3 X pins σ H f sp) (HY : ∀ v, oa.data ≠ .cell v)
 (j6 : ∀ x (s' : Shared) (R : Shared -> Prop), wpAny (model X.prog X.w) X.A.in1.in1 (call (.ref f) [x]) (fun k s2 => ∃ us e, s2.heap.get? kS = some (seqObj "list" (List.toArray us) e) /\ us.length < 64 /\ R { s2 with heap := s2.heap.update kS (Obj.mapSeq (·.push k)) }) (fun _ _ => False) s' ->
  wpAny (model X.prog X.w) X.A.in1.in1 (body x ⟨⟩) (fun r s2 => r = .yield ⟨⟩ /\ R s2) E s')
 (fa : dQ X pins H a) (fk : dQ X pins H kS) (vK : a ≠ kS) : ∀ (rx : List V) (r : List Value) (xs : List V) (s' : Shared), Vals rx r -> ph sp kf H rx -> xs.length + rx.length < 64 -> Aq X pins σ H kf a kS oa xs s' ->
  wpAny (model X.prog X.w) X.A.in1.in1 (forIn r PUnit.unit body) (fun _ s2 => Aq X pins σ H kf a kS oa (xs ++ rx) s2) E s'
 | [], _, xs, s', hv, _, _, hK => by
   cases hv
   rw [List.forIn_nil, List.append_nil]
   exact wpAny_pure hK
 | v :: rx, _, xs, s', .cons (b := u) (l₂ := r) hu hv, HF, hlen, ⟨H', us, e, ys, I, sm, ha, hk, Ji, J7, rv, dv⟩ => by
   rw [List.forIn_cons]
   have L4 := fa.keep (H' := H') ha
   have L7 := fk.keep (H' := H') hk
   have I' : Inv X (pins ++ [(a, oa), (kS, seqObj "list" (List.toArray us) e)]) σ H' s' := by
    refine I.fQ fun p hp => ?_
    rcases List.mem_append.mp hp with hp | hp
    . exact I.pin p (List.mem_append_right _ hp)
    . rcases List.mem_cons.mp hp with rfl | hp
      . exact ⟨Ji, ha, fa.2.1, fa.2.2.1, HY⟩
      . have : p = (kS, seqObj "list" (List.toArray us) e) := by simpa using hp
        subst this
        exact ⟨J7, hk, fk.2.1, fk.2.2.1, fun v z => by cases z⟩
   have L5 : us.length = xs.length := by rw [<- rv.length, dv.length, List.length_map]
   refine wpAny_bind (wpAny_mono (j6 u s' (fun s2 => Aq X pins σ H kf a kS oa (xs ++ [v]) s2) (wpAny_mono (KC _ s' H' v u _ I' (fun p hp => List.mem_append_left _ hp) sm hu (HF v List.mem_cons_self H' sm)) (fun kv s2 hq => ?_) fun _ _ z => z)) (fun q s2 hq => ?_) fun _ _ z => z)
   . obtain ⟨y, H2, I2, ry, lN, dy⟩ := hq
     have p1 := I2.pin (a, oa) (List.mem_append_right _ (List.mem_append_right _ List.mem_cons_self))
     have p2 := I2.pin (kS, seqObj "list" (List.toArray us) e) (List.mem_append_right _ (List.mem_append_right _ (List.mem_cons_of_mem _ List.mem_cons_self)))
     have I3 : Inv X pins σ H2 s2 := I2.g9
     refine ⟨us, e, p2.1, by simp at hlen; omega, ?_⟩
     obtain ⟨c, hc⟩ : ∃ c, (s2.heap.update kS (Obj.mapSeq (·.push kv))).get? kS = some (seqObj "list" (List.toArray (us ++ [kv])) c) := by
      have ea : (List.toArray us).push kv = List.toArray (us ++ [kv]) := by simp
      rw [<- ea]
      exact ⟨_, get?_update_seq p2.1 (·.push kv)⟩
     refine ⟨H2, us ++ [kv], c, ys ++ [y], I3.wy (fk.keep p2.2.1), sm.trans lN, p1.2.1, p2.2.1, ?_, hc, rv.append (.cons ry .nil), ?_⟩
     . show (s2.heap.update kS _).get? a = some oa
       rw [Heap.get?_update_ne _ _ _ _ vK]; exact p1.1
     . rw [List.map_append]
       exact (dv.keeps lN).append (.cons dy .nil)
   . obtain ⟨rfl, hq⟩ := hq
     have := lE KC HY j6 fa fk vK rx r (xs ++ [v]) s2 hv (fun z hz => HF z (List.mem_cons_of_mem _ hz)) (by simp at hlen ⊢; omega) hq
     rw [List.append_assoc] at this
     exact this
theorem oz {l : Addr} {xs : List V} {Q : VK} {E : Value -> Shared -> Prop} (I : Inv X pins σ H s) (Bx : xs.length < 64) (Gm : ∀ (R : List Value -> Shared -> Prop) (E' : Value -> Shared -> Prop), (∀ vs s2, Vals xs vs -> Inv X pins σ H s2 -> R vs s2) -> wpAny (model X.prog X.w) X.A.in1 (collect (.ref l)) R E' s) (KC : m3 X pins σ H f sp)
 (hk : ph sp kf H xs) (fin : qH X pins σ H cX kf xs Q) : wpAny (model X.prog X.w) X.A (call (.builtin "sorted") [.ref l] [(Str.ofString "key", .ref f)]) (EP X pins σ Q) E s := by
 have GZ : (64 : Nat) <= sizeLine := by decide
 refine call_function_entry_kw kind_sorted plain_sorted entry_sorted (ksk_s1 _ _) ?_
 unfold Builtin.«sorted»
 refine wpAny_bind (m := checkCount "sorted" 1 1 _) (wpAny_pure ?_)
 refine wpAny_bind (Gm _ _ fun vs s2 rv I2 => ?_)
 have lx := rv.length
 refine wpAny_bind (wpAny_newList ?_ (by omega))
 obtain ⟨h2, g2, d2, t2, o2⟩ := s2
 have BO : (h2.push (seqObj "list" vs.toArray 0)).get? h2.objs.size = some (seqObj "list" vs.toArray 0) := Heap.get?_push_size _ rfl
 have I3 : Inv X pins σ H (⟨h2.push (seqObj "list" vs.toArray 0), g2, d2, t2, o2⟩ : Shared) := I2.rm
 have fa : dQ X pins H h2.objs.size := I2.mR (Nat.le_refl _) (I2.aT.fresh (Nat.le_refl _))
 have xq : X.dh.heap.objs.size <= h2.objs.size := I2.sz
 show wpAny _ _ _ _ _ (⟨h2.push (seqObj "list" vs.toArray 0), g2, d2, t2, o2⟩ : Shared)
 generalize h2.objs.size = a at *
 refine wpAny_bind (wpAny_holding (wpAny_call_entry_kw slot_list_sort ⟨_, BO, rfl⟩ entry_list_sort ?body (ksk_l1 _ _)))
 case body =>
  show wpAny (model X.prog X.w) X.A.in1.in1 (Builtin.«list.sort» ⟨[.ref a], [(Str.ofString "key", .ref f)]⟩) _ _ _
  rw [ksk_t1]
  generalize h2.push (seqObj "list" vs.toArray 0) = h3 at *
  unfold ksk_tree
  refine wpAny_bind (listItems_at BO rfl ?_)
  refine wpAny_bind (listUpdate_at BO rfl ?_ (by rw [List.size_toArray]; omega) (Nat.zero_le _))
  have I4 : Inv X pins σ H (⟨h3.update a (Obj.mapSeq fun _ => (#[] : Array Value)), g2, d2, t2, o2⟩ : Shared) := I3.wy fa
  obtain ⟨e1, oa⟩ : ∃ e1, (h3.update a (Obj.mapSeq fun _ => (#[] : Array Value))).get? a = some (seqObj "list" #[] e1) := ⟨_, get?_update_seq BO fun _ => #[]⟩
  generalize h3.update a (Obj.mapSeq fun _ => (#[] : Array Value)) = h4 at *
  refine wpAny_bind (seqEpoch_at oa rfl ?_)
  refine wpAny_bind (wpAny_newTuple ?_ (by show vs.length <= _; omega))
  have I5 : Inv X pins σ H (⟨h4.push (seqObj "tuple" vs.toArray 0), g2, d2, t2, o2⟩ : Shared) := I4.rm
  have HP : (h4.push (seqObj "tuple" vs.toArray 0)).get? a = some (seqObj "list" #[] e1) := Heap.get?_push_of_some _ oa
  show wpAny _ _ _ _ _ (⟨h4.push (seqObj "tuple" vs.toArray 0), g2, d2, t2, o2⟩ : Shared)
  generalize h4.push (seqObj "tuple" vs.toArray 0) = h5 at *
  refine wpAny_bind (wpAny_newList ?_ (Nat.zero_le _))
  have I6 : Inv X pins σ H (⟨h5.push (seqObj "list" #[] 0), g2, d2, t2, o2⟩ : Shared) := I5.rm
  have fk : dQ X pins H h5.objs.size := I5.mR (Nat.le_refl _) (I5.aT.fresh (Nat.le_refl _))
  have KJ : (h5.push (seqObj "list" #[] 0)).get? a = some (seqObj "list" #[] e1) := Heap.get?_push_of_some _ HP
  have Jz : (h5.push (seqObj "list" #[] 0)).get? h5.objs.size = some (seqObj "list" #[] 0) := Heap.get?_push_size _ rfl
  have vK : a ≠ h5.objs.size := Nat.ne_of_lt (Heap.lt_size HP)
  show wpAny _ _ _ _ _ (⟨h5.push (seqObj "list" #[] 0), g2, d2, t2, o2⟩ : Shared)
  show wpAny _ _ (holding [_, .ref h5.objs.size] (ksk_rest a (.ref f) false vs.toArray e1 (.ref h5.objs.size))) _ _ _
  generalize h5.objs.size = kS at *
  generalize h5.push (seqObj "list" #[] 0) = h6 at *
  refine wpAny_holding ?_
  unfold ksk_rest
  refine wpAny_bind (wpAny_rule ?_)
  first
   | rw [List.forIn_toArray]
   | (rw [<- Array.forIn_toList]; simp only [List.toList_toArray])
  refine wpAny_bind (wpAny_mono (lE (kf := kf) KC (oa := seqObj "list" #[] e1) (fun v z => by cases z) (fun x s' R hx => ?_) fa fk vK xs vs [] (⟨h6, g2, d2, t2, o2⟩ : Shared) rv hk (by simpa using Bx) ⟨H, [], 0, [], I6, az.refl _, fa.1, fk.1, KJ, Jz, .nil, .nil⟩) (fun _ s7 hK => ?_) fun _ _ z => z)
  . refine wpAny_bind (wpAny_attempt (wpAny_mono hx (fun kv s2 hq => ?_) fun _ _ z => z.elim))
    obtain ⟨us, e, ok, jK, hR⟩ := hq
    dsimp only
    refine wpAny_bind (listUpdate_at ok rfl ?_ (by rw [List.size_toArray]; omega) (by rw [Array.size_push, List.size_toArray]; omega))
    exact wpAny_pure ⟨rfl, hR⟩
  . obtain ⟨H', us, e, ys, I7, sm, KL, JX, IU, IT, ry, dv⟩ := hK
    try dsimp only
    refine wpAny_bind (listItems_at IT rfl ?_)
    refine tu sm fa.1 I7 (fa.keep KL) (fk.keep JX) vK xq IU IT Bx rv ry (by simpa using dv) fin (fun s8 h8 => ⟨_, rfl, wpAny_pure ⟨_, rfl, h8⟩⟩)
end
def rh (te : TE) (js : List Nat) (σ : St) : Sp := fun vs H Q _ => ∃ v, vs = [v] /\ te (some v :: js.map fun j => σ.getD j none) H Q
structure nW (X : Cx) (P : Addr) (params : Arguments) (scope : Scope) (p : Str) (xs : List Str) (js : List Nat) : Prop where
 sc : i7 (p :: xs) p scope
 cd : ∃ c, X.env.code = .ref c /\ CodeHd X.base c P
 bm : BM X.mg X.base
 df : defaultsOf params X.env = ([], [])
 bd : ∀ (name qual : Str) (body : Expr) (bQ : List (Str × Addr)) (pm cv oR u : Value), bindArgs (kla_fn name qual params body scope bQ pm cv oR) ⟨[u], []⟩ = pure [(p, u)]
 cl : X.Ok -> ∃ bQ, closureFor scope X.env = pure bQ /\ (∀ x c, bQ.lookup x = some c -> X.env.cells.lookup x = some c) /\ ∀ x, scope.names.lookup x = some .free -> ∃ c, bQ.lookup x = some c
 st : ∀ (i : Nat) (x : Str), xs[i]? = some x -> scope.names.lookup x = some .free /\ ∃ j : Nat, js[i]? = some j /\ X.N[j]? = some x /\ (X.env.kindOf x = some .cell \/ X.env.kindOf x = some .free)
 ln : js.length = xs.length
section
variable {X : Cx} {pins : List (Addr × Obj)} {σ : St} {H : Hp} {s : Shared} {P : Addr} {params : Arguments} {body : Expr} {scope : Scope} {p : Str} {xs : List Str} {js : List Nat} {te : TE} {k : Nat} {pos : Pos}
theorem nW.Dl (L : nW X P params scope p xs js) (v : V) : tF X σ (p :: xs) scope v (some v :: js.map fun j => σ.getD j none) := by
 refine ⟨by simp [L.ln], rfl, fun i x w hi hx hw => ?_⟩
 obtain ⟨i, rfl⟩ : ∃ i', i = i' + 1 := ⟨i - 1, by omega⟩
 obtain ⟨h1, j, h2, h3, h4⟩ := L.st i x (by simpa using hx)
 refine ⟨h1, j, h3, ?_, h4⟩
 have hw : (js.map fun j => σ.getD j none)[i]? = some (some w) := by simpa using hw
 rw [List.getElem?_map, h2] at hw
 have hw : σ.getD j none = some w := by simpa using hw
 rw [List.getD_eq_getElem?_getD] at hw
 cases e : σ[j]? with
 | none => rw [e] at hw; cases hw
 | some o => rw [e] at hw; rw [show o = some w from hw]
theorem wY {pl : List (Addr × Obj)} {H1 : Hp} {g c' : Addr} {pm oR : Value} {bQ : List (Str × Addr)} (L : nW X P params scope p xs js) (hr : bG (k + 3) X.A) (gX : ∀ x c, bQ.lookup x = some c -> X.env.cells.lookup x = some c) (j8 : ∀ x, scope.names.lookup x = some .free -> ∃ c, bQ.lookup x = some c)
 (hp : (g, kla_obj "<lambda>" (X.env.qual ++ "<lambda>") params body scope bQ pm c' oR) ∈ pl) (hc : H1 c' = some (kH c' (X.env.qual ++ "<lambda>")))
 (hb : ∀ (A : Around) (g : Addr) (cd : Value) (bQ : List (Str × Addr)) (s : Shared) (H : Hp), bG k (A.deeper (lB (X.env.qual ++ "<lambda>") scope s.heap.objs.size g cd bQ)) -> PE (n0 X A (p :: xs) (X.env.qual ++ "<lambda>") scope g cd bQ s H) body te) : m3 X pl σ H1 g (rh te js σ) := by
 intro MA s' H' v u Q I' FE sm rv hs
 obtain ⟨_, e, hq⟩ := hs
 obtain rfl := (List.cons.inj e).1
 have Ik : bG (k + 1) X.A.in1.in1 := bG.in1 (bG.in1 hr)
 have Jv : s'.heap.CodeRec (.ref c') (X.env.qual ++ "<lambda>") := (I'.aT c' _ (sm _ _ hc)).1
 have FC : X.A.in1.in1.frames = some X.stack := I'.wJ.in1.in1.frames
 refine wpAny_call (codeAny_mono (xJ (k := k) I' FC Ik L.sc gX j8 (FE _ hp) Jv (L.bd _ _ _ _ _ _ _ u) (L.Dl v) rv (hb _ _ _ _ _ _ (Ik.deeper _)) hq) fun r s2 hq => ?_)
 cases r with
 | error e => exact hq.elim
 | ok fl =>
   cases fl with
   | ret u => exact I'.after hq
   | next => exact False.elim hq
   | brk => exact False.elim hq
   | cont => exact False.elim hq
def ni (sp : Sp) (vs : List V) (H : Hp) (Q : VK) : Prop := ∃ p kvs kf, vs = [.ref p] /\ Rd H p (.dK kvs) /\ kvs.length < 64 /\ ph sp kf H (kvs.map fun kv => kV kv.1) /\ ∀ l ys H', az H H' -> H l = none -> H' l = none -> mU cX kf ys (kvs.map fun kv => kV kv.1) -> Q (.ref l) (upd H' l (.lst ys))
def qF (P : Addr) (pos : Pos) (q : Str) (te : TE) (js : List Nat) (t : TA) : TE := fun σ H Q => t σ H fun vs H1 => TabAt H1 P pos q /\ ∀ H2, Mv [P] H1 H2 -> TabAt H2 P pos q -> ni (rh te js σ) vs H2 Q
variable {e : Expr} {t : TA} {pn p2 eg AG : Pos}
theorem sj (mm : X.calm = true) (L : nW X P params scope p xs js) (hr : bG (k + 3) X.A) (hg : Gl X "sorted") (hm : X.mg "sorted" = none) (ha : PA X [e] t)
 (hb : ∀ (A : Around) (g : Addr) (cd : Value) (bQ : List (Str × Addr)) (s : Shared) (H : Hp), bG k (A.deeper (lB (X.env.qual ++ "<lambda>") scope s.heap.objs.size g cd bQ)) -> PE (n0 X A (p :: xs) (X.env.qual ++ "<lambda>") scope g cd bQ s H) body te)
 (qE : backTo eg (starEach [e] X.env) = (false, eval e X.env) :: backTo eg (starEach [] X.env) := by rfl) (oX : (backTo eg (starEach [e] X.env)).any (·.1) = false := by rfl) :
 PE X (.Call (.Name "sorted" pn) [e] [⟨some "key", .Lambda params body scope pos, AG⟩] eg) (qF P pos (X.env.qual ++ "<lambda>") te js t) := by
 intro pins s σ H Q I h
 obtain ⟨c, lJ, hC⟩ := L.cd
 obtain ⟨bQ, E9, gX, j8⟩ := L.cl I.ok
 refine wpAny_Call_Name_kw (jU I hg hm boot_sorted ?_)
 refine callWith_kw (cj (ha eg pins s σ H _ I h) fun us s1 ⟨vs, H1, I1, r1, hT, q1⟩ => ?_) qE oX
 refine wpAny_evalAll_cons (wpAny_bind (tJ I1 lJ hC L.bm hT L.df E9 fun g c' pm oR H2 s2 I2 hc mv Ky => wpAny_bind (wpAny_standAt (wpAny_pure (wpAny_evalAll_nil ?_)))))
 obtain ⟨d, kvs, kf, e1, hd, Bx, hk, fin⟩ := q1 H2 mv Ky
 subst e1
 obtain ⟨u, rfl, ru⟩ := vals1 r1
 have e1 : u = .ref d := ru
 subst e1
 have ob : bH X.prog X.w H2 s2.heap d (.dK kvs) := by
  rcases hd with e | ⟨o, e⟩
  . exact I2.aT d _ e
  . exact (I2.aT d _ e).2
 obtain ⟨hz, hs, vs, kv, KQ⟩ := ob
 obtain ⟨ep, da⟩ := KQ.dictAt
 have hlen : vs.length = kvs.length := kv.length.symm
 refine wpAny_mono (oz (E := X.xe) (xs := kvs.map fun kv => kV kv.1) I2 (by rw [List.length_map]; exact Bx) (fun R E' hR => ?_) (wY (P := P) (k := k) L hr gX j8 (List.mem_append_right _ (List.mem_singleton.mpr rfl)) hc hb) hk (fun a ys H' => fin a ys H')) (fun w s3 hq => ?_) fun _ _ z => z
 . refine kdu_collect (kdl_dict (knd := aV X.prog X.w) (kvs := vs) (ep := ep) hs) ?_ da (by rw [hlen]; exact hz) fun h' tk acc qw iS => hR acc.toList _ (pW kv iS) (I2.kept qw)
   exact I2.ok.hd mm
 . obtain ⟨v, H3, I3, r3, q3⟩ := hq
   exact ⟨v, H3, I3.g9, r3, q3⟩
end
theorem rD {P : Program} {w : World} {K : PySem.W.Frag} {mg mb : Str -> Option Value} {CX : oW} {k : Nat} {fa a : Addr} {fd : FuncData} {x : Str} {sp : Sp} {s₁ : Shared} {vs : List Value} {ns : List Int} {ts : List Addr}
 (KX : K.In s₁.heap) (sY : s₁.heap.Ns mainGlobals mg) (hb : s₁.heap.Ns builtinsNs mb) (JT : ∀ x : Str, x ≠ "__name__" -> mb x = bootBuiltins x) (Hm : s₁.heap.NoLimit) (Kz : BM mg s₁.heap) (pP : ∀ b ∈ ts, s₁.heap.get? b = some (tabObj #[]) /\ K.lookup b = none /\ ∃ c, CodeHd s₁.heap c b) (hg : s₁.gens = #[])
 (ha : s₁.heap.get? a = some { cls := .type "list", data := .seq vs.toArray }) (hi : IntsAre vs ns) (hl : ns.length <= sizeLine) (hr : bG k callerA)
 (F : ∀ base : Heap, K.In base -> base.Ns mainGlobals mg -> BM mg base -> bR P w K mg base CX k fa fd [x] sp) (tQ : ∀ (s : Shared) (u : Value), BindsTo s fd ⟨[u], []⟩ [(x, u)])
 (vQ : ∀ H : Hp, dA K H a (ns.map V.int) -> (∀ b ∈ ts, H b = some (.ix #[])) -> sp [.ref a] H (fun v _ => v = .bl true) fun _ _ _ => False)
 (FH : ∀ H e s', CX [] H s₁ (fun _ _ _ => False) e s' -> False) :
 codeAny (model P w) callerA (.call (.ref fa) ⟨[.ref a], []⟩) (fun r s' => r = .ok (.ret (.bool true)) /\ OldK s₁.heap s'.heap /\ s'.os = s₁.os /\ AllBare s'.gens) s₁ := by
 have rv := my hi
 have Gz := hi.length
 have core : ∀ H : Hp, dA K H a (ns.map V.int) -> gf P w H s₁.heap -> (∀ b, H b = none \/ (b = a /\ ∃ o xs, H b = some (.gN o (.lst xs))) \/ (b ∈ ts /\ H b = some (.ix #[]))) -> (∀ b ∈ ts, H b = some (.ix #[])) -> (H a ≠ none -> K.lookup a = none) ->
  codeAny (model P w) callerA (.call (.ref fa) ⟨[.ref a], []⟩) (fun r s' => r = .ok (.ret (.bool true)) /\ OldK s₁.heap s'.heap /\ s'.os = s₁.os /\ AllBare s'.gens) s₁ := by
  intro H hS aT hA Jd hK
  have m9 : ∀ {b : Addr} {o : Obj}, s₁.heap.get? b = some o -> H b = none -> (lT s₁.heap H).get? b = some o := fun e n => uN e n
  have xx : ∀ {b : Addr} {o : Obj} {es : Array DictEntry} {ep : Nat}, s₁.heap.get? b = some o -> o.data = .dict es ep -> H b = none := fun {b o es ep} e d => by
   cases q : H b with
   | none => rfl
   | some u =>
     rcases hA b with z | ⟨e', _⟩ | ⟨hb, _⟩
     . rw [q] at z; cases z
     . subst e'
       rw [ha] at e; cases e
       have d' : Data.seq vs.toArray _ = Data.dict es ep := d
       cases d'
     . rw [(pP b hb).1] at e; cases e
       have d' : Data.fields #[] = Data.dict es ep := d
       cases d'
  have Es : ∀ {b : Addr} {m : Str -> Option Value}, s₁.heap.Ns b m -> (lT s₁.heap H).Ns b m := fun {b m} ⟨o, es, ep, e, d, r⟩ => ⟨o, es, ep, m9 e (xx e d), d, r⟩
  have IL : K.In (lT s₁.heap H) := fun b o e => m9 (KX b o e) (by
   cases q : H b with
   | none => rfl
   | some u =>
     rcases hA b with z | ⟨e', _⟩ | ⟨hb, _⟩
     . rw [q] at z; cases z
     . subst e'
       rw [hK (by rw [q]; simp)] at e; cases e
     . rw [(pP b hb).2.1] at e; cases e)
  have Le : BM mg (lT s₁.heap H) := by
   obtain ⟨bm, ob, b1, b2, b3, b4, b5, b6⟩ := Kz
   refine ⟨bm, ob, b1, b2, m9 b3 ?_, b4, b5, b6⟩
   rcases hA bm with z | ⟨e', _⟩ | ⟨hb, _⟩
   . exact z
   . rw [e', ha] at b3; cases b3; exact absurd (Value.type.inj b4) (by decide)
   . rw [(pP bm hb).1] at b3; cases b3; cases b4
  have hM : Mod K mg (lT s₁.heap H) := ⟨IL, Es sY, ⟨mb, Es hb, JT⟩, let ⟨mc, h1, h2⟩ := Hm; ⟨mc, Es h1, h2⟩⟩
  have e0 : lQ P w K mg (lT s₁.heap H) callerA [] s₁ H := ⟨rfl, hM, fun b o e => wB e, Nat.le_of_eq (sA _ _), trivial, fun b hb => absurd (show b ∈ ([] : List Addr) from hb) (by simp), aT, .of_eq hg⟩
  refine codeAny_mono ((F _ IL (Es sY) Le).run callerA [] s₁ H ⟨[.ref a], []⟩ [.ref a] [.ref a] _ _ hr e0 (tQ s₁ (.ref a)) (.cons rfl .nil) (vQ H hS Jd)) fun r s' h => ?_
  cases r with
  | error e => exact (FH H e s' h).elim
  | ok fl =>
    cases fl with
    | next => exact False.elim h
    | brk => exact False.elim h
    | cont => exact False.elim h
    | ret u =>
      obtain ⟨v, H', os, bare, un, CZ, r', q⟩ := h
      have q' : v = .bl true := q
      subst q'
      obtain rfl : u = Value.bool true := r'
      have key : ∀ b o, s₁.heap.get? b = some o -> s'.heap.get? b = some o \/ (b ∈ ts /\ o = tabObj #[] /\ ∃ more, s'.heap.get? b = some (tabObj (#[] ++ more))) := fun b o e => by
       rcases hA b with q | ⟨_, ob, xs, z⟩ | ⟨hb, z⟩
       . exact .inl (un.keep b o e q (by intro z; exact absurd (show b ∈ ([] : List Addr) from z) (by simp)) (by simp))
       . have z2 := un.ig b ob _ z
         obtain ⟨e1, _⟩ := aT b _ z
         obtain ⟨e2, _⟩ := CZ b _ z2
         rw [e] at e1; cases e1
         exact .inl e2
       . obtain ⟨more, z2⟩ := un.jE b _ z
         have e1 := (pP b hb).1
         rw [e] at e1; cases e1
         exact .inr ⟨hb, rfl, more, CZ b _ z2⟩
      refine ⟨rfl, ⟨fun b o e => ?_, fun b o e => ?_⟩, os, bare⟩
      . rcases key b o e with z | ⟨hb, rfl, more, z⟩
        . exact .inl z
        . obtain ⟨h1, _, c, hC⟩ := pP b hb
          exact .inr (.inl ⟨(hC.tab h1).isCodeTable, rfl, #[], more, rfl, z⟩)
      . rcases key b o e with z | ⟨_, _, more, z⟩
        . exact ⟨_, z⟩
        . exact ⟨_, z⟩
 have nat : ∀ b ∈ ts, b ≠ a := fun b hb z => by
  have := (pP b hb).1
  rw [z, ha] at this; cases this
 have Ho : ∀ (H : Hp) (b : Addr), b ∈ ts -> bH P w H s₁.heap b (.ix #[]) := fun H b hb => (pP b hb).1
 cases hk : K.lookup a with
 | some o =>
   have e := KX a o hk
   rw [ha] at e
   cases e
   refine core (fun b => if b ∈ ts then some (.ix #[]) else none) (.inr ⟨_, vs.toArray, _, hk, rfl, rfl, rfl, by rw [List.size_toArray, Gz]; exact hl, by simpa using rv⟩) (fun b u z => ?_) (fun b => ?_) (fun b hb => if_pos hb) (fun z => absurd (if_neg fun y => nat a y rfl) z)
   . by_cases hb : b ∈ ts
     . have z' := (if_pos hb).symm.trans z
       cases z'
       exact Ho _ b hb
     . have z' := (if_neg hb).symm.trans z
       cases z'
   . by_cases hb : b ∈ ts
     . exact .inr (.inr ⟨hb, if_pos hb⟩)
     . exact .inl (if_neg hb)
 | none =>
   have e1 : ∀ b, b ≠ a -> b ∈ ts -> (fun b => if b = a then some (HO.gN { cls := .type "list", data := .seq vs.toArray } (.lst (ns.map V.int))) else if b ∈ ts then some (.ix #[]) else none) b = some (.ix #[]) := fun b h1 h2 => by simp [h1, h2]
   have e2 : ∀ b, b ≠ a -> b ∉ ts -> (fun b => if b = a then some (HO.gN { cls := .type "list", data := .seq vs.toArray } (.lst (ns.map V.int))) else if b ∈ ts then some (.ix #[]) else none) b = none := fun b h1 h2 => by simp [h1, h2]
   refine core (fun b => if b = a then some (.gN { cls := .type "list", data := .seq vs.toArray } (.lst (ns.map V.int))) else if b ∈ ts then some (.ix #[]) else none) (.inl (.inr ⟨{ cls := .type "list", data := .seq vs.toArray }, if_pos rfl⟩)) (fun b u z => ?_) (fun b => ?_) (fun b hb => e1 b (nat b hb) hb) fun _ => hk
   . by_cases hb : b = a
     . have z' := (if_pos hb).symm.trans z
       cases z'
       subst hb
       exact ⟨ha, by rw [List.length_map]; exact hl, vs, _, rv, ha⟩
     . by_cases nH : b ∈ ts
       . have z' := (e1 b hb nH).symm.trans z
         cases z'
         exact Ho _ b nH
       . have z' := (e2 b hb nH).symm.trans z
         cases z'
   . by_cases hb : b = a
     . exact .inr (.inl ⟨hb, _, _, if_pos hb⟩)
     . by_cases nH : b ∈ ts
       . exact .inr (.inr ⟨nH, e1 b hb nH⟩)
       . exact .inl (e2 b hb nH)
theorem vd {l : PySem.W.OpenLaw} {n k : Nat} {q : Program} {loose : List Str} {XP : (Str -> Option Value) -> Heap -> Prop} {YP : World -> Heap -> Prop} {d : DefRec} {K : Params -> PySem.W.Frag} {CX : oW} {sp : List Addr -> PySem.W.Frag -> Sp} {x : Str} {ts : List Addr}
 (hn : l.most = some n) (yx : n <= sizeLine) (Gs : d.params.defaults = []) (hr : bG k callerA)
 (hY : ∀ (w : World) (h : Heap), YP w h -> (K w.params).In h /\ ∀ b ∈ ts, h.get? b = some (tabObj #[]))
 (F : ∀ (w : World) (mg : Str -> Option Value) (fa : Addr) (h : Heap), (K w.params).In h -> h.Ns mainGlobals mg -> mg d.name = some (.ref fa) ->
  ∃ fd : FuncData, (∀ (s : Shared) (u : Value), BindsTo s fd ⟨[u], []⟩ [(x, u)]) /\ (∀ b ∈ ts, (K w.params).lookup b = none /\ ∃ c, CodeHd h c b) /\
    ∀ base : Heap, (K w.params).In base -> base.Ns mainGlobals mg -> BM mg base -> bR l.prog w (K w.params) mg base CX k fa fd [x] (sp ts (K w.params)))
 (vQ : ∀ (K : PySem.W.Frag) (H : Hp) (a : Addr) (ns : List Int), ns.length <= n -> dA K H a (ns.map V.int) -> (∀ b ∈ ts, H b = some (.ix #[])) -> sp ts K [.ref a] H (fun v _ => v = .bl true) fun _ _ _ => False)
 (FH : ∀ (H : Hp) (s : Shared) (e : Value) (s' : Shared), CX [] H s (fun _ _ _ => False) e s' -> False) :
 PySem.W.WalkO q loose XP YP l.row.toRowW d [] (fun f vs => PySem.call f vs) := by
 refine HS.oq hn Gs fun w dh s₁ mg mb fa o pm cd doc a vs ns G Y ho hd lJ By zy hints hlen hg => ?_
 obtain ⟨KX, hT⟩ := hY w _ Y
 obtain ⟨fd, hb, hK, hF⟩ := F w mg fa _ KX G.T.g By
 exact rD KX G.T.g G.T.b G.T.builtins G.T.nolimit G.T.bmain (fun b hb => ⟨hT b hb, hK b hb⟩) hg zy hints (Nat.le_trans hlen yx) hr hF hb (fun H hS hT => vQ (K w.params) H a ns hlen hS hT) fun H e s' => FH H s₁ e s'
structure Bm (K : PySem.W.Frag) (f c P : Addr) : Prop where
 fn : ∃ (oc : Value) (od : Option Addr) (fd : FuncData) (sl : Array (Option Value)), K.lookup f = some ⟨oc, od, .func fd, sl⟩ /\ fd.code = .ref c
 cd : codeHdIn K c P = true
 no : K.lookup P = none
theorem xT {K : PySem.W.Frag} {f c P : Addr} {oc : Value} {od HQ : Option Addr} {fd : FuncData} {sl Et : Array (Option Value)} {vs : Array Value} (l : K.lookup f = some ⟨oc, od, .func fd, sl⟩) (e : fd.code = .ref c) (lc : K.lookup c = some ⟨.type "code", HQ, .fields vs, Et⟩) (ev : vs.getD 11 .none = .ref P)
 (cd : codeHdIn K c P = true) (no : K.lookup P = none) : Bm K f c P := ⟨⟨oc, od, fd, sl, l, e⟩, cd, no⟩
structure Dc (K : PySem.W.Frag) (fd : FuncData) (c P : Addr) : Prop where
 e : fd.code = .ref c
 cd : codeHdIn K c P = true
 no : K.lookup P = none
theorem v8 {K : PySem.W.Frag} {x qual : Str} {st : Stmt} {f c P : Addr} {dV : Value} {fd : FuncData} (F : cJ K x qual st f dV fd) (L : Bm K f c P) : Dc K fd c P := by
 obtain ⟨oc, od, kV, doc, pm, an, dR, ct, rJ, rfl, lk, _⟩ := F.ex
 obtain ⟨Mt, HQ, Mx, Et, l, e⟩ := L.fn
 rw [lk] at l
 cases l
 exact ⟨e, L.cd, L.no⟩
structure Bs (K : PySem.W.Frag) (mg : Str -> Option Value) (base : Heap) : Prop where
 k : K.In base
 b : BM mg base
section
variable {P : Program} {w : World} {K : PySem.W.Frag} {mg : Str -> Option Value} {base : Heap}
theorem cJ.I9 {x qual : Str} {st : Stmt} {f : Addr} {dV : Value} {fd : FuncData} {N ps : List Str} {k : Nat} {sp : Sp} (F : cJ K x qual st f dV fd) (S : aG N ps (au st)) (len : ∀ vs H Q E, sp vs H Q E -> vs.length = ps.length)
 (j6 : ∀ (A : Around) (outer : List Env) (s : Shared) (H : Hp) (vs : List V) (Q : VK) (E : XK), bG k (A.deeper (envOfC qual (au st) s.heap.objs.size f fd.code)) -> sp vs H Q E ->
  ∃ t, oF (pA ik P w K mg base N qual (au st) f fd.code A outer s H E).BQ (gw st) t /\ t { nx := fun _ H' => Q .a0 H', rt := Q } (start N vs) H) : bR P w K mg base ik (k + 1) f fd ps sp := by
 obtain ⟨oc, od, kV, doc, pm, an, dR, ct, rJ, rfl, lk, lJ⟩ := F.ex
 refine yK lk lJ S len fun A outer s H vs Q E hr vQ => ?_
 obtain ⟨t, h, q⟩ := j6 A outer s H vs Q E hr vQ
 exact ⟨t, h.BQ, q⟩
end
section
variable {X : Cx} {P : Addr} {params : Arguments} {scope : Scope} {p x : Str} {j : Nat}
theorem xf (hf : (scope.names.filter fun y => y.2 == .free).map (·.1) = [x]) (hx : X.env.kindOf x = some .cell \/ X.env.kindOf x = some .free) : X.Ok -> ∃ bQ, closureFor scope X.env = pure bQ /\ (∀ x c, bQ.lookup x = some c -> X.env.cells.lookup x = some c) /\ ∀ x, scope.names.lookup x = some .free -> ∃ c, bQ.lookup x = some c := fun ok => by
 obtain ⟨c, hc⟩ := ok.has x hx
 refine ⟨[(x, c)], nY hf hc, fun y d h => ?_, fun y h => ?_⟩
 . rw [List.lookup_cons] at h
   by_cases e : y = x
   . subst e
     simp at h
     rw [<- h]; exact hc
   . have : (y == x) = false := by simpa using e
     rw [this] at h; cases h
 . have h1 := List.mem_map_of_mem (f := (·.1)) (List.mem_filter (p := fun y : Str × NameKind => y.2 == .free) |>.mpr ⟨PySem.mem_of_lookup h, (rfl : (NameKind.free == NameKind.free) = true)⟩)
   rw [hf] at h1
   have : y = x := by simpa using h1
   subst this
   exact ⟨c, by simp⟩
theorem Ai (sc : i7 [p, x] p scope) (cd : ∃ c, X.env.code = .ref c /\ CodeHd X.base c P) (bm : BM X.mg X.base) (df : defaultsOf params X.env = ([], [])) (bd : ∀ (name qual : Str) (body : Expr) (bQ : List (Str × Addr)) (pm cv oR u : Value), bindArgs (kla_fn name qual params body scope bQ pm cv oR) ⟨[u], []⟩ = pure [(p, u)])
 (hf : (scope.names.filter fun y => y.2 == .free).map (·.1) = [x]) (hl : scope.names.lookup x = some .free) (hN : X.N[j]? = some x) (hk : X.env.kindOf x = some .cell) : nW X P params scope p [x] [j] :=
 ⟨sc, cd, bm, df, bd, xf hf (.inl hk), fun i y h => by
  cases i with
  | zero =>
    have : x = y := by simpa using h
    subst this
    exact ⟨hl, j, rfl, hN, .inl hk⟩
  | succ i => simp at h, rfl⟩
end
section
variable {σ : St} {H : Hp} {Q : VK} {K : PySem.W.Frag} {p : Addr} {m : List (Str × PyData)}
theorem rG {P : Addr} {pos : Pos} {q : Str} {te : TE} {js : List Nat} {t : TA} (h : t σ H fun vs H1 => TabAt H1 P pos q /\ ∀ H2, Mv [P] H1 H2 -> TabAt H2 P pos q -> ni (rh te js σ) vs H2 Q) : qF P pos q te js t σ H Q := h
theorem uC {sp : Sp} (key : Str -> Int × Str) (hp : hO H p m) (Bx : m.length < 64)
 (hk : ∀ x ∈ m.map (·.1), ∀ H', az H H' -> sp [.str x] H' (fun y H2 => az H' H2 /\ Dv H2 y (.tuple [.int (key x).1, .str (key x).2])) E0)
 (k : ∀ q H' (ss : List Str), az H H' -> H q = none -> ss.Perm (m.map (·.1)) -> ss.Pairwise (fun c d => cX (key d) (key c) = false) -> cM H' q (ss.map PyData.str) -> Q (.ref q) H') : ni sp [.ref p] H Q := by
 obtain ⟨kvs, e, dk⟩ := hp
 have tM : kvs.map (fun kv => kV kv.1) = (m.map (·.1)).map V.str := by
  clear hk k Bx e
  induction dk with
  | nil => rfl
  | cons h1 h2 r ih => rw [List.map_cons, ih]; rfl
 refine ⟨p, kvs, fun v => match v with | .str x => key x | _ => (0, ⟨#[]⟩), rfl, .inl e, ?_, fun v hv H' sm => ?_, fun l ys H' sm hn Fg ord => ?_⟩
 . have := congrArg List.length tM
   simp only [List.length_map] at this
   omega
 . rw [tM] at hv
   obtain ⟨x, hx, rfl⟩ := List.mem_map.mp hv
   exact hk x hx H' sm
 . rw [tM] at ord
   obtain ⟨pm, pw⟩ := ord
   obtain ⟨ss, Kw, pc⟩ : ∃ ss : List Str, ys = ss.map V.str /\ ss.Perm (m.map (·.1)) := by
    have Br : ∀ v ∈ ys, ∃ x, v = .str x := fun v hv => by
     obtain ⟨x, _, rfl⟩ := List.mem_map.mp (pm.mem_iff.mp hv)
     exact ⟨x, rfl⟩
    have h1 : (ys.map fun v => match v with | .str x => x | _ => (⟨#[]⟩ : Str)).Perm (((m.map (·.1)).map V.str).map fun v => match v with | .str x => x | _ => (⟨#[]⟩ : Str)) := pm.map _
    refine ⟨ys.map fun v => match v with | .str x => x | _ => (⟨#[]⟩ : Str), ?_, ?_⟩
    . rw [List.map_map]
      conv => lhs; rw [<- List.map_id ys]
      refine List.map_congr_left fun v hv => ?_
      obtain ⟨x, rfl⟩ := Br v hv
      rfl
    . rw [List.map_map] at h1
      have e : (m.map (·.1)).map ((fun v => match v with | V.str x => x | _ => (⟨#[]⟩ : Str)) ∘ V.str) = m.map (·.1) := by
       conv => rhs; rw [<- List.map_id (m.map (·.1))]
       exact List.map_congr_left fun x _ => rfl
      rw [e] at h1
      exact h1
   subst Kw
   have lN : az H (upd H' l (.lst (ss.map V.str))) := sm.trans (dS Fg)
   refine k l _ ss lN hn pc ?_ ⟨_, ay, ?_, jZ _⟩
   . rw [List.pairwise_map] at pw
     exact pw
   . exact lb ss
end
section
variable {σ : St} {H : Hp} {D : Ends} {p : Addr} {m : List (Str × PyData)} {g : TG} {tb : TS}
end
section
variable {σ : St} {H : Hp} {Q : VK} {K : PySem.W.Frag} {p : Addr} {m : List (Str × PyData)} {k : Str}
end
section
variable {σ : St} {H H' : Hp} {Q : VK} {K : PySem.W.Frag} {p l : Addr} {ns : List Str} {f : Str -> List PyData} {k : Str}
end
section
variable {H H' : Hp} {P : Addr} {pos : Pos} {q : Str}
theorem TabAt.ix (h : TabAt H P pos q) : ∃ ps, H P = some (.ix ps) := by
 rcases h with h | ⟨c, _, h, _⟩
 . exact ⟨_, h⟩
 . exact ⟨_, h⟩
theorem TabAt.ne {b : Addr} {u : HO} (h : TabAt H P pos q) (e : H b = some u) (nt : ∀ ps, u ≠ .ix ps) : b ≠ P := fun z => by
 obtain ⟨ps, hp⟩ := h.ix
 rw [z, hp] at e
 cases e
 exact nt _ rfl
theorem TabAt.jY {b : Addr} {u : HO} (h : TabAt H P pos q) (e : H b = some u) (nt : ∀ ps, u ≠ .ix ps) (nx : ∀ φ, u ≠ .ext φ) (mv : Mv [b] H H') : TabAt H' P pos q :=
 h.mv mv fun c hc => by
  rw [List.mem_singleton.mp hc]
  exact ⟨h.ne e nt, fun φ z => by rw [e] at z; cases z; exact nx _ rfl⟩
theorem TabAt.sf {d : Addr} {m : List (Str × PyData)} (h : TabAt H P pos q) (hd : hO H d m) (mv : Mv [d] H H') : TabAt H' P pos q := let ⟨_, e, _⟩ := hd; h.jY e (by intro _ z; cases z) (by intro _ z; cases z) mv
theorem TabAt.Ez {d : Addr} {ds : List PyData} (h : TabAt H P pos q) (hd : cM H d ds) (mv : Mv [d] H H') : TabAt H' P pos q := let ⟨_, e, _⟩ := hd; h.jY e (by intro _ z; cases z) (by intro _ z; cases z) mv
theorem TabAt.Ce {d : Addr} {m : List (Str × PyData)} (h : TabAt H P pos q) (hd : hO H d m) : d ≠ P := let ⟨_, e, _⟩ := hd; h.ne e (by intro _ z; cases z)
theorem TabAt.pV {d : Addr} {ds : List PyData} (h : TabAt H P pos q) (hd : cM H d ds) : d ≠ P := let ⟨_, e, _⟩ := hd; h.ne e (by intro _ z; cases z)
theorem TabAt.B2 {C : Addr} {v : V} {fs : List (Str × V)} (h : TabAt H P pos q) (hi : sS H v C fs) (mv : Mv [P] H H') : sS H' v C fs := by
 obtain ⟨p, dx, rfl, e⟩ := hi
 exact ⟨p, dx, rfl, mv.at (by simpa using h.ne e (by intro _ z; cases z)) e⟩
theorem TabAt.Ia {d : Addr} {m : List (Str × PyData)} (h : TabAt H P pos q) (hd : hO H d m) (mv : Mv [P] H H') : hO H' d m := hd.mv mv (by simpa using h.Ce hd)
theorem TabAt.FV {d : Addr} {ds : List PyData} (h : TabAt H P pos q) (hd : cM H d ds) (mv : Mv [P] H H') : cM H' d ds := hd.mv mv (by simpa using h.pV hd)
theorem xh {te : TE} {js : List Nat} {σ : St} {v : V} {Q : VK} {E : XK} (h : te (some v :: js.map fun j => σ.getD j none) H Q) : rh te js σ [v] H Q E := ⟨v, rfl, h⟩
end
def Ck (K : PySem.W.Frag) (a : Addr) (n : Nat) : It := ⟨fun i H => i < n /\ ∃ xs, dA K H a xs /\ xs.length = n, fun i H x H' => H' = H /\ ∀ xs, dA K H a xs -> xs[n - 1 - i]? = some x, fun i _ => i = n⟩
theorem uZ {P : Program} {w : World} {K : PySem.W.Frag} {tg : Expr} (a it : Addr) (n : Nat) : Turn P w K tg (Ck K a n) [it] it (fun i h => h.IsRevIter it a ((n : Int) - 1 - (i : Int))) where
 mem := by simp
 obj := fun i h st b hb => by
  have e : b = it := by simpa using hb
  subst e
  obtain ⟨o, e, c, d⟩ := st
  exact ⟨o, e, fun v z => by rw [d] at z; cases z⟩
 keep := fun i h h' st k => st.at fun o e => k it (by simp) o e
 item := by
  intro X hP hw hK hc i pins s σ H E I hf st hg
  subst hP hw hK
  obtain ⟨hi, xs, hq, hn⟩ := hg
  obtain ⟨aS, rv, p, hz⟩ := I.list hq
  have jK : n - 1 - i < xs.length := by omega
  have hx : xs[n - 1 - i]? = some xs[n - 1 - i] := List.getElem?_eq_getElem jK
  obtain ⟨u, hu, ru⟩ := rv.get hx
  obtain ⟨f0, f1, f2, f3, f4, f5⟩ := hf it (by simp)
  have e1 : ((n : Int) - 1 - (i : Int)) = ((n - 1 - i : Nat) : Int) := by omega
  rw [e1] at st
  refine wpAny_pyNext_rev_item st p.isList (x := u) (by simpa using hu) fun h' o5 sb => ?_
  have I1 : Inv X pins σ H { s with heap := h' } := I.turned (t' := s.toks) (fun b o hb e => (sb.2 b hb).trans e) f0 f1 f3 f4 f5
  obtain ⟨o, e, c, d⟩ := id o5
  have e2 : (((n - 1 - i : Nat) : Int) - 1) = ((n : Int) - 1 - ((i + 1 : Nat) : Int)) := by omega
  rw [e2] at o5
  exact ⟨u, rfl, rg (s := { s with heap := h' }) e c d (by decide) ⟨_, H, I1, ru, ⟨rfl, fun ys hy => by rw [I.kP hy hq]; exact hx⟩, o5, fun b hb => (hf b hb).1⟩⟩
 done := by
  intro X hP hw hK hc i pins s σ H E I hf st hg
  subst hP hw hK
  have hg : i = n := hg
  obtain ⟨f0, f1, f2, f3, f4, f5⟩ := hf it (by simp)
  have e1 : ((n : Int) - 1 - (i : Int)) = -1 := by omega
  rw [e1] at st
  exact wpAny_pyNext_rev_end (I.ok.hd hc) st fun h' eb => ⟨rfl, I.turned (t' := s.toks) (fun b o hb e => eb b o hb e) f0 f1 f3 f4 f5⟩
 self := fun _ _ _ _ _ st h => wpAny_pyIter_revIter st h
def CV (K : PySem.W.Frag) (te : TE) : TI := fun σ H R => te σ H fun x H1 => ∃ a xs, x = .ref a /\ dA K H1 a xs /\ R (Ck K a xs.length) H1
section
variable {X : Cx} {e tg : Expr} {te : TE} {p2 xD : Pos}
theorem zV (he : PE X e te) (mV : Gl X "reversed") (Jc : X.mg "reversed" = none)
 (h1 : starEach [e] X.env = (false, eval e X.env) :: starEach [] X.env := by rfl) : PI X tg (.Call (.Name "reversed" p2) [e] [] xD) (CV X.K te) := by
 intro pins s σ H R I h
 refine wpAny_Call_Name_kw (jU I mV Jc (by rfl) ?_ (by decide) (by decide))
 refine PyProof.Rows.callWith_type1 ?_ h1 rfl
 rw [h1]
 show wpAny _ _ (spliced ((false, eval e X.env) :: backTo xD (starEach [] X.env))) _ _ s
 refine Calls.spliced_cons (cj (he pins s σ H _ I h) fun u s1 ⟨x, H1, I1, r1, q1⟩ => ?_)
 refine Calls.spliced_nil ?_
 obtain ⟨a, xs, rfl, hx, q⟩ := q1
 cases r1
 obtain ⟨aS, r, ht, hz⟩ := I1.list hx
 have hlen := r.length
 refine call_reversed_list ht.isList ?_
 have sz : aS.toArray.size = xs.length := by rw [List.size_toArray]; omega
 have hit : (s1.heap.push (revObj a ((aS.toArray.size : Int) - 1))).IsRevIter s1.heap.objs.size a ((xs.length : Int) - 1 - ((0 : Nat) : Int)) := ⟨_, Heap.get?_push_size _ rfl, rfl, by rw [sz]; show Data.fields _ = _; simp⟩
 refine wpAny_pyIter_revIter hit ?_
 refine ⟨s1.heap.objs.size, [s1.heap.objs.size], _, _, H1, rfl, I1.kept (t' := s1.toks) fun b o e => Heap.get?_push_of_some _ e, uZ a _ xs.length, hit, fun b hb => ?_, q⟩
 have e : b = s1.heap.objs.size := by simpa using hb
 subst e
 exact I1.mR (Nat.le_refl _) (I1.aT.fresh (Nat.le_refl _))
end
section
variable {σ : St} {H : Hp} {D : Ends} {K : PySem.W.Frag}
def DE (K : PySem.W.Frag) (x : V) (g : TG) (tb : TS) (D : Ends) (σ : St) (H1 : Hp) : Prop := ∃ a ys, x = .ref a /\ dA K H1 a ys /\ ∃ W : Nat -> Nat -> St -> Hp -> Prop, (∃ m, W 0 m σ H1) /\ ∀ i m σ H, W i m σ H ->
 ((Ck K a ys.length).stop i H /\ D.nx σ H) \/ ((Ck K a ys.length).go i H /\ ∃ N : St -> Hp -> Prop, (∀ σ' H', N σ' H' -> ∃ m', m' < m /\ W (i + 1) m' σ' H') /\ ∀ x H', (Ck K a ys.length).v9 i H x H' -> g x σ H' fun σ2 H2 => tb { D with nx := N, ct := N, bk := D.nx } σ2 H2)
theorem Be {te : TE} {g : TG} {tb : TS} (h : te σ H fun x H1 => DE K x g tb D σ H1) : tU (CV K te) g tb D σ H := h
theorem Ea {Hb : Hp} {v : V} {cs : List Str} {g : TG} {tb : TS} (hl : Dv Hb v (.list (cs.map PyData.str))) (Pv : Nat -> St -> Hp -> Prop) (h0 : Pv 0 σ H) (hk : ∀ i σ H', i <= cs.length -> Pv i σ H' -> ∀ a xs, v = .ref a -> dA K Hb a xs -> dA K H' a xs)
 (hs : ∀ i c σ H', cs[cs.length - 1 - i]? = some c -> i < cs.length -> Pv i σ H' -> g (.str c) σ H' fun σ2 H2 => tb { D with nx := Pv (i + 1), ct := Pv (i + 1), bk := D.nx } σ2 H2) (hd : ∀ σ H', Pv cs.length σ H' -> D.nx σ H') : DE K v g tb D σ H := by
 obtain ⟨p, xs, rfl, e, dv⟩ := hl.lst_inv
 have BF : xs.length = cs.length := by rw [dv.length, List.length_map]
 have at' : ∀ i σ H', i <= cs.length -> Pv i σ H' -> dA K H' p xs := fun i σ H' hi hp => hk i σ H' hi hp p xs rfl (e K)
 refine ⟨p, xs, rfl, at' 0 σ H (Nat.zero_le _) h0, fun i m σ H => i <= cs.length /\ m = cs.length - i /\ Pv i σ H, ⟨_, Nat.zero_le _, rfl, h0⟩, ?_⟩
 rintro i m σ H' ⟨hi, hm, hp⟩
 have sX := at' i σ H' hi hp
 by_cases hc : i = cs.length
 . subst hc
   exact .inl ⟨BF.symm, hd σ H' hp⟩
 . refine .inr ⟨⟨by omega, xs, sX, rfl⟩, Pv (i + 1), fun σ' H2 sU => ⟨cs.length - (i + 1), by omega, by omega, rfl, sU⟩, fun x H2 hy => ?_⟩
   obtain ⟨rfl, hy⟩ := hy
   have hx := hy xs sX
   have jK : cs.length - 1 - i < cs.length := by omega
   have vB : cs[cs.length - 1 - i]? = some cs[cs.length - 1 - i] := List.getElem?_eq_getElem jK
   obtain ⟨x2, EF, hd⟩ := dv.get (i := cs.length - 1 - i) (d := .str cs[cs.length - 1 - i]) (by rw [List.getElem?_map, vB]; rfl)
   rw [BF, EF] at hx
   cases hx
   obtain rfl := hd.str_inv
   exact hs i _ σ H2 vB (by omega) hp
end
end L2
set_option maxHeartbeats 4000000
namespace My
open PySem L2
local macro_rules | `(tactic| walk_at "same") => `(tactic| first
 | exact az.refl _
 | assumption
 | (refine' az.trans ?m ?s; (case s => assumption); (case m => walk_at "same")))
local macro_rules | `(tactic| walk_at "at") => `(tactic| first
 | assumption
 | exact ay
 | (refine' az.at ?s ?m; (case s => assumption); (case m => walk_at "at")))
local macro_rules | `(tactic| walk_at "dat") => `(tactic| first
 | exact Dv.int _
 | exact Dv.a0
 | exact Dv.bl _
 | exact Dv.str _
 | assumption
 | (refine' Dv.keeps ?s ?m; (case s => assumption); (case m => walk_at "dat")))
local macro_rules | `(tactic| walk_at "ins") => `(tactic| first
 | assumption
 | (refine' sS.keeps ?s ?m; (case s => assumption); (case m => walk_at "ins")))
local macro_rules | `(tactic| walk_at "dats") => `(tactic| first
 | exact cu.nil
 | (refine' cu.cons ?m ?s; (case m => walk_at "dat"); (case s => walk_at "dats"))
 | assumption
 | (refine' cu.keeps ?s ?m; (case s => assumption); (case m => walk_at "dats")))
local macro_rules | `(tactic| walk_at "sql") => `(tactic| first
 | assumption
 | (refine' az.seq ?s ?m; (case s => assumption); (case m => walk_at "sql")))
local macro_rules | `(tactic| walk_at "isq") => `(tactic| first
 | (refine' Or.inl ?m; case m => walk_at "dat")
 | (refine' Or.inr ?m; case m => walk_at "dat"))
set_option hygiene false in
local macro_rules | `(tactic| walk_at "side") => `(tactic| first
 | omega
 | assumption
 | exact (by decide)
 | exact DK (by omega) (by omega)
 | exact Ej ⟨by omega, by omega⟩ ⟨by omega, by omega⟩
 | exact ⟨by decide, by decide, by decide⟩)
set_option hygiene false in
local macro_rules | `(tactic| walk_at "use") => `(tactic| fail)
set_option hygiene false in
local macro_rules | `(tactic| walk_at "lk") => `(tactic| fail)
set_option hygiene false in
local macro_rules | `(tactic| walk_at "put") => `(tactic| fail)
set_option hygiene false in
local macro_rules | `(tactic| walk_at "fin") => `(tactic| fail)
set_option hygiene false in
local macro_rules | `(tactic| walk_at "wds") => `(tactic| first
 | with_reducible refine pK (ws := [_]) rfl ?_
 | with_reducible refine pK (ws := [_, _]) rfl ?_
 | with_reducible refine pK (ws := [_, _, _]) rfl ?_
 | with_reducible refine pK (ws := [_, _, _, _]) rfl ?_
 | with_reducible refine pK (ws := [_, _, _, _, _]) rfl ?_
 | with_reducible refine pK (ws := [_, _, _, _, _, _]) rfl ?_
 | with_reducible refine pK (ws := []) rfl ?_)
set_option hygiene false in
local macro_rules | `(tactic| walk_at "mks") => `(tactic| first
 | fail)
local macro_rules | `(tactic| walk_at "br") => `(tactic| ((with_reducible refine Du (fun hb => ?_) (fun hb => ?_)) <;> (try simp only [id, decide_eq_true_eq, decide_eq_false_iff_not, Bool.not_eq_true', Bool.not_eq_false', Bool.not_true, Bool.not_false, V.int.injEq, Bool.true_eq_false, Bool.false_eq_true, reduceCtorEq, decide_true, decide_false, not_true, not_false_iff, PyData.eqv, PyData.eqvAll, Bool.and_eq_true, Bool.and_eq_false_iff, Bool.or_eq_true, Bool.or_eq_false_iff, beq_iff_eq, beq_eq_false_iff_ne, ne_eq, bne_iff_ne, Bool.and_true, Bool.and_false, Bool.and_self, beq_self_eq_true, isInt, isBool, isStr, C9, isTup, DQ, List.length_cons, List.length_nil] at hb) <;> (try (exfalso; omega)) <;> (try (exfalso; (refine' FQ hb ?d); (case d => walk_at "dat")))))
local macro_rules | `(tactic| walk_at "rd1") => `(tactic| first
 | with_reducible refine yZ ?_
 | with_reducible refine DU ?_
 | with_reducible refine Eb ?_
 | with_reducible refine AO ?_
 | with_reducible refine Ep ?_
 | ((with_reducible refine' Er ?e ?_); case e => exact rfl)
 | with_reducible refine KP ?_
 | with_reducible refine Gv ?_
 | with_reducible refine Gd ?_
 | with_reducible refine Gn ?_
 | ((with_reducible refine' Bd ?e1 ?e2 ?_); (case e1 => exact ⟨by decide, by decide, by decide⟩); (case e2 => ((conv => lhs; simp only [Int.reduceToNat]) <;> exact rfl)))
 | ((with_reducible refine' HH ?e ?_); case e => walk_at "side")
 | with_reducible refine K7 ?_
 | with_reducible refine Bn ?_
 | with_reducible refine DL ?_
 | with_reducible refine wO ?_
 | with_reducible refine Fd ?_
 | with_reducible refine AI ?_
 | with_reducible refine B9 ?_
 | with_reducible refine FA ?_
 | with_reducible refine Ec ?_
 | with_reducible refine Ac ?_
 | with_reducible refine BE ?_
 | with_reducible refine Hl ?_
 | with_reducible refine Bj ?_
 | with_reducible refine uv ?_
 | with_reducible refine sG ?_
 | walk_at "br"
 | with_reducible refine zq ?_
 | ((with_reducible refine' De ?e ?_); case e => exact rfl)
 | ((with_reducible refine' vm ?e1 ?e2 ?e3 ?e4 ?e5 ?_); (case e1 => walk_at "dat"); (case e2 => walk_at "dat"); (case e3 => first | rfl | assumption); (case e4 => first | rfl | assumption); (case e5 => first | exact Nat.le_of_ble_eq_true rfl | assumption))
 | ((with_reducible refine' rk ?e1 ?e2 ?_); (case e1 => walk_at "isq"); (case e2 => exact rfl))
 | ((with_reducible refine' vp ?e ?_); case e => walk_at "isq")
 | ((with_reducible refine' zI ?e ?_); case e => walk_at "sql")
 | ((with_reducible refine' Bo ?e (fun _ _ => ?_)); case e => walk_at "side")
 | with_reducible refine GK ?_
 | with_reducible refine zA ?_
 | ((with_reducible refine' xa ?e1 ?e2 ?e3 ?e4 ?e5 ?_); (case e1 => walk_at "at"); (case e2 => assumption); (case e3 => assumption); (case e4 => exact wU rfl); (case e5 => walk_at "put"))
 | ((with_reducible refine' AK ?e1 ?e2 ?e3 ?e4 ?_); (case e1 => walk_at "ins"); (case e2 => assumption); (case e3 => assumption); (case e4 => walk_at "lk"))
 | ((with_reducible refine' wV ?e1 ?e2 ?_); (case e1 => walk_at "ins"); (case e2 => walk_at "lk"))
 | ((with_reducible refine' pT ?e ?_); case e => walk_at "dat")
 | with_reducible refine xR ?_
 | with_reducible refine wc ?_
 | with_reducible refine nr ?_
 | with_reducible refine zX ?_
 | ((with_reducible refine' zu ?e1 ?e2 (fun _ _ _ _ => ?_)); (case e1 => exact yI rfl); (case e2 => walk_at "dats"))
 | with_reducible refine Ao ?_
 | with_reducible refine BA ?_
 | with_reducible refine C7 ?_
 | with_reducible refine v7 ?_
 | ((with_reducible refine' zR ?e1 ?e2 ?_); (case e1 => omega); (case e2 => omega))
 | with_reducible refine Eh ?_
 | with_reducible refine wG ?_
 | with_reducible refine vZ ?_
 | walk_at "wds"
 | walk_at "mks"
 | walk_at "use"
 | walk_at "fin")
local macro_rules | `(tactic| walk_at "lat") => `(tactic| first
 | assumption
 | (refine' cM.keeps ?s ?m; (case s => assumption); (case m => walk_at "lat"))
 | (refine' cM.mv ?s ?n ?m; (case s => assumption); (case n => walk_at "nin"); (case m => walk_at "lat"))
 | fail)
local macro_rules | `(tactic| walk_at "nin") => `(tactic| first
 | (refine' uK ?n1; (case n1 => walk_at "ne"))
 | fail)
local macro_rules | `(tactic| walk_at "ne") => `(tactic| first
 | assumption
 | (refine Ne.symm ?_; assumption)
 | (refine' cM.ne ?h ?n; (case n => assumption); (case h => walk_at "lat"))
 | (refine' Ne.symm (cM.ne ?h ?n); (case n => assumption); (case h => walk_at "lat"))
 | fail)
local macro_rules | `(tactic| walk_at "dla") => `(tactic| first
 | assumption
 | (refine' hO.keeps ?s ?m; (case s => assumption); (case m => walk_at "dla"))
 | (refine' hO.mv ?s ?n ?m; (case s => assumption); (case n => walk_at "nin"); (case m => walk_at "dla"))
 | fail)
local macro_rules | `(tactic| walk_at "ne") => `(tactic| first
 | (refine' hO.ne ?h ?n; (case n => assumption); (case h => walk_at "dla"))
 | (refine' Ne.symm (hO.ne ?h ?n); (case n => assumption); (case h => walk_at "dla"))
 | fail)
local macro_rules | `(tactic| walk_at "imm") => `(tactic| first
 | rfl
 | assumption
 | exact dE (fun _ => rfl) _
 | (refine' cM.mS ?h; (case h => assumption))
 | fail)
local macro_rules | `(tactic| walk_at "dm") => `(tactic| first
 | exact fun _ h => h
 | (refine' uy ?a ?b; (case b => first | (refine' az.KZ ?c; (case c => assumption)) | (refine' Mv.dm ?c; (case c => assumption)) | fail); (case a => walk_at "dm"))
 | fail)
local macro_rules | `(tactic| walk_at "none") => `(tactic| first
 | assumption
 | (refine' Bg ?s ?m; (case m => assumption); (case s => walk_at "dm"))
 | fail)
local macro_rules | `(tactic| walk_at "same") => `(tactic| first
 | (refine' Mv.yn ?s ?m ?n; (case m => assumption); (case s => walk_at "same"); (case n => walk_at "none"))
 | fail)
local macro_rules | `(tactic| walk_at "mv") => `(tactic| first
 | exact Mv.refl
 | assumption
 | (refine' Mv.g5 ?m ?s; (case s => assumption); (case m => walk_at "mv"))
 | (refine' Mv.step ?m ?s ?h; (case s => assumption); (case m => walk_at "mv"); (case h => walk_at "ours"))
 | fail)
set_option hygiene false in
local macro_rules | `(tactic| walk_at "ours") => `(tactic| first
 | fail)
local macro_rules | `(tactic| walk_at "dat") => `(tactic| first
 | (refine' cM.dv ?m; (case m => walk_at "lat"))
 | fail)
local macro_rules | `(tactic| walk_at "dats") => `(tactic| first
 | (refine' Mv.yY ?s ?i ?m; (case s => assumption); (case i => walk_at "imm"); (case m => walk_at "dats"))
 | fail)
set_option hygiene false in
local macro_rules | `(tactic| walk_at "len") => `(tactic| first
 | (simp only [List.length_map, List.length_append, List.length_cons, List.length_nil]; omega)
 | omega
 | fail)
local macro_rules | `(tactic| walk_at "rd1") => `(tactic| first
 | ((with_reducible refine' Cd ?e ?_); case e => walk_at "dat")
 | with_reducible refine Fi ?_
 | with_reducible refine zi (fun _ _ _ _ _ => ?_)
 | with_reducible refine vW ?_
 | with_reducible refine wL ?_
 | with_reducible refine A5 ?_
 | with_reducible refine xk ?_
 | ((with_reducible refine' Ag ?e1 ?e2 ?e3 ?e4 (fun _ _ _ => ?_)); (case e1 => walk_at "dla"); (case e3 => walk_at "dat"); (case e2 => walk_at "len"); (case e4 => walk_at "imm"))
 | with_reducible refine we ?_
 | with_reducible refine FZ ?_
 | ((with_reducible refine' CG ?e ?_); case e => walk_at "lat")
 | ((with_reducible refine' CP ?e1 ?e2 ?e3 ?e4 (fun _ _ _ => ?_)); (case e1 => walk_at "lat"); (case e3 => walk_at "dat"); (case e2 => walk_at "len"); (case e4 => walk_at "imm"))
 | ((with_reducible refine' AA ?e1 ?e2 ?e3 (fun _ _ _ _ _ => ?_)); (case e1 => exact yI rfl); (case e2 => walk_at "dats"); (case e3 => exact rfl))
 | with_reducible refine Fz ?_
 | with_reducible refine zU ?_
 | with_reducible refine w9 ?_
 | with_reducible refine CK ?_
 | ((with_reducible refine' D8 ?e ?_); case e => walk_at "dat")
 | ((with_reducible refine' AU ?e ?_); case e => walk_at "dat")
 | ((with_reducible refine' vE ?e ?_); case e => walk_at "len")
 | ((with_reducible refine' Af ?e ?_); case e => walk_at "dat")
 | ((with_reducible refine' rk ?e1 ?e2 ?_); (case e1 => walk_at "isq"); (case e2 => first | exact BJ | (refine' tS ?a ?b; (case a => omega); (case b => walk_at "len")) | fail))
 | fail)
set_option hygiene false in
local macro_rules | `(tactic| walk_at "rd1") => `(tactic| first
 | fail)
local macro_rules | `(tactic| walk_at "rd1") => `(tactic| first
 | ((with_reducible refine' xH ?e1 ?e2 (fun _ _ _ _ _ _ _ _ => ?_)); (case e1 => walk_at "dat"); (case e2 => walk_at "len"))
 | fail)
set_option hygiene false in
local macro_rules | `(tactic| walk_at "rd1") => `(tactic| first
 | fail)
set_option hygiene false in
local macro_rules | `(tactic| walk_at "rd1") => `(tactic| first
 | fail)
set_option hygiene false in
local macro_rules | `(tactic| walk_at "rd1") => `(tactic| first
 | fail)
set_option hygiene false in
local macro_rules | `(tactic| walk_at "rd1") => `(tactic| first
 | fail)
set_option hygiene false in
local macro_rules | `(tactic| walk_at "rd1") => `(tactic| first
 | fail)
set_option hygiene false in
local macro_rules | `(tactic| walk_at "rd1") => `(tactic| first
 | with_reducible refine AH ?_
 | fail)
def top (i : Nat) : Stmt := PySem.Challenge.pw_wakefew_k27_whole_only_marks_count.main.body.getD i (.Pass ⟨0, 0, 0, 0⟩)
set_option hygiene false in
local macro_rules | `(tactic| walk_at "scp") => `(tactic| exact ⟨rfl, rfl, rfl, by decide +kernel, rfl, by decide +kernel, by decide +kernel⟩)
abbrev cZ : Stmt := inClass (top 8) 0
theorem iV : aG ["self"] ["self"] (au cZ) := by walk_at "scp"
abbrev gb : Stmt := inClass (top 8) 1
theorem lL : aG ["self", "name", "above"] ["self", "name", "above"] (au gb) := by walk_at "scp"
abbrev eO : Stmt := inClass (top 8) 3
theorem gL : aG ["self", "name", "ahead"] ["self", "name"] (au eO) := by walk_at "scp"
abbrev dH : Stmt := inClass (top 8) 4
theorem gS : aG ["self", "name", "ahead"] ["self", "name"] (au dH) := by walk_at "scp"
abbrev fV : Stmt := inClass (top 8) 5
theorem fA : aG ["self", "name", "gone", "other"] ["self", "name"] (au fV) := by walk_at "scp"
abbrev de : Stmt := inClass (top 8) 6
theorem j7 : aG ["self", "name"] ["self", "name"] (au de) := by walk_at "scp"
abbrev d8 : Stmt := inClass (top 8) 7
theorem jG : aG ["self", "name"] ["self", "name"] (au d8) := by walk_at "scp"
abbrev eA : Stmt := inClass (top 8) 8
theorem dY : aG ["self", "name", "names"] ["self", "name"] (au eA) := by walk_at "scp"
abbrev cS : Stmt := inClass (top 8) 9
theorem jM : aG ["self", "name"] ["self", "name"] (au cS) := by walk_at "scp"
abbrev dZ : Stmt := inClass (top 8) 10
theorem jO : aG ["self"] ["self"] (au dZ) := by walk_at "scp"
abbrev cq : Stmt := inClass (top 8) 11
theorem gm : aG ["self", "name"] ["self", "name"] (au cq) := by walk_at "scp"
abbrev c4 : Stmt := inClass (top 8) 12
theorem iX : aG ["self", "name"] ["self", "name"] (au c4) := by walk_at "scp"
abbrev bD : Stmt := inClass (top 8) 13
theorem f6 : aG ["self", "name"] ["self", "name"] (au bD) := by walk_at "scp"
abbrev dU : Stmt := inClass (top 8) 14
theorem jP : aG ["self", "name"] ["self", "name"] (au dU) := by walk_at "scp"
abbrev eE : Stmt := top 10
theorem kd : aG ["_law_script", "_law_k"] ["_law_script", "_law_k"] (au eE) := by walk_at "scp"
abbrev gu : Stmt := top 11
theorem fz : aG ["_law_cell", "_law_k", "_law_number"] ["_law_cell", "_law_k"] (au gu) := by walk_at "scp"
abbrev fS : Stmt := top 12
theorem dI : aG ["_law_cell", "_law_many", "_law_way", "_law_found", "_law_k"] ["_law_cell", "_law_many", "_law_way"] (au fS) := by walk_at "scp"
abbrev g0 : Stmt := top 13
theorem cL : aG ["_law_draw", "_law_name_here", "_law_rest", "_law_k"] ["_law_draw"] (au g0) := by walk_at "scp"
abbrev gU : Stmt := top 14
theorem dz : aG ["_law_k", "_law_style", "_law_names", "_law_draw", "_law_some", "_law_name_here"] ["_law_k", "_law_style", "_law_names", "_law_draw"] (au gU) := by walk_at "scp"
abbrev fP : Stmt := top 15
theorem fv : aG ["_law_told", "_law_names", "_law_draw", "_law_above_here"] ["_law_told", "_law_names", "_law_draw"] (au fP) := by walk_at "scp"
abbrev fu : Stmt := top 16
theorem kT : aG ["_law_told", "_law_name_here", "_law_draw"] ["_law_told", "_law_name_here", "_law_draw"] (au fu) := by walk_at "scp"
abbrev g6 : Stmt := top 17
theorem gk : aG ["_law_one", "_law_other", "_law_rows", "_law_name_here"] ["_law_one", "_law_other"] (au g6) := by walk_at "scp"
abbrev c7 : Stmt := top 18
theorem aJ : aG ["_law_told", "_law_rows", "_law_made", "_law_name_here", "_law_above_here"] ["_law_told"] (au c7) := by walk_at "scp"
abbrev uG : Stmt := top 19
theorem cU : aG ["_law_script", "_law_style", "_law_cell", "_law_told", "_law_names", "_law_k", "_law_number", "_law_draws_here", "_law_name_here", "_law_above_here", "_law_made", "_law_found"] ["_law_script"] (au uG) := by walk_at "scp"
abbrev jX : Pos := ⟨79, 41, 79, 81⟩
abbrev jJ : Str := ("Groups.all_of" ++ ".<locals>.") ++ "<lambda>"
theorem fb : ¬ (("above_of" : Str) = "marks") := by decide +kernel
theorem e9 : ¬ (("marks" : Str) = "above_of") := by decide +kernel
theorem dN : ¬ (("__init__" : Str) = "above_of") := by decide +kernel
theorem fh : ¬ (("__init__" : Str) = "marks") := by decide +kernel
theorem gA : ¬ (("add" : Str) = "above_of") := by decide +kernel
theorem jt : ¬ (("add" : Str) = "marks") := by decide +kernel
theorem gH : ¬ (("has" : Str) = "above_of") := by decide +kernel
theorem jg : ¬ (("has" : Str) = "marks") := by decide +kernel
theorem eX : ¬ (("sleep" : Str) = "above_of") := by decide +kernel
theorem hG : ¬ (("sleep" : Str) = "marks") := by decide +kernel
theorem fK : ¬ (("wake" : Str) = "above_of") := by decide +kernel
theorem iw : ¬ (("wake" : Str) = "marks") := by decide +kernel
theorem gF : ¬ (("end" : Str) = "above_of") := by decide +kernel
theorem jm : ¬ (("end" : Str) = "marks") := by decide +kernel
theorem e6 : ¬ (("awake" : Str) = "above_of") := by decide +kernel
theorem gZ : ¬ (("awake" : Str) = "marks") := by decide +kernel
theorem eU : ¬ (("marked" : Str) = "above_of") := by decide +kernel
theorem gK : ¬ (("marked" : Str) = "marks") := by decide +kernel
theorem eZ : ¬ (("chain" : Str) = "above_of") := by decide +kernel
theorem gO : ¬ (("chain" : Str) = "marks") := by decide +kernel
theorem eC : ¬ (("within" : Str) = "above_of") := by decide +kernel
theorem gy : ¬ (("within" : Str) = "marks") := by decide +kernel
theorem eW : ¬ (("all_of" : Str) = "above_of") := by decide +kernel
theorem gx : ¬ (("all_of" : Str) = "marks") := by decide +kernel
theorem cN : ¬ (("check_stands" : Str) = "above_of") := by decide +kernel
theorem dC : ¬ (("check_stands" : Str) = "marks") := by decide +kernel
theorem dO : ¬ (("depth_of" : Str) = "above_of") := by decide +kernel
theorem fq : ¬ (("depth_of" : Str) = "marks") := by decide +kernel
theorem cP : ¬ (("awake_within" : Str) = "above_of") := by decide +kernel
theorem dB : ¬ (("awake_within" : Str) = "marks") := by decide +kernel
theorem eT : ¬ (("unmark" : Str) = "above_of") := by decide +kernel
theorem gC : ¬ (("unmark" : Str) = "marks") := by decide +kernel
set_option hygiene false in
local macro_rules | `(tactic| walk_at "lk") => `(tactic| first
 | assumption
 | (rw [j3]; ((conv => lhs; simp only [look, reduceIte, fb, e9, dN, fh, gA, jt, gH, jg, eX, hG, fK, iw, gF, jm, e6, gZ, eU, gK, eZ, gO, eC, gy, eW, gx, cN, dC, dO, fq, cP, dB, eT, gC]) <;> exact rfl)))
set_option hygiene false in
local macro_rules | `(tactic| walk_at "put") => `(tactic| ((conv => lhs; simp only [fF, reduceIte, fb, e9, dN, fh, gA, jt, gH, jg, eX, hG, fK, iw, gF, jm, e6, gZ, eU, gK, eZ, gO, eC, gy, eW, gx, cN, dC, dO, fq, cP, dB, eT, gC]) <;> exact rfl))
structure lP (K : PySem.W.Frag) (x q : Str) (s : Stmt) (d : Value) (f : Addr) : Prop where
 a : PySem.W.nsIn K mainGlobals x = some (some (.ref f))
 l : ∃ fd, cJ K x q s f d fd
 k : PySem.W.keepIn K (.ref f) = true
structure iY (K : PySem.W.Frag) (C : Addr) (x q : Str) (s : Stmt) (d : Value) (f : Addr) : Prop where
 a : PySem.W.findIn K (.ref C) x = some (some (.ref f))
 l : ∃ fd, cJ K x q s f d fd
 k : PySem.W.keepIn K (.ref f) = true
 i : PySem.W.isFn K (.ref f) = true
structure Gk (K : PySem.W.Frag) (C : Addr) : Prop where
 pg : PySem.W.plainGet K C Str.empty = true
 hd : PySem.W.hasDictIn K C = true
 po : PySem.W.plainOver K C = true
 sa : PySem.W.findIn K (.ref C) "__setattr__" = some (some (.builtin "object.__setattr__"))
 t1 : PySem.W.findIn K (.ref C) "__class__" = some (some (.builtin "object.__class__"))
 t2 : PySem.W.mroIn K C (.type "object") = some true
 t3 : PySem.W.typeIn K (.ref C) = some (.type "type")
theorem xN {K : PySem.W.Frag} {t : Addr} {xs : Array Value} {n : Nat} {d : Option Addr} {z : Array (Option Value)} {c : Value} (l : K.lookup t = some ⟨c, d, .seq xs n, z⟩) : Ar K t xs := ⟨⟨_, _, l, rfl⟩⟩
set_option genSizeOf false in
set_option genInjectivity false in
structure Ad where
 aP : Addr
 eG : FuncData
 bN : Addr
 ip : FuncData
 cg : Addr
 bz : Addr
 gG : FuncData
 bP : Addr
 g8 : FuncData
 bX : Addr
 iq : FuncData
 bx : Addr
 gE : FuncData
 bb : Addr
 fJ : FuncData
 bC : Addr
 gD : FuncData
 bh : Addr
 fM : FuncData
 aQ : Addr
 dG : FuncData
 bS : Addr
 ag : Addr
 aD : Addr
 c0 : FuncData
 aN : Addr
 eI : FuncData
 aE : Addr
 c5 : FuncData
 a9 : Addr
 fH : FuncData
 a8 : Addr
 gJ : FuncData
 bM : Addr
 iH : FuncData
 bK : Addr
 iA : FuncData
 bW : Addr
 ja : FuncData
 bV : Addr
 jk : FuncData
 bL : Addr
 iC : FuncData
 bp : Addr
 g7 : FuncData
 bU : Addr
 jx : FuncData
 aH : Addr
 eR : FuncData
 mn : Addr
 mH : FuncData
 ae : Addr
 tabs : List Addr
 dj : Tok
structure Txt (K : PySem.W.Frag) (mg : Str -> Option Value) (a : Ad) : Prop where
 dt : cJ K "__init__" "Groups.__init__" cZ a.aP (.none) a.eG
 eu : cJ K "add" "Groups.add" gb a.bN (.ref a.cg) a.ip
 fX : Ar K a.cg #[.none]
 eP : cJ K "sleep" "Groups.sleep" eO a.bz (.none) a.gG
 ft : cJ K "wake" "Groups.wake" dH a.bP (.none) a.g8
 gg : cJ K "end" "Groups.end" fV a.bX (.none) a.iq
 eV : cJ K "awake" "Groups.awake" de a.bx (.none) a.gE
 dW : cJ K "marked" "Groups.marked" d8 a.bb (.none) a.fJ
 eN : cJ K "chain" "Groups.chain" eA a.bC (.none) a.gD
 d0 : cJ K "within" "Groups.within" cS a.bh (.none) a.fM
 d3 : cJ K "all_of" "Groups.all_of" dZ a.aQ (.none) a.dG
 bT : Dc K a.dG a.bS a.ag
 cK : a.ag ∈ a.tabs
 cn : cJ K "check_stands" "Groups.check_stands" cq a.aD (.none) a.c0
 dr : cJ K "depth_of" "Groups.depth_of" c4 a.aN (.none) a.eI
 cm : cJ K "awake_within" "Groups.awake_within" bD a.aE (.none) a.c5
 dX : cJ K "unmark" "Groups.unmark" dU a.a9 (.none) a.fH
 eF : cJ K "_law_cell_at" "_law_cell_at" eE a.a8 (.none) a.gJ
 d5 : PySem.W.keepIn K (.ref a.a8) = true
 d6 : mg "_law_cell_at" = some (.ref a.a8)
 fY : cJ K "_law_drawn" "_law_drawn" gu a.bM (.none) a.iH
 iI : PySem.W.keepIn K (.ref a.bM) = true
 iz : mg "_law_drawn" = some (.ref a.bM)
 fR : cJ K "_law_draws" "_law_draws" fS a.bK (.none) a.iA
 iE : PySem.W.keepIn K (.ref a.bK) = true
 iy : mg "_law_draws" = some (.ref a.bK)
 gT : cJ K "_law_word" "_law_word" g0 a.bW (.none) a.ja
 je : PySem.W.keepIn K (.ref a.bW) = true
 jw : mg "_law_word" = some (.ref a.bW)
 hX : cJ K "_law_name" "_law_name" gU a.bV (.none) a.jk
 jq : PySem.W.keepIn K (.ref a.bV) = true
 jo : mg "_law_name" = some (.ref a.bV)
 f9 : cJ K "_law_above" "_law_above" fP a.bL (.none) a.iC
 iB : PySem.W.keepIn K (.ref a.bL) = true
 iJ : mg "_law_above" = some (.ref a.bL)
 fw : cJ K "_law_marked" "_law_marked" fu a.bp (.none) a.g7
 dq : PySem.W.keepIn K (.ref a.bp) = true
 dg : mg "_law_marked" = some (.ref a.bp)
 gW : cJ K "_law_same" "_law_same" g6 a.bU (.none) a.jx
 ej : PySem.W.keepIn K (.ref a.bU) = true
 et : mg "_law_same" = some (.ref a.bU)
 dw : cJ K "_law_made_again" "_law_made_again" c7 a.aH (.none) a.eR
 eJ : PySem.W.keepIn K (.ref a.aH) = true
 eQ : mg "_law_made_again" = some (.ref a.aH)
 uD : cJ K "law" "law" uG a.mn (.none) a.mH
 uO : mg "law" = some (.ref a.mn)
 jS : mg "Groups" = some (.ref a.ae)
 ah : lO K a.ae
 av : di K a.ae "above_of"
 aC : di K a.ae "marks"
 lj : Mk K a.ae a.aP
 ed : Meth K a.ae "add" a.bN
 eM : Meth K a.ae "sleep" a.bz
 iG : Meth K a.ae "wake" a.bP
 en : Meth K a.ae "end" a.bX
 cH : Meth K a.ae "awake" a.bx
 bI : Meth K a.ae "marked" a.bb
 aO : Meth K a.ae "chain" a.bC
 b9 : Meth K a.ae "within" a.bh
 bf : Meth K a.ae "all_of" a.aQ
 aW : Meth K a.ae "check_stands" a.aD
 c3 : Meth K a.ae "depth_of" a.aN
 ck : Meth K a.ae "awake_within" a.aE
 d7 : Meth K a.ae "unmark" a.a9
 vV : ∀ b ∈ a.tabs, b = a.ag
 iD : mg "MOST_DEPTH" = some (.int 8 a.dj)
 m8 : mg "any" = none
 i9 : mg "bool" = none
 eo : mg "enumerate" = none
 cO : mg "isinstance" = none
 eB : mg "len" = none
 hV : mg "range" = none
 eY : mg "reversed" = none
 fG : mg "sorted" = none
theorem y8 {K : PySem.W.Frag} {h : Heap} {mg : Str -> Option Value} {aP bN cg bz bP bX bx bb bC bh aQ bS ag aD aN aE a9 a8 bM bK bW bV bL bp bU aH mn ae : Addr} {dj : Tok} {tabs : List Addr}  (X : K.In h) (G : h.Ns mainGlobals mg)
 (rR : PySem.W.nsIn K mainGlobals "Groups" = some (some (.ref ae)))
 (cz : iY K ae "__init__" "Groups.__init__" cZ (.none) aP)
 (c9 : iY K ae "add" "Groups.add" gb (.ref cg) bN)
 (nA : Ar K cg #[.none])
 (cD : iY K ae "sleep" "Groups.sleep" eO (.none) bz)
 (cQ : iY K ae "wake" "Groups.wake" dH (.none) bP)
 (c6 : iY K ae "end" "Groups.end" fV (.none) bX)
 (cE : iY K ae "awake" "Groups.awake" de (.none) bx)
 (cf : iY K ae "marked" "Groups.marked" d8 (.none) bb)
 (cG : iY K ae "chain" "Groups.chain" eA (.none) bC)
 (bZ : iY K ae "within" "Groups.within" cS (.none) bh)
 (bJ : iY K ae "all_of" "Groups.all_of" dZ (.none) aQ)
 (jW : Bm K aQ bS ag)
 (cK : ag ∈ tabs)
 (aZ : iY K ae "check_stands" "Groups.check_stands" cq (.none) aD)
 (bO : iY K ae "depth_of" "Groups.depth_of" c4 (.none) aN)
 (aX : iY K ae "awake_within" "Groups.awake_within" bD (.none) aE)
 (b8 : iY K ae "unmark" "Groups.unmark" dU (.none) a9)
 (du : lP K "_law_cell_at" "_law_cell_at" eE (.none) a8)
 (er : lP K "_law_drawn" "_law_drawn" gu (.none) bM)
 (ef : lP K "_law_draws" "_law_draws" fS (.none) bK)
 (fj : lP K "_law_word" "_law_word" g0 (.none) bW)
 (fm : lP K "_law_name" "_law_name" gU (.none) bV)
 (eh : lP K "_law_above" "_law_above" fP (.none) bL)
 (dJ : lP K "_law_marked" "_law_marked" fu (.none) bp)
 (e8 : lP K "_law_same" "_law_same" g6 (.none) bU)
 (cA : lP K "_law_made_again" "_law_made_again" c7 (.none) aH)
 (vF : lP K "law" "law" uG (.none) mn)
 (ah : Gk K ae)
 (av : PySem.W.findIn K (.ref ae) "above_of" = some none)
 (aC : PySem.W.findIn K (.ref ae) "marks" = some none)
 (rX : PySem.W.makesIn K ae = true)
 (sv : PySem.W.keepIn K (.ref ae) = true)
 (vV : ∀ b ∈ tabs, b = ag)
 (lM : PySem.W.nsIn K mainGlobals "MOST_DEPTH" = some (some (.int 8 dj)))
 (m8 : PySem.W.nsIn K mainGlobals "any" = some none)
 (i9 : PySem.W.nsIn K mainGlobals "bool" = some none)
 (eo : PySem.W.nsIn K mainGlobals "enumerate" = some none)
 (cO : PySem.W.nsIn K mainGlobals "isinstance" = some none)
 (eB : PySem.W.nsIn K mainGlobals "len" = some none)
 (hV : PySem.W.nsIn K mainGlobals "range" = some none)
 (eY : PySem.W.nsIn K mainGlobals "reversed" = some none)
 (fG : PySem.W.nsIn K mainGlobals "sorted" = some none)
 : ∃ a : Ad, a.tabs = tabs /\ Txt K mg a :=
 ⟨⟨aP, cz.l.choose, bN, c9.l.choose, cg, bz, cD.l.choose, bP, cQ.l.choose, bX, c6.l.choose, bx, cE.l.choose, bb, cf.l.choose, bC, cG.l.choose, bh, bZ.l.choose, aQ, bJ.l.choose, bS, ag, aD, aZ.l.choose, aN, bO.l.choose, aE, aX.l.choose, a9, b8.l.choose, a8, du.l.choose, bM, er.l.choose, bK, ef.l.choose, bW, fj.l.choose, bV, fm.l.choose, bL, eh.l.choose, bp, dJ.l.choose, bU, e8.l.choose, aH, cA.l.choose, mn, vF.l.choose, ae, tabs, dj⟩, rfl, {
   dt := cz.l.choose_spec,
   eu := c9.l.choose_spec,
   fX := nA,
   eP := cD.l.choose_spec,
   ft := cQ.l.choose_spec,
   gg := c6.l.choose_spec,
   eV := cE.l.choose_spec,
   dW := cf.l.choose_spec,
   eN := cG.l.choose_spec,
   d0 := bZ.l.choose_spec,
   d3 := bJ.l.choose_spec,
   bT := v8 bJ.l.choose_spec jW,
   cK := cK,
   cn := aZ.l.choose_spec,
   dr := bO.l.choose_spec,
   cm := aX.l.choose_spec,
   dX := b8.l.choose_spec,
   eF := du.l.choose_spec,
   d5 := du.k,
   d6 := PySem.W.mg_of X G du.a,
   fY := er.l.choose_spec,
   iI := er.k,
   iz := PySem.W.mg_of X G er.a,
   fR := ef.l.choose_spec,
   iE := ef.k,
   iy := PySem.W.mg_of X G ef.a,
   gT := fj.l.choose_spec,
   je := fj.k,
   jw := PySem.W.mg_of X G fj.a,
   hX := fm.l.choose_spec,
   jq := fm.k,
   jo := PySem.W.mg_of X G fm.a,
   f9 := eh.l.choose_spec,
   iB := eh.k,
   iJ := PySem.W.mg_of X G eh.a,
   fw := dJ.l.choose_spec,
   dq := dJ.k,
   dg := PySem.W.mg_of X G dJ.a,
   gW := e8.l.choose_spec,
   ej := e8.k,
   et := PySem.W.mg_of X G e8.a,
   dw := cA.l.choose_spec,
   eJ := cA.k,
   eQ := PySem.W.mg_of X G cA.a,
   uD := vF.l.choose_spec,
   uO := PySem.W.mg_of X G vF.a,
   jS := PySem.W.mg_of X G rR,
   ah := ⟨ah.pg, ah.hd, ah.po, ah.sa⟩,
   av := av,
   aC := aC,
   lj := ⟨rX, cz.a, cz.i, sv⟩,
   ed := ⟨c9.a, c9.i, c9.k⟩,
   eM := ⟨cD.a, cD.i, cD.k⟩,
   iG := ⟨cQ.a, cQ.i, cQ.k⟩,
   en := ⟨c6.a, c6.i, c6.k⟩,
   cH := ⟨cE.a, cE.i, cE.k⟩,
   bI := ⟨cf.a, cf.i, cf.k⟩,
   aO := ⟨cG.a, cG.i, cG.k⟩,
   b9 := ⟨bZ.a, bZ.i, bZ.k⟩,
   bf := ⟨bJ.a, bJ.i, bJ.k⟩,
   aW := ⟨aZ.a, aZ.i, aZ.k⟩,
   c3 := ⟨bO.a, bO.i, bO.k⟩,
   ck := ⟨aX.a, aX.i, aX.k⟩,
   d7 := ⟨b8.a, b8.i, b8.k⟩,
   vV := vV,
   iD := PySem.W.mg_of X G lM,
   m8 := PySem.W.mg_none_of X G m8,
   i9 := PySem.W.mg_none_of X G i9,
   eo := PySem.W.mg_none_of X G eo,
   cO := PySem.W.mg_none_of X G cO,
   eB := PySem.W.mg_none_of X G eB,
   hV := PySem.W.mg_none_of X G hV,
   eY := PySem.W.mg_none_of X G eY,
   fG := PySem.W.mg_none_of X G fG
 }⟩
inductive Chain (m : List (Str × PyData)) : Str -> List Str -> Prop
 | top {n : Str} : bF m n = some .none -> Chain m n [n]
 | up {n b : Str} {c : List Str} : bF m n = some (.str b) -> Chain m b c -> Chain m n (n :: c)
theorem Chain.has {m : List (Str × PyData)} {n : Str} {c : List Str} (h : Chain m n c) : (bF m n).isSome = true := by
 cases h with
 | top e => rw [e]; rfl
 | up e _ => rw [e]; rfl
theorem Chain.all {m : List (Str × PyData)} {n : Str} {c : List Str} (h : Chain m n c) : ∀ o ∈ c, (bF m o).isSome = true := by
 induction h with
 | top e =>
   intro o ho
   rw [List.mem_singleton.mp ho, e]; rfl
 | up e _ ih =>
   intro o ho
   rcases List.mem_cons.mp ho with rfl | ho
   . rw [e]; rfl
   . exact ih o ho
theorem Chain.inj {m : List (Str × PyData)} {n : Str} {c d : List Str} (h : Chain m n c) (k : Chain m n d) : c = d := by
 induction h generalizing d with
 | top e =>
   cases k with
   | top _ => rfl
   | up e2 _ => rw [e] at e2; cases e2
 | up e _ ih =>
   cases k with
   | top e2 => rw [e] at e2; cases e2
   | up e2 k2 =>
     rw [e] at e2
     cases e2
     rw [ih k2]
structure o6 (C : Addr) (H : Hp) (v : V) (d1 d2 : Addr) (m ms : List (Str × PyData)) : Prop where
 ins : sS H v C [("above_of", .ref d1), ("marks", .ref d2)]
 ab : qG H d1 m
 e7 : qG H d2 ms
theorem o6.keeps {C : Addr} {H H' : Hp} {v : V} {d1 d2 : Addr} {m ms : List (Str × PyData)} (s : az H H') (h : o6 C H v d1 d2 m ms) : o6 C H' v d1 d2 m ms := ⟨h.ins.keeps s, h.ab.keeps s, h.e7.keeps s⟩
local macro_rules | `(tactic| walk_at "grd") => `(tactic| first
 | assumption
 | (refine' o6.keeps ?s ?m; (case s => assumption); (case m => walk_at "grd"))
 | fail)
local macro_rules | `(tactic| walk_at "drd") => `(tactic| first
 | assumption
 | (refine' qG.keeps ?s ?m; (case s => assumption); (case m => walk_at "drd"))
 | (refine' hO.rd ?m; (case m => walk_at "dla"))
 | fail)
local macro_rules | `(tactic| walk_at "rd1") => `(tactic| first
 | ((with_reducible refine' A2 ?e1 (fun _ _ => ?_)); (case e1 => walk_at "drd"))
 | ((with_reducible refine' x4 ?e1 ?e2 ?_); (case e1 => walk_at "drd"); (case e2 => assumption))
 | fail)
section
variable {P : Program} {w : World} {K : PySem.W.Frag} {mg : Str -> Option Value} {base : Heap} {a : Ad}
def jB (C : Addr) : Sp := fun vs H Q _ => ∃ v d1 d2 m ms n, vs = [v, .str n] /\ o6 C H v d1 d2 m ms /\ (bF m n).isSome = true /\ Q .a0 H
theorem vz {C : Addr} {H : Hp} {Q : VK} {E : XK} {v : V} {d1 d2 : Addr} {m ms : List (Str × PyData)} {n : Str} (h : o6 C H v d1 d2 m ms) (hn : (bF m n).isSome = true) (q : Q .a0 H) : jB C [v, .str n] H Q E := ⟨v, d1, d2, m, ms, n, rfl, h, hn, q⟩
theorem r9 (T : Txt K mg a) : bR P w K mg base ik 1 a.aD a.c0 ["self", "name"] (jB a.ae) := by
 have n1 := T.av; have n2 := T.aC; have cl := T.ah
 refine T.cn.ok gm (fun vs H Q E h => ?_) (fun dR A outer s H vs Q E hr h => ?_)
 . obtain ⟨_, _, _, _, _, _, rfl, _⟩ := h; rfl
 . obtain ⟨v, d1, d2, m, ms, n, rfl, hg, hn, q⟩ := h
   have hi := hg.ins; have ha := hg.ab
   refine ⟨_, (ao (cI (pz (rZ (kQ hr) (pv 1) (eS (pv 0) rfl)) rfl)
    (ao k9)
    aU)), ?_⟩
   repeat' (walk_at "rd1")
   . rename_i o e hb
     rw [e, hn] at hb
     cases hb
   . exact q
theorem fO (T : Txt K mg a) : iN P w K mg base 1 a.aD ["self", "name"] [] (jB a.ae) :=
 ⟨⟨_, _, r9 T, T.cn.binds fun _ _ _ _ _ _ => .all fun us hl => match us, hl with | [_, _], _ => rfl, .nil⟩⟩
def i6 (C : Addr) : Sp := fun vs H Q _ => ∃ v d1 d2 m ms n c, vs = [v, .str n] /\ o6 C H v d1 d2 m ms /\ Chain m n c /\ c.length <= 60 /\ ∀ q H', az H H' -> H q = none -> cM H' q (c.map PyData.str) -> Q (.ref q) H'
theorem rl {C : Addr} {H : Hp} {Q : VK} {E : XK} {v : V} {d1 d2 : Addr} {m ms : List (Str × PyData)} {n : Str} {c : List Str} (h : o6 C H v d1 d2 m ms) (hc : Chain m n c) (hl : c.length <= 60) (q : ∀ q H', az H H' -> H q = none -> cM H' q (c.map PyData.str) -> Q (.ref q) H') : i6 C [v, .str n] H Q E := ⟨v, d1, d2, m, ms, n, c, rfl, h, hc, hl, q⟩
local macro_rules | `(tactic| walk_at "use") => `(tactic| first
 | ((with_reducible refine' vz ?e1 ?e2 ?_); (case e1 => walk_at "grd"); (case e2 => first | assumption | exact Chain.has (by assumption)))
 | ((with_reducible refine' rl ?e1 ?e2 ?e3 (fun _ _ _ _ _ => ?_)); (case e1 => walk_at "grd"); (case e2 => assumption); (case e3 => assumption))
 | fail)
theorem tV (T : Txt K mg a) : bR P w K mg base ik 2 a.bC a.gD ["self", "name"] (i6 a.ae) := by
 have n1 := T.av; have n2 := T.aC; have cl := T.ah
 have bu := T.aW
 have bw := fO (P := P) (w := w) (base := base) T
 refine T.eN.ok dY (fun vs H Q E h => ?_) (fun dR A outer s H vs Q E hr h => ?_)
 . obtain ⟨_, _, _, _, _, _, _, rfl, _⟩ := h; rfl
 . obtain ⟨v, d1, d2, m, ms, n, c, rfl, hg, hc, gX, q⟩ := h
   have hi := hg.ins; have ha := hg.ab
   refine ⟨_, (aj (bE (aA (pv 0) cl bu bw (hr.mono (by decide)) (af (pv 1) ai)))
    (aj (aF (i := 2) dY.nd rfl (Or.inl rfl) (fc ai))
    (aj (vi PassesOwn.never (aI qW (pv 1) lC (a7 _))
     (aj (bE (l0 PySem.F.plainAttrs_list PySem.F.slot_list_append PySem.F.type_list_append ie (pv 2) (af (pv 1) ai)))
     (ao (aF (i := 1) dY.nd rfl (Or.inl rfl) (wu (kQ hr) (eS (pv 0) rfl) (pv 1) (fun _ _ => rfl))))))
    (ao (aL (pv 2)))))), ?_⟩
   repeat' (walk_at "rd1")
   rename_i p H1 lI kj o4
   refine x8 (fun r σ' H' => ∃ (acc rest : List Str) (x : V), σ' = [some v, some x, some (.ref p)] /\ az H H' /\ cM H' p (acc.map PyData.str) /\ acc ++ rest = c /\ r = rest.length /\ ((x = .a0 /\ rest = []) \/ ∃ n, x = .str n /\ Chain m n rest)) ⟨_, [], c, _, rfl, lI, o4, rfl, rfl, .inr ⟨n, rfl, hc⟩⟩ ?_
   rintro r σ' H' ⟨acc, rest, x, rfl, wX, CQ, yB, rfl, hx⟩
   have sg := hi.keeps wX
   have L1 := ha.keeps wX
   have HM : acc.length <= 60 := by rw [<- yB, List.length_append] at gX; omega
   rcases hx with ⟨rfl, rfl⟩ | ⟨n', rfl, sD⟩
   . repeat' (walk_at "rd1")
     rw [List.append_nil] at yB
     subst yB
     exact q _ _ wX kj CQ
   . cases sD with
     | top e =>
       repeat' (walk_at "rd1")
       rename_i hb H3 sZ DY
       have sm3 : az H H3 := by walk_at "same"
       have Hz := hi.keeps sm3
       have JN := ha.keeps sm3
       repeat' (walk_at "rd1")
       exact ⟨0, Nat.zero_lt_one, acc ++ [n'], [], .a0, rfl, sm3, by rw [List.map_append]; exact DY, by rw [List.append_nil]; exact yB, rfl, .inl ⟨rfl, rfl⟩⟩
     | @up _ b c2 e rC =>
       repeat' (walk_at "rd1")
       rename_i hb H3 sZ DY
       have sm3 : az H H3 := by walk_at "same"
       have Hz := hi.keeps sm3
       have JN := ha.keeps sm3
       repeat' (walk_at "rd1")
       exact ⟨c2.length, Nat.lt_succ_self _, acc ++ [n'], c2, .str b, rfl, sm3, by rw [List.map_append]; exact DY, by rw [List.append_assoc]; exact yB, rfl, .inr ⟨b, rfl, rC⟩⟩
theorem ez (T : Txt K mg a) : iN P w K mg base 2 a.bC ["self", "name"] [] (i6 a.ae) :=
 ⟨⟨_, _, tV T, T.eN.binds fun _ _ _ _ _ _ => .all fun us hl => match us, hl with | [_, _], _ => rfl, .nil⟩⟩
def jh (ms : List (Str × PyData)) (n : Str) : Bool := (bF ms n).isSome
def jV (C : Addr) : Sp := fun vs H Q _ => ∃ v d1 d2 m ms n, vs = [v, .str n] /\ o6 C H v d1 d2 m ms /\ (bF m n).isSome = true /\ Q (.bl (jh ms n)) H
theorem uB {C : Addr} {H : Hp} {Q : VK} {E : XK} {v : V} {d1 d2 : Addr} {m ms : List (Str × PyData)} {n : Str} (h : o6 C H v d1 d2 m ms) (hn : (bF m n).isSome = true) (q : Q (.bl (jh ms n)) H) : jV C [v, .str n] H Q E := ⟨v, d1, d2, m, ms, n, rfl, h, hn, q⟩
theorem sP (T : Txt K mg a) : bR P w K mg base ik 2 a.bb a.fJ ["self", "name"] (jV a.ae) := by
 have n1 := T.av; have n2 := T.aC; have cl := T.ah
 have bu := T.aW
 have bw := fO (P := P) (w := w) (base := base) T
 refine T.dW.ok jG (fun vs H Q E h => ?_) (fun dR A outer s H vs Q E hr h => ?_)
 . obtain ⟨_, _, _, _, _, _, rfl, _⟩ := h; rfl
 . obtain ⟨v, d1, d2, m, ms, n, rfl, hg, hn, q⟩ := h
   have hi := hg.ins; have ha := hg.e7
   refine ⟨_, (aj (bE (aA (pv 0) cl bu bw (hr.mono (by decide)) (af (pv 1) ai)))
    (ao (aL (Ah (pF (kQ hr) (pv 1) (eS (pv 0) rfl)) rfl)))), ?_⟩
   repeat' (walk_at "rd1")
   rename_i o e
   have e' : o.isSome = jh ms n := e
   rw [e']
   exact q
theorem iU (T : Txt K mg a) : iN P w K mg base 2 a.bb ["self", "name"] [] (jV a.ae) :=
 ⟨⟨_, _, sP T, T.dW.binds fun _ _ _ _ _ _ => .all fun us hl => match us, hl with | [_, _], _ => rfl, .nil⟩⟩
def k6 (C : Addr) : Sp := fun vs H Q _ => ∃ v d1 d2 m ms n c, vs = [v, .str n] /\ o6 C H v d1 d2 m ms /\ Chain m n c /\ c.length <= 60 /\ ∀ H', az H H' -> Q (.int (c.length : Nat)) H'
theorem wK {C : Addr} {H : Hp} {Q : VK} {E : XK} {v : V} {d1 d2 : Addr} {m ms : List (Str × PyData)} {n : Str} {c : List Str} (h : o6 C H v d1 d2 m ms) (hc : Chain m n c) (hl : c.length <= 60) (q : ∀ H', az H H' -> Q (.int (c.length : Nat)) H') : k6 C [v, .str n] H Q E := ⟨v, d1, d2, m, ms, n, c, rfl, h, hc, hl, q⟩
theorem ve (T : Txt K mg a) : bR P w K mg base ik 3 a.aN a.eI ["self", "name"] (k6 a.ae) := by
 have cl := T.ah
 have jj := T.aO
 have jv := ez (P := P) (w := w) (base := base) T
 refine T.dr.ok iX (fun vs H Q E h => ?_) (fun dR A outer s H vs Q E hr h => ?_)
 . obtain ⟨_, _, _, _, _, _, _, rfl, _⟩ := h; rfl
 . obtain ⟨v, d1, d2, m, ms, n, c, rfl, hg, hc, gX, q⟩ := h
   have hi := hg.ins
   refine ⟨_, (ao (aL (b7 cW rfl T.eB PySem.boot_len (af (aA (pv 0) cl jj jv (hr.mono (by decide)) (af (pv 1) ai)) ai)))), ?_⟩
   repeat' (walk_at "rd1")
   exact q _ (by walk_at "same")
theorem mC (T : Txt K mg a) : iN P w K mg base 3 a.aN ["self", "name"] [] (k6 a.ae) :=
 ⟨⟨_, _, ve T, T.dr.binds fun _ _ _ _ _ _ => .all fun us hl => match us, hl with | [_, _], _ => rfl, .nil⟩⟩
def nI : Nat -> List (Str × PyData) -> Str -> List Str
 | 0, _, n => [n]
 | f + 1, m, n => match bF m n with
   | some (.str b) => n :: nI f m b
   | _ => [n]
theorem Chain.fn {m : List (Str × PyData)} {n : Str} {c : List Str} (h : Chain m n c) : ∀ {f : Nat}, c.length <= f -> nI f m n = c := by
 induction h with
 | top e =>
   intro f hf
   cases f with
   | zero => rfl
   | succ f => simp [nI, e]
 | up e _ ih =>
   intro f hf
   cases f with
   | zero => simp at hf
   | succ f => simp only [nI, e]; rw [ih (by simpa using hf)]
def nK (m ms : List (Str × PyData)) (n : Str) : Bool := (nI 60 m n).any (jh ms)
def kK (C : Addr) : Sp := fun vs H Q _ => ∃ v d1 d2 m ms n c, vs = [v, .str n] /\ o6 C H v d1 d2 m ms /\ Chain m n c /\ c.length <= 60 /\ ∀ H', az H H' -> Q (.bl (!nK m ms n)) H'
theorem yc {C : Addr} {H : Hp} {Q : VK} {E : XK} {v : V} {d1 d2 : Addr} {m ms : List (Str × PyData)} {n : Str} {c : List Str} (h : o6 C H v d1 d2 m ms) (hc : Chain m n c) (hl : c.length <= 60) (q : ∀ H', az H H' -> Q (.bl (!nK m ms n)) H') : kK C [v, .str n] H Q E := ⟨v, d1, d2, m, ms, n, c, rfl, h, hc, hl, q⟩
local macro_rules | `(tactic| walk_at "use") => `(tactic| first
 | ((with_reducible refine' uB ?e1 ?e2 ?_); (case e1 => walk_at "grd"); (case e2 => assumption))
 | ((with_reducible refine' wK ?e1 ?e2 ?e3 (fun _ _ => ?_)); (case e1 => walk_at "grd"); (case e2 => assumption); (case e3 => assumption))
 | ((with_reducible refine' yc ?e1 ?e2 ?e3 (fun _ _ => ?_)); (case e1 => walk_at "grd"); (case e2 => assumption); (case e3 => assumption))
 | fail)
theorem t6 (T : Txt K mg a) : bR P w K mg base ik 4 a.bx a.gE ["self", "name"] (kK a.ae) := by
 have cl := T.ah
 have jj := T.aO; have tN := T.bI
 have jv := ez (P := P) (w := w) (base := base) T
 have uk := iU (P := P) (w := w) (base := base) T
 refine T.eV.ok j7 (fun vs H Q E h => ?_) (fun dR A outer s H vs Q E hr h => ?_)
 . obtain ⟨_, _, _, _, _, _, _, rfl, _⟩ := h; rfl
 . obtain ⟨v, d1, d2, m, ms, n, c, rfl, hg, hc, gX, q⟩ := h
   have hi := hg.ins
   refine ⟨_, (ao (aL (zJ (b7 (su rfl) rfl T.m8 PyProof.Rows.boot_any (af (rj (T := ["other"]) (M := ["self", "name"]) (EW (au de) ["self", "name"] rfl rfl (by decide +kernel)) rfl (ib (aA (pv 0) cl jj jv (hr.mono (by decide)) (af (pv 1) ai))) (fun _ _ _ _ _ => (cT (i := 0) (show List.Nodup (["other", "self", "name"] : List Str) by decide +kernel) rfl (Or.inl rfl))) (ia (by decide)) (fun _ _ _ _ _ => xc) (fun _ _ _ _ _ => (aA (pv 1) cl tN uk (hr.mono (by decide)) (af (pv 0) ai)))) ai))))), ?_⟩
   repeat' (walk_at "rd1")
   rename_i p1 H1 lI kj o4
   refine zT (cs := c) (gd := PyData.str) (fun _ => true) (fun o => .bool (jh ms o)) o4.dv (by omega) (fun _ => rfl) (fun x o H' N ho wX nE yes no => ?_) (fun pq H5 yt Cy yF => ?_)
   . obtain rfl := nE.str_inv
     have qE := hc.all o ho
     have wQ := (hg.keeps lI).keeps wX
     have sg := wQ.ins
     repeat' (walk_at "rd1")
     show Ed _ N _ true _
     refine qK (fun _ => ?_) (fun hb => by cases hb)
     repeat' (walk_at "rd1")
     exact yes rfl _ _ (az.refl _) (.bl _)
   . have e : c.filter (fun _ => true) = c := List.filter_eq_self.mpr (by simp)
     rw [e] at yF
     have F9 : cM H5 pq ((c.map (jh ms)).map PyData.bool) := by rw [List.map_map]; exact yF
     repeat' (walk_at "rd1")
     have e2 : (c.map (jh ms)).any id = nK m ms n := by unfold nK; rw [hc.fn gX, List.any_map]; rfl
     rw [e2]
     exact q _ (by walk_at "same")
theorem lW (T : Txt K mg a) : iN P w K mg base 4 a.bx ["self", "name"] [] (kK a.ae) :=
 ⟨⟨_, _, t6 T, T.eV.binds fun _ _ _ _ _ _ => .all fun us hl => match us, hl with | [_, _], _ => rfl, .nil⟩⟩
structure cR (C : Addr) (H : Hp) (v : V) (d1 d2 : Addr) (m ms : List (Str × PyData)) : Prop where
 ins : sS H v C [("above_of", .ref d1), ("marks", .ref d2)]
 ab : hO H d1 m
 e7 : hO H d2 ms
 ne : d1 ≠ d2
theorem cR.rd {C : Addr} {H : Hp} {v : V} {d1 d2 : Addr} {m ms : List (Str × PyData)} (h : cR C H v d1 d2 m ms) : o6 C H v d1 d2 m ms := ⟨h.ins, h.ab.rd, h.e7.rd⟩
theorem cR.keeps {C : Addr} {H H' : Hp} {v : V} {d1 d2 : Addr} {m ms : List (Str × PyData)} (s : az H H') (h : cR C H v d1 d2 m ms) : cR C H' v d1 d2 m ms := ⟨h.ins.keeps s, h.ab.keeps s, h.e7.keeps s, h.ne⟩
theorem fT {C : Addr} {H H' : Hp} {v : V} {fs : List (Str × V)} {d : Addr} {m : List (Str × PyData)} (h : sS H v C fs) (hd : hO H d m) (mv : Mv [d] H H') : sS H' v C fs := by
 obtain ⟨p, dx, rfl, e⟩ := h
 obtain ⟨kvs, e2, _⟩ := hd
 exact ⟨p, dx, rfl, mv.at (by simpa using d9 e e2 (by intro z; cases z)) e⟩
structure il (m : List (Str × PyData)) : Prop where
 ch : ∀ n, (bF m n).isSome = true -> ∃ c, Chain m n c /\ c.length <= 60
 nd : (m.map (·.1)).Nodup
 len : m.length <= 60
theorem bo {m : List (Str × PyData)} {n : Str} (h : n ∈ m.map (·.1)) : (bF m n).isSome = true := by
 unfold bF
 rw [Option.isSome_map, List.find?_isSome]
 obtain ⟨x, hx, e⟩ := List.mem_map.mp h
 exact ⟨x, hx, by simpa using e⟩
def cF (m : List (Str × PyData)) (n : Str) : List Str := (m.map (·.1)).filter fun k => (nI 60 m k).contains n
def jD (C : Addr) : Sp := fun vs H Q _ => ∃ v d1 d2 m ms n, vs = [v, .str n] /\ cR C H v d1 d2 m ms /\ il m /\ (bF m n).isSome = true /\ ∀ q H' ss, az H H' -> H q = none -> ss.Perm (cF m n) -> uq ss -> cM H' q (ss.map PyData.str) -> Q (.ref q) H'
theorem ui {C : Addr} {H : Hp} {Q : VK} {E : XK} {v : V} {d1 d2 : Addr} {m ms : List (Str × PyData)} {n : Str} (h : cR C H v d1 d2 m ms) (hm : il m) (hn : (bF m n).isSome = true) (q : ∀ q H' ss, az H H' -> H q = none -> ss.Perm (cF m n) -> uq ss -> cM H' q (ss.map PyData.str) -> Q (.ref q) H') : jD C [v, .str n] H Q E := ⟨v, d1, d2, m, ms, n, rfl, h, hm, hn, q⟩
theorem sQ (T : Txt K mg a) : bR P w K mg base ik 4 a.bh a.fM ["self", "name"] (jD a.ae) := by
 have n1 := T.av; have n2 := T.aC; have cl := T.ah
 have jj := T.aO; have bu := T.aW
 have jv := ez (P := P) (w := w) (base := base) T
 have bw := fO (P := P) (w := w) (base := base) T
 refine T.d0.ok jM (fun vs H Q E h => ?_) (fun dR A outer s H vs Q E hr h => ?_)
 . obtain ⟨_, _, _, _, _, _, rfl, _⟩ := h; rfl
 . obtain ⟨v, d1, d2, m, ms, n, rfl, hg, hm, hn, q⟩ := h
   have hi := hg.ins; have HI := hg.rd
   have Fx := hm.len
   refine ⟨_, (aj (bE (aA (pv 0) cl bu bw (hr.mono (by decide)) (af (pv 1) ai)))
    (ao (aL (b7 pX rfl T.fG PyProof.Rows.boot_sorted (af (xu (rj (T := ["other"]) (M := ["self", "name"]) (EW (au cS) ["self", "name"] rfl rfl (by decide +kernel)) rfl (xV (eS (pv 0) rfl)) (fun _ _ _ _ _ => (cT (i := 0) (show List.Nodup (["other", "self", "name"] : List Str) by decide +kernel) rfl (Or.inl rfl))) (ia (by decide)) (fun _ _ _ _ _ => (nh (aI (y3 (K := K) rfl) (pv 2) (aA (pv 1) cl jj jv (hr.mono (by decide)) (af (pv 0) ai)) rfl))) (fun _ _ _ _ _ => (pv 0)))) ai))))), ?_⟩
   repeat' (walk_at "rd1")
   refine B5 hg.ab (fun R hR => ?_) (fun k => (nI 60 m k).contains n) PyData.str (by omega) (fun _ => rfl) (fun o Hf H' N ho mv rd sm yes no => ?_) (fun pq H5 yt Cy yF => ?_)
   . repeat' (walk_at "rd1")
     exact hR
   . obtain ⟨c, hc, gX⟩ := hm.ch o (bo ho)
     have sg : sS H' v a.ae [("above_of", .ref d1), ("marks", .ref d2)] := (fT hi hg.ab mv).keeps sm
     have wQ : o6 a.ae H' v d1 d2 m ms := ⟨sg, rd.keeps sm, (hg.e7.rd.mv mv (by simpa using Ne.symm hg.ne)).keeps sm⟩
     have GR : nI 60 m o = c := hc.fn gX
     rw [GR] at yes no
     repeat' (walk_at "rd1")
     rename_i q6 H6 E1 Ln Gr
     refine qK (fun hb => ?_) (fun hb => no hb _ (by walk_at "same"))
     repeat' (walk_at "rd1")
     exact yes hb _ _ (by walk_at "same") (.str _)
   . have F9 : cM H5 pq ((cF m n).map PyData.str) := yF
     have EZ : (cF m n).length < 64 := by
      have h1 := List.length_filter_le (fun k => (nI 60 m k).contains n) (m.map (·.1))
      rw [List.length_map] at h1
      unfold cF
      omega
     repeat' (walk_at "rd1")
     rename_i q7 H7 ss F8 Md qI BV Lg
     exact q _ _ ss (by walk_at "same") (by walk_at "none") qI BV Lg
theorem iO (T : Txt K mg a) : iN P w K mg base 4 a.bh ["self", "name"] [] (jD a.ae) :=
 ⟨⟨_, _, sQ T, T.d0.binds fun _ _ _ _ _ _ => .all fun us hl => match us, hl with | [_, _], _ => rfl, .nil⟩⟩
local macro_rules | `(tactic| walk_at "gat") => `(tactic| first
 | assumption
 | (refine' cR.keeps ?s ?m; (case s => assumption); (case m => walk_at "gat"))
 | fail)
local macro_rules | `(tactic| walk_at "use") => `(tactic| first
 | ((with_reducible refine' ui ?e1 ?e2 ?e3 (fun _ _ _ _ _ _ _ _ => ?_)); (case e1 => walk_at "gat"); (case e2 => assumption); (case e3 => assumption))
 | fail)
def j9 (m ms : List (Str × PyData)) (n : Str) (ss : List Str) : Prop := uq ss /\ ss.Perm ((cF m n).filter fun k => !nK m ms k)
def mI (C : Addr) : Sp := fun vs H Q _ => ∃ v d1 d2 m ms n, vs = [v, .str n] /\ cR C H v d1 d2 m ms /\ il m /\ (bF m n).isSome = true /\ ∀ q H' ss, az H H' -> H q = none -> j9 m ms n ss -> cM H' q (ss.map PyData.str) -> Q (.ref q) H'
theorem zN {C : Addr} {H : Hp} {Q : VK} {E : XK} {v : V} {d1 d2 : Addr} {m ms : List (Str × PyData)} {n : Str} (h : cR C H v d1 d2 m ms) (hm : il m) (hn : (bF m n).isSome = true) (q : ∀ q H' ss, az H H' -> H q = none -> j9 m ms n ss -> cM H' q (ss.map PyData.str) -> Q (.ref q) H') : mI C [v, .str n] H Q E := ⟨v, d1, d2, m, ms, n, rfl, h, hm, hn, q⟩
local macro_rules | `(tactic| walk_at "use") => `(tactic| first
 | ((with_reducible refine' zN ?e1 ?e2 ?e3 (fun _ _ _ _ _ _ _ => ?_)); (case e1 => walk_at "gat"); (case e2 => assumption); (case e3 => assumption))
 | fail)
theorem ya (T : Txt K mg a) : bR P w K mg base ik 5 a.aE a.c5 ["self", "name"] (mI a.ae) := by
 have cl := T.ah
 have k8 := T.b9; have vX := T.cH
 have ky := iO (P := P) (w := w) (base := base) T
 have wg := lW (P := P) (w := w) (base := base) T
 refine T.cm.ok f6 (fun vs H Q E h => ?_) (fun dR A outer s H vs Q E hr h => ?_)
 . obtain ⟨_, _, _, _, _, _, rfl, _⟩ := h; rfl
 . obtain ⟨v, d1, d2, m, ms, n, rfl, hg, hm, hn, q⟩ := h
   have hi := hg.ins
   refine ⟨_, (ao (aL (rj (T := ["other"]) (M := ["self", "name"]) (EW (au bD) ["self", "name"] rfl rfl (by decide +kernel)) rfl (ib (aA (pv 0) cl k8 ky (hr.mono (by decide)) (af (pv 1) ai))) (fun _ _ _ _ _ => (cT (i := 0) (show List.Nodup (["other", "self", "name"] : List Str) by decide +kernel) rfl (Or.inl rfl))) (ia (by decide)) (fun _ _ _ _ _ => (nh (sE (K := K) rfl (aA (pv 1) cl vX wg (hr.mono (by decide)) (af (pv 0) ai)) (fun _ => rfl)))) (fun _ _ _ _ _ => (pv 0))))), ?_⟩
   repeat' (walk_at "rd1")
   rename_i p1 H1 ss lI kj qI BV o4
   have GZ : ss.length <= 60 := by
    rw [qI.length_eq]
    have h1 := List.length_filter_le (fun k => (nI 60 m k).contains n) (m.map (·.1))
    rw [List.length_map] at h1
    have := hm.len
    unfold cF
    omega
   refine zT (cs := ss) (gd := PyData.str) (fun o => !nK m ms o) PyData.str o4.dv (by omega) (fun _ => rfl) (fun x o H' N ho wX nE yes no => ?_) (fun pq H5 yt Cy yF => ?_)
   . obtain rfl := nE.str_inv
     have Jf : o ∈ m.map (·.1) := (List.mem_filter.mp (qI.mem_iff.mp ho)).1
     obtain ⟨c, hc, gX⟩ := hm.ch o (bo Jf)
     have wQ := ((hg.keeps lI).keeps wX).rd
     have sg := wQ.ins
     repeat' (walk_at "rd1")
     rename_i H6 E1
     refine qK (fun hb => ?_) (fun hb => no hb _ (by walk_at "same"))
     repeat' (walk_at "rd1")
     exact yes hb _ _ (by walk_at "same") (.str _)
   . repeat' (walk_at "rd1")
     exact q _ _ _ (by walk_at "same") (by walk_at "none") ⟨BV.filter _, qI.filter _⟩ yF
theorem nR (T : Txt K mg a) : iN P w K mg base 5 a.aE ["self", "name"] [] (mI a.ae) :=
 ⟨⟨_, _, ya T, T.cm.binds fun _ _ _ _ _ _ => .all fun us hl => match us, hl with | [_, _], _ => rfl, .nil⟩⟩
def k4 (C : Addr) : Sp := fun vs H Q _ => ∃ v d1 d2 m ms n, vs = [v, .str n] /\ cR C H v d1 d2 m ms /\ il m /\ ms.length <= 60 /\ (bF m n).isSome = true /\ ∀ q H' ss, Mv [d2] H H' -> H q = none -> j9 m ms n ss -> cM H' q (ss.map PyData.str) -> cR C H' v d1 d2 m (putD ms n (.bool true)) -> Q (.ref q) H'
theorem qq {C : Addr} {H : Hp} {Q : VK} {E : XK} {v : V} {d1 d2 : Addr} {m ms : List (Str × PyData)} {n : Str} (h : cR C H v d1 d2 m ms) (hm : il m) (hl : ms.length <= 60) (hn : (bF m n).isSome = true) (q : ∀ q H' ss, Mv [d2] H H' -> H q = none -> j9 m ms n ss -> cM H' q (ss.map PyData.str) -> cR C H' v d1 d2 m (putD ms n (.bool true)) -> Q (.ref q) H') : k4 C [v, .str n] H Q E := ⟨v, d1, d2, m, ms, n, rfl, h, hm, hl, hn, q⟩
theorem tI (T : Txt K mg a) : bR P w K mg base ik 6 a.bz a.gG ["self", "name"] (k4 a.ae) := by
 have n1 := T.av; have n2 := T.aC; have cl := T.ah
 have dc := T.ck
 have cY := nR (P := P) (w := w) (base := base) T
 refine T.eP.ok gL (fun vs H Q E h => ?_) (fun dR A outer s H vs Q E hr h => ?_)
 . obtain ⟨_, _, _, _, _, _, rfl, _⟩ := h; rfl
 . obtain ⟨v, d1, d2, m, ms, n, rfl, hg, hm, hl, hn, q⟩ := h
   have hi := hg.ins
   refine ⟨_, (aj (aF (i := 2) gL.nd rfl (Or.inl rfl) (aA (pv 0) cl dc cY (hr.mono (by decide)) (af (pv 1) ai)))
    (aj (ro (kQ hr) (eS (pv 0) rfl) (pv 1) mx rfl)
    (ao (aL (pv 2))))), ?_⟩
   repeat' (walk_at "rd1")
   rename_i p1 H1 ss lI kj DT o4
   have pk := hg.keeps lI
   have hd2 := pk.e7
   have D5 := pk.ins
   repeat' (walk_at "rd1")
   rename_i H2 gM hd
   have nQ : p1 ≠ d2 := Ne.symm (hg.e7.ne kj)
   exact q _ _ ss (lI.mv.trans gM) kj DT (o4.mv gM (by simpa using nQ)) ⟨fT D5 hd2 gM, pk.ab.mv gM (by simpa using hg.ne), hd, hg.ne⟩
theorem me (T : Txt K mg a) : iN P w K mg base 6 a.bz ["self", "name"] [] (k4 a.ae) :=
 ⟨⟨_, _, tI T, T.eP.binds fun _ _ _ _ _ _ => .all fun us hl => match us, hl with | [_, _], _ => rfl, .nil⟩⟩
theorem p7 {m : List (Str × PyData)} {n : Str} (h : bF m n = none) : cB m n = m := by
 unfold cB
 rw [List.filter_eq_self]
 intro x hx
 unfold bF at h
 rw [Option.map_eq_none_iff, List.find?_eq_none] at h
 have := h x hx
 simpa using this
def jI (C : Addr) : Sp := fun vs H Q _ => ∃ v d1 d2 m ms n, vs = [v, .str n] /\ cR C H v d1 d2 m ms /\ ∀ H', Mv [d2] H H' -> cR C H' v d1 d2 m (cB ms n) -> Q .a0 H'
theorem uH {C : Addr} {H : Hp} {Q : VK} {E : XK} {v : V} {d1 d2 : Addr} {m ms : List (Str × PyData)} {n : Str} (h : cR C H v d1 d2 m ms) (q : ∀ H', Mv [d2] H H' -> cR C H' v d1 d2 m (cB ms n) -> Q .a0 H') : jI C [v, .str n] H Q E := ⟨v, d1, d2, m, ms, n, rfl, h, q⟩
local macro_rules | `(tactic| walk_at "rd1") => `(tactic| first
 | ((with_reducible refine' Dg ?e1 ?_); (case e1 => walk_at "dla"))
 | ((with_reducible refine' zB ?e1 ?e2 (fun _ _ _ _ => ?_)); (case e1 => walk_at "dla"); (case e2 => assumption))
 | fail)
theorem sI (T : Txt K mg a) : bR P w K mg base ik 1 a.a9 a.fH ["self", "name"] (jI a.ae) := by
 have n1 := T.av; have n2 := T.aC; have cl := T.ah
 refine T.dX.ok jP (fun vs H Q E h => ?_) (fun dR A outer s H vs Q E hr h => ?_)
 . obtain ⟨_, _, _, _, _, _, rfl, _⟩ := h; rfl
 . obtain ⟨v, d1, d2, m, ms, n, rfl, hg, q⟩ := h
   have hi := hg.ins; have hd2 := hg.e7
   refine ⟨_, (ao (cI (pz (pF (kQ hr) (pv 1) (eS (pv 0) rfl)) rfl)
    (ao (bE (l0 PySem.F.plainAttrs_dict PySem.F.slot_dict_pop PySem.F.type_dict_pop qD (eS (pv 0) rfl) (af (pv 1) ai))))
    aU)), ?_⟩
   cases hk : bF ms n with
   | none =>
     repeat' (walk_at "rd1")
     . rename_i o e hb
       rw [e, hk] at hb
       cases hb
     . have z := p7 hk
       exact q _ Mv.refl (by rw [z]; exact hg)
   | some d =>
     repeat' (walk_at "rd1")
     . rename_i o e hb v2 H2 gM hd
       exact q _ gM ⟨fT hi hd2 gM, hg.ab.mv gM (by simpa using hg.ne), hd, hg.ne⟩
     . rename_i o e hb
       rw [e, hk] at hb
       cases hb
theorem kE (T : Txt K mg a) : iN P w K mg base 1 a.a9 ["self", "name"] [] (jI a.ae) :=
 ⟨⟨_, _, sI T, T.dX.binds fun _ _ _ _ _ _ => .all fun us hl => match us, hl with | [_, _], _ => rfl, .nil⟩⟩
def tT (m ms : List (Str × PyData)) (n : Str) (ss : List Str) : Prop := ∃ s1 s2, j9 m ms n s1 /\ j9 m (cB ms n) n s2 /\ ss = s2.filter fun o => !s1.contains o
def nC (C : Addr) : Sp := fun vs H Q _ => ∃ v d1 d2 m ms n, vs = [v, .str n] /\ cR C H v d1 d2 m ms /\ il m /\ (bF m n).isSome = true /\ ∀ q H' ss, Mv [d2] H H' -> H q = none -> tT m ms n ss -> cM H' q (ss.map PyData.str) -> cR C H' v d1 d2 m (cB ms n) -> Q (.ref q) H'
theorem zl {C : Addr} {H : Hp} {Q : VK} {E : XK} {v : V} {d1 d2 : Addr} {m ms : List (Str × PyData)} {n : Str} (h : cR C H v d1 d2 m ms) (hm : il m) (hn : (bF m n).isSome = true) (q : ∀ q H' ss, Mv [d2] H H' -> H q = none -> tT m ms n ss -> cM H' q (ss.map PyData.str) -> cR C H' v d1 d2 m (cB ms n) -> Q (.ref q) H') : nC C [v, .str n] H Q E := ⟨v, d1, d2, m, ms, n, rfl, h, hm, hn, q⟩
local macro_rules | `(tactic| walk_at "use") => `(tactic| first
 | ((with_reducible refine' uH ?e1 (fun _ _ _ => ?_)); (case e1 => walk_at "gat"))
 | fail)
theorem j9.len {m ms : List (Str × PyData)} {n : Str} {ss : List Str} (h : j9 m ms n ss) (hm : il m) : ss.length <= 60 := by
 rw [h.2.length_eq]
 have h2 := List.length_filter_le (fun k => !nK m ms k) (cF m n)
 have h1 := List.length_filter_le (fun k => (nI 60 m k).contains n) (m.map (·.1))
 rw [List.length_map] at h1
 have := hm.len
 unfold cF at *
 omega
theorem wI (T : Txt K mg a) : bR P w K mg base ik 6 a.bP a.g8 ["self", "name"] (nC a.ae) := by
 have cl := T.ah
 have dc := T.ck; have lr := T.d7
 have cY := nR (P := P) (w := w) (base := base) T
 have kR := kE (P := P) (w := w) (base := base) T
 refine T.ft.ok gS (fun vs H Q E h => ?_) (fun dR A outer s H vs Q E hr h => ?_)
 . obtain ⟨_, _, _, _, _, _, rfl, _⟩ := h; rfl
 . obtain ⟨v, d1, d2, m, ms, n, rfl, hg, hm, hn, q⟩ := h
   have hi := hg.ins
   refine ⟨_, (aj (aF (i := 2) gS.nd rfl (Or.inr rfl) (aA (pv 0) cl dc cY (hr.mono (by decide)) (af (pv 1) ai)))
    (aj (bE (aA (pv 0) cl lr kR (hr.mono (by decide)) (af (pv 1) ai)))
    (ao (aL (rj (T := ["other"]) (M := ["self", "name", "ahead"]) (EW (au dH) ["self", "name", "ahead"] rfl rfl (by decide +kernel)) rfl (ib (aA (pv 0) cl dc cY (hr.mono (by decide)) (af (pv 1) ai))) (fun _ _ _ _ _ => (cT (i := 0) (show List.Nodup (["other", "self", "name", "ahead"] : List Str) by decide +kernel) rfl (Or.inl rfl))) (ia (by decide)) (fun _ _ _ _ _ => (nh (aI (x5 (K := K) rfl) (pv 0) (pv 3) rfl))) (fun _ _ _ _ _ => (pv 0))))))), ?_⟩
   repeat' (walk_at "rd1")
   rename_i p1 H1 s1 lI kj GF o4 H2 gM mV
   have vN := mV.ins
   have nQ : p1 ≠ d2 := Ne.symm (hg.e7.ne kj)
   have sU : cM H2 p1 (s1.map PyData.str) := o4.mv gM (by simpa using nQ)
   repeat' (walk_at "rd1")
   rename_i p3 H3 s2 sm3 Ka En DY
   have GZ := En.len hm
   refine zT (cs := s2) (gd := PyData.str) (fun o => !s1.contains o) PyData.str DY.dv (by omega) (fun _ => rfl) (fun x o H' N ho wX nE yes no => ?_) (fun pq H5 yt Cy yF => ?_)
   . obtain rfl := nE.str_inv
     have JC : cM H' p1 (s1.map PyData.str) := (sU.keeps sm3).keeps wX
     repeat' (walk_at "rd1")
     refine qK (fun hb => ?_) (fun hb => no hb _ (az.refl _))
     repeat' (walk_at "rd1")
     exact yes hb _ _ (az.refl _) (.str _)
   . repeat' (walk_at "rd1")
     exact q _ _ _ (((lI.mv.trans gM).trans sm3.mv).trans yt.mv) (by walk_at "none") ⟨s1, s2, GF, En, rfl⟩ yF ((mV.keeps sm3).keeps yt)
theorem uP (T : Txt K mg a) : iN P w K mg base 6 a.bP ["self", "name"] [] (nC a.ae) :=
 ⟨⟨_, _, wI T, T.ft.binds fun _ _ _ _ _ _ => .all fun us hl => match us, hl with | [_, _], _ => rfl, .nil⟩⟩
theorem n8 {m : List (Str × PyData)} {k : Str} {d : PyData} (h : bF m k = none) : putD m k d = m ++ [(k, d)] := by
 unfold putD
 rw [if_neg]
 unfold bF at h
 rw [Option.map_eq_none_iff, List.find?_eq_none] at h
 simp only [List.any_eq_true, not_exists, not_and]
 exact h
def u6 (m : List (Str × PyData)) (x : V) (d : PyData) : Prop := (x = .a0 /\ d = .none) \/ ∃ b c, x = .str b /\ d = .str b /\ Chain m b c /\ c.length <= 7
def mQ (C : Addr) : Sp := fun vs H Q _ => ∃ v d1 d2 m ms n x d, vs = [v, .str n, x] /\ cR C H v d1 d2 m ms /\ m.length <= 100 /\ bF m n = none /\ u6 m x d /\ ∀ H', Mv [d1] H H' -> cR C H' v d1 d2 (m ++ [(n, d)]) ms -> Q .a0 H'
theorem qU {C : Addr} {H : Hp} {Q : VK} {E : XK} {v x : V} {d1 d2 : Addr} {m ms : List (Str × PyData)} {n : Str} {d : PyData} (h : cR C H v d1 d2 m ms) (hl : m.length <= 100) (hn : bF m n = none) (ha : u6 m x d) (q : ∀ H', Mv [d1] H H' -> cR C H' v d1 d2 (m ++ [(n, d)]) ms -> Q .a0 H') : mQ C [v, .str n, x] H Q E := ⟨v, d1, d2, m, ms, n, x, d, rfl, h, hl, hn, ha, q⟩
theorem tL (T : Txt K mg a) : bR P w K mg base ik 4 a.bN a.ip ["self", "name", "above"] (mQ a.ae) := by
 have n1 := T.av; have n2 := T.aC; have cl := T.ah
 have bu := T.aW; have iK := T.c3
 have bw := fO (P := P) (w := w) (base := base) T
 have iM := mC (P := P) (w := w) (base := base) T
 refine T.eu.ok lL (fun vs H Q E h => ?_) (fun dR A outer s H vs Q E hr h => ?_)
 . obtain ⟨_, _, _, _, _, _, _, _, rfl, _⟩ := h; rfl
 . obtain ⟨v, d1, d2, m, ms, n, x, d, rfl, hg, hl, hn, ha, q⟩ := h
   have hi := hg.ins; have BI := hg.ab; have HI := hg.rd
   refine ⟨_, (aj (cI (pz (pF (kQ hr) (pv 1) (eS (pv 0) rfl)) rfl)
    (ao k9)
    aU)
    (aj (cI (aI qW (pv 2) lC (a7 _))
     (aj (bE (aA (pv 0) cl bu bw (hr.mono (by decide)) (af (pv 2) ai)))
     (ao (cI (aI CO (aA (pv 0) cl iK iM (hr.mono (by decide)) (af (pv 2) ai)) (xQ (v := .int 8) rfl T.iD ⟨_, rfl⟩) (a7 _))
      (ao k9)
      aU)))
     aU)
    (ao (ro (kQ hr) (eS (pv 0) rfl) (pv 1) (pv 2) rfl)))), ?_⟩
   rcases ha with ⟨rfl, rfl⟩ | ⟨b, c, rfl, rfl, hc, gX⟩
   . repeat' (walk_at "rd1")
     . rename_i o e hb
       rw [e, hn] at hb
       cases hb
     . rename_i o e DZ nH H2 gM hd
       rw [n8 hn] at hd
       exact q _ gM ⟨fT hi BI gM, hd, hg.e7.mv gM (by simpa using Ne.symm hg.ne), hg.ne⟩
   . have Je : c.length <= 60 := by omega
     repeat' (walk_at "rd1")
     . rename_i o e hb
       rw [e, hn] at hb
       cases hb
     . rename_i o e DZ nH H4 BR LN H2 gM hd
       have qN := hg.keeps BR
       rw [n8 hn] at hd
       exact q _ (BR.mv.trans gM) ⟨fT qN.ins qN.ab gM, hd, qN.e7.mv gM (by simpa using Ne.symm hg.ne), hg.ne⟩
theorem qS (T : Txt K mg a) : iN P w K mg base 4 a.bN ["self", "name", "above"] [] (mQ a.ae) :=
 ⟨⟨_, _, tL T, T.eu.binds fun _ _ _ _ _ _ s us kx hl => by
   obtain ⟨o, n, h1, h2⟩ := T.fX.ex
   have hl : us.length = 3 := by simp at hl; omega
   match us, hl with
   | [_, _, _], _ => exact PySem.W.binds_K kx rfl h1 h2 rfl rfl, .nil⟩⟩
theorem oN {X : Cx} {k : Nat} {f C : Addr} {ps : List Str} {sp : Sp} {cC : List V} {x : Str} {p pos : Pos} (M : Mk X.K C f) (F : iN X.prog X.w X.K X.mg X.base k f ps cC sp) (hr : bG (k + 1) X.A) (hg : Gl X x) (hm : X.mg x = some (.ref C))
 (uX : (x == ("__debug__" : Str)) = false := by decide) : PE X (.Call (.Name x p) [] [] pos) (nq C sp cC E0 pY) := by
 rw [rV]
 obtain ⟨fd, ds, F, hb, hd⟩ := F.ex
 exact uz M F hr hg hm hb hd rq uX
def jA (C : Addr) : Sp := fun vs H Q _ => ∃ p dx, vs = [.ref p] /\ H p = some (.ins C dx []) /\ ∀ H' d1 d2, Mv [p] H H' -> H d1 = none -> H d2 = none -> cR C H' (.ref p) d1 d2 [] [] -> Q .a0 H'
theorem vh (T : Txt K mg a) : bR P w K mg base ik 1 a.aP a.eG ["self"] (jA a.ae) := by
 have n1 := T.av; have n2 := T.aC; have cl := T.ah
 refine T.dt.ok iV (fun vs H Q E h => ?_) (fun dR A outer s H vs Q E hr h => ?_)
 . obtain ⟨_, _, rfl, _⟩ := h; rfl
 . obtain ⟨p, dx, rfl, hp, q⟩ := h
   refine ⟨_, (aj (ub (pv 0) nT rfl)
    (ao (ub (pv 0) nT rfl))), ?_⟩
   repeat' (walk_at "rd1")
   rename_i d1 H1 lI kj BI d2 H2 lN yx hd2
   have e1 := lI _ _ hp
   have jY : Mv [p] H1 (upd H1 p (.ins a.ae dx [("above_of", .ref d1)])) := .jQ e1 (by intro _ z; cases z)
   have e2 := lN p _ ay
   have gM : Mv [p] H2 (upd H2 p (.ins a.ae dx [("above_of", .ref d1), ("marks", .ref d2)])) := .jQ e2 (by intro _ z; cases z)
   have sZ := ((lI.mv (S := [p])).trans jY).trans ((lN.mv (S := [p])).trans gM)
   have o4 : d1 ≠ p := Ne.symm (ax hp kj)
   have FU : hO H2 d1 [] := (BI.mv jY (by simpa using o4)).keeps lN
   have B4 : H d2 = none := ((lI.mv (S := [p])).trans jY).none yx
   have sU : d2 ≠ p := Ne.symm (ax hp B4)
   exact q _ d1 d2 sZ kj B4 ⟨⟨p, dx, rfl, ay⟩, FU.mv gM (by simpa using o4), hd2.mv gM (by simpa using sU), (BI.mv jY (by simpa using o4)).ne yx⟩
theorem lY (T : Txt K mg a) : iN P w K mg base 1 a.aP ["self"] [] (jA a.ae) :=
 ⟨⟨_, _, vh T, T.dt.binds fun _ _ _ _ _ _ => .all fun us hl => match us, hl with | [_], _ => rfl, .nil⟩⟩
theorem xG {C : Addr} {H : Hp} {Q : VK} {E : XK} (k : ∀ v H2 d1 d2, az H H2 -> H d1 = none -> H d2 = none -> cR C H2 v d1 d2 [] [] -> Q v H2) : nU C (jA C) [] H Q E := by
 refine ⟨[], rfl, fun x dx hx hd ne => ⟨x, dx, rfl, ay, fun H' d1 d2 mv h1 h2 hg => ⟨rfl, ?_⟩⟩⟩
 have z : ∀ {d : Addr}, upd (upd H dx (.own x)) x (.ins C dx []) d = none -> H d = none := by
  intro d h
  unfold upd at h
  split at h
  . cases h
  . split at h
    . cases h
    . exact h
 refine k _ _ d1 d2 (fun b u e => ?_) (z h1) (z h2) hg
 have hb : b ≠ x := ax e hx
 refine mv.kp b u (by simpa using hb) ?_
 rw [ak hb, ak (ax e hd)]
 exact e
def kc (m : List (Str × PyData)) (k : Str) : Int := ((nI 60 m k).length : Nat)
def nX (m : List (Str × PyData)) (ss : List Str) : Prop := ss.Perm (m.map (·.1)) /\ ss.Pairwise fun c d => cX (kc m d, d) (kc m c, c) = false
theorem lu {f : Str -> Int} : ∀ {xs ys : List Str}, xs.Perm ys -> xs.Pairwise (fun c d => cX (f d, d) (f c, c) = false) -> ys.Pairwise (fun c d => cX (f d, d) (f c, c) = false) -> xs = ys
 | [], _, hp, _, _ => List.Perm.nil_eq hp
 | x :: xs, [], hp, _, _ => by have := hp.length_eq; simp at this
 | x :: xs, y :: ys, hp, h1, h2 => by
   have hx := List.pairwise_cons.mp h1
   have hy := List.pairwise_cons.mp h2
   have BL : x = y := by
    have m1 : y ∈ x :: xs := hp.mem_iff.mpr List.mem_cons_self
    have m2 : x ∈ y :: ys := hp.mem_iff.mp List.mem_cons_self
    rcases List.mem_cons.mp m1 with e | Gx
    . exact e.symm
    rcases List.mem_cons.mp m2 with e | Gj
    . exact e
    exact (Prod.mk.inj (tj (hy.1 x Gj) (hx.1 y Gx))).2
   subst BL
   rw [lu (List.Perm.cons_inv hp) hx.2 hy.2]
abbrev jy (H : Hp) (P : Addr) : Prop := TabAt H P jX jJ
theorem cR.o7 {C P : Addr} {H H' : Hp} {v : V} {d1 d2 : Addr} {m ms : List (Str × PyData)} {pos : Pos} {q : Str} (h : cR C H v d1 d2 m ms) (t : TabAt H P pos q) (mv : Mv [P] H H') : cR C H' v d1 d2 m ms := ⟨t.B2 h.ins mv, t.Ia h.ab mv, t.Ia h.e7 mv, h.ne⟩
def p8 (C P : Addr) : Sp := fun vs H Q _ => ∃ v d1 d2 m ms, vs = [v] /\ cR C H v d1 d2 m ms /\ il m /\ jy H P /\ ∀ q H' ss, Mv [P] H H' -> jy H' P -> H q = none -> nX m ss -> cM H' q (ss.map PyData.str) -> Q (.ref q) H'
theorem qZ {C P : Addr} {H : Hp} {Q : VK} {E : XK} {v : V} {d1 d2 : Addr} {m ms : List (Str × PyData)} (h : cR C H v d1 d2 m ms) (hm : il m) (ht : jy H P) (q : ∀ q H' ss, Mv [P] H H' -> jy H' P -> H q = none -> nX m ss -> cM H' q (ss.map PyData.str) -> Q (.ref q) H') : p8 C P [v] H Q E := ⟨v, d1, d2, m, ms, rfl, h, hm, ht, q⟩
theorem zK (T : Txt K mg a) (hB : Bs K mg base) : bR P w K mg base ik 8 a.aQ a.dG ["self"] (p8 a.ae a.ag) := by
 have n1 := T.av; have n2 := T.aC; have cl := T.ah
 have iK := T.c3
 have iM := mC (P := P) (w := w) (base := base) T
 refine T.d3.I9 jO (fun vs H Q E h => ?_) (fun A outer s H vs Q E hr h => ?_)
 . obtain ⟨_, _, _, _, _, rfl, _⟩ := h; rfl
 . obtain ⟨v, d1, d2, m, ms, rfl, hg, hm, ht, q⟩ := h
   have hi := hg.ins
   have Fx := hm.len
   refine ⟨_, (ao (aL (sj (k := 4) rfl (Ai (j := 0) ⟨rfl, rfl, rfl, by decide +kernel, rfl, rfl, by decide +kernel⟩ ⟨a.bS, T.bT.e, PySem.W.codeHd_of_K hB.k T.bT.cd⟩ hB.b rfl (fun _ _ _ _ _ _ _ _ => rfl) rfl rfl rfl rfl) (hr.mono (by decide)) rfl T.fG (af (eS (pv 0) rfl) ai) (fun _ _ _ _ _ _ hr => (wH (af (aA (pv 1) cl iK iM (hr.mono (by decide)) (af (pv 0) ai)) (af (pv 0) ai))))))), ?_⟩
   repeat' (walk_at "rd1")
   refine rG ?_
   repeat' (walk_at "rd1")
   refine ⟨ht, fun H2 gM Gf => ?_⟩
   have mV := hg.o7 ht gM
   refine uC (fun x => (kc m x, x)) mV.ab (by omega) (fun x hx H' sm => ?_) (fun q5 H5 ss yt Cy qI Jr Fm => ?_)
   . obtain ⟨c, hc, gX⟩ := hm.ch x (bo hx)
     have GN := (mV.keeps sm).rd
     have Hz := GN.ins
     have e : kc m x = (c.length : Nat) := by unfold kc; rw [hc.fn gX]
     refine xh ?_
     repeat' (walk_at "rd1")
     exact ⟨by walk_at "same", by rw [e]; assumption⟩
   . exact q _ _ ss (gM.g5 yt) (Gf.keeps yt) (gM.none Cy) ⟨qI, Jr⟩ Fm
theorem mX (T : Txt K mg a) (hB : Bs K mg base) : iN P w K mg base 8 a.aQ ["self"] [] (p8 a.ae a.ag) :=
 ⟨⟨_, _, zK T hB, T.d3.binds fun _ _ _ _ _ _ => .all fun us hl => match us, hl with | [_], _ => rfl, .nil⟩⟩
def bj (m : List (Str × PyData)) (ss : List Str) : List (Str × PyData) := ss.foldl cB m
theorem kY {m : List (Str × PyData)} {ss : List Str} {x : Str} : bj m (ss ++ [x]) = cB (bj m ss) x := by unfold bj; rw [List.foldl_append]; rfl
theorem vo {m : List (Str × PyData)} {x n : Str} : bF (cB m x) n = if n = x then none else bF m n := by
 unfold bF cB
 rw [List.find?_filter]
 split
 . rename_i h
   subst h
   rw [List.find?_eq_none.mpr]
   . rfl
   . intro y _
     simp
 . rename_i h
   congr 2
   funext y
   by_cases e : y.1 = n
   . simp [e, h]
   . simp [e]
theorem dD {ss : List Str} {n : Str} : ∀ {m : List (Str × PyData)}, bF (bj m ss) n = if n ∈ ss then none else bF m n := by
 induction ss with
 | nil => intro m; simp [bj]
 | cons x r ih =>
   intro m
   show bF (bj (cB m x) r) n = _
   rw [ih, vo]
   by_cases h : n ∈ r
   . simp [h]
   . by_cases e : n = x
     . simp [e]
     . simp [h, e]
def pE (C : Addr) : Sp := fun vs H Q _ => ∃ v d1 d2 m ms n, vs = [v, .str n] /\ cR C H v d1 d2 m ms /\ il m /\ (bF m n).isSome = true /\ ∀ q H' ss, Mv [d1, d2] H H' -> H q = none -> ss.Perm (cF m n) -> uq ss -> cM H' q (ss.map PyData.str) -> cR C H' v d1 d2 (bj m ss) (bj ms ss) -> Q (.ref q) H'
theorem tH {C : Addr} {H : Hp} {Q : VK} {E : XK} {v : V} {d1 d2 : Addr} {m ms : List (Str × PyData)} {n : Str} (h : cR C H v d1 d2 m ms) (hm : il m) (hn : (bF m n).isSome = true) (q : ∀ q H' ss, Mv [d1, d2] H H' -> H q = none -> ss.Perm (cF m n) -> uq ss -> cM H' q (ss.map PyData.str) -> cR C H' v d1 d2 (bj m ss) (bj ms ss) -> Q (.ref q) H') : pE C [v, .str n] H Q E := ⟨v, d1, d2, m, ms, n, rfl, h, hm, hn, q⟩
theorem zC (T : Txt K mg a) : bR P w K mg base ik 6 a.bX a.iq ["self", "name"] (pE a.ae) := by
 have n1 := T.av; have n2 := T.aC; have cl := T.ah
 have k8 := T.b9; have lr := T.d7
 have ky := iO (P := P) (w := w) (base := base) T
 have kR := kE (P := P) (w := w) (base := base) T
 refine T.gg.ok fA (fun vs H Q E h => ?_) (fun dR A outer s H vs Q E hr h => ?_)
 . obtain ⟨_, _, _, _, _, _, rfl, _⟩ := h; rfl
 . obtain ⟨v, d1, d2, m, ms, n, rfl, hg, hm, hn, q⟩ := h
   have hi := hg.ins
   refine ⟨_, (aj (aF (i := 2) fA.nd rfl (Or.inl rfl) (aA (pv 0) cl k8 ky (hr.mono (by decide)) (af (pv 1) ai)))
    (aj (iW PassesOwn.never rfl (ib (pv 2)) (cT (i := 3) fA.nd rfl (Or.inl rfl))
     (aj (bE (aA (pv 0) cl lr kR (hr.mono (by decide)) (af (pv 3) ai)))
     (ao (bE (l0 PySem.F.plainAttrs_dict PySem.F.slot_dict_pop PySem.F.type_dict_pop qD (eS (pv 0) rfl) (af (pv 3) ai))))))
    (ao (aL (pv 2))))), ?_⟩
   repeat' (walk_at "rd1")
   rename_i p1 H1 ss lI kj qI BV o4
   have ne1 : p1 ≠ d1 := Ne.symm (hg.ab.ne kj)
   have ne2 : p1 ≠ d2 := Ne.symm (hg.e7.ne kj)
   have HZ : ss.Nodup := qI.nodup_iff.mpr (hm.nd.filter _)
   have pk := hg.keeps lI
   refine u9 (Hb := H1) (cs := ss) (gd := PyData.str) o4.dv (fun j σ' H' => ∃ z, σ' = [some v, some (.str n), some (.ref p1), z] /\ Mv [d1, d2] H1 H' /\ cR a.ae H' v d1 d2 (bj m (ss.take j)) (bj ms (ss.take j))) ⟨_, rfl, Mv.refl, pk⟩ (fun i σ' H' _ ⟨_, _, mv, _⟩ a' xs e hx => by cases e; exact mv.sq (by simp [ne1, ne2]) hx) ?_ ?_
   . rintro j x v' σ' H' hj ⟨z, rfl, mv, wQ⟩ hI hS
     obtain rfl := (hI rfl (fun b xs e => mv.tp b xs e)).str_inv
     have Ku : x ∈ ss := List.mem_of_getElem? hj
     have Lz : x ∈ m.map (·.1) := (List.mem_filter.mp (qI.mem_iff.mp Ku)).1
     have LA : x ∉ ss.take j := fun hh => by
      have yT := (List.getElem?_eq_some_iff.mp hj).1
      obtain ⟨i, hi, e⟩ := List.getElem_of_mem hh
      rw [List.getElem_take] at e
      have lA : i < j := by rw [List.length_take] at hi; omega
      have := (List.pairwise_iff_getElem.mp (List.nodup_iff_pairwise_ne.mp HZ)) i j (by omega) yT lA
      exact this (e.trans (List.getElem?_eq_some_iff.mp hj).2.symm)
     have Jt : (bF (bj m (ss.take j)) x).isSome = true := by rw [dD, if_neg LA]; exact bo Lz
     obtain ⟨d, hd⟩ := Option.isSome_iff_exists.mp Jt
     have sg := wQ.ins
     repeat' (walk_at "rd1")
     rename_i H2 gM mV
     have BI := mV.ab
     have vN := mV.ins
     repeat' (walk_at "rd1")
     rename_i v3 H3 sZ Lj
     refine ⟨_, rfl, (mv.step gM (by simp)).step sZ (by simp), ?_⟩
     rw [List.take_add_one, hj]
     show cR _ H3 v d1 d2 (bj m (ss.take j ++ [x])) (bj ms (ss.take j ++ [x]))
     rw [kY, kY]
     exact ⟨fT vN BI sZ, Lj, mV.e7.mv sZ (by simpa using Ne.symm hg.ne), hg.ne⟩
   . rintro σ' H' ⟨z, rfl, mv, wQ⟩
     rw [List.take_of_length_le (Nat.le_refl _)] at wQ
     repeat' (walk_at "rd1")
     exact q _ _ ss ((lI.mv (S := [d1, d2])).trans mv) kj qI BV (o4.mv mv (by simp [ne1, ne2])) wQ
theorem xn (T : Txt K mg a) : iN P w K mg base 6 a.bX ["self", "name"] [] (pE a.ae) :=
 ⟨⟨_, _, zC T, T.gg.binds fun _ _ _ _ _ _ => .all fun us hl => match us, hl with | [_, _], _ => rfl, .nil⟩⟩
def nL (s : Str) : Prop := s.length <= 100 /\ ∀ c ∈ s.cps.toList, c < 0x110000
theorem x6 {s : Str} (h : nL s) : PyData.canLay0 (.str s) = true := by
 show s.cps.all (· < 0x110000) = true
 rw [Array.all_eq_true']
 intro c hc
 exact decide_eq_true (h.2 c (by simpa using hc))
theorem kz : ∀ {ss : List Str}, (∀ x ∈ ss, nL x) -> PyData.canLayAll0 (ss.map PyData.str) = true
 | [], _ => rfl
 | x :: r, h => by
   simp only [List.map_cons, PyData.canLayAll0, x6 (h x List.mem_cons_self), Bool.true_and]
   exact kz fun y hy => h y (List.mem_cons_of_mem _ hy)
theorem jN : ∀ ws : List Str, PyData.depthAll (ws.map PyData.str) <= 1
 | [] => by simp [PyData.depthAll]
 | _ :: r => by have := jN r; simp only [List.map_cons, PyData.depthAll, PyData.depth]; omega
theorem kG {K : PySem.W.Frag} {H : Hp} {Q : VK} {f : Bool -> Bool} {x y : V} {ss : List Str} (h1 : Dv H x (.list (ss.map PyData.str))) (h2 : Dv H y (.list (ss.map PyData.str))) (hs : ∀ x ∈ ss, nL x) (h : Q (.bl (f true)) H) : oi K f x y H Q := by
 have hl : PyData.canLay0 (.list (ss.map PyData.str)) = true := by rw [PyData.canLay0]; exact kz hs
 refine vm h1 h2 hl hl ?_ (by rw [PySem.SeqAt.eqv_refl _ hl]; exact h)
 have := jN ss
 rw [PyData.depth]; omega
theorem oU {K : PySem.W.Frag} {H : Hp} {Q : VK} {f : Bool -> Bool} {x y : V} {ss : List Str} (h1 : Dv H x (.list (ss.map PyData.str))) (h2 : Dv H y (.list [])) (hs : ∀ x ∈ ss, nL x) (h : Q (.bl (f ss.isEmpty)) H) : oi K f x y H Q := by
 have e : PyData.eqv (.list (ss.map PyData.str)) (.list []) = ss.isEmpty := by cases ss <;> rfl
 refine vm h1 h2 (by rw [PyData.canLay0]; exact kz hs) rfl ?_ (by rw [e]; exact h)
 have := jN ss
 rw [PyData.depth]; omega
theorem rp {x y : Str} (h : x.cps = y.cps) : x = y := by cases x; cases y; simp at h; rw [h]
theorem q0 (x y : Str) : (x ++ y).cps = x.cps ++ y.cps := rfl
theorem A8 {K : PySem.W.Frag} {H : Hp} {Q : VK} {i : Int} (h0 : 0 <= i) (h1 : i < 26) (h : Q (.str ⟨#[97 + i.toNat]⟩) H) : sH K (.str "abcdefghijklmnopqrstuvwxyz") (.int i) H Q := by
 obtain ⟨m, rfl⟩ := Int.eq_ofNat_of_zero_le h0
 have hm : m < 26 := by omega
 have e : (Str.cps "abcdefghijklmnopqrstuvwxyz").toList[m]? = some (97 + m) := by
  have z : ∀ m < 26, (Str.cps "abcdefghijklmnopqrstuvwxyz").toList[m]? = some (97 + m) := by decide
  exact z m hm
 exact zW (by decide) (ko e) h
theorem oP {z : Str} (hz : z.cps.size = 1) {n : Int} (h0 : 0 <= n) (h1 : n <= 6) : (jR z n).length = n.toNat /\ ∀ c ∈ (jR z n).cps.toList, c ∈ z.cps.toList := by
 obtain ⟨⟨l⟩⟩ := z
 match l, hz with
 | [c], _ =>
   have : n = 0 \/ n = 1 \/ n = 2 \/ n = 3 \/ n = 4 \/ n = 5 \/ n = 6 := by omega
   rcases this with rfl | rfl | rfl | rfl | rfl | rfl | rfl <;> exact ⟨rfl, by simp [jR, Str.empty, Str.length]⟩
theorem zZ {z : Str} {H : Hp} {Q : VK} {n : Int} (hz : z.cps.size = 1) (h0 : 0 <= n) (h1 : n <= 6) (h : (jR z n).length <= 20 -> Q (.str (jR z n)) H) : u0 (.str z) (.int n) H Q :=
 have e := (oP hz h0 h1).1
 A1 h0 (by omega) (by show z.cps.size <= 10; omega) (by omega) (h (by omega))
theorem Aj {i j : Str} {H : Hp} {Q : VK} (h1 : i.length <= 100) (h2 : j.length <= 100) (h : Q (.str (i ++ j)) H) : t5 (.str i) (.str j) H Q := vE (by omega) h
theorem len_one {c : Nat} : (⟨#[c]⟩ : Str).length <= 20 := by show 1 <= 20; omega
theorem len_app {i j : Str} {n m : Nat} (h1 : i.length <= n) (h2 : j.length <= m) : (i ++ j).length <= n + m := by
 have : (i ++ j).length = i.length + j.length := by show (i ++ j).cps.size = _; rw [q0, Array.size_append]; rfl
 omega
theorem A3 {i : Str} (h : i.length <= 20) : i.length <= 100 := by omega
set_option hygiene false in
local macro_rules | `(tactic| walk_at "sl1") => `(tactic| first
 | exact len_one
 | assumption
 | fail)
set_option hygiene false in
local macro_rules | `(tactic| walk_at "sl") => `(tactic| first
 | (refine A3 ?_; walk_at "sl1")
 | (refine Nat.le_trans (len_app (n := 20) (m := 20) ?_ ?_) (by decide) <;> walk_at "sl1")
 | fail)
local macro_rules | `(tactic| walk_at "rd1") => `(tactic| first
 | ((with_reducible refine' A8 ?e1 ?e2 ?_); (case e1 => omega); (case e2 => omega))
 | ((with_reducible refine' zZ ?e1 ?e2 ?e3 (fun _ => ?_)); (case e1 => exact rfl); (case e2 => omega); (case e3 => omega))
 | ((with_reducible refine' Aj ?e1 ?e2 ?_); (case e1 => walk_at "sl"); (case e2 => walk_at "sl"))
 | fail)
def pe (ts : List Addr) (K : PySem.W.Frag) : Sp := fun vs H Q _ => ∃ (l : Addr) (ns : List Int), vs = [.ref l] /\ dA K H l (ns.map V.int) /\ ns.length <= 63 /\ (∀ b ∈ ts, H b = some (.ix #[])) /\ ∀ H', Q (.bl true) H'
theorem sR (T : Txt K mg a) (s : Shared) (u : Value) : BindsTo s a.mH ⟨[u], []⟩ [("_law_script", u)] := by
 obtain ⟨oc, od, kV, doc, pm, an, dR, ct, rJ, e, lk, lJ⟩ := T.uD.ex
 rw [e]
 exact .of_eq rfl
theorem kA (T : Txt K mg a) : bR P w K mg base ik 1 a.a8 a.gJ ["_law_script", "_law_k"] (pI K) := by
 refine T.eF.ok kd (fun vs H Q E h => ?_) (fun dR A outer s H vs Q E hr h => ?_)
 . obtain ⟨_, _, _, rfl, _⟩ := h; rfl
 . obtain ⟨l, ns, i, rfl, hl, h0, k⟩ := h
   refine ⟨_, (aj (cI (aI yl (pv 1) (b7 cW rfl T.eB PySem.boot_len (af (pv 0) ai)) (a7 _))
    (ao (aL (dn gs (pv 0) (pv 1) (fun _ _ => rfl))))
    aU)
    (ao (aL aq))), ?_⟩
   repeat' (walk_at "rd1")
   . exact Ek hl (xS h0 (by assumption)) k
   . rw [wa h0 (by assumption)] at k; exact k
theorem kh (T : Txt K mg a) : iN P w K mg base 1 a.a8 ["_law_script", "_law_k"] [] (pI K) :=
 ⟨⟨_, _, kA T, T.eF.binds fun _ _ _ _ _ _ => .all fun us hl => match us, hl with | [_, _], _ => rfl, .nil⟩⟩
local macro_rules | `(tactic| walk_at "use") => `(tactic| first
 | ((with_reducible refine' Bp ?e1 ?e2 ?_); (case e1 => walk_at "sql"); (case e2 => omega))
 | fail)
theorem wj {K : PySem.W.Frag} {H : Hp} {Q : VK} {v : V} {ss : List Str} {i : Int} (hp : Dv H v (.list (ss.map PyData.str))) (h0 : i = -1 /\ ss ≠ [] \/ 0 <= i /\ i < ss.length) (h : ∀ n ∈ ss, Q (.str n) H) : sH K v (.int i) H Q := by
 rcases h0 with ⟨rfl, h0⟩ | ⟨h0, h1⟩
 . rw [<- List.dropLast_concat_getLast h0] at hp
   refine rk (.inr hp) (d := .str (ss.getLast h0)) (by rw [List.map_append]; exact uw _ _) (nr (h _ (List.getLast_mem h0)))
 . obtain ⟨m, rfl⟩ := Int.eq_ofNat_of_zero_le h0
   have hi : m < ss.length := by omega
   have e : md (ss.map PyData.str) (m : Int) = some (.str ss[m]) := ko (by rw [List.getElem?_map, List.getElem?_eq_getElem hi]; rfl)
   exact rk (.inr hp) e (nr (h _ (List.getElem_mem hi)))
theorem getD_mem {ss : List Str} {i : Nat} (h : i < ss.length) : ss.getD i default ∈ ss := by
 rw [List.getD_eq_getElem?_getD, List.getElem?_eq_getElem h]
 exact List.getElem_mem h
theorem ji {ms : List (Str × PyData)} {k : Str} : jh ms k = ms.any fun kv => decide (kv.1 = k) := by
 unfold jh bF
 rw [Option.isSome_map]
 induction ms with
 | nil => rfl
 | cons x r ih =>
   rw [List.find?_cons, List.any_cons]
   by_cases e : x.1 = k
   . simp [e]
   . simp only [e, decide_false, Bool.false_or]; exact ih
theorem km {ms : List (Str × PyData)} {n k : Str} {d : PyData} : jh (putD ms n d) k = (jh ms k || decide (k = n)) := by
 rw [ji, ji]
 unfold putD
 by_cases h : (ms.any fun kv => decide (kv.1 = n)) = true
 . rw [if_pos h, List.any_map]
   by_cases e : k = n
   . subst e
     rw [h]
     simp only [Bool.true_or]
     rw [List.any_eq_true] at h ⊢
     obtain ⟨x, hx, e⟩ := h
     have e' : x.1 = k := by simpa using e
     exact ⟨x, hx, by simp [e']⟩
   . simp only [e, decide_false, Bool.or_false]
     congr 1
     funext x
     simp only [Function.comp]
     split <;> rfl
 . rw [if_neg h, List.any_append]
   congr 1
   simp [eq_comm]
theorem k7 {ms : List (Str × PyData)} {n k : Str} : jh (cB ms n) k = (jh ms k && !decide (k = n)) := by
 rw [ji, ji]
 unfold cB
 induction ms with
 | nil => rfl
 | cons x r ih =>
   rw [List.filter_cons, List.any_cons]
   by_cases h : x.1 = n
   . by_cases e : k = n
     . subst e; simp [h] at ih ⊢
     . have : ¬ n = k := fun z => e z.symm
       simp only [h, ne_eq, not_true, decide_false, Bool.false_eq_true, if_false, ih, this, Bool.false_or]
   . by_cases e : x.1 = k
     . have : ¬ k = n := fun z => h (e.trans z)
       simp [h, e, this]
     . simp only [h, e, ne_eq, not_false_eq_true, decide_true, if_true, List.any_cons, ih, decide_false, Bool.false_or]
theorem cR.Ez {C : Addr} {H H' : Hp} {v : V} {d1 d2 q : Addr} {m ms : List (Str × PyData)} {ds : List PyData} (h : cR C H v d1 d2 m ms) (hq : cM H q ds) (mv : Mv [q] H H') : cR C H' v d1 d2 m ms := by
 refine ⟨?_, h.ab.mv mv (by simpa using h.ab.pV hq), h.e7.mv mv (by simpa using h.e7.pV hq), h.ne⟩
 obtain ⟨p, dx, rfl, e⟩ := h.ins
 obtain ⟨xs, e2, _⟩ := hq
 exact ⟨p, dx, rfl, mv.at (by simpa using d9 e e2 (by intro z; cases z)) e⟩
theorem qv {m : List (Str × PyData)} {n k : Str} {d e : PyData} (h : bF m n = some e) : bF (m ++ [(k, d)]) n = some e := by
 unfold bF at h ⊢
 rw [List.find?_append]
 cases hf : m.find? (fun kv => decide (kv.1 = n)) with
 | none => rw [hf] at h; cases h
 | some x => rw [hf] at h; exact h
theorem kr {m : List (Str × PyData)} {k : Str} {d : PyData} (h : bF m k = none) : bF (m ++ [(k, d)]) k = some d := by
 unfold bF at h ⊢
 rw [List.find?_append]
 rw [Option.map_eq_none_iff] at h
 rw [h]
 simp
theorem Chain.app {m : List (Str × PyData)} {n k : Str} {d : PyData} {c : List Str} (h : Chain m n c) : Chain (m ++ [(k, d)]) n c := by
 induction h with
 | top e => exact .top (qv e)
 | up e _ ih => exact .up (qv e) ih
theorem fE {m : List (Str × PyData)} {n : Str} (h : n ∉ m.map (·.1)) : bF m n = none := by
 unfold bF
 rw [Option.map_eq_none_iff, List.find?_eq_none]
 intro x hx
 have : x.1 ≠ n := fun e => h (List.mem_map.mpr ⟨x, hx, e⟩)
 simpa using this
structure p6 (nm : Int -> Str) (m : List (Str × PyData)) : Prop where
 nm : ∀ (i : Nat) x, m[i]? = some x -> x.1 = nm i
 ch : ∀ n ∈ m.map (·.1), ∃ c, Chain m n c /\ c.length <= 8
 top : ∀ x, m[0]? = some x -> x.2 = .none
 len : m.length <= 40
structure uY (nm : Int -> Str) : Prop where
 inj : ∀ {k j : Int}, 0 <= k -> k < 41 -> 0 <= j -> j < 41 -> nm k = nm j -> k = j
 ok : ∀ {k : Int}, 0 <= k -> k < 41 -> nL (nm k)
theorem p6.nil {nm : Int -> Str} : p6 nm [] := ⟨fun i x h => by simp at h, fun n h => by simp at h, fun x h => by simp at h, Nat.zero_le _⟩
theorem p6.EV {nm : Int -> Str} {m : List (Str × PyData)} (h : p6 nm m) (hn : uY nm) : ∀ x ∈ m.map (·.1), nL x := by
 intro x hx
 obtain ⟨y, hy, rfl⟩ := List.mem_map.mp hx
 obtain ⟨i, hi, e⟩ := List.getElem_of_mem hy
 have := h.nm i y (by rw [List.getElem?_eq_getElem hi, e])
 rw [this]
 exact hn.ok (by omega) (by have := h.len; omega)
theorem p6.nd {nm : Int -> Str} {m : List (Str × PyData)} (h : p6 nm m) (hn : uY nm) : (m.map (·.1)).Nodup := by
 rw [List.nodup_iff_pairwise_ne, List.pairwise_iff_getElem]
 intro i j hi hj lA e
 rw [List.length_map] at hi hj
 rw [List.getElem_map, List.getElem_map, h.nm i _ (List.getElem?_eq_getElem hi), h.nm j _ (List.getElem?_eq_getElem hj)] at e
 have := h.len
 have := hn.inj (by omega) (by omega) (by omega) (by omega) e
 omega
theorem p6.vS {nm : Int -> Str} {m : List (Str × PyData)} (h : p6 nm m) (hn : uY nm) : il m := by
 refine ⟨fun n hs => ?_, h.nd hn, by have := h.len; omega⟩
 have : n ∈ m.map (·.1) := by
  rcases Classical.em (n ∈ m.map (·.1)) with z | z
  . exact z
  . rw [fE z] at hs; cases hs
 obtain ⟨c, hc, hl⟩ := h.ch n this
 exact ⟨c, hc, by omega⟩
theorem p6.fresh {nm : Int -> Str} {m : List (Str × PyData)} (h : p6 nm m) (hn : uY nm) : bF m (nm m.length) = none := by
 refine fE fun hx => ?_
 obtain ⟨y, hy, e⟩ := List.mem_map.mp hx
 obtain ⟨i, hi, e2⟩ := List.getElem_of_mem hy
 have := h.nm i y (by rw [List.getElem?_eq_getElem hi, e2])
 rw [this] at e
 have hl := h.len
 have := hn.inj (by omega) (by omega) (by omega) (by omega) e
 omega
theorem p6.snoc {nm : Int -> Str} {m : List (Str × PyData)} {x : V} {d : PyData} (h : p6 nm m) (hn : uY nm) (hl : m.length < 40) (ha : u6 m x d) : p6 nm (m ++ [(nm m.length, d)]) := by
 have hf := h.fresh hn
 refine ⟨fun i y hy => ?_, fun n hn => ?_, fun y hy => ?_, by rw [List.length_append]; simp; omega⟩
 . by_cases hi : i < m.length
   . rw [List.getElem?_append_left hi] at hy
     exact h.nm i y hy
   . rw [List.getElem?_append_right (by omega)] at hy
     have vN : i - m.length = 0 := by
      have := (List.getElem?_eq_some_iff.mp hy).1
      simp at this
      omega
     rw [vN] at hy
     simp at hy
     subst hy
     show nm m.length = nm i
     congr 1
     omega
 . rw [List.map_append, List.mem_append] at hn
   rcases hn with hn | hn
   . obtain ⟨c, hc, hl⟩ := h.ch n hn
     exact ⟨c, hc.app, hl⟩
   . have : n = nm m.length := by simpa using hn
     subst this
     rcases ha with ⟨_, rfl⟩ | ⟨b, c, _, rfl, hc, gX⟩
     . exact ⟨_, .top (kr hf), by simp⟩
     . exact ⟨_, .up (kr hf) hc.app, by simp; omega⟩
 . cases m with
   | nil =>
     rcases ha with ⟨_, rfl⟩ | ⟨b, c, _, rfl, hc, gX⟩
     . simp at hy; rw [<- hy]
     . have := hc.has
       simp [bF] at this
   | cons z r => exact h.top y (by simpa using hy)
theorem p6.first {nm : Int -> Str} {z : Str × PyData} {r : List (Str × PyData)} (h : p6 nm (z :: r)) : Chain (z :: r) z.1 [z.1] := by
 refine .top ?_
 have := h.top z (by simp)
 unfold bF
 simp [this]
theorem uR {C : Addr} {H : Hp} {Q : VK} {E : XK} {us : List V} (e : us = []) (k : ∀ v H2 d1 d2, az H H2 -> H d1 = none -> H d2 = none -> cR C H2 v d1 d2 [] [] -> Q v H2) : nU C (jA C) us H Q E := by subst e; exact xG k
set_option hygiene false in
local macro_rules | `(tactic| walk_at "rd1") => `(tactic| first
 | with_reducible refine uR rfl (fun _ _ _ _ _ _ _ _ => ?_)
 | fail)
theorem tZ {C : Addr} {H : Hp} {Q : VK} {E : XK} {v : V} {d1 d2 : Addr} {m ms : List (Str × PyData)} {n : Str} (h : cR C H v d1 d2 m ms) (hc : ∃ c, Chain m n c /\ c.length <= 8) (q : ∀ c, Chain m n c -> c.length <= 8 -> ∀ q H', az H H' -> H q = none -> cM H' q (c.map PyData.str) -> Q (.ref q) H') : i6 C [v, .str n] H Q E := by
 obtain ⟨c, hc, hl⟩ := hc
 exact rl h.rd hc (by omega) (q c hc hl)
local macro_rules | `(tactic| walk_at "mvS") => `(tactic| first
 | assumption
 | (refine' Mv.g5 ?m ?s; (case s => assumption); (case m => walk_at "mvS"))
 | (refine' Mv.step ?m ?s ?k; (case s => assumption); (case m => walk_at "mvS"); (case k => (intro b hb; rw [List.mem_singleton.mp hb]; exact Or.inl (by simp))))
 | fail)
theorem uF {K : PySem.W.Frag} {H : Hp} {Q : VK} {f : Bool -> Bool} {x y : V} {ss : List Str} (h1 : Dv H x (.list (ss.map PyData.str))) (h2 : Dv H y (.list [])) (hs : ∀ x ∈ ss, nL x) (nQ : ss ≠ []) (h : Q (.bl (f false)) H) : oi K f x y H Q := oU h1 h2 hs (by cases ss with | nil => exact absurd rfl nQ | cons => exact h)
theorem vg {K : PySem.W.Frag} {H : Hp} {Q : VK} {f : Bool -> Bool} {x y : V} (h1 : Dv H x (.list (([] : List Str).map PyData.str))) (h2 : Dv H y (.list [])) (h : Q (.bl (f true)) H) : oi K f x y H Q := oU h1 h2 (by simp) h
local macro_rules | `(tactic| walk_at "gat") => `(tactic| first
 | (refine' cR.Ez ?m ?l ?s; (case s => assumption); (case m => walk_at "gat"); (case l => walk_at "lat"))
 | fail)
local macro_rules | `(tactic| walk_at "ins") => `(tactic| first
 | (refine' cR.ins (d1 := _) (d2 := _) (m := _) (ms := _) ?m; (case m => walk_at "gat"))
 | fail)
set_option hygiene false in
local macro_rules | `(tactic| walk_at "abok") => `(tactic| first
 | exact Or.inl ⟨rfl, rfl⟩
 | exact Or.inr ⟨_, _, rfl, rfl, by assumption, by first | omega | simp⟩
 | fail)
local macro_rules | `(tactic| walk_at "rd1") => `(tactic| first
 | ((with_reducible refine' vg ?e1 ?e2 ?_); (case e1 => walk_at "dat"); (case e2 => walk_at "dat"))
 | ((with_reducible refine' uF ?e1 ?e2 ?e3 ?e4 ?_); (case e1 => walk_at "dat"); (case e2 => walk_at "dat"); (case e3 => assumption); (case e4 => assumption))
 | fail)
def sV (n : Nat) (x : Str) : Prop := x.length <= n /\ ∀ c ∈ x.cps.toList, c < 0x110000
theorem sV.EV {n : Nat} {x : Str} (h : sV n x) (hn : n <= 100) : nL x := ⟨Nat.le_trans h.1 hn, h.2⟩
theorem hZ {i : Nat} (h : i < 26) : sV 1 ⟨#[97 + i]⟩ := ⟨Nat.le_refl _, fun c hc => by simp at hc; omega⟩
theorem sV.app {n m : Nat} {x y : Str} (h : sV n x) (k : sV m y) : sV (n + m) (x ++ y) := ⟨len_app h.1 k.1, fun c hc => by
 rw [q0, Array.toList_append, List.mem_append] at hc
 rcases hc with hc | hc
 . exact h.2 c hc
 . exact k.2 c hc⟩
theorem qp {n : Int} (h0 : 0 <= n) (h1 : n <= 6) : sV 6 (jR "d" n) := by
 obtain ⟨hl, hm⟩ := oP (z := "d") rfl h0 h1
 refine ⟨by omega, fun c hc => ?_⟩
 have := hm c hc
 have e : (Str.cps "d").toList = [100] := rfl
 rw [e] at this
 simp at this
 omega
theorem FG {n : Int} {i j : Nat} (h0 : 0 <= n) (h1 : n <= 6) (hi : i < 26) (hj : j < 26) : nL ((jR "d" n ++ ⟨#[97 + i]⟩) ++ ⟨#[97 + j]⟩) := sV.EV (((qp h0 h1).app (hZ hi)).app (hZ hj)) (by decide)
theorem G4 {n : Int} {i j : Nat} (h0 : 0 <= n) (h1 : n <= 6) (hi : i < 26) (hj : j < 26) : nL ((⟨#[97 + i]⟩ ++ ⟨#[97 + j]⟩) ++ jR "d" n) := sV.EV (((hZ hi).app (hZ hj)).app (qp h0 h1)) (by decide)
def nV : Sp := fun vs H Q _ => ∃ c k, vs = [.int c, .int k] /\ 0 <= k /\ k <= 1000 /\ ∀ r, 0 <= r -> Q (.int r) H
theorem tW (T : Txt K mg a) : bR P w K mg base ik 1 a.bM a.iH ["_law_cell", "_law_k"] nV := by
 refine T.fY.ok fz (fun vs H Q E h => ?_) (fun dR A outer s H vs Q E hr h => ?_)
 . obtain ⟨_, _, rfl, _⟩ := h; rfl
 . obtain ⟨c, k, rfl, h0, h1, q⟩ := h
   refine ⟨_, (aj (aF (i := 2) fz.nd rfl (Or.inl rfl) (aB aM (aB za (aB kB (aB kB (pv 0) (aB kq aq (pv 1))) aq) aq) aq))
    (aj (aF (i := 2) fz.nd rfl (Or.inl rfl) (aB aM (aB kq (pv 2) (aB kB (aB aY (pv 2) aq) aq)) aq))
    (ao (aL (aB aM (aB kq (pv 2) (aB kB (aB aY (pv 2) aq) aq)) aq))))), ?_⟩
   repeat' (walk_at "rd1")
   refine HH (.inr ⟨by decide, by decide⟩) ?_
   repeat' (walk_at "rd1")
   rename_i b1 b2
   exact q _ b1
theorem sk (T : Txt K mg a) : iN P w K mg base 1 a.bM ["_law_cell", "_law_k"] [] nV :=
 ⟨⟨_, _, tW T, T.fY.binds fun _ _ _ _ _ _ => .all fun us hl => match us, hl with | [_, _], _ => rfl, .nil⟩⟩
def oh : Sp := fun vs H Q _ => ∃ (c w : Int) (m : Nat), vs = [.int c, .int (m : Int), .int w] /\ m <= 4 /\ ∀ q H' (ds : List Int), az H H' -> H q = none -> cM H' q (ds.map PyData.int) -> ds.length = m -> (∀ d ∈ ds, 0 <= d) -> Q (.ref q) H'
theorem ux (T : Txt K mg a) : bR P w K mg base ik 2 a.bK a.iA ["_law_cell", "_law_many", "_law_way"] oh := by
 have mK := sk (P := P) (w := w) (base := base) T
 refine T.fR.ok dI (fun vs H Q E h => ?_) (fun dR A outer s H vs Q E hr h => ?_)
 . obtain ⟨_, _, _, rfl, _⟩ := h; rfl
 . obtain ⟨c, w', m, rfl, hm, q⟩ := h
   refine ⟨_, (aj (aF (i := 3) dI.nd rfl (Or.inl rfl) (fc ai))
    (aj (iW PassesOwn.never rfl (ml rfl T.hV (af (pv 1) ai)) (cT (i := 4) dI.nd rfl (Or.inl rfl))
     (ao (cI (aI (dF hr.nJ) (aB aM (pv 2) aq) aq (a7 _))
      (aj (bE (l0 PySem.F.plainAttrs_list PySem.F.slot_list_append PySem.F.type_list_append ie (pv 3) (af (aB aM (pv 0) (aB uc aq aq)) ai)))
      (ao (aF (i := 0) dI.nd rfl (Or.inl rfl) (aB aY (pv 0) (aB uc aq aq)))))
      (ao (bE (l0 PySem.F.plainAttrs_list PySem.F.slot_list_append PySem.F.type_list_append ie (pv 3) (af (cw mK (hr.mono (by decide)) rfl T.iz T.iI (af (pv 0) (af (pv 4) ai))) ai)))))))
    (ao (aL (pv 3))))), ?_⟩
   repeat' (walk_at "rd1")
   rename_i ql H1 lI kj Ks
   refine mj (fun j σ' H' => ∃ c' z ds, σ' = [some (.int c'), some (.int (m : Int)), some (.int w'), some (.ref ql), z] /\ Mv [ql] H1 H' /\ cM H' ql (ds.map PyData.int) /\ ds.length = j /\ (∀ d ∈ ds, 0 <= d)) ⟨c, _, [], rfl, Mv.refl, Ks, rfl, fun d h => nomatch h⟩ ?_ ?_
   . rintro j σ' H' hj ⟨c', z, ds, rfl, mv, hq, Dj, BU⟩
     rw [Int.toNat_natCast] at hj
     have LU : (ds.map PyData.int).length = ds.length := List.length_map ..
     have fin : ∀ (r c2 : Int) H2, 0 <= r -> Mv [ql] H' H2 -> cM H2 ql (ds.map PyData.int ++ [.int r]) -> ∀ z, ∃ c' z', ∃ F7 : List Int, ([some (.int c2), some (.int (m : Int)), some (.int w'), some (.ref ql), z] : St) = [some (.int c'), some (.int (m : Int)), some (.int w'), some (.ref ql), z'] /\ Mv [ql] H1 H2 /\ cM H2 ql (F7.map PyData.int) /\ F7.length = j + 1 /\ ∀ d ∈ F7, 0 <= d := by
      intro r c2 H2 hr gM DF z
      refine ⟨c2, z, ds ++ [r], rfl, mv.trans gM, by rw [List.map_append]; exact DF, by rw [List.length_append, Dj]; rfl, fun d hd => ?_⟩
      rcases List.mem_append.mp hd with hd | hd
      . exact BU d hd
      . rw [List.mem_singleton.mp hd]; exact hr
     repeat' (walk_at "rd1")
     . rename_i _ _ _ b0 _ H2 gM DF
       exact fin _ _ H2 b0 gM DF _
     . refine ⟨c', _, rfl, by omega, by omega, fun r hr => ?_⟩
       repeat' (walk_at "rd1")
       rename_i H2 gM DF
       exact fin _ _ H2 hr gM DF _
   . rintro σ' H' ⟨c', z, ds, rfl, mv, hq, Dj, BU⟩
     repeat' (walk_at "rd1")
     exact q ql H' ds (Mv.yn lI mv kj) kj hq (by rw [Dj, Int.toNat_natCast]) BU
theorem si (T : Txt K mg a) : iN P w K mg base 2 a.bK ["_law_cell", "_law_many", "_law_way"] [] oh :=
 ⟨⟨_, _, ux T, T.fR.binds fun _ _ _ _ _ _ => .all fun us hl => match us, hl with | [_, _, _], _ => rfl, .nil⟩⟩
def qC : Sp := fun vs H Q _ => ∃ d : Int, vs = [.int d] /\ ∀ x : Str, sV 8 x -> Q (.str x) H
theorem xM (T : Txt K mg a) : bR P w K mg base ik 1 a.bW a.ja ["_law_draw"] qC := by
 refine T.gT.ok cL (fun vs H Q E h => ?_) (fun dR A outer s H vs Q E hr h => ?_)
 . obtain ⟨_, rfl, _⟩ := h; rfl
 . obtain ⟨d, rfl, q⟩ := h
   refine ⟨_, (aj (aF (i := 1) cL.nd rfl (Or.inl rfl) (dn gs kU (aB aM (aB aY (pv 0) aq) aq) (fun _ _ => rfl)))
    (aj (aF (i := 2) cL.nd rfl (Or.inl rfl) (aB aY (pv 0) aq))
    (aj (iW PassesOwn.never rfl (ml rfl T.hV (af (aB aM (pv 0) aq) ai)) (cT (i := 3) cL.nd rfl (Or.inl rfl))
     (aj (aF (i := 1) cL.nd rfl (Or.inl rfl) (aB jd (pv 1) (dn gs kU (aB aM (pv 2) aq) (fun _ _ => rfl))))
     (ao (aF (i := 2) cL.nd rfl (Or.inl rfl) (aB aY (pv 2) aq)))))
    (ao (aL (pv 1)))))), ?_⟩
   repeat' (walk_at "rd1")
   refine mj (fun j σ' H' => H' = H /\ ∃ x r z, σ' = [some (.int d), some (.str x), some (.int r), z] /\ sV (1 + j) x) ⟨rfl, _, _, _, rfl, hZ (by omega)⟩ ?_ ?_
   . rintro j σ' H' hj ⟨rfl, x, r, z, rfl, hx⟩
     have KO : x.length <= 20 := by have := hx.1; omega
     repeat' (walk_at "rd1")
     exact ⟨rfl, _, _, _, rfl, by have := hx.app (hZ (i := (r % 26).toNat) (by omega)); rw [show 1 + (j + 1) = 1 + j + 1 by omega]; exact this⟩
   . rintro σ' H' ⟨rfl, x, r, z, rfl, hx⟩
     repeat' (walk_at "rd1")
     exact q _ ⟨Nat.le_trans hx.1 (by omega), hx.2⟩
theorem uJ (T : Txt K mg a) : iN P w K mg base 1 a.bW ["_law_draw"] [] qC :=
 ⟨⟨_, _, xM T, T.gT.binds fun _ _ _ _ _ _ => .all fun us hl => match us, hl with | [_], _ => rfl, .nil⟩⟩
def kL : Sp := fun vs H Q _ => ∃ (k st d : Int) (p : Addr) (N : List Str), vs = [.int k, .int st, .ref p, .int d] /\ 0 <= k /\ k < 60 /\ cM H p (N.map PyData.str) /\ N.length <= 60 /\ ∀ x : Str, nL x -> Q (.str x) H
theorem xW {H : Hp} {Q : VK} {E : XK} {k st d : Int} {p : Addr} {N : List Str} (h0 : 0 <= k) (h1 : k < 60) (h : cM H p (N.map PyData.str)) (hl : N.length <= 60) (q : ∀ x : Str, nL x -> Q (.str x) H) : kL [.int k, .int st, .ref p, .int d] H Q E := ⟨k, st, d, p, N, rfl, h0, h1, h, hl, q⟩
theorem vv (T : Txt K mg a) : bR P w K mg base ik 2 a.bV a.jk ["_law_k", "_law_style", "_law_names", "_law_draw"] kL := by
 have oJ := uJ (P := P) (w := w) (base := base) T
 refine T.hX.ok dz (fun vs H Q E h => ?_) (fun dR A outer s H vs Q E hr h => ?_)
 . obtain ⟨_, _, _, _, _, rfl, _⟩ := h; rfl
 . obtain ⟨k, st, d, p, N, rfl, h0, h1, hp, hl, q⟩ := h
   refine ⟨_, (aj (aF (i := 4) dz.nd rfl (Or.inl rfl) kU)
    (aj (aF (i := 5) dz.nd rfl (Or.inl rfl) (cw oJ (hr.mono (by decide)) rfl T.jw T.je (af (pv 3) ai)))
    (aj (cI (PW.pt (AY (aI (dF hr.nJ) (aB aM (pv 1) aq) aq (a7 _)) (w4 (aI fN (pv 5) (pv 2) rfl))))
     (ao (aL (pv 5)))
     aU)
    (aj (aF (i := 5) dz.nd rfl (Or.inl rfl) (aB jd (aB jd (aB qT kU (aB aM (aB aY (pv 1) aq) aq)) (dn gs (pv 4) (aB aY (pv 0) aq) (fun _ _ => rfl))) (dn gs (pv 4) (aB zo aq (aB aM (pv 0) aq)) (fun _ _ => rfl))))
    (aj (cI (aI (dF hr.nJ) (aB aM (pv 1) aq) aq (a7 _))
     (ao (aF (i := 5) dz.nd rfl (Or.inl rfl) (aB jd (aB jd (dn gs (pv 4) (aB aM (pv 0) aq) (fun _ _ => rfl)) (dn gs (pv 4) (aB aY (pv 0) aq) (fun _ _ => rfl))) (aB qT kU (aB aM (aB aY (pv 1) aq) aq)))))
     aU)
    (ao (aL (pv 5)))))))), ?_⟩
   repeat' (walk_at "rd1")
   refine ⟨_, rfl, fun x hx => ?_⟩
   repeat' (walk_at "rd1")
   all_goals (refine q _ ?_)
   all_goals first
    | with_reducible exact hx.EV (by decide)
    | ((with_reducible refine FG ?_ ?_ ?_ ?_) <;> omega)
    | ((with_reducible refine G4 ?_ ?_ ?_ ?_) <;> omega)
theorem sL (T : Txt K mg a) : iN P w K mg base 2 a.bV ["_law_k", "_law_style", "_law_names", "_law_draw"] [] kL :=
 ⟨⟨_, _, vv T, T.hX.binds fun _ _ _ _ _ _ => .all fun us hl => match us, hl with | [_, _, _, _], _ => rfl, .nil⟩⟩
theorem ei {m : List (Str × PyData)} {n : Str} (h : (bF m n).isSome = true) : n ∈ m.map (·.1) := by
 rcases Classical.em (n ∈ m.map (·.1)) with z | z
 . exact z
 . rw [fE z] at h; cases h
theorem ou {ms : List (Str × PyData)} {k : Str} : jh ms k = true ↔ k ∈ ms.map (·.1) := ⟨fun h => ei h, fun h => bo h⟩
theorem mF : ∀ {xs ys : List Str}, xs.Nodup -> (∀ x ∈ xs, x ∈ ys) -> xs.length <= ys.length
 | [], _, _, _ => Nat.zero_le _
 | x :: xs, ys, h, hs => by
   have hx := hs x List.mem_cons_self
   have h1 := List.nodup_cons.mp h
   have := mF (xs := xs) (ys := ys.erase x) h1.2 fun y hy => (List.mem_erase_of_ne (show y ≠ x from fun e => h1.1 (by rw [<- e]; exact hy))).mpr (hs y (List.mem_cons_of_mem _ hy))
   rw [List.length_erase_of_mem hx] at this
   have := List.length_pos_of_mem hx
   simp only [List.length_cons]
   omega
structure GI (m ms : List (Str × PyData)) : Prop where
 ch : ∀ n ∈ m.map (·.1), ∃ c, Chain m n c /\ c.length <= 8
 nd : (m.map (·.1)).Nodup
 len : m.length <= 40
 ok : ∀ n ∈ m.map (·.1), nL n
 e7 : ∀ k, jh ms k = true -> k ∈ m.map (·.1)
 nm : (ms.map (·.1)).Nodup
theorem GI.nil : GI [] [] := ⟨fun n h => by simp at h, .nil, Nat.zero_le _, fun n h => by simp at h, fun k h => by simp [jh, bF] at h, .nil⟩
section
variable {m ms m2 fB : List (Str × PyData)} {n k : Str} {ss : List Str}
theorem GI.vS (h : GI m ms) : il m := ⟨fun n hs => let ⟨c, hc, hl⟩ := h.ch n (ei hs); ⟨c, hc, by omega⟩, h.nd, by have := h.len; omega⟩
theorem GI.Dx (h : GI m ms) : ms.length <= 40 := by
 have := mF h.nm fun x hx => h.e7 x (ou.mpr hx)
 rw [List.length_map, List.length_map] at this
 have := h.len
 omega
theorem GI.add {x : V} {d : PyData} (h : GI m ms) (hl : m.length < 40) (hn : bF m n = none) (hs : nL n) (ha : u6 m x d) : GI (m ++ [(n, d)]) ms := by
 have hk : (m ++ [(n, d)]).map (·.1) = m.map (·.1) ++ [n] := by rw [List.map_append]; rfl
 refine ⟨fun y hy => ?_, ?_, by rw [List.length_append]; simp; omega, fun y hy => ?_, fun y hy => ?_, h.nm⟩
 . rw [hk, List.mem_append] at hy
   rcases hy with hy | hy
   . obtain ⟨c, hc, hl⟩ := h.ch y hy
     exact ⟨c, hc.app, hl⟩
   . rw [List.mem_singleton.mp hy]
     rcases ha with ⟨_, rfl⟩ | ⟨b, c, _, rfl, hc, gX⟩
     . exact ⟨_, .top (kr hn), by simp⟩
     . exact ⟨_, .up (kr hn) hc.app, by simp; omega⟩
 . rw [hk, List.nodup_append]
   refine ⟨h.nd, by simp, fun a ha b hb e => ?_⟩
   rw [List.mem_singleton.mp hb] at e
   have := bo (e ▸ ha)
   rw [hn] at this; cases this
 . rw [hk, List.mem_append] at hy
   rcases hy with hy | hy
   . exact h.ok y hy
   . rw [List.mem_singleton.mp hy]; exact hs
 . rw [hk]; exact List.mem_append_left _ (h.e7 y hy)
theorem GI.put (h : GI m ms) (hn : n ∈ m.map (·.1)) : GI m (putD ms n (.bool true)) := by
 refine ⟨h.ch, h.nd, h.len, h.ok, fun k hk => ?_, ?_⟩
 . rw [km, Bool.or_eq_true] at hk
   rcases hk with hk | hk
   . exact h.e7 k hk
   . rw [of_decide_eq_true hk]; exact hn
 . unfold putD
   split
   . have e : (ms.map fun kv => if kv.1 = n then (kv.1, PyData.bool true) else kv).map (·.1) = ms.map (·.1) := by
      rw [List.map_map]
      refine List.map_congr_left fun x _ => ?_
      show (if x.1 = n then (x.1, PyData.bool true) else x).1 = x.1
      split <;> rfl
     rw [e]; exact h.nm
   . rename_i hh
     rw [List.map_append, List.nodup_append]
     refine ⟨h.nm, by simp, fun a ha b hb e => hh ?_⟩
     have FW : b = n := by simpa using hb
     rw [<- ji]
     exact ou.mpr (by rw [<- FW, <- e]; exact ha)
theorem GI.drop (h : GI m ms) : GI m (cB ms n) := by
 refine ⟨h.ch, h.nd, h.len, h.ok, fun k hk => ?_, ?_⟩
 . rw [k7, Bool.and_eq_true] at hk
   exact h.e7 k hk.1
 . exact (List.filter_sublist.map _).nodup h.nm
theorem bY : ∀ {ss : List Str} {m : List (Str × PyData)}, bj m ss = m.filter fun kv => decide (kv.1 ∉ ss)
 | [], m => (List.filter_eq_self.mpr fun x _ => by simp).symm
 | x :: r, m => by
   show bj (cB m x) r = _
   rw [bY]
   unfold cB
   rw [List.filter_filter]
   congr 1
   funext y
   by_cases e : y.1 = x
   . simp [e]
   . simp [e]
theorem jC : jh (bj ms ss) k = (jh ms k && decide (k ∉ ss)) := by
 unfold jh
 rw [dD]
 by_cases h : k ∈ ss
 . simp [h]
 . simp [h]
theorem Chain.sub {c : List Str} (h : Chain m n c) : ∀ {o : Str}, o ∈ c -> ∃ c', Chain m o c' /\ (∀ x ∈ c', x ∈ c) /\ c'.length <= c.length := by
 induction h with
 | top e =>
   intro o ho
   rw [List.mem_singleton.mp ho]
   exact ⟨_, .top e, fun x hx => hx, Nat.le_refl _⟩
 | @up n b c e hc ih =>
   intro o ho
   rcases List.mem_cons.mp ho with rfl | ho
   . exact ⟨_, .up e hc, fun x hx => hx, Nat.le_refl _⟩
   . obtain ⟨c', h1, h2, h3⟩ := ih ho
     exact ⟨c', h1, fun x hx => List.mem_cons_of_mem _ (h2 x hx), by simp; omega⟩
theorem Chain.bj {c : List Str} (h : Chain m n c) (hs : ∀ o ∈ c, o ∉ ss) : Chain (bj m ss) n c := by
 induction h with
 | top e => exact .top (by rw [dD, if_neg (hs _ List.mem_cons_self)]; exact e)
 | up e _ ih => exact .up (by rw [dD, if_neg (hs _ List.mem_cons_self)]; exact e) (ih fun o ho => hs o (List.mem_cons_of_mem _ ho))
theorem jT : k ∈ cF m n ↔ k ∈ m.map (·.1) /\ n ∈ nI 60 m k := by unfold cF; rw [List.mem_filter, List.contains_iff_mem]
theorem GI.Ae (h : GI m ms) (hp : ss.Perm (cF m n)) : GI (bj m ss) (bj ms ss) := by
 have hk : ∀ {z : List (Str × PyData)} {y : Str}, y ∈ (bj z ss).map (·.1) -> y ∈ z.map (·.1) /\ y ∉ ss := fun {z y} hy => by
  rw [bY, List.mem_map] at hy
  obtain ⟨x, hx, rfl⟩ := hy
  rw [List.mem_filter] at hx
  exact ⟨List.mem_map.mpr ⟨x, hx.1, rfl⟩, of_decide_eq_true hx.2⟩
 have JZ : ∀ {y : Str}, y ∈ m.map (·.1) -> y ∉ ss -> y ∈ (bj m ss).map (·.1) := fun {y} h1 h2 => by
  obtain ⟨x, hx, rfl⟩ := List.mem_map.mp h1
  rw [bY]
  exact List.mem_map.mpr ⟨x, List.mem_filter.mpr ⟨hx, decide_eq_true h2⟩, rfl⟩
 refine ⟨fun y hy => ?_, ?_, ?_, fun y hy => h.ok y (hk hy).1, fun y hy => ?_, ?_⟩
 . obtain ⟨h1, h2⟩ := hk hy
   obtain ⟨c, hc, hl⟩ := h.ch y h1
   have IQ : n ∉ c := fun hh => h2 (hp.mem_iff.mpr (jT.mpr ⟨h1, by rw [hc.fn (by omega)]; exact hh⟩))
   refine ⟨c, hc.bj fun o ho hh => ?_, hl⟩
   obtain ⟨c', h3, h4, h5⟩ := hc.sub ho
   have h6 := (jT.mp (hp.mem_iff.mp hh)).2
   rw [h3.fn (by omega)] at h6
   exact IQ (h4 _ h6)
 . rw [bY]; exact (List.filter_sublist.map _).nodup h.nd
 . rw [bY]; exact Nat.le_trans (List.length_filter_le _ _) h.len
 . rw [jC, Bool.and_eq_true] at hy
   exact JZ (h.e7 y hy.1) (of_decide_eq_true hy.2)
 . rw [bY]; exact (List.filter_sublist.map _).nodup h.nm
structure nD (m ms m2 fB : List (Str × PyData)) : Prop where
 l : ∀ k, bF m k = bF m2 k
 k : ∀ k, jh ms k = jh fB k
theorem mM (h : ∀ k, bF m k = bF m2 k) : ∀ {f : Nat} {n : Str}, nI f m n = nI f m2 n
 | 0, n => rfl
 | f + 1, n => by
   unfold nI
   rw [h n]
   split
   . rw [mM h]
   . rfl
theorem keys_perm (h : ∀ k, bF m k = bF m2 k) (h1 : (m.map (·.1)).Nodup) (h2 : (m2.map (·.1)).Nodup) : (m.map (·.1)).Perm (m2.map (·.1)) :=
 (List.perm_ext_iff_of_nodup h1 h2).mpr fun x => ⟨fun hx => ei (by rw [<- h]; exact bo hx), fun hx => ei (by rw [h]; exact bo hx)⟩
theorem z0 {s1 s2 : List Str} (h : ∀ k, bF m k = bF m2 k) (h1 : (m.map (·.1)).Nodup) (h2 : (m2.map (·.1)).Nodup) (o1 : nX m s1) (o2 : nX m2 s2) : s1 = s2 := by
 have e : kc m2 = kc m := by funext x; unfold kc; rw [mM h]
 have o3 := o2.2
 rw [e] at o3
 exact lu (o1.1.trans ((keys_perm h h1 h2).trans o2.1.symm)) o1.2 o3
theorem nz (h : ∀ k, bF m k = bF m2 k) (h1 : (m.map (·.1)).Nodup) (h2 : (m2.map (·.1)).Nodup) : (cF m n).Perm (cF m2 n) := by
 unfold cF
 rw [show (fun k => (nI 60 m k).contains n) = fun k => (nI 60 m2 k).contains n by funext k; rw [mM h]]
 exact (keys_perm h h1 h2).filter _
theorem nD.nK (h : nD m ms m2 fB) : nK m ms n = nK m2 fB n := by
 unfold My.nK
 rw [mM h.l, show jh ms = jh fB by funext k; exact h.k k]
theorem nD.AV {s1 s2 : List Str} (h : nD m ms m2 fB) (h1 : (m.map (·.1)).Nodup) (h2 : (m2.map (·.1)).Nodup) (a1 : j9 m ms n s1) (a2 : j9 m2 fB n s2) : s1 = s2 := by
 have p := (nz (n := n) h.l h1 h2).filter fun k => !My.nK m ms k
 have e : (fun k => !My.nK m ms k) = fun k => !My.nK m2 fB k := by funext k; rw [h.nK]
 have a3 := a2.2
 rw [<- e] at a3
 exact ic (a1.2.trans (p.trans a3.symm)) a1.1 a2.1
theorem nD.drop (h : nD m ms m2 fB) : nD m (cB ms n) m2 (cB fB n) := ⟨h.l, fun k => by rw [k7, k7, h.k]⟩
theorem nD.put (h : nD m ms m2 fB) : nD m (putD ms n (.bool true)) m2 (putD fB n (.bool true)) := ⟨h.l, fun k => by rw [km, km, h.k]⟩
theorem nD.bj (h : nD m ms m2 fB) : nD (bj m ss) (bj ms ss) (bj m2 ss) (bj fB ss) := ⟨fun k => by rw [dD, dD, h.l], fun k => by rw [jC, jC, h.k]⟩
theorem nD.wk {s1 s2 : List Str} (h : nD m ms m2 fB) (h1 : (m.map (·.1)).Nodup) (h2 : (m2.map (·.1)).Nodup) (a1 : tT m ms n s1) (a2 : tT m2 fB n s2) : s1 = s2 := by
 obtain ⟨x1, x2, p1, p2, rfl⟩ := a1
 obtain ⟨y1, y2, q1, q2, rfl⟩ := a2
 rw [h.AV h1 h2 p1 q1, h.drop.AV h1 h2 p2 q2]
def sM (b : Bool) (m ms : List (Str × PyData)) (n : Str) (ss : List Str) (oZ : List (Str × PyData)) : Prop := if b = true then j9 m ms n ss /\ oZ = putD ms n (.bool true) else tT m ms n ss /\ oZ = cB ms n
theorem sM.gi {b : Bool} {oZ : List (Str × PyData)} (h : sM b m ms n ss oZ) (g : GI m ms) (hn : n ∈ m.map (·.1)) : GI m oZ := by
 unfold sM at h
 split at h
 . rw [h.2]; exact g.put hn
 . rw [h.2]; exact g.drop
theorem sM.eq2 {b : Bool} {s2 : List Str} {oZ B8 : List (Str × PyData)} (h : sM b m ms n ss oZ) (k : sM b m2 fB n s2 B8) (e : nD m ms m2 fB) (h1 : (m.map (·.1)).Nodup) (h2 : (m2.map (·.1)).Nodup) : ss = s2 /\ nD m oZ m2 B8 := by
 unfold sM at h k
 split at h
 . rename_i hb
   rw [if_pos hb] at k
   rw [h.2, k.2]
   exact ⟨e.AV h1 h2 h.1 k.1, e.put⟩
 . rename_i hb
   rw [if_neg hb] at k
   rw [h.2, k.2]
   exact ⟨e.wk h1 h2 h.1 k.1, e.drop⟩
theorem sM.len {b : Bool} {oZ : List (Str × PyData)} (h : sM b m ms n ss oZ) (hm : il m) : ss.length <= 60 /\ ∀ x ∈ ss, x ∈ m.map (·.1) := by
 have aw : ∀ {z s}, j9 m z n s -> ∀ x ∈ s, x ∈ m.map (·.1) := fun {z s} ha x hx => (jT.mp (List.mem_filter.mp (ha.2.mem_iff.mp hx)).1).1
 unfold sM at h
 split at h
 . exact ⟨h.1.len hm, aw h.1⟩
 . obtain ⟨x1, x2, p1, p2, rfl⟩ := h.1
   exact ⟨Nat.le_trans (List.length_filter_le _ _) (p2.len hm), fun x hx => aw p2 x (List.mem_filter.mp hx).1⟩
end
local macro_rules | `(tactic| walk_at "use") => `(tactic| first
 | ((with_reducible refine' qZ ?e1 ?e2 ?e3 (fun _ _ _ _ _ _ _ _ => ?_)); (case e1 => walk_at "gat"); (case e2 => assumption); (case e3 => assumption))
 | ((with_reducible refine' tZ ?e1 ?e2 (fun _ _ _ _ _ _ _ _ => ?_)); (case e1 => walk_at "gat"); (case e2 => assumption))
 | fail)
def uj (C : Addr) : Sp := fun vs H Q _ => ∃ v d1 d2 m ms p c, ∃ N : List Str, vs = [v, .ref p, .int c] /\ cR C H v d1 d2 m ms /\ GI m ms /\ cM H p (N.map PyData.str) /\ N.Perm (m.map (·.1)) /\ ∀ x d H', az H H' -> u6 m x d -> Q x H'
theorem AB (T : Txt K mg a) : bR P w K mg base ik 4 a.bL a.iC ["_law_told", "_law_names", "_law_draw"] (uj a.ae) := by
 have cl := T.ah
 have bB := ez (P := P) (w := w) (base := base) T
 refine T.f9.ok fv (fun vs H Q E h => ?_) (fun dR A outer s H vs Q E hr h => ?_)
 . obtain ⟨_, _, _, _, _, _, _, _, rfl, _⟩ := h; rfl
 . obtain ⟨v, d1, d2, m, ms, p, KN, N, rfl, hg, gi, hp, hN, q⟩ := h
   have hi := hg.ins
   have aT : ∀ x ∈ N, nL x := fun x hx => gi.ok x (hN.mem_iff.mp hx)
   have Iq : N.length <= 40 := by rw [hN.length_eq, List.length_map]; exact gi.len
   have top : ∀ n ∈ N, ∃ c, Chain m n c /\ c.length <= 8 := fun n hn => gi.ch n (hN.mem_iff.mp hn)
   refine ⟨_, (aj (cI (PW.pt (oQ (aI (dF hr.nJ) (pv 1) (fc ai) (a7 _)) (kF (aI (dF hr.nJ) (aB aM (pv 2) aq) aq (a7 _)))))
    (ao (aL lC))
    aU)
    (aj (aF (i := 3) fv.nd rfl (Or.inl rfl) (dn gs (pv 1) (aB aM (aB aY (pv 2) aq) (b7 cW rfl T.eB PySem.boot_len (af (pv 1) ai))) (fun _ _ => rfl)))
    (aj (cI (aI uo (aB aM (pv 2) aq) aq (a7 _))
     (ao (aF (i := 3) fv.nd rfl (Or.inl rfl) (dn gs (pv 1) (C3 Ap aq) (fun _ _ => rfl))))
     aU)
    (aj (cI (aI uo (b7 cW rfl T.eB PySem.boot_len (af (aA (pv 0) T.ah T.aO bB (hr.mono (by decide)) (af (pv 3) ai)) ai)) aq (a7 _))
     (ao (aL lC))
     aU)
    (ao (aL (pv 3))))))), ?_⟩
   rcases N with _ | ⟨z, r⟩
   . repeat' (walk_at "rd1")
     all_goals (first | exact q _ _ _ (by walk_at "same") (Or.inl ⟨rfl, rfl⟩) | done)
   . have nQ : z :: r ≠ [] := by simp
     have hlen : 0 < (z :: r).length := by simp
     generalize z :: r = ss at *
     repeat' (walk_at "rd1")
     all_goals (first | exact q _ _ _ (by walk_at "same") (Or.inl ⟨rfl, rfl⟩) | skip)
     . refine wj (hp.keeps (by assumption)).dv (.inl ⟨rfl, nQ⟩) (fun n1 Fl => ?_)
       obtain Jg := top n1 Fl
       repeat' (walk_at "rd1")
       all_goals (first
        | exact q _ _ _ (by walk_at "same") (Or.inl ⟨rfl, rfl⟩)
        | exact q _ _ _ (by walk_at "same") (Or.inr ⟨_, _, rfl, rfl, by assumption, by omega⟩))
     . have Fl : ss.getD (KN / 6 % (ss.length : Nat)).toNat default ∈ ss := getD_mem (by omega)
       have Jg := top _ Fl
       repeat' (walk_at "rd1")
       all_goals (first
        | exact q _ _ _ (by walk_at "same") (Or.inl ⟨rfl, rfl⟩)
        | exact q _ _ _ (by walk_at "same") (Or.inr ⟨_, _, rfl, rfl, by assumption, by omega⟩))
theorem xK (T : Txt K mg a) : iN P w K mg base 4 a.bL ["_law_told", "_law_names", "_law_draw"] [] (uj a.ae) :=
 ⟨⟨_, _, AB T, T.f9.binds fun _ _ _ _ _ _ => .all fun us hl => match us, hl with | [_, _, _], _ => rfl, .nil⟩⟩
def tm (C : Addr) : Sp := fun vs H Q _ => ∃ v d1 d2 m ms n c, vs = [v, .str n, .int c] /\ cR C H v d1 d2 m ms /\ GI m ms /\ n ∈ m.map (·.1) /\ ∀ q H' ss oZ, Mv [d2] H H' -> H q = none -> sM (decide (c % 5 < 3)) m ms n ss oZ -> cM H' q (ss.map PyData.str) -> cR C H' v d1 d2 m oZ -> Q (.ref q) H'
theorem Bi (T : Txt K mg a) : bR P w K mg base ik 8 a.bp a.g7 ["_law_told", "_law_name_here", "_law_draw"] (tm a.ae) := by
 have cl := T.ah
 have eL := me (P := P) (w := w) (base := base) T
 have lK := uP (P := P) (w := w) (base := base) T
 refine T.fw.ok kT (fun vs H Q E h => ?_) (fun dR A outer s H vs Q E hr h => ?_)
 . obtain ⟨_, _, _, _, _, _, _, rfl, _⟩ := h; rfl
 . obtain ⟨v, d1, d2, m, ms, n, c, rfl, hg, gi, hn, q⟩ := h
   have hi := hg.ins
   have nO := gi.vS
   have Jw := gi.Dx
   have sY := bo hn
   refine ⟨_, (aj (cI (aI yl (aB aM (pv 2) aq) aq (a7 _))
    (ao (aL (aA (pv 0) T.ah T.eM eL (hr.mono (by decide)) (af (pv 1) ai))))
    aU)
    (ao (aL (aA (pv 0) T.ah T.iG lK (hr.mono (by decide)) (af (pv 1) ai))))), ?_⟩
   repeat' (walk_at "rd1")
   . rename_i hb
     refine qq hg nO (by omega) sY (fun q1 H1 ss jY kj DT xO pk => ?_)
     refine q _ _ ss _ jY kj ?_ xO pk
     unfold sM
     rw [if_pos (decide_eq_true hb)]
     exact ⟨DT, rfl⟩
   . rename_i hb
     refine zl hg nO sY (fun q1 H1 ss jY kj DT xO pk => ?_)
     refine q _ _ ss _ jY kj ?_ xO pk
     unfold sM
     rw [if_neg (by simpa using hb)]
     exact ⟨DT, rfl⟩
theorem wR (T : Txt K mg a) : iN P w K mg base 8 a.bp ["_law_told", "_law_name_here", "_law_draw"] [] (tm a.ae) :=
 ⟨⟨_, _, Bi T, T.fw.binds fun _ _ _ _ _ _ => .all fun us hl => match us, hl with | [_, _, _], _ => rfl, .nil⟩⟩
theorem Chain.eq2 {m m2 : List (Str × PyData)} {n : Str} {c : List Str} (h : Chain m n c) (e : ∀ k, bF m k = bF m2 k) : Chain m2 n c := by
 induction h with
 | top h1 => exact .top (by rw [<- e]; exact h1)
 | up h1 _ ih => exact .up (by rw [<- e]; exact h1) ih
def ri (C P : Addr) : Sp := fun vs H Q _ => ∃ v d1 d2 m ms v2 e1 e2 m2 fB, vs = [v, v2] /\ cR C H v d1 d2 m ms /\ cR C H v2 e1 e2 m2 fB /\ GI m ms /\ GI m2 fB /\ nD m ms m2 fB /\ jy H P /\ ∀ H', Mv [P] H H' -> jy H' P -> Q (.bl true) H'
theorem wM (T : Txt K mg a) (hB : Bs K mg base) : bR P w K mg base ik 10 a.bU a.jx ["_law_one", "_law_other"] (ri a.ae a.ag) := by
 have cl := T.ah
 have bB := ez (P := P) (w := w) (base := base) T
 have gI := iO (P := P) (w := w) (base := base) T
 have eK := lW (P := P) (w := w) (base := base) T
 have cb := iU (P := P) (w := w) (base := base) T
 have aR := mX (P := P) (w := w) (base := base) T hB
 refine T.gW.ok gk (fun vs H Q E h => ?_) (fun dR A outer s H vs Q E hr h => ?_)
 . obtain ⟨_, _, _, _, _, _, _, _, _, _, rfl, _⟩ := h; rfl
 . obtain ⟨v, d1, d2, m, ms, v2, e1, e2, m2, fB, rfl, hg, mV, gi, F3, eq, ht, q⟩ := h
   have hi := hg.ins
   have vN := mV.ins
   have nO := gi.vS
   have uh := F3.vS
   refine ⟨_, (aj (aF (i := 2) gk.nd rfl (Or.inl rfl) (fL (pv 0) T.ah T.bf aR (hr.mono (by decide))))
    (aj (cI (aI (kN hr.nJ) (pv 2) (fL (pv 1) T.ah T.bf aR (hr.mono (by decide))) (a7 _))
     (ao (aL mx))
     aU)
    (aj (iW PassesOwn.never rfl (ib (pv 2)) (cT (i := 3) gk.nd rfl (Or.inl rfl))
     (aj (cI (PW.pt (oQ (aI (kN hr.nJ) (aA (pv 0) T.ah T.aO bB (hr.mono (by decide)) (af (pv 3) ai)) (aA (pv 1) T.ah T.aO bB (hr.mono (by decide)) (af (pv 3) ai)) (a7 _)) (kF (aI (kN hr.nJ) (aA (pv 0) T.ah T.b9 gI (hr.mono (by decide)) (af (pv 3) ai)) (aA (pv 1) T.ah T.b9 gI (hr.mono (by decide)) (af (pv 3) ai)) (a7 _)))))
      (ao (aL mx))
      aU)
     (aj (cI (PW.pt (oQ (aI (kN hr.nJ) (aA (pv 0) T.ah T.cH eK (hr.mono (by decide)) (af (pv 3) ai)) (aA (pv 1) T.ah T.cH eK (hr.mono (by decide)) (af (pv 3) ai)) (a7 _)) (kF (aI (kN hr.nJ) (aA (pv 0) T.ah T.bI cb (hr.mono (by decide)) (af (pv 3) ai)) (aA (pv 1) T.ah T.bI cb (hr.mono (by decide)) (af (pv 3) ai)) (a7 _)))))
      (ao (aL mx))
      aU)
     (ao (cI (PW.pt (oQ (pQ (hJ (b7 n5 rfl T.cO PyProof.Rows.boot_isinstance (af (aA (pv 0) T.ah T.cH eK (hr.mono (by decide)) (af (pv 3) ai)) (af (qz (v := .ty "bool") rfl T.i9 PyProof.Rows.boot_bool rfl) ai))) (fun _ => rfl))) (kF (pQ (hJ (b7 n5 rfl T.cO PyProof.Rows.boot_isinstance (af (aA (pv 1) T.ah T.bI cb (hr.mono (by decide)) (af (pv 3) ai)) (af (qz (v := .ty "bool") rfl T.i9 PyProof.Rows.boot_bool rfl) ai))) (fun _ => rfl))))))
      (ao (aL mx))
      aU)))))
    (ao (aL mx))))), ?_⟩
   repeat' (walk_at "rd1")
   rename_i q1 H1 s1 jY DH kj uQ xO
   have pk := hg.o7 ht jY
   have CT := mV.o7 ht jY
   have KY := CT.ins
   repeat' (walk_at "rd1")
   rename_i q3 H3 s3 sZ Lr Ka J4 K2
   obtain rfl := z0 eq.l gi.nd F3.nd uQ J4
   have GN := pk.o7 DH sZ
   have F2 := CT.o7 DH sZ
   have wF := DH.FV xO sZ
   have ur : ∀ x ∈ s1, x ∈ m.map (·.1) := fun x hx => uQ.1.mem_iff.mp hx
   have FN : ∀ x ∈ s1, nL x := fun x hx => gi.ok x (ur x hx)
   have Fh : s1.length <= 40 := by rw [uQ.1.length_eq, List.length_map]; exact gi.len
   repeat' (walk_at "rd1")
   refine kG wF.dv K2.dv FN ?_
   repeat' (walk_at "rd1")
   refine u9 (Hb := H3) (cs := s1) (gd := PyData.str) wF.dv (fun j σ' H' => ∃ z, σ' = [some v, some v2, some (.ref q1), z] /\ az H3 H') ⟨_, rfl, az.refl _⟩ (fun i σ' H' _ ⟨_, _, sm⟩ a' xs e hx => az.seq sm hx) ?_ ?_
   . rintro j x v' σ' H4 hj ⟨z, rfl, BR⟩ hI hS
     obtain rfl := (hS BR).str_inv
     have hx := ur x (List.mem_of_getElem? hj)
     obtain ⟨c, hc, gX⟩ := gi.ch x hx
     have HU : c.length <= 60 := by omega
     have rC : Chain m2 x c := hc.eq2 eq.l
     have LR := hc.has
     have Kg := rC.has
     have Lc : ∀ y ∈ c, nL y := fun y hy => gi.ok y (ei (hc.all y hy))
     have qN := GN.keeps BR
     have Ds := F2.keeps BR
     have LL := qN.ins
     have Ki := Ds.ins
     have Mf := qN.rd
     have KW := Ds.rd
     repeat' (walk_at "rd1")
     rename_i qa Ha nG Eo BK qb Hb sT Cb Fe
     refine kG (BK.keeps sT).dv Fe.dv Lc ?_
     repeat' (walk_at "rd1")
     rename_i qd Hd sd Mu HZ HX K1 Lh qe He se KS nQ JD Ls hle
     obtain rfl := ic (HX.trans ((nz eq.l gi.nd F3.nd).trans JD.symm)) K1 Ls
     refine kG (Lh.keeps KS).dv hle.dv (fun y hy => gi.ok y (jT.mp (HX.mem_iff.mp hy)).1) ?_
     have e1 : nK m2 fB x = nK m ms x := eq.nK.symm
     have e2 : jh fB x = jh ms x := (eq.k x).symm
     repeat' (walk_at "rd1")
     . rename_i hb; exact absurd (by rw [e1]) hb
     . rename_i hb; exact absurd (by rw [e2]) hb
     . exact ⟨_, rfl, by walk_at "same"⟩
   . rintro σ' H' ⟨z, rfl, sm⟩
     repeat' (walk_at "rd1")
     exact q _ ((jY.trans sZ).g5 sm) (Lr.keeps sm)
theorem ug (T : Txt K mg a) (hB : Bs K mg base) : iN P w K mg base 10 a.bU ["_law_one", "_law_other"] [] (ri a.ae a.ag) :=
 ⟨⟨_, _, wM T hB, T.gW.binds fun _ _ _ _ _ _ => .all fun us hl => match us, hl with | [_, _], _ => rfl, .nil⟩⟩
theorem cR.sf {C : Addr} {H H' : Hp} {v : V} {d1 d2 q : Addr} {m ms x : List (Str × PyData)} (h : cR C H v d1 d2 m ms) (hq : hO H q x) (n1 : q ≠ d1) (n2 : q ≠ d2) (mv : Mv [q] H H') : cR C H' v d1 d2 m ms :=
 ⟨fT h.ins hq mv, h.ab.mv mv (by simpa using Ne.symm n1), h.e7.mv mv (by simpa using Ne.symm n2), h.ne⟩
def nF (m : List (Str × PyData)) (xs : List Str) : List (Str × PyData) := xs.map fun n => (n, (bF m n).getD .none)
section
variable {m ms : List (Str × PyData)} {n b k : Str} {xs s1 : List Str} {d : PyData}
theorem lG : (nF m xs).map (·.1) = xs := by unfold nF; rw [List.map_map]; exact List.map_id _
theorem jf (h : bF m n = some d) : nF m (xs ++ [n]) = nF m xs ++ [(n, d)] := by unfold nF; rw [List.map_append]; simp [h]
theorem ku (h : bF m k = some d) : ∀ {xs : List Str}, k ∈ xs -> bF (nF m xs) k = some d
 | [], hk => by simp at hk
 | x :: r, hk => by
   unfold bF nF
   rw [List.map_cons, List.find?_cons]
   by_cases e : x = k
   . subst e
     simp [h]
   . rcases List.mem_cons.mp hk with z | z
     . exact absurd z.symm e
     . have := ku h z
       unfold bF nF at this
       simp only [e, decide_false]
       exact this
theorem lF {i : Nat} (gi : GI m ms) (o : nX m s1) (hk : s1[i]? = some k) (h : bF m k = some (.str b)) : ∃ i', i' < i /\ s1[i']? = some b := by
 have Kn : k ∈ m.map (·.1) := ei (by rw [h]; rfl)
 obtain ⟨c, hc, gX⟩ := gi.ch k Kn
 cases hc with
 | top e => rw [h] at e; cases e
 | @up _ b' c2 e rC =>
   rw [h] at e
   cases e
   have hb : b ∈ s1 := o.1.mem_iff.mpr (ei rC.has)
   obtain ⟨i', sg, eb⟩ := List.getElem_of_mem hb
   have e1 : kc m k = (c2.length : Nat) + 1 := by unfold kc; rw [(Chain.up h rC).fn (by omega)]; simp
   have e2 : kc m b = (c2.length : Nat) := by unfold kc; rw [rC.fn (by simp at gX; omega)]
   obtain ⟨hi, ek⟩ := List.getElem?_eq_some_iff.mp hk
   refine ⟨i', ?_, List.getElem?_eq_some_iff.mpr ⟨sg, eb⟩⟩
   rcases Nat.lt_trichotomy i' i with h1 | h1 | h1
   . exact h1
   . subst h1
     rw [ek] at eb
     rw [eb, e2] at e1
     omega
   . have := (List.pairwise_iff_getElem.mp o.2) i i' hi sg h1
     rw [eb, ek, e1, e2] at this
     exfalso
     revert this
     unfold cX
     simp
     omega
theorem pj {j : Nat} {c : List Str} (gi : GI m ms) (o : nX m s1) (hc : Chain m n c) : ∀ {i : Nat}, i < j -> s1[i]? = some n -> ∀ x ∈ c, x ∈ s1.take j := by
 have mt : ∀ {i : Nat} {y : Str}, i < j -> s1[i]? = some y -> y ∈ s1.take j := fun {i y} hi hy => List.mem_of_getElem? (i := i) (by rw [List.getElem?_take, if_pos hi]; exact hy)
 induction hc with
 | top e =>
   intro i hi hn x hx
   rw [List.mem_singleton.mp hx]
   exact mt hi hn
 | @up n b c e hc ih =>
   intro i hi hn x hx
   obtain ⟨i', h1, h2⟩ := lF gi o hn e
   rcases List.mem_cons.mp hx with rfl | hx
   . exact mt hi hn
   . exact ih (Nat.lt_trans h1 hi) h2 x hx
theorem rA {c : List Str} (hc : Chain m n c) (h : ∀ x ∈ c, x ∈ xs) : Chain (nF m xs) n c := by
 induction hc with
 | top e => exact .top (ku e (h _ List.mem_cons_self))
 | up e _ ih => exact .up (ku e (h _ List.mem_cons_self)) (ih fun x hx => h x (List.mem_cons_of_mem _ hx))
theorem wW (o : nX m s1) : bF m k = bF (nF m s1) k := by
 cases h : bF m k with
 | none =>
   rw [fE]
   rw [lG]
   intro hk
   have := bo (o.1.mem_iff.mp hk)
   rw [h] at this; cases this
 | some d => rw [ku h (o.1.mem_iff.mpr (ei (by rw [h]; rfl)))]
theorem pD {i : Nat} (hn : xs.Nodup) (h : xs[i]? = some k) : k ∉ xs.take i := fun hh => by
 have yT := (List.getElem?_eq_some_iff.mp h).1
 obtain ⟨j, hj, e⟩ := List.getElem_of_mem hh
 rw [List.getElem_take] at e
 have lA : j < i := by rw [List.length_take] at hj; omega
 have := (List.pairwise_iff_getElem.mp (List.nodup_iff_pairwise_ne.mp hn)) j i (by omega) yT lA
 exact this (e.trans (List.getElem?_eq_some_iff.mp h).2.symm)
end
set_option hygiene false in
local macro_rules | `(tactic| walk_at "rd1") => `(tactic| first
 | with_reducible refine Be ?_
 | fail)
theorem Chain.len {m : List (Str × PyData)} {n : Str} {c : List Str} (h : Chain m n c) : 0 < c.length := by cases h <;> simp
theorem Chain.head {m : List (Str × PyData)} {n : Str} {c : List Str} (h : Chain m n c) : ∃ r, c = n :: r := by cases h <;> exact ⟨_, rfl⟩
def qJ (C P : Addr) : Sp := fun vs H Q _ => ∃ v d1 d2 m ms, vs = [v] /\ cR C H v d1 d2 m ms /\ GI m ms /\ jy H P /\ ∀ v2 e1 e2 m2 fB H', Mv [P] H H' -> jy H' P -> H e1 = none -> H e2 = none -> cR C H' v2 e1 e2 m2 fB -> GI m2 fB -> nD m ms m2 fB -> Q v2 H'
theorem wA (T : Txt K mg a) (hB : Bs K mg base) : bR P w K mg base ik 10 a.aH a.eR ["_law_told"] (qJ a.ae a.ag) := by
 have cl := T.ah
 have iQ := lY (P := P) (w := w) (base := base) T
 have gq := qS (P := P) (w := w) (base := base) T
 have bB := ez (P := P) (w := w) (base := base) T
 have cb := iU (P := P) (w := w) (base := base) T
 have eL := me (P := P) (w := w) (base := base) T
 have aR := mX (P := P) (w := w) (base := base) T hB
 refine T.dw.ok aJ (fun vs H Q E h => ?_) (fun dR A outer s H vs Q E hr h => ?_)
 . obtain ⟨_, _, _, _, _, rfl, _⟩ := h; rfl
 . obtain ⟨v, d1, d2, m, ms, rfl, hg, gi, ht, q⟩ := h
   have hi := hg.ins
   have nO := gi.vS
   refine ⟨_, (aj (aF (i := 1) aJ.nd rfl (Or.inl rfl) (fL (pv 0) T.ah T.bf aR (hr.mono (by decide))))
    (aj (aF (i := 2) aJ.nd rfl (Or.inl rfl) (oN T.lj iQ (hr.mono (by decide)) rfl T.jS))
    (aj (iW PassesOwn.never rfl (ib (pv 1)) (cT (i := 3) aJ.nd rfl (Or.inl rfl))
     (aj (aF (i := 4) aJ.nd rfl (Or.inl rfl) lC)
     (aj (cI (aI uo (b7 cW rfl T.eB PySem.boot_len (af (aA (pv 0) T.ah T.aO bB (hr.mono (by decide)) (af (pv 3) ai)) ai)) aq (a7 _))
      (ao (aF (i := 4) aJ.nd rfl (Or.inl rfl) (dn gs (aA (pv 0) T.ah T.aO bB (hr.mono (by decide)) (af (pv 3) ai)) aq (fun _ _ => rfl))))
      aU)
     (ao (bE (aA (pv 2) T.ah T.ed gq (hr.mono (by decide)) (af (pv 3) (af (pv 4) ai))))))))
    (aj (iW PassesOwn.never rfl (zV (pv 1) rfl T.eY) (cT (i := 3) aJ.nd rfl (Or.inl rfl))
     (ao (cI (hJ (aA (pv 0) T.ah T.bI cb (hr.mono (by decide)) (af (pv 3) ai)) (fun _ => rfl))
      (ao (bE (aA (pv 2) T.ah T.eM eL (hr.mono (by decide)) (af (pv 3) ai))))
      aU)))
    (ao (aL (pv 2))))))), ?_⟩
   repeat' (walk_at "rd1")
   rename_i q1 H1 s1 jY DH kj uQ xO v2 H2 e1 e2 lN pO qf mV
   have IA := (hg.o7 ht jY).keeps lN
   have Em := xO.keeps lN
   have Gf := DH.keeps lN
   have ur : ∀ x ∈ s1, x ∈ m.map (·.1) := fun x hx => uQ.1.mem_iff.mp hx
   have Fh : s1.length <= 40 := by rw [uQ.1.length_eq, List.length_map]; exact gi.len
   have Ga : s1.Nodup := uQ.1.nodup_iff.mpr gi.nd
   have HR : e1 ≠ d1 := Ne.symm ((hg.o7 ht jY).ab.ne pO)
   have IE : e1 ≠ d2 := Ne.symm ((hg.o7 ht jY).e7.ne pO)
   have K3 : e2 ≠ d1 := Ne.symm ((hg.o7 ht jY).ab.ne qf)
   have Ly : e2 ≠ d2 := Ne.symm ((hg.o7 ht jY).e7.ne qf)
   have EK : q1 ≠ e1 := xO.ne pO
   have E6 : q1 ≠ e2 := xO.ne qf
   refine u9 (Hb := H2) (cs := s1) (gd := PyData.str) Em.dv (fun j σ' H' => ∃ z3 z4, σ' = [some v, some (.ref q1), some v2, z3, z4] /\ Mv [e1] H2 H' /\ cR a.ae H' v2 e1 e2 (nF m (s1.take j)) [] /\ GI (nF m (s1.take j)) []) ⟨_, _, rfl, Mv.refl, mV, GI.nil⟩ (fun i σ' H' _ ⟨_, _, _, mv, _⟩ a' xs e hx => by cases e; exact mv.sq (by simpa using EK) hx) ?_ ?_
   . rintro j x v' σ' H4 hj ⟨z3, z4, rfl, vY, qN, CN⟩ hI hS
     obtain rfl := (hI rfl (fun b xs e => vY.tp b xs e)).str_inv
     have hx := ur x (List.mem_of_getElem? hj)
     have sW := gi.ch x hx
     have vH := IA.sf mV.ab HR IE vY
     have IW := vH.ins
     have yT := (List.getElem?_eq_some_iff.mp hj).1
     have Ex : (nF m (s1.take j)).length < 40 := by unfold nF; rw [List.length_map, List.length_take]; omega
     have j8 : bF (nF m (s1.take j)) x = none := fE (by rw [lG]; exact pD Ga hj)
     have aT := gi.ok x hx
     have r6 : s1.take (j + 1) = s1.take j ++ [x] := by rw [List.take_add_one, hj]; rfl
     obtain ⟨c, hc, gX⟩ := sW
     cases hc with
     | top e =>
       have KH : Chain m x [x] := .top e
       have FT : [x].length <= 60 := by simp
       have Ft := vH.rd
       repeat' (walk_at "rd1")
       rename_i qa Ha nG Eo BK hb
       refine qU (qN.keeps nG) (by omega) j8 (.inl ⟨rfl, rfl⟩) (fun H6 ua vO => ?_)
       repeat' (walk_at "rd1")
       refine ⟨_, _, rfl, (vY.g5 nG).trans ua, ?_, ?_⟩
       . rw [r6, jf e]; exact vO
       . rw [r6, jf e]; exact CN.add (x := .a0) Ex j8 aT (.inl ⟨rfl, rfl⟩)
     | @up _ b c2 e rC =>
       have KH : Chain m x (x :: c2) := .up e rC
       have FT : (x :: c2).length <= 60 := by omega
       have Ft := vH.rd
       obtain ⟨i', D5, vN⟩ := lF gi uQ hj e
       have Hu := rA rC (pj gi uQ rC D5 vN)
       have Iy : c2.length <= 7 := by simp at gX; omega
       have LY := rC.len
       repeat' (walk_at "rd1")
       . rename_i qa Ha nG Eo BK hb qb Hb sT Cb Fe
         obtain ⟨r, rfl⟩ := rC.head
         refine qU ((qN.keeps nG).keeps sT) (by omega) j8 (.inr ⟨b, _, rfl, rfl, Hu, Iy⟩) (fun H6 ua vO => ?_)
         repeat' (walk_at "rd1")
         refine ⟨_, _, rfl, ((vY.g5 nG).g5 sT).trans ua, ?_, ?_⟩
         . rw [r6, jf e]; exact vO
         . rw [r6, jf e]; exact CN.add (x := .str b) Ex j8 aT (.inr ⟨b, _, rfl, rfl, Hu, Iy⟩)
   . rintro σ' H4 ⟨z3, z4, rfl, vY, qN, CN⟩
     rw [List.take_of_length_le (Nat.le_refl _)] at qN CN
     have vH := IA.sf mV.ab HR IE vY
     have K0 := Em.mv vY (by simpa using EK)
     have Iu := fun k => wW (k := k) uQ
     repeat' (walk_at "rd1")
     refine Ea (Hb := H4) (cs := s1) K0.dv (fun j σ' H' => ∃ z3 z4 fB, σ' = [some v, some (.ref q1), some v2, z3, z4] /\ Mv [e2] H4 H' /\ cR a.ae H' v2 e1 e2 (nF m s1) fB /\ GI (nF m s1) fB /\ ∀ k, jh fB k = (jh ms k && decide (k ∈ s1.drop (s1.length - j)))) ⟨_, _, [], rfl, Mv.refl, qN, CN, fun k => by simp [jh, bF]⟩ (fun i σ' H' _ ⟨_, _, _, _, mv, _⟩ a' xs e hx => by cases e; exact mv.sq (by simpa using E6) hx) ?_ ?_
     . rintro j x σ' H5 hj yT ⟨z3, z4, fB, rfl, vw, zk, qk, hk⟩
       have hx := ur x (List.mem_of_getElem? hj)
       have tP := vH.sf qN.e7 K3 Ly vw
       have JI := tP.ins
       have Lk := tP.rd
       have Jh := bo hx
       have Fj : (bF (nF m s1) x).isSome = true := by rw [<- Iu]; exact Jh
       have C6 := qk.vS
       have G7 : fB.length <= 60 := by have := qk.Dx; omega
       have Iz : s1.drop (s1.length - (j + 1)) = x :: s1.drop (s1.length - j) := by
        have e1 : s1.length - 1 - j = s1.length - (j + 1) := by omega
        have e2 : s1.length - j = s1.length - (j + 1) + 1 := by omega
        rw [e1] at hj
        obtain ⟨h1, h2⟩ := List.getElem?_eq_some_iff.mp hj
        rw [e2, <- h2]
        exact List.drop_eq_getElem_cons h1
       repeat' (walk_at "rd1")
       . rename_i hb
         refine qq zk C6 G7 Fj (fun q6 H6 s6 ua Ln Kp Gr vO => ?_)
         repeat' (walk_at "rd1")
         refine ⟨_, _, _, rfl, vw.trans ua, vO, qk.put (by rw [lG]; exact List.mem_of_getElem? hj), fun k => ?_⟩
         rw [km, hk, Iz]
         by_cases e : k = x
         . subst e; simp [hb]
         . simp [e]
       . rename_i hb
         refine ⟨_, _, fB, rfl, vw, zk, qk, fun k => ?_⟩
         rw [hk, Iz]
         by_cases e : k = x
         . subst e; simp [hb]
         . simp [e]
     . rintro σ' H5 ⟨z3, z4, fB, rfl, vw, zk, qk, hk⟩
       repeat' (walk_at "rd1")
       have La : Mv [a.ag] H H5 := ((jY.g5 lN).step vY (fun b hb => by rw [List.mem_singleton.mp hb]; exact .inr (jY.none pO))).step vw (fun b hb => by rw [List.mem_singleton.mp hb]; exact .inr (jY.none qf))
       refine q v2 e1 e2 _ fB H5 La ((Gf.sf mV.ab vY).sf qN.e7 vw) (jY.none pO) (jY.none qf) zk qk ⟨Iu, fun k => ?_⟩
       rw [hk]
       cases hh : jh ms k with
       | false => rfl
       | true =>
         have : k ∈ s1 := uQ.1.mem_iff.mpr (gi.e7 k hh)
         simp [this]
theorem vJ (T : Txt K mg a) (hB : Bs K mg base) : iN P w K mg base 10 a.aH ["_law_told"] [] (qJ a.ae a.ag) :=
 ⟨⟨_, _, wA T hB, T.dw.binds fun _ _ _ _ _ _ => .all fun us hl => match us, hl with | [_], _ => rfl, .nil⟩⟩
theorem tY (T : Txt K mg a) : iN P w K mg base 4 a.bN ["self", "name", "above"] [.a0] (mQ a.ae) :=
 ⟨⟨_, _, tL T, T.eu.binds fun _ _ _ _ _ _ s us kx hl => by
   obtain ⟨o, n, h1, h2⟩ := T.fX.ex
   have hl : us.length = 2 := by simp at hl; omega
   match us, hl with
   | [_, _], _ => exact PySem.W.binds_K kx rfl h1 h2 rfl rfl, .cons rfl .nil⟩⟩
structure zb (C P : Addr) (H : Hp) (v : V) (d1 d2 pn : Addr) (N : List Str) (m ms : List (Str × PyData)) : Prop where
 g : cR C H v d1 d2 m ms
 gi : GI m ms
 l : cM H pn (N.map PyData.str)
 p : N.Perm (m.map (·.1))
 t : jy H P
theorem zb.keeps {C P : Addr} {H H' : Hp} {v : V} {d1 d2 pn : Addr} {N : List Str} {m ms : List (Str × PyData)} (s : az H H') (h : zb C P H v d1 d2 pn N m ms) : zb C P H' v d1 d2 pn N m ms := ⟨h.g.keeps s, h.gi, h.l.keeps s, h.p, h.t.keeps s⟩
theorem t9 {m : List (Str × PyData)} {n : Str} {ss : List Str} (h : n ∈ ss) (hn : n ∈ m.map (·.1)) : (bj m ss).length < m.length := by
 rw [bY, List.length_filter_lt_length_iff_exists]
 obtain ⟨x, hx, rfl⟩ := List.mem_map.mp hn
 exact ⟨x, hx, by simpa using h⟩
theorem cR.gM {C : Addr} {H H' : Hp} {v v' : V} {d1 d2 e1 e2 : Addr} {m ms m2 fB : List (Str × PyData)} (h : cR C H v e1 e2 m ms) (mv : Mv [d1, d2] H H') (g : cR C H v' d1 d2 m2 fB) (n1 : d1 ≠ e1) (n2 : d1 ≠ e2) (n3 : d2 ≠ e1) (n4 : d2 ≠ e2) : cR C H' v e1 e2 m ms := by
 obtain ⟨p, dx, rfl, e⟩ := h.ins
 obtain ⟨_, f1, _⟩ := g.ab
 obtain ⟨_, f2, _⟩ := g.e7
 refine ⟨⟨p, dx, rfl, mv.at ?_ e⟩, h.ab.mv mv (by simp [Ne.symm n1, Ne.symm n3]), h.e7.mv mv (by simp [Ne.symm n2, Ne.symm n4]), h.ne⟩
 simp only [List.mem_cons, List.not_mem_nil, or_false, not_or]
 exact ⟨d9 e f1 (by intro z; cases z), d9 e f2 (by intro z; cases z)⟩
theorem ng {C P : Addr} {H H' : Hp} {v : V} {d1 d2 : Addr} {m ms : List (Str × PyData)} (t : jy H P) (g : cR C H v d1 d2 m ms) (mv : Mv [d1, d2] H H') : jy H' P := t.mv mv (fun b hb => by
 have FW : b = d1 \/ b = d2 := by simpa using hb
 rcases FW with rfl | rfl
 . exact ⟨t.Ce g.ab, fun φ z => by obtain ⟨_, e, _⟩ := g.ab; rw [e] at z; cases z⟩
 . exact ⟨t.Ce g.e7, fun φ z => by obtain ⟨_, e, _⟩ := g.e7; rw [e] at z; cases z⟩)
theorem Aa (T : Txt K mg a) (hB : Bs K mg base) : bR P w K mg base ik 12 a.mn a.mH ["_law_script"] (pe a.tabs K) := by
 have cl := T.ah
 have gY := kh (P := P) (w := w) (base := base) T
 have oj := sL (P := P) (w := w) (base := base) T
 have mY := si (P := P) (w := w) (base := base) T
 have mW := xK (P := P) (w := w) (base := base) T
 have fC := wR (P := P) (w := w) (base := base) T
 have gP := ug (P := P) (w := w) (base := base) T hB
 have i5 := vJ (P := P) (w := w) (base := base) T hB
 have iQ := lY (P := P) (w := w) (base := base) T
 have gq := qS (P := P) (w := w) (base := base) T
 have lD := tY (P := P) (w := w) (base := base) T
 have gp := xn (P := P) (w := w) (base := base) T
 have aR := mX (P := P) (w := w) (base := base) T hB
 refine T.uD.ok cU (fun vs H Q E h => ?_) (fun dR A outer s H vs Q E hr h => ?_)
 . obtain ⟨_, _, rfl, _⟩ := h; rfl
 . obtain ⟨l, ns, rfl, hl, hn, hT, q⟩ := h
   have t1 : jy H a.ag := .inl (hT _ T.cK)
   refine ⟨_, (aj (aF (i := 1) cU.nd rfl (Or.inl rfl) (cw gY (hr.mono (by decide)) rfl T.d6 T.d5 (af (pv 0) (af aq ai))))
    (aj (aF (i := 2) cU.nd rfl (Or.inl rfl) (cw gY (hr.mono (by decide)) rfl T.d6 T.d5 (af (pv 0) (af aq ai))))
    (aj (aF (i := 3) cU.nd rfl (Or.inl rfl) (oN T.lj iQ (hr.mono (by decide)) rfl T.jS))
    (aj (aF (i := 4) cU.nd rfl (Or.inl rfl) (fc ai))
    (aj (iW PassesOwn.never rfl (w5 rfl T.eo (af (tK xj (pv 0) (qu aq) (qu aq)) ai)) (Bc (n := 2) rfl (oH (cT (i := 5) cU.nd rfl (Or.inl rfl)) (oH (cT (i := 6) cU.nd rfl (Or.inl rfl)) xi)))
     (aj (aF (i := 7) cU.nd rfl (Or.inl rfl) (cw mY (hr.mono (by decide)) rfl T.iy T.iE (af (aB kB (pv 6) (aB kq (pv 5) (aB aM (aB aY (pv 1) aq) aq))) (af aq (af (aB aY (pv 1) aq) ai)))))
     (aj (aF (i := 8) cU.nd rfl (Or.inl rfl) (cw oj (hr.mono (by decide)) rfl T.jo T.jq (af (pv 5) (af (pv 1) (af (pv 4) (af (dn gs (pv 7) aq (fun _ _ => rfl)) ai))))))
     (aj (aF (i := 9) cU.nd rfl (Or.inl rfl) (cw mW (hr.mono (by decide)) rfl T.iJ T.iB (af (pv 3) (af (pv 4) (af (dn gs (pv 7) aq (fun _ _ => rfl)) ai)))))
     (ud (cI (aI fN (pv 8) (pv 4) rfl)
      (aj (bE (aA (pv 3) T.ah T.ed gq (hr.mono (by decide)) (af (pv 8) (af (pv 9) ai))))
      (ao (bE (l0 PySem.F.plainAttrs_list PySem.F.slot_list_append PySem.F.type_list_append ie (pv 4) (af (pv 8) ai)))))
      aU)
     (aj (bE (cw fC (hr.mono (by decide)) rfl T.dg T.dq (af (pv 3) (af (dn gs (pv 4) (aB aM (dn gs (pv 7) aq (fun _ _ => rfl)) (b7 cW rfl T.eB PySem.boot_len (af (pv 4) ai))) (fun _ _ => rfl)) (af (dn gs (pv 7) aq (fun _ _ => rfl)) ai)))))
     (ao (cI (aI (dF hr.nJ) (aB aM (aB aY (dn gs (pv 7) aq (fun _ _ => rfl)) aq) aq) aq (a7 _))
      (aj (aF (i := 8) cU.nd rfl (Or.inl rfl) (dn gs (pv 4) (aB aM (aB aY (dn gs (pv 7) aq (fun _ _ => rfl)) aq) (b7 cW rfl T.eB PySem.boot_len (af (pv 4) ai))) (fun _ _ => rfl)))
      (aj (bE (aA (pv 3) T.ah T.en gp (hr.mono (by decide)) (af (pv 8) ai)))
      (aj (bE (aA (pv 3) T.ah T.ed lD (hr.mono (by decide)) (af (pv 8) ai)))
      (ao (aF (i := 4) cU.nd rfl (Or.inl rfl) (fL (pv 3) T.ah T.bf aR (hr.mono (by decide))))))))
      aU))))))))
    (aj (aF (i := 10) cU.nd rfl (Or.inl rfl) (cw i5 (hr.mono (by decide)) rfl T.eQ T.eJ (af (pv 3) ai)))
    (aj (cI (PW.pt (oQ (pQ (hJ (cw gP (hr.mono (by decide)) rfl T.et T.ej (af (pv 3) (af (pv 10) ai))) (fun _ => rfl))) (kF (aI (dF hr.nJ) (pv 4) (fc ai) (a7 _)))))
     (ao (aL (mO (iZ (dF hr.nJ) (pv 4) (fc ai) (a7 _)) (mO (iZ (dF hr.nJ) (fL (pv 10) T.ah T.bf aR (hr.mono (by decide))) (fc ai) (a7 _)) (pL (iZ (dF hr.nJ) (fL (pv 3) T.ah T.bf aR (hr.mono (by decide))) (fc ai) (a7 _)))))))
     aU)
    (aj (aF (i := 8) cU.nd rfl (Or.inl rfl) (dn gs (pv 4) (aB aM (aB aY (pv 2) aq) (b7 cW rfl T.eB PySem.boot_len (af (pv 4) ai))) (fun _ _ => rfl)))
    (aj (cI (aI (dF hr.nJ) (aB aM (pv 2) aq) aq (a7 _))
     (ao (aL (mO (iZ (dF hr.nJ) (aA (pv 3) T.ah T.en gp (hr.mono (by decide)) (af (pv 8) ai)) (aA (pv 10) T.ah T.en gp (hr.mono (by decide)) (af (pv 8) ai)) (a7 _)) (pL (cw gP (hr.mono (by decide)) rfl T.et T.ej (af (pv 3) (af (pv 10) ai)))))))
     aU)
    (aj (aF (i := 11) cU.nd rfl (Or.inl rfl) (cw fC (hr.mono (by decide)) rfl T.dg T.dq (af (pv 3) (af (pv 8) (af (aB aY (pv 2) aq) ai)))))
    (ao (aL (mO (iZ (dF hr.nJ) (cw fC (hr.mono (by decide)) rfl T.dg T.dq (af (pv 10) (af (pv 8) (af (aB aY (pv 2) aq) ai)))) (pv 11) (a7 _)) (pL (cw gP (hr.mono (by decide)) rfl T.et T.ej (af (pv 3) (af (pv 10) ai))))))))))))))))), ?_⟩
   repeat' (walk_at "rd1")
   rename_i v H1 d1 d2 lI Lw KA pk pn H2 lN yx sU
   have Em := az.seq (lI.trans lN) hl
   refine yW 2 42 Em (fun ql Hb sT Cb hq => ?_)
   have Fx : ((ns.drop 2).take (42 - 2)).length <= 40 := by rw [List.length_take]; omega
   generalize (ns.drop 2).take (42 - 2) = cells at hq Fx
   generalize Kf : cell ns (0 : Int).toNat = st at *
   generalize Jy : cell ns (1 : Int).toNat = ce at *
   have Hv : zb a.ae a.ag Hb v d1 d2 pn [] [] [] := ⟨(pk.keeps lN).keeps sT, GI.nil, sU.keeps sT, .nil, ((t1.keeps lI).keeps lN).keeps sT⟩
   have EK : ql ≠ pn := Ne.symm (sU.ne Cb)
   have E6 : ql ≠ d1 := Ne.symm ((pk.keeps lN).ab.ne Cb)
   have IV : ql ≠ d2 := Ne.symm ((pk.keeps lN).e7.ne Cb)
   have J9 := Hv.t.pV hq
   repeat' (walk_at "rd1")
   refine DW (Hb := Hb) hq.dv (fun j σ' H' => ∃ z5 z6 z7 z8 z9 E4 Eu p N m ms, σ' = [some (.ref l), some (.int st), some (.int ce), some v, some (.ref p), z5, z6, z7, z8, z9, E4, Eu] /\ Mv [pn, d1, d2, a.ag] Hb H' /\ zb a.ae a.ag H' v d1 d2 p N m ms /\ (p = pn \/ Hb p = none) /\ m.length <= j) ⟨_, _, _, _, _, _, _, pn, [], [], [], rfl, Mv.refl, Hv, .inl rfl, Nat.le_refl _⟩ (fun i σ' H' _ ⟨_, _, _, _, _, _, _, _, _, _, _, _, mv, _⟩ a' xs e hx => by cases e; exact mv.sq (by simp [EK, E6, IV, J9]) hx) ?_ ?_
   . rintro j c t0 σ' H5 hc ⟨z5, z6, z7, z8, z9, E4, Eu, p, N, m, ms, rfl, vw, JH, Gq, Ex⟩ Kx
     have K5 : j < 40 := by have := (List.getElem?_eq_some_iff.mp hc).1; omega
     have E1 : az H5 (upd H5 t0 (.tup [.int (j : Int), .int c])) := dS Kx
     have Ca : Dv (upd H5 t0 (.tup [.int (j : Int), .int c])) (.ref t0) (.tuple [.int (j : Int), .int c]) := .tup ay (.cons (.int _) (.cons (.int _) .nil))
     generalize upd H5 t0 (.tup [.int (j : Int), .int c]) = H6 at *
     refine y0 Ca (fun w1 w2 f1 f2 => ?_)
     obtain rfl := f1.int_inv
     obtain rfl := f2.int_inv
     have IJ := JH.keeps E1
     have ua := vw.g5 E1
     repeat' (walk_at "rd1")
     refine ⟨_, _, 4, rfl, by decide, fun qd H7 ds F8 GY FJ Dj BU => ?_⟩
     obtain ⟨x0, x1, x2, x3, rfl⟩ : ∃ x0 x1 x2 x3, ds = [x0, x1, x2, x3] := by
      match ds, Dj with
      | [a, b, c, d], _ => exact ⟨a, b, c, d, rfl⟩
     have yf := IJ.keeps F8
     have K6 := ua.g5 F8
     have Iq : N.length <= 40 := by rw [yf.p.length_eq, List.length_map]; exact yf.gi.len
     have Mi : 0 <= x2 := BU _ (by simp)
     have Mp : 0 <= x1 := BU _ (by simp)
     repeat' (walk_at "rd1")
     refine xW (by omega) (by omega) yf.l (by omega) (fun nm Jk => ?_)
     repeat' (walk_at "rd1")
     refine ⟨v, d1, d2, m, ms, p, _, N, rfl, yf.g, yf.gi, yf.l, yf.p, fun x d H8 G2 IC => ?_⟩
     have rW := yf.keeps G2
     have vM := K6.g5 G2
     have yE := rW.l
     have y6 := FJ.keeps G2
     have LQ := rW.g.ins
     have JU : p ≠ d1 := Ne.symm (rW.g.ab.pV rW.l)
     have G6 : ∀ b ∈ [p], b ∈ [pn, d1, d2, a.ag] \/ Hb b = none := fun b hb => by
      rw [List.mem_singleton.mp hb]
      rcases Gq with rfl | h
      . exact .inl (by simp)
      . exact .inr h
     refine Ab (fun σ' H' => ∃ (N' : List Str) (m' : List (Str × PyData)), σ' = [some (.ref l), some (.int st), some (.int ce), some v, some (.ref p), some (.int (j : Int)), some (.int c), some (.ref qd), some (.str nm), some x, E4, Eu] /\ Mv [pn, d1, d2, a.ag] Hb H' /\ zb a.ae a.ag H' v d1 d2 p N' m' ms /\ cM H' qd ([x0, x1, x2, x3].map PyData.int) /\ 0 < N'.length /\ m'.length <= j + 1) ?_ ?_
     . repeat' (walk_at "rd1")
       . rename_i hb
         have Lx : nm ∉ N := fun hh => by rw [List.contains_iff_mem.mpr hh] at hb; cases hb
         have j8 : bF m nm = none := fE fun hh => Lx (rW.p.mem_iff.mpr hh)
         refine qU rW.g (by omega) j8 IC (fun H9 qP Dk => ?_)
         have xI := rW.l.mv qP (by simpa using JU)
         have wZ := y6.mv qP (by simpa using Ne.symm (rW.g.ab.pV y6))
         repeat' (walk_at "rd1")
         rename_i BW ke zt
         have Jm : p ≠ qd := (IJ.l).ne GY
         refine ⟨N ++ [nm], m ++ [(nm, d)], rfl, (vM.step qP (by simp)).step ke G6, ⟨Dk.Ez xI ke, rW.gi.add (by omega) j8 Jk IC, by rw [List.map_append]; exact zt, by rw [List.map_append]; exact rW.p.append_right _, (rW.t.sf rW.g.ab qP).Ez xI ke⟩, wZ.mv ke (by simpa using Ne.symm Jm), by simp, by rw [List.length_append]; simp; omega⟩
       . rename_i hb
         have : 0 < N.length := List.length_pos_of_mem (List.contains_iff_mem.mp hb)
         exact ⟨N, m, rfl, vM, rW, y6, this, by omega⟩
     . rintro σ' H9 ⟨N', m', rfl, qP, p0, wZ, FO, LC⟩
       have IX : N'.length <= 40 := by rw [p0.p.length_eq, List.length_map]; exact p0.gi.len
       have xI := p0.l
       repeat' (walk_at "rd1")
       have x9 : N'.getD ([x0, x1, x2, x3].getD (Int.toNat 1) default % (N'.length : Nat)).toNat default ∈ m'.map (·.1) := p0.p.mem_iff.mp (getD_mem (by omega))
       refine ⟨v, d1, d2, m', ms, _, _, rfl, p0.g, p0.gi, x9, fun J5 BW JP oZ ke FP Jb zt Hg => ?_⟩
       have Jp : p ≠ d2 := Ne.symm (p0.g.e7.pV p0.l)
       have kZ : zb a.ae a.ag BW v d1 d2 p N' m' oZ := ⟨Hg, Jb.gi p0.gi x9, p0.l.mv ke (by simpa using Jp), p0.p, p0.t.sf p0.g.e7 ke⟩
       have Ic := wZ.mv ke (by simpa using Ne.symm (p0.g.e7.pV wZ))
       have Hy : Mv [pn, d1, d2, a.ag] Hb BW := qP.step ke (by simp)
       have HL := kZ.l
       have JM := kZ.g.ins
       repeat' (walk_at "rd1")
       . have rO : N'.getD ([x0, x1, x2, x3].getD (Int.toNat 2) default / 80 % (N'.length : Nat)).toNat default ∈ m'.map (·.1) := p0.p.mem_iff.mp (getD_mem (by omega))
         generalize N'.getD ([x0, x1, x2, x3].getD (Int.toNat 2) default / 80 % (N'.length : Nat)).toNat default = n at rO ⊢
         refine tH kZ.g kZ.gi.vS (bo rO) (fun Ma LW HJ CH HG qI BV J0 Bu => ?_)
         have Ju := Bu.ins
         obtain ⟨Mz, DV, Iv⟩ := kZ.gi.ch n rO
         have sY : n ∈ HJ := qI.mem_iff.mpr (jT.mpr ⟨rO, by rw [DV.fn (by omega)]; obtain ⟨r, rfl⟩ := DV.head; exact List.mem_cons_self⟩)
         have j8 : bF (bj m' HJ) n = none := by rw [dD, if_pos sY]
         have jK := t9 sY rO
         have Gh := kZ.gi.Ae qI
         have LI := kZ.gi.len
         have B7 := Gh.add (x := .a0) (d := .none) (by omega) j8 (kZ.gi.ok n rO) (.inl ⟨rfl, rfl⟩)
         repeat' (walk_at "rd1")
         refine qU Bu (by omega) j8 (.inl ⟨rfl, rfl⟩) (fun Ke C5 AX => ?_)
         have JS := AX.ins
         have GL := ng kZ.t kZ.g CH
         have C1 := GL.sf Bu.ab C5
         repeat' (walk_at "rd1")
         refine qZ AX B7.vS C1 (fun LD Ml Lq D0 GH DC Gb wF => ?_)
         have yj : Mv [pn, d1, d2, a.ag] Hb Ke := (Hy.step CH (by simp)).step C5 (by simp)
         repeat' (walk_at "rd1")
         exact ⟨_, _, _, _, _, _, _, LD, Lq, _, _, rfl, yj.step D0 (by simp), ⟨AX.o7 C1 D0, B7, wF, Gb.1, GH⟩, .inr (yj.none DC), by rw [List.length_append]; simp; omega⟩
       . exact ⟨_, _, _, _, _, _, _, p, N', m', oZ, rfl, Hy, kZ, Gq, LC⟩
   . rintro σ' H' ⟨z5, z6, z7, z8, z9, E4, Eu, p, N, m, ms, rfl, mv, hS, Gq, Ex⟩
     repeat' (walk_at "rd1")
     refine ⟨v, d1, d2, m, ms, rfl, hS.g, hS.gi, hS.t, fun v2 e1 e2 m2 fB H5 vw ED pO qf zk qk eq5 => ?_⟩
     have tP := hS.g.o7 hS.t vw
     have Fm := hS.t.FV hS.l vw
     repeat' (walk_at "rd1")
     refine ⟨v, d1, d2, m, ms, v2, e1, e2, m2, fB, rfl, tP, zk, hS.gi, qk, eq5, ED, fun H6 ua FK => ?_⟩
     have xt := tP.o7 ED ua
     have vO := zk.o7 ED ua
     have Gr := ED.FV Fm ua
     have KD := xt.ins
     have L3 := vO.ins
     have KU : ∀ x ∈ N, nL x := fun x hx => hS.gi.ok x (hS.p.mem_iff.mp hx)
     have nO := hS.gi.vS
     have uh := qk.vS
     have Iq : N.length <= 40 := by rw [hS.p.length_eq, List.length_map]; exact hS.gi.len
     rcases Dr : N with _ | ⟨z, r⟩
     . rw [Dr] at Gr
       have JG : m = [] := by
        have := hS.p.length_eq
        rw [Dr, List.length_map] at this
        exact List.length_eq_zero_iff.mp this.symm
       have o0 : ∀ {z : List (Str × PyData)} {s : List Str}, (∀ k, bF m k = bF z k) -> nX z s -> s = [] := fun {z s} hk ho => by
        rcases s with _ | ⟨x, r⟩
        . rfl
        . have := bo (ho.1.mem_iff.mp (List.mem_cons_self (a := x) (l := r)))
          rw [<- hk, JG] at this
          cases this
       repeat' (walk_at "rd1")
       rename_i qa Ha nG Eo BK _ qb Mw sT Kv Fe _
       have Ig := (FK.keeps nG).keeps sT
       have Cp := (vO.keeps nG).keeps sT
       have m6 := (xt.keeps nG).keeps sT
       refine qZ Cp uh Ig (fun q8 H8 s8 vM JY HA JF yE => ?_)
       obtain rfl := o0 eq5.l JF
       have DG := m6.o7 Ig vM
       have J6 := DG.ins
       repeat' (walk_at "rd1")
       rename_i qc Hc Hw IQ MB _
       have E8 := DG.keeps Hw
       refine qZ E8 nO (JY.keeps Hw) (fun J5 BW JP ke DR FP GX zt => ?_)
       obtain rfl := o0 (fun _ => rfl) GX
       repeat' (walk_at "rd1")
       exact q _
     . have nQ : N ≠ [] := by rw [Dr]; simp
       have FO : 0 < N.length := by rw [Dr]; simp
       clear Dr
       have dk : ∀ {b : Addr} {z : List (Str × PyData)}, hO H' b z -> b ≠ e1 /\ b ≠ e2 := fun hd => ⟨hd.ne pO, hd.ne qf⟩
       have k1 := dk hS.g.ab
       have k2 := dk hS.g.e7
       have x9 : N.getD (ce / 20 % (N.length : Nat)).toNat default ∈ m.map (·.1) := hS.p.mem_iff.mp (getD_mem (by have := Int.emod_nonneg (ce / 20) (b := (N.length : Nat)) (by omega); have := Int.emod_lt_of_pos (ce / 20) (b := (N.length : Nat)) (by omega); omega))
       have tE : N.getD (ce / 20 % (N.length : Nat)).toNat default ∈ m2.map (·.1) := ei (by rw [<- eq5.l]; exact bo x9)
       repeat' (walk_at "rd1")
       . rename_i qa Ha nG Eo BK _ _ _ _ _ _
         generalize N.getD (ce / 20 % (N.length : Nat)).toNat default = n at x9 tE ⊢
         have Cp := vO.keeps nG
         have m6 := xt.keeps nG
         refine tH m6 nO (bo x9) (fun q8 H8 s8 vM HA Bk Hn yE F1 => ?_)
         have lg := Cp.gM vM m6 k1.1 k1.2 k2.1 k2.2
         have JQ := lg.ins
         repeat' (walk_at "rd1")
         refine tH lg uh (bo tE) (fun q9 H9 s9 qP FL B6 GA xI Dk => ?_)
         obtain rfl := ic (Bk.trans ((nz eq5.l hS.gi.nd qk.nd).trans B6.symm)) Hn GA
         have zr := F1.gM qP lg (Ne.symm k1.1) (Ne.symm k2.1) (Ne.symm k1.2) (Ne.symm k2.2)
         have zM : cM H9 q8 (s8.map PyData.str) := yE.mv qP (by simp; exact ⟨Ne.symm (lg.ab.pV yE), Ne.symm (lg.e7.pV yE)⟩)
         repeat' (walk_at "rd1")
         refine kG zM.dv xI.dv (fun y hy => hS.gi.ok y (jT.mp (Bk.mem_iff.mp hy)).1) ?_
         repeat' (walk_at "rd1")
         have Ge : jy H9 a.ag := (ng (FK.keeps nG) m6 vM |> fun t => ng t lg qP)
         refine ⟨v, d1, d2, _, _, v2, e1, e2, _, _, rfl, zr, Dk, hS.gi.Ae Bk, qk.Ae B6, eq5.bj, Ge, fun BW ke DR => ?_⟩
         repeat' (walk_at "rd1")
         exact q _
       . rename_i qa Ha nG Eo BK _ _ _ _ _ _
         generalize N.getD (ce / 20 % (N.length : Nat)).toNat default = n at x9 tE ⊢
         have Cp := vO.keeps nG
         have m6 := xt.keeps nG
         refine ⟨v, d1, d2, m, ms, n, _, rfl, m6, hS.gi, x9, fun q8 H8 s8 Mh vM HA AQ yE F1 => ?_⟩
         have lg := Cp.sf m6.e7 k2.1 k2.2 vM
         repeat' (walk_at "rd1")
         refine ⟨v2, e1, e2, m2, fB, n, _, rfl, lg, qk, tE, fun q9 H9 s9 LO qP FL CI xI Dk => ?_⟩
         obtain ⟨rfl, Ld⟩ := AQ.eq2 CI eq5 hS.gi.nd qk.nd
         have zr := F1.sf lg.e7 (Ne.symm k1.2) (Ne.symm k2.2) qP
         have zM : cM H9 q8 (s8.map PyData.str) := yE.mv qP (by simpa using Ne.symm (lg.e7.pV yE))
         repeat' (walk_at "rd1")
         refine kG xI.dv zM.dv (fun y hy => hS.gi.ok y ((AQ.len nO).2 y hy)) ?_
         repeat' (walk_at "rd1")
         have Ge : jy H9 a.ag := ((FK.keeps nG).sf m6.e7 vM).sf lg.e7 qP
         refine ⟨v, d1, d2, _, _, v2, e1, e2, _, _, rfl, zr, Dk, AQ.gi hS.gi x9, CI.gi qk tE, Ld, Ge, fun BW ke DR => ?_⟩
         repeat' (walk_at "rd1")
         exact q _
end
end My
open PySem PySem.W PyProof.Rows
local macro_rules | `(tactic| walk_at "k_dg") => `(tactic| (refine' ⟨?a, ⟨_, L2.qx ?l ?c⟩, ?k⟩; (case a => k_is); (case l => k_is); (case c => k_is); (case k => k_is)))
local macro_rules | `(tactic| walk_at "k_dm") => `(tactic| (refine' ⟨?a, ⟨_, L2.qx ?l ?c⟩, ?k, ?i⟩; (case a => k_is); (case l => k_is); (case c => k_is); (case k => k_is); (case i => k_is)))
local macro_rules | `(tactic| walk_at "k_dt") => `(tactic| (refine' My.xN ?l; (case l => k_is)))
local macro_rules | `(tactic| walk_at "k_ck") => `(tactic| (refine' ⟨?a, ?b, ?c, ?d, ?e, ?f, ?g⟩; (case a => k_is); (case b => k_is); (case c => k_is); (case d => k_is); (case e => k_is); (case f => k_is); (case g => k_is)))
local macro_rules | `(tactic| walk_at "k_lm") => `(tactic| (refine' L2.xT ?l ?e ?lc ?ev ?cd ?no; (case l => k_is); (case e => exact rfl); (case lc => k_is); (case ev => exact rfl); (case cd => kernel_rfl); (case no => kernel_rfl)))
theorem My.E7 {K : Frag} {mg : Str -> Option Value} {h : Heap} {fa : Addr} {ts : List Addr} {w : World} (X : K.In h) (By : mg "law" = some (.ref fa)) (T : ∃ a : My.Ad, a.tabs = ts /\ My.Txt K mg a) :
 ∃ fd : FuncData, (∀ (s : Shared) (u : Value), BindsTo s fd ⟨[u], []⟩ [("_law_script", u)]) /\ (∀ b ∈ ts, K.lookup b = none /\ ∃ c, CodeHd h c b) /\
   ∀ base : Heap, K.In base -> base.Ns mainGlobals mg -> L2.BM mg base -> L2.bR PySem.Challenge.rw_wakefew_k27_whole_only_marks_count.prog w K mg base L2.ik 14 fa fd ["_law_script"] (My.pe ts K) := by
 obtain ⟨a, rfl, T⟩ := T
 have e0 := By.symm.trans T.uO
 cases e0
 refine ⟨a.mH, fun s u => My.sR T s u, fun b hb => ?_, fun base kb nb bm => (My.Aa T ⟨kb, bm⟩).mono (by decide)⟩
 rcases T.vV b hb with rfl
 exact ⟨T.bT.no, _, codeHd_of_K X T.bT.cd⟩
theorem PySem.W.Fast.tw14331527466276229557 : True := trivial
theorem PySem.W.Fast.tw1284282863023193881 : True := trivial
theorem PySem.W.Fast.tw5157599188944024202 : True := trivial
theorem PySem.W.Fast.tw16199688480040721938 : True := trivial
theorem PySem.W.Fast.tw2694510162935252441 : True := trivial
theorem PySem.W.Fast.tw16714376627679920276 : True := trivial
theorem PySem.W.Fast.tw16411015436524268211 : True := trivial
theorem PySem.W.Fast.tw4957937462349795651 : True := trivial
set_option maxRecDepth 100000 in
set_option maxHeartbeats 0 in
theorem PySem.Challenge.cw_wakefew_k27_whole_only_marks_count_holds : PySem.Challenge.rw_wakefew_k27_whole_only_marks_count.Holds := by
 w_on; o_law; k_head; (case hw => w_witness2)
 k_fill
 refine L2.vd (l := PySem.Challenge.rw_wakefew_k27_whole_only_marks_count) (n := 63) (k := 14) (x := "_law_script") (CX := L2.ik) (sp := My.pe) rfl (by decide) rfl ⟨rfl, by decide, by decide⟩ (fun w h Y => ⟨PySem.W.km_in_of Y, PySem.W.km_tabs_of Y⟩) ?F ?S ?C
 case F =>
  intro w mg fa h KX G By
  refine My.E7 KX By ?_
  try dsimp only
  refine' My.y8 KX G ?h0 ?h3 ?h4 ?h5 ?h6 ?h7 ?h8 ?h9 ?h10 ?h11 ?h12 ?h13 ?h14 ?h15 ?h16 ?h17 ?h18 ?h19 ?h20 ?h21 ?h22 ?h23 ?h24 ?h25 ?h26 ?h27 ?h28 ?h29 ?h30 ?h31 ?h32 ?h33 ?h34 ?h35 ?h36 ?h37 ?h38 ?h39 ?h40 ?h41 ?h42 ?h43 ?h44
  (case h0 => k_is)
  (case h3 => walk_at "k_dm")
  (case h4 => walk_at "k_dm")
  (case h5 => walk_at "k_dt")
  (case h6 => walk_at "k_dm")
  (case h7 => walk_at "k_dm")
  (case h8 => walk_at "k_dm")
  (case h9 => walk_at "k_dm")
  (case h10 => walk_at "k_dm")
  (case h11 => walk_at "k_dm")
  (case h12 => walk_at "k_dm")
  (case h13 => walk_at "k_dm")
  (case h14 => walk_at "k_lm")
  (case h15 => decide)
  (case h16 => walk_at "k_dm")
  (case h17 => walk_at "k_dm")
  (case h18 => walk_at "k_dm")
  (case h19 => walk_at "k_dm")
  (case h20 => walk_at "k_dg")
  (case h21 => walk_at "k_dg")
  (case h22 => walk_at "k_dg")
  (case h23 => walk_at "k_dg")
  (case h24 => walk_at "k_dg")
  (case h25 => walk_at "k_dg")
  (case h26 => walk_at "k_dg")
  (case h27 => walk_at "k_dg")
  (case h28 => walk_at "k_dg")
  (case h29 => walk_at "k_dg")
  (case h30 => walk_at "k_ck")
  (case h31 => k_is)
  (case h32 => k_is)
  (case h33 => k_is)
  (case h34 => k_is)
  (case h35 => decide)
  (case h36 => k_is)
  (case h37 => k_is)
  (case h38 => k_is)
  (case h39 => k_is)
  (case h40 => k_is)
  (case h41 => k_is)
  (case h42 => k_is)
  (case h43 => k_is)
  (case h44 => k_is)
 case S => exact fun K H l ns hl hS hT => ⟨l, ns, rfl, hS, hl, hT, fun _ => rfl⟩
 case C => exact fun H s e s' h => h
