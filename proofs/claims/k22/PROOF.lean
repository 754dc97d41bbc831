import PyProof.Rows.All
import Wide.All
import OpenK.AllK
import Wide.FinOn
import Lean
import PyProof.EqAt
import PyProof.EqKinds
import PyProof.TupleCall
import PyProof.StrLawsRepr
import PySem.Challenge.RW_wakefew_k22_groups_refused
set_option compiler.extract_closed false
set_option Elab.async false
set_option linter.all false
set_option maxRecDepth 100000
namespace L2
open PySem PySem.Spec PyProof.Rows
abbrev Key := Sum Int Str
def mL : Key -> Value -> Bool
 | .inl k, v => Value.isInt k v
 | .inr x, v => Value.isStrOf x v
def Hn (w : World) : Key -> Int
 | .inl k => hashInt k
 | .inr x => hashStr w x
theorem bj : ∀ {k : Key} {v : Value}, mL k v = true -> (∃ i t, k = Sum.inl i /\ v = Value.int i t) \/ (∃ x t, k = Sum.inr x /\ v = Value.str x t)
 | .inl i, v, h => by
   obtain ⟨t, e⟩ := Value.isInt_shape (k := i) (v := v) h
   exact .inl ⟨i, t, rfl, e⟩
 | .inr x, v, h => by
   obtain ⟨t, e⟩ := Value.isStrOf_shape (x := x) (v := v) h
   exact .inr ⟨x, t, rfl, e⟩
theorem uR (i : Int) (t : Tok) : mL (.inl i) (.int i t) = true := by simp [mL, Value.isInt]
theorem uS (x : Str) (t : Tok) : mL (.inr x) (.str x t) = true := by simp [mL, Value.isStrOf]
theorem Bz (a b : Int) : decide ((Sum.inl a : Key) = Sum.inl b) = (a == b) := by
 by_cases e : a = b
 . subst e; simp
 . have h : ¬ (Sum.inl a : Key) = Sum.inl b := fun q => e (Sum.inl.inj q)
   rw [decide_eq_false h]
   exact (beq_eq_false_iff_ne.mpr e).symm
theorem BI (a b : Str) : decide ((Sum.inr a : Key) = Sum.inr b) = decide (a = b) := by
 by_cases e : a = b
 . subst e; simp
 . have h : ¬ (Sum.inr a : Key) = Sum.inr b := fun q => e (Sum.inr.inj q)
   rw [decide_eq_false h, decide_eq_false e]
theorem C6 (a : Int) (b : Str) : decide ((Sum.inl a : Key) = Sum.inr b) = false := decide_eq_false (fun q => nomatch q)
theorem Dw (a : Str) (b : Int) : decide ((Sum.inr a : Key) = Sum.inl b) = false := decide_eq_false (fun q => nomatch q)
def bM (prog : Program) (w : World) : PySem.KeyKind prog w Key where
 is := mL
 hash := Hn w
 inj := fun v a b ha hb => by
  rcases bj ha with ⟨i, t, rfl, rfl⟩ | ⟨x, t, rfl, rfl⟩
  . rcases bj hb with ⟨j, u, rfl, e⟩ | ⟨y, u, rfl, e⟩
    . injection e with e1 _; rw [e1]
    . exact nomatch e
  . rcases bj hb with ⟨j, u, rfl, e⟩ | ⟨y, u, rfl, e⟩
    . exact nomatch e
    . injection e with e1 _; rw [e1]
 byValue := fun k v h => by
  rcases bj h with ⟨i, t, rfl, rfl⟩ | ⟨x, t, rfl, rfl⟩ <;> rfl
 pyHash := fun hv h => by
  rcases bj hv with ⟨i, t, rfl, rfl⟩ | ⟨x, t, rfl, rfl⟩
  . exact wpAny_pyHash_int h
  . exact wpAny_pyHash_str h
 eqBool := fun hu hv h => by
  rcases bj hu with ⟨i, t, rfl, rfl⟩ | ⟨x, t, rfl, rfl⟩
  . rcases bj hv with ⟨j, u, rfl, rfl⟩ | ⟨y, u, rfl, rfl⟩
    . rw [Bz] at h; exact wpAny_eqBool_int h
    . rw [C6] at h; exact SeqAt.EqAt.int_str i t y u _ _ _ _ h
  . rcases bj hv with ⟨j, u, rfl, rfl⟩ | ⟨y, u, rfl, rfl⟩
    . rw [Dw] at h; exact SeqAt.EqAt.str_int x t j u _ _ _ _ h
    . rw [BI] at h; exact wpAny_eqBool_str h
 «strs» := fun k x t v h => by
  rcases bj h with ⟨i, u, rfl, e⟩ | ⟨y, u, rfl, e⟩
  . exact nomatch e
  . injection e with e1 _
    subst e1
    cases v <;> rfl
theorem qC (prog : Program) (w : World) (i : Int) (t : Tok) : (bM prog w).is (.inl i) (.int i t) = true := uR i t
theorem qi (prog : Program) (w : World) (x : Str) (t : Tok) : (bM prog w).is (.inr x) (.str x t) = true := uS x t
inductive V where
 | aY | bl (b : Bool) | int (i : Int) | str (x : Str) | tY (b : Array UInt8) | D3 (b : UInt64) | ref (a : Addr) | ty (n : String)
 deriving DecidableEq
def RelV : V -> Value -> Prop
 | .aY, u => u = Value.none
 | .bl b, u => u = Value.bool b
 | .int i, u => ∃ t, u = Value.int i t
 | .str x, u => ∃ t, u = Value.str x t
 | .tY b, u => ∃ t, u = Value.bytes b t
 | .D3 b, u => ∃ t, u = Value.float b t
 | .ref a, u => u = Value.ref a
 | .ty n, u => u = Value.type n
abbrev Vals : List V -> List Value -> Prop := Paired RelV
theorem Vals.length {xs : List V} {us : List Value} (r : Vals xs us) : xs.length = us.length := Paired.length r
theorem Vals.get : ∀ {xs : List V} {us : List Value} {i : Nat} {x : V}, Vals xs us -> xs[i]? = some x -> ∃ u, us[i]? = some u /\ RelV x u
 | _, _, _, _, .nil, e => by simp at e
 | _, _, 0, _, .cons r _, e => by simp at e; subst e; exact ⟨_, rfl, r⟩
 | _, _, i + 1, x, .cons _ t, e => by
   obtain ⟨u, h1, h2⟩ := Vals.get (i := i) (x := x) t (by simpa using e)
   exact ⟨u, by simpa using h1, h2⟩
theorem Vals.append : ∀ {xs ys : List V} {us ws : List Value}, Vals xs us -> Vals ys ws -> Vals (xs ++ ys) (us ++ ws)
 | _, _, _, _, .nil, s => s
 | _, _, _, _, .cons r t, s => .cons r (Vals.append t s)
def iL : Option V -> Option Value -> Prop
 | some v, some u => RelV v u
 | none, none => True
 | _, _ => False
def KV {κ : Type} : List (κ × V) -> List (κ × Value) -> Prop := Paired fun (p : κ × V) (q : κ × Value) => p.1 = q.1 /\ RelV p.2 q.2
def kV : Key -> V
 | .inl i => .int i
 | .inr x => .str x
inductive HO where
 | lst (xs : List V)
 | tup (xs : List V)
 | dK (kvs : List (Key × V)) | dT (kvs : List (List Key × V))
 | set (S : Int -> Bool) (n : Nat)
 | ins (C dx : Addr) (fs : List (Str × V))
 | own (x : Addr)
 | xd (fs : List (Str × V))
 | met (f x : Addr)
 | He (lo hi : Int)
 | rX (o : Obj) (u : HO)
 | iX (ps : Array Value)
 | ext (φ : Heap -> Prop)
abbrev Hp := Addr -> Option HO
def upd (H : Hp) (a : Addr) (o : HO) : Hp := fun b => if b = a then some o else H b
theorem av {H : Hp} {a : Addr} {o : HO} : upd H a o a = some o := by unfold upd; rw [if_pos rfl]
theorem ak {H : Hp} {a b : Addr} {o : HO} (h : b ≠ a) : upd H a o b = H b := by unfold upd; rw [if_neg h]
theorem A9 {H : Hp} {a b : Addr} {o u : HO} (h : H a = some o) (h' : H b = some u) (d : o ≠ u) : a ≠ b := by
 intro e; subst e; rw [h] at h'; exact d (Option.some.inj h')
theorem aE {H : Hp} {a b : Addr} {o : HO} (h : H a = some o) (h' : H b = none) : a ≠ b := by
 intro e; subst e; rw [h] at h'; cases h'
section
variable (P : Program) (w : World)
def bo (H : Hp) (h : Heap) (a : Addr) : HO -> Prop
 | .lst xs => xs.length <= sizeLine /\ ∃ (aJ : List Value) (n : Nat), Vals xs aJ /\ h.get? a = some { cls := .type "list", data := .seq aJ.toArray n }
 | .tup xs => xs.length <= sizeLine /\ ∃ aJ : List Value, Vals xs aJ /\ IsTup h a aJ.toArray
 | .dK kvs => kvs.length <= sizeLine /\ (a == sysModules) = false /\ ∃ vs, KV kvs vs /\ h.DictOf (bM P w) a vs
 | .dT kvs => kvs.length <= sizeLine /\ (a == sysModules) = false /\ ∃ xs : List (List Key × Addr × Value),
  Paired (fun (p : List Key × V) (q : List Key × Addr × Value) => p.1 = q.1 /\ H q.2.1 = some (.tup (p.1.map kV)) /\ RelV p.2 q.2.2) kvs xs /\
  ∃ o es ep, h.get? a = some o /\ o.ExactDict /\ o.data = .dict es ep /\ es.toList = xs.map (entryOfKey (tupleKind (bM P w))) /\ (xs.map (·.1)).Nodup
 | .set S n => h.SetOf (intKind P w) a S n
 | .ins C dx fs => H dx = some (.own a) /\ fs.length <= 1000 /\ dx ≠ a /\ h.get? a = some (PySem.W.instObj C dx) /\
  ∃ mA, h.Ns1 dx mA /\ (∀ f, iL (fs.lookup f) (mA f)) /\ PySem.Within mA (fs.map (·.1))
 | .own _ => ∃ o, h.get? a = some o
 | .xd fs => ∃ mA, h.Ns1 a mA /\ ∀ f, iL (fs.lookup f) (mA f)
 | .He lo hi => ∃ t u v, h.get? a = some { cls := .type "range", data := .fields #[.int lo t, .int hi u, .int 1 v] }
 | .rX o u => h.get? a = some o /\ bo H h a u
 | .iX ps => h.get? a = some { cls := .none, data := .fields ps }
 | .met f x => h.get? a = some (PySem.W.methodObj (.ref f) (.ref x))
 | .ext φ => φ h /\ (∃ o, h.get? a = some o) /\ ∀ h1 h2 : Heap, φ h1 -> (∀ o, h1.get? a = some o -> h2.get? a = some o) -> φ h2
def iU (H : Hp) (h : Heap) : Prop := ∀ a o, H a = some o -> bo P w H h a o
end
section
variable {P : Program} {w : World} {H H' : Hp} {h h' : Heap} {a : Addr} {o : HO}
theorem bo.lt (x : bo P w H h a o) : a < h.objs.size := by
 cases o with
 | lst xs => obtain ⟨_, _, _, _, e⟩ := x; exact Heap.lt_size e
 | tup xs => obtain ⟨_, _, _, p⟩ := x; exact p.lt
 | dK kvs => obtain ⟨_, _, _, _, o, _, _, e, _⟩ := x; exact Heap.lt_size e
 | dT kvs => obtain ⟨_, _, _, _, o, _, _, e, _⟩ := x; exact Heap.lt_size e
 | set S n => obtain ⟨o, _, _, _, e, _⟩ := x; exact Heap.lt_size e
 | ins C dx fs => obtain ⟨_, _, _, e, _⟩ := x; exact Heap.lt_size e
 | own y => obtain ⟨_, e⟩ := x; exact Heap.lt_size e
 | xd fs => obtain ⟨_, ⟨_, _, _, e, _⟩, _⟩ := x; exact Heap.lt_size e
 | He lo hi => obtain ⟨_, _, _, e⟩ := x; exact Heap.lt_size e
 | rX ob u => obtain ⟨e, _⟩ := x; exact Heap.lt_size e
 | iX ps => exact Heap.lt_size (show h.get? a = some _ from x)
 | met f y => exact Heap.lt_size (show h.get? a = some _ from x)
 | ext φ => obtain ⟨_, ⟨_, e⟩, _⟩ := x; exact Heap.lt_size e
theorem Paired.CV {α β : Type} {F G : α -> β -> Prop} : ∀ {l₁ : List α} {l₂ : List β}, Paired F l₁ l₂ -> (∀ a b, F a b -> G a b) -> Paired G l₁ l₂
 | _, _, .nil, _ => .nil
 | _, _, .cons r t, f => .cons (f _ _ r) (Paired.CV t f)
theorem bo.kg (x : bo P w H h a o) (k : ∀ b u, (b = a \/ H b = some (.own a)) -> h.get? b = some u -> h'.get? b = some u)
 (ho : ∀ b, H b = some (.own a) -> H' b = some (.own a)) (ht : ∀ b xs, H b = some (.tup xs) -> H' b = some (.tup xs)) : bo P w H' h' a o := by
 induction o with
 | lst xs => obtain ⟨z, aJ, n, r, e⟩ := x; exact ⟨z, aJ, n, r, k _ _ (.inl rfl) e⟩
 | tup xs => obtain ⟨z, aJ, r, ob, e, c⟩ := x; exact ⟨z, aJ, r, ob, k _ _ (.inl rfl) e, c⟩
 | dK kvs => obtain ⟨z, y, vs, r, ob, es, ep, e, c⟩ := x; exact ⟨z, y, vs, r, ob, es, ep, k _ _ (.inl rfl) e, c⟩
 | dT kvs =>
   obtain ⟨z, y, xs, r, ob, es, ep, e, c⟩ := x
   exact ⟨z, y, xs, Paired.CV r fun p q z => ⟨z.1, ht _ _ z.2.1, z.2.2⟩, ob, es, ep, k _ _ (.inl rfl) e, c⟩
 | set S n => obtain ⟨ob, es, ep, t, e, c⟩ := x; exact ⟨ob, es, ep, t, k _ _ (.inl rfl) e, c⟩
 | ins C dx fs =>
   obtain ⟨d, z, ne, e, mA, ⟨od, es, ep, e2, c⟩, r⟩ := x
   exact ⟨ho _ d, z, ne, k _ _ (.inl rfl) e, mA, ⟨od, es, ep, k _ _ (.inr d) e2, c⟩, r⟩
 | own y => obtain ⟨ob, e⟩ := x; exact ⟨ob, k _ _ (.inl rfl) e⟩
 | xd fs => obtain ⟨mA, ⟨od, es, ep, e, c⟩, r⟩ := x; exact ⟨mA, ⟨od, es, ep, k _ _ (.inl rfl) e, c⟩, r⟩
 | He lo hi => obtain ⟨t, u, v, e⟩ := x; exact ⟨t, u, v, k _ _ (.inl rfl) e⟩
 | rX ob u ih => obtain ⟨e, q⟩ := x; exact ⟨k _ _ (.inl rfl) e, ih q⟩
 | iX ps =>
   have e : h.get? a = some { cls := .none, data := .fields ps } := x
   show h'.get? a = some { cls := .none, data := .fields ps }
   exact k a _ (.inl rfl) e
 | met f y =>
   have e : h.get? a = some (PySem.W.methodObj (.ref f) (.ref y)) := x
   show h'.get? a = some (PySem.W.methodObj (.ref f) (.ref y))
   exact k a _ (.inl rfl) e
 | ext φ => obtain ⟨p, ⟨o, e⟩, st⟩ := x; exact ⟨st _ _ p fun o q => k _ _ (.inl rfl) q, ⟨o, k _ _ (.inl rfl) e⟩, st⟩
theorem iU.lt (x : iU P w H h) (e : H a = some o) : a < h.objs.size := (x a o e).lt
theorem iU.fresh (x : iU P w H h) (e : h.objs.size <= a) : H a = none := by
 cases q : H a with
 | none => rfl
 | some u => exact absurd (Nat.lt_of_lt_of_le (x.lt q) e) (Nat.lt_irrefl _)
theorem iU.kept (x : iU P w H h) (k : ∀ b u, h.get? b = some u -> h'.get? b = some u) : iU P w H h' := fun a o e =>
 (x a o e).kg (fun b u _ q => k b u q) (fun _ q => q) fun _ _ q => q
theorem iU.laid (x : iU P w H h) (k : ∀ b u, h.get? b = some u -> h'.get? b = some u) (hp : h.objs.size <= a) (new : bo P w (upd H a o) h' a o) : iU P w (upd H a o) h' := fun b u e => by
 have hn := x.fresh hp
 by_cases hb : b = a
 . subst hb; rw [av] at e; cases e; exact new
 . rw [ak hb] at e
   exact (x b u e).kg (fun c v _ q => k c v q) (fun c q => by rw [ak (aE q hn)]; exact q) fun c xs q => by rw [ak (aE q hn)]; exact q
end
def Rd (H : Hp) (a : Addr) (u : HO) : Prop := H a = some u \/ ∃ o, H a = some (.rX o u)
theorem Rd.of {H : Hp} {a : Addr} {u : HO} (h : H a = some u) : Rd H a u := .inl h
theorem Rd.ok {P : Program} {w : World} {H : Hp} {h : Heap} {a : Addr} {u : HO} (r : Rd H a u) (x : iU P w H h) : bo P w H h a u := by
 rcases r with r | ⟨o, r⟩
 . exact x a u r
 . obtain ⟨_, q⟩ := x a _ r
   exact q
def Ew : Option HO -> Prop
 | some (.lst _) => True
 | some (.dK _) => True
 | some (.dT _) => True
 | some (.set _ _) => True
 | some (.ins _ _ _) => True
 | some (.ext _) => True
 | _ => False
section
variable {P : Program} {w : World} {H : Hp} {h h' : Heap} {x e : Addr} {o' : HO}
theorem iU.write (ok : iU P w H h) (mu : Ew (H x)) (he : e = x \/ H e = some (.own x)) (k : ∀ b u, b ≠ e -> h.get? b = some u -> h'.get? b = some u) (Eg : ∃ u, h'.get? e = some u)
 (new : bo P w (upd H x o') h' x o') : iU P w (upd H x o') h' := fun b u q => by
 have EY : ∀ c y, H c = some (.own y) -> c ≠ x := fun c y r z => by subst z; rw [r] at mu; exact mu
 have HQ : ∀ c xs, H c = some (.tup xs) -> c ≠ x := fun c xs r z => by subst z; rw [r] at mu; exact mu
 by_cases hb : b = x
 . subst hb; rw [av] at q; cases q; exact new
 . rw [ak hb] at q
   by_cases vx : b = e
   . have q' : H b = some (.own x) := by
      rcases he with z | z
      . exact absurd (vx.trans z) hb
      . rw [vx]; exact z
     rw [q] at q'; cases q'
     obtain ⟨v, hv⟩ := Eg
     exact ⟨v, by rw [vx]; exact hv⟩
   . refine (ok b u q).kg (fun c v hc r => k c v ?_ r) (fun c r => by rw [ak (EY c b r)]; exact r) fun c xs r => by rw [ak (HQ c xs r)]; exact r
     rcases hc with rfl | hc
     . exact vx
     . rintro rfl
       rcases he with z | z
       . exact EY c b hc z
       . rw [hc] at z; cases z; exact hb rfl
end
structure Un (fs ex : List Addr) (H H' : Hp) (h h' : Heap) : Prop where
 keep : ∀ b o, h.get? b = some o -> H b = none -> b ∉ fs -> b ∉ ex -> h'.get? b = some o
 slot : ∀ b o, h.get? b = some o -> H b = none -> b ∈ fs -> b ∉ ex -> ∃ sl, h'.get? b = some { o with slots := sl }
 free : ∀ b o, h.get? b = some o -> H b = none -> b ∉ ex -> H' b = none
 there : ∀ b o, h.get? b = some o -> b ∉ ex -> ∃ o', h'.get? b = some o'
 iK : ∀ b xs, H b = some (.tup xs) -> H' b = some (.tup xs)
 ic : ∀ b o u, H b = some (.rX o u) -> H' b = some (.rX o u)
 i5 : ∀ b ps, H b = some (.iX ps) -> ∃ more, H' b = some (.iX (ps ++ more))
section
variable {fs GB ex N4 : List Addr} {H H1 H2 : Hp} {h h1 h2 h' : Heap} {a x e : Addr} {o : HO}
theorem Un.any (u : Un fs ex H H1 h h1) {b : Addr} {ob : Obj} (q : h.get? b = some ob) (n : H b = none) (hx : b ∉ ex) : ∃ sl, h1.get? b = some { ob with slots := sl } := by
 by_cases hb : b ∈ fs
 . exact u.slot b ob q n hb hx
 . exact ⟨ob.slots, u.keep b ob q n hb hx⟩
theorem Un.kept (k : ∀ b u, h.get? b = some u -> h'.get? b = some u) : Un fs ex H H h h' :=
 ⟨fun b ob q _ _ _ => k b ob q, fun b ob q _ _ _ => ⟨ob.slots, k b ob q⟩, fun _ _ _ n _ => n, fun b ob q _ => ⟨ob, k b ob q⟩, fun _ _ q => q, fun _ _ _ q => q, fun _ ps q => ⟨#[], by rw [q]; simp⟩⟩
theorem Un.refl : Un fs ex H H h h := Un.kept fun _ _ q => q
theorem Un.laid (k : ∀ b u, h.get? b = some u -> h'.get? b = some u) (hp : h.objs.size <= a) (hn : H a = none) : Un fs ex H (upd H a o) h h' where
 keep := fun b u q _ _ _ => k b u q
 slot := fun b u q _ _ _ => ⟨u.slots, k b u q⟩
 free := fun b u q n _ => by rw [ak (Nat.ne_of_lt (Nat.lt_of_lt_of_le (Heap.lt_size q) hp))]; exact n
 there := fun b u q _ => ⟨u, k b u q⟩
 iK := fun b xs q => by rw [ak (aE q hn)]; exact q
 ic := fun b u xs q => by rw [ak (aE q hn)]; exact q
 i5 := fun b ps q => ⟨#[], by rw [ak (aE q hn), q]; simp⟩
theorem Un.write (mu : Ew (H x)) (he : e = x \/ H e = some (.own x)) (k : ∀ b u, b ≠ e -> h.get? b = some u -> h'.get? b = some u) (Eg : ∃ u, h'.get? e = some u) : Un fs ex H (upd H x o) h h' := by
 have hx : ∀ b, H b = none -> b ≠ x := fun b n z => by subst z; rw [n] at mu; exact mu
 have hb : ∀ b, H b = none -> b ≠ e := fun b n z => by
  subst z
  rcases he with r | r
  . exact hx b n r
  . rw [n] at r; cases r
 have hm : ∀ b u, H b = some u -> ¬ Ew (some u) -> b ≠ x := fun b u q nm z => by subst z; rw [q] at mu; exact nm mu
 refine ⟨fun b u q n _ _ => k b u (hb b n) q, fun b u q n _ _ => ⟨u.slots, k b u (hb b n) q⟩, fun b u q n _ => by rw [ak (hx b n)]; exact n, fun b u q _ => ?_,
  fun b xs q => by rw [ak (hm b _ q fun z => z)]; exact q, fun b u xs q => by rw [ak (hm b _ q fun z => z)]; exact q, fun b ps q => ⟨#[], by rw [ak (hm b _ q fun z => z), q]; simp⟩⟩
 by_cases vx : b = e
 . subst vx; exact Eg
 . exact ⟨u, k b u vx q⟩
end
def GC (h : Heap) (H : Hp) : List Addr := (List.range h.objs.size).filter fun a => (H a).isSome
def nV (h : Heap) (H : Hp) : Heap := PySem.W.hideAll h (GC h H)
theorem vt (h : Heap) (H : Hp) : (nV h H).objs.size = h.objs.size := PySem.W.hideAll_size _ _
theorem x4 {h : Heap} {H : Hp} {b : Addr} {o : Obj} (e : h.get? b = some o) (n : H b = none) : (nV h H).get? b = some o :=
 PySem.W.hideAll_get _ e fun hm => by
  have q : (H b).isSome = true := (List.mem_filter.mp hm).2
  rw [n] at q; simp at q
theorem Ab {h : Heap} {H : Hp} {b : Addr} {o : Obj} (e : (nV h H).get? b = some o) : h.get? b = some o /\ H b = none := by
 have e' : h.get? b = some o := PySem.W.of_hideAll (GC h H) e
 refine ⟨e', ?_⟩
 cases q : H b with
 | none => rfl
 | some x =>
   have hm : b ∈ GC h H := List.mem_filter.mpr ⟨List.mem_range.mpr (Heap.lt_size e'), by simp [q]⟩
   have z : (nV h H).get? b = none := PySem.W.hideAll_none (GC h H) hm
   rw [z] at e; cases e
def y0 (g h : Heap) (L : Addr) : List (Addr × Obj) := (List.range h.objs.size).filterMap fun a => if a = L \/ (g.get? a).isSome = true then none else (h.get? a).map fun o => (a, o)
def rest (g h : Heap) (L d : Addr) : List (Addr × Obj) := (y0 g h L).filter fun p => decide (p.1 ≠ d)
structure Mod (K : PySem.W.Frag) (mg : Str -> Option Value) (base : Heap) : Prop where
 DS : K.In base
 glob : base.Ns mainGlobals mg
 blt : ∃ mb, base.Ns builtinsNs mb /\ ∀ x : Str, x ≠ "__name__" -> mb x = bootBuiltins x
 nolimit : base.NoLimit
structure Cx where
 prog : Program
 w : World
 K : PySem.W.Frag
 mg : Str -> Option Value
 base : Heap
 A : Around
 N : List Str
 cA : Shared
 vu : Hp
 env : Env
 outer : List Env
 stack : List Env
 ex : List Addr
 fn : Str -> Bool
 calm : Bool
 pn : List (Addr × Obj)
 xe : Value -> Shared -> Prop
def mJ (l : List Env) : List Addr := l.filterMap (·.frame)
abbrev Cx.fs (X : Cx) : List Addr := mJ X.outer
def BQ (sc : Scope) (x : Str) : Prop := sc.names.lookup x = some .local \/ sc.names.lookup x = some .cell \/ sc.names.lookup x = some .free
def Loc (sc : Scope) (x : Str) : Prop := sc.names.lookup x = some .local \/ sc.names.lookup x = some .cell
def Look (env : Env) (h : Heap) (m : Str -> Option Value) (x : Str) (u : Value) : Prop :=
 (env.kindOf x = some .local /\ m x = some u) \/ ((env.kindOf x = some .cell \/ env.kindOf x = some .free) /\ ∃ c, env.cells.lookup x = some c /\ h.IsCell c (some u))
structure Cx.Ok (X : Cx) : Prop where
 mod : Mod X.K X.mg X.base
 kind : X.env.scope.kind = .function
 glob : X.env.globals = mainGlobals
 blt : X.env.builtins = builtinsNs
 above : X.cA.heap.objs.size <= X.env.locals
 inj : ∀ x y c, X.env.cells.lookup x = some c -> X.env.cells.lookup y = some c -> x = y
 has : ∀ x, (X.env.kindOf x = some .cell \/ X.env.kindOf x = some .free) -> ∃ c, X.env.cells.lookup x = some c
 yB : ∀ x c, X.fn x = true -> X.env.cells.lookup x = some c -> X.cA.heap.objs.size <= c
 hd : X.calm = true -> X.A.handled = none
 frames : X.A.frames = some X.stack
 AA : X.stack = X.outer \/ (X.stack = X.env :: X.outer /\ X.env.frame = some X.env.locals)
 AJ : ∀ b ∈ X.ex, b ≠ X.env.locals /\ ∀ x c, X.env.cells.lookup x = some c -> c ≠ b
 bs : ∀ b o, X.base.get? b = some o -> X.cA.heap.get? b = some o /\ X.vu b = none
 rC : X.base.objs.size <= X.cA.heap.objs.size
 pL : ∀ b o, X.base.get? b = some o -> b ∉ X.ex
 pV : ∀ b ∈ X.ex, b ∉ X.fs
 ie : X.cA.heap.FunFrames X.base X.outer
 uF : ∀ b ∈ X.fs, X.vu b = none
structure Inv (X : Cx) (pins : List (Addr × Obj)) (σ : List (Option V)) (H : Hp) (s : Shared) : Prop where
 ok : X.Ok
 os : s.os = X.cA.os
 bare : AllBare s.gens
 base : Un X.fs X.ex X.vu H X.cA.heap s.heap
 loc : ∃ m, s.heap.Ns X.env.locals m /\ ∀ (i : Nat) (x : Str) (v : V), X.N[i]? = some x -> σ[i]? = some (some v) -> BQ X.env.scope x -> ∃ u, RelV v u /\ Look X.env s.heap m x u
 cell : ∀ x c, X.env.cells.lookup x = some c -> ∃ v, s.heap.IsCell c v
 free : H X.env.locals = none
 c9 : ∀ x c, X.env.cells.lookup x = some c -> H c = none
 pin : ∀ p ∈ X.pn ++ pins, s.heap.get? p.1 = some p.2 /\ H p.1 = none /\ p.1 ≠ X.env.locals /\ p.1 ∉ X.fs /\ ∀ v, p.2.data ≠ .cell v
 aK : iU X.prog X.w H s.heap
 len : σ.length = X.N.length
section
variable {X : Cx} {pins : List (Addr × Obj)} {σ : List (Option V)} {H H' : Hp} {s : Shared} {h' : Heap}
theorem Cx.Ok.HZ (ok : X.Ok) {b : Addr} {o : Obj} (e : X.base.get? b = some o) : b ∉ X.fs := fun hb => by
 have := (ok.ie.mem hb).1
 rw [e] at this; cases this
theorem Inv.bs (I : Inv X pins σ H s) : ∀ b o, X.base.get? b = some o -> s.heap.get? b = some o /\ H b = none := fun b o e =>
 ⟨I.base.keep b o (I.ok.bs b o e).1 (I.ok.bs b o e).2 (I.ok.HZ e) (I.ok.pL b o e), I.base.free b o (I.ok.bs b o e).1 (I.ok.bs b o e).2 (I.ok.pL b o e)⟩
theorem Inv.bk (I : Inv X pins σ H s) : ∀ b o, X.base.get? b = some o -> s.heap.get? b = some o := fun b o e => (I.bs b o e).1
theorem Inv.mod (I : Inv X pins σ H s) : Mod X.K X.mg X.base := I.ok.mod
theorem Inv.iY (I : Inv X pins σ H s) : X.K.In s.heap := I.ok.mod.DS.keeps I.bk
theorem Inv.nolimit (I : Inv X pins σ H s) : s.heap.NoLimit := I.ok.mod.nolimit.keeps I.bk
theorem Inv.fr (I : Inv X pins σ H s) : ∃ m, Fr X.base X.env.locals s.heap m :=
 let ⟨m, hn, _⟩ := I.loc
 ⟨m, hn, I.bk, Nat.le_trans I.ok.rC I.ok.above⟩
theorem Inv.lt (I : Inv X pins σ H s) : X.env.locals < s.heap.objs.size := let ⟨_, hn, _⟩ := I.loc; hn.lt
theorem Inv.sz (I : Inv X pins σ H s) : X.cA.heap.objs.size <= s.heap.objs.size := Nat.le_trans I.ok.above (Nat.le_of_lt I.lt)
theorem Inv.Gr (I : Inv X pins σ H s) {a : Addr} (h : s.heap.objs.size <= a) : a ∉ X.fs := fun hb => by
 obtain ⟨_, o, ho, _⟩ := I.ok.ie.mem hb
 exact absurd (Nat.lt_of_lt_of_le (Heap.lt_size ho) (Nat.le_trans I.sz h)) (Nat.lt_irrefl _)
theorem Inv.zW (I : Inv X pins σ H s) : ∀ x c, X.env.cells.lookup x = some c -> c ≠ X.env.locals := fun x c e z => by
 obtain ⟨v, o, ho, hd⟩ := I.cell x c e
 obtain ⟨m, ⟨o', es, ep, yY, jt, _⟩, _⟩ := I.loc
 rw [z, yY] at ho; cases ho; rw [jt] at hd; cases hd
theorem Inv.ie (I : Inv X pins σ H s) : s.heap.FunFrames X.base X.outer := by
 have all : ∀ (l : List Env), (∀ b ∈ mJ l, b ∈ X.fs) -> X.cA.heap.FunFrames X.base l -> s.heap.FunFrames X.base l := by
  intro l
  induction l with
  | nil => intro _ _; trivial
  | cons env r ih =>
    intro hs hl
    obtain ⟨hk, ⟨L, o, hf, hn, ho, hd⟩, hr⟩ := hl
    have hL : L ∈ X.fs := hs L (by unfold mJ; rw [List.filterMap_cons, hf]; exact List.mem_cons_self)
    obtain ⟨sl, e⟩ := I.base.slot L o ho (I.ok.uF L hL) hL fun z => I.ok.pV L z hL
    exact ⟨hk, ⟨L, _, hf, hn, e, hd⟩, ih (fun b hb => hs b (by unfold mJ; rw [List.filterMap_cons, hf]; exact List.mem_cons_of_mem _ hb)) hr⟩
 exact all X.outer (fun _ hb => hb) I.ok.ie
theorem Inv.stack (I : Inv X pins σ H s) : s.heap.FunFrames X.base X.stack := by
 rcases I.ok.AA with e | ⟨e, hf⟩
 . rw [e]; exact I.ie
 . rw [e]
   obtain ⟨m, hn, _⟩ := I.loc
   refine .cons (by rw [I.ok.kind]; decide) hf hn ?_ I.ie
   exact Heap.get?_none_of_le (Nat.le_trans I.ok.rC I.ok.above)
theorem Inv.pK (I : Inv X pins σ H s) : ∀ b ∈ mJ X.stack, b ∈ X.env.locals :: X.fs := fun b hb => by
 rcases I.ok.AA with e | ⟨e, hf⟩
 . rw [e] at hb; exact List.mem_cons_of_mem _ hb
 . rw [e] at hb
   unfold mJ at hb
   rw [List.filterMap_cons, hf] at hb
   exact hb
theorem Inv.lO (I : Inv X pins σ H s) : ∀ b ∈ mJ X.stack, H b = none := fun b hb => by
 rcases List.mem_cons.mp (I.pK b hb) with e | hb
 . rw [e]; exact I.free
 . obtain ⟨_, o, ho, _⟩ := I.ok.ie.mem hb
   exact I.base.free b o ho (I.ok.uF b hb) fun z => I.ok.pV b z hb
theorem Inv.step {g' : Array GenState} {t' : Nat} {d' : Drawn} {ch : List Addr} (I : Inv X pins σ H s)
 (vz : ∀ b ∈ ch, (b ∈ X.ex \/ X.cA.heap.objs.size <= b) /\ b ≠ X.env.locals /\ (∀ x c, X.env.cells.lookup x = some c -> c ≠ b) /\ ∀ p ∈ X.pn ++ pins, p.1 ≠ b)
 (keep : ∀ b o, b ≠ X.env.locals -> b ∉ X.fs -> b ∉ ch -> s.heap.get? b = some o -> H b = none -> h'.get? b = some o)
 (slot : ∀ b o, b ≠ X.env.locals -> b ∈ X.fs -> b ∉ ch -> s.heap.get? b = some o -> H b = none -> ∃ sl, h'.get? b = some { o with slots := sl }) (free : ∀ b o, b ∉ ch -> s.heap.get? b = some o -> H b = none -> H' b = none)
 (there : ∀ b o, b ∉ ch -> s.heap.get? b = some o -> ∃ o', h'.get? b = some o')
 (iK : ∀ b xs, H b = some (.tup xs) -> H' b = some (.tup xs)) (ic : ∀ b o u, H b = some (.rX o u) -> H' b = some (.rX o u)) (i5 : ∀ b ps, H b = some (.iX ps) -> ∃ more, H' b = some (.iX (ps ++ more)))
 (ns : ∀ m, s.heap.Ns X.env.locals m -> h'.Ns X.env.locals m) (aK : iU X.prog X.w H' h') (hg : AllBare g') :
 Inv X pins σ H' { s with heap := h', gens := g', drawn := d', toks := t' } := by
 have zU : ∀ b o, X.cA.heap.get? b = some o -> b ≠ X.env.locals := fun b o e => Nat.ne_of_lt (Nat.lt_of_lt_of_le (Heap.lt_size e) I.ok.above)
 have GH : ∀ b o, X.cA.heap.get? b = some o -> b ∉ X.ex -> b ∉ ch := fun b o e hx hb => by
  rcases (vz b hb).1 with z | z
  . exact hx z
  . exact absurd (Nat.lt_of_lt_of_le (Heap.lt_size e) z) (Nat.lt_irrefl _)
 have cellK : ∀ x c, X.env.cells.lookup x = some c -> ∀ v, s.heap.IsCell c v -> h'.IsCell c v := fun x c e v ⟨o, ho, hd⟩ => by
  have E8 : c ∉ ch := fun z => (vz c z).2.2.1 x c e rfl
  by_cases hc : c ∈ X.fs
  . obtain ⟨sl, q⟩ := slot c o (I.zW x c e) hc E8 ho (I.c9 x c e)
    exact ⟨_, q, hd⟩
  . exact ⟨o, keep c o (I.zW x c e) hc E8 ho (I.c9 x c e), hd⟩
 refine ⟨I.ok, I.os, hg, ⟨fun b o e n hb hx => ?_, fun b o e n hb hx => ?_, fun b o e n hx => ?_, fun b o e hx => ?_, fun b xs e => iK b xs (I.base.iK b xs e), fun b o xs e => ic b o xs (I.base.ic b o xs e), fun b ps e => ?_⟩, ?_, fun x c e => ?_, ?_, fun x c e => ?_, fun p hp => ?_, aK, I.len⟩
 . exact keep b o (zU b o e) hb (GH b o e hx) (I.base.keep b o e n hb hx) (I.base.free b o e n hx)
 . obtain ⟨sl, e1⟩ := I.base.slot b o e n hb hx
   obtain ⟨Ec, e2⟩ := slot b _ (zU b o e) hb (GH b o e hx) e1 (I.base.free b o e n hx)
   exact ⟨Ec, e2⟩
 . obtain ⟨o', e1⟩ := I.base.there b o e hx
   exact free b o' (GH b o e hx) e1 (I.base.free b o e n hx)
 . obtain ⟨o', e1⟩ := I.base.there b o e hx
   exact there b o' (GH b o e hx) e1
 . obtain ⟨m1, e1⟩ := I.base.i5 b ps e
   obtain ⟨m2, e2⟩ := i5 b _ e1
   exact ⟨m1 ++ m2, by rw [e2, Array.append_assoc]⟩
 . obtain ⟨m, hn, hl⟩ := I.loc
   refine ⟨m, ns m hn, fun i x v e1 e2 e3 => ?_⟩
   obtain ⟨u, r, l⟩ := hl i x v e1 e2 e3
   refine ⟨u, r, ?_⟩
   rcases l with l | ⟨k, c, e, z⟩
   . exact .inl l
   . exact .inr ⟨k, c, e, cellK x c e _ z⟩
 . obtain ⟨v, z⟩ := I.cell x c e
   exact ⟨v, cellK x c e v z⟩
 . obtain ⟨m, ⟨o, _, _, ho, _⟩, _⟩ := I.loc
   exact free _ o (fun z => (vz _ z).2.1 rfl) ho I.free
 . obtain ⟨v, o, ho, hd⟩ := I.cell x c e
   exact free c o (fun z => (vz c z).2.2.1 x c e rfl) ho (I.c9 x c e)
 . obtain ⟨e, n, ne, nf, d⟩ := I.pin p hp
   have E8 : p.1 ∉ ch := fun z => (vz p.1 z).2.2.2 p hp rfl
   exact ⟨keep p.1 p.2 ne nf E8 e n, free p.1 p.2 E8 e n, ne, nf, d⟩
theorem Inv.un {t' : Nat} (I : Inv X pins σ H s) (u : Un X.fs [] H H' s.heap h') (aK : iU X.prog X.w H' h') : Inv X pins σ H' { s with heap := h', toks := t' } := by
 obtain ⟨m, ⟨o, es, ep, ho, r⟩, _⟩ := id I.loc
 obtain ⟨sl, hL⟩ := u.any ho I.free (by simp)
 exact I.step (g' := s.gens) (d' := s.drawn) (ch := []) (fun _ z => nomatch z) (fun b o _ hb _ e n => u.keep b o e n hb (by simp)) (fun b o _ hb _ e n => u.slot b o e n hb (by simp)) (fun b o _ e n => u.free b o e n (by simp)) (fun b o _ e => u.there b o e (by simp)) u.iK u.ic u.i5 (fun m' hm => by
  obtain ⟨o', Ip, IU, yY, r'⟩ := hm
  rw [ho] at yY; cases yY
  exact ⟨_, Ip, IU, hL, r'⟩) aK I.bare
theorem Inv.call {g' : Array GenState} {t' : Nat} {d' : Drawn} {ch : List Addr} (I : Inv X pins σ H s) (u : Un (mJ X.stack) ch H H' s.heap h') (aK : iU X.prog X.w H' h') (hg : AllBare g')
 (vz : ∀ b ∈ ch, (b ∈ X.ex \/ X.cA.heap.objs.size <= b) /\ b ≠ X.env.locals /\ (∀ x c, X.env.cells.lookup x = some c -> c ≠ b) /\ ∀ p ∈ X.pn ++ pins, p.1 ≠ b) :
 Inv X pins σ H' { s with heap := h', gens := g', drawn := d', toks := t' } := by
 obtain ⟨m, ⟨o, es, ep, ho, r⟩, _⟩ := id I.loc
 obtain ⟨sl, hL⟩ := u.any ho I.free fun z => (vz _ z).2.1 rfl
 exact I.step (ch := ch) vz (fun b o hL hb hc e n => u.keep b o e n (fun z => (List.mem_cons.mp (I.pK b z)).elim hL hb) hc) (fun b o _ _ hc e n => u.any e n hc) (fun b o hc e n => u.free b o e n hc) (fun b o hc e => u.there b o e hc) u.iK u.ic u.i5 (fun m' hm => by
  obtain ⟨o', Ip, IU, yY, r'⟩ := hm
  rw [ho] at yY; cases yY
  exact ⟨_, Ip, IU, hL, r'⟩) aK hg
theorem Inv.turned {t' : Nat} {it : Addr} (I : Inv X pins σ H s) (k : ∀ b o, b ≠ it -> s.heap.get? b = some o -> h'.get? b = some o) (hn : H it = none) (hL : it ≠ X.env.locals)
 (h1 : it ∈ X.ex \/ X.cA.heap.objs.size <= it) (h2 : ∀ x c, X.env.cells.lookup x = some c -> c ≠ it) (h3 : ∀ p ∈ X.pn ++ pins, p.1 ≠ it) : Inv X pins σ H { s with heap := h', toks := t' } := by
 have Ko : ∀ b u, H b = some u -> b ≠ it := fun b u e z => by rw [z, hn] at e; cases e
 refine I.step (g' := s.gens) (d' := s.drawn) (ch := [it]) (fun b hb => ?_) (fun b o _ _ hc e _ => k b o (fun z => hc (by simp [z])) e) (fun b o _ _ hc e _ => ⟨o.slots, k b o (fun z => hc (by simp [z])) e⟩) (fun _ _ _ _ n => n)
  (fun b o hc e => ⟨o, k b o (fun z => hc (by simp [z])) e⟩) (fun _ _ e => e) (fun _ _ _ e => e) (fun b ps e => ⟨#[], by rw [e]; simp⟩) (fun m hm => ?_) (fun b u e => ?_) I.bare
 . have e : b = it := by simpa using hb
   subst e
   exact ⟨h1, hL, h2, h3⟩
 . obtain ⟨o, es, ep, ho, r⟩ := hm
   exact ⟨o, es, ep, k _ o (Ne.symm hL) ho, r⟩
 . refine (I.aK b u e).kg (fun c v hc q => k c v ?_ q) (fun _ q => q) fun _ _ q => q
   rcases hc with z | z
   . rw [z]; exact Ko b u e
   . exact Ko c _ z
theorem Inv.tok (I : Inv X pins σ H s) (t : Nat) : Inv X pins σ H { s with toks := t } := I.un (h' := s.heap) (t' := t) Un.refl I.aK
theorem Inv.kept {t' : Nat} (I : Inv X pins σ H s) (k : ∀ b u, s.heap.get? b = some u -> h'.get? b = some u) : Inv X pins σ H { s with heap := h', toks := t' } := I.un (Un.kept k) (I.aK.kept k)
theorem Inv.laid {a : Addr} {o : HO} {t' : Nat} (I : Inv X pins σ H s) (k : ∀ b u, s.heap.get? b = some u -> h'.get? b = some u) (hp : s.heap.objs.size <= a) (new : bo X.prog X.w (upd H a o) h' a o) :
 Inv X pins σ (upd H a o) { s with heap := h', toks := t' } := I.un (Un.laid k hp (I.aK.fresh hp)) (I.aK.laid k hp new)
theorem Inv.write {x e : Addr} {o : HO} {t' : Nat} (I : Inv X pins σ H s) (mu : Ew (H x)) (he : e = x \/ H e = some (.own x)) (k : ∀ b u, b ≠ e -> s.heap.get? b = some u -> h'.get? b = some u) (Eg : ∃ u, h'.get? e = some u)
 (new : bo X.prog X.w (upd H x o) h' x o) : Inv X pins σ (upd H x o) { s with heap := h', toks := t' } := I.un (Un.write mu he k Eg) (I.aK.write mu he k Eg new)
theorem Inv.weak {σ' : List (Option V)} (I : Inv X pins σ H s) (hl : σ'.length = σ.length) (w : ∀ (i : Nat) v, σ'[i]? = some (some v) -> σ[i]? = some (some v)) : Inv X pins σ' H s :=
 ⟨I.ok, I.os, I.bare, I.base, let ⟨m, hn, F7⟩ := I.loc; ⟨m, hn, fun i x v e1 e2 e3 => F7 i x v e1 (w i v e2) e3⟩, I.cell, I.free, I.c9, I.pin, I.aK, hl.trans I.len⟩
theorem Inv.gK {rm : List (Addr × Obj)} (I : Inv X pins σ H s) (h : ∀ p ∈ rm, s.heap.get? p.1 = some p.2 /\ H p.1 = none /\ p.1 ≠ X.env.locals /\ p.1 ∉ X.fs /\ ∀ v, p.2.data ≠ .cell v) : Inv X rm σ H s :=
 ⟨I.ok, I.os, I.bare, I.base, I.loc, I.cell, I.free, I.c9, fun p hp => (List.mem_append.mp hp).elim (fun z => I.pin p (List.mem_append_left _ z)) (h p), I.aK, I.len⟩
theorem ni {N : List Str} (hN : N.Nodup) {i j : Nat} {x : Str} (a : N[i]? = some x) (b : N[j]? = some x) : i = j := by
 obtain ⟨h1, e1⟩ := List.getElem?_eq_some_iff.mp a
 obtain ⟨h2, e2⟩ := List.getElem?_eq_some_iff.mp b
 exact (List.getElem_inj hN).mp (e1.trans e2.symm)
theorem oU {M : Model} {A : Around} {E : Value -> Shared -> Prop} {i : Nat} {x : Str} {v : V} {u : Value} {Q : Unit -> Shared -> Prop} (I : Inv X pins σ H s) (hN : X.N.Nodup) (hi : X.N[i]? = some x) (hx : Loc X.env.scope x) (r : RelV v u)
 (h : ∀ s', Inv X pins (σ.set i (some v)) H s' -> (∃ a, Heap.SameBut a s.heap s'.heap /\ (a = X.env.locals \/ X.env.cells.lookup x = some a)) -> Q () s') (hf : X.fn x = true \/ X.env.scope.names.lookup x = some .local := by first | exact .inl rfl | exact .inr rfl | assumption) : wpAny M A (storeName X.env x u) Q E s := by
 obtain ⟨m, hn, hl⟩ := id I.loc
 have uN : (X.env.scope.kind == .class || (X.env.scope.kind == .module && X.env.locals != X.env.globals)) = false := by rw [I.ok.kind]; rfl
 have Fp : i < σ.length := by rw [I.len]; exact (List.getElem?_eq_some_iff.mp hi).1
 have zW := I.zW
 have tracked : ∀ {a : Addr} {h' : Heap}, (∃ o, s.heap.get? a = some o /\ H a = none) -> Heap.SameBut a s.heap h' -> iU X.prog X.w H h' := fun {a h'} ha hs b ob e => by
  obtain ⟨_, _, A7⟩ := ha
  refine (I.aK b ob e).kg (fun c w' hc q => (hs.2 c ?_).trans q) (fun _ q => q) fun _ _ q => q
  rintro rfl
  rcases hc with rfl | hc
  . rw [A7] at e; cases e
  . rw [A7] at hc; cases hc
 rcases hx with hk | hk
 . refine wpAny_storeName_local hk hn (fun h' Ei hs => ?_) uN
   obtain ⟨oL, _, _, D5, _⟩ := id hn
   refine h _ ⟨I.ok, I.os, I.bare, ⟨fun b o e n hb hx => ?_, fun b o e n hb hx => ?_, I.base.free, fun b o e hx => ?_, I.base.iK, I.base.ic, I.base.i5⟩, ⟨_, Ei, fun j y v' e1 e2 e3 => ?_⟩, fun y c e => ?_, I.free, I.c9, fun p hp => ?_, tracked ⟨oL, D5, I.free⟩ hs, by simpa using I.len⟩ ⟨_, hs, .inl rfl⟩
   . exact (hs.2 b (Nat.ne_of_lt (Nat.lt_of_lt_of_le (Heap.lt_size e) I.ok.above))).trans (I.base.keep b o e n hb hx)
   . obtain ⟨sl, e1⟩ := I.base.slot b o e n hb hx
     exact ⟨sl, (hs.2 b (Nat.ne_of_lt (Nat.lt_of_lt_of_le (Heap.lt_size e) I.ok.above))).trans e1⟩
   . obtain ⟨o', e1⟩ := I.base.there b o e hx
     exact ⟨o', (hs.2 b (Nat.ne_of_lt (Nat.lt_of_lt_of_le (Heap.lt_size e) I.ok.above))).trans e1⟩
   . by_cases hj : j = i
     . subst hj
       rw [hi] at e1; cases e1
       rw [List.getElem?_set_self Fp] at e2
       cases e2
       exact ⟨u, r, .inl ⟨hk, by simp⟩⟩
     . rw [List.getElem?_set_ne (Ne.symm hj)] at e2
       obtain ⟨u', r', q⟩ := hl j y v' e1 e2 e3
       refine ⟨u', r', ?_⟩
       rcases q with ⟨k, e⟩ | ⟨k, c, e, z⟩
       . refine .inl ⟨k, ?_⟩
         have : y ≠ x := fun e => hj (ni hN e1 (e ▸ hi))
         simp [this, e]
       . exact .inr ⟨k, c, e, z.sameBut hs (zW y c e)⟩
   . obtain ⟨w', z⟩ := I.cell y c e
     exact ⟨w', z.sameBut hs (zW y c e)⟩
   . obtain ⟨e, n, ne, nf, d⟩ := I.pin p hp
     exact ⟨(hs.2 p.1 ne).trans e, n, ne, nf, d⟩
 . have Ig : X.fn x = true := by
    rcases hf with z | z
    . exact z
    . rw [z] at hk; cases hk
   obtain ⟨c, hc⟩ := I.ok.has x (.inl hk)
   obtain ⟨w', z⟩ := I.cell x c hc
   refine wpAny_storeName_cell I.ok.kind hk hc z (fun h' lb hs => ?_)
   obtain ⟨oc, KH, Hi⟩ := id z
   refine h { s with heap := h' } ⟨I.ok, I.os, I.bare, ⟨fun b o e n hb hx => ?_, fun b o e n hb hx => ?_, I.base.free, fun b o e hx => ?_, I.base.iK, I.base.ic, I.base.i5⟩, ⟨m, hn.sameBut hs (Ne.symm (zW x c hc)), fun j y v' e1 e2 e3 => ?_⟩, fun y c' e => ?_, I.free, I.c9, fun p hp => ?_, tracked ⟨oc, KH, I.c9 x c hc⟩ hs, by simpa using I.len⟩ ⟨c, hs, .inr hc⟩
   . exact (hs.2 b (Nat.ne_of_lt (Nat.lt_of_lt_of_le (Heap.lt_size e) (I.ok.yB x c Ig hc)))).trans (I.base.keep b o e n hb hx)
   . obtain ⟨sl, e1⟩ := I.base.slot b o e n hb hx
     exact ⟨sl, (hs.2 b (Nat.ne_of_lt (Nat.lt_of_lt_of_le (Heap.lt_size e) (I.ok.yB x c Ig hc)))).trans e1⟩
   . obtain ⟨o', e1⟩ := I.base.there b o e hx
     exact ⟨o', (hs.2 b (Nat.ne_of_lt (Nat.lt_of_lt_of_le (Heap.lt_size e) (I.ok.yB x c Ig hc)))).trans e1⟩
   . by_cases hj : j = i
     . subst hj
       rw [hi] at e1; cases e1
       rw [List.getElem?_set_self Fp] at e2
       cases e2
       exact ⟨u, r, .inr ⟨.inl hk, c, hc, lb⟩⟩
     . rw [List.getElem?_set_ne (Ne.symm hj)] at e2
       obtain ⟨u', r', q⟩ := hl j y v' e1 e2 e3
       refine ⟨u', r', ?_⟩
       rcases q with q | ⟨k, c', e, z'⟩
       . exact .inl q
       . refine .inr ⟨k, c', e, z'.sameBut hs ?_⟩
         rintro rfl
         exact hj (ni hN e1 (I.ok.inj _ _ _ e hc ▸ hi))
   . by_cases A3 : c' = c
     . subst A3; exact ⟨_, lb⟩
     . obtain ⟨w2, z2⟩ := I.cell y c' e
       exact ⟨w2, z2.sameBut hs A3⟩
   . obtain ⟨e, n, ne, nf, d⟩ := I.pin p hp
     refine ⟨(hs.2 p.1 ?_).trans e, n, ne, nf, d⟩
     intro q
     rw [q, KH] at e
     have q' : oc = p.2 := Option.some.inj e
     exact d w' (by rw [<- q']; exact Hi)
theorem m3 {M : Model} {A : Around} {E : Value -> Shared -> Prop} {i : Nat} {x : Str} {v : V} {u : Value} {Q : Unit -> Shared -> Prop} (I : Inv X pins σ H s) (hN : X.N.Nodup) (hi : X.N[i]? = some x) (hx : Loc X.env.scope x) (r : RelV v u)
 (h : ∀ s', Inv X pins (σ.set i (some v)) H s' -> Q () s') (hf : X.fn x = true \/ X.env.scope.names.lookup x = some .local := by first | exact .inl rfl | exact .inr rfl | assumption) : wpAny M A (storeName X.env x u) Q E s :=
 oU I hN hi hx r (fun s' I' _ => h s' I') hf
theorem Inv.xE {s' : Shared} {ch : List Addr} (I : Inv X pins σ H s) (ho : s'.os = s.os) (u : Un (mJ X.stack) ch H H' s.heap s'.heap) (aK : iU X.prog X.w H' s'.heap) (hg : AllBare s'.gens)
 (vz : ∀ b ∈ ch, (b ∈ X.ex \/ X.cA.heap.objs.size <= b) /\ b ≠ X.env.locals /\ (∀ x c, X.env.cells.lookup x = some c -> c ≠ b) /\ ∀ p ∈ X.pn ++ pins, p.1 ≠ b) : Inv X pins σ H' s' := by
 obtain ⟨h', g', d', t', o'⟩ := s'
 have e : o' = s.os := ho
 subst e
 exact I.call (g' := g') (t' := t') (d' := d') u aK hg vz
end
abbrev XK := Value -> Option Addr -> Hp -> Prop
abbrev St := List (Option V)
abbrev VK := V -> Hp -> Prop
abbrev TE := St -> Hp -> VK -> Prop
abbrev TT := St -> Hp -> (Bool -> Hp -> Prop) -> Prop
abbrev TA := St -> Hp -> (List V -> Hp -> Prop) -> Prop
structure Ends where
 nx : St -> Hp -> Prop
 rt : VK
 bk : St -> Hp -> Prop := fun _ _ => False
 ct : St -> Hp -> Prop := fun _ _ => False
abbrev TS := Ends -> St -> Hp -> Prop
def EP (X : Cx) (pins : List (Addr × Obj)) (σ : St) (Q : VK) (u : Value) (s' : Shared) : Prop := ∃ v H', Inv X pins σ H' s' /\ RelV v u /\ Q v H'
def TP (X : Cx) (pins : List (Addr × Obj)) (σ : St) (Q : Bool -> Hp -> Prop) (b : Bool) (s' : Shared) : Prop := ∃ H', Inv X pins σ H' s' /\ Q b H'
def AP (X : Cx) (pins : List (Addr × Obj)) (σ : St) (Q : List V -> Hp -> Prop) (us : List Value) (s' : Shared) : Prop := ∃ vs H', Inv X pins σ H' s' /\ Vals vs us /\ Q vs H'
def SP (X : Cx) (pins : List (Addr × Obj)) (D : Ends) (f : Flow) (s' : Shared) : Prop :=
 match f with
 | .next => ∃ σ' H', Inv X pins σ' H' s' /\ D.nx σ' H'
 | .brk => ∃ σ' H', Inv X pins σ' H' s' /\ D.bk σ' H'
 | .cont => ∃ σ' H', Inv X pins σ' H' s' /\ D.ct σ' H'
 | .ret u => ∃ v σ' H', Inv X pins σ' H' s' /\ RelV v u /\ D.rt v H'
def PE (X : Cx) (e : Expr) (t : TE) : Prop :=
 ∀ (pins : List (Addr × Obj)) (s : Shared) (σ : St) (H : Hp) (Q : VK), Inv X pins σ H s -> t σ H Q -> wpAny (model X.prog X.w) X.A (eval e X.env) (EP X pins σ Q) X.xe s
def PT (X : Cx) (e : Expr) (t : TT) : Prop :=
 ∀ (pins : List (Addr × Obj)) (s : Shared) (σ : St) (H : Hp) (Q : Bool -> Hp -> Prop), Inv X pins σ H s -> t σ H Q -> wpAny (model X.prog X.w) X.A (isTrue e X.env (eval e X.env)) (TP X pins σ Q) X.xe s
def PW (X : Cx) (e : Expr) (t : TT) : Prop :=
 ∀ (whole : Sem Value) (pins : List (Addr × Obj)) (s : Shared) (σ : St) (H : Hp) (Q : Bool -> Hp -> Prop), Inv X pins σ H s -> t σ H Q -> wpAny (model X.prog X.w) X.A (isTrue e X.env whole) (TP X pins σ Q) X.xe s
theorem PW.pt {X : Cx} {e : Expr} {t : TT} (h : PW X e t) : PT X e t := h _
def PA (X : Cx) (es : List Expr) (t : TA) : Prop :=
 ∀ (pos : Pos) (pins : List (Addr × Obj)) (s : Shared) (σ : St) (H : Hp) (Q : List V -> Hp -> Prop), Inv X pins σ H s -> t σ H Q -> wpAny (model X.prog X.w) X.A (spliced (backTo pos (starEach es X.env))) (AP X pins σ Q) X.xe s
def PS (X : Cx) (st : Stmt) (t : TS) : Prop :=
 ∀ (pins : List (Addr × Obj)) (s : Shared) (σ : St) (H : Hp) (D : Ends), Inv X pins σ H s -> t D σ H -> wpAny (model X.prog X.w) X.A (exec st X.env) (SP X pins D) X.xe s
def om (X : Cx) (st : List Stmt) (t : TS) : Prop :=
 ∀ (pins : List (Addr × Obj)) (s : Shared) (σ : St) (H : Hp) (D : Ends), Inv X pins σ H s -> t D σ H -> wpAny (model X.prog X.w) X.A (execs st X.env) (SP X pins D) X.xe s
theorem cg {α : Type} {t : Sem α} {Q Q' : α -> Shared -> Prop} {M : Model} {A : Around} {E : Value -> Shared -> Prop} {s : Shared} (h : wpAny M A t Q E s) (hQ : ∀ a s, Q a s -> Q' a s) : wpAny M A t Q' E s := wpAny_mono h hQ fun _ _ x => x
section
variable {X : Cx}
def Dt (i : Nat) : TE := fun σ H Q => ∃ v, σ[i]? = some (some v) /\ Q v H
def tC (v : V) : TE := fun _ H Q => Q v H
theorem Df {i : Nat} {x : Str} {pos : Pos} (hN : X.N[i]? = some x) (hv : BQ X.env.scope x) (hd : (x == ("__debug__" : Str)) = false := by decide) (mq : (x == ("__classdict__" : Str)) = false := by decide) : PE X (.Name x pos) (Dt i) := by
 intro pins s σ H Q I h
 obtain ⟨v, e, h⟩ := h
 obtain ⟨m, hn, hl⟩ := I.loc
 obtain ⟨u, r, l⟩ := hl i x v hN e hv
 have fin : EP X pins σ Q u s := ⟨v, H, I, r, h⟩
 rcases l with ⟨hk, hm⟩ | ⟨hk, c, hc, oR⟩
 . exact wpAny_Name (wpAny_loadName_local I.ok.kind hk hn hm fin) hd
 . rcases hk with hk | hk
   . exact wpAny_Name (wpAny_loadName_cell I.ok.kind hk hc oR fin) hd
   . exact wpAny_Name (wpAny_loadName_free I.ok.kind hk hc oR fin mq) hd
theorem aA {i j pos} : PE X (.Constant (.int i) j pos) (tC (.int i)) := fun _ _ _ H _ I h => wpAny_Constant_int ⟨.int i, H, I.tok _, ⟨_, rfl⟩, h⟩
theorem oN {b j pos} : PE X (.Constant (.bool b) j pos) (tC (.bl b)) := fun _ _ _ H _ I h => Constant_bool ⟨.bl b, H, I, rfl, h⟩
theorem mC {j pos} : PE X (.Constant .none j pos) (tC .aY) := fun _ _ _ H _ I h => Constant_none ⟨.aY, H, I, rfl, h⟩
theorem cZ {x j pos} : PE X (.Constant (.str x) j pos) (tC (.str x)) := fun _ _ _ H _ I h => Calls.Constant_str ⟨.str x, H, I.tok _, ⟨_, rfl⟩, h⟩
def Gl (X : Cx) (x : Str) : Prop := X.env.kindOf x = some .globalImplicit
theorem gM {E : Value -> Shared -> Prop} {pins : List (Addr × Obj)} {s : Shared} {σ : St} {H : Hp} {x : Str} {u : Value} {pos : Pos} {Q : Value -> Shared -> Prop} (I : Inv X pins σ H s) (hg : Gl X x) (hm : X.mg x = some u) (h : Q u s)
 (hd : (x == ("__debug__" : Str)) = false := by decide) : wpAny (model X.prog X.w) X.A (eval (.Name x pos) X.env) Q E s :=
 Calls.Name_function_global I.ok.kind hg (Calls.loadGlobal_global (by rw [I.ok.glob]; exact I.mod.glob.keeps I.bk) hm h) hd
theorem jv {E : Value -> Shared -> Prop} {pins : List (Addr × Obj)} {s : Shared} {σ : St} {H : Hp} {x : Str} {u : Value} {pos : Pos} {Q : Value -> Shared -> Prop} (I : Inv X pins σ H s) (hg : Gl X x) (hm : X.mg x = none) (hv : bootBuiltins x = some u) (h : Q u s)
 (hn : x ≠ "__name__" := by decide) (hd : (x == ("__debug__" : Str)) = false := by decide) : wpAny (model X.prog X.w) X.A (eval (.Name x pos) X.env) Q E s := by
 obtain ⟨mb, h1, h2⟩ := I.mod.blt
 exact Calls.Name_function_global I.ok.kind hg (Calls.loadGlobal_builtin (by rw [I.ok.glob]; exact I.mod.glob.keeps I.bk) hm (by rw [I.ok.blt]; exact h1.keeps I.bk) ((h2 x hn).trans hv) h) hd
theorem fb {x : Str} {v : V} {u : Value} {pos : Pos} (hg : Gl X x) (hm : X.mg x = some u) (r : RelV v u) (hd : (x == ("__debug__" : Str)) = false := by decide) : PE X (.Name x pos) (tC v) :=
 fun _ _ _ H _ I h => gM I hg hm ⟨v, H, I, r, h⟩ hd
theorem yP {x : Str} {v : V} {u : Value} {pos : Pos} (hg : Gl X x) (hm : X.mg x = none) (hv : bootBuiltins x = some u) (r : RelV v u) (hn : x ≠ "__name__" := by decide) (hd : (x == ("__debug__" : Str)) = false := by decide) : PE X (.Name x pos) (tC v) :=
 fun _ _ _ H _ I h => jv I hg hm hv ⟨v, H, I, r, h⟩ hn hd
variable {a b : Expr} {ta tb : TE} {pos : Pos}
def PC (X : Cx) (op : CmpOp) (a b : Expr) (t : TE) : Prop :=
 ∀ (pins : List (Addr × Obj)) (s : Shared) (σ : St) (H : Hp) (Q : VK), Inv X pins σ H s -> t σ H Q ->
   wpAny (model X.prog X.w) X.A (eval a X.env) (fun v s₁ => wpAny (model X.prog X.w) X.A (eval b X.env) (fun u s₂ => wpAny (model X.prog X.w) X.A (compareOp op v u) (EP X pins σ Q) X.xe s₂) X.xe s₁) X.xe s
def tB (t : TE) : TT := fun σ H Q => t σ H fun x H1 => ∃ c, x = .bl c /\ Q c H1
theorem wI {op : CmpOp} {t : TE} (h : PC X op a b t) (h1 : behindInMarks op b = false := by first | exact xf _ (by decide) (by decide) | rfl) : PE X (.Compare a [op] [b] pos) t := fun pins s σ H Q I hw => wpAny_Compare1 (h pins s σ H Q I hw) h1
theorem x6 {op : CmpOp} {t : TE} (h : PC X op a b t) (h1 : behindInMarks op b = false := by first | exact xf _ (by decide) (by decide) | rfl) : PT X (.Compare a [op] [b] pos) (tB t) := by
 intro pins s σ H Q I hw
 refine wpAny_isTrue_Compare1 (cg (h pins s σ H _ I hw) fun v s1 h1 => cg h1 fun u s2 h2 => cg h2 fun c s3 ⟨x, H1, I1, r1, q1⟩ => ?_) h1
 obtain ⟨d, rfl, q⟩ := q1
 cases r1
 exact wpAny_truthy_bool ⟨H1, I1, q⟩
variable {tA GZ : TT} {rest : List Expr}
def E7 (t u : TT) : TT := fun σ H Q => t σ H fun c H1 => if c = true then u σ H1 Q else Q false H1
def JD (t u : TT) : TT := fun σ H Q => t σ H fun c H1 => if c = true then Q true H1 else u σ H1 Q
theorem z9 (ha : PT X a tA) : PW X (.BoolOp .And [a] pos) tA := by
 intro wh pins s σ H Q I h
 refine isTrue_and (cg (ha pins s σ H Q I h) fun c s1 e => ?_)
 cases c with
 | true => exact isTrue_and_nil e
 | false => exact e
theorem vL (ha : PT X a tA) : PW X (.BoolOp .Or [a] pos) tA := by
 intro wh pins s σ H Q I h
 refine isTrue_or (cg (ha pins s σ H Q I h) fun c s1 e => ?_)
 cases c with
 | false => exact isTrue_or_nil e
 | true => exact e
theorem Dd (ha : PT X a tA) (hb : PW X (.BoolOp .And (b :: rest) pos) GZ) : PW X (.BoolOp .And (a :: b :: rest) pos) (E7 tA GZ) := by
 intro wh pins s σ H Q I h
 refine isTrue_and (cg (ha pins s σ H _ I h) fun c s1 ⟨H1, I1, q1⟩ => ?_)
 cases c with
 | true => exact hb wh pins s1 σ H1 Q I1 q1
 | false => exact ⟨H1, I1, q1⟩
theorem tq (ha : PT X a tA) (hb : PW X (.BoolOp .Or (b :: rest) pos) GZ) : PW X (.BoolOp .Or (a :: b :: rest) pos) (JD tA GZ) := by
 intro wh pins s σ H Q I h
 refine isTrue_or (cg (ha pins s σ H _ I h) fun c s1 ⟨H1, I1, q1⟩ => ?_)
 cases c with
 | true => exact ⟨H1, I1, q1⟩
 | false => exact hb wh pins s1 σ H1 Q I1 q1
def AU (ta tb : TE) : TE := fun σ H Q => ta σ H fun x H1 => ∃ c, x = .bl c /\ if c = true then tb σ H1 Q else Q (.bl false) H1
def Ay (ta : TE) : TE := fun σ H Q => ta σ H fun x H1 => ∃ c, x = .bl c /\ Q (.bl (!c)) H1
theorem Dc {op} {t : TE} (h : PE X a t) : PE X (.BoolOp op [a] pos) t := fun pins s σ H Q I hw => BoolOp_one (h pins s σ H Q I hw)
theorem C8 (ha : PE X a ta) (hb : PE X (.BoolOp .And (b :: rest) pos) tb) : PE X (.BoolOp .And (a :: b :: rest) pos) (AU ta tb) := by
 intro pins s σ H Q I h
 refine BoolOp_and (cg (ha pins s σ H _ I h) fun v s1 ⟨x, H1, I1, r1, q1⟩ => ?_)
 obtain ⟨c, rfl, q1⟩ := q1
 cases r1
 refine wpAny_truthy_bool ?_
 cases c with
 | true => exact hb pins s1 σ H1 Q I1 q1
 | false => exact ⟨.bl false, H1, I1, rfl, q1⟩
theorem vK (ha : PE X a ta) : PE X (.UnaryOp .Not a pos) (Ay ta) := by
 intro pins s σ H Q I h
 refine UnaryOp_ (cg (ha pins s σ H _ I h) fun v s1 ⟨x, H1, I1, r1, q1⟩ => ?_)
 obtain ⟨c, rfl, q1⟩ := q1
 cases r1
 exact not_of (wpAny_truthy_bool ⟨.bl (!c), H1, I1, rfl, q1⟩)
end
def fL (K : PySem.W.Frag) (H : Hp) (a : Addr) (xs : List V) : Prop :=
 Rd H a (.lst xs) \/
  ∃ (o : Obj) (aJ : Array Value) (n : Nat), K.lookup a = some o /\ o.cls = .type "list" /\ o.dict = none /\ o.data = .seq aJ n /\ aJ.size <= sizeLine /\ Vals xs aJ.toList
def uK (K : PySem.W.Frag) (H : Hp) (a : Addr) (xs : List V) : Prop :=
 Rd H a (.tup xs) \/
  ∃ (o : Obj) (aJ : Array Value) (n : Nat), K.lookup a = some o /\ o.cls = .type "tuple" /\ o.data = .seq aJ n /\ aJ.size <= sizeLine /\ Vals xs aJ.toList
def Jt : Value -> Option V
 | .none => some .aY
 | .bool b => some (.bl b)
 | .int i _ => some (.int i)
 | .str x _ => some (.str x)
 | .bytes b _ => some (.tY b)
 | .float b _ => some (.D3 b)
 | .ref a => some (.ref a)
 | .type n => some (.ty n)
 | _ => none
theorem RelV.abs {x : V} {u : Value} (r : RelV x u) : Jt u = some x := by
 cases x with
 | aY => cases r; rfl
 | bl _ => cases r; rfl
 | int _ => obtain ⟨t, rfl⟩ := r; rfl
 | str _ => obtain ⟨t, rfl⟩ := r; rfl
 | tY _ => obtain ⟨t, rfl⟩ := r; rfl
 | D3 _ => obtain ⟨t, rfl⟩ := r; rfl
 | ref _ => cases r; rfl
 | ty _ => cases r; rfl
theorem RelV.inj {x y : V} {u : Value} (r : RelV x u) (q : RelV y u) : x = y := Option.some.inj (r.abs.symm.trans q.abs)
theorem Vals.inj : ∀ {xs ys : List V} {us : List Value}, Vals xs us -> Vals ys us -> xs = ys
 | _, _, _, .nil, .nil => rfl
 | _, _, _, .cons r t, .cons r' t' => by rw [r.inj r', Vals.inj t t']
section
variable {X : Cx} {pins : List (Addr × Obj)} {σ : St} {H : Hp} {s : Shared} {a : Addr} {xs ys : List V}
theorem fL.of {K : PySem.W.Frag} (h : H a = some (.lst xs)) : fL K H a xs := .inl (.inl h)
theorem uK.of {K : PySem.W.Frag} (h : H a = some (.tup xs)) : uK K H a xs := .inl (.inl h)
theorem Inv.list (I : Inv X pins σ H s) (h : fL X.K H a xs) : ∃ aJ : List Value, Vals xs aJ /\ PlainL s.heap a aJ.toArray /\ xs.length <= sizeLine := by
 rcases h with h | ⟨o, aJ, n, hk, hc, hd, hs, hz, r⟩
 . obtain ⟨z, aJ, n, r, e⟩ := h.ok I.aK
   exact ⟨aJ, r, ⟨_, n, e, rfl, rfl, rfl⟩, z⟩
 . refine ⟨aJ.toList, r, ⟨o, n, I.iY a o hk, hc, hd, by simpa using hs⟩, ?_⟩
   have e := r.length
   simp only [Array.length_toList] at e
   omega
theorem Inv.tuple (I : Inv X pins σ H s) (h : uK X.K H a xs) : ∃ aJ : List Value, Vals xs aJ /\ IsTup s.heap a aJ.toArray /\ xs.length <= sizeLine := by
 rcases h with h | ⟨o, aJ, n, hk, hc, hs, hz, r⟩
 . obtain ⟨z, aJ, r, p⟩ := h.ok I.aK
   exact ⟨aJ, r, p, z⟩
 . refine ⟨aJ.toList, r, ⟨o, I.iY a o hk, hc, n, by simpa using hs⟩, ?_⟩
   have e := r.length
   simp only [Array.length_toList] at e
   omega
theorem Inv.xh (I : Inv X pins σ H s) (h : fL X.K H a xs) (h' : fL X.K H a ys) : xs = ys := by
 obtain ⟨aJ, r, ⟨o, n, e, _, _, d⟩, _⟩ := I.list h
 obtain ⟨its', r', ⟨o', n', e', _, _, d'⟩, _⟩ := I.list h'
 rw [e] at e'; cases e'
 rw [d] at d'
 injection d' with d1 _
 have : aJ = its' := by simpa using congrArg Array.toList d1
 subst this
 exact r.inj r'
end
abbrev Cx.mY (X : Cx) (E : Value -> Shared -> Prop) : Cx := { X with xe := E }
abbrev Cx.zc (X : Cx) : Cx := X.mY fun _ _ => False
theorem Cx.Ok.mY {X : Cx} (ok : X.Ok) (E : Value -> Shared -> Prop) : (X.mY E).Ok :=
 ⟨ok.mod, ok.kind, ok.glob, ok.blt, ok.above, ok.inj, ok.has, ok.yB, ok.hd, ok.frames, ok.AA, ok.AJ, ok.bs, ok.rC, ok.pL, ok.pV, ok.ie, ok.uF⟩
theorem Cx.Ok.gN {X : Cx} {E : Value -> Shared -> Prop} (ok : (X.mY E).Ok) : X.Ok :=
 ⟨ok.mod, ok.kind, ok.glob, ok.blt, ok.above, ok.inj, ok.has, ok.yB, ok.hd, ok.frames, ok.AA, ok.AJ, ok.bs, ok.rC, ok.pL, ok.pV, ok.ie, ok.uF⟩
section
variable {X : Cx} {pins : List (Addr × Obj)} {σ : St} {H : Hp} {s : Shared} {E : Value -> Shared -> Prop}
theorem Inv.mY (I : Inv X pins σ H s) (E : Value -> Shared -> Prop) : Inv (X.mY E) pins σ H s := ⟨I.ok.mY E, I.os, I.bare, I.base, I.loc, I.cell, I.free, I.c9, I.pin, I.aK, I.len⟩
theorem Inv.gN (I : Inv (X.mY E) pins σ H s) : Inv X pins σ H s := ⟨I.ok.gN, I.os, I.bare, I.base, I.loc, I.cell, I.free, I.c9, I.pin, I.aK, I.len⟩
theorem SP.gN {D : Ends} {f : Flow} {s' : Shared} (h : SP (X.mY E) pins D f s') : SP X pins D f s' := by
 cases f with
 | next => obtain ⟨σ', H', I, q⟩ := h; exact ⟨σ', H', I.gN, q⟩
 | brk => obtain ⟨σ', H', I, q⟩ := h; exact ⟨σ', H', I.gN, q⟩
 | cont => obtain ⟨σ', H', I, q⟩ := h; exact ⟨σ', H', I.gN, q⟩
 | ret u => obtain ⟨v, σ', H', I, r, q⟩ := h; exact ⟨v, σ', H', I.gN, r, q⟩
theorem om.zc {st : List Stmt} {t : TS} (h : om X.zc st t) : om X st t := fun pins s σ H D I hw =>
 wpAny_mono (h pins s σ H D (I.mY _) hw) (fun _ _ q => q.gN) fun _ _ z => False.elim z
end
section
variable {X : Cx} {st : Stmt} {rest : List Stmt} {t u : TS} {e : Expr} {te : TE} {pos : Pos}
def AG : TS := fun D σ H => D.nx σ H
theorem aQ : om X [] AG := fun _ _ σ H _ I h => wpAny_execs_nil ⟨σ, H, I, h⟩
theorem aw (h1 : PS X st t) : om X [st] t := by
 intro pins s σ H D I h
 refine wpAny_execs_cons (cg (h1 pins s σ H D I h) fun f s1 q => ?_)
 cases f with
 | next => exact wpAny_execs_nil q
 | ret v => exact q
 | brk => exact q
 | cont => exact q
theorem Inv.quiet {pins : List (Addr × Obj)} {σ : St} {H : Hp} {s : Shared} (I : Inv X pins σ H s) : interactive X.env = false := by simp [interactive, I.ok.kind]
def Ba (te : TE) : TS := fun D σ H => te σ H fun _ H1 => D.nx σ H1
theorem c6 (he : PE X e te) (hs : swapsWith e none pos.line X.env = pure false := by rfl) : PS X (.Expr e pos) (Ba te) := by
 intro pins s σ H D I h
 exact wpAny_Expr_any (cg (he pins s σ H _ I h) fun v s1 ⟨x, H1, I1, r1, q1⟩ => ⟨σ, H1, I1, q1⟩) I.quiet hs
def EE (te : TE) : TS := fun D σ H => te σ H D.rt
theorem aL (he : PE X e te) : PS X (.Return (some e) pos) (EE te) := by
 intro pins s σ H D I h
 exact wpAny_Return_some (cg (he pins s σ H _ I h) fun v s1 ⟨x, H1, I1, r1, q1⟩ => ⟨x, σ, H1, I1, r1, q1⟩)
def E6 (c : TT) (t u : TS) : TS := fun D σ H => c σ H fun b H1 => if b = true then t D σ H1 else u D σ H1
theorem cK {c : Expr} {a b : List Stmt} {tc : TT} (hc : PT X c tc) (ha : om X a t) (hb : om X b u) : PS X (.If c a b pos) (E6 tc t u) := by
 intro pins s σ H D I h
 refine wpAny_If (cg (hc pins s σ H _ I h) fun d s1 ⟨H1, I1, q1⟩ => ?_)
 cases d with
 | true => exact ha pins s1 σ H1 D I1 q1
 | false => exact hb pins s1 σ H1 D I1 q1
def CH : TS := fun _ _ _ => False
theorem fF : PS X st CH := fun _ _ _ _ _ _ h => h.elim
end
abbrev TG := V -> St -> Hp -> (St -> Hp -> Prop) -> Prop
def PG (X : Cx) (target : Expr) (t : TG) : Prop :=
 ∀ (pins : List (Addr × Obj)) (s : Shared) (σ : St) (H : Hp) (v : V) (u : Value) (Q : St -> Hp -> Prop), Inv X pins σ H s -> RelV v u -> t v σ H Q ->
   wpAny (model X.prog X.w) X.A (assign target X.env u) (fun _ s' => ∃ σ' H', Inv X pins σ' H' s' /\ Q σ' H') X.xe s
section
variable {X : Cx} {pos : Pos}
def oK (i : Nat) : TG := fun v σ H Q => Q (σ.set i (some v)) H
theorem iW {i : Nat} {x : Str} (hN : X.N.Nodup) (hi : X.N[i]? = some x) (hx : Loc X.env.scope x) (hf : X.fn x = true \/ X.env.scope.names.lookup x = some .local := by first | exact .inl rfl | exact .inr rfl | assumption) : PG X (.Name x pos) (oK i) := by
 intro pins s σ H v u Q I r h
 exact wpAny_assign_Name (m3 I hN hi hx r (fun s' I' => ⟨_, H, I', h⟩) hf)
def Dz (te : TE) (g : TG) : TS := fun D σ H => te σ H fun x H1 => g x σ H1 D.nx
theorem bI {i : Nat} {x : Str} {e : Expr} {te : TE} {pos' : Pos} (hN : X.N.Nodup) (hi : X.N[i]? = some x) (hx : Loc X.env.scope x) (he : PE X e te) (hs : swapsWith e (some (.Name x pos')) pos.line X.env = pure false := by rfl) (hf : X.fn x = true \/ X.env.scope.names.lookup x = some .local := by first | exact .inl rfl | exact .inr rfl | assumption) :
 PS X (.Assign [.Name x pos'] e pos) (Dz te (oK i)) := by
 intro pins s σ H D I h
 refine wpAny_Assign_Name (cg (he pins s σ H _ I h) fun v s1 ⟨y, H1, I1, r1, q1⟩ => ?_) hs
 exact m3 I1 hN hi hx r1 (fun s2 I2 => ⟨_, H1, I2, q1⟩) hf
end
section
variable {X : Cx} {pos : Pos}
def w4 (c : TT) (tb : TS) : TS := fun D σ H => ∃ W : Nat -> St -> Hp -> Prop, (∃ m, W m σ H) /\ ∀ m σ H, W m σ H ->
 c σ H fun b H1 => if b = true then ∃ N : St -> Hp -> Prop, (∀ σ' H', N σ' H' -> ∃ m', m' < m /\ W m' σ' H') /\ tb { D with nx := N, ct := N, bk := D.nx } σ H1 else D.nx σ H1
theorem w6 {c : Expr} {body : List Stmt} {tc : TT} {tb : TS} (hp : PassesOwn (model X.prog X.w) X.A X.env X.xe) (hc : PT X c tc) (hb : om X body tb) : PS X (.While c body [] pos) (w4 tc tb) := by
 intro pins s σ H D I h
 obtain ⟨W, ⟨m0, w0⟩, turn⟩ := h
 refine wpAny_While (codeAny_whileLoop (fun n s' => ∃ σ' H', Inv X pins σ' H' s' /\ W n σ' H') ?_ m0 ⟨σ, H, I, w0⟩)
 rintro n s1 ⟨σ1, H1, I1, w1⟩
 refine wpAny_passesOwn hp (cg (hc pins s1 σ1 H1 _ I1 (turn n σ1 H1 w1)) fun b s2 ⟨H2, I2, q2⟩ => ?_)
 cases b with
 | true =>
   obtain ⟨N, hN, q2⟩ := q2
   rw [if_pos rfl]
   refine wpAny_passesOwn hp (cg (hb pins s2 σ1 H2 _ I2 q2) fun f s3 q3 => ?_)
   cases f with
   | next =>
     obtain ⟨σ3, H3, I3, n3⟩ := q3
     obtain ⟨m', hm, w3⟩ := hN σ3 H3 n3
     exact ⟨m', hm, σ3, H3, I3, w3⟩
   | cont =>
     obtain ⟨σ3, H3, I3, n3⟩ := q3
     obtain ⟨m', hm, w3⟩ := hN σ3 H3 n3
     exact ⟨m', hm, σ3, H3, I3, w3⟩
   | brk => exact q3
   | ret v => exact q3
 | false =>
   rw [if_neg Bool.false_ne_true]
   exact wpAny_execs_nil ⟨σ1, H2, I2, q2⟩
end
structure It where
 go : Nat -> Hp -> Prop
 DN : Nat -> Hp -> V -> Hp -> Prop
 stop : Nat -> Hp -> Prop
def eY (X : Cx) (pins : List (Addr × Obj)) (H : Hp) (b : Addr) : Prop :=
 H b = none /\ b ≠ X.env.locals /\ b ∉ X.fs /\ (b ∈ X.ex \/ X.cA.heap.objs.size <= b) /\ (∀ x c, X.env.cells.lookup x = some c -> c ≠ b) /\ ∀ p ∈ X.pn ++ pins, p.1 ≠ b
theorem Inv.u6 {X : Cx} {pins : List (Addr × Obj)} {σ : St} {H H' : Hp} {s : Shared} {b : Addr} (I : Inv X pins σ H s) (hb : s.heap.objs.size <= b) (hn : H' b = none) : eY X pins H' b := by
 refine ⟨hn, Nat.ne_of_gt (Nat.lt_of_lt_of_le I.lt hb), I.Gr hb, .inr (Nat.le_trans I.sz hb), fun x c e z => ?_, fun p hp z => ?_⟩
 . obtain ⟨v, q⟩ := I.cell x c e
   exact absurd (Nat.lt_of_lt_of_le q.lt (by rw [z]; exact hb)) (Nat.lt_irrefl _)
 . exact absurd (Nat.lt_of_lt_of_le (Heap.lt_size (I.pin p hp).1) (by rw [z]; exact hb)) (Nat.lt_irrefl _)
structure Turn (P : Program) (w : World) (K : PySem.W.Frag) (tg : Expr) (J : It) (fp : List Addr) (it : Addr) (tn : Nat -> Heap -> Prop) : Prop where
 mem : it ∈ fp
 obj : ∀ i h, tn i h -> ∀ b ∈ fp, ∃ o, h.get? b = some o /\ ∀ v, o.data ≠ .cell v
 keep : ∀ i h h', tn i h -> (∀ b ∈ fp, ∀ o, h.get? b = some o -> h'.get? b = some o) -> tn i h'
 item : ∀ (X : Cx), X.prog = P -> X.w = w -> X.K = K -> X.calm = true -> ∀ (i : Nat) (pins : List (Addr × Obj)) (s : Shared) (σ : St) (H : Hp) (E : Value -> Shared -> Prop), Inv X pins σ H s -> (∀ b ∈ fp, eY X pins H b) -> tn i s.heap -> J.go i H ->
  wpAny (model P w) X.A (pyNext (.ref it)) (fun r s1 => ∃ u, r = some u /\
   wpAny (model P w) X.A (letOwnedTupleGo tg (.ref it) u) (fun _ s2 => ∃ x H', Inv X pins σ H' s2 /\ RelV x u /\ J.DN i H x H' /\ tn (i + 1) s2.heap /\ ∀ b ∈ fp, H' b = none) E s1) E s
 done : ∀ (X : Cx), X.prog = P -> X.w = w -> X.K = K -> X.calm = true -> ∀ (i : Nat) (pins : List (Addr × Obj)) (s : Shared) (σ : St) (H : Hp) (E : Value -> Shared -> Prop), Inv X pins σ H s -> (∀ b ∈ fp, eY X pins H b) -> tn i s.heap -> J.stop i H ->
  wpAny (model P w) X.A (pyNext (.ref it)) (fun r s1 => r = none /\ Inv X pins σ H s1) E s
 self : ∀ (A : Around) (i : Nat) (s : Shared) (Q : Value -> Shared -> Prop) (E : Value -> Shared -> Prop), tn i s.heap -> Q (.ref it) s -> wpAny (model P w) A (pyIter (.ref it)) Q E s
abbrev TI := St -> Hp -> (It -> Hp -> Prop) -> Prop
def JH (X : Cx) (pins : List (Addr × Obj)) (σ : St) (tg : Expr) (R : It -> Hp -> Prop) (GK : Value) (s2 : Shared) : Prop :=
 ∃ (it : Addr) (fp : List Addr) (tn : Nat -> Heap -> Prop) (J : It) (H' : Hp), GK = .ref it /\ Inv X pins σ H' s2 /\ Turn X.prog X.w X.K tg J fp it tn /\ tn 0 s2.heap /\ (∀ b ∈ fp, eY X pins H' b) /\ R J H'
def PI (X : Cx) (tg iter : Expr) (wi : TI) : Prop :=
 ∀ (pins : List (Addr × Obj)) (s : Shared) (σ : St) (H : Hp) (R : It -> Hp -> Prop), Inv X pins σ H s -> wi σ H R ->
   wpAny (model X.prog X.w) X.A (eval iter X.env) (fun v s1 => wpAny (model X.prog X.w) X.A (pyIter v) (JH X pins σ tg R) X.xe s1) X.xe s
theorem Au {M : Model} {A : Around} {E : Value -> Shared -> Prop} {s : Shared} {tg : Expr} {it : Addr} {u : Value} {o : Obj} {n : String} {vs : Array Value} {Q : Unit -> Shared -> Prop} (ho : s.heap.get? it = some o) (hc : o.cls = .type n) (hd : o.data = .fields vs)
 (hn : ["enumerate", "zip", "dict_itemiterator", "dict_reverseitemiterator", "odict_iterator", "itertools.zip_longest", "itertools.pairwise"].contains n = false) (hQ : Q () s) : wpAny M A (letOwnedTupleGo tg (.ref it) u) Q E s := by
 unfold letOwnedTupleGo
 cases tg <;> first
  | exact wpAny_pure hQ
  | (cases u <;> first
   | exact wpAny_pure hQ
   | (refine wpAny_bind (wpAny_load ho ?_)
      rw [hc, hd]
      show wpAny M A (if (["enumerate", "zip", "dict_itemiterator", "dict_reverseitemiterator", "odict_iterator", "itertools.zip_longest", "itertools.pairwise"].contains n && vs[0]? == some (rawInt _)) = true then _ else _) Q E s
      rw [if_neg (by intro h; rw [hn, Bool.false_and] at h; cases h)]
      exact wpAny_pure hQ))
def ya (K : PySem.W.Frag) (a : Addr) : It :=
 ⟨fun i H => ∃ xs x, fL K H a xs /\ xs[i]? = some x, fun i H x H' => H' = H /\ ∀ xs, fL K H a xs -> xs[i]? = some x, fun i H => ∃ xs, fL K H a xs /\ xs.length <= i⟩
def vP (lo : Int) (n : Nat) : It := ⟨fun i _ => i < n, fun i H x H' => H' = H /\ x = .int (lo + i), fun i _ => n <= i⟩
theorem uV {P : Program} {w : World} {K : PySem.W.Frag} {tg : Expr} (a it : Addr) : Turn P w K tg (ya K a) [it] it (fun i h => h.IsListIter it a i) where
 mem := by simp
 obj := fun i h st b hb => by
  have e : b = it := by simpa using hb
  subst e
  obtain ⟨o, e, c, d⟩ := st
  exact ⟨o, e, fun v z => by rw [d] at z; cases z⟩
 keep := fun i h h' st k => st.at fun o e => k it (by simp) o e
 item := by
  intro X hP hw hK hc i pins s σ H E I hf st hg
  subst hP hw hK
  obtain ⟨xs, x, hq, hx⟩ := hg
  obtain ⟨aJ, rv, p, hz⟩ := I.list hq
  obtain ⟨u, hu, ru⟩ := rv.get hx
  obtain ⟨f0, f1, f2, f3, f4, f5⟩ := hf it (by simp)
  refine wpAny_pyNext_list_item st p.isList (x := u) (by simpa using hu) fun h' x8 sb => ?_
  have I1 : Inv X pins σ H { s with heap := h' } := I.turned (t' := s.toks) (fun b o hb e => (sb.2 b hb).trans e) f0 f1 f3 f4 f5
  obtain ⟨o, e, c, d⟩ := id x8
  exact ⟨u, rfl, Au (s := { s with heap := h' }) e c d (by decide) ⟨x, H, I1, ru, ⟨rfl, fun ys hy => by rw [I.xh hy hq]; exact hx⟩, x8, fun b hb => (hf b hb).1⟩⟩
 done := by
  intro X hP hw hK hc i pins s σ H E I hf st hg
  subst hP hw hK
  obtain ⟨xs, hq, hx⟩ := hg
  obtain ⟨aJ, rv, p, hz⟩ := I.list hq
  obtain ⟨f0, f1, f2, f3, f4, f5⟩ := hf it (by simp)
  have hl := rv.length
  exact wpAny_pyNext_list_end (I.ok.hd hc) st p.isList (by simp; omega) fun h' eb => ⟨rfl, I.turned (t' := s.toks) (fun b o hb e => eb b o hb e) f0 f1 f3 f4 f5⟩
 self := fun _ _ _ _ _ st h => wpAny_pyIter_listiter st h
theorem rM {P : Program} {w : World} {K : PySem.W.Frag} {tg : Expr} (it : Addr) (lo : Int) (n : Nat) : Turn P w K tg (vP lo n) [it] it (fun i h => IsRangeIter h it (lo + (i : Nat) * 1) ((n : Int) - (i : Nat)) 1) where
 mem := by simp
 obj := fun i h st b hb => by
  have e : b = it := by simpa using hb
  subst e
  exact ⟨_, st, fun v z => by
   have z' : Data.fields _ = Data.cell v := z
   cases z'⟩
 keep := fun i h h' st k => k it (by simp) _ st
 item := by
  intro X hP hw hK hc i pins s σ H E I hf st hg
  subst hP hw hK
  obtain ⟨f0, f1, f2, f3, f4, f5⟩ := hf it (by simp)
  have W := Walks.range (prog := X.prog) (w := X.w) (I.ok.hd hc) it lo 1 n
  refine W.item i s _ _ hg st fun v h' tk hv x8 kk => ?_
  obtain ⟨t, rfl⟩ := hv
  have I1 : Inv X pins σ H { s with heap := h', toks := tk } := I.turned (fun b o hb e => kk b o (by simpa using hb) e) f0 f1 f3 f4 f5
  refine ⟨_, rfl, Au (s := { s with heap := h', toks := tk }) (n := "range_iterator") x8 rfl rfl (by decide) ⟨.int (lo + i), H, I1, ⟨t, ?_⟩, ⟨rfl, rfl⟩, x8, fun b hb => (hf b hb).1⟩⟩
  rw [Int.mul_one]
 done := by
  intro X hP hw hK hc i pins s σ H E I hf st hg
  subst hP hw hK
  obtain ⟨f0, f1, f2, f3, f4, f5⟩ := hf it (by simp)
  exact wpAny_pyNext_range_end (I.ok.hd hc) st (by have : n <= i := hg; omega) fun h' eb => ⟨rfl, I.turned (t' := s.toks) (fun b o hb e => eb b o hb e) f0 f1 f3 f4 f5⟩
 self := fun _ _ _ _ _ st h => wpAny_pyIter_rangeiter st h
section
variable {X : Cx} {tg : Expr}
def xH (K : PySem.W.Frag) (tl : TE) : TI := fun σ H R => tl σ H fun x H1 => ∃ a, x = .ref a /\ (∃ xs, fL K H1 a xs) /\ R (ya K a) H1
theorem lQ {l : Expr} {tl : TE} (hl : PE X l tl) : PI X tg l (xH X.K tl) := by
 intro pins s σ H R I h
 refine cg (hl pins s σ H _ I h) fun v s1 ⟨x, H1, I1, r1, q1⟩ => ?_
 obtain ⟨a, e, ⟨xs, hq⟩, q⟩ := q1
 subst e
 cases r1
 obtain ⟨aJ, rv, p, hz⟩ := I1.list hq
 refine wpAny_pyIter_list p.isList ?_
 refine ⟨s1.heap.objs.size, [s1.heap.objs.size], _, _, H1, rfl, I1.kept (t' := s1.toks) fun b o e => Heap.get?_push_of_some _ e, uV a _, ⟨_, Heap.get?_push_size _ rfl, rfl, rfl⟩, fun b hb => ?_, q⟩
 have e : b = s1.heap.objs.size := by simpa using hb
 subst e
 exact I1.u6 (Nat.le_refl _) (I1.aK.fresh (Nat.le_refl _))
theorem xi {pins : List (Addr × Obj)} {σ : St} {H : Hp} {s : Shared} {R : It -> Hp -> Prop} {E : Value -> Shared -> Prop} {lo hi : Int} {t u v : Tok} {tk : Nat} (I : Inv X pins σ H s) (h1 : -(2 ^ 62) <= lo) (h2 : lo < 2 ^ 62) (h3 : -(2 ^ 62) <= hi) (h4 : hi < 2 ^ 62)
 (q : R (vP lo (hi - lo).toNat) H) : wpAny (model X.prog X.w) X.A (pyIter (.ref s.heap.objs.size)) (JH X pins σ tg R) E { s with heap := s.heap.push { cls := .type "range", data := .fields #[.int lo t, .int hi u, .int 1 v] }, toks := tk } := by
 refine wpAny_pyIter_range (IsRange.new ..) (small_one h1 h2 h3 h4) ?_
 have I1 : Inv X pins σ H { s with heap := s.heap.push { cls := .type "range", data := .fields #[.int lo t, .int hi u, .int 1 v] }, toks := tk } := I.kept fun b o e => Heap.get?_push_of_some _ e
 refine ⟨(s.heap.push { cls := .type "range", data := .fields #[.int lo t, .int hi u, .int 1 v] }).objs.size, [(s.heap.push { cls := .type "range", data := .fields #[.int lo t, .int hi u, .int 1 v] }).objs.size], _, _, H, rfl,
  I1.kept (t' := tk) fun b o e => Heap.get?_push_of_some _ e, rM _ lo (hi - lo).toNat, ?_, fun b hb => ?_, q⟩
 . have e1 : lo + ((0 : Nat) : Int) * 1 = lo := by simp
   have e2 : (((hi - lo).toNat : Nat) : Int) - ((0 : Nat) : Int) = Builtin.Range.rangeSize lo hi 1 := by rw [rangeSize_one]; split <;> omega
   show IsRangeIter _ _ (lo + ((0 : Nat) : Int) * 1) ((((hi - lo).toNat : Nat) : Int) - ((0 : Nat) : Int)) 1
   rw [e1, e2]
   exact Heap.get?_push_size _ rfl
 . have e : b = (s.heap.push { cls := .type "range", data := .fields #[.int lo t, .int hi u, .int 1 v] }).objs.size := by simpa using hb
   subst e
   exact I1.u6 (Nat.le_refl _) (I1.aK.fresh (Nat.le_refl _))
def vT (ta : TA) : TI := fun σ H R => ta σ H fun vs H1 => ∃ j : Int, vs = [.int j] /\ -(2 ^ 62) <= j /\ j < 2 ^ 62 /\ R (vP 0 j.toNat) H1
theorem oV {a : Expr} {ta : TA} {p pos : Pos} (hg : Gl X "range") (hm : X.mg "range" = none) (ha : PA X [a] ta) (hs : starEach [a] X.env = [(false, eval a X.env)] := by rfl) : PI X tg (.Call (.Name "range" p) [a] [] pos) (vT ta) := by
 intro pins s σ H R I h
 refine Call_ (jv I hg hm boot_range (PyProof.Rows.callWith_type1 (cg (ha pos pins s σ H _ I h) fun us s1 ⟨vs, H1, I1, r1, q1⟩ => ?_) hs rfl))
 obtain ⟨j, e, q1, q2, q⟩ := q1
 subst e
 cases r1 with
 | cons r rr =>
   cases rr
   obtain ⟨t, rfl⟩ := r
   exact call_range_1 (xi I1 (by omega) (by omega) q1 q2 (by simpa using q))
def C7 (wi : TI) (g : TG) (tb : TS) : TS := fun D σ H => wi σ H fun J H1 => ∃ W : Nat -> Nat -> St -> Hp -> Prop, (∃ m, W 0 m σ H1) /\ ∀ i m σ H, W i m σ H ->
 (J.stop i H /\ D.nx σ H) \/ (J.go i H /\ ∃ N : St -> Hp -> Prop, (∀ σ' H', N σ' H' -> ∃ m', m' < m /\ W (i + 1) m' σ' H') /\ ∀ x H', J.DN i H x H' -> g x σ H' fun σ2 H2 => tb { D with nx := N, ct := N, bk := D.nx } σ2 H2)
def mR (fp : List Addr) (h : Heap) : List (Addr × Obj) := fp.filterMap fun b => (h.get? b).map fun o => (b, o)
theorem gL {fp : List Addr} {h : Heap} {b : Addr} {o : Obj} (hb : b ∈ fp) (e : h.get? b = some o) : (b, o) ∈ mR fp h := List.mem_filterMap.mpr ⟨b, hb, by rw [e]; rfl⟩
theorem vi {fp : List Addr} {h : Heap} {p : Addr × Obj} (hp : p ∈ mR fp h) : p.1 ∈ fp /\ h.get? p.1 = some p.2 := by
 obtain ⟨b, hb, e⟩ := List.mem_filterMap.mp hp
 cases q : h.get? b with
 | none => rw [q] at e; cases e
 | some o =>
   rw [q] at e
   have e' : (b, o) = p := Option.some.inj e
   subst e'
   exact ⟨hb, q⟩
theorem Inv.pinned {pins : List (Addr × Obj)} {σ : St} {H : Hp} {s : Shared} {fp : List Addr} (I : Inv X pins σ H s) (hf : ∀ b ∈ fp, eY X pins H b) (ho : ∀ b ∈ fp, ∃ o, s.heap.get? b = some o /\ ∀ v, o.data ≠ .cell v) : Inv X (pins ++ mR fp s.heap) σ H s :=
 I.gK fun p hp => (List.mem_append.mp hp).elim (fun z => I.pin p (List.mem_append_right _ z)) fun z => by
  obtain ⟨hb, e⟩ := vi z
  obtain ⟨f0, f1, f2, _⟩ := hf p.1 hb
  obtain ⟨o, e', d⟩ := ho p.1 hb
  rw [e] at e'; cases e'
  exact ⟨e, f0, f1, f2, d⟩
theorem Inv.ip {pins pl : List (Addr × Obj)} {σ : St} {H : Hp} {s : Shared} (I : Inv X (pins ++ pl) σ H s) : Inv X pins σ H s := I.gK fun p hp => I.pin p (List.mem_append_right _ (List.mem_append_left _ hp))
theorem vI {iter : Expr} {body : List Stmt} {wi : TI} {g : TG} {tb : TS} {pos : Pos} (hp : PassesOwn (model X.prog X.w) X.A X.env X.xe) (hc : X.calm = true) (hi : PI X tg iter wi) (hg : PG X tg g) (hb : om X body tb)
 (hs : ∀ x, foldedSetIterable iter X.env x = pure x := by intro _; rfl) : PS X (.For tg iter body [] pos) (C7 wi g tb) := by
 intro pins s σ H D I h
 refine wpAny_For (cg (hi pins s σ H _ I h) fun v s1 h1 => cg h1 fun GK s2 h2 => ?_) hs
 obtain ⟨it, fp, tn, J, H2, e, I2, T, MP, f2, W, ⟨m0, w0⟩, turn⟩ := h2
 subst e
 have stat : ∀ {H' : Hp}, (∀ b ∈ fp, H' b = none) -> ∀ b ∈ fp, eY X pins H' b := fun hn b hb => ⟨hn b hb, (f2 b hb).2⟩
 refine codeAny_forLoop_any (fun n s' => ∃ i σ' H', Inv X pins σ' H' s' /\ tn i s'.heap /\ (∀ b ∈ fp, H' b = none) /\ W i n σ' H') ?_ m0 ⟨0, σ, H2, I2, MP, fun b hb => (f2 b hb).1, w0⟩
 rintro n s3 ⟨i, σ3, H3, I3, FN, FL, w3⟩
 rcases turn i n σ3 H3 w3 with ⟨stop, qn⟩ | ⟨go, N, hN, step⟩
 . refine wpAny_passesOwn hp (cg (T.done X rfl rfl rfl hc i pins s3 σ3 H3 X.xe I3 (stat FL) FN stop) fun r s4 ⟨hr, I4⟩ => ?_)
   subst hr
   exact wpAny_execs_nil ⟨σ3, H3, I4, qn⟩
 . refine wpAny_passesOwn hp (cg (T.item X rfl rfl rfl hc i pins s3 σ3 H3 X.xe I3 (stat FL) FN go) fun r s4 ⟨u, hr, h4⟩ => ?_)
   subst hr
   refine wpAny_passesOwn hp (cg h4 fun _ s5 ⟨x, H5, I5, r5, y5, DJ, HL⟩ => ?_)
   have IZ := I5.pinned (stat HL) (T.obj _ _ DJ)
   refine wpAny_passesOwn hp (cg (hg _ s5 σ3 H5 x u _ IZ r5 (step x H5 y5)) fun _ s6 ⟨σ6, H6, I6, q6⟩ => ?_)
   refine wpAny_passesOwn hp (cg (hb _ s6 σ6 H6 _ I6 q6) fun f s7 q7 => ?_)
   have again : ∀ {σ7 : St} {H7 : Hp}, Inv X (pins ++ mR fp s5.heap) σ7 H7 s7 -> N σ7 H7 -> ∃ m, m < n /\ ∃ i σ' H', Inv X pins σ' H' s7 /\ tn i s7.heap /\ (∀ b ∈ fp, H' b = none) /\ W i m σ' H' := fun {σ7 H7} I7 n7 => by
    obtain ⟨m', hm, w7⟩ := hN σ7 H7 n7
    refine ⟨m', hm, i + 1, σ7, H7, I7.ip, T.keep _ _ _ DJ fun b hb o e => (I7.pin (b, o) (List.mem_append_right _ (List.mem_append_right _ (gL hb e)))).1, fun b hb => ?_, w7⟩
    obtain ⟨o, e, d⟩ := T.obj _ _ DJ b hb
    exact (I7.pin (b, o) (List.mem_append_right _ (List.mem_append_right _ (gL hb e)))).2.1
   cases f with
   | next => obtain ⟨σ7, H7, I7, n7⟩ := q7; exact again I7 n7
   | cont => obtain ⟨σ7, H7, I7, n7⟩ := q7; exact again I7 n7
   | brk => obtain ⟨σ7, H7, I7, q7⟩ := q7; exact ⟨σ7, H7, I7.ip, q7⟩
   | ret v => obtain ⟨x7, σ7, H7, I7, r7, q7⟩ := q7; exact ⟨x7, σ7, H7, I7.ip, r7, q7⟩
end
theorem xl {K : PySem.W.Frag} {a : Addr} {xs : List V} {g : TG} {tb : TS} {D : Ends} {σ : St} {H : Hp} (Pv : Nat -> St -> Hp -> Prop) (h0 : Pv 0 σ H) (hl : ∀ i σ H, i <= xs.length -> Pv i σ H -> fL K H a xs)
 (hs : ∀ i x σ H, xs[i]? = some x -> Pv i σ H -> g x σ H fun σ2 H2 => tb { D with nx := Pv (i + 1), ct := Pv (i + 1), bk := D.nx } σ2 H2) (hd : ∀ σ H, Pv xs.length σ H -> D.nx σ H) :
 ∃ W : Nat -> Nat -> St -> Hp -> Prop, (∃ m, W 0 m σ H) /\ ∀ i m σ H, W i m σ H ->
   ((ya K a).stop i H /\ D.nx σ H) \/ ((ya K a).go i H /\ ∃ N : St -> Hp -> Prop, (∀ σ' H', N σ' H' -> ∃ m', m' < m /\ W (i + 1) m' σ' H') /\ ∀ x H', (ya K a).DN i H x H' -> g x σ H' fun σ2 H2 => tb { D with nx := N, ct := N, bk := D.nx } σ2 H2) := by
 refine ⟨fun i m σ H => m = xs.length - i /\ i <= xs.length /\ Pv i σ H, ⟨xs.length, by simp, Nat.zero_le _, h0⟩, ?_⟩
 rintro i m σ H ⟨rfl, hi, p⟩
 have q := hl i σ H hi p
 by_cases n6 : i < xs.length
 . refine .inr ⟨⟨xs, xs[i], q, by simp [n6]⟩, Pv (i + 1), fun σ' H' p' => ⟨xs.length - (i + 1), by omega, rfl, n6, p'⟩, fun x H' y => ?_⟩
   obtain ⟨e, y⟩ := y
   subst e
   exact hs i x σ _ (y xs q) p
 . have e : i = xs.length := by omega
   subst e
   exact .inl ⟨⟨xs, q, Nat.le_refl _⟩, hd σ H p⟩
theorem vw {lo : Int} {n : Nat} {g : TG} {tb : TS} {D : Ends} {σ : St} {H : Hp} (Pv : Nat -> St -> Hp -> Prop) (h0 : Pv 0 σ H)
 (hs : ∀ i σ H, i < n -> Pv i σ H -> g (.int (lo + i)) σ H fun σ2 H2 => tb { D with nx := Pv (i + 1), ct := Pv (i + 1), bk := D.nx } σ2 H2) (hd : ∀ σ H, Pv n σ H -> D.nx σ H) :
 ∃ W : Nat -> Nat -> St -> Hp -> Prop, (∃ m, W 0 m σ H) /\ ∀ i m σ H, W i m σ H ->
   ((vP lo n).stop i H /\ D.nx σ H) \/ ((vP lo n).go i H /\ ∃ N : St -> Hp -> Prop, (∀ σ' H', N σ' H' -> ∃ m', m' < m /\ W (i + 1) m' σ' H') /\ ∀ x H', (vP lo n).DN i H x H' -> g x σ H' fun σ2 H2 => tb { D with nx := N, ct := N, bk := D.nx } σ2 H2) := by
 refine ⟨fun i m σ H => m = n - i /\ i <= n /\ Pv i σ H, ⟨n, by simp, Nat.zero_le _, h0⟩, ?_⟩
 rintro i m σ H ⟨rfl, hi, p⟩
 by_cases n6 : i < n
 . refine .inr ⟨n6, Pv (i + 1), fun σ' H' p' => ⟨n - (i + 1), by omega, rfl, n6, p'⟩, fun x H' y => ?_⟩
   obtain ⟨e, y⟩ := y
   subst e y
   exact hs i σ _ n6 p
 . have e : i = n := by omega
   subst e
   exact .inl ⟨Nat.le_refl _, hd σ H p⟩
abbrev R2 := V -> V -> Hp -> VK -> Prop
def ki (X : Cx) (f : Value -> Value -> Sem Value) (r : R2) : Prop :=
 ∀ (pins : List (Addr × Obj)) (s : Shared) (σ : St) (H : Hp) (x y : V) (v u : Value) (Q : VK), Inv X pins σ H s -> RelV x v -> RelV y u -> r x y H Q ->
   wpAny (model X.prog X.w) X.A (f v u) (EP X pins σ Q) X.xe s
def Ja (X : Cx) (f : Value -> Sem Value) (r : V -> Hp -> VK -> Prop) : Prop :=
 ∀ (pins : List (Addr × Obj)) (s : Shared) (σ : St) (H : Hp) (x : V) (v : Value) (Q : VK), Inv X pins σ H s -> RelV x v -> r x H Q ->
   wpAny (model X.prog X.w) X.A (f v) (EP X pins σ Q) X.xe s
def iG (X : Cx) (f : Value) (r : List V -> Hp -> VK -> Prop) : Prop :=
 ∀ (pins : List (Addr × Obj)) (s : Shared) (σ : St) (H : Hp) (xs : List V) (us : List Value) (Q : VK), Inv X pins σ H s -> Vals xs us -> r xs H Q ->
   wpAny (model X.prog X.w) X.A (call f us) (EP X pins σ Q) X.xe s
def Hz (X : Cx) (r : V -> Hp -> (Bool -> Hp -> Prop) -> Prop) : Prop :=
 ∀ (pins : List (Addr × Obj)) (s : Shared) (σ : St) (H : Hp) (x : V) (v : Value) (Q : Bool -> Hp -> Prop), Inv X pins σ H s -> RelV x v -> r x H Q ->
   wpAny (model X.prog X.w) X.A (truthy v) (TP X pins σ Q) X.xe s
def Gx (r : R2) (ta tb : TE) : TE := fun σ H Q => ta σ H fun x H1 => tb σ H1 fun y H2 => r x y H2 Q
def JZ (r : V -> Hp -> VK -> Prop) (ta : TE) : TE := fun σ H Q => ta σ H fun x H1 => r x H1 Q
def rI (C : Int -> Int -> Prop) (g : Int -> Int -> V) : R2 := fun x y H Q => ∃ i j, x = .int i /\ y = .int j /\ C i j /\ Q (g i j) H
def Di (g : Int -> Int -> V) : R2 := fun x y H Q => ∃ i j, x = .int i /\ y = .int j /\ Q (g i j) H
def rU (g : Int -> V) : V -> Hp -> VK -> Prop := fun x H Q => ∃ i, x = .int i /\ Q (g i) H
section
variable {X : Cx} {a b c : Expr} {ta tb tc : TE} {pos : Pos}
theorem DQ (ha : PE X a ta) (hb : PE X b tb) {pins : List (Addr × Obj)} {s : Shared} {σ : St} {H : Hp} {R : V -> V -> Hp -> Prop} (I : Inv X pins σ H s)
 (h : ta σ H fun x H1 => tb σ H1 fun y H2 => R x y H2) {Q : Value -> Shared -> Prop} {f : Value -> Value -> Sem Value}
 (hf : ∀ v u s2 x y H2, Inv X pins σ H2 s2 -> RelV x v -> RelV y u -> R x y H2 -> wpAny (model X.prog X.w) X.A (f v u) Q X.xe s2) :
 wpAny (model X.prog X.w) X.A (eval a X.env) (fun v s₁ => wpAny (model X.prog X.w) X.A (eval b X.env) (fun u s₂ => wpAny (model X.prog X.w) X.A (f v u) Q X.xe s₂) X.xe s₁) X.xe s := by
 refine cg (ha pins s σ H _ I h) fun v s1 ⟨x, H1, I1, r1, q1⟩ => ?_
 refine cg (hb pins s1 σ H1 _ I1 q1) fun u s2 ⟨y, H2, I2, r2, q2⟩ => ?_
 exact hf v u s2 x y H2 I2 r1 r2 q2
theorem b9 {op : Operator} {r : R2} (ho : ki X (binaryOp op) r) (ha : PE X a ta) (hb : PE X b tb) : PE X (.BinOp a op b pos) (Gx r ta tb) := by
 intro pins s σ H Q I h
 exact wpAny_BinOp (DQ ha hb I h fun v u s2 x y H2 I2 rx ry q => ho pins s2 σ H2 x y v u Q I2 rx ry q)
theorem tZ {op : UnaryOp} {r : V -> Hp -> VK -> Prop} (ho : Ja X (unaryOp op) r) (ha : PE X a ta) : PE X (.UnaryOp op a pos) (JZ r ta) := by
 intro pins s σ H Q I h
 exact UnaryOp_ (cg (ha pins s σ H _ I h) fun v s1 ⟨x, H1, I1, r1, q1⟩ => ho pins s1 σ H1 x v Q I1 r1 q1)
theorem Il {f : Value -> Value -> Sem Value} {C : Int -> Int -> Prop} {g : Int -> Int -> Int}
 (rule : ∀ (i j : Int) (t u : Tok) (s : Shared) (Q : Value -> Shared -> Prop) (E : Value -> Shared -> Prop), C i j -> Q (.int (g i j) s.toks) { s with toks := s.toks + 1 } -> wpAny (model X.prog X.w) X.A (f (.int i t) (.int j u)) Q E s) :
 ki X f (rI C fun i j => .int (g i j)) := by
 intro pins s σ H x y v u Q I rx ry h
 obtain ⟨i, j, rfl, rfl, hc, q⟩ := h
 obtain ⟨t, rfl⟩ := rx
 obtain ⟨t', rfl⟩ := ry
 exact rule i j t t' s _ _ hc ⟨.int (g i j), H, I.tok _, ⟨_, rfl⟩, q⟩
theorem FE {f : Value -> Value -> Sem Value} {g : Int -> Int -> Int}
 (rule : ∀ (i j : Int) (t u : Tok) (s : Shared) (Q : Value -> Shared -> Prop) (E : Value -> Shared -> Prop), Q (.int (g i j) s.toks) { s with toks := s.toks + 1 } -> wpAny (model X.prog X.w) X.A (f (.int i t) (.int j u)) Q E s) :
 ki X f (Di fun i j => .int (g i j)) := by
 intro pins s σ H x y v u Q I rx ry h
 obtain ⟨i, j, rfl, rfl, q⟩ := h
 obtain ⟨t, rfl⟩ := rx
 obtain ⟨t', rfl⟩ := ry
 exact rule i j t t' s _ _ ⟨.int (g i j), H, I.tok _, ⟨_, rfl⟩, q⟩
theorem Em {f : Value -> Value -> Sem Value} {g : Int -> Int -> Bool}
 (rule : ∀ (i j : Int) (t u : Tok) (s : Shared) (Q : Value -> Shared -> Prop) (E : Value -> Shared -> Prop), Q (.bool (g i j)) s -> wpAny (model X.prog X.w) X.A (f (.int i t) (.int j u)) Q E s) :
 ki X f (Di fun i j => .bl (g i j)) := by
 intro pins s σ H x y v u Q I rx ry h
 obtain ⟨i, j, rfl, rfl, q⟩ := h
 obtain ⟨t, rfl⟩ := rx
 obtain ⟨t', rfl⟩ := ry
 exact rule i j t t' s _ _ ⟨.bl (g i j), H, I, rfl, q⟩
theorem Bl : ki X (binaryOp .Add) (Di fun i j => .int (i + j)) := FE fun _ _ _ _ _ _ _ q => add_int q
theorem Cd : ki X (binaryOp .Sub) (Di fun i j => .int (i - j)) := FE fun _ _ _ _ _ _ _ q => sub_int q
theorem Cy : ki X (binaryOp .Mod) (rI (fun _ j => 0 < j) fun i j => .int (i % j)) := Il fun i j _ _ _ _ _ hc q => by
 have h1 : (0 : Int) < j := hc
 exact mod_int' (by omega) (by rw [Int.fmod_eq_emod_of_nonneg i (by omega)]; exact q)
theorem Lk {f : Value -> Sem Value} {g : Int -> Int}
 (rule : ∀ (i : Int) (t : Tok) (s : Shared) (Q : Value -> Shared -> Prop) (E : Value -> Shared -> Prop), Q (.int (g i) s.toks) { s with toks := s.toks + 1 } -> wpAny (model X.prog X.w) X.A (f (.int i t)) Q E s) :
 Ja X f (rU fun i => .int (g i)) := by
 intro pins s σ H x v Q I rx h
 obtain ⟨i, rfl, q⟩ := h
 obtain ⟨t, rfl⟩ := rx
 exact rule i t s _ _ ⟨.int (g i), H, I.tok _, ⟨_, rfl⟩, q⟩
theorem pQ : Ja X (unaryOp .USub) (rU fun i => .int (-i)) := Lk fun _ _ _ _ _ q => neg_int q
end
def yw : V -> V -> Bool
 | .aY, .aY => true | .aY, .int _ => true | .int _, .aY => true | .aY, .bl _ => true | .bl _, .aY => true | .aY, .str _ => true | .str _, .aY => true
 | .int _, .int _ => true | .bl _, .bl _ => true | .str _, .str _ => true | .tY _, .tY _ => true
 | .int _, .str _ => true | .str _, .int _ => true | .bl _, .str _ => true | .str _, .bl _ => true
 | _, _ => false
def K3 : R2 := fun x y H Q => yw x y = true /\ Q (.bl (decide (x = y))) H
def Md : R2 := fun x y H Q => yw x y = true /\ Q (.bl (!decide (x = y))) H
theorem tE {i j : Int} : decide (V.int i = V.int j) = (i == j) := by
 rw [Bool.eq_iff_iff]
 simp
theorem xO {i j : Bool} : decide (V.bl i = V.bl j) = (i == j) := by
 rw [Bool.eq_iff_iff]
 simp
theorem tP {i j : Str} : decide (V.str i = V.str j) = (i == j) := by
 rw [Bool.eq_iff_iff]
 simp
theorem t8 {i j : Array UInt8} : decide (V.tY i = V.tY j) = (i.toList == j.toList) := by
 rw [Bool.eq_iff_iff]
 cases i
 cases j
 simp
section
variable {X : Cx} {a b c : Expr} {ta tb tc : TE} {pos : Pos}
theorem aM {pins : List (Addr × Obj)} {σ : St} {H : Hp} {s : Shared} {Q : VK} {k k' : Bool} (I : Inv X pins σ H s) (q : Q (.bl k) H) (e : k = k') : EP X pins σ Q (.bool k') s := by
 subst e
 exact ⟨.bl k, H, I, rfl, q⟩
theorem Fj : ki X (compareOp .Eq) K3 := by
 intro pins s σ H x y v u Q I rx ry h
 obtain ⟨hs, q⟩ := h
 cases x with
 | aY =>
   cases rx
   cases y with
   | aY => cases ry; exact PySem.EqNone.eq_none_none (aM I q (by simp))
   | bl j => cases ry; exact PySem.EqNone.eq_none_bool (aM I q (by simp))
   | int j => obtain ⟨t', rfl⟩ := ry; exact PySem.EqNone.eq_none_int (aM I q (by simp))
   | str j => obtain ⟨t', rfl⟩ := ry; exact PySem.EqNone.eq_none_str (aM I q (by simp))
   | _ => exact absurd (show false = true from hs) Bool.false_ne_true
 | bl i =>
   cases rx
   cases y with
   | aY => cases ry; exact PySem.EqNone.eq_bool_none (aM I q (by simp))
   | bl j => cases ry; exact eq_bool (aM I q xO)
   | str j => obtain ⟨t', rfl⟩ := ry; exact PySem.EqMixed.eq_bool_str (aM I q (by simp))
   | _ => exact absurd (show false = true from hs) Bool.false_ne_true
 | int i =>
   obtain ⟨t, rfl⟩ := rx
   cases y with
   | aY => cases ry; exact PySem.EqNone.eq_int_none (aM I q (by simp))
   | int j => obtain ⟨t', rfl⟩ := ry; exact eq_int (aM I q tE)
   | str j => obtain ⟨t', rfl⟩ := ry; exact PySem.EqMixed.eq_int_str (aM I q (by simp))
   | _ => exact absurd (show false = true from hs) Bool.false_ne_true
 | str i =>
   obtain ⟨t, rfl⟩ := rx
   cases y with
   | aY => cases ry; exact PySem.EqNone.eq_str_none (aM I q (by simp))
   | bl j => cases ry; exact PySem.EqMixed.eq_str_bool (aM I q (by simp))
   | int j => obtain ⟨t', rfl⟩ := ry; exact PySem.EqMixed.eq_str_int (aM I q (by simp))
   | str j => obtain ⟨t', rfl⟩ := ry; exact eq_str (aM I q tP)
   | _ => exact absurd (show false = true from hs) Bool.false_ne_true
 | tY i =>
   obtain ⟨t, rfl⟩ := rx
   cases y with
   | tY j => obtain ⟨t', rfl⟩ := ry; exact PySem.W.eq_bytes (aM I q t8)
   | _ => exact absurd (show false = true from hs) Bool.false_ne_true
 | _ => cases y <;> exact absurd (show false = true from hs) Bool.false_ne_true
theorem F2 : ki X (compareOp .NotEq) Md := by
 intro pins s σ H x y v u Q I rx ry h
 obtain ⟨hs, q⟩ := h
 cases x with
 | aY =>
   cases rx
   cases y with
   | aY => cases ry; exact PySem.EqNone.ne_none_none (aM I q (by simp))
   | bl j => cases ry; exact PySem.EqNone.ne_none_bool (aM I q (by simp))
   | int j => obtain ⟨t', rfl⟩ := ry; exact PySem.EqNone.ne_none_int (aM I q (by simp))
   | str j => obtain ⟨t', rfl⟩ := ry; exact PySem.EqNone.ne_none_str (aM I q (by simp))
   | _ => exact absurd (show false = true from hs) Bool.false_ne_true
 | bl i =>
   cases rx
   cases y with
   | aY => cases ry; exact PySem.EqNone.ne_bool_none (aM I q (by simp))
   | bl j => cases ry; exact ne_bool (aM I q (congrArg not xO))
   | str j => obtain ⟨t', rfl⟩ := ry; exact PySem.EqMixed.ne_bool_str (aM I q (by simp))
   | _ => exact absurd (show false = true from hs) Bool.false_ne_true
 | int i =>
   obtain ⟨t, rfl⟩ := rx
   cases y with
   | aY => cases ry; exact PySem.EqNone.ne_int_none (aM I q (by simp))
   | int j => obtain ⟨t', rfl⟩ := ry; exact ne_int (aM I q (congrArg not tE))
   | str j => obtain ⟨t', rfl⟩ := ry; exact PySem.EqMixed.ne_int_str (aM I q (by simp))
   | _ => exact absurd (show false = true from hs) Bool.false_ne_true
 | str i =>
   obtain ⟨t, rfl⟩ := rx
   cases y with
   | aY => cases ry; exact PySem.EqNone.ne_str_none (aM I q (by simp))
   | bl j => cases ry; exact PySem.EqMixed.ne_str_bool (aM I q (by simp))
   | int j => obtain ⟨t', rfl⟩ := ry; exact PySem.EqMixed.ne_str_int (aM I q (by simp))
   | str j => obtain ⟨t', rfl⟩ := ry; exact ne_str (aM I q (congrArg not tP))
   | _ => exact absurd (show false = true from hs) Bool.false_ne_true
 | tY i =>
   obtain ⟨t, rfl⟩ := rx
   cases y with
   | tY j => obtain ⟨t', rfl⟩ := ry; exact PySem.W.ne_bytes (aM I q (congrArg not t8))
   | _ => exact absurd (show false = true from hs) Bool.false_ne_true
 | _ => cases y <;> exact absurd (show false = true from hs) Bool.false_ne_true
theorem FQ : ki X (compareOp .Lt) (Di fun i j => .bl (decide (i < j))) := Em fun _ _ _ _ _ _ _ q => lt_int q
theorem Gh : ki X (compareOp .GtE) (Di fun i j => .bl (decide (j <= i))) := Em fun _ _ _ _ _ _ _ q => ge_int q
theorem ud : ki X (compareOp .IsNot) (fun x y H Q => y = .aY /\ Q (.bl (!decide (x = .aY))) H) := by
 intro pins s σ H x y v u Q I rx ry h
 obtain ⟨rfl, q⟩ := h
 cases ry
 refine isnot_none_gen (aM I q ?_)
 cases x <;> first
  | (cases rx; rfl)
  | (obtain ⟨t, rfl⟩ := rx; rfl)
theorem bf (b : Expr) {op : CmpOp} (h : op ≠ .In := by decide) (h2 : op ≠ .NotIn := by decide) : behindInMarks op b = false := by
 have e1 : (op == CmpOp.In) = false := by cases op <;> first | rfl | exact absurd rfl h
 have e2 : (op == CmpOp.NotIn) = false := by cases op <;> first | rfl | exact absurd rfl h2
 cases b <;> simp [behindInMarks, e1, e2]
theorem t5 {op : CmpOp} {r : R2} (ho : ki X (compareOp op) r) (ha : PE X a ta) (hb : PE X b tb) (hm : behindInMarks op b = false) : PE X (.Compare a [op] [b] pos) (Gx r ta tb) := by
 intro pins s σ H Q I h
 exact wpAny_Compare1 (DQ ha hb I h fun v u s2 x y H2 I2 rx ry q => ho pins s2 σ H2 x y v u Q I2 rx ry q) hm
def AI (t : TE) : TT := fun σ H Q => t σ H fun x H' => ∃ k, x = .bl k /\ Q k H'
theorem aN {op : CmpOp} {r : R2} (ho : ki X (compareOp op) r) (ha : PE X a ta) (hb : PE X b tb) (hm : behindInMarks op b = false) : PT X (.Compare a [op] [b] pos) (AI (Gx r ta tb)) := by
 intro pins s σ H Q I h
 refine wpAny_isTrue_Compare1 (cg (ha pins s σ H _ I h) fun v s1 ⟨x, H1, I1, r1, q1⟩ => cg (hb pins s1 σ H1 _ I1 q1) fun u s2 ⟨y, H2, I2, r2, q2⟩ =>
  cg (ho pins s2 σ H2 x y v u _ I2 r1 r2 q2) fun c s3 ⟨z, H3, I3, r3, k, e, q3⟩ => ?_) hm
 subst e
 cases r3
 exact wpAny_truthy_bool ⟨H3, I3, q3⟩
def yG (K : PySem.W.Frag) (x : V) (H : Hp) (k : Bool) : Prop :=
 match x with
 | .aY => k = false
 | .bl b => k = b
 | .int i => k = (i != 0)
 | .str y => y.length <= sizeLine /\ k = ((y.length : Int) != 0)
 | .tY y => y.size <= sizeLine /\ k = ((y.size : Int) != 0)
 | .ref p => (∃ xs, fL K H p xs /\ k = !xs.isEmpty) \/ (∃ xs, uK K H p xs /\ k = !xs.isEmpty) \/ ∃ kvs, H p = some (.dK kvs) /\ k = !kvs.isEmpty
 | _ => False
theorem rG {κ : Type} {kvs : List (κ × V)} {vs : List (κ × Value)} (r : KV kvs vs) : (!vs.isEmpty) = !kvs.isEmpty := by
 cases r <;> rfl
theorem lW {xs : List V} {aJ : List Value} (r : Vals xs aJ) : (!aJ.toArray.isEmpty) = !xs.isEmpty := by
 cases r <;> simp
theorem kR : (sizeLine : Nat) < 2 ^ 63 := by rw [sizeLine_eq]; decide
theorem Bv : Hz X (fun x H Q => ∃ k, yG X.K x H k /\ Q k H) := by
 intro pins s σ H x v Q I rx h
 obtain ⟨k, e, q⟩ := h
 have hl := kR
 have hs : sizeLine = 16777216 := sizeLine_eq
 cases x with
 | aY =>
   cases rx
   have e' : k = false := e
   subst e'
   exact truthy_none ⟨H, I, q⟩
 | bl b =>
   cases rx
   have e' : k = b := e
   subst e'
   exact wpAny_truthy_bool ⟨H, I, q⟩
 | int i =>
   obtain ⟨t, rfl⟩ := rx
   have e' : k = (i != 0) := e
   subst e'
   exact PySem.P.truthy_int ⟨H, I, q⟩
 | str y =>
   obtain ⟨t, rfl⟩ := rx
   obtain ⟨hy, e'⟩ : y.length <= sizeLine /\ k = ((y.length : Int) != 0) := e
   subst e'
   exact PySem.P.truthy_str (by omega) ⟨H, I.tok _, q⟩
 | tY y =>
   obtain ⟨t, rfl⟩ := rx
   obtain ⟨hy, e'⟩ : y.size <= sizeLine /\ k = ((y.size : Int) != 0) := e
   subst e'
   exact PySem.W.truthy_bytes (by omega) ⟨H, I.tok _, q⟩
 | ref p =>
   cases rx
   have e' : (∃ xs, fL X.K H p xs /\ k = !xs.isEmpty) \/ (∃ xs, uK X.K H p xs /\ k = !xs.isEmpty) \/ ∃ kvs, H p = some (.dK kvs) /\ k = !kvs.isEmpty := e
   rcases e' with ⟨xs, hx, e'⟩ | ⟨xs, hx, e'⟩ | ⟨kvs, hx, e'⟩
   . subst e'
     obtain ⟨aJ, r, pl, hz⟩ := I.list hx
     have hlen := r.length
     exact wpAny_truthy_list pl.isList (by simp only [List.size_toArray]; omega) ⟨H, I.tok _, by rw [lW r]; exact q⟩
   . subst e'
     obtain ⟨aJ, r, pl, hz⟩ := I.tuple hx
     have hlen := r.length
     exact truthy_tuple pl (by simp only [List.size_toArray]; omega) ⟨H, I.tok _, by rw [lW r]; exact q⟩
   . subst e'
     obtain ⟨hz, hS, vs, r, m⟩ : kvs.length <= sizeLine /\ (p == sysModules) = false /\ ∃ vs, KV kvs vs /\ s.heap.DictOf (bM X.prog X.w) p vs := I.aK p _ hx
     have hlen : kvs.length = vs.length := Paired.length r
     exact wpAny_truthy_dict hS m (by omega) ⟨H, I.tok _, by rw [rG r]; exact q⟩
 | _ => exact (show False from e).elim
theorem xu (ha : PE X a ta) (he : ∀ whole, isTrue a X.env whole = (do let v <- whole; standAt a.pos; holding [v] (truthy v))) :
 PT X a (fun σ H Q => ta σ H fun x H' => ∃ k, yG X.K x H' k /\ Q k H') := by
 intro pins s σ H Q I h
 exact isTrue_plain (cg (ha pins s σ H _ I h) fun v s1 ⟨x, H1, I1, r1, q1⟩ => Bv pins s1 σ H1 x v Q I1 r1 q1) (he _)
theorem rZ : ki X (binaryOp .Add) (fun x y H Q => ∃ i j, x = .str i /\ y = .str j /\ i.length + j.length <= sizeLine /\ Q (.str (i ++ j)) H) := by
 intro pins s σ H x y v u Q I rx ry h
 obtain ⟨i, j, rfl, rfl, hz, q⟩ := h
 obtain ⟨t, rfl⟩ := rx
 obtain ⟨t', rfl⟩ := ry
 exact add_str (fun t' tk => ⟨.str (i ++ j), H, I.tok _, ⟨_, rfl⟩, q⟩) hz
theorem vals1 {x : V} {us : List Value} (r : Vals [x] us) : ∃ u, us = [u] /\ RelV x u := by
 cases r with
 | cons r1 r2 => cases r2; exact ⟨_, rfl, r1⟩
theorem vals2 {x y : V} {us : List Value} (r : Vals [x, y] us) : ∃ u w', us = [u, w'] /\ RelV x u /\ RelV y w' := by
 cases r with
 | cons r1 r2 =>
   cases r2 with
   | cons r3 r4 => cases r4; exact ⟨_, _, rfl, r1, r3⟩
theorem uU : iG X (.type "int") (fun xs H Q => (∃ i, xs = [.int i] /\ Q (.int i) H) \/ ∃ k, xs = [.bl k] /\ Q (.int (if k then 1 else 0)) H) := by
 intro pins s σ H xs us Q I r h
 rcases h with ⟨i, rfl, q⟩ | ⟨k, rfl, q⟩
 . obtain ⟨u, rfl, t, rfl⟩ := vals1 r
   exact call_int_int ⟨.int i, H, I, ⟨_, rfl⟩, q⟩
 . obtain ⟨u, rfl, r1⟩ := vals1 r
   cases r1
   exact call_int_bool ⟨.int (if k then 1 else 0), H, I.tok _, ⟨_, rfl⟩, q⟩
end
structure sS (h : Heap) (x dx C : Addr) (mA : Str -> Option Value) : Prop where
 obj : h.get? x = some (PySem.W.instObj C dx)
 ns : h.Ns1 dx mA
 ne : dx ≠ x
theorem og {h : Heap} {dx : Addr} {mA : Str -> Option Value} (n : h.Ns1 dx mA) : ∃ od, h.get? dx = some od /\ ∀ name, PySem.W.lookIn name od = some (mA name) := by
 obtain ⟨o, es, ep, ho, hd, hk, _, hm⟩ := n
 refine ⟨o, ho, fun name => ?_⟩
 have e := hm name
 unfold nsFind findBy at e
 rw [<- Array.find?_toList] at e
 unfold PySem.W.lookIn
 rw [hd]
 dsimp only
 split
 . rename_i y q
   rw [q] at e
   exact congrArg some e
 . rename_i q
   rw [q] at e
   have a : es.toList.any (·.refKey) = false := by
    rw [List.any_eq_false]
    intro y hy
    obtain ⟨z, t, IW⟩ := hk y (Array.mem_toList_iff.mp hy)
    simp [DictEntry.refKey, IW]
   have a' : ¬ es.toList.any (·.refKey) = true := by rw [a]; exact Bool.false_ne_true
   rw [if_neg a']
   exact congrArg some e
theorem sS.look {h : Heap} {x dx C : Addr} {mA : Str -> Option Value} (I : sS h x dx C mA) : ∃ od, PySem.W.InstAt h x (PySem.W.instObj C dx) C (some od) /\ ∀ name, PySem.W.lookIn name od = some (mA name) :=
 let ⟨od, ho, hl⟩ := og I.ns
 ⟨od, ⟨I.obj, rfl, rfl, ho⟩, hl⟩
section
variable {prog : Program} {w : World} {A : Around} {E : Value -> Shared -> Prop} {s : Shared} {K : PySem.W.Frag} {x dx C f : Addr} {mA : Str -> Option Value} {name : Str} {v : Value}
theorem get_map {expr : Bool} {Q : Value -> Shared -> Prop} (X : K.In s.heap) (I : sS s.heap x dx C mA) (hg : PySem.W.plainGet K C name = true) (hh : PySem.W.hasDictIn K C = true)
 (ha : PySem.W.findIn K (.ref C) name = some none) (hv : mA name = some v) (MD : PySem.W.handedIn v = true) (h : Q v { s with toks := s.toks + 1 }) :
 wpAny (model prog w) A (getAttr (.ref x) name expr) Q E s := by
 obtain ⟨od, J, hl⟩ := I.look
 exact PySem.W.get_value X J (PySem.W.plainGet_of hg).1 (PySem.W.findObj_own hh ha rfl (by rw [hl, hv])) MD h
theorem xr {pl : Sem Bool} {Q : Value × List Value -> Shared -> Prop} (X : K.In s.heap) (I : sS s.heap x dx C mA) (hg : PySem.W.plainGet K C name = true)
 (hf : PySem.W.findIn K (.ref C) name = some (some (.ref f))) (ht : PySem.W.isFn K (.ref f) = true) (hv : mA name = none) (h : Q (.ref f, [.ref x]) s) :
 wpAny (model prog w) A (getMethod (.ref x) name pl) Q E s := by
 obtain ⟨od, J, hl⟩ := I.look
 exact PySem.W.method_fn X J (PySem.W.plainGet_of hg).1 (PySem.W.plainGet_of hg).2 hf (beq_iff_eq.mp ht) (by show (PySem.W.lookIn name od).map (·.isSome) = some false; rw [hl, hv]; rfl) h
theorem zo {ns : List Str} {Q : Unit -> Shared -> Prop} (X : K.In s.heap) (I : sS s.heap x dx C mA)
 (hs : PySem.W.findIn K (.ref C) "__setattr__" = some (some (.builtin "object.__setattr__"))) (hp : PySem.W.plainOver K C = true) (ht : PySem.W.takerIn K C name = some none) (hh : PySem.W.hasDictIn K C = true)
 (hw : PySem.Within mA ns) (hsz : ns.length <= sizeLine)
 (h : ∀ h', sS h' x dx C (fun y => if y = name then some v else mA y) -> Heap.SameBut dx s.heap h' -> Q () { s with heap := h', toks := s.toks + 2 }) :
 wpAny (model prog w) A (setAttr (.ref x) name v) Q E s := by
 obtain ⟨od, J, hl⟩ := I.look
 refine PySem.W.set_plain X J hs (PySem.W.osa_open (s := { s with toks := s.toks + 1 }) (r := none) X J hp ht fun b => ?_)
 obtain ⟨cd, hc, jt⟩ := PySem.W.any_some hh
 have hx : s.heap.get? x = some ⟨.ref C, some dx, .plain, #[]⟩ := I.obj
 refine wpAny_bind (wpAny_pure (wpAny_bind (wpAny_bind (wpAny_loadPart hx (wpAny_bind (PySem.W.Looks.here (s := { s with toks := s.toks + 1 }) (PySem.W.looks_clsIn X hc) ?_))))))
 rw [jt]
 refine wpAny_pure (a := some dx) (wpAny_bind (wpAny_pure (wpAny_bind ?_)))
 refine wpAny_nsSet1 (s := { s with toks := s.toks + 1 }) I.ns fun h' CW Bb => ?_
 obtain ⟨oD, L8, Ln, IH, Jp, xA⟩ := CW.count (PySem.Within.cons name v hw)
 refine wpAny_bind (wpAny_lookBehind IH (by rw [Jp]; exact pastItsLine_dict (Nat.le_trans xA (by rw [List.length_cons]; omega))) ?_)
 exact wpAny_pure (h _ ⟨(Bb.2 _ (Ne.symm I.ne)).trans I.obj, CW, I.ne⟩ Bb)
theorem x2 {R : Result -> Shared -> Prop} {vs : List Value} {kw : List (Str × Value)} (X : K.In s.heap) (hm : PySem.W.makesIn K C = true)
 (hi : PySem.W.findIn K (.ref C) "__init__" = some (some (.ref f))) (hf : PySem.W.typeIn K (.ref f) = some (.type "function"))
 (h : codeAny (model prog w) (A.under (.builtin "type.__call__" ⟨.ref C :: vs, kw⟩)) (.call (.ref f) ⟨.ref (s.heap.objs.size + 1) :: vs, kw⟩) (PySem.W.InitBack (s.heap.objs.size + 1) R)
  { s with heap := (s.heap.push PySem.W.emptyDict).push (PySem.W.instObj C s.heap.objs.size) }) :
 codeAny (model prog w) A (.call (.ref C) ⟨vs, kw⟩) R s := by
 obtain ⟨hh, g, d, t, os⟩ := s
 exact PySem.W.make_core (PySem.W.makes_of X hm) (PySem.W.looks_findIn X hi) (fun self => PySem.W.bind_fn X self hf) (.inl rfl) h
end
def gp (f : Str) (v : V) : List (Str × V) -> List (Str × V)
 | [] => [(f, v)]
 | (g, x) :: r => if g = f then (g, v) :: r else (g, x) :: gp f v r
theorem k6 (f g : Str) (v : V) : ∀ fs : List (Str × V), (gp f v fs).lookup g = if g = f then some v else fs.lookup g
 | [] => by
   show List.lookup g [(f, v)] = _
   by_cases h : g = f
   . have hb : (g == f) = true := beq_iff_eq.mpr h
     simp only [List.lookup, hb, if_pos h]
   . have hb : (g == f) = false := beq_eq_false_iff_ne.mpr h
     simp only [List.lookup, hb, if_neg h]
 | (k, x) :: r => by
   have ih := k6 f g v r
   rw [show gp f v ((k, x) :: r) = (if k = f then (k, v) :: r else (k, x) :: gp f v r) from rfl]
   by_cases hk : k = f
   . rw [if_pos hk]
     by_cases h : g = k
     . have hb : (g == k) = true := beq_iff_eq.mpr h
       simp only [List.lookup, hb, if_pos (h.trans hk)]
     . have hb : (g == k) = false := beq_eq_false_iff_ne.mpr h
       simp only [List.lookup, hb, if_neg (fun e : g = f => h (e.trans hk.symm))]
   . rw [if_neg hk]
     by_cases h : g = k
     . have hb : (g == k) = true := beq_iff_eq.mpr h
       simp only [List.lookup, hb, if_neg (fun e : g = f => hk (h.symm.trans e))]
     . have hb : (g == k) = false := beq_eq_false_iff_ne.mpr h
       simp only [List.lookup, hb]
       exact ih
theorem kq (f : Str) (v : V) : ∀ fs : List (Str × V), f ∈ (gp f v fs).map (·.1) /\ ∀ g, g ∈ fs.map (·.1) -> g ∈ (gp f v fs).map (·.1)
 | [] => ⟨by simp [gp], fun g h => by simp at h⟩
 | (k, x) :: r => by
   obtain ⟨i1, i2⟩ := kq f v r
   rw [show gp f v ((k, x) :: r) = (if k = f then (k, v) :: r else (k, x) :: gp f v r) from rfl]
   by_cases hk : k = f
   . rw [if_pos hk]
     subst hk
     exact ⟨by simp, fun g h => by simpa using h⟩
   . rw [if_neg hk]
     refine ⟨?_, fun g h => ?_⟩
     . rw [List.map_cons]
       exact List.mem_cons_of_mem _ i1
     . rw [List.map_cons] at h ⊢
       rcases List.mem_cons.mp h with e | e
       . exact List.mem_cons.mpr (.inl e)
       . exact List.mem_cons_of_mem _ (i2 g e)
theorem lh (f : Str) (v : V) : ∀ fs : List (Str × V), (gp f v fs).length <= fs.length + 1
 | [] => by simp [gp]
 | (k, x) :: r => by
   have ih := lh f v r
   rw [show gp f v ((k, x) :: r) = (if k = f then (k, v) :: r else (k, x) :: gp f v r) from rfl]
   by_cases hk : k = f
   . rw [if_pos hk, List.length_cons, List.length_cons]; omega
   . rw [if_neg hk, List.length_cons, List.length_cons]; omega
theorem iL.some_of {v : V} {o : Option Value} (r : iL (some v) o) : ∃ u, o = some u /\ RelV v u := by
 cases o with
 | none => exact (show False from r).elim
 | some u => exact ⟨u, rfl, r⟩
theorem iL.none_of {o : Option Value} (r : iL none o) : o = none := by
 cases o with
 | none => rfl
 | some u => exact (show False from r).elim
theorem oW {v : V} {u : Value} (r : RelV v u) : PySem.W.handedIn u = true := by
 cases v with
 | aY => cases (show u = Value.none from r); rfl
 | bl b => cases (show u = Value.bool b from r); rfl
 | int i => obtain ⟨t, e⟩ := (show ∃ t, u = Value.int i t from r); cases e; rfl
 | str x => obtain ⟨t, e⟩ := (show ∃ t, u = Value.str x t from r); cases e; rfl
 | tY b => obtain ⟨t, e⟩ := (show ∃ t, u = Value.bytes b t from r); cases e; rfl
 | D3 b => obtain ⟨t, e⟩ := (show ∃ t, u = Value.float b t from r); cases e; rfl
 | ref a => cases (show u = Value.ref a from r); rfl
 | ty n => cases (show u = Value.type n from r); rfl
section
variable {P : Program} {w : World} {H H' : Hp} {h h' : Heap} {a C dx : Addr} {fs GB : List (Str × V)}
theorem ph (aK : iU P w H h) (e : H a = some (.ins C dx fs)) : ∃ mA, sS h a dx C mA /\ (∀ f, iL (fs.lookup f) (mA f)) /\ PySem.Within mA (fs.map (·.1)) /\ fs.length <= 1000 /\ H dx = some (.own a) := by
 obtain ⟨d, z, ne, ob, mA, n, r, q⟩ := (show bo P w H h a (.ins C dx fs) from aK a _ e)
 exact ⟨mA, ⟨ob, n, ne⟩, r, q, z, d⟩
end
structure nF (K : PySem.W.Frag) (C : Addr) : Prop where
 pg : PySem.W.plainGet K C Str.empty = true
 hd : PySem.W.hasDictIn K C = true
 po : PySem.W.plainOver K C = true
 sa : PySem.W.findIn K (.ref C) "__setattr__" = some (some (.builtin "object.__setattr__"))
theorem nF.get {K : PySem.W.Frag} {C : Addr} (c : nF K C) (f : Str) : PySem.W.plainGet K C f = true := c.pg
def dW (K : PySem.W.Frag) (C : Addr) (f : Str) : Prop := PySem.W.findIn K (.ref C) f = some none
theorem dW.Fm {K : PySem.W.Frag} {C : Addr} {f : Str} (n : dW K C f) : PySem.W.takerIn K C f = some none := by
 unfold PySem.W.takerIn
 rw [show PySem.W.findIn K (.ref C) f = some none from n]
 rfl
structure N0 (K : PySem.W.Frag) (C : Addr) (f : Str) (v : V) (u : Value) : Prop where
 at_ : PySem.W.findIn K (.ref C) f = some (some u)
 rel : RelV v u
 get : PySem.W.specialIn K u "__get__" = some none
 cp : PySem.W.copiedNames.contains f = false
structure Meth (K : PySem.W.Frag) (C : Addr) (m : Str) (f : Addr) : Prop where
 at_ : PySem.W.findIn K (.ref C) m = some (some (.ref f))
 fn : PySem.W.isFn K (.ref f) = true
 kp : PySem.W.keepIn K (.ref f) = true
section
variable {X : Cx} {pins : List (Addr × Obj)} {σ : St} {H : Hp} {s : Shared} {a C dx : Addr} {fs : List (Str × V)} {f : Str} {v : V} {A : Around} {E : Value -> Shared -> Prop}
theorem sr {b : Bool} {Q : Value -> Shared -> Prop} (I : Inv X pins σ H s) (e : H a = some (.ins C dx fs)) (c : nF X.K C) (n : dW X.K C f) (l : fs.lookup f = some v)
 (h : ∀ u s', Inv X pins σ H s' -> RelV v u -> Q u s') : wpAny (model X.prog X.w) A (getAttr (.ref a) f b) Q E s := by
 obtain ⟨mA, O, r, _, _, _⟩ := ph I.aK e
 obtain ⟨u, hu, ru⟩ := iL.some_of (v := v) (o := mA f) (by rw [<- l]; exact r f)
 exact get_map I.iY O (c.get f) c.hd n hu (oW ru) (h u _ (I.tok _) ru)
theorem jr {m : Str} {g : Addr} {pl : Sem Bool} {Q : Value × List Value -> Shared -> Prop} (I : Inv X pins σ H s) (e : H a = some (.ins C dx fs)) (c : nF X.K C) (k : Meth X.K C m g) (l : fs.lookup m = none)
 (h : Q (.ref g, [.ref a]) s) : wpAny (model X.prog X.w) A (getMethod (.ref a) m pl) Q E s := by
 obtain ⟨mA, O, r, _, _, _⟩ := ph I.aK e
 have hn : mA m = none := iL.none_of (by rw [<- l]; exact r m)
 exact xr I.iY O (c.get m) k.at_ k.fn hn h
theorem rW {y : V} {u : Value} {Q : Unit -> Shared -> Prop} (I : Inv X pins σ H s) (e : H a = some (.ins C dx fs)) (c : nF X.K C) (n : dW X.K C f) (hl : fs.length < 1000) (ry : RelV y u)
 (h : ∀ s', Inv X pins σ (upd H a (.ins C dx (gp f y fs))) s' -> Q () s') : wpAny (model X.prog X.w) A (setAttr (.ref a) f u) Q E s := by
 obtain ⟨mA, O, r, wi, _, ho⟩ := ph I.aK e
 have hz : (fs.map (·.1)).length <= sizeLine := by rw [List.length_map, sizeLine_eq]; omega
 refine zo I.iY O c.sa c.po n.Fm c.hd wi hz fun h' O' sb => h _ ?_
 have hd : ∃ o, h'.get? dx = some o := let ⟨o, _, _, e', _⟩ := O'.ns; ⟨o, e'⟩
 refine I.write (x := a) (e := dx) (by rw [e]; exact True.intro) (.inr ho) (fun b q hb z => (sb.2 b hb).trans z) hd ?_
 refine ⟨by rw [ak O.ne]; exact ho, ?_, O.ne, O'.obj, _, O'.ns, fun g => ?_, fun g hg => ?_⟩
 . have := lh f y fs; omega
 . show iL ((gp f y fs).lookup g) (if g = f then some u else mA g)
   rw [k6]
   by_cases q : g = f
   . rw [if_pos q, if_pos q]; exact ry
   . rw [if_neg q, if_neg q]; exact r g
 . by_cases q : g = f
   . rw [q]; exact (kq f y fs).1
   . refine (kq f y fs).2 g (wi g fun z => hg ?_)
     show (if g = f then some u else mA g) = none
     rw [if_neg q]; exact z
theorem Inv.made (I : Inv X pins σ H s) : Inv X pins σ (upd (upd H s.heap.objs.size (.own (s.heap.objs.size + 1))) (s.heap.objs.size + 1) (.ins C s.heap.objs.size []))
 { s with heap := (s.heap.push PySem.W.emptyDict).push (PySem.W.instObj C s.heap.objs.size) } := by
 have e1 : (s.heap.push PySem.W.emptyDict).get? s.heap.objs.size = some PySem.W.emptyDict := Heap.get?_push_size s.heap rfl
 have e2 : ((s.heap.push PySem.W.emptyDict).push (PySem.W.instObj C s.heap.objs.size)).get? (s.heap.objs.size + 1) = some (PySem.W.instObj C s.heap.objs.size) := by
  have := Heap.get?_push_size (s.heap.push PySem.W.emptyDict) (o := PySem.W.instObj C s.heap.objs.size) rfl
  rwa [Heap.size_push] at this
 have e3 : (s.heap.push PySem.W.emptyDict).Ns s.heap.objs.size (fun _ => none) := ⟨PySem.W.emptyDict, #[], _, e1, rfl, (fun e he => absurd he (by simp)), fun _ => rfl⟩
 have I1 := I.laid (a := s.heap.objs.size) (o := .own (s.heap.objs.size + 1)) (h' := s.heap.push PySem.W.emptyDict) (t' := s.toks) (fun b u q => Heap.get?_push_of_some _ q) (Nat.le_refl _) ⟨_, e1⟩
 refine I1.laid (a := s.heap.objs.size + 1) (o := .ins C s.heap.objs.size []) (t' := s.toks) (fun b u q => Heap.get?_push_of_some _ q) (Nat.le_of_eq (Heap.size_push _ _)) ?_
 have ne : s.heap.objs.size ≠ s.heap.objs.size + 1 := Nat.ne_of_lt (Nat.lt_succ_self _)
 refine ⟨by rw [ak ne, av], Nat.zero_le _, ne, e2, fun _ => none, (Heap.Ns1.of_empty e3).at fun o q => Heap.get?_push_of_some _ q, fun _ => True.intro, fun y hy => absurd rfl hy⟩
theorem tI {prog : Program} {w : World} {env : Env} {e : Expr} {f : Str} {pos : Pos} {s : Shared} {Q : Value -> Shared -> Prop} (hb : attributeBase e f env (eval e env) = eval e env)
 (h : wpAny (model prog w) A (eval e env) (fun o s₁ => wpAny (model prog w) A (getAttr o f true) Q E s₁) E s) : wpAny (model prog w) A (eval (.Attribute e f pos) env) Q E s :=
 Attribute_any_ h (by rw [arm_eval_Attribute, hb])
end
def EW (K : PySem.W.Frag) (ta : TE) (f : Str) : TE := fun σ H Q => ta σ H fun x H1 => ∃ a C dx fs v, x = .ref a /\ H1 a = some (.ins C dx fs) /\ nF K C /\ dW K C f /\ fs.lookup f = some v /\ Q v H1
def EG (K : PySem.W.Frag) (ta tv : TE) (f : Str) : TS := fun D σ H => tv σ H fun y H1 => ta σ H1 fun x H2 => ∃ a C dx fs, x = .ref a /\ H2 a = some (.ins C dx fs) /\ nF K C /\ dW K C f /\ fs.length < 1000 /\
 D.nx σ (upd H2 a (.ins C dx (gp f y fs)))
section
variable {X : Cx} {o e value : Expr} {f : Str} {pos pos' Iu : Pos} {ta tv : TE}
theorem jD (he : PE X e ta) (hb : attributeBase e f X.env (eval e X.env) = eval e X.env) : PE X (.Attribute e f pos) (EW X.K ta f) := by
 intro pins s σ H Q I h
 refine tI hb (cg (he pins s σ H _ I h) fun u s1 ⟨x, H1, I1, rx, a, C, dx, fs, v, ex, ea, c, n, l, q⟩ => ?_)
 subst ex
 obtain rfl : u = Value.ref a := rx
 exact sr I1 ea c n l fun u' s2 I2 ru => ⟨v, H1, I2, ru, q⟩
theorem xM (ha : PE X o ta) (hv : PE X value tv) (hs : swapsWith value (some (.Attribute o f pos')) pos.line X.env = pure false) : PS X (.Assign [.Attribute o f pos'] value pos) (EG X.K ta tv f) := by
 intro pins s σ H D I h
 refine plainObj_wpAny_Assign_Attribute (cg (hv pins s σ H _ I h) fun u s1 ⟨y, H1, I1, ry, q⟩ => cg (ha pins s1 σ H1 _ I1 q) fun ov s2 ⟨x, H2, I2, rx, a, C, dx, fs, ex, ea, c, n, l, q2⟩ => ?_) hs
 subst ex
 obtain rfl : ov = Value.ref a := rx
 exact rW I2 ea c n l ry fun s3 I3 => ⟨σ, _, I3, q2⟩
end
section
variable {X : Cx} {pins : List (Addr × Obj)} {σ : St} {H : Hp} {s : Shared} {A : Around} {E : Value -> Shared -> Prop} {Q : Value -> Shared -> Prop} {c : Value} {b : Bool}
inductive lZ (K : PySem.W.Frag) (H : Hp) : V -> Value -> Prop where
 | aY : lZ K H .aY (.type "NoneType")
 | bl (x : Bool) : lZ K H (.bl x) (.type "bool")
 | int (i : Int) : lZ K H (.int i) (.type "int")
 | str (x : Str) : lZ K H (.str x) (.type "str")
 | D3 (x : UInt64) : lZ K H (.D3 x) (.type "float")
 | lst {a : Addr} {xs : List V} (e : H a = some (.lst xs)) : lZ K H (.ref a) (.type "list")
 | rX {a : Addr} {o : Obj} {xs : List V} (e : H a = some (.rX o (.lst xs))) : lZ K H (.ref a) (.type "list")
 | tup {a : Addr} {xs : List V} (e : H a = some (.tup xs)) : lZ K H (.ref a) (.type "tuple")
 | dK {a : Addr} {kvs : List (Key × V)} (e : H a = some (.dK kvs)) : lZ K H (.ref a) (.type "dict")
 | dT {a : Addr} {kvs : List (List Key × V)} (e : H a = some (.dT kvs)) : lZ K H (.ref a) (.type "dict")
 | ins {a C dx : Addr} {fs : List (Str × V)} (e : H a = some (.ins C dx fs)) (cl : nF K C) (ha : PySem.W.findIn K (.ref C) "__class__" = some (some (.builtin "object.__class__")))
  (hn : PySem.W.specialIn K (.builtin "object.__class__") "__get__" = some (some (.builtin "getset_descriptor.__get__"))) (Hk : PySem.W.takesIn K (.builtin "object.__class__") = some true)
  (hm : PySem.W.mroIn K C (.type "object") = some true) : lZ K H (.ref a) (.ref C)
end
structure a8 (k : Nat) (A : Around) : Prop where
 hd : A.handled = none
 dp : A.depth + 3 * k + 5 < recursionLimit
 un : A.units + 16 * k + 200 < cLine
theorem a8.mono {j k : Nat} {A : Around} (r : a8 k A) (h : j <= k) : a8 j A := ⟨r.hd, by have := r.dp; omega, by have := r.un; omega⟩
theorem a8.deeper {k : Nat} {A : Around} (r : a8 (k + 1) A) (env : Env) : a8 k (A.deeper env) :=
 ⟨r.hd, by have := r.dp; show A.depth + 1 + 3 * k + 5 < _; omega, by have := r.un; show A.units + 3 + 16 * k + 200 < _; omega⟩
theorem a8.in1 {k : Nat} {A : Around} (r : a8 (k + 1) A) : a8 k A.in1 :=
 ⟨r.hd, by have := r.dp; show A.depth + 3 * k + 5 < _; omega, by have := r.un; show A.units + 1 + 16 * k + 200 < _; omega⟩
theorem sU {A : Around} {C : Addr} {us : List Value} {kw : List (Str × Value)} : (A.under (.builtin "type.__call__" ⟨.ref C :: us, kw⟩)).depth = A.depth + 1 := by
 first | rfl | simp [Around.under, Code.weight, Code.isCreation, Code.isGuard, Code.isCaller, Code.frames, Code.isFrame, guardIds]
theorem sv {A : Around} {C : Addr} {us : List Value} {kw : List (Str × Value)} : (A.under (.builtin "type.__call__" ⟨.ref C :: us, kw⟩)).units = A.units + 1 := by
 first | rfl | simp [Around.under, Code.cUnits, Code.frames, Code.isFrame]
theorem a8.make {k : Nat} {A : Around} (r : a8 (k + 1) A) (C : Addr) (us : List Value) (kw : List (Str × Value)) : a8 k (A.under (.builtin "type.__call__" ⟨.ref C :: us, kw⟩)) :=
 ⟨r.hd, by have := r.dp; rw [sU]; omega, by have := r.un; rw [sv]; omega⟩
theorem a8.depth {k : Nat} {A : Around} (r : a8 k A) : A.depth < recursionLimit := by have := r.dp; omega
theorem a8.units {k : Nat} {A : Around} (r : a8 k A) : A.units + 64 < cLine := by have := r.un; omega
def sM : TA := fun _ H Q => Q [] H
def AY (ta : TE) (tr : TA) : TA := fun σ H Q => ta σ H fun x H1 => tr σ H1 fun xs H2 => Q (x :: xs) H2
section
variable {X : Cx} {e : Expr} {es : List Expr} {te : TE} {t : TA} {pos : Pos}
theorem aj : PA X [] sM := fun _ _ _ _ H Q I h => Calls.spliced_nil ⟨[], H, I, .nil, h⟩
theorem af (ha : PE X e te) (hr : PA X es t) (hs : starEach (e :: es) X.env = (false, eval e X.env) :: starEach es X.env := by rfl) : PA X (e :: es) (AY te t) := by
 intro pos pins s σ H Q I h
 rw [hs]
 show wpAny _ _ (spliced ((false, eval e X.env) :: backTo pos (starEach es X.env))) _ _ s
 refine Calls.spliced_cons (cg (ha pins s σ H _ I h) fun u s1 ⟨x, H1, I1, r1, q1⟩ => ?_)
 exact cg (hr pos pins s1 σ H1 _ I1 q1) fun us s2 ⟨xs, H2, I2, r2, q2⟩ => ⟨x :: xs, H2, I2, .cons r1 r2, q2⟩
def IY (t : TA) : TE := fun σ H Q => t σ H fun xs H1 => xs.length <= sizeLine /\ ∀ p, H1 p = none -> Q (.ref p) (upd H1 p (.tup xs))
def Hx (t : TA) : TE := fun σ H Q => t σ H fun xs H1 => xs.length <= sizeLine /\ ∀ p, H1 p = none -> Q (.ref p) (upd H1 p (.lst xs))
theorem Cj {x1} (h : PA X es t) : PE X (.Tuple es x1 pos) (IY t) := by
 intro pins s σ H Q I hq
 refine wpAny_Tuple_spliced (cg (h pos pins s σ H _ I hq) fun us s1 ⟨xs, H1, I1, r, z, q⟩ => ⟨by rw [<- r.length]; exact z, ?_⟩)
 have hf : H1 s1.heap.objs.size = none := I1.aK.fresh (Nat.le_refl _)
 refine ⟨.ref s1.heap.objs.size, upd H1 s1.heap.objs.size (.tup xs), I1.laid (t' := s1.toks) (fun b u e => Heap.get?_push_of_some _ e) (Nat.le_refl _) ?_, rfl, q _ hf⟩
 exact ⟨z, us, r, ⟨_, Heap.get?_push_size _ rfl, rfl, _, rfl⟩⟩
theorem Br (h : PA X es t) : PE X (.List es pos) (Hx t) := by
 intro pins s σ H Q I hq
 refine wpAny_List_spliced (cg (h pos pins s σ H _ I hq) fun us s1 ⟨xs, H1, I1, r, z, q⟩ => ⟨by rw [<- r.length]; exact z, ?_⟩)
 have hf : H1 s1.heap.objs.size = none := I1.aK.fresh (Nat.le_refl _)
 refine ⟨.ref s1.heap.objs.size, upd H1 s1.heap.objs.size (.lst xs), I1.laid (t' := s1.toks) (fun b u e => Heap.get?_push_of_some _ e) (Nat.le_refl _) ?_, rfl, q _ hf⟩
 exact ⟨z, us, 0, r, Heap.get?_push_size _ rfl⟩
end
abbrev Sp := List V -> Hp -> VK -> XK -> Prop
abbrev p0 := List Env -> Hp -> Shared -> XK -> Value -> Shared -> Prop
structure nZ (P : Program) (w : World) (K : PySem.W.Frag) (mg : Str -> Option Value) (base : Heap) (A : Around) (outer : List Env) (s : Shared) (H : Hp) : Prop where
 frames : A.frames = some outer
 mod : Mod K mg base
 bs : ∀ b o, base.get? b = some o -> s.heap.get? b = some o /\ H b = none
 rC : base.objs.size <= s.heap.objs.size
 ie : s.heap.FunFrames base outer
 uF : ∀ b ∈ mJ outer, H b = none
 aK : iU P w H s.heap
 bare : AllBare s.gens
def CE (outer : List Env) (P : Program) (w : World) (H : Hp) (s : Shared) (Q : VK) (u : Value) (s' : Shared) : Prop :=
 ∃ v H', s'.os = s.os /\ AllBare s'.gens /\ Un (mJ outer) [] H H' s.heap s'.heap /\ iU P w H' s'.heap /\ RelV v u /\ Q v H'
def CR (CX : p0) (outer : List Env) (P : Program) (w : World) (H : Hp) (s : Shared) (Q : VK) (E : XK) (r : Result) (s' : Shared) : Prop :=
 match r with
 | .ok (.ret u) => CE outer P w H s Q u s'
 | .ok _ => False
 | .error e => CX outer H s E e s'
structure bw (P : Program) (w : World) (K : PySem.W.Frag) (mg : Str -> Option Value) (base : Heap) (CX : p0) (k : Nat) (f : Addr) (fd : FuncData) (ps : List Str) (sp : Sp) : Prop where
 len : ∀ vs H Q E, sp vs H Q E -> vs.length = ps.length
 run : ∀ (A : Around) (outer : List Env) (s : Shared) (H : Hp) (args : Args) (us : List Value) (vs : List V) (Q : VK) (E : XK), a8 k A -> nZ P w K mg base A outer s H -> BindsTo s fd args (ps.zip us) -> Vals vs us -> sp vs H Q E ->
  codeAny (model P w) A (.call (.ref f) args) (CR CX outer P w H s Q E) s
theorem bw.mono {P : Program} {w : World} {K : PySem.W.Frag} {mg : Str -> Option Value} {base : Heap} {CX : p0} {j k : Nat} {f : Addr} {fd : FuncData} {ps : List Str} {sp : Sp} (F : bw P w K mg base CX j f fd ps sp) (h : j <= k) :
 bw P w K mg base CX k f fd ps sp := ⟨F.len, fun A outer s H args us vs Q E hr => F.run A outer s H args us vs Q E (hr.mono h)⟩
theorem nZ.make {P : Program} {w : World} {K : PySem.W.Frag} {mg : Str -> Option Value} {base : Heap} {A : Around} {outer : List Env} {s : Shared} {H : Hp} (e : nZ P w K mg base A outer s H) (C : Addr) (us : List Value) (kw : List (Str × Value)) :
 nZ P w K mg base (A.under (.builtin "type.__call__" ⟨.ref C :: us, kw⟩)) outer s H := ⟨by first | exact e.frames | (simpa [Around.under, Code.envs, Code.isFrame, pushEnvs] using e.frames), e.mod, e.bs, e.rC, e.ie, e.uF, e.aK, e.bare⟩
theorem nZ.in1 {P : Program} {w : World} {K : PySem.W.Frag} {mg : Str -> Option Value} {base : Heap} {A : Around} {outer : List Env} {s : Shared} {H : Hp} (e : nZ P w K mg base A outer s H) :
 nZ P w K mg base A.in1 outer s H := ⟨e.frames, e.mod, e.bs, e.rC, e.ie, e.uF, e.aK, e.bare⟩
section
variable {X : Cx} {pins : List (Addr × Obj)} {σ : St} {H : Hp} {s s' : Shared}
theorem Inv.ve (I : Inv X pins σ H s) : nZ X.prog X.w X.K X.mg X.base X.A X.stack s H :=
 ⟨I.ok.frames, I.ok.mod, I.bs, Nat.le_trans I.ok.rC I.sz, I.stack, I.lO, I.aK, I.bare⟩
theorem Inv.after {Q : VK} {u : Value} (I : Inv X pins σ H s) (h : CE X.stack X.prog X.w H s Q u s') : EP X pins σ Q u s' := by
 obtain ⟨v, H', os, bare, un, aK, r, q⟩ := h
 obtain ⟨hh, g, d, t, ER⟩ := s'
 obtain rfl : ER = s.os := os
 exact ⟨v, H', I.call (h' := hh) (g' := g) (d' := d) (t' := t) (ch := []) un aK bare (fun b z => absurd z (by simp)), r, q⟩
end
def tW (sp : Sp) (bH : List V) (E : XK) (t : TA) : TE := fun σ H Q => t σ H fun vs H1 => sp (vs ++ bH) H1 Q E
def oJ (C : Addr) (m : Str) (sp : Sp) (bH : List V) (E : XK) (ta : TE) (t : TA) : TE := fun σ H Q => ta σ H fun x H1 => ∃ a dx fs, x = .ref a /\ H1 a = some (.ins C dx fs) /\ fs.lookup m = none /\
 t σ H1 fun vs H2 => sp (x :: (vs ++ bH)) H2 Q E
def wG (C : Addr) (sp : Sp) (bH : List V) (E : XK) (t : TA) : TE := fun σ H Q => t σ H fun vs H1 => ∀ x dx, H1 x = none -> H1 dx = none -> dx ≠ x ->
 sp (.ref x :: (vs ++ bH)) (upd (upd H1 dx (.own x)) x (.ins C dx [])) (fun v H2 => v = .aY /\ Q (.ref x) H2) E
def Binds (K : PySem.W.Frag) (fd : FuncData) (ps : List Str) (ds : List Value) : Prop :=
 ∀ (s : Shared) (us : List Value), K.In s.heap -> (us ++ ds).length = ps.length -> BindsTo s fd ⟨us, []⟩ (ps.zip (us ++ ds))
theorem Binds.all {K : PySem.W.Frag} {fd : FuncData} {ps : List Str} (h : ∀ us : List Value, us.length = ps.length -> bindArgs fd ⟨us, []⟩ = pure (ps.zip us)) : Binds K fd ps [] := fun s us _ hl => by
 rw [List.append_nil] at hl ⊢
 exact .of_eq (h us hl)
def Passes (CX : p0) (X : Cx) (E : XK) : Prop := ∀ (pins : List (Addr × Obj)) (σ : St) (H : Hp) (s : Shared) (e : Value) (s' : Shared), Inv X pins σ H s -> CX X.stack H s E e s' -> X.xe e s'
section
variable {X : Cx} {CX : p0} {k : Nat} {f C : Addr} {fd : FuncData} {ps : List Str} {sp : Sp} {bH : List V} {ds : List Value} {E : XK} {x m : Str} {p pos apos : Pos} {e o : Expr} {es : List Expr} {ta : TE} {t : TA}
theorem rH {pins : List (Addr × Obj)} {σ : St} {H : Hp} {s : Shared} {Q : VK} {us : List Value} {vs : List V} (F : bw X.prog X.w X.K X.mg X.base CX k f fd ps sp) (hr : a8 k X.A) (hb : Binds X.K fd ps ds) (hd : Vals bH ds) (hx : Passes CX X E)
 (I : Inv X pins σ H s) (r : Vals vs us) (h : sp (vs ++ bH) H Q E) : wpAny (model X.prog X.w) X.A (call (.ref f) us) (EP X pins σ Q) X.xe s := by
 have r2 : Vals (vs ++ bH) (us ++ ds) := r.append hd
 have hl : (us ++ ds).length = ps.length := by rw [<- r2.length]; exact F.len _ _ _ _ h
 refine wpAny_call (codeAny_mono (F.run X.A X.stack s H ⟨us, []⟩ (us ++ ds) (vs ++ bH) Q E hr I.ve (hb s us I.iY hl) r2 h) fun r s' hq => ?_)
 cases r with
 | error e => exact hx pins σ H s e s' I hq
 | ok fl =>
   cases fl with
   | ret u => exact I.after hq
   | next => exact False.elim hq
   | brk => exact False.elim hq
   | cont => exact False.elim hq
theorem yU (F : bw X.prog X.w X.K X.mg X.base CX k f fd ps sp) (hr : a8 k X.A) (hg : Gl X x) (hm : X.mg x = some (.ref f)) (hk : PySem.W.keepIn X.K (.ref f) = true) (hb : Binds X.K fd ps ds) (hd : Vals bH ds) (hx : Passes CX X E)
 (ha : PA X (e :: es) t) (nX : (x == ("__debug__" : Str)) = false := by decide) (he : starEach (e :: es) X.env = (false, eval e X.env) :: starEach es X.env := by rfl) (kr : (backTo pos (starEach es X.env)).any (·.1) = false := by rfl) :
 PE X (.Call (.Name x p) (e :: es) [] pos) (tW sp bH E t) := by
 intro pins s σ H Q I h
 refine wpAny_Call_Name_kw (gM I hg hm ?_ nX)
 refine PySem.W.callWith_K (h₀ := X.base) I.ok.mod.DS hk (cg (ha pos pins s σ H _ I h) fun us s1 ⟨vs, H1, I1, r, q⟩ => ⟨I1.iY, ?_⟩) he kr
 exact rH F hr hb hd hx I1 r q
theorem zr {pl : Sem Bool} (he : PE X o ta) (c : nF X.K C) (hm : Meth X.K C m f) (F : bw X.prog X.w X.K X.mg X.base CX k f fd ps sp) (hr : a8 k X.A) (hb : Binds X.K fd ps ds) (hd : Vals bH ds) (hx : Passes CX X E) (ha : PA X (e :: es) t)
 (kW : starEach (e :: es) X.env = (false, eval e X.env) :: starEach es X.env := by rfl) (kr : (backTo pos (starEach es X.env)).any (·.1) = false := by rfl)
 (ht : eval (.Call (.Attribute o m apos) (e :: es) [] pos) X.env = (do
  let ov <- eval o X.env
  standAt apos.atName
  let (f, first) <- holding [ov] (getMethod ov m pl)
  callWith pos f first (backTo pos (starEach (e :: es) X.env)) (backToKw pos (keywordEach [] X.env))) := by rfl) :
 PE X (.Call (.Attribute o m apos) (e :: es) [] pos) (oJ C m sp bH E ta t) := by
 intro pins s σ H Q I h
 refine PySem.W.methodCall_KW (pl := pl) (cg (he pins s σ H _ I h) fun u s1 ⟨x, H1, I1, rx, a, dx, fs, ex, ea, l, q⟩ => ?_) ht
 subst ex
 obtain rfl : u = Value.ref a := rx
 refine jr I1 ea c hm l ?_
 refine PySem.W.callWith_K (first := [.ref a]) (h₀ := X.base) I.ok.mod.DS hm.kp (cg (ha pos pins s1 σ H1 _ I1 q) fun us s2 ⟨vs, H2, I2, r, q2⟩ => ⟨I2.iY, ?_⟩) kW kr
 exact rH (us := .ref a :: us) (vs := .ref a :: vs) F hr hb hd hx I2 (.cons rfl r) q2
theorem xm {pl : Sem Bool} (he : PE X o ta) (c : nF X.K C) (hm : Meth X.K C m f) (F : bw X.prog X.w X.K X.mg X.base CX k f fd ps sp) (hr : a8 k X.A) (hb : Binds X.K fd ps ds) (hd : Vals bH ds) (hx : Passes CX X E)
 (ht : eval (.Call (.Attribute o m apos) [] [] pos) X.env = (do
  let ov <- eval o X.env
  standAt apos.atName
  let (f, first) <- holding [ov] (getMethod ov m pl)
  callWith pos f first (backTo pos (starEach [] X.env)) (backToKw pos (keywordEach [] X.env))) := by rfl) :
 PE X (.Call (.Attribute o m apos) [] [] pos) (oJ C m sp bH E ta sM) := by
 intro pins s σ H Q I h
 refine PySem.W.methodCall_KW (pl := pl) (cg (he pins s σ H _ I h) fun u s1 ⟨x, H1, I1, rx, a, dx, fs, ex, ea, l, q⟩ => ?_) ht
 subst ex
 obtain rfl : u = Value.ref a := rx
 refine jr I1 ea c hm l ?_
 exact PySem.W.callWith_K0 (first := [.ref a]) I1.iY hm.kp (rH (us := [.ref a]) (vs := [.ref a]) F hr hb hd hx I1 (.cons rfl .nil) q)
structure Mk (K : PySem.W.Frag) (C f : Addr) : Prop where
 makes : PySem.W.makesIn K C = true
 init : PySem.W.findIn K (.ref C) "__init__" = some (some (.ref f))
 fn : PySem.W.isFn K (.ref f) = true
 kp : PySem.W.keepIn K (.ref C) = true
theorem vO {pins : List (Addr × Obj)} {σ : St} {H : Hp} {s : Shared} {Q : VK} {us : List Value} {vs : List V} (M : Mk X.K C f) (F : bw X.prog X.w X.K X.mg X.base CX k f fd ps sp) (hr : a8 (k + 1) X.A) (hb : Binds X.K fd ps ds) (hd : Vals bH ds)
 (hx : Passes CX X E) (I : Inv X pins σ H s) (r : Vals vs us)
 (h : ∀ x dx, H x = none -> H dx = none -> dx ≠ x -> sp (.ref x :: (vs ++ bH)) (upd (upd H dx (.own x)) x (.ins C dx [])) (fun v H2 => v = .aY /\ Q (.ref x) H2) E) :
 wpAny (model X.prog X.w) X.A (call (.ref C) us) (EP X pins σ Q) X.xe s := by
 have hq := h (s.heap.objs.size + 1) s.heap.objs.size (I.aK.fresh (Nat.le_succ _)) (I.aK.fresh (Nat.le_refl _)) (Nat.ne_of_lt (Nat.lt_succ_self _))
 have I2 := Inv.made (C := C) I
 have r2 : Vals (V.ref (s.heap.objs.size + 1) :: (vs ++ bH)) (Value.ref (s.heap.objs.size + 1) :: (us ++ ds)) := .cons rfl (r.append hd)
 have hl : (Value.ref (s.heap.objs.size + 1) :: us ++ ds).length = ps.length := by
  have e := r2.length
  rw [F.len _ _ _ _ hq] at e
  exact e.symm
 refine wpAny_call (x2 (f := f) I.iY M.makes M.init (beq_iff_eq.mp M.fn) (codeAny_mono (F.run _ X.stack _ _ ⟨Value.ref (s.heap.objs.size + 1) :: us, []⟩ (Value.ref (s.heap.objs.size + 1) :: (us ++ ds)) _ _ E (hr.make C us [])
  (I2.ve.make C us []) (hb _ (Value.ref (s.heap.objs.size + 1) :: us) I2.iY hl) r2 hq) fun r s' va => ?_))
 cases r with
 | error e => exact hx pins σ _ _ e s' I2 va
 | ok fl =>
   cases fl with
   | ret u =>
     obtain ⟨v, H', I3, rv, ev, q3⟩ := I2.after va
     subst ev
     exact ⟨rv, ⟨V.ref (s.heap.objs.size + 1), H', I3, rfl, q3⟩⟩
   | next => exact False.elim va
   | brk => exact False.elim va
   | cont => exact False.elim va
theorem xT (M : Mk X.K C f) (F : bw X.prog X.w X.K X.mg X.base CX k f fd ps sp) (hr : a8 (k + 1) X.A) (hg : Gl X x) (hm : X.mg x = some (.ref C)) (hb : Binds X.K fd ps ds) (hd : Vals bH ds) (hx : Passes CX X E)
 (nX : (x == ("__debug__" : Str)) = false := by decide) : PE X (.Call (.Name x p) [] [] pos) (wG C sp bH E sM) := by
 intro pins s σ H Q I h
 refine wpAny_Call_Name_kw (gM I hg hm ?_ nX)
 exact PySem.W.callWith_K0 I.iY M.kp (vO (us := []) M F hr hb hd hx I .nil h)
end
section
variable {X : Cx} {CX : p0} {k : Nat} {f C : Addr} {fd : FuncData} {ps ks : List Str} {sp : Sp} {E : XK} {x m : Str} {p pos apos B3 : Pos} {e o : Expr} {es : List Expr} {Nw : List Keyword} {te ta : TE} {t tk : TA} {nm : Option Str}
structure HX (K : PySem.W.Frag) (fd : FuncData) (ps ks : List Str) (g : List Value -> List Value -> List Value) (gV : List V -> List V -> List V) : Prop where
 to : ∀ (s : Shared) (us ws : List Value), K.In s.heap -> (g us ws).length = ps.length -> BindsTo s fd ⟨us, ks.zip ws⟩ (ps.zip (g us ws))
 rel : ∀ {vs : List V} {us : List Value} {zs : List V} {ws : List Value}, Vals vs us -> Vals zs ws -> Vals (gV vs zs) (g us ws)
variable {g : List Value -> List Value -> List Value} {gV : List V -> List V -> List V}
end
structure aH (N P : List Str) (sc : Scope) : Prop where
 kind : sc.kind = .function
 co : sc.isCoroutine = false
 gen : sc.isGenerator = false
 nd : N.Nodup
 pre : N.take P.length = P
 par : ∀ x ∈ P, sc.names.lookup x = some .local \/ sc.names.lookup x = some .cell
 B4 : ∀ y ∈ sc.names, y.2 ≠ .free
theorem oC {kindOf : Str -> Option NameKind} {x : Str} : ∀ {binds : List (Str × Value)} {m : Str -> Option Value}, (∀ v, (x, v) ∉ binds) -> bindL kindOf binds m x = m x
 | [], _, _ => rfl
 | (n, v) :: r, m, h => by
   unfold bindL
   rw [oC fun w hw => h w (List.mem_cons_of_mem _ hw)]
   split
   . have : x ≠ n := by rintro rfl; exact h v List.mem_cons_self
     simp [this]
   . rfl
theorem oq {kindOf : Str -> Option NameKind} {x : Str} : ∀ {binds : List (Str × Value)} {m : Str -> Option Value}, (∀ v, (x, v) ∉ binds) -> bindC kindOf binds m x = m x
 | [], _, _ => rfl
 | (n, v) :: r, m, h => by
   unfold bindC
   rw [oq fun w hw => h w (List.mem_cons_of_mem _ hw)]
   split
   . rfl
   . have : x ≠ n := by rintro rfl; exact h v List.mem_cons_self
     simp [this]
theorem n8 {kindOf : Str -> Option NameKind} {x : Str} {v : Value} : ∀ {P : List Str} {vs : List Value} {i : Nat} {m : Str -> Option Value}, P.Nodup -> P[i]? = some x -> vs[i]? = some v -> kindOf x = some .local ->
 bindL kindOf (P.zip vs) m x = some v
 | [], _, _, _, _, h, _, _ => by simp at h
 | _ :: _, [], _, _, _, _, h, _ => by simp at h
 | p :: P, w :: vs, 0, m, nd, h1, h2, hk => by
   simp at h1 h2; subst h1; subst h2
   show bindL kindOf ((p, w) :: P.zip vs) m p = _
   unfold bindL
   rw [oC fun v hv => (List.nodup_cons.mp nd).1 (List.of_mem_zip hv).1, if_pos hk]
   simp
 | p :: P, w :: vs, i + 1, m, nd, h1, h2, hk => by
   show bindL kindOf ((p, w) :: P.zip vs) m x = _
   unfold bindL
   exact n8 (i := i) (List.nodup_cons.mp nd).2 (by simpa using h1) (by simpa using h2) hk
theorem oP {kindOf : Str -> Option NameKind} {x : Str} {v : Value} : ∀ {P : List Str} {vs : List Value} {i : Nat} {m : Str -> Option Value}, P.Nodup -> P[i]? = some x -> vs[i]? = some v -> kindOf x ≠ some .local ->
 bindC kindOf (P.zip vs) m x = some v
 | [], _, _, _, _, h, _, _ => by simp at h
 | _ :: _, [], _, _, _, _, h, _ => by simp at h
 | p :: P, w :: vs, 0, m, nd, h1, h2, hk => by
   simp at h1 h2; subst h1; subst h2
   show bindC kindOf ((p, w) :: P.zip vs) m p = _
   unfold bindC
   rw [oq fun v hv => (List.nodup_cons.mp nd).1 (List.of_mem_zip hv).1, if_neg hk]
   simp
 | p :: P, w :: vs, i + 1, m, nd, h1, h2, hk => by
   show bindC kindOf ((p, w) :: P.zip vs) m x = _
   unfold bindC
   exact oP (i := i) (List.nodup_cons.mp nd).2 (by simpa using h1) (by simpa using h2) hk
def start (N : List Str) (vs : List V) : St := vs.map some ++ List.replicate (N.length - vs.length) none
def jT (CX : p0) (P : Program) (w : World) (K : PySem.W.Frag) (mg : Str -> Option Value) (base : Heap) (N : List Str) (qual : Str) (scope : Scope) (f : Addr) (cd : Value) (A : Around) (outer : List Env) (s : Shared) (H : Hp) (E : XK) : Cx where
 prog := P
 w := w
 K := K
 mg := mg
 base := base
 A := A.deeper (envOfC qual scope s.heap.objs.size f cd)
 N := N
 cA := s
 vu := H
 env := envOfC qual scope s.heap.objs.size f cd
 outer := outer
 stack := envOfC qual scope s.heap.objs.size f cd :: outer
 ex := []
 calm := true
 fn := fun _ => true
 pn := []
 xe := fun e s' => wpAny (model P w) (A.deeper (envOfC qual scope s.heap.objs.size f cd)) (leaving (envOfC qual scope s.heap.objs.size f cd) e) (fun _ HW => CX outer H s E e HW) (fun e' HW => CX outer H s E e' HW) s'
theorem qH {sc : Scope} {n : Nat} {x : Str} (h : sc.names.lookup x = some .cell) : ∃ c, (cellsFrom n sc.names []).lookup x = some c := by
 have q := PySem.W.cellsFrom_some sc.names n [] (.inl h)
 exact Option.isSome_iff_exists.mp q
theorem uL {CX : p0} {P : Program} {w : World} {K : PySem.W.Frag} {mg : Str -> Option Value} {base : Heap} {N ps : List Str} {qual : Str} {scope : Scope} {f : Addr} {cd : Value} {A : Around} {outer : List Env} {s s1 : Shared} {H : Hp} {E : XK} {us : List Value} {vs : List V}
 (S : aH N ps scope) (hd : A.handled = none) (e0 : nZ P w K mg base A outer s H) (hl : vs.length = ps.length) (r : Vals vs us)
 (x : InCallC s s.heap.objs.size (bindL (envOfC qual scope s.heap.objs.size f cd).kindOf (ps.zip us) fun _ => none) (cellsFrom (s.heap.objs.size + 1) scope.names []) (bindC (envOfC qual scope s.heap.objs.size f cd).kindOf (ps.zip us) fun _ => none) s1) :
 Inv (jT CX P w K mg base N qual scope f cd A outer s H E) [] (start N vs) H s1 := by
 have kr : ps.length <= N.length := by have := congrArg List.length S.pre; rw [List.length_take] at this; omega
 obtain ⟨h1, tk, rfl, hk⟩ := x.done
 have yo : ∀ b : Addr, b ∉ (jT CX P w K mg base N qual scope f cd A outer s H E).ex := fun b z => absurd (show b ∈ ([] : List Addr) from z) (by simp)
 refine ⟨⟨e0.mod, S.kind, rfl, rfl, Nat.le_refl _, fun y z c h1 h2 => ?_, fun y hy => ?_, fun y c _ h => ?_, fun _ => hd, Around.frames_deeper e0.frames, .inr ⟨rfl, rfl⟩, fun b z => absurd z (yo b), e0.bs, e0.rC, fun b _ _ => yo b, fun b z => absurd z (yo b), e0.ie, e0.uF⟩,
  rfl, e0.bare, Un.kept hk, ⟨_, x.toInCall.ns, fun i y v h1 h2 h3 => ?_⟩, fun y c h => ⟨_, x.cell y c h⟩, e0.aK.fresh (Nat.le_refl _), fun y c h => ?_, fun p hp => absurd (show p ∈ ([] : List (Addr × Obj)) from hp) (by simp), e0.aK.kept hk, ?_⟩
 . exact name_of_addr x.apart (PySem.mem_of_lookup h1) (PySem.mem_of_lookup h2)
 . have hy : scope.names.lookup y = some .cell \/ scope.names.lookup y = some .free := hy
   rcases hy with hy | hy
   . exact qH hy
   . exact absurd rfl (S.B4 _ (PySem.mem_of_lookup hy))
 . exact Nat.le_of_lt (x.above y c (PySem.mem_of_lookup h))
 . have hi : i < vs.length := by
    unfold start at h2
    by_cases hi : i < vs.length
    . exact hi
    . rw [List.getElem?_append_right (by simpa using hi)] at h2
      rw [List.getElem?_replicate] at h2
      split at h2 <;> cases h2
   have ha : vs[i]? = some v := by
    unfold start at h2
    rw [List.getElem?_append_left (by simpa using hi), List.getElem?_map] at h2
    cases e : vs[i]? with
    | none => rw [e] at h2; cases h2
    | some a => rw [e] at h2; cases h2; rfl
   obtain ⟨u, hu, rv⟩ := r.get ha
   have hp : ps[i]? = some y := by
    rw [<- S.pre, List.getElem?_take_of_lt (by omega)]; exact h1
   have KP : ps.Nodup := by rw [<- S.pre]; exact S.nd.sublist (List.take_sublist _ _)
   refine ⟨u, rv, ?_⟩
   rcases S.par y (List.mem_of_getElem? hp) with k | k
   . exact .inl ⟨k, n8 KP hp hu k⟩
   . obtain ⟨c, e⟩ := qH (n := s.heap.objs.size + 1) k
     refine .inr ⟨.inl k, c, e, ?_⟩
     have q := x.cell y c e
     rw [oP KP hp hu (by show scope.names.lookup y ≠ _; rw [k]; decide)] at q
     exact q
 . exact e0.aK.fresh (Nat.le_of_lt (x.above y c (PySem.mem_of_lookup h)))
 . unfold start
   show _ = N.length
   rw [List.length_append, List.length_map, List.length_replicate]
   omega
theorem wK {CX : p0} {P : Program} {w : World} {K : PySem.W.Frag} {mg : Str -> Option Value} {base : Heap} {k : Nat} {f : Addr} {name qual : Str} {params : Arguments} {body : List Stmt} {scope : Scope} {dV kV doc pm eh ct oc : Value} {an od : Option Addr}
 {sV : Array (Option Value)} {N ps : List Str} {sp : Sp} (lk : K.lookup f = some ⟨oc, od, .func (PySem.W.fnOf name qual params body scope dV kV doc pm an eh ct), sV⟩) (mq : PySem.W.codeIn K eh qual = true) (S : aH N ps scope)
 (len : ∀ vs H Q E, sp vs H Q E -> vs.length = ps.length)
 (jd : ∀ (A : Around) (outer : List Env) (s : Shared) (H : Hp) (vs : List V) (Q : VK) (E : XK), a8 k (A.deeper (envOfC qual scope s.heap.objs.size f eh)) -> sp vs H Q E ->
  ∃ t, om (jT CX P w K mg base N qual scope f eh A outer s H E) body t /\ t { nx := fun _ H' => Q .aY H', rt := Q } (start N vs) H) :
 bw P w K mg base CX (k + 1) f (PySem.W.fnOf name qual params body scope dV kV doc pm an eh ct) ps sp := by
 refine ⟨len, fun A outer s H args us vs Q E hr e0 hb r uo => ?_⟩
 have hl := len _ _ _ _ uo
 have KX : K.In s.heap := e0.mod.DS.keeps fun b o e => (e0.bs b o e).1
 have lim : s.heap.NoLimit := e0.mod.nolimit.keeps fun b o e => (e0.bs b o e).1
 have Fx : ∀ y ∈ ps.zip us, scope.names.lookup y.1 = some .local \/ (scope.names.lookup y.1 = some .cell /\ ((cellsFrom (s.heap.objs.size + 1) scope.names []).lookup y.1).isSome = true) := fun ⟨n, v⟩ hy => by
  rcases S.par n (List.of_mem_zip hy).1 with q | q
  . exact .inl q
  . exact .inr ⟨q, PySem.W.cellsFrom_some _ _ _ (.inl q)⟩
 refine codeAny_call_function hr.depth (KX _ _ lk) rfl S.co S.gen rfl (PySem.W.codeRec_of KX mq) (hb _ _ _ _ ?_)
 refine wpAny_newFunctionEnv_cells S.kind Fx fun env he s1 x => ?_
 subst he
 refine ⟨lim.keeps x.toInCall.keep, codeAny_func ?_⟩
 obtain ⟨t, ht, hq⟩ := jd A outer s H vs Q E (hr.deeper _) uo
 have I : Inv (jT CX P w K mg base N qual scope f eh A outer s H E) [] (start N vs) H s1 := uL S hr.hd e0 hl r x
 refine wpAny_mono (ht [] s1 (start N vs) H _ I hq) (fun fl s' hs => ?_) fun e s' hs => hs
 have fin : ∀ {σ' : St} {H' : Hp} {v : V} {u : Value}, Inv (jT CX P w K mg base N qual scope f eh A outer s H E) [] σ' H' s' -> RelV v u -> Q v H' -> CE outer P w H s Q u s' :=
  fun {σ' H' v u} J rv q => ⟨v, H', J.os, J.bare, J.base, J.aK, rv, q⟩
 cases fl with
 | ret u =>
   obtain ⟨v, σ', H', J, rv, q⟩ := hs
   exact fin J rv q
 | next =>
   obtain ⟨σ', H', J, q⟩ := hs
   exact fin (v := V.aY) (u := Value.none) J rfl q
 | brk =>
   obtain ⟨_, _, _, q⟩ := hs
   exact False.elim q
 | cont =>
   obtain ⟨_, _, _, q⟩ := hs
   exact False.elim q
section
variable {X : Cx} {x : Str} {p pos : Pos} {e : Expr} {es : List Expr} {t : TA} {id T : String} {r : List V -> Hp -> VK -> Prop}
def Jb (r : List V -> Hp -> VK -> Prop) (t : TA) : TE := fun σ H Q => t σ H fun vs H1 => r vs H1 Q
theorem bx (hc : iG X (.builtin id) r) (hg : Gl X x) (hm : X.mg x = none) (hv : bootBuiltins x = some (.builtin id)) (ha : PA X (e :: es) t) (hn : x ≠ "__name__" := by decide) (nX : (x == ("__debug__" : Str)) = false := by decide)
 (he : starEach (e :: es) X.env = (false, eval e X.env) :: starEach es X.env := by rfl) (kr : (backTo pos (starEach es X.env)).any (·.1) = false := by rfl) : PE X (.Call (.Name x p) (e :: es) [] pos) (Jb r t) := by
 intro pins s σ H Q I h
 refine wpAny_Call_Name_kw (jv I hg hm hv ?_ hn nX)
 exact PyProof.Rows.callWith_builtin1 (cg (ha pos pins s σ H _ I h) fun us s1 ⟨vs, H1, I1, r1, q1⟩ => hc pins s1 σ H1 vs us Q I1 r1 q1) he kr
theorem vl (hc : iG X (.type T) r) (hg : Gl X x) (hm : X.mg x = none) (hv : bootBuiltins x = some (.type T)) (ha : PA X (e :: es) t) (hn : x ≠ "__name__" := by decide) (nX : (x == ("__debug__" : Str)) = false := by decide)
 (he : starEach (e :: es) X.env = (false, eval e X.env) :: starEach es X.env := by rfl) (kr : (backTo pos (starEach es X.env)).any (·.1) = false := by rfl) : PE X (.Call (.Name x p) (e :: es) [] pos) (Jb r t) := by
 intro pins s σ H Q I h
 refine wpAny_Call_Name_kw (jv I hg hm hv ?_ hn nX)
 exact PyProof.Rows.callWith_type1 (cg (ha pos pins s σ H _ I h) fun us s1 ⟨vs, H1, I1, r1, q1⟩ => hc pins s1 σ H1 vs us Q I1 r1 q1) he kr
end
end L2
namespace HT
open PySem PyProof.Rows
section
open PySem.SeqAt
open PySem.AutoSeq1 (wpAny_loadPart')
open PySem.MeetsSeq PySem.MeetsSeq2 PySem.MeetsSeq3
end
section
variable {prog : Program} {w : World} {A : Around} {E : Value -> Shared -> Prop} {s : Shared}
end
end HT
namespace L2
open PySem PySem.Spec PyProof.Rows
abbrev TO := St -> Hp -> (Option Int -> Hp -> Prop) -> Prop
section
variable {X : Cx} {e : Expr} {te : TE} {lo hi : Option Expr} {tl th : TO} {pos p2 : Pos}
end
def yt (n : Nat) (i : Int) : Option Nat := if 0 <= i then (if i < n then some i.toNat else none) else if -(n : Int) <= i then some (i + n).toNat else none
def pE {α : Type} (xs : List α) (i : Int) : Option α := (yt xs.length i).bind fun j => xs[j]?
theorem zZ {n : Nat} {i : Int} {j : Nat} (h : yt n i = some j) : seqIndex? i n = some j /\ j < n /\ -(n : Int) <= i /\ i < n := by
 unfold yt at h
 by_cases h0 : 0 <= i
 . rw [if_pos h0] at h
   by_cases h1 : i < n
   . rw [if_pos h1] at h
     have e : i.toNat = j := Option.some.inj h
     exact ⟨by rw [seqIndex_of h0 h1, e], by omega, by omega, h1⟩
   . rw [if_neg h1] at h; cases h
 . rw [if_neg h0] at h
   by_cases h1 : -(n : Int) <= i
   . rw [if_pos h1] at h
     have e : (i + n).toNat = j := Option.some.inj h
     exact ⟨by rw [seqIndex_neg (by omega) h1, e], by omega, h1, by omega⟩
   . rw [if_neg h1] at h; cases h
theorem o7 {α : Type} {xs : List α} {i : Int} {v : α} (h : pE xs i = some v) : ∃ j, seqIndex? i xs.length = some j /\ xs[j]? = some v /\ j < xs.length /\ -(xs.length : Int) <= i /\ i < xs.length := by
 unfold pE at h
 cases e : yt xs.length i with
 | none => rw [e] at h; cases h
 | some j =>
   rw [e] at h
   obtain ⟨h1, h2, h3, h4⟩ := zZ e
   exact ⟨j, h1, h, h2, h3, h4⟩
theorem pP {α : Type} {xs : List α} {j : Nat} {v : α} (h : xs[j]? = some v) : pE xs (j : Int) = some v := by
 have hj : j < xs.length := (List.getElem?_eq_some_iff.mp h).1
 have e : yt xs.length (j : Int) = some j := by
  unfold yt
  rw [if_pos (by omega), if_pos (by omega)]; simp
 unfold pE; rw [e]; exact h
theorem qm {α : Type} (xs : List α) (v : α) : pE (xs ++ [v]) (-1) = some v := by
 have hl : (xs ++ [v]).length = xs.length + 1 := by simp
 have e : yt (xs ++ [v]).length (-1) = some xs.length := by
  unfold yt
  rw [hl, if_neg (by decide), if_pos (by omega)]
  congr 1
  omega
 unfold pE
 rw [e]
 show (xs ++ [v])[xs.length]? = some v
 simp
def zV (b : Expr) : Prop := ∀ o i, subscripted b false o i = operate [o, i] (getItem o i)
def vy (X : Cx) (r : R2) : Prop :=
 ∀ (value slice : Expr) (pins : List (Addr × Obj)) (s : Shared) (σ : St) (H : Hp) (x y : V) (v u : Value) (Q : VK), Inv X pins σ H s -> RelV x v -> RelV y u -> r x y H Q ->
   subscripted slice false v u = operate [v, u] (getItem v u) -> wpAny (model X.prog X.w) X.A (subscriptTail value slice v u) (EP X pins σ Q) X.xe s
def MK (X : Cx) (id : String) (r : V -> List V -> Hp -> VK -> Prop) : Prop :=
 ∀ (pins : List (Addr × Obj)) (s : Shared) (σ : St) (H : Hp) (x : V) (xs : List V) (v : Value) (us : List Value) (Q : VK), Inv X pins σ H s -> RelV x v -> Vals xs us -> r x xs H Q ->
   wpAny (model X.prog X.w) X.A (call (.builtin id) (v :: us)) (EP X pins σ Q) X.xe s
section
variable {X : Cx} {a b : Expr} {ta tb : TE} {pos : Pos}
theorem vy.or {r r' : R2} (h : vy X r) (h' : vy X r') : vy X (fun x y H Q => r x y H Q \/ r' x y H Q) := by
 intro value slice pins s σ H x y v u Q I rx ry q hs
 rcases q with q | q
 . exact h value slice pins s σ H x y v u Q I rx ry q hs
 . exact h' value slice pins s σ H x y v u Q I rx ry q hs
theorem cM {r : R2} (hr : vy X r) (ha : PE X a ta) (hb : PE X b tb) (hs : zV b) : PE X (.Subscript a b pos) (Gx r ta tb) := by
 intro pins s σ H Q I h
 exact Subscript_ (DQ ha hb I h fun v u s2 x y H2 I2 rx ry q => hr a b pins s2 σ H2 x y v u Q I2 rx ry q (hs _ _))
def DI (K : PySem.W.Frag) : R2 := fun x y H Q => ∃ p xs i v, x = .ref p /\ y = .int i /\ fL K H p xs /\ pE xs i = some v /\ Q v H
def Ga (K : PySem.W.Frag) : R2 := fun x y H Q => ∃ p xs i v, x = .ref p /\ y = .int i /\ uK K H p xs /\ pE xs i = some v /\ Q v H
def BZ : R2 := fun x y H Q => ∃ z i c, x = .str z /\ y = .int i /\ z.length <= sizeLine /\ pE z.cps.toList i = some c /\ Q (.str ⟨#[c]⟩) H
theorem ub : vy X (DI X.K) := by
 intro value slice pins s σ H x y v u Q I rx ry h hs
 obtain ⟨p, xs, i, z, rfl, rfl, hq, he, q⟩ := h
 cases rx
 obtain ⟨t, rfl⟩ := ry
 obtain ⟨aJ, r, pl, hz⟩ := I.list hq
 obtain ⟨j, h1, h2, h3, h4, h5⟩ := o7 he
 obtain ⟨w, ew, zN⟩ := r.get h2
 have hl := r.length
 have hn := kR
 have fin : EP X pins σ Q w s := ⟨z, H, I, zN, q⟩
 by_cases h0 : 0 <= i
 . have hj : i.toNat = j := by
    rw [seqIndex_of h0 h5] at h1
    exact Option.some.inj h1
   exact item_listR pl.isList h0 (by omega) (by rw [hj]; simpa using ew) fin hs
 . have hj : (i + (aJ.toArray.size : Int)).toNat = j := by
    rw [seqIndex_neg (by omega) h4] at h1
    rw [List.size_toArray, <- hl]
    exact Option.some.inj h1
   exact subscriptTail_builtinR (x := w) pl.isList.typeIs slot_list_getitem.lookup
    (wpAny_getItem_list_neg (Q := fun r s' => r = w /\ EP X pins σ Q r s') pl.isList (by omega) (by rw [List.size_toArray] <;> omega) (by omega) (by rw [hj]; simpa using ew) ⟨rfl, fin⟩) hs
theorem DL : vy X (Ga X.K) := by
 intro value slice pins s σ H x y v u Q I rx ry h hs
 obtain ⟨p, xs, i, z, rfl, rfl, hq, he, q⟩ := h
 cases rx
 obtain ⟨t, rfl⟩ := ry
 obtain ⟨aJ, r, pl, hz⟩ := I.tuple hq
 obtain ⟨j, h1, h2, h3, h4, h5⟩ := o7 he
 obtain ⟨w, ew, zN⟩ := r.get h2
 have hl := r.length
 have hn := kR
 have fin : EP X pins σ Q w s := ⟨z, H, I, zN, q⟩
 exact subscriptTail_builtinR (x := w) pl.typeIs slot_tuple_getitem.lookup
  (getItem_tuple (j := j) (Q := fun r s' => r = w /\ EP X pins σ Q r s') pl (by omega) (by omega) (by rw [List.size_toArray, <- hl]; exact h1) (by simpa using ew) ⟨rfl, fin⟩) hs
theorem DF : vy X BZ := by
 intro value slice pins s σ H x y v u Q I rx ry h hs
 obtain ⟨z, i, c, rfl, rfl, hz, he, q⟩ := h
 obtain ⟨t, rfl⟩ := rx
 obtain ⟨t', rfl⟩ := ry
 obtain ⟨j, h1, h2, h3, h4, h5⟩ := o7 he
 have hl : z.cps.toList.length = z.length := by simp [Str.length]
 rw [hl] at h1 h4 h5
 have hn := kR
 exact tail_any (typeIs_str s z t) slot_str_getitem.lookup (getItem_str (c := c) (by
  have e1 : decide (i < -(2 ^ 63 : Int)) = false := decide_eq_false (by omega)
  have e2 : decide (i ≥ 2 ^ 63) = false := decide_eq_false (by omega)
  rw [e1, e2, Bool.or_false]) (by rw [h1]; simpa using h2) ⟨.str ⟨#[c]⟩, H, I.tok _, ⟨_, rfl⟩, q⟩) hs
def JI (K : PySem.W.Frag) : R2 := fun x y H Q => DI K x y H Q \/ Ga K x y H Q \/ BZ x y H Q
theorem CA : vy X (JI X.K) := ub.or (DL.or DF)
def jj : V -> Bool
 | .aY => true
 | .bl _ => true
 | .int _ => true
 | .str _ => true
 | _ => false
def yp : V -> V -> Bool
 | .aY, .aY => true
 | .bl a, .bl b => a == b
 | .bl a, .int b => (if a then 1 else 0) == b
 | .int a, .bl b => a == (if b then 1 else 0)
 | .int a, .int b => a == b
 | .str a, .str b => a == b
 | _, _ => false
theorem Dm {A : Around} {s : Shared} {y x : V} {u v : Value} (ry : RelV y u) (rx : RelV x v) (fy : jj y = true) (fx : jj x = true) : SeqAt.EqAt A s u v (yp y x) := by
 cases y with
 | aY =>
   cases ry
   cases x with
   | aY => cases rx; exact SeqAt.EqAt.same _
   | bl b => cases rx; exact SeqAt.EqAt.none_bool b
   | int b => obtain ⟨t, rfl⟩ := rx; exact SeqAt.EqAt.none_int b t
   | str b => obtain ⟨t, rfl⟩ := rx; exact SeqAt.EqAt.none_str b t
   | _ => exact absurd (show false = true from fx) Bool.false_ne_true
 | bl a =>
   cases ry
   cases x with
   | aY => cases rx; exact SeqAt.EqAt.bool_none a
   | bl b => cases rx; exact SeqAt.EqAt.bool_bool a b
   | int b => obtain ⟨t, rfl⟩ := rx; exact SeqAt.EqAt.bool_int a b t
   | str b => obtain ⟨t, rfl⟩ := rx; exact SeqAt.EqAt.bool_str a b t
   | _ => exact absurd (show false = true from fx) Bool.false_ne_true
 | int a =>
   obtain ⟨t', rfl⟩ := ry
   cases x with
   | aY => cases rx; exact SeqAt.EqAt.int_none a t'
   | bl b => cases rx; exact SeqAt.EqAt.int_bool a t' b
   | int b => obtain ⟨t, rfl⟩ := rx; exact SeqAt.EqAt.int_int a t' b t
   | str b => obtain ⟨t, rfl⟩ := rx; exact SeqAt.EqAt.int_str a t' b t
   | _ => exact absurd (show false = true from fx) Bool.false_ne_true
 | str a =>
   obtain ⟨t', rfl⟩ := ry
   cases x with
   | aY => cases rx; exact SeqAt.EqAt.str_none a t'
   | bl b => cases rx; exact SeqAt.EqAt.str_bool a t' b
   | int b => obtain ⟨t, rfl⟩ := rx; exact SeqAt.EqAt.str_int a t' b t
   | str b => obtain ⟨t, rfl⟩ := rx; exact SeqAt.EqAt.str_str a t' b t
   | _ => exact absurd (show false = true from fx) Bool.false_ne_true
 | _ => exact absurd (show false = true from fy) Bool.false_ne_true
def zu (x : V) (u : Value) : Bool := match u with
 | .none => yp .aY x
 | .bool b => yp (.bl b) x
 | .int i _ => yp (.int i) x
 | .str z _ => yp (.str z) x
 | _ => false
theorem xP {x y : V} {u : Value} (r : RelV y u) (f : jj y = true) : zu x u = yp y x := by
 cases y with
 | aY => cases r; rfl
 | bl b => cases r; rfl
 | int i => obtain ⟨t, rfl⟩ := r; rfl
 | str z => obtain ⟨t, rfl⟩ := r; rfl
 | _ => exact absurd (show false = true from f) Bool.false_ne_true
theorem pB {x : V} : ∀ {xs : List V} {us : List Value}, Vals xs us -> xs.all jj = true -> us.any (zu x) = xs.any fun y => yp y x
 | _, _, .nil, _ => rfl
 | y :: xs, u :: us, .cons r t, f => by
   rw [List.all_cons, Bool.and_eq_true] at f
   rw [List.any_cons, List.any_cons, xP r f.1, pB t f.2]
theorem mK {A : Around} {s : Shared} {x : V} {v : Value} (rx : RelV x v) (fx : jj x = true) : ∀ {xs : List V} {us : List Value}, Vals xs us -> xs.all jj = true -> ∀ u ∈ us, SeqAt.EqAt A s u v (zu x u)
 | _, _, .nil, _ => fun u hu => by cases hu
 | y :: xs, u :: us, .cons r t, f => fun u' hu => by
   rw [List.all_cons, Bool.and_eq_true] at f
   rcases List.mem_cons.mp hu with rfl | hu
   . rw [xP r f.1]; exact Dm r rx f.1 fx
   . exact mK rx fx t f.2 u' hu
def GA (x : V) (xs : List V) : Bool := xs.any fun y => yp y x
def J5 (K : PySem.W.Frag) (neg : Bool) : R2 := fun x y H Q => ∃ p xs, y = .ref p /\ (fL K H p xs \/ uK K H p xs) /\ jj x = true /\ xs.all jj = true /\ Q (.bl (if neg then !GA x xs else GA x xs)) H
theorem oh : ki X (compareOp .In) (J5 X.K false) := by
 intro pins s σ H x y v u Q I rx ry h
 obtain ⟨p, xs, rfl, hq, fx, fs, q⟩ := h
 cases ry
 rcases hq with hq | hq
 . obtain ⟨aJ, r, pl, hz⟩ := I.list hq
   refine SeqAt.in_listAt (zu x) pl.isList (fun w hw => mK rx fx r fs w (by simpa using hw)) ⟨.bl _, H, I, rfl, ?_⟩
   rw [show aJ.toArray.any (zu x) = aJ.any (zu x) by simp, pB r fs]
   exact q
 . obtain ⟨aJ, r, pl, hz⟩ := I.tuple hq
   refine SeqAt.in_tupleAt (zu x) pl (fun w hw => mK rx fx r fs w (by simpa using hw)) ⟨.bl _, H, I, rfl, ?_⟩
   rw [show aJ.toArray.any (zu x) = aJ.any (zu x) by simp, pB r fs]
   exact q
theorem gE : iG X (.builtin "len") (fun xs H Q => ∃ p ys, xs = [.ref p] /\ (fL X.K H p ys \/ uK X.K H p ys) /\ Q (.int ys.length) H) := by
 intro pins s σ H xs us Q I r h
 obtain ⟨p, ys, rfl, hq, q⟩ := h
 obtain ⟨u, rfl, rx⟩ := vals1 r
 cases rx
 have hn := kR
 rcases hq with hq | hq
 . obtain ⟨aJ, r', pl, hz⟩ := I.list hq
   have hlen := r'.length
   exact Calls.call_len_list pl.isList (by simp only [List.size_toArray] <;> omega) ⟨.int ys.length, H, I.tok _, ⟨s.toks + 1, by rw [List.size_toArray, hlen]⟩, q⟩
 . obtain ⟨aJ, r', pl, hz⟩ := I.tuple hq
   have hlen := r'.length
   exact len_tuple pl (by simp only [List.size_toArray] <;> omega) ⟨.int ys.length, H, I.tok _, ⟨s.toks + 1, by rw [List.size_toArray, hlen]⟩, q⟩
theorem pI : iG X (.builtin "len") (fun xs H Q => ∃ z, xs = [.str z] /\ z.length <= sizeLine /\ Q (.int z.length) H) := by
 intro pins s σ H xs us Q I r h
 obtain ⟨z, rfl, hz, q⟩ := h
 obtain ⟨u, rfl, t, rfl⟩ := vals1 r
 have hn := kR
 exact len_str (by omega) ⟨.int z.length, H, I.tok _, ⟨_, rfl⟩, q⟩
def Hf (K : PySem.W.Frag) (T : String) (x : V) (H : Hp) : Prop := match x with
 | .str _ => T = "str"
 | .int _ => T = "int"
 | .ref p => (T = "list" /\ ∃ xs, fL K H p xs) \/ (T = "tuple" /\ ∃ o, K.lookup p = some o /\ o.cls = .type "tuple" /\ o.dict = none) \/
  (T = "dict" /\ ((∃ kvs, H p = some (.dK kvs)) \/ ∃ kvs, H p = some (.dT kvs))) \/ (T = "set" /\ ∃ S n, H p = some (.set S n))
 | _ => False
theorem CY {pins : List (Addr × Obj)} {σ : St} {H : Hp} {s : Shared} {T : String} {x : V} {v : Value} (I : Inv X pins σ H s) (r : RelV x v) (ty : Hf X.K T x H) :
 s.TypeIs v T /\ ∀ a, v = .ref a -> ∃ ob, s.heap.get? a = some ob /\ ob.dict = none := by
 cases x with
 | str z =>
   obtain ⟨t, rfl⟩ := r
   cases (show T = "str" from ty)
   exact ⟨typeIs_str s z t, fun _ e => nomatch e⟩
 | int i =>
   obtain ⟨t, rfl⟩ := r
   cases (show T = "int" from ty)
   exact ⟨typeIs_int s i t, fun _ e => nomatch e⟩
 | ref p =>
   cases r
   rcases ty with ⟨rfl, xs, hq⟩ | ⟨rfl, o, hk, hc, hd⟩ | ⟨rfl, hk⟩ | ⟨rfl, S, n, hk⟩
   . obtain ⟨aJ, _, pl, _⟩ := I.list hq
     refine ⟨pl.isList.typeIs, fun a e => ?_⟩
     cases e
     obtain ⟨o, n, e, c, hd, _⟩ := pl
     exact ⟨o, e, hd⟩
   . refine ⟨⟨o, I.iY p o hk, hc⟩, fun a e => ?_⟩
     cases e
     exact ⟨o, I.iY _ o hk, hd⟩
   . have z : ∃ o, s.heap.get? p = some o /\ o.ExactDict := by
      rcases hk with ⟨kvs, hk⟩ | ⟨kvs, hk⟩
      . obtain ⟨_, _, _, _, o, _, _, e, ex, _⟩ := I.aK p _ hk
        exact ⟨o, e, ex⟩
      . obtain ⟨_, _, _, _, o, _, _, e, ex, _⟩ := I.aK p _ hk
        exact ⟨o, e, ex⟩
     obtain ⟨o, e, ex⟩ := z
     refine ⟨⟨o, e, ex.1⟩, fun a e2 => ?_⟩
     cases e2
     exact ⟨o, e, ex.2.1⟩
   . obtain ⟨o, _, _, _, e, ex, _⟩ := I.aK p _ hk
     refine ⟨⟨o, e, ex.1⟩, fun a e2 => ?_⟩
     cases e2
     exact ⟨o, e, ex.2.1⟩
 | _ => exact False.elim ty
def JA (K : PySem.W.Frag) (T : String) (r : V -> List V -> Hp -> VK -> Prop) (to : TE) (t : TA) : TE := fun σ H Q => to σ H fun x H1 => Hf K T x H1 /\ t σ H1 fun xs H2 => r x xs H2 Q
variable {o e : Expr} {es : List Expr} {to : TE} {t : TA} {name : Str} {apos dG : Pos} {T id : String} {r : V -> List V -> Hp -> VK -> Prop}
theorem Ax (pa : PlainAttrs T) (slot : Slot T name id) (LR : typeOf (.builtin id) = pure (.type "method_descriptor")) (hm : MK X id r) (ho : PE X o to) (ha : PA X (e :: es) t)
 (wy : attributeBase o name X.env (eval o X.env) = eval o X.env := by rfl)
 (Hu : ((backTo dG (starEach (e :: es) X.env)).all (fun x => !x.1) && (backToKw dG (keywordEach [] X.env)).all (fun x => x.1.isSome)
  && decide ((e :: es).length + ([] : List Keyword).length + (if ([] : List Keyword).isEmpty then 0 else 1) < 30)) = true := by rfl)
 (hline : (apos.endLine == dG.line) = true := by rfl) (hs : starEach (e :: es) X.env = (false, eval e X.env) :: starEach es X.env := by rfl) (pN : (backTo dG (starEach es X.env)).any (·.1) = false := by rfl) :
 PE X (.Call (.Attribute o name apos) (e :: es) [] dG) (JA X.K T r to t) := by
 intro pins s σ H Q I h
 refine wpAny_Call_method_late wy Hu hline rfl (cg (ho pins s σ H _ I h) fun v s1 ⟨x, H1, I1, r1, ty, q1⟩ => ?_)
 obtain ⟨h1, h2⟩ := CY I1 r1 ty
 refine ⟨T, id, pa, slot, LR, h1, h2, ?_⟩
 have hA := ha dG pins s1 σ H1 _ I1 q1
 rw [hs] at hA ⊢
 refine Calls.callWith_builtin (by show (false || (backTo dG (starEach es X.env)).any (·.1)) = false; rw [pN] <;> rfl) (Calls.evalArgs_plain ?_)
 exact cg hA fun us s2 ⟨vs, H2, I2, r2, q2⟩ => hm pins s2 σ H2 x vs v us Q I2 r1 r2 q2
end
def JW (X : Cx) (id : String) (r : V -> List V -> Hp -> VK -> Prop) : Prop :=
 ∀ (pins : List (Addr × Obj)) (s : Shared) (σ : St) (H : Hp) (x : V) (xs : List V) (v : Value) (us : List Value) (Q : VK), Inv X pins σ H s -> RelV x v -> Vals xs us -> r x xs H Q ->
   wpAny (model X.prog X.w) X.A (call (.builtin id) (v :: us)) (EP X pins σ Q) X.xe s
theorem Vals.one : ∀ {x : V} {us : List Value}, Vals [x] us -> ∃ u, us = [u] /\ RelV x u
 | _, _, .cons r .nil => ⟨_, rfl, r⟩
theorem Vals.reverse {xs : List V} {us : List Value} (h : Vals xs us) : Vals xs.reverse us.reverse := by
 induction h with
 | nil => exact .nil
 | cons r t ih => rw [List.reverse_cons, List.reverse_cons]; exact Vals.append ih (.cons r .nil)
section
variable {X : Cx} {pins : List (Addr × Obj)} {σ : St} {H : Hp} {s : Shared} {l b : Addr} {xs ys zs : List V}
theorem Inv.HM {aJ its' : List Value} {n : Nat} {f : Array Value -> Array Value} {t' : Nat} (I : Inv X pins σ H s) (hH : H l = some (.lst xs))
 (e : s.heap.get? l = some { cls := .type "list", data := .seq aJ.toArray n }) (hf : f aJ.toArray = its'.toArray) (hv : Vals ys its') (hz : ys.length <= sizeLine) :
 Inv X pins σ (upd H l (.lst ys)) { s with heap := s.heap.update l (Obj.mapSeq f), toks := t' } := by
 have q := PySem.IsL.update e f
 rw [hf] at q
 refine I.write (x := l) (e := l) (by rw [hH]; exact trivial) (.inl rfl) (fun b' u hb hu => (Heap.get?_update_other s.heap (Obj.mapSeq f) (Ne.symm hb)).trans hu) ⟨_, q⟩ ?_
 exact ⟨hz, its', _, hv, q⟩
theorem Inv.Hs {aJ : List Value} {t' : Nat} (I : Inv X pins σ H s) (hv : Vals ys aJ) (hz : ys.length <= sizeLine) :
 Inv X pins σ (upd H s.heap.objs.size (.lst ys)) { s with heap := s.heap.push { cls := .type "list", data := .seq aJ.toArray }, toks := t' } :=
 I.laid (fun _ _ q => Heap.get?_push_of_some _ q) (Nat.le_refl _) ⟨hz, aJ, 0, hv, Heap.get?_push_size _ rfl⟩
theorem Inv.fresh (I : Inv X pins σ H s) : H s.heap.objs.size = none := I.aK.fresh (Nat.le_refl _)
theorem Inv.y9 (I : Inv X pins σ H s) (hH : H l = some (.lst xs)) : xs.length <= sizeLine /\ ∃ (aJ : List Value) (n : Nat), Vals xs aJ /\ xs.length = aJ.length /\ s.heap.get? l = some { cls := .type "list", data := .seq aJ.toArray n } := by
 obtain ⟨z, aJ, n, r, e⟩ := I.aK l _ hH
 exact ⟨z, aJ, n, r, r.length, e⟩
end
section
variable {X : Cx}
def tD : V -> List V -> Hp -> VK -> Prop := fun x vs H Q => ∃ l xs y, x = .ref l /\ vs = [y] /\ H l = some (.lst xs) /\ xs.length < sizeLine /\ Q .aY (upd H l (.lst (xs ++ [y])))
theorem vm : JW X "list.append" tD := by
 intro pins s σ H x vs v us Q I rx rv h
 obtain ⟨l, xs, y, rfl, rfl, hH, hz, q⟩ := h
 cases rx
 obtain ⟨u, rfl, ru⟩ := rv.one
 obtain ⟨z, aJ, n, r, hl, e⟩ := I.y9 hH
 refine call_meets F.slot_list_append ⟨_, e, rfl⟩ F.entry_list_append (F.args_list_append_2 _ _) (PySem.list_append l aJ.toArray n u (by rw [List.size_toArray]; omega)) ⟨e, ?_⟩
 refine ⟨.aY, _, I.HM (its' := aJ ++ [u]) hH e (by simp) (r.append (.cons ru .nil)) ?_, rfl, q⟩
 rw [List.length_append, List.length_singleton]
 omega
def Fi : R2 := fun x y H Q => ∃ l b xs zs, x = .ref l /\ y = .ref b /\ H l = some (.lst xs) /\ H b = some (.lst zs) /\ xs.length + zs.length <= sizeLine /\ ∀ p, H p = none -> Q (.ref p) (upd H p (.lst (xs ++ zs)))
theorem Bo : ki X (binaryOp .Add) Fi := by
 intro pins s σ H x y v u Q I rx ry h
 obtain ⟨l, b, xs, zs, rfl, rfl, hH, hB, hz, q⟩ := h
 cases rx
 cases ry
 obtain ⟨z, aJ, n, r, hl, e⟩ := I.y9 hH
 obtain ⟨z2, Fw, n2, r2, G1, e2⟩ := I.y9 hB
 refine PySem.P.add_list e e2 ?_ (by rw [List.size_toArray, List.size_toArray]; omega)
 have ea : aJ.toArray ++ Fw.toArray = (aJ ++ Fw).toArray := by simp
 rw [ea]
 exact ⟨.ref _, _, I.Hs (t' := s.toks) (r.append r2) (by rw [List.length_append]; omega), rfl, q _ I.fresh⟩
end
section
variable {prog : Program} {w : World} {A : Around} {E : Value -> Shared -> Prop} {s : Shared}
set_option maxRecDepth 100000 in
end
section
variable {X : Cx}
end
section
variable {κ : Type} [DecidableEq κ]
def km (kvs : List (κ × V)) (k : κ) : Option V := (kvs.find? fun kv => decide (kv.1 = k)).map (·.2)
def putK (kvs : List (κ × V)) (k : κ) (v : V) : List (κ × V) :=
 if (kvs.any fun kv => decide (kv.1 = k)) = true then kvs.map (fun kv => if kv.1 = k then (kv.1, v) else kv) else kvs ++ [(k, v)]
theorem jZ {p : κ × V} {r : List (κ × V)} {k : κ} (e : p.1 = k) : km (p :: r) k = some p.2 := by simp [km, List.find?_cons, e]
theorem iD {p : κ × V} {r : List (κ × V)} {k : κ} (e : ¬ p.1 = k) : km (p :: r) k = km r k := by simp [km, List.find?_cons, e]
theorem rh (k : κ) : ∀ kvs : List (κ × V), (kvs.any fun kv => decide (kv.1 = k)) = (km kvs k).isSome
 | [] => rfl
 | p :: r => by
   rw [List.any_cons]
   by_cases e : p.1 = k
   . simp only [jZ e, decide_eq_true e, Bool.true_or, Option.isSome_some]
   . rw [iD e, decide_eq_false e, Bool.false_or]; exact rh k r
theorem k9 (kvs : List (κ × V)) (k : κ) (v : V) : (putK kvs k v).length <= kvs.length + 1 := by
 unfold putK
 split
 . rw [List.length_map]; omega
 . rw [List.length_append, List.length_cons, List.length_nil]; omega
theorem iL.gs {o : Option V} {u : Option Value} (r : iL o u) : o.isSome = u.isSome := by
 cases o with
 | none => cases u with
   | none => rfl
   | some _ => exact (show False from r).elim
 | some _ => cases u with
   | none => exact (show False from r).elim
   | some _ => rfl
theorem KV.val {kvs : List (κ × V)} {vs : List (κ × Value)} (r : KV kvs vs) (k : κ) : iL (km kvs k) (valueAt vs k) := by
 unfold KV at r
 induction r with
 | nil => exact True.intro
 | @cons p q ps qs h t ih =>
   obtain ⟨h1, h2⟩ := h
   by_cases e : p.1 = k
   . have e' : q.1 = k := h1.symm.trans e
     have b : valueAt (q :: qs) k = some q.2 := by simp [valueAt, List.find?_cons, e']
     rw [jZ e, b]; exact h2
   . have e' : ¬ q.1 = k := fun z => e (h1.trans z)
     have b : valueAt (q :: qs) k = valueAt qs k := by simp [valueAt, List.find?_cons, e']
     rw [iD e, b]; exact ih
theorem KV.any {kvs : List (κ × V)} {vs : List (κ × Value)} (r : KV kvs vs) (k : κ) : (kvs.any fun kv => decide (kv.1 = k)) = vs.any fun kv => decide (kv.1 = k) := by
 unfold KV at r
 induction r with
 | nil => rfl
 | cons h t ih => rw [List.any_cons, List.any_cons, ih, h.1]
theorem KV.repl {kvs : List (κ × V)} {vs : List (κ × Value)} (r : KV kvs vs) (k : κ) {y : V} {u : Value} (ry : RelV y u) :
 KV (kvs.map fun kv => if kv.1 = k then (kv.1, y) else kv) (vs.map fun kv => if kv.1 = k then (kv.1, u) else kv) := by
 unfold KV at r ⊢
 induction r with
 | nil => exact .nil
 | @cons p q ps qs h t ih =>
   rw [List.map_cons, List.map_cons]
   refine .cons ?_ ih
   obtain ⟨h1, h2⟩ := h
   by_cases e : p.1 = k
   . rw [if_pos e, if_pos (h1.symm.trans e)]; exact ⟨h1, ry⟩
   . rw [if_neg e, if_neg (fun z => e (h1.trans z))]; exact ⟨h1, h2⟩
theorem KV.put {kvs : List (κ × V)} {vs : List (κ × Value)} (r : KV kvs vs) (k : κ) {y : V} {u : Value} (ry : RelV y u) : KV (putK kvs k y) (stored vs k u) := by
 unfold putK stored
 rw [r.any k]
 by_cases e : (vs.any fun kv => decide (kv.1 = k)) = true
 . rw [if_pos e, if_pos e]; exact r.repl k ry
 . rw [if_neg e, if_neg e]; exact Paired.snoc r ⟨rfl, ry⟩
theorem KV.length {kvs : List (κ × V)} {vs : List (κ × Value)} (r : KV kvs vs) : kvs.length = vs.length := Paired.length r
end
theorem qw {P : Program} {w : World} {k : Key} {u : Value} (r : RelV (kV k) u) : (bM P w).is k u = true := by
 cases k with
 | inl i => obtain ⟨t, e⟩ := (show ∃ t, u = Value.int i t from r); subst e; exact qC P w i t
 | inr x => obtain ⟨t, e⟩ := (show ∃ t, u = Value.str x t from r); subst e; exact qi P w x t
theorem oB {P : Program} {w : World} : ∀ {ks : List Key} {us : List Value}, Vals (ks.map kV) us -> ItemsAre (bM P w) ks us
 | [], _, r => by rw [List.map_nil] at r; cases r; exact .nil
 | k :: ks, _, r => by
   rw [List.map_cons] at r
   cases r with
   | cons h t => exact .cons (qw h) (oB t)
abbrev KT (H : Hp) : List (List Key × V) -> List (List Key × Addr × Value) -> Prop := Paired fun p q => p.1 = q.1 /\ H q.2.1 = some (.tup (p.1.map kV)) /\ RelV p.2 q.2.2
theorem KT.val {H : Hp} {kvs : List (List Key × V)} {xs : List (List Key × Addr × Value)} (r : KT H kvs xs) (k : List Key) : iL (km kvs k) ((atKey xs k).map (·.2)) := by
 induction r with
 | nil => exact True.intro
 | @cons p q ps qs h t ih =>
   obtain ⟨h1, _, h2⟩ := h
   by_cases e : p.1 = k
   . have e' : q.1 = k := h1.symm.trans e
     have b : atKey (q :: qs) k = some q.2 := by simp [atKey, List.find?_cons, e']
     rw [jZ e, b]; exact h2
   . have e' : ¬ q.1 = k := fun z => e (h1.trans z)
     have b : atKey (q :: qs) k = atKey qs k := by simp [atKey, List.find?_cons, e']
     rw [iD e, b]; exact ih
theorem KT.repl {H : Hp} {kvs : List (List Key × V)} {xs : List (List Key × Addr × Value)} (r : KT H kvs xs) (k : List Key) {y : V} {u : Value} (ry : RelV y u) :
 KT H (kvs.map fun kv => if kv.1 = k then (kv.1, y) else kv) (xs.map (putAt k u)) := by
 induction r with
 | nil => exact .nil
 | @cons p q ps qs h t ih =>
   rw [List.map_cons, List.map_cons]
   refine .cons ?_ ih
   obtain ⟨h1, h2, h3⟩ := h
   unfold putAt
   by_cases e : p.1 = k
   . rw [if_pos e, if_pos (h1.symm.trans e)]; exact ⟨h1, h2, ry⟩
   . rw [if_neg e, if_neg (fun z => e (h1.trans z))]; exact ⟨h1, h2, h3⟩
theorem KT.put {H : Hp} {kvs : List (List Key × V)} {xs : List (List Key × Addr × Value)} (r : KT H kvs xs) (k : List Key) {b : Addr} {y : V} {u : Value} (hb : H b = some (.tup (k.map kV))) (ry : RelV y u) :
 KT H (putK kvs k y) (storedH xs k b u) := by
 have e : (kvs.any fun kv => decide (kv.1 = k)) = (atKey xs k).isSome := by
  rw [rh, (r.val k).gs, Option.isSome_map]
 unfold putK storedH
 rw [e]
 by_cases q : (atKey xs k).isSome = true
 . rw [if_pos q, if_pos q]; exact r.repl k ry
 . rw [if_neg q, if_neg q]; exact Paired.snoc r ⟨rfl, hb, ry⟩
theorem KT.keeps {H H' : Hp} {kvs : List (List Key × V)} {xs : List (List Key × Addr × Value)} (r : KT H kvs xs) (ht : ∀ b ys, H b = some (.tup ys) -> H' b = some (.tup ys)) : KT H' kvs xs :=
 Paired.CV r fun _ _ z => ⟨z.1, ht _ _ z.2.1, z.2.2⟩
section
variable {P : Program} {w : World} {H : Hp} {h : Heap} {a : Addr}
theorem AK {u : HO} (ok : iU P w H h) (e : Rd H a u) : bo P w H h a u := e.ok ok
theorem ql {kvs : List (Key × V)} (ok : iU P w H h) (e : Rd H a (.dK kvs)) : kvs.length <= sizeLine /\ (a == sysModules) = false /\ ∃ vs, KV kvs vs /\ h.DictOf (bM P w) a vs :=
 show bo P w H h a (.dK kvs) from AK ok e
theorem EF {kvs : List (Key × V)} (ok : iU P w H h) (e : H a = some (.dK kvs)) : kvs.length <= sizeLine /\ (a == sysModules) = false /\ ∃ vs, KV kvs vs /\ h.DictOf (bM P w) a vs := ql ok (.inl e)
theorem nr {ks : List Key} (ok : iU P w H h) (e : H a = some (.tup (ks.map kV))) : (tupleKind (bM P w)).is h ks a := by
 obtain ⟨_, aJ, r, o, h1, h2, n, h3⟩ := (show bo P w H h a (.tup (ks.map kV)) from ok a _ e)
 exact ⟨o, aJ.toArray, n, h1, h2, h3, by simpa using oB r⟩
theorem qD {kvs : List (List Key × V)} (ok : iU P w H h) (e : Rd H a (.dT kvs)) : kvs.length <= sizeLine /\ (a == sysModules) = false /\
 ∃ xs, KT H kvs xs /\ h.DictOfH (tupleKind (bM P w)) a xs := by
 obtain ⟨z, y, xs, r, o, es, ep, h1, h2, h3, h4, h5⟩ := (show bo P w H h a (.dT kvs) from AK ok e)
 refine ⟨z, y, xs, r, o, es, ep, h1, h2, h3, h4, fun x hx => ?_, h5⟩
 have all : ∀ {l : List (List Key × V)} {m : List (List Key × Addr × Value)}, KT H l m -> ∀ x ∈ m, (tupleKind (bM P w)).is h x.1 x.2.1 := by
  intro l m q
  induction q with
  | nil => intro x hx; exact nomatch hx
  | @cons p q ps qs hq t ih =>
    intro x hx
    rcases List.mem_cons.mp hx with e | hx
    . subst e
      exact nr ok (by rw [<- hq.1]; exact hq.2.1)
    . exact ih x hx
 exact all r x hx
theorem Gm {kvs : List (List Key × V)} (ok : iU P w H h) (e : H a = some (.dT kvs)) : kvs.length <= sizeLine /\ (a == sysModules) = false /\
 ∃ xs, KT H kvs xs /\ h.DictOfH (tupleKind (bM P w)) a xs := qD ok (.inl e)
end
def lC (H : Hp) (a : Addr) (y : V) (r : Option V) : Prop :=
 (∃ kvs k, Rd H a (.dK kvs) /\ y = kV k /\ r = km kvs k) \/ ∃ kvs k b, Rd H a (.dT kvs) /\ y = .ref b /\ H b = some (.tup (k.map kV)) /\ r = km kvs k
def sJ (H : Hp) (a : Addr) (y v : V) (H' : Hp) : Prop :=
 (∃ kvs k, H a = some (.dK kvs) /\ y = kV k /\ kvs.length < sizeLine /\ H' = upd H a (.dK (putK kvs k v))) \/
 ∃ kvs k b, H a = some (.dT kvs) /\ y = .ref b /\ H b = some (.tup (k.map kV)) /\ kvs.length < sizeLine /\ H' = upd H a (.dT (putK kvs k v))
theorem sJ.k {H : Hp} {a : Addr} {kvs : List (Key × V)} {k : Key} {v : V} (e : H a = some (.dK kvs)) (hl : kvs.length < sizeLine) : sJ H a (kV k) v (upd H a (.dK (putK kvs k v))) := .inl ⟨kvs, k, e, rfl, hl, rfl⟩
section
variable {X : Cx} {pins : List (Addr × Obj)} {σ : St} {H : Hp} {s : Shared} {a : Addr} {y v : V} {u r : Value} {o : Option V} {A : Around} {E : Value -> Shared -> Prop}
theorem Inv.big (I : Inv X pins σ H s) : sysModules < s.heap.objs.size := by
 have h : mainGlobals < s.heap.objs.size := (I.mod.glob.keeps I.bk).lt
 exact Nat.lt_trans (by decide) h
theorem vf {Q : Value -> Shared -> Prop} (hu : A.units + 1 < cLine) (I : Inv X pins σ H s) (g : lC H a y (some v)) (ry : RelV y u) (h : ∀ w' s', Inv X pins σ H s' -> RelV v w' -> Q w' s') :
 wpAny (model X.prog X.w) A (getItem (.ref a) u) Q E s := by
 rcases g with ⟨kvs, k, e, ey, l⟩ | ⟨kvs, k, b, e, ey, eb, l⟩
 . subst ey
   obtain ⟨z, hd, vs, rel, dd⟩ := ql I.aK e
   obtain ⟨w', hw, zN⟩ := iL.some_of (v := v) (o := valueAt vs k) (by rw [l]; exact rel.val k)
   exact wpAny_getItem_of (qw ry) dd.mapOf hw (h w' _ (I.tok _) zN)
 . subst ey
   cases (show u = Value.ref b from ry)
   obtain ⟨z, hd, xs, rel, dd⟩ := qD I.aK e
   obtain ⟨w', hw, zN⟩ := iL.some_of (v := v) (o := (atKey xs k).map (·.2)) (by rw [l]; exact rel.val k)
   obtain ⟨p, hp, Jw⟩ := Option.map_eq_some_iff.mp hw
   refine wpAny_getItem_heap (tupleKind_room_in1 hu) (nr I.aK eb) dd hp ?_
   rw [Jw]
   exact h w' _ (I.tok _) zN
theorem Iv {Q : Value -> Shared -> Prop} (hu : A.units + 1 < cLine) (I : Inv X pins σ H s) (g : lC H a y o) (ry : RelV y u) (h : ∀ s', Inv X pins σ H s' -> Q (.bool o.isSome) s') :
 wpAny (model X.prog X.w) A (compareOp .In u (.ref a)) Q E s := by
 rcases g with ⟨kvs, k, e, ey, l⟩ | ⟨kvs, k, b, e, ey, eb, l⟩
 . subst ey
   obtain ⟨z, hd, vs, rel, dd⟩ := ql I.aK e
   refine wpAny_in_of (qw ry) hd dd.mapOf ?_
   rw [<- (rel.val k).gs, <- l]
   exact h _ (I.tok _)
 . subst ey
   cases (show u = Value.ref b from ry)
   obtain ⟨z, hd, xs, rel, dd⟩ := qD I.aK e
   refine wpAny_in_heap (tupleKind_room_in1 hu) (nr I.aK eb) hd dd ?_
   have q := (rel.val k).gs
   rw [Option.isSome_map] at q
   rw [<- q, <- l]
   exact h _ (I.tok _)
theorem zF {Q : Value -> Shared -> Prop} (hu : A.units + 1 < cLine) (I : Inv X pins σ H s) (g : lC H a y o) (ry : RelV y u) (h : ∀ s', Inv X pins σ H s' -> Q (.bool (!o.isSome)) s') :
 wpAny (model X.prog X.w) A (compareOp .NotIn u (.ref a)) Q E s := by
 rcases g with ⟨kvs, k, e, ey, l⟩ | ⟨kvs, k, b, e, ey, eb, l⟩
 . subst ey
   obtain ⟨z, hd, vs, rel, dd⟩ := ql I.aK e
   refine wpAny_notIn_of (qw ry) hd dd.mapOf ?_
   rw [<- (rel.val k).gs, <- l]
   exact h _ (I.tok _)
 . subst ey
   cases (show u = Value.ref b from ry)
   obtain ⟨z, hd, xs, rel, dd⟩ := qD I.aK e
   refine wpAny_notIn_heap (tupleKind_room_in1 hu) (nr I.aK eb) hd dd ?_
   have q := (rel.val k).gs
   rw [Option.isSome_map] at q
   rw [<- q, <- l]
   exact h _ (I.tok _)
theorem tO {h' : Heap} {t' : Nat} {ob : HO} (I : Inv X pins σ H s) (mu : Ew (H a)) (hs : Heap.SameBut a s.heap h') (he : ∃ q, h'.get? a = some q) (new : bo X.prog X.w (upd H a ob) h' a ob) :
 Inv X pins σ (upd H a ob) { s with heap := h', toks := t' } :=
 I.write (x := a) (e := a) mu (.inl rfl) (fun b q hb z => (hs.2 b hb).trans z) he new
theorem Cq {P : Program} {w : World} {H' : Hp} {h' : Heap} {kvs : List (Key × V)} {vs : List (Key × Value)} (z : kvs.length <= sizeLine) (hd : (a == sysModules) = false) (rel : KV kvs vs) (dd : h'.DictOf (bM P w) a vs) :
 bo P w H' h' a (.dK kvs) := ⟨z, hd, vs, rel, dd⟩
theorem uz {H' : Hp} {Q : Unit -> Shared -> Prop} (hu : A.units + 1 < cLine) (I : Inv X pins σ H s) (g : sJ H a y v H') (ry : RelV y u) (rv : RelV v r) (h : ∀ s', Inv X pins σ H' s' -> Q () s') :
 wpAny (model X.prog X.w) A (setItem (.ref a) u r) Q E s := by
 rcases g with ⟨kvs, k, e, ey, l, eH⟩ | ⟨kvs, k, b, e, ey, eb, l, eH⟩
 . subst ey eH
   obtain ⟨z, hd, vs, rel, dd⟩ := EF I.aK e
   have hz : vs.length <= sizeLine := by rw [<- rel.length]; exact z
   have hl : (putK kvs k v).length <= sizeLine := by have := k9 kvs k v; omega
   refine wpAny_setItem_pairs (hsz := hz) (qw ry) dd fun h' Bx hs => h _ ?_
   have he : ∃ q, h'.get? a = some q := let ⟨q, _, _, hq, _⟩ := Bx; ⟨q, hq⟩
   exact tO I (by rw [e]; exact True.intro) hs he (Cq hl hd (rel.put k rv) Bx)
 . subst ey eH
   cases (show u = Value.ref b from ry)
   obtain ⟨z, hd, xs, rel, dd⟩ := Gm I.aK e
   have hz : xs.length <= sizeLine := by rw [<- Paired.length rel]; exact z
   have hl : (putK kvs k v).length <= sizeLine := by have := k9 kvs k v; omega
   refine wpAny_setItem_heap (hsz := hz) (tupleKind_room_in1 hu) (nr I.aK eb) dd fun h' Bx hs => h _ ?_
   obtain ⟨q, es, ep, hq, h2, h3, h4, _, h5⟩ := Bx
   refine tO I (by rw [e]; exact True.intro) hs ⟨q, hq⟩ ⟨hl, hd, _, (rel.put k eb rv).keeps fun c ys ec => ?_, q, es, ep, hq, h2, h3, h4, h5⟩
   rw [ak (A9 ec e (fun z => nomatch z))]
   exact ec
end
section
variable {X : Cx} {pins : List (Addr × Obj)} {σ : St} {H : Hp} {s : Shared} {a : Addr} {kvs : List (Key × V)} {k : Key} {u : Value} {A : Around} {E : Value -> Shared -> Prop}
end
def FD (i : Expr) : Prop := ∀ ov iv, subscripted i false ov iv = operate [ov, iv] (getItem ov iv)
theorem An {prog : Program} {w : World} {A : Around} {E : Value -> Shared -> Prop} {s : Shared} {env : Env} {value slice : Expr} {pos : Pos} {T id : String} {Q : Value -> Shared -> Prop}
 (hl : typeLookup (.type T) "__getitem__" = pure (some (.builtin id))) (hs : FD slice)
 (h : wpAny (model prog w) A (eval value env) (fun o s₁ => wpAny (model prog w) A (eval slice env) (fun i s₂ => s₂.TypeIs o T /\ wpAny (model prog w) A (getItem o i) Q E s₂) E s₁) E s) :
 wpAny (model prog w) A (eval (.Subscript value slice pos) env) Q E s := by
 refine Subscript_ (wpAny_mono h (fun o s₁ h₁ => wpAny_mono h₁ (fun i s₂ h₂ => ?_) fun _ _ x => x) fun _ _ x => x)
 obtain ⟨hT, h₂⟩ := h₂
 unfold subscriptTail
 refine wpAny_bind ?_
 rw [getitemInPython_of_ne hT.not_modules]
 refine wpAny_bind (wpAny_specialOf hT hl ?_)
 have fin : wpAny (model prog w) A (subscripted slice false o i) (fun r s₃ => wpAny (model prog w) A (letTemporaryGo value o r >>= fun _ => pure r) Q E s₃) E s₂ := by
  rw [hs o i]
  exact wpAny_operating (wpAny_mono h₂ (fun r s₃ h₃ => wpAny_bind (wpAny_letTemporaryGo (wpAny_pure h₃))) fun _ _ x => x)
 first
  | exact wpAny_pure (wpAny_bind fin)
  | exact wpAny_bind (wpAny_pure (wpAny_bind fin))
  | exact wpAny_bind fin
theorem q0 {X : Cx} {pins : List (Addr × Obj)} {σ : St} {H : Hp} {s : Shared} {a : Addr} {y : V} {o : Option V} (I : Inv X pins σ H s) (g : lC H a y o) : s.TypeIs (.ref a) "dict" := by
 rcases g with ⟨kvs, k, e, _, _⟩ | ⟨kvs, k, b, e, _, _, _⟩
 . obtain ⟨_, _, vs, _, dd⟩ := ql I.aK e
   exact dd.typeIs
 . obtain ⟨_, _, xs, _, dd⟩ := qD I.aK e
   exact dd.typeIs
def Az (td ty : TE) : TE := fun σ H Q => td σ H fun x H1 => ty σ H1 fun y H2 => ∃ a v, x = .ref a /\ lC H2 a y (some v) /\ Q v H2
def E4 (ty td : TE) : TE := fun σ H Q => ty σ H fun y H1 => td σ H1 fun x H2 => ∃ a o, x = .ref a /\ lC H2 a y o /\ Q (.bl o.isSome) H2
def t6 (ty td : TE) : TE := fun σ H Q => ty σ H fun y H1 => td σ H1 fun x H2 => ∃ a o, x = .ref a /\ lC H2 a y o /\ Q (.bl (!o.isSome)) H2
def AF (td ty tv : TE) : TS := fun D σ H => tv σ H fun v H1 => td σ H1 fun x H2 => ty σ H2 fun y H3 => ∃ a H4, x = .ref a /\ sJ H3 a y v H4 /\ D.nx σ H4
section
variable {X : Cx} {o i e value : Expr} {pos pos' Iu : Pos} {td ty tv : TE}
theorem yI (hu : X.A.units + 1 < cLine) (ho : PE X o td) (hi : PE X i ty) (hs : FD i) : PE X (.Subscript o i pos) (Az td ty) := by
 intro pins s σ H Q I h
 refine An PySem.F.slot_dict_getitem.lookup hs (cg (ho pins s σ H _ I h) fun u s1 ⟨x, H1, I1, rx, q1⟩ => cg (hi pins s1 σ H1 _ I1 q1) fun iv s2 ⟨y, H2, I2, ry, a, v, ex, g, q2⟩ => ?_)
 subst ex
 obtain rfl : u = Value.ref a := rx
 exact ⟨q0 I2 g, vf hu I2 g ry fun w' s3 I3 zN => ⟨v, H2, I3, zN, q2⟩⟩
theorem sh (hu : X.A.units + 1 < cLine) (hi : PE X i ty) (ho : PE X o td) : PC X .In i o (E4 ty td) := by
 intro pins s σ H Q I h
 refine cg (hi pins s σ H _ I h) fun iv s1 ⟨y, H1, I1, ry, q1⟩ => cg (ho pins s1 σ H1 _ I1 q1) fun u s2 ⟨x, H2, I2, rx, a, ov, ex, g, q2⟩ => ?_
 subst ex
 obtain rfl : u = Value.ref a := rx
 exact Iv hu I2 g ry fun s3 I3 => ⟨.bl ov.isSome, H2, I3, rfl, q2⟩
theorem uH (hu : X.A.units + 1 < cLine) (hi : PE X i ty) (ho : PE X o td) : PC X .NotIn i o (t6 ty td) := by
 intro pins s σ H Q I h
 refine cg (hi pins s σ H _ I h) fun iv s1 ⟨y, H1, I1, ry, q1⟩ => cg (ho pins s1 σ H1 _ I1 q1) fun u s2 ⟨x, H2, I2, rx, a, ov, ex, g, q2⟩ => ?_
 subst ex
 obtain rfl : u = Value.ref a := rx
 exact zF hu I2 g ry fun s3 I3 => ⟨.bl (!ov.isSome), H2, I3, rfl, q2⟩
theorem zI (hu : X.A.units + 1 < cLine) (ho : PE X o td) (hi : PE X i ty) (hv : PE X value tv) (hs : swapsWith value (some (.Subscript o i pos')) pos.line X.env = pure false) :
 PS X (.Assign [.Subscript o i pos'] value pos) (AF td ty tv) := by
 intro pins s σ H D I h
 refine wpAny_Assign_Subscript (cg (hv pins s σ H _ I h) fun r s1 ⟨v, H1, I1, rv, q1⟩ => cg (ho pins s1 σ H1 _ I1 q1) fun u s2 ⟨x, H2, I2, rx, q2⟩ => cg (hi pins s2 σ H2 _ I2 q2) fun iv s3 ⟨y, H3, I3, ry, a, H4, ex, g, q3⟩ => ?_) hs
 subst ex
 obtain rfl : u = Value.ref a := rx
 exact uz hu I3 g ry rv fun s4 I4 => ⟨σ, H4, I4, q3⟩
end
theorem xX {P : Program} {w : World} {H : Hp} (h : Heap) (hb : sysModules < h.objs.size) : bo P w H (h.push { cls := .type "dict", data := .dict #[] }) h.objs.size (.dK []) :=
 ⟨Nat.zero_le _, beq_eq_false_iff_ne.mpr (Ne.symm (Nat.ne_of_lt hb)), [], .nil, Heap.DictOf.new h⟩
def wB : TE := fun _ H Q => ∀ p, H p = none -> Q (.ref p) (upd H p (.dK []))
section
variable {X : Cx} {pos : Pos}
theorem qk : PE X (.Dict [] [] pos) wB := fun pins s σ H Q I h =>
 wpAny_Dict_empty ⟨.ref s.heap.objs.size, _, I.laid (a := s.heap.objs.size) (o := .dK []) (t' := s.toks) (fun _ _ q => Heap.get?_push_of_some _ q) (Nat.le_refl _) (xX s.heap I.big), rfl, h _ (I.aK.fresh (Nat.le_refl _))⟩
end
structure M1 (X : Cx) (o : Expr) (m : Str) (apos : Pos) (e : Expr) (dG : Pos) : Prop where
 base : attributeBase o m X.env (eval o X.env) = eval o X.env
 few : ((backTo dG (starEach [e] X.env)).all (fun x => !x.1) && (backToKw dG (keywordEach [] X.env)).all (fun x => x.1.isSome)
  && decide (([e] : List Expr).length + ([] : List Keyword).length + (if ([] : List Keyword).isEmpty then 0 else 1) < 30)) = true
 line : (apos.endLine == dG.line) = true
 trees : backTo dG (starEach [e] X.env) = [(false, eval e X.env)]
structure M2 (X : Cx) (o : Expr) (m : Str) (apos : Pos) (e f : Expr) (dG : Pos) : Prop where
 base : attributeBase o m X.env (eval o X.env) = eval o X.env
 few : ((backTo dG (starEach [e, f] X.env)).all (fun x => !x.1) && (backToKw dG (keywordEach [] X.env)).all (fun x => x.1.isSome)
  && decide (([e, f] : List Expr).length + ([] : List Keyword).length + (if ([] : List Keyword).isEmpty then 0 else 1) < 30)) = true
 line : (apos.endLine == dG.line) = true
 trees : backTo dG (starEach [e, f] X.env) = [(false, eval e X.env), (false, eval f X.env)]
section
variable {X : Cx} {pins : List (Addr × Obj)} {σ : St} {H : Hp} {s : Shared} {a : Addr} {y d : V} {u r : Value} {o : Option V} {A : Around} {E : Value -> Shared -> Prop}
end
section
variable {X : Cx} {o e f : Expr} {apos dG : Pos} {td ty tx : TE}
end
section
variable {X : Cx} {pins : List (Addr × Obj)} {σ : St} {H : Hp} {s : Shared} {a : Addr} {kvs : List (Key × V)} {A : Around} {E : Value -> Shared -> Prop}
end
section
variable {X : Cx} {pins : List (Addr × Obj)} {σ : St} {H : Hp} {s : Shared} {a : Addr} {y : V} {u : Value} {A : Around} {E : Value -> Shared -> Prop}
end
end L2
namespace JG
open PySem PySem.W PySem.Calls PyProof.Rows
theorem lK {P : Params} {h : Heap} : ∀ (ns : List Int) (vs : List Value), WellAll P h vs (ns.map WData.int) -> IntsAre vs ns := by
 intro ns
 induction ns with
 | nil =>
   intro vs w
   rw [List.map_nil] at w
   cases w
   exact .nil
 | cons n ns ih =>
   intro vs w
   rw [List.map_cons] at w
   cases w with
   | cons a b =>
     cases a
     exact .cons _ _ (ih _ b)
theorem uC {l : OpenLaw} {n : Nat} (hn : l.most = some n) {P : Params} {h : Heap} {args : List WData} {vals : List Value}
 (ym : l.row.toRowW.claim.pre args = true) (Ht : WellAll P h vals args) :
 ∃ a vs ns, vals = [Value.ref a] /\ args = [WData.list (ns.map WData.int)] /\ h.get? a = some { cls := .type "list", data := .seq vs.toArray } /\ IntsAre vs ns /\ ns.length <= n := by
 have M0 : WShape.hasAll [] args [.list .int] = true := (pre_splitW ym).1
 have hc : l.pre.holds [] { args := args } = true := (pre_splitW ym).2
 obtain ⟨d, r, rfl, h1, h2⟩ := hasAllW_cons M0
 obtain rfl := hasAllW_nil h2
 obtain ⟨xs, rfl, h3⟩ := hasW_list h1
 obtain ⟨ns, rfl⟩ := items_int h3
 have hlen : ns.length <= n := by
  unfold OpenLaw.pre at hc
  have h4 : (WTm.not (.lt (.lit (.int (n : Int))) (.len (.arg 0)))).holds [] { args := [.list (ns.map .int)] } = true := by
   have h4 := (holds_andW hc).1
   rw [hn] at h4
   exact h4
  have h5 := condW_of h4 (w_not (w_lt w_lit (w_len_list (w_arg rfl))))
  rw [List.length_map] at h5
  refine Nat.le_of_not_lt fun q => ?_
  have q' : (n : Int) < ((ns.length : Nat) : Int) := by omega
  first
   | (rw [decide_eq_true q'] at h5; exact absurd h5 (by decide))
   | (simp at h5; omega)
 cases Ht with
 | cons w1 w2 =>
   cases w2
   cases w1 with
   | list ho Dl => exact ⟨_, _, ns, rfl, rfl, ho, lK ns _ Dl, hlen⟩
theorem vo (l : OpenLaw) (args : List WData) : l.row.toRowW.claim.post args (.bool true) args = true :=
 postW_of (r := l.row.toRowW) (X := (true == true))
  (show WShape.has [] (.bool true) .bool = true by first | rfl | decide | simp [WShape.has, WShape.arms, WShape.armsAll])
  (show (WTm.eq .res (.lit (.bool true))).value [] { args := args, res := some (.bool true), after := args } = some (.bool (true == true)) from w_eq_bool (w_res rfl) w_lit) rfl
theorem qF {l : OpenLaw} {n : Nat} {q : Program} {loose : List Str} {XP : (Str -> Option Value) -> Heap -> Prop} {YP : World -> Heap -> Prop} {d : DefRec}
 (hn : l.most = some n) (Ji : d.params.defaults = [])
 (call : ∀ (w : World) (cA s₁ : Shared) (mg mb : Str -> Option Value) (fa : Addr) (o : Obj) (pm cd doc : Value) (a : Addr) (vs : List Value) (ns : List Int),
  Ground q loose [] XP w cA mg mb s₁.heap -> YP w s₁.heap ->
  s₁.heap.get? fa = some o -> o.data = .func (docDef d.name d.params d.body d.scope pm cd doc) -> s₁.heap.CodeRec cd d.name -> mg d.name = some (.ref fa) ->
  s₁.heap.get? a = some { cls := .type "list", data := .seq vs.toArray } -> IntsAre vs ns -> ns.length <= n -> s₁.gens = #[] ->
  codeAny (model l.prog w) callerA (.call (.ref fa) ⟨[.ref a], []⟩) (fun r s' => r = .ok (.ret (.bool true)) /\ OldK s₁.heap s'.heap /\ s'.os = s₁.os /\ AllBare s'.gens) s₁) :
 WalkO q loose XP YP l.row.toRowW d [] (fun f vs => PySem.call f vs) := by
 intro w cA s₁ mg mb G Y fa o pm cd doc dV kV ho hd mq hD Ca hg args vals as ym II GN Ht NF
 obtain rfl : dV = .none := Dflts.none hD Ji
 obtain rfl : kV = .none := Dflts.noKw hD
 obtain ⟨a, vs, ns, rfl, rfl, B1, hints, hlen⟩ := uC hn ym Ht
 refine enter_call (codeAny_mono (call w cA s₁ mg mb fa o pm cd doc a vs ns G Y ho (fd_plain hd) mq Ca B1 hints hlen hg) fun r s' hq => ?_)
 obtain ⟨rfl, h2, h3, h4⟩ := hq
 exact ⟨.inl ⟨.bool true, .bool true, [], rfl, fun _ => rfl, .bool true, vo l _, fun _ => ⟨List.Pairwise.nil, fun _ hm => (nomatch hm)⟩⟩, h2, h3, h4⟩
section
variable {prog : Program} {w : World} {A : Around} {E : Value -> Shared -> Prop} {s : Shared} {K : Frag}
end
end JG
namespace L2
open PySem PySem.Spec PyProof.Rows
theorem oI : ∀ {vs : List Value} {ns : List Int}, IntsAre vs ns -> Vals (ns.map V.int) vs
 | _, _, .nil => .nil
 | _, _, .cons n t h => .cons ⟨t, rfl⟩ (oI h)
def inClass (s : Stmt) (j : Nat) : Stmt := match s with
 | .ClassDef _ _ _ body _ _ _ _ _ _ _ => body.getD j (.Pass ⟨0, 0, 0, 0⟩)
 | _ => .Pass ⟨0, 0, 0, 0⟩
def j5 (s : Stmt) : Arguments := match s with
 | .FunctionDef _ a _ _ _ _ _ _ _ _ => a
 | _ => { posonlyargs := [], args := [], vararg := none, kwonlyargs := [], kw_defaults := [], kwarg := none, defaults := [] }
def fR (s : Stmt) : List Stmt := match s with
 | .FunctionDef _ _ b _ _ _ _ _ _ _ => b
 | _ => []
def ax (s : Stmt) : Scope := match s with
 | .FunctionDef _ _ _ _ _ _ sc _ _ _ => sc
 | _ => { kind := .function, names := [], isGenerator := false, isCoroutine := false }
abbrev ng : p0 := fun _ _ _ _ _ _ => False
abbrev E0 : XK := fun _ _ _ => False
theorem tX {X : Cx} : Passes ng X E0 := fun _ _ _ _ _ _ _ h => h.elim
structure Nu (K : PySem.W.Frag) (x qual : Str) (st : Stmt) (f : Addr) (fd : FuncData) : Prop where
 ex : ∃ (oc : Value) (od : Option Addr) (kV doc pm : Value) (an : Option Addr) (eh ct : Value) (sV : Array (Option Value)),
  fd = PySem.W.fnOf x qual (j5 st) (fR st) (ax st) .none kV doc pm an eh ct /\ K.lookup f = some ⟨oc, od, .func fd, sV⟩ /\ PySem.W.codeIn K eh qual = true
 kp : PySem.W.keepIn K (.ref f) = true
section
variable {P : Program} {w : World} {K : PySem.W.Frag} {mg : Str -> Option Value} {base : Heap}
end
theorem oi {A : Around} {k : Nat} (hr : a8 k A) : A.units + 1 < cLine := Nat.lt_of_le_of_lt (Nat.add_le_add_left (by decide : 1 <= 64) _) hr.units
section
variable {X : Cx}
theorem pv (i : Nat) {x : Str} {pos : Pos} (hN : X.N[i]? = some x := by rfl) (hv : BQ X.env.scope x := by first | exact Or.inl rfl | exact Or.inr (Or.inl rfl) | exact Or.inr (Or.inr rfl)) (hd : (x == ("__debug__" : Str)) = false := by decide)
 (mq : (x == ("__classdict__" : Str)) = false := by decide) : PE X (.Name x pos) (Dt i) := Df hN hv hd mq
end
theorem HF {A B : Prop} (h : B) : if false = true then A else B := by
 rw [if_neg Bool.false_ne_true]
 exact h
theorem Hj {A B : Prop} (h : A) : if true = true then A else B := by
 rw [if_pos rfl]
 exact h
def aB (H H' : Hp) : Prop := ∀ b o, H b = some o -> H' b = some o
theorem aB.refl (H : Hp) : aB H H := fun _ _ h => h
theorem aB.trans {H H1 H2 : Hp} (a : aB H H1) (b : aB H1 H2) : aB H H2 := fun c o h => b c o (a c o h)
theorem aB.seq {K : PySem.W.Frag} {H H' : Hp} {a : Addr} {xs : List V} (e : aB H H') (h : fL K H a xs) : fL K H' a xs := by
 rcases h with (h | ⟨o, h⟩) | h
 . exact .inl (.inl (e _ _ h))
 . exact .inl (.inr ⟨o, e _ _ h⟩)
 . exact .inr h
section
variable {κ : Type} [DecidableEq κ]
end
section
variable {X : Cx}
def tF (i j : Int) : Prop := i.natAbs < 2 ^ 2000 /\ j.natAbs < 2 ^ 2000
theorem tF.ok {i j : Int} (h : tF i j) : IntMulOk i j := by
 have h1 : Builtin.Int.intBits i <= 2000 := PyProof.Rows.intBits_le h.1
 have h2 : Builtin.Int.intBits j <= 2000 := PyProof.Rows.intBits_le h.2
 have h3 : Builtin.Int.intTooBig ((Builtin.Int.intBits i + Builtin.Int.intBits j : Nat) : Int) = false := by
  unfold Builtin.Int.intTooBig
  have : (bitsLine : Nat) = 134217728 := rfl
  refine decide_eq_false ?_
  omega
 unfold IntMulOk
 have h4 : Builtin.Int.intTooBig (Builtin.Int.intBits i + Builtin.Int.intBits j) = false := by
  have e : ((Builtin.Int.intBits i : Int) + (Builtin.Int.intBits j : Int)) = ((Builtin.Int.intBits i + Builtin.Int.intBits j : Nat) : Int) := by omega
  rw [e]; exact h3
 rw [h4]
 simp
theorem zS : ki X (binaryOp .Mult) (rI tF fun i j => .int (i * j)) := Il fun _ _ _ _ _ _ _ hc q => mul_int q hc.ok
def Be (_ j : Int) : Prop := 0 < j /\ j.natAbs < 2 ^ 2000
theorem iO : ki X (binaryOp .FloorDiv) (rI Be fun i j => .int (i / j)) := Il fun i j _ _ _ _ _ hc q => by
 have e : i.fdiv j = i / j := Int.fdiv_eq_ediv_of_nonneg _ (Int.le_of_lt hc.1)
 have hl : j.natAbs.log2 < 9000 := by
  have h0 : j.natAbs ≠ 0 := by have := hc.1; omega
  have h2 : j.natAbs.log2 < 2000 := (Nat.log2_lt h0).mpr hc.2
  omega
 refine floordiv_int (by have := hc.1; omega) ?_ (.inl (PyProof.noPylong_of_log2 hl))
 rw [e]; exact q
inductive Dr : V -> Value -> Prop where
 | ty (n : String) : Dr (.ty n) (.type n)
 | ref (C : Addr) : Dr (.ref C) (.ref C)
structure Kw (K : PySem.W.Frag) (C : Addr) (m : Str) (f : Addr) : Prop where
 ga : PySem.W.specialIn K (.ref C) "__getattribute__" = some (some (.builtin "type.__getattribute__"))
 rd : PySem.W.readsIn K C (.type "type") = true
 fd : PySem.W.findCls K (.ref C) (.type "type") m = some (.val (.ref f))
 kp : PySem.W.keepIn K (.ref f) = true
end
mutual
inductive iE (K : PySem.W.Frag) (H : Hp) : V -> PyData -> Prop where
 | aY : iE K H .aY .none
 | bl (b : Bool) : iE K H (.bl b) (.bool b)
 | int (i : Int) : iE K H (.int i) (.int i)
 | str (x : Str) : iE K H (.str x) (.str x)
 | tup {a : Addr} {xs : List V} {ds : List PyData} (h : uK K H a xs) (r : eB K H xs ds) : iE K H (.ref a) (.tuple ds)
 | lst {a : Addr} {xs : List V} {ds : List PyData} (h : fL K H a xs) (r : eB K H xs ds) : iE K H (.ref a) (.list ds)
inductive eB (K : PySem.W.Frag) (H : Hp) : List V -> List PyData -> Prop where
 | nil : eB K H [] []
 | cons {x : V} {d : PyData} {xs : List V} {ds : List PyData} (h : iE K H x d) (r : eB K H xs ds) : eB K H (x :: xs) (d :: ds)
end
theorem uK.keeps {K : PySem.W.Frag} {H H' : Hp} {a : Addr} {xs : List V} (e : aB H H') (h : uK K H a xs) : uK K H' a xs := by
 rcases h with (h | ⟨o, h⟩) | h
 . exact .inl (.inl (e _ _ h))
 . exact .inl (.inr ⟨o, e _ _ h⟩)
 . exact .inr h
mutual
theorem iE.keeps {K : PySem.W.Frag} {H H' : Hp} (e : aB H H') : ∀ {v : V} {d : PyData}, iE K H v d -> iE K H' v d
 | _, _, .aY => .aY
 | _, _, .bl b => .bl b
 | _, _, .int i => .int i
 | _, _, .str x => .str x
 | _, _, .tup h r => .tup (uK.keeps e h) (eB.keeps e r)
 | _, _, .lst h r => .lst (aB.seq e h) (eB.keeps e r)
theorem eB.keeps {K : PySem.W.Frag} {H H' : Hp} (e : aB H H') : ∀ {vs : List V} {ds : List PyData}, eB K H vs ds -> eB K H' vs ds
 | _, _, .nil => .nil
 | _, _, .cons h r => .cons (iE.keeps e h) (eB.keeps e r)
end
section
variable {X : Cx} {pins : List (Addr × Obj)} {σ : St} {H : Hp} {s : Shared}
mutual
theorem iE.reads (I : Inv X pins σ H s) : ∀ {v : V} {d : PyData} {u : Value}, iE X.K H v d -> RelV v u -> ∃ as, Reads s.heap u d as
 | _, _, _, .aY, r => by cases r; exact ⟨_, .none⟩
 | _, _, _, .bl b, r => by cases r; exact ⟨_, .bool b⟩
 | _, _, _, .int i, r => by obtain ⟨t, rfl⟩ := r; exact ⟨_, .int i t⟩
 | _, _, _, .str x, r => by obtain ⟨t, rfl⟩ := r; exact ⟨_, .str x t⟩
 | _, _, _, .tup h q, r => by
   cases r
   obtain ⟨aJ, rv, ⟨o, h1, h2, n, h3⟩, _⟩ := I.tuple h
   obtain ⟨as, ra⟩ := eB.reads I q rv
   exact ⟨_, .tuple h1 h2 h3 (by simpa using ra)⟩
 | _, _, _, .lst h q, r => by
   cases r
   obtain ⟨aJ, rv, ⟨o, n, h1, h2, _, h3⟩, _⟩ := I.list h
   obtain ⟨as, ra⟩ := eB.reads I q rv
   exact ⟨_, .list h1 h2 h3 (by simpa using ra)⟩
theorem eB.reads (I : Inv X pins σ H s) : ∀ {vs : List V} {ds : List PyData} {us : List Value}, eB X.K H vs ds -> Vals vs us -> ∃ as, ReadsAll s.heap us ds as
 | _, _, _, .nil, r => by cases r; exact ⟨_, .nil⟩
 | _, _, _, .cons h q, r => by
   cases r with
   | cons r1 r2 =>
     obtain ⟨as, ra⟩ := iE.reads I h r1
     obtain ⟨bs, rb⟩ := eB.reads I q r2
     exact ⟨_, .cons ra rb⟩
end
end
section
variable {X : Cx}
def FI (K : PySem.W.Frag) (f : Bool -> Bool) : R2 := fun x y H Q => ∃ d e, iE K H x d /\ iE K H y e /\ d.canLay0 = true /\ e.canLay0 = true /\ d.depth <= 8 /\ Q (.bl (f (PyData.eqv d e))) H
theorem B6 (hu : X.A.units + 8 < cLine) : ki X (compareOp .Eq) (FI X.K id) := by
 intro pins s σ H x y v u Q I rx ry h
 obtain ⟨d, e, hd, he, c1, c2, hn, q⟩ := h
 obtain ⟨as, ra⟩ := hd.reads I rx
 obtain ⟨bs, rb⟩ := he.reads I ry
 exact SeqAt.compareEq_reads ra rb c1 c2 (by have := Nat.min_le_left d.depth e.depth; omega) ⟨.bl _, H, I, rfl, q⟩
theorem C5 (hu : X.A.units + 8 < cLine) : ki X (compareOp .NotEq) (FI X.K not) := by
 intro pins s σ H x y v u Q I rx ry h
 obtain ⟨d, e, hd, he, c1, c2, hn, q⟩ := h
 obtain ⟨as, ra⟩ := hd.reads I rx
 obtain ⟨bs, rb⟩ := he.reads I ry
 exact SeqAt.compareNe_reads ra rb c1 c2 (by have := Nat.min_le_left d.depth e.depth; omega) ⟨.bl _, H, I, rfl, q⟩
end
structure nQ (P : Program) (w : World) (K : PySem.W.Frag) (mg : Str -> Option Value) (base : Heap) (k : Nat) (f : Addr) (ps : List Str) (bH : List V) (sp : Sp) : Prop where
 ex : ∃ (fd : FuncData) (ds : List Value), bw P w K mg base ng k f fd ps sp /\ Binds K fd ps ds /\ Vals bH ds
section
variable {X : Cx} {k : Nat} {f C : Addr} {ps : List Str} {sp : Sp} {bH : List V} {x m : Str} {p pos apos : Pos} {e o : Expr} {es : List Expr} {ta : TE} {t : TA}
theorem Aj (c : nQ X.prog X.w X.K X.mg X.base k f ps bH sp) (hr : a8 k X.A) (hg : Gl X x) (hm : X.mg x = some (.ref f)) (hk : PySem.W.keepIn X.K (.ref f) = true)
 (ha : PA X (e :: es) t) (nX : (x == ("__debug__" : Str)) = false := by decide) (he : starEach (e :: es) X.env = (false, eval e X.env) :: starEach es X.env := by rfl) (kr : (backTo pos (starEach es X.env)).any (·.1) = false := by rfl) :
 PE X (.Call (.Name x p) (e :: es) [] pos) (tW sp bH E0 t) := by
 obtain ⟨fd, ds, F, hb, hd⟩ := c.ex
 exact yU F hr hg hm hk hb hd tX ha nX he kr
theorem yL {pl : Sem Bool} (he : PE X o ta) (c : nF X.K C) (hm : Meth X.K C m f) (F : nQ X.prog X.w X.K X.mg X.base k f ps bH sp) (hr : a8 k X.A) (ha : PA X (e :: es) t)
 (kW : starEach (e :: es) X.env = (false, eval e X.env) :: starEach es X.env := by rfl) (kr : (backTo pos (starEach es X.env)).any (·.1) = false := by rfl)
 (ht : eval (.Call (.Attribute o m apos) (e :: es) [] pos) X.env = (do
  let ov <- eval o X.env
  standAt apos.atName
  let (f, first) <- holding [ov] (getMethod ov m pl)
  callWith pos f first (backTo pos (starEach (e :: es) X.env)) (backToKw pos (keywordEach [] X.env))) := by rfl) :
 PE X (.Call (.Attribute o m apos) (e :: es) [] pos) (oJ C m sp bH E0 ta t) := by
 obtain ⟨fd, ds, F, hb, hd⟩ := F.ex
 exact zr he c hm F hr hb hd tX ha kW kr ht
theorem wJ {pl : Sem Bool} (he : PE X o ta) (c : nF X.K C) (hm : Meth X.K C m f) (F : nQ X.prog X.w X.K X.mg X.base k f ps bH sp) (hr : a8 k X.A)
 (ht : eval (.Call (.Attribute o m apos) [] [] pos) X.env = (do
  let ov <- eval o X.env
  standAt apos.atName
  let (f, first) <- holding [ov] (getMethod ov m pl)
  callWith pos f first (backTo pos (starEach [] X.env)) (backToKw pos (keywordEach [] X.env))) := by rfl) :
 PE X (.Call (.Attribute o m apos) [] [] pos) (oJ C m sp bH E0 ta sM) := by
 obtain ⟨fd, ds, F, hb, hd⟩ := F.ex
 exact xm he c hm F hr hb hd tX ht
end
structure cO (K : PySem.W.Frag) (x qual : Str) (st : Stmt) (f : Addr) (dV : Value) (fd : FuncData) : Prop where
 ex : ∃ (oc : Value) (od : Option Addr) (kV doc pm : Value) (an : Option Addr) (eh ct : Value) (sV : Array (Option Value)),
  fd = PySem.W.fnOf x qual (j5 st) (fR st) (ax st) dV kV doc pm an eh ct /\ K.lookup f = some ⟨oc, od, .func fd, sV⟩ /\ PySem.W.codeIn K eh qual = true
theorem ug {K : PySem.W.Frag} {x qual : Str} {st : Stmt} {f : Addr} {oc : Value} {od an : Option Addr} {sV : Array (Option Value)} {dV kV doc pm eh ct : Value} (l : K.lookup f = some ⟨oc, od, .func (PySem.W.fnOf x qual (j5 st) (fR st) (ax st) dV kV doc pm an eh ct), sV⟩)
 (c : PySem.W.codeIn K eh qual = true) : cO K x qual st f dV (PySem.W.fnOf x qual (j5 st) (fR st) (ax st) dV kV doc pm an eh ct) := ⟨⟨oc, od, kV, doc, pm, an, eh, ct, sV, rfl, l, c⟩⟩
section
variable {P : Program} {w : World} {K : PySem.W.Frag} {mg : Str -> Option Value} {base : Heap}
theorem cO.ok {x qual : Str} {st : Stmt} {f : Addr} {dV : Value} {fd : FuncData} {N ps : List Str} {k : Nat} {sp : Sp} (F : cO K x qual st f dV fd) (S : aH N ps (ax st)) (len : ∀ vs H Q E, sp vs H Q E -> vs.length = ps.length)
 (jd : ∀ (eh : Value) (A : Around) (outer : List Env) (s : Shared) (H : Hp) (vs : List V) (Q : VK) (E : XK), a8 k (A.deeper (envOfC qual (ax st) s.heap.objs.size f eh)) -> sp vs H Q E ->
  ∃ t, om (jT ng P w K mg base N qual (ax st) f eh A outer s H E).zc (fR st) t /\ t { nx := fun _ H' => Q .aY H', rt := Q } (start N vs) H) : bw P w K mg base ng (k + 1) f fd ps sp := by
 obtain ⟨oc, od, kV, doc, pm, an, eh, ct, sV, rfl, lk, mq⟩ := F.ex
 refine wK lk mq S len fun A outer s H vs Q E hr uo => ?_
 obtain ⟨t, h, q⟩ := jd eh A outer s H vs Q E hr uo
 exact ⟨t, h.zc, q⟩
theorem cO.binds {x qual : Str} {st : Stmt} {f : Addr} {dV : Value} {fd : FuncData} {ps : List Str} {ds : List Value} (F : cO K x qual st f dV fd)
 (h : ∀ (kV doc pm : Value) (an : Option Addr) (eh ct : Value), Binds K (PySem.W.fnOf x qual (j5 st) (fR st) (ax st) dV kV doc pm an eh ct) ps ds) : Binds K fd ps ds := by
 obtain ⟨oc, od, kV, doc, pm, an, eh, ct, sV, rfl, lk, mq⟩ := F.ex
 exact h kV doc pm an eh ct
end
structure DM (K : PySem.W.Frag) (T : Addr) (items : Array Value) : Prop where
 ex : ∃ (o : Obj) (n : Nat), K.lookup T = some o /\ o.data = .seq items n
structure EB (K : PySem.W.Frag) (C : Addr) : Prop where
 ha : PySem.W.findIn K (.ref C) "__class__" = some (some (.builtin "object.__class__"))
 hn : PySem.W.specialIn K (.builtin "object.__class__") "__get__" = some (some (.builtin "getset_descriptor.__get__"))
 ht : PySem.W.takesIn K (.builtin "object.__class__") = some true
 hm : PySem.W.mroIn K C (.type "object") = some true
section
variable {σ : St} {H : Hp} {Q : VK} {D : Ends} {K : PySem.W.Frag}
theorem CN (h : D.nx σ H) : AG D σ H := h
theorem F3 {te : TE} (h : te σ H D.rt) : EE te D σ H := h
theorem DG {te : TE} (h : te σ H fun _ H1 => D.nx σ H1) : Ba te D σ H := h
theorem Gf {c : TT} {t u : TS} (h : c σ H fun b H1 => if b = true then t D σ H1 else u D σ H1) : E6 c t u D σ H := h
theorem Fn {te : TE} {i : Nat} (h : te σ H fun x H1 => D.nx (σ.set i (some x)) H1) : Dz te (oK i) D σ H := h
theorem F8 {i : Nat} {v : V} (e : σ[i]? = some (some v)) (h : Q v H) : Dt i σ H Q := ⟨v, e, h⟩
theorem L5 {v : V} (h : Q v H) : tC v σ H Q := h
theorem HH {r : R2} {ta tb : TE} (h : ta σ H fun x H1 => tb σ H1 fun y H2 => r x y H2 Q) : Gx r ta tb σ H Q := h
theorem Hh {r : V -> Hp -> VK -> Prop} {ta : TE} (h : ta σ H fun x H1 => r x H1 Q) : JZ r ta σ H Q := h
theorem IB {g : Int -> Int -> V} {i j : Int} (h : Q (g i j) H) : Di g (.int i) (.int j) H Q := ⟨i, j, rfl, rfl, h⟩
theorem Mh {C : Int -> Int -> Prop} {g : Int -> Int -> V} {i j : Int} (c : C i j) (h : Q (g i j) H) : rI C g (.int i) (.int j) H Q := ⟨i, j, rfl, rfl, c, h⟩
theorem LO {g : Int -> V} {i : Int} (h : Q (g i) H) : rU g (.int i) H Q := ⟨i, rfl, h⟩
theorem Bk {t : TE} {Q : Bool -> Hp -> Prop} (h : t σ H fun x H' => ∃ k, x = .bl k /\ Q k H') : AI t σ H Q := h
theorem Fo {t u : TT} {Q : Bool -> Hp -> Prop} (h : t σ H fun c H1 => if c = true then u σ H1 Q else Q false H1) : E7 t u σ H Q := h
theorem Hv {t u : TT} {Q : Bool -> Hp -> Prop} (h : t σ H fun c H1 => if c = true then Q true H1 else u σ H1 Q) : JD t u σ H Q := h
theorem DH {ta tb : TE} (h : ta σ H fun x H1 => ∃ c, x = .bl c /\ if c = true then tb σ H1 Q else Q (.bl false) H1) : AU ta tb σ H Q := h
theorem CI {ta : TE} (h : ta σ H fun x H1 => ∃ c, x = .bl c /\ Q (.bl (!c)) H1) : Ay ta σ H Q := h
theorem IV {b : Bool} {R : Bool -> Prop} (h : R b) : ∃ k, V.bl b = .bl k /\ R k := ⟨b, rfl, h⟩
theorem Ge {Q : List V -> Hp -> Prop} (h : Q [] H) : sM σ H Q := h
theorem Dq {ta : TE} {tr : TA} {Q : List V -> Hp -> Prop} (h : ta σ H fun x H1 => tr σ H1 fun xs H2 => Q (x :: xs) H2) : AY ta tr σ H Q := h
theorem Ju {r : List V -> Hp -> VK -> Prop} {t : TA} (h : t σ H fun vs H1 => r vs H1 Q) : Jb r t σ H Q := h
theorem Fd {ta : TE} {f : Str} (h : ta σ H fun x H1 => ∃ a C dx fs v, x = .ref a /\ H1 a = some (.ins C dx fs) /\ nF K C /\ dW K C f /\ fs.lookup f = some v /\ Q v H1) : EW K ta f σ H Q := h
theorem xR {A B : Prop} (h : A) : if true = true then A else B := by rw [if_pos rfl]; exact h
theorem u5 {A B : Prop} (h : B) : if false = true then A else B := by rw [if_neg Bool.false_ne_true]; exact h
end
section
variable {X : Cx} {e : Expr} {es : List Expr}
theorem PE.weak {t u : TE} (h1 : PE X e t) (h : ∀ σ H Q, u σ H Q -> t σ H Q) : PE X e u := fun pins s σ H Q I q => h1 pins s σ H Q I (h σ H Q q)
def mA (t : TA) : TA := fun σ H Q => ∃ Q' : List V -> Hp -> Prop, t σ H Q' /\ ∀ v H', Q' v H' -> Q v H'
theorem PA.m {t : TA} (h : PA X es t) : PA X es (mA t) := fun pos pins s σ H Q I ⟨Q', q, m⟩ => cg (h pos pins s σ H Q' I q) fun _ _ ⟨v, H', I', r, z⟩ => ⟨v, H', I', r, m v H' z⟩
end
def Jv : Key -> PyData
 | .inl i => .int i
 | .inr x => .str x
mutual
inductive Dv (H : Hp) : V -> PyData -> Prop where
 | aY : Dv H .aY .none
 | bl (b : Bool) : Dv H (.bl b) (.bool b)
 | int (i : Int) : Dv H (.int i) (.int i)
 | str (x : Str) : Dv H (.str x) (.str x)
 | tup {a : Addr} {xs : List V} {ds : List PyData} (h : H a = some (.tup xs)) (r : cP H xs ds) : Dv H (.ref a) (.tuple ds)
 | lst {a : Addr} {xs : List V} {ds : List PyData} (h : Rd H a (.lst xs)) (r : cP H xs ds) : Dv H (.ref a) (.list ds)
 | dct {a : Addr} {kvs : List (Key × V)} {ds : List (PyData × PyData)} (h : H a = some (.dK kvs)) (r : yX H kvs ds) : Dv H (.ref a) (.dict ds)
inductive yX (H : Hp) : List (Key × V) -> List (PyData × PyData) -> Prop where
 | nil : yX H [] []
 | cons {k : Key} {x : V} {d : PyData} {xs : List (Key × V)} {ds : List (PyData × PyData)} (h : Dv H x d) (r : yX H xs ds) : yX H ((k, x) :: xs) ((Jv k, d) :: ds)
inductive cP (H : Hp) : List V -> List PyData -> Prop where
 | nil : cP H [] []
 | cons {x : V} {d : PyData} {xs : List V} {ds : List PyData} (h : Dv H x d) (r : cP H xs ds) : cP H (x :: xs) (d :: ds)
end
mutual
theorem Dv.has {K : PySem.W.Frag} {H : Hp} : ∀ {v : V} {d : PyData}, Dv H v d -> d.canLay0 = true -> iE K H v d
 | _, _, .aY, _ => .aY
 | _, _, .bl b, _ => .bl b
 | _, _, .int i, _ => .int i
 | _, _, .str x, _ => .str x
 | _, _, .tup h r, c => .tup (.of h) (cP.has r (by simpa [PyData.canLay0] using c))
 | _, _, .lst h r, c => .lst (.inl h) (cP.has r (by simpa [PyData.canLay0] using c))
 | _, _, .dct h r, c => by simp [PyData.canLay0] at c
theorem cP.has {K : PySem.W.Frag} {H : Hp} : ∀ {v : List V} {d : List PyData}, cP H v d -> PyData.canLayAll0 d = true -> eB K H v d
 | _, _, .nil, _ => .nil
 | _, _, .cons h r, c => by
   have c' := c
   simp only [PyData.canLayAll0, Bool.and_eq_true] at c'
   exact .cons (Dv.has h c'.1) (cP.has r c'.2)
end
theorem aB.rd {H H' : Hp} {a : Addr} {u : HO} (e : aB H H') (h : Rd H a u) : Rd H' a u := by
 rcases h with h | ⟨o, h⟩
 . exact .inl (e _ _ h)
 . exact .inr ⟨o, e _ _ h⟩
mutual
theorem Dv.keeps {H H' : Hp} (e : aB H H') : ∀ {v : V} {d : PyData}, Dv H v d -> Dv H' v d
 | _, _, .aY => .aY
 | _, _, .bl b => .bl b
 | _, _, .int i => .int i
 | _, _, .str x => .str x
 | _, _, .tup h r => .tup (e _ _ h) (cP.keeps e r)
 | _, _, .lst h r => .lst (e.rd h) (cP.keeps e r)
 | _, _, .dct h r => .dct (e _ _ h) (yX.keeps e r)
theorem yX.keeps {H H' : Hp} (e : aB H H') : ∀ {v : List (Key × V)} {d : List (PyData × PyData)}, yX H v d -> yX H' v d
 | _, _, .nil => .nil
 | _, _, .cons h r => .cons (Dv.keeps e h) (yX.keeps e r)
theorem cP.keeps {H H' : Hp} (e : aB H H') : ∀ {v : List V} {d : List PyData}, cP H v d -> cP H' v d
 | _, _, .nil => .nil
 | _, _, .cons h r => .cons (Dv.keeps e h) (cP.keeps e r)
end
theorem cP.length {H : Hp} : ∀ {xs : List V} {ds : List PyData}, cP H xs ds -> xs.length = ds.length
 | _, _, .nil => rfl
 | _, _, .cons _ r => by simp [cP.length r]
theorem cP.get {H : Hp} : ∀ {xs : List V} {ds : List PyData} {i : Nat} {d : PyData}, cP H xs ds -> ds[i]? = some d -> ∃ x, xs[i]? = some x /\ Dv H x d
 | _, _, _, _, .nil, e => by simp at e
 | _, _, 0, _, .cons h _, e => by simp at e; subst e; exact ⟨_, rfl, h⟩
 | _, _, i + 1, x, .cons _ r, e => by
   obtain ⟨d, h1, h2⟩ := cP.get (i := i) (d := x) r (by simpa using e)
   exact ⟨d, by simpa using h1, h2⟩
theorem cP.append {H : Hp} : ∀ {xs ys : List V} {ds es : List PyData}, cP H xs ds -> cP H ys es -> cP H (xs ++ ys) (ds ++ es)
 | _, _, _, _, .nil, s => s
 | _, _, _, _, .cons r t, s => .cons r (cP.append t s)
theorem Dv.str_inv {H : Hp} {v : V} {i : Str} (h : Dv H v (.str i)) : v = .str i := by cases h; rfl
def nH (H : Hp) (d : PyData) (Q : VK) : Prop := match d with
 | .none => Q .aY H
 | .bool b => Q (.bl b) H
 | .int i => Q (.int i) H
 | .str x => Q (.str x) H
 | d => ∀ v, Dv H v d -> Q v H
theorem nH.use {H : Hp} {d : PyData} {Q : VK} (g : nH H d Q) {v : V} (h : Dv H v d) : Q v H := by
 cases h with
 | aY => exact g
 | bl b => exact g
 | int i => exact g
 | str x => exact g
 | tup h r => exact g _ (.tup h r)
 | lst h r => exact g _ (.lst h r)
 | dct h r => exact g _ (.dct h r)
theorem tj {H : Hp} {xs : List V} {ds : List PyData} {i : Int} {d : PyData} (r : cP H xs ds) (h : pE ds i = some d) : ∃ x, pE xs i = some x /\ Dv H x d := by
 unfold pE at h ⊢
 rw [r.length]
 cases e : yt ds.length i with
 | none => rw [e] at h; simp at h
 | some j =>
   rw [e] at h
   have h' : ds[j]? = some d := by simpa using h
   obtain ⟨x, h1, h2⟩ := r.get h'
   exact ⟨x, by simpa using h1, h2⟩
def oz (H : Hp) (v : V) (ds : List PyData) : Prop := Dv H v (.tuple ds) \/ Dv H v (.list ds)
def E2 : R2 := fun x y H Q => ∃ ds i d, y = .int i /\ oz H x ds /\ pE ds i = some d /\ nH H d Q
theorem y6 {K : PySem.W.Frag} {x y : V} {H : Hp} {Q : VK} (h : E2 x y H Q) : JI K x y H Q := by
 obtain ⟨ds, i, d, rfl, hs, hi, g⟩ := h
 rcases hs with hs | hs
 . cases hs with
   | tup h r =>
     obtain ⟨v, h1, h2⟩ := tj r hi
     exact .inr (.inl ⟨_, _, i, v, rfl, rfl, .of h, h1, g.use h2⟩)
 . cases hs with
   | lst h r =>
     obtain ⟨v, h1, h2⟩ := tj r hi
     exact .inl ⟨_, _, i, v, rfl, rfl, .inl h, h1, g.use h2⟩
section
variable {X : Cx}
def B9 : R2 := fun x y H Q => E2 x y H Q \/ BZ x y H Q
theorem Jl : vy X B9 := fun value slice pins s σ H x y v u Q I r1 r2 h => CA value slice pins s σ H x y v u Q I r1 r2 (h.elim y6 fun z => .inr (.inr z))
def vG : List V -> Hp -> VK -> Prop := fun xs H Q => (∃ v ds, xs = [v] /\ oz H v ds /\ Q (.int (ds.length : Nat)) H) \/ ∃ z, xs = [.str z] /\ z.length <= sizeLine /\ Q (.int (z.length : Nat)) H
theorem uW : iG X (.builtin "len") vG := fun pins s σ H xs us Q I r h => by
 rcases h with ⟨v, ds, rfl, hs, q⟩ | h
 . rcases hs with hs | hs
   . cases hs with
     | tup h t => exact gE pins s σ H _ us Q I r ⟨_, _, rfl, .inr (.of h), by rw [t.length]; exact q⟩
   . cases hs with
     | lst h t => exact gE pins s σ H _ us Q I r ⟨_, _, rfl, .inl (.inl h), by rw [t.length]; exact q⟩
 . exact pI pins s σ H _ us Q I r h
def vj (K : PySem.W.Frag) (f : Bool -> Bool) : R2 := fun x y H Q => (yw x y = true /\ Q (.bl (f (decide (x = y)))) H) \/ ∃ d e, Dv H x d /\ Dv H y e /\ d.canLay0 = true /\ e.canLay0 = true /\ d.depth <= 8 /\ Q (.bl (f (PyData.eqv d e))) H
theorem dc (hu : X.A.units + 8 < cLine) : ki X (compareOp .Eq) (vj X.K id) := fun pins s σ H x y v u Q I rx ry h => by
 rcases h with h | ⟨d, e, h1, h2, h3, h4, h5, h6⟩
 . exact Fj pins s σ H x y v u Q I rx ry h
 . exact B6 hu pins s σ H x y v u Q I rx ry ⟨d, e, h1.has h3, h2.has h4, h3, h4, h5, h6⟩
theorem rJ (hu : X.A.units + 8 < cLine) : ki X (compareOp .NotEq) (vj X.K not) := fun pins s σ H x y v u Q I rx ry h => by
 rcases h with h | ⟨d, e, h1, h2, h3, h4, h5, h6⟩
 . exact F2 pins s σ H x y v u Q I rx ry h
 . exact C5 hu pins s σ H x y v u Q I rx ry ⟨d, e, h1.has h3, h2.has h4, h3, h4, h5, h6⟩
variable {es : List Expr} {t : TA} {pos : Pos}
def CB (xs : List V) (H1 : Hp) (Q : VK) : Prop := xs.length <= sizeLine /\ ∃ ds, cP H1 xs ds /\ ∀ p H2, aB H1 H2 -> H1 p = none -> H2 p = some (.tup xs) -> Dv H2 (.ref p) (.tuple ds) -> Q (.ref p) H2
def DA (xs : List V) (H1 : Hp) (Q : VK) : Prop := xs.length <= sizeLine /\ ∃ ds, cP H1 xs ds /\ ∀ p H2, aB H1 H2 -> H1 p = none -> H2 p = some (.lst xs) -> cP H2 xs ds -> Dv H2 (.ref p) (.list ds) -> Q (.ref p) H2
def AW (t : TA) : TE := fun σ H Q => t σ H fun xs H1 => CB xs H1 Q
theorem dr {x1} (h : PA X es t) : PE X (.Tuple es x1 pos) (AW t) := PE.weak (Cj h.m) fun σ H Q q => ⟨_, q, fun xs H1 ⟨hl, ds, hd, k⟩ => ⟨hl, fun p hp => by
 have sm : aB H1 (upd H1 p (.tup xs)) := fun b u e => by rw [ak (aE e hp)]; exact e
 exact k p _ sm hp av (.tup av (hd.keeps sm))⟩⟩
def Av (t : TA) : TE := fun σ H Q => t σ H fun xs H1 => DA xs H1 Q
theorem gT (h : PA X es t) : PE X (.List es pos) (Av t) := PE.weak (Br h.m) fun σ H Q q => ⟨_, q, fun xs H1 ⟨hl, ds, hd, k⟩ => ⟨hl, fun p hp => by
 have sm : aB H1 (upd H1 p (.lst xs)) := fun b u e => by rw [ak (aE e hp)]; exact e
 exact k p _ sm hp av (hd.keeps sm) (.lst (.of av) (hd.keeps sm))⟩⟩
variable {st : Stmt} {rest : List Stmt}
def Dp (t u : TS) : TS := fun D σ H => ∃ R : St -> Hp -> Prop, t { D with nx := R } σ H /\ ∀ σ' H', R σ' H' -> u D σ' H'
theorem ao {t u : TS} (h1 : PS X st t) (h2 : om X rest u) : om X (st :: rest) (Dp t u) := by
 intro pins s σ H D I ⟨R, h, k⟩
 refine wpAny_execs_cons (cg (h1 pins s σ H { D with nx := R } I h) fun f s1 q => ?_)
 cases f with
 | next =>
   obtain ⟨σ', H', I', q⟩ := q
   exact h2 pins s1 σ' H' D I' (k _ _ q)
 | ret v => exact q
 | brk => exact q
 | cont => exact q
end
section
variable {σ : St} {H : Hp} {Q : VK} {D : Ends} {K : PySem.W.Frag}
theorem CL {t u : TS} (h : t { D with nx := u D } σ H) : Dp t u D σ H := ⟨u D, h, fun _ _ z => z⟩
theorem CK {t : TA} (h : t σ H fun xs H1 => CB xs H1 Q) : AW t σ H Q := h
theorem Dg {xs : List V} {ds : List PyData} (hl : xs.length <= sizeLine) (hd : cP H xs ds) (k : ∀ v H2, aB H H2 -> Dv H2 v (.tuple ds) -> Q v H2) : CB xs H Q := ⟨hl, ds, hd, fun p H2 s _ _ d => k (.ref p) H2 s d⟩
theorem CM {t : TA} (h : t σ H fun xs H1 => DA xs H1 Q) : Av t σ H Q := h
theorem FU {f : Bool -> Bool} {x y : V} (e : yw x y = true) (h : Q (.bl (f (decide (x = y)))) H) : vj K f x y H Q := .inl ⟨e, h⟩
theorem AO {f : Bool -> Bool} {x y : V} {d e : PyData} (h1 : Dv H x d) (h2 : Dv H y e) (h3 : d.canLay0 = true) (h4 : e.canLay0 = true) (h5 : d.depth <= 8) (h : Q (.bl (f (PyData.eqv d e))) H) : vj K f x y H Q := .inr ⟨d, e, h1, h2, h3, h4, h5, h⟩
theorem Fe {x : V} {ds : List PyData} {i : Int} {d : PyData} (hs : oz H x ds) (hi : pE ds i = some d) (g : nH H d Q) : B9 x (.int i) H Q := .inl ⟨ds, i, d, rfl, hs, hi, g⟩
theorem BP {v : V} {ds : List PyData} (hs : oz H v ds) (h : Q (.int (ds.length : Nat)) H) : vG [v] H Q := .inl ⟨v, ds, rfl, hs, h⟩
theorem z6 {i : Int} (h : Q (.int i) H) : nH H (.int i) Q := h
theorem zB (h : Q .aY H) : nH H .none Q := h
theorem lS {i : Str} (h : Q (.str i) H) : nH H (.str i) Q := h
theorem EV {b : Bool} {A B : Prop} (h1 : b = true -> A) (h2 : b = false -> B) : if b = true then A else B := by
 cases b
 . exact HF (h2 rfl)
 . exact Hj (h1 rfl)
end
theorem a8.pZ {k : Nat} {A : Around} (r : a8 k A) : A.units + 8 < cLine := Nat.lt_of_le_of_lt (by omega) r.units
theorem aB.at {H H' : Hp} {a : Addr} {o : HO} (s : aB H H') (h : H a = some o) : H' a = some o := s a o h
theorem dX {H : Hp} {t : Addr} {o : HO} (h : H t = none) : aB H (upd H t o) := fun b u e => by rw [ak (aE e h)]; exact e
section
variable {σ : St} {H : Hp} {Q : VK} {D : Ends} {K : PySem.W.Frag}
end
theorem sH {K : PySem.W.Frag} {C : Addr} {b : Value} {r : Bool} (h : PySem.W.mroIn K C b = some r) : (PySem.W.clsIn K C).isSome = true := by
 obtain ⟨cd, e, _⟩ := Option.bind_eq_some_iff.mp h
 rw [e]; rfl
theorem lN {K : PySem.W.Frag} {C D : Addr} {b : Bool} (h2 : PySem.W.mroIn K D (.type "object") = some true) (h3 : PySem.W.typeIn K (.ref D) = some (.type "type")) (h : PySem.W.mroIn K C (.ref D) = some b) (hb : C = D -> b = true := by intro _; rfl) : PySem.W.kitOne K (.ref C) (.ref D) = some b := by
 unfold PySem.W.kitOne
 split
 . rename_i e
   have : C = D := by
    have := beq_iff_eq.mp e
    cases this; rfl
   rw [hb this]
 . show (if ((PySem.W.clsIn K D).isSome && PySem.W.typeIn K (.ref D) == some (.type "type")) = true then PySem.W.subIn K (.ref C) (.ref D) else none) = some b
   rw [sH h2, h3]
   rw [if_pos (by decide +kernel)]
   exact h
def isInt : PyData -> Bool | .int _ => true | .bool _ => true | _ => false
def isBool : PyData -> Bool | .bool _ => true | _ => false
def isStr : PyData -> Bool | .str _ => true | _ => false
def Et : PyData -> Bool | .list _ => true | _ => false
def isTup : PyData -> Bool | .tuple _ => true | _ => false
def Gg : PyData -> Bool | .dict _ => true | _ => false
section
variable {K : PySem.W.Frag} {H : Hp} {v : V} {d : PyData} {Q : VK}
def vA (H : Hp) (v : V) (C : Addr) (fs : List (Str × V)) : Prop := ∃ p dx, v = .ref p /\ H p = some (.ins C dx fs)
theorem vA.keeps {H H' : Hp} {C : Addr} {fs : List (Str × V)} (s : aB H H') (h : vA H v C fs) : vA H' v C fs := by
 obtain ⟨p, dx, rfl, e⟩ := h; exact ⟨p, dx, rfl, s _ _ e⟩
theorem DE {R : V -> Prop} {C : Addr} {fs : List (Str × V)} {f : Str} {x : V} (hp : vA H v C fs) (c : nF K C) (n : dW K C f) (l : fs.lookup f = some x) (h : R x) :
 ∃ a C dx fs x, v = .ref a /\ H a = some (.ins C dx fs) /\ nF K C /\ dW K C f /\ fs.lookup f = some x /\ R x := by
 obtain ⟨p, dx, rfl, e⟩ := hp
 exact ⟨p, C, dx, fs, x, rfl, e, c, n, l, h⟩
theorem yT {C : Addr} {m : Str} {fs : List (Str × V)} {R : Prop} (hp : vA H v C fs) (hl : fs.lookup m = none) (h : R) : ∃ a dx fs, v = .ref a /\ H a = some (.ins C dx fs) /\ fs.lookup m = none /\ R := by
 obtain ⟨p, dx, rfl, e⟩ := hp
 exact ⟨p, dx, fs, rfl, e, hl, h⟩
end
def look (f : Str) : List (Str × V) -> Option V
 | [] => none
 | (g, v) :: r => if f = g then some v else look f r
theorem lz (f : Str) : ∀ fs : List (Str × V), fs.lookup f = look f fs
 | [] => rfl
 | (g, v) :: r => by
   show (match f == g with | true => some v | false => r.lookup f) = if f = g then some v else look f r
   by_cases h : f = g
   . subst h; rw [if_pos rfl, beq_self_eq_true]
   . rw [if_neg h, beq_eq_false_iff_ne.mpr h]; exact lz f r
section
variable {X : Cx}
def qh (K : PySem.W.Frag) : R2 := fun x y H Q => B9 x y H Q \/ DI K x y H Q
theorem gv : vy X (qh X.K) := fun value slice pins s σ H x y v u Q I r1 r2 h => h.elim (Jl value slice pins s σ H x y v u Q I r1 r2) (ub value slice pins s σ H x y v u Q I r1 r2)
def uk (K : PySem.W.Frag) : List V -> Hp -> VK -> Prop := fun xs H Q => vG xs H Q \/ ∃ p ys, xs = [.ref p] /\ fL K H p ys /\ Q (.int ys.length) H
theorem iV : iG X (.builtin "len") (uk X.K) := fun pins s σ H xs us Q I r h => by
 rcases h with h | ⟨p, ys, e, hl, q⟩
 . exact uW pins s σ H xs us Q I r h
 . exact gE pins s σ H xs us Q I r ⟨p, ys, e, .inl hl, q⟩
end
section
variable {σ : St} {H : Hp} {Q : VK} {D : Ends} {K : PySem.W.Frag}
theorem qQ {x : V} {ds : List PyData} {i : Int} {d : PyData} (hs : oz H x ds) (hi : pE ds i = some d) (g : nH H d Q) : qh K x (.int i) H Q := .inl (Fe hs hi g)
theorem Fv {p : Addr} {xs : List V} {i : Int} {v : V} (hs : fL K H p xs) (hi : pE xs i = some v) (g : Q v H) : qh K (.ref p) (.int i) H Q := .inr ⟨p, xs, i, v, rfl, rfl, hs, hi, g⟩
theorem wk {v : V} {ds : List PyData} (hs : oz H v ds) (h : Q (.int (ds.length : Nat)) H) : uk K [v] H Q := .inl (BP hs h)
theorem DK {p : Addr} {xs : List V} (hs : fL K H p xs) (h : Q (.int xs.length) H) : uk K [.ref p] H Q := .inr ⟨p, xs, rfl, hs, h⟩
theorem Cg {ta tv : TE} {f : Str} (h : tv σ H fun y H1 => ta σ H1 fun x H2 => ∃ a C dx fs, x = .ref a /\ H2 a = some (.ins C dx fs) /\ nF K C /\ dW K C f /\ fs.length < 1000 /\ D.nx σ (upd H2 a (.ins C dx (gp f y fs)))) : EG K ta tv f D σ H := h
theorem z5 {p C dx : Addr} {fs GB : List (Str × V)} {f : Str} {y : V} (hp : H p = some (.ins C dx fs)) (c : nF K C) (n : dW K C f) (hl : fs.length < 1000) (e : gp f y fs = GB) (h : D.nx σ (upd H p (.ins C dx GB))) :
 ∃ a C dx fs, V.ref p = .ref a /\ H a = some (.ins C dx fs) /\ nF K C /\ dW K C f /\ fs.length < 1000 /\ D.nx σ (upd H a (.ins C dx (gp f y fs))) := ⟨p, C, dx, fs, rfl, hp, c, n, hl, by rw [e]; exact h⟩
theorem IK {R : Prop} (h : R) : V.aY = V.aY /\ R := ⟨rfl, h⟩
end
theorem bg {i : Int} (h1 : -(10 ^ 200) < i) (h2 : i < 10 ^ 200) : i.natAbs < 2 ^ 2000 := by
 have : (10 : Nat) ^ 200 < 2 ^ 2000 := by decide +kernel
 have h3 : i.natAbs < 10 ^ 200 := by
  have e : ((10 : Nat) ^ 200 : Nat) = ((10 : Int) ^ 200).toNat := by decide +kernel
  rw [e]
  generalize (10 : Int) ^ 200 = m at h1 h2 ⊢
  omega
 exact Nat.lt_trans h3 this
theorem F6 {i j : Int} (h1 : -(10 ^ 200) < i /\ i < 10 ^ 200) (h2 : -(10 ^ 200) < j /\ j < 10 ^ 200) : tF i j := ⟨bg h1.1 h1.2, bg h2.1 h2.2⟩
theorem Gj {i j : Int} (h1 : 0 < j) (h2 : j < 10 ^ 200) : Be i j := ⟨h1, bg (Int.lt_trans (by decide) h1) h2⟩
def cell (ns : List Int) (k : Nat) : Int := ns.getD k 0
def rN (K : PySem.W.Frag) : Sp := fun vs H Q _ => ∃ l ns k, vs = [.ref l, .int k] /\ fL K H l (ns.map V.int) /\ 0 <= k /\ Q (.int (cell ns k.toNat)) H
theorem Cr {K : PySem.W.Frag} {H : Hp} {Q : VK} {E : XK} {l : Addr} {ns : List Int} {k : Int} (h : fL K H l (ns.map V.int)) (hk : 0 <= k) (q : Q (.int (cell ns k.toNat)) H) : rN K [.ref l, .int k] H Q E := ⟨l, ns, k, rfl, h, hk, q⟩
theorem yR {ns : List Int} {k : Int} (h0 : 0 <= k) (h : k < (ns.map V.int).length) : pE (ns.map V.int) k = some (.int (cell ns k.toNat)) := by
 obtain ⟨n, rfl⟩ := Int.eq_ofNat_of_zero_le h0
 refine pP ?_
 have hn : n < ns.length := by simpa using h
 simp [cell, hn, List.getD_eq_getElem?_getD]
theorem yS {ns : List Int} {k : Int} (h0 : 0 <= k) (h : ¬ k < (ns.map V.int).length) : cell ns k.toNat = 0 := by
 have : ns.length <= k.toNat := by simp at h; omega
 simp [cell, List.getD_eq_getElem?_getD, this]
def fi (sp : Sp) (vs : List V) (H : Hp) (Q : VK) (E : XK) : Prop := ∃ ws, vs = ws /\ sp ws H Q E
theorem rp (sp : Sp) (vs : List V) (H : Hp) (Q : VK) (E : XK) : fi sp vs H Q E = sp vs H Q E := propext ⟨fun ⟨_, e, h⟩ => e ▸ h, fun h => ⟨vs, rfl, h⟩⟩
def o4 (sp : Sp) (bH : List V) (E : XK) (t : TA) : TE := fun σ H Q => t σ H fun vs H1 => fi sp (vs ++ bH) H1 Q E
theorem uy (sp : Sp) (bH : List V) (E : XK) (t : TA) : o4 sp bH E t = tW sp bH E t := by
 funext σ H Q; unfold o4 tW; congr 1; funext vs H1; exact rp _ _ _ _ _
def mj (C : Addr) (m : Str) (sp : Sp) (bH : List V) (E : XK) (ta : TE) (t : TA) : TE := fun σ H Q => ta σ H fun x H1 => ∃ a dx fs, x = .ref a /\ H1 a = some (.ins C dx fs) /\ fs.lookup m = none /\
 t σ H1 fun vs H2 => fi sp (x :: (vs ++ bH)) H2 Q E
theorem oo (C : Addr) (m : Str) (sp : Sp) (bH : List V) (E : XK) (ta : TE) (t : TA) : mj C m sp bH E ta t = oJ C m sp bH E ta t := by
 funext σ H Q; unfold mj oJ; congr 1; funext x H1
 have : ∀ H2 : Hp, (fun vs H2 => fi sp (x :: (vs ++ bH)) H2 Q E) = fun vs H2 => sp (x :: (vs ++ bH)) H2 Q E := fun _ => by funext vs H2; exact rp _ _ _ _ _
 rw [this H1]
def rk (C : Addr) (sp : Sp) (vs : List V) (H1 : Hp) (Q : VK) (E : XK) : Prop := ∃ ws, vs = ws /\ ∀ x dx, H1 x = none -> H1 dx = none -> dx ≠ x ->
 sp (.ref x :: ws) (upd (upd H1 dx (.own x)) x (.ins C dx [])) (fun v H2 => v = .aY /\ Q (.ref x) H2) E
def o5 (C : Addr) (sp : Sp) (bH : List V) (E : XK) (t : TA) : TE := fun σ H Q => t σ H fun vs H1 => rk C sp (vs ++ bH) H1 Q E
theorem vh (C : Addr) (sp : Sp) (bH : List V) (E : XK) (t : TA) : o5 C sp bH E t = wG C sp bH E t := by
 funext σ H Q; unfold o5 wG rk; congr 1; funext vs H1
 exact propext ⟨fun ⟨_, e, h⟩ => by subst e; exact h, fun h => ⟨_, rfl, h⟩⟩
section
variable {X : Cx} {k : Nat} {f C : Addr} {ps : List Str} {sp : Sp} {bH : List V} {x m : Str} {p pos apos : Pos} {e o : Expr} {es : List Expr} {ta : TE} {t : TA}
theorem dU (c : nQ X.prog X.w X.K X.mg X.base k f ps bH sp) (hr : a8 k X.A) (hg : Gl X x) (hm : X.mg x = some (.ref f)) (hk : PySem.W.keepIn X.K (.ref f) = true)
 (ha : PA X (e :: es) t) (nX : (x == ("__debug__" : Str)) = false := by decide) (he : starEach (e :: es) X.env = (false, eval e X.env) :: starEach es X.env := by rfl) (kr : (backTo pos (starEach es X.env)).any (·.1) = false := by rfl) :
 PE X (.Call (.Name x p) (e :: es) [] pos) (o4 sp bH E0 t) := by rw [uy]; exact Aj c hr hg hm hk ha nX he kr
theorem dj {pl : Sem Bool} (he : PE X o ta) (c : nF X.K C) (hm : Meth X.K C m f) (F : nQ X.prog X.w X.K X.mg X.base k f ps bH sp) (hr : a8 k X.A) (ha : PA X (e :: es) t)
 (kW : starEach (e :: es) X.env = (false, eval e X.env) :: starEach es X.env := by rfl) (kr : (backTo pos (starEach es X.env)).any (·.1) = false := by rfl)
 (ht : eval (.Call (.Attribute o m apos) (e :: es) [] pos) X.env = (do
  let ov <- eval o X.env
  standAt apos.atName
  let (f, first) <- holding [ov] (getMethod ov m pl)
  callWith pos f first (backTo pos (starEach (e :: es) X.env)) (backToKw pos (keywordEach [] X.env))) := by rfl) :
 PE X (.Call (.Attribute o m apos) (e :: es) [] pos) (mj C m sp bH E0 ta t) := by rw [oo]; exact yL he c hm F hr ha kW kr ht
theorem rz {pl : Sem Bool} (he : PE X o ta) (c : nF X.K C) (hm : Meth X.K C m f) (F : nQ X.prog X.w X.K X.mg X.base k f ps bH sp) (hr : a8 k X.A)
 (ht : eval (.Call (.Attribute o m apos) [] [] pos) X.env = (do
  let ov <- eval o X.env
  standAt apos.atName
  let (f, first) <- holding [ov] (getMethod ov m pl)
  callWith pos f first (backTo pos (starEach [] X.env)) (backToKw pos (keywordEach [] X.env))) := by rfl) :
 PE X (.Call (.Attribute o m apos) [] [] pos) (mj C m sp bH E0 ta sM) := by rw [oo]; exact wJ he c hm F hr ht
end
section
variable {σ : St} {H : Hp} {Q : VK} {D : Ends} {K : PySem.W.Frag}
theorem zX {sp : Sp} {bH : List V} {E : XK} {t : TA} (h : t σ H fun vs H1 => fi sp (vs ++ bH) H1 Q E) : o4 sp bH E t σ H Q := h
theorem rL {sp : Sp} {vs ws : List V} {E : XK} (e : vs = ws) (h : sp ws H Q E) : fi sp vs H Q E := ⟨ws, e, h⟩
theorem yr {C : Addr} {m : Str} {sp : Sp} {bH : List V} {E : XK} {ta : TE} {t : TA} (h : ta σ H fun x H1 => ∃ a dx fs, x = .ref a /\ H1 a = some (.ins C dx fs) /\ fs.lookup m = none /\ t σ H1 fun vs H2 => fi sp (x :: (vs ++ bH)) H2 Q E) : mj C m sp bH E ta t σ H Q := h
theorem Am {C : Addr} {sp : Sp} {bH : List V} {E : XK} {t : TA} (h : t σ H fun vs H1 => rk C sp (vs ++ bH) H1 Q E) : o5 C sp bH E t σ H Q := h
theorem CJ {b : Bool} {R : Bool -> Prop} (h : R b) : ∃ k, yG K (.bl b) H k /\ R k := ⟨b, rfl, h⟩
end
theorem A6 {n : Nat} (h : Nat.ble n 64 = true) : n <= sizeLine := Nat.le_trans (Nat.le_of_ble_eq_true h) (by decide)
theorem zT {H : Hp} {d : PyData} {Q : VK} (h : ∀ v, Dv H v d -> Q v H) : nH H d Q := by
 cases d with
 | none => exact h _ .aY
 | bool b => exact h _ (.bl b)
 | int i => exact h _ (.int i)
 | str x => exact h _ (.str x)
 | list l => exact h
 | tuple l => exact h
 | dict l => exact h
section
variable {X : Cx} {st : Stmt} {rest : List Stmt}
def AZ (t u : TS) : TS := Dp t u
theorem xN {t u : TS} (h1 : PS X st t) (h2 : om X rest u) : om X (st :: rest) (AZ t u) := ao h1 h2
end
section
variable {σ : St} {H : Hp} {Q : VK} {D : Ends} {K : PySem.W.Frag}
theorem Ds {t u : TS} (R : St -> Hp -> Prop) (h : t { D with nx := R } σ H) (k : ∀ σ' H', R σ' H' -> u D σ' H') : AZ t u D σ H := ⟨R, h, k⟩
def B7 (K : PySem.W.Frag) (x : V) (g : TG) (tb : TS) (D : Ends) (σ : St) (H1 : Hp) : Prop := ∃ a, x = .ref a /\ (∃ xs, fL K H1 a xs) /\ ∃ W : Nat -> Nat -> St -> Hp -> Prop, (∃ m, W 0 m σ H1) /\ ∀ i m σ H, W i m σ H ->
 ((ya K a).stop i H /\ D.nx σ H) \/ ((ya K a).go i H /\ ∃ N : St -> Hp -> Prop, (∀ σ' H', N σ' H' -> ∃ m', m' < m /\ W (i + 1) m' σ' H') /\ ∀ x H', (ya K a).DN i H x H' -> g x σ H' fun σ2 H2 => tb { D with nx := N, ct := N, bk := D.nx } σ2 H2)
theorem FC {tl : TE} {g : TG} {tb : TS} (h : tl σ H fun x H1 => B7 K x g tb D σ H1) : C7 (xH K tl) g tb D σ H := h
theorem forL {a : Addr} {xs : List V} {g : TG} {tb : TS} (hl : fL K H a xs) (Pv : Nat -> St -> Hp -> Prop) (h0 : Pv 0 σ H) (hk : ∀ i σ H, i <= xs.length -> Pv i σ H -> fL K H a xs)
 (hs : ∀ i x σ H, xs[i]? = some x -> Pv i σ H -> g x σ H fun σ2 H2 => tb { D with nx := Pv (i + 1), ct := Pv (i + 1), bk := D.nx } σ2 H2) (hd : ∀ σ H, Pv xs.length σ H -> D.nx σ H) : B7 K (.ref a) g tb D σ H :=
 ⟨a, rfl, ⟨xs, hl⟩, xl Pv h0 hk hs hd⟩
def Ii (lo : Int) (n : Nat) (g : TG) (tb : TS) (D : Ends) (σ : St) (H1 : Hp) : Prop := ∃ W : Nat -> Nat -> St -> Hp -> Prop, (∃ m, W 0 m σ H1) /\ ∀ i m σ H, W i m σ H ->
 ((vP lo n).stop i H /\ D.nx σ H) \/ ((vP lo n).go i H /\ ∃ N : St -> Hp -> Prop, (∀ σ' H', N σ' H' -> ∃ m', m' < m /\ W (i + 1) m' σ' H') /\ ∀ x H', (vP lo n).DN i H x H' -> g x σ H' fun σ2 H2 => tb { D with nx := N, ct := N, bk := D.nx } σ2 H2)
theorem y7 {ta : TA} {g : TG} {tb : TS} (h : ta σ H fun vs H1 => ∃ j : Int, vs = [.int j] /\ -(2 ^ 62) <= j /\ j < 2 ^ 62 /\ Ii 0 j.toNat g tb D σ H1) : C7 (vT ta) g tb D σ H := h
theorem Dh {j : Int} {R : Int -> Prop} (h1 : -(2 ^ 62) <= j) (h2 : j < 2 ^ 62) (h : R j) : ∃ i : Int, [V.int j] = [.int i] /\ -(2 ^ 62) <= i /\ i < 2 ^ 62 /\ R i := ⟨j, rfl, h1, h2, h⟩
end
section
variable {X : Cx}
def Bd : R2 := fun x y H Q => ∃ i j, x = .int i /\ y = .int j /\ 0 < j /\ (0 <= i % j -> i % j < j -> Q (.int (i % j)) H)
theorem d9 : ki X (binaryOp .Mod) Bd := fun pins s σ H x y v u Q I rx ry ⟨i, j, e1, e2, hj, h⟩ => Cy pins s σ H x y v u Q I rx ry ⟨i, j, e1, e2, hj, h (Int.emod_nonneg _ (by omega)) (Int.emod_lt_of_pos _ hj)⟩
end
section
variable {σ : St} {H : Hp} {Q : VK} {D : Ends} {K : PySem.W.Frag}
theorem Ce {i j : Int} (hj : 0 < j) (h : 0 <= i % j -> i % j < j -> Q (.int (i % j)) H) : Bd (.int i) (.int j) H Q := ⟨i, j, rfl, rfl, hj, h⟩
end
section
variable {σ : St} {H : Hp} {Q : VK} {D : Ends} {K : PySem.W.Frag}
def AV (Pv : Nat -> St -> Hp -> Prop) (m : Nat) (tb : TS) (D : Ends) (σ : St) (H1 : Hp) : Prop := ∃ N : St -> Hp -> Prop, (∀ σ' H', N σ' H' -> ∃ m', m' < m /\ Pv m' σ' H') /\ tb { D with nx := N, ct := N, bk := D.nx } σ H1
theorem C0 {Pv : Nat -> St -> Hp -> Prop} {m : Nat} {tb : TS} (h : tb { D with nx := fun σ' H' => ∃ m', m' < m /\ Pv m' σ' H', ct := fun σ' H' => ∃ m', m' < m /\ Pv m' σ' H', bk := D.nx } σ H) : AV Pv m tb D σ H := ⟨_, fun _ _ h => h, h⟩
theorem yO {c : TT} {tb : TS} (Pv : Nat -> St -> Hp -> Prop) (h0 : ∃ m, Pv m σ H) (hs : ∀ m σ H, Pv m σ H -> c σ H fun b H1 => if b = true then AV Pv m tb D σ H1 else D.nx σ H1) : w4 c tb D σ H := ⟨Pv, h0, hs⟩
end
end L2
namespace L2
theorem zi {n : Nat} (h : Nat.blt n 1000 = true) : n < 1000 := by
 unfold Nat.blt at h
 exact Nat.le_of_ble_eq_true h
end L2
namespace L2
open PySem PySem.Spec PyProof.Rows
section
variable {X : Cx}
def Fh (f : Bool -> Bool) : R2 := fun x y H Q => ∃ b c, x = .bl b /\ y = .bl c /\ Q (.bl (f (b == c))) H
theorem oF : ki X (compareOp .IsNot) (Fh not) := by
 intro pins s σ H x y v u Q I rx ry h
 obtain ⟨b, c, rfl, rfl, q⟩ := h
 cases rx; cases ry
 exact isnot_bool (aM I q rfl)
end
section
variable {σ : St} {H : Hp} {Q : VK} {D : Ends} {K : PySem.W.Frag}
theorem Cm {f : Bool -> Bool} {b c : Bool} (h : Q (.bl (f (b == c))) H) : Fh f (.bl b) (.bl c) H Q := ⟨b, c, rfl, rfl, h⟩
end
section
variable {X : Cx} {e : Expr}
end
section
variable {σ : St} {H : Hp} {Q : VK} {D : Ends} {K : PySem.W.Frag}
end
end L2
namespace L2
end L2
namespace L2
open PySem PySem.Spec PyProof.Rows PySem.W
structure LJ (lt : Nat -> Nat -> Bool) : Prop where
 Eo : ∀ a, lt a a = false
 E1 : ∀ a b, lt a b = true -> lt b a = false
 ye : ∀ a b c, lt a b = false -> lt b c = false -> lt a c = false
section
variable {lt : Nat -> Nat -> Bool} {n : Nat} {S : Shared -> Prop} {cmp : Nat -> Nat -> (Bool -> Shared -> Prop) -> Shared -> Prop}
def Up (lt : Nat -> Nat -> Bool) (p : Array Nat) (k : Nat) : Prop := ∀ i j, i < j -> j < k -> lt (p.getD j 0) (p.getD i 0) = false
def Down (lt : Nat -> Nat -> Bool) (p : Array Nat) (k : Nat) : Prop := ∀ i j, i < j -> j < k -> lt (p.getD i 0) (p.getD j 0) = false
def Alike (lt : Nat -> Nat -> Bool) (p : Array Nat) (a b : Nat) : Prop := ∀ i j, a <= i -> i < b -> a <= j -> j < b -> lt (p.getD i 0) (p.getD j 0) = false
structure Ix (n : Nat) (p : Array Nat) : Prop where
 sz : p.size = n
 pm : p.toList.Perm (List.range n)
theorem Ix.low {p : Array Nat} (h : Ix n p) {i : Nat} (hi : i < n) : p.getD i 0 < n := by
 have Bg : i < p.size := by rw [h.sz]; exact hi
 have e : p.getD i 0 = p[i] := by simp [Array.getD, Bg]
 rw [e]
 have : p[i] ∈ p.toList := by simp
 exact List.mem_range.mp (h.pm.mem_iff.mp this)
theorem Ix.perm {p q : Array Nat} (h : Ix n p) (hq : q.Perm p) : Ix n q := ⟨hq.size_eq.trans h.sz, (Array.perm_iff_toList_perm.mp hq).trans h.pm⟩
theorem eC {p : Array Nat} {i j : Nat} (hj : j <= p.size) (k : Nat) : (kas_rev p i j).getD k 0 = if i <= k /\ k < j then p.getD (i + j - 1 - k) 0 else p.getD k 0 := by
 unfold kas_rev
 rw [Array.getD_eq_getD_getElem?, getElem?_mirror_all hj k]
 by_cases h : i <= k /\ k < j
 . rw [if_pos h, if_pos h, Array.getD_eq_getD_getElem?]
 . rw [if_neg h, if_neg h, Array.getD_eq_getD_getElem?]
theorem mH {p : Array Nat} (h : Ix n p) (i j : Nat) : Ix n (kas_rev p i j) := h.perm (mirror_perm _ _ _ _)
theorem qO {p : Array Nat} {k d : Nat} (hk : k < p.size) (hd : d <= k) (i : Nat) : (bubble p k d).getD i 0 = if i = k - d then p.getD k 0 else if k - d < i /\ i <= k then p.getD (i - 1) 0 else p.getD i 0 := by
 rw [Array.getD_eq_getD_getElem?, getElem?_bubble hk d hd i]
 by_cases h : i = k - d
 . rw [if_pos h, if_pos h, Array.getD_eq_getD_getElem?]
 . rw [if_neg h, if_neg h]
   by_cases h2 : k - d < i /\ i <= k
   . rw [if_pos h2, if_pos h2, Array.getD_eq_getD_getElem?]
   . rw [if_neg h2, if_neg h2, Array.getD_eq_getD_getElem?]
def Eu (n : Nat) (lt : Nat -> Nat -> Bool) (S : Shared -> Prop) (cmp : Nat -> Nat -> (Bool -> Shared -> Prop) -> Shared -> Prop) : Prop :=
 ∀ i j C s, i < n -> j < n -> S s -> (∀ s', S s' -> C (lt i j) s') -> cmp i j C s
variable (w : LJ lt) (ha : Eu n lt S cmp)
include w ha
theorem sZ {p : Array Nat} (hp : Ix n p) {Q : Nat -> Shared -> Prop} : ∀ (f k : Nat), 1 <= k -> k + f <= n -> Up lt p k -> (∀ m s, S s -> k <= m -> m <= k + f -> Up lt p m -> (m = k + f \/ (m < k + f /\ lt (p.getD m 0) (p.getD (m - 1) 0) = true)) -> Q m s) -> ∀ s, S s -> (kas_asc p f k).kasWp cmp Q s
 | 0, k, _, _, hu, hq, s, hs => hq k s hs (Nat.le_refl _) (Nat.le_refl _) hu (.inl rfl)
 | f + 1, k, h1, hf, hu, hq, s, hs => by
   refine ha _ _ _ _ (hp.low (by omega)) (hp.low (by omega)) hs fun s' rB => ?_
   cases e : lt (p.getD k 0) (p.getD (k - 1) 0) with
   | true => exact hq k s' rB (Nat.le_refl _) (by omega) hu (.inr ⟨by omega, e⟩)
   | false =>
     refine sZ hp f (k + 1) (by omega) (by omega) (fun i j pS hj => ?_) (fun m s hs a b c d => hq m s hs (by omega) (by omega) c (by rcases d with d | d; exact .inl (by omega); exact .inr ⟨by omega, d.2⟩)) s' rB
     by_cases CD : j < k
     . exact hu i j pS CD
     . have : j = k := by omega
       subst this
       by_cases hi : i = j - 1
       . rw [hi]; exact e
       . exact w.ye _ _ _ e (hu i (j - 1) (by omega) (by omega))
theorem lR {Q : Array Nat × Nat × Nat -> Shared -> Prop} : ∀ (f : Nat) (p : Array Nat) (k q : Nat), Ix n p -> k + f <= n -> q + 1 <= k -> Down lt p k -> Alike lt p (k - (q + 1)) k ->
 (∀ p' k' q' s, S s -> Ix n p' -> k <= k' -> k' <= k + f -> q' + 1 <= k' -> Down lt p' k' -> Alike lt p' (k' - (q' + 1)) k' -> Q (p', k', q') s) -> ∀ s, S s -> (kas_desc f p k q).kasWp cmp Q s
 | 0, p, k, q, hp, _, h1, hd, hl, hq, s, hs => hq p k q s hs hp (Nat.le_refl _) (Nat.le_refl _) h1 hd hl
 | f + 1, p, k, q, hp, hf, h1, hd, hl, hq, s, hs => by
   refine ha _ _ _ _ (hp.low (by omega)) (hp.low (by omega)) hs fun s' rB => ?_
   cases e : lt (p.getD k 0) (p.getD (k - 1) 0) with
   | true =>
     have su : ∀ i, i < k -> lt (p.getD i 0) (p.getD k 0) = false := fun i hi => by
      by_cases h : i = k - 1
      . rw [h]; exact w.E1 _ _ e
      . exact w.ye _ _ _ (hd i (k - 1) (by omega) (by omega)) (w.E1 _ _ e)
     by_cases h0 : q > 0
     . simp only [if_true, if_pos h0]
       have hk : k <= p.size := by rw [hp.sz]; omega
       refine lR f _ (k + 1) 0 (mH hp _ _) (by omega) (by omega) (fun i j pS hj => ?_) (fun i j a b c d => ?_) (fun p' k' q' s hs a b c d e f => hq p' k' q' s hs a (by omega) (by omega) d e f) s' rB
       . rw [eC hk, eC hk]
         by_cases CD : j = k
         . subst CD
           rw [if_neg (show ¬ (j - (q + 1) <= j /\ j < j) by omega)]
           by_cases hi : j - (q + 1) <= i /\ i < j
           . rw [if_pos hi]; exact su _ (by omega)
           . rw [if_neg hi]; exact su _ pS
         . by_cases hi : k - (q + 1) <= i /\ i < k
           . rw [if_pos hi, if_pos (show k - (q + 1) <= j /\ j < k by omega)]
             exact hl _ _ (by omega) (by omega) (by omega) (by omega)
           . rw [if_neg hi]
             by_cases As : k - (q + 1) <= j /\ j < k
             . rw [if_pos As]; exact hd _ _ (by omega) (by omega)
             . rw [if_neg As]; exact hd _ _ pS (by omega)
       . have : i = k := by omega
         have : j = k := by omega
         subst_vars
         exact w.Eo _
     . simp only [if_true, if_neg h0]
       refine lR f _ (k + 1) 0 hp (by omega) (by omega) (fun i j pS hj => ?_) (fun i j a b c d => ?_) (fun p' k' q' s hs a b c d e f => hq p' k' q' s hs a (by omega) (by omega) d e f) s' rB
       . by_cases CD : j = k
         . subst CD; exact su _ pS
         . exact hd _ _ pS (by omega)
       . have : i = k := by omega
         have : j = k := by omega
         subst_vars
         exact w.Eo _
   | false =>
     simp only [Bool.false_eq_true, if_false]
     refine ha _ _ _ _ (hp.low (by omega)) (hp.low (by omega)) rB fun s2 Bb => ?_
     cases e2 : lt (p.getD (k - 1) 0) (p.getD k 0) with
     | true => simp only [if_true]; exact hq p k q s2 Bb hp (Nat.le_refl _) (by omega) h1 hd hl
     | false =>
       simp only [Bool.false_eq_true, if_false]
       refine lR f _ (k + 1) (q + 1) hp (by omega) (by omega) (fun i j pS hj => ?_) (fun i j a b c d => ?_) (fun p' k' q' s hs a b c d e f => hq p' k' q' s hs a (by omega) (by omega) d e f) s2 Bb
       . by_cases CD : j = k
         . subst CD
           by_cases h : i = j - 1
           . rw [h]; exact e2
           . exact w.ye _ _ _ (hd i (j - 1) (by omega) (by omega)) e2
         . exact hd _ _ pS (by omega)
       . by_cases hi : i = k
         . by_cases hj : j = k
           . rw [hi, hj]; exact w.Eo _
           . rw [hi]; exact w.ye _ _ _ e (hl _ _ (by omega) (by omega) (by omega) (by omega))
         . by_cases hj : j = k
           . rw [hj]; exact w.ye _ _ _ (hl _ _ (by omega) (by omega) (by omega) (by omega)) e2
           . exact hl _ _ (by omega) (by omega) (by omega) (by omega)
theorem ro {Q : Nat × Array Nat -> Shared -> Prop} {p : Array Nat} {k : Nat} (hp : Ix n p) (h1 : 1 <= k) (hk : k <= n) (hd : Down lt p k) (hq : ∀ m p' s, S s -> Ix n p' -> 1 <= m -> m <= n -> Up lt p' m -> Q (m, p') s) (s : Shared) (hs : S s) : (kas_tail3 k n p).kasWp cmp Q s := by
 unfold kas_tail3
 rw [KasT.kasWp_bind]
 have tU : k <= p.size := by rw [hp.sz]; exact hk
 refine sZ w ha (mH hp 0 k) (n - k) k h1 (by omega) (fun i j pS hj => ?_) (fun m s hs a b c _ => hq m _ s hs (mH hp _ _) (by omega) (by omega) c) s hs
 rw [eC tU, eC tU, if_pos (by omega), if_pos (by omega)]
 exact hd _ _ (by omega) (by omega)
theorem lq {Q : Nat × Array Nat -> Shared -> Prop} {p : Array Nat} {k : Nat} (hp : Ix n p) (h1 : 1 <= k) (hk : k + 1 <= n) (hd : Down lt p (k + 1)) (hq : ∀ m p' s, S s -> Ix n p' -> 1 <= m -> m <= n -> Up lt p' m -> Q (m, p') s) (s : Shared) (hs : S s) : (kas_descPart k n p).kasWp cmp Q s := by
 unfold kas_descPart
 rw [KasT.kasWp_bind]
 refine lR w ha _ p (k + 1) 0 hp (by omega) (by omega) hd (fun i j a b c d => ?_) (fun p' k' q' s hs yf a b c jt hl => ?_) s hs
 . have : i = k := by omega
   have : j = k := by omega
   subst_vars
   exact w.Eo _
 . by_cases h0 : q' > 0
   . simp only [if_pos h0]
     have tU : k' <= p'.size := by rw [yf.sz]; omega
     refine ro w ha (mH yf _ _) (by omega) (by omega) (fun i j pS hj => ?_) hq s hs
     rw [eC tU, eC tU]
     by_cases hi : k' - (q' + 1) <= i /\ i < k'
     . rw [if_pos hi, if_pos (by omega)]; exact hl _ _ (by omega) (by omega) (by omega) (by omega)
     . rw [if_neg hi]
       by_cases As : k' - (q' + 1) <= j /\ j < k'
       . rw [if_pos As]; exact jt _ _ (by omega) (by omega)
       . rw [if_neg As]; exact jt _ _ pS (by omega)
   . simp only [if_neg h0]
     exact ro w ha yf (by omega) (by omega) jt hq s hs
theorem v3 {Q : Nat × Array Nat -> Shared -> Prop} {p : Array Nat} (hn : 1 <= n) (hp : Ix n p) (hq : ∀ m p' s, S s -> Ix n p' -> 1 <= m -> m <= n -> Up lt p' m -> Q (m, p') s) (s : Shared) (hs : S s) : (kas_count n p).kasWp cmp Q s := by
 unfold kas_count
 rw [KasT.kasWp_bind]
 refine sZ w ha hp (n - 1) 1 (Nat.le_refl _) (by omega) (fun i j _ _ => by omega) (fun m s hs a b hu hc => ?_) s hs
 by_cases hm : (m == n) = true
 . simp only [if_pos hm]; exact hq m p s hs hp a (by have := beq_iff_eq.mp hm; omega) hu
 . simp only [if_neg hm]
   have Nq : m ≠ n := fun z => hm (beq_iff_eq.mpr z)
   have n6 : m < n := by omega
   have lb : lt (p.getD m 0) (p.getD (m - 1) 0) = true := by
    rcases hc with hc | hc
    . omega
    . exact hc.2
   by_cases h1 : m > 1
   . simp only [if_pos h1]
     refine ha _ _ _ _ (hp.low (by omega)) (hp.low (by omega)) hs fun s2 Bb => ?_
     cases e : lt (p.getD 0 0) (p.getD (m - 1) 0) with
     | true => simp only [if_true]; exact hq m p s2 Bb hp a (by omega) hu
     | false =>
       simp only [Bool.false_eq_true, if_false]
       have hk : m <= p.size := by rw [hp.sz]; omega
       have al : ∀ i j, i < m -> j < m -> lt (p.getD i 0) (p.getD j 0) = false := fun i j hi hj => by
        have h1 : lt (p.getD i 0) (p.getD 0 0) = false := by
         by_cases h : i = 0
         . rw [h]; exact w.Eo _
         . exact hu 0 i (by omega) hi
        have h2 : lt (p.getD i 0) (p.getD (m - 1) 0) = false := w.ye _ _ _ h1 e
        by_cases h : j = m - 1
        . rw [h]; exact h2
        . exact w.ye _ _ _ h2 (hu j (m - 1) (by omega) (by omega))
       refine lq w ha (mH hp _ _) a (by omega) (fun i j pS hj => ?_) hq s2 Bb
       rw [eC hk, eC hk, if_pos (by omega)]
       by_cases NI : j < m
       . rw [if_pos (by omega)]; exact al _ _ (by omega) (by omega)
       . rw [if_neg (by omega)]
         have : j = m := by omega
         subst this
         exact w.ye _ _ _ (al _ (j - 1) (by omega) (by omega)) (w.E1 _ _ lb)
   . simp only [if_neg h1]
     refine lq w ha hp a (by omega) (fun i j pS hj => ?_) hq s hs
     have h1 : m = 1 := by omega
     have hi : i = m - 1 := by omega
     have hj : j = m := by omega
     rw [hi, hj]
     exact w.E1 _ _ lb
theorem mI {p : Array Nat} {k : Nat} (hp : Ix n p) (hk : k < n) (hu : Up lt p k) {Q : Nat -> Shared -> Prop} : ∀ (f l r : Nat), l <= r -> r <= k -> r - l <= f -> (∀ i, i < l -> lt (p.getD k 0) (p.getD i 0) = false) -> (∀ i, r <= i -> i < k -> lt (p.getD k 0) (p.getD i 0) = true) ->
 (∀ l s, S s -> l <= k -> (∀ i, i < l -> lt (p.getD k 0) (p.getD i 0) = false) -> (∀ i, l <= i -> i < k -> lt (p.getD k 0) (p.getD i 0) = true) -> Q l s) -> ∀ s, S s -> (kas_place p k f l r).kasWp cmp Q s
 | 0, l, r, L9, hr, hf, h1, h2, hq, s, hs => hq l s hs (by omega) h1 (fun i a b => h2 i (by omega) b)
 | f + 1, l, r, L9, hr, hf, h1, h2, hq, s, hs => by
   unfold kas_place
   by_cases h : l ≥ r
   . rw [if_pos h]; exact hq l s hs (by omega) h1 (fun i a b => h2 i (by omega) b)
   . rw [if_neg h]
     refine ha _ _ _ _ (hp.low hk) (hp.low (by omega)) hs fun s' rB => ?_
     cases e : lt (p.getD k 0) (p.getD ((l + r) / 2) 0) with
     | true =>
       simp only [if_true]
       refine mI hp hk hu f l ((l + r) / 2) (by omega) (by omega) (by omega) h1 (fun i a b => ?_) hq s' rB
       by_cases hi : i = (l + r) / 2
       . rw [hi]; exact e
       . cases e3 : lt (p.getD k 0) (p.getD i 0) with
         | true => rfl
         | false => rw [w.ye _ _ _ e3 (hu ((l + r) / 2) i (by omega) b)] at e; exact e
     | false =>
       simp only [Bool.false_eq_true, if_false]
       refine mI hp hk hu f ((l + r) / 2 + 1) r (by omega) (by omega) (by omega) (fun i a => ?_) h2 hq s' rB
       by_cases hi : i = (l + r) / 2
       . rw [hi]; exact e
       . exact w.ye _ _ _ e (hu i ((l + r) / 2) (by omega) (by omega))
theorem wZ {Q : Array Nat -> Shared -> Prop} : ∀ (f : Nat) (p : Array Nat) (k : Nat), Ix n p -> k + f = n -> Up lt p k -> (∀ p' s, S s -> Ix n p' -> Up lt p' n -> Q p' s) -> ∀ s, S s -> (kas_bin f p k).kasWp cmp Q s
 | 0, p, k, hp, hf, hu, hq, s, hs => by
   have : k = n := by omega
   subst this
   exact hq p s hs hp hu
 | f + 1, p, k, hp, hf, hu, hq, s, hs => by
   unfold kas_bin
   rw [KasT.kasWp_bind]
   refine mI w ha hp (by omega) hu k 0 k (by omega) (Nat.le_refl _) (by omega) (fun i h => by omega) (fun i a b => by omega) (fun l s hs hl h1 h2 => ?_) s hs
   have hk : k < p.size := by rw [hp.sz]; omega
   refine wZ f _ (k + 1) (hp.perm (bubble_perm _ _ _)) (by omega) (fun i j pS hj => ?_) hq s hs
   rw [qO hk (by omega), qO hk (by omega)]
   have el : k - (k - l) = l := by omega
   rw [el]
   by_cases En : j = l
   . rw [if_pos En, if_neg (by omega), if_neg (by omega)]; exact h1 i (by omega)
   . rw [if_neg En]
     by_cases KZ : i = l
     . rw [if_pos KZ, if_pos (by omega)]; exact w.E1 _ _ (h2 _ (by omega) (by omega))
     . rw [if_neg KZ]
       by_cases GY : l < i /\ i <= k
       . rw [if_pos GY, if_pos (by omega)]; exact hu _ _ (by omega) (by omega)
       . rw [if_neg GY]
         by_cases As : l < j /\ j <= k
         . rw [if_pos As]; exact hu _ _ (by omega) (by omega)
         . rw [if_neg As]; exact hu _ _ pS (by omega)
theorem zJ {Q : Array Nat -> Shared -> Prop} (hn : 1 <= n) (hq : ∀ p' s, S s -> Ix n p' -> Up lt p' n -> Q p' s) (s : Shared) (hs : S s) : (kas_sort n).kasWp cmp Q s := by
 unfold kas_sort
 rw [KasT.kasWp_bind]
 refine v3 w ha hn ⟨by simp, by simp⟩ (fun m p' s hs hp h1 hm hu => ?_) s hs
 by_cases h : m < n
 . simp only [if_pos h]
   have : max m 1 = m := by omega
   rw [this]
   exact wZ w ha _ p' m hp (by omega) hu hq s hs
 . simp only [if_neg h]
   have : m = n := by omega
   subst this
   exact hq p' s hs hp hu
end
section
variable {X : Cx} {pins : List (Addr × Obj)} {σ : St} {H H' : Hp} {s : Shared} {a : Addr}
theorem Inv.zx {f : Obj -> Obj} (I : Inv X pins σ H s) (fa : eY X pins H a) : Inv X pins σ H { s with heap := s.heap.update a f } :=
 I.turned (t' := s.toks) (fun b o hb e => by rw [Heap.get?_update_ne _ _ _ _ hb]; exact e) fa.1 fa.2.1 fa.2.2.2.1 fa.2.2.2.2.1 fa.2.2.2.2.2
theorem Inv.tJ {o : Obj} (I : Inv X pins σ H s) : Inv X pins σ H { s with heap := s.heap.push o } := I.kept (t' := s.toks) fun b u e => Heap.get?_push_of_some _ e
theorem eY.keep (fa : eY X pins H a) (h : H' a = none) : eY X pins H' a := ⟨h, fa.2⟩
theorem Inv.E5 {acc : List V} {aJ : List Value} {n : Nat} (I : Inv X pins σ H s) (fa : eY X pins H a) (Ar : X.cA.heap.objs.size <= a) (hl : acc.length <= sizeLine) (r : Vals acc aJ) (hd : s.heap.get? a = some { cls := .type "list", data := .seq aJ.toArray n }) :
 Inv X pins σ (upd H a (.lst acc)) s := by
 have ne : ∀ b u, H b = some u -> b ≠ a := fun b u e => aE e fa.1
 have old : ∀ b o, X.cA.heap.get? b = some o -> b ≠ a := fun b o e => Nat.ne_of_lt (Nat.lt_of_lt_of_le (Heap.lt_size e) Ar)
 have U := I.base
 refine ⟨I.ok, I.os, I.bare, ⟨U.keep, U.slot, fun b o e n hx => ?_, U.there, fun b xs e => ?_, fun b o u e => ?_, fun b ps e => ?_⟩, I.loc, I.cell, ?_, fun x c e => ?_, fun p hp => ?_, fun b u e => ?_, I.len⟩
 . rw [ak (old b o e)]; exact U.free b o e n hx
 . rw [ak (ne b _ (U.iK b xs e))]; exact U.iK b xs e
 . rw [ak (ne b _ (U.ic b o u e))]; exact U.ic b o u e
 . obtain ⟨more, q⟩ := U.i5 b ps e
   exact ⟨more, by rw [ak (ne b _ q)]; exact q⟩
 . rw [ak (Ne.symm fa.2.1)]; exact I.free
 . rw [ak (fa.2.2.2.2.1 x c e)]; exact I.c9 x c e
 . obtain ⟨e1, e2, e3⟩ := I.pin p hp
   exact ⟨e1, by rw [ak (fa.2.2.2.2.2 p hp)]; exact e2, e3⟩
 . by_cases hb : b = a
   . subst hb
     rw [av] at e
     cases e
     exact ⟨hl, aJ, n, r, hd⟩
   . rw [ak hb] at e
     exact (I.aK b u e).kg (fun c v _ q => q) (fun c q => by rw [ak (ne c _ q)]; exact q) fun c xs q => by rw [ak (ne c _ q)]; exact q
end
def uh (a b : Str) : Bool := decide (a.cps.toList < b.cps.toList)
def dJ (a b : Int × Str) : Bool := decide (a.1 < b.1) || (decide (a.1 = b.1) && uh a.2 b.2)
theorem zD (a : Str) : uh a a = false := decide_eq_false (List.lt_irrefl _)
theorem yj {a b : Str} (h : uh a b = true) : uh b a = false := decide_eq_false (List.lt_asymm (of_decide_eq_true h))
theorem yg {a b c : Str} (h : uh a b = false) (h2 : uh b c = false) : uh a c = false := by
 unfold uh at *
 have yc : b.cps.toList <= a.cps.toList := List.not_lt.mp (of_decide_eq_false h)
 have CU : c.cps.toList <= b.cps.toList := List.not_lt.mp (of_decide_eq_false h2)
 exact decide_eq_false (List.not_lt.mpr (List.le_trans CU yc))
theorem tR {a b : Str} (h : a.cps.toList = b.cps.toList) : a = b := by
 cases a; cases b
 simp only at h
 rw [Array.toList_inj.mp h]
theorem y4 {a b : Str} (h : uh a b = false) (h2 : uh b a = false) : a = b := by
 unfold uh at *
 have yc : b.cps.toList <= a.cps.toList := List.not_lt.mp (of_decide_eq_false h)
 have CU : a.cps.toList <= b.cps.toList := List.not_lt.mp (of_decide_eq_false h2)
 exact tR (List.le_antisymm CU yc)
theorem xD {a b : Int × Str} : dJ a b = true ↔ a.1 < b.1 \/ (a.1 = b.1 /\ uh a.2 b.2 = true) := by
 unfold dJ; simp
theorem dA {a b : Int × Str} : dJ a b = false ↔ ¬ a.1 < b.1 /\ (a.1 = b.1 -> uh a.2 b.2 = false) := by
 unfold dJ; simp
theorem qV (a : Int × Str) : dJ a a = false := dA.mpr ⟨by omega, fun _ => zD _⟩
theorem vM {a b : Int × Str} (h : dJ a b = true) : dJ b a = false := by
 rcases xD.mp h with h | ⟨h, h2⟩
 . exact dA.mpr ⟨by omega, fun _ => by omega⟩
 . exact dA.mpr ⟨by omega, fun _ => yj h2⟩
theorem xa {a b c : Int × Str} (h : dJ a b = false) (h2 : dJ b c = false) : dJ a c = false := by
 obtain ⟨h1, h3⟩ := dA.mp h
 obtain ⟨h4, h5⟩ := dA.mp h2
 refine dA.mpr ⟨by omega, fun e => ?_⟩
 exact yg (h3 (by omega)) (h5 (by omega))
theorem xJ {a b : Int × Str} (h : dJ a b = false) (h2 : dJ b a = false) : a = b := by
 obtain ⟨h1, h3⟩ := dA.mp h
 obtain ⟨h4, h5⟩ := dA.mp h2
 have e : a.1 = b.1 := by omega
 exact Prod.ext e (y4 (h3 e) (h5 e.symm))
section
variable {prog : Program} {w : World} {A : Around} {E : Value -> Shared -> Prop} {s : Shared}
theorem zK {x y : Addr} {i j : Int} {t u t2 u2 : Tok} {c d : Str} {Q : Bool -> Shared -> Prop} (hx : IsTup s.heap x #[.int i t, .str c t2]) (hy : IsTup s.heap y #[.int j u, .str d u2]) (h : Q (dJ (i, c) (j, d)) s) :
 wpAny (model prog w) A (keyLt' (tuples' true) (.ref x) (.ref y)) Q E s := by
 obtain ⟨ox, M6, cx, nx, dx⟩ := hx
 obtain ⟨oy, Ng, cy, ny, dy⟩ := hy
 refine kat_lt M6 dx Ng dy ?_
 refine kat_cons (wpAny_eqBool_int ?_)
 by_cases e : i = j
 . rw [show (i == j) = true from beq_iff_eq.mpr e]
   refine kat_yes (kat_cons (wpAny_eqBool_str ?_))
   by_cases e2 : c = d
   . rw [decide_eq_true e2]
     refine kat_yes (kat_nil ?_)
     have : dJ (i, c) (j, d) = false := by rw [e, e2]; exact qV _
     rw [this] at h
     exact h
   . rw [decide_eq_false e2]
     refine kat_no (kat_one _ _ (lt_str ?_))
     have : dJ (i, c) (j, d) = uh c d := by unfold dJ; simp [e]
     rw [this] at h
     exact h
 . rw [show (i == j) = false from beq_eq_false_iff_ne.mpr e]
   refine kat_no (oneLt_int ?_)
   have : dJ (i, c) (j, d) = decide (i < j) := by unfold dJ; simp [e]
   rw [this] at h
   exact h
end
def sW (sp : Sp) (kf : V -> Int × Str) (H : Hp) (xs : List V) : Prop := ∀ v ∈ xs, ∀ H', aB H H' -> sp [v] H' (fun y H2 => aB H' H2 /\ Dv H2 y (.tuple [.int (kf v).1, .str (kf v).2])) E0
def pA {α : Type} (lt : α -> α -> Bool) (kf : V -> α) (ys xs : List V) : Prop := ys.Perm xs /\ ys.Pairwise fun x y => lt (kf y) (kf x) = false
section
variable {X : Cx} {pins : List (Addr × Obj)} {σ : St} {H : Hp} {s : Shared} {k : Nat} {f : Addr} {fd : FuncData} {ps : List Str} {sp : Sp} {kf : V -> Int × Str} {A : Around}
structure BA (X : Cx) (pins : List (Addr × Obj)) (σ : St) (H : Hp) (kf : V -> Int × Str) (a kS : Addr) (oa : Obj) (xs : List V) (s' : Shared) : Prop where
 mk ::
 ex : ∃ H' us e ys, Inv X pins σ H' s' /\ aB H H' /\ H' a = none /\ H' kS = none /\ s'.heap.get? a = some oa /\ s'.heap.get? kS = some (seqObj "list" (List.toArray us) e) /\ Vals ys us /\ cP H' ys (xs.map fun v => .tuple [.int (kf v).1, .str (kf v).2])
theorem vU {xs : List V} {p : Array Nat} {α : Type} {lt : α -> α -> Bool} {kf : V -> α} (hp : Ix xs.length p) (hu : Up (fun i j => lt (kf (xs.getD i .aY)) (kf (xs.getD j .aY))) p xs.length) : pA lt kf (p.toList.map fun i => xs.getD i .aY) xs := by
 refine ⟨?_, ?_⟩
 . have h := hp.pm.map fun i => xs.getD i .aY
   have e : (List.range xs.length).map (fun i => xs.getD i .aY) = xs := by
    refine List.ext_getElem? fun i => ?_
    rw [List.getElem?_map]
    by_cases hi : i < xs.length
    . rw [List.getElem?_range hi]; simp [hi]
    . rw [List.getElem?_eq_none (by simpa using hi), List.getElem?_eq_none (by simpa using hi)]; rfl
   rw [e] at h
   exact h
 . rw [List.pairwise_map, List.pairwise_iff_getElem]
   intro i j hi hj pS
   have hsz : p.toList.length = xs.length := by simp [hp.sz]
   have := hu i j pS (by omega)
   have gi : p.getD i 0 = p.toList[i] := by simp [Array.getD, show i < p.size by rw [hp.sz]; omega]
   have gj : p.getD j 0 = p.toList[j] := by simp [Array.getD, show j < p.size by rw [hp.sz]; omega]
   rw [gi, gj] at this
   exact this
theorem kF : ∀ {xs : List V} {us : List Value} (i : Nat), Vals xs us -> RelV (xs.getD i .aY) (us.getD i Value.none)
 | _, _, _, .nil => rfl
 | _, _, 0, .cons r _ => r
 | _, _, i + 1, .cons _ t => by simpa using kF i t
theorem ow {xs : List V} {us : List Value} (r : Vals xs us) : ∀ l : List Nat, Vals (l.map fun i => xs.getD i .aY) (l.map fun i => us.getD i Value.none)
 | [] => .nil
 | i :: l => .cons (kF i r) (ow r l)
theorem qo {H : Hp} {g : V -> PyData} : ∀ {ys : List V} {xs : List V} {i : Nat}, cP H ys (xs.map g) -> i < xs.length -> Dv H (ys.getD i .aY) (g (xs.getD i .aY))
 | _, [], _, _, h => by simp at h
 | _, _ :: _, 0, .cons h _, _ => h
 | _, _ :: _, i + 1, .cons _ t, hi => by simpa using qo (i := i) t (by simpa using hi)
def um (X : Cx) (pins : List (Addr × Obj)) (σ : St) (H : Hp) {α : Type} (lt : α -> α -> Bool) (kf : V -> α) (xs : List V) (Q : VK) : Prop :=
 ∀ a ys H', aB H H' -> H a = none -> H' a = none -> pA lt kf ys xs -> Q (.ref a) (upd H' a (.lst ys))
theorem vn {H' : Hp} {s' : Shared} {xs ys : List V} {us : List Value} {A : Around} (I : Inv X pins σ H' s') (rv : Vals ys us) (dv : cP H' ys (xs.map fun v => .tuple [.int (kf v).1, .str (kf v).2])) :
 Eu xs.length (fun i j => dJ (kf (xs.getD i .aY)) (kf (xs.getD j .aY))) (fun z => z = s') (kas_ask X.prog X.w A (tuples' true) us) := by
 intro i j C z hi hj hz hC
 subst hz
 have one : ∀ i, i < xs.length -> ∃ x t t2, us.getD i Value.none = .ref x /\ IsTup z.heap x #[.int (kf (xs.getD i .aY)).1 t, .str (kf (xs.getD i .aY)).2 t2] := fun i hi => by
  have d := qo dv hi
  have r := kF i rv
  generalize ys.getD i .aY = y at d r
  generalize us.getD i Value.none = u at r
  cases d with
  | tup h q =>
    have r' : u = .ref _ := r
    obtain ⟨aJ, rr, tt, _⟩ := I.tuple (.of h)
    cases q with
    | cons h1 q =>
      cases q with
      | cons h2 q =>
        cases q
        cases h1; cases h2
        cases rr with
        | cons r1 rr =>
          cases rr with
          | cons r2 rr =>
            cases rr
            obtain ⟨t1, rfl⟩ := r1
            obtain ⟨t2, rfl⟩ := r2
            exact ⟨_, t1, t2, r', tt⟩
 obtain ⟨x, t, t2, e1, hx⟩ := one i hi
 obtain ⟨y, u, u2, e2, hy⟩ := one j hj
 show wpAny (model X.prog X.w) A (keyLt' (tuples' true) (us.getD i Value.none) (us.getD j Value.none)) C (fun _ _ => False) z
 rw [e1, e2]
 exact zK hx hy (hC _ rfl)
theorem mE {H' : Hp} {s' : Shared} : ∀ {xs ys : List V} {us : List Value}, Inv X pins σ H' s' -> Vals ys us -> cP H' ys (xs.map fun v => .tuple [.int (kf v).1, .str (kf v).2]) ->
 ∃ fs, KatTups s'.heap us fs /\ fs.length = us.length /\ ∀ v ∈ fs, Looks (model X.prog X.w) s'.heap (typeOf v) (.type "int")
 | [], _, _, I, rv, dv => by
   cases dv
   cases rv
   exact ⟨[], trivial, rfl, fun _ z => nomatch z⟩
 | x :: xs, _, _, I, rv, dv => by
   cases dv with
   | cons d dv =>
     cases rv with
     | cons r rv =>
       obtain ⟨fs, h1, h2, h3⟩ := mE I rv dv
       cases d with
       | tup h q =>
         obtain ⟨aJ, rr, tt, _⟩ := I.tuple (.of h)
         cases q with
         | cons q1 q =>
           cases q with
           | cons q2 q =>
             cases q
             cases q1; cases q2
             cases rr with
             | cons r1 rr =>
               cases rr with
               | cons r2 rr =>
                 cases rr
                 obtain ⟨t1, rfl⟩ := r1
                 obtain ⟨t2, rfl⟩ := r2
                 cases r
                 obtain ⟨o, ho, hc, n, hd⟩ := tt
                 refine ⟨_ :: fs, KatTups.cons ho hc hd rfl h1, by simp [h2], fun v hv => ?_⟩
                 rcases List.mem_cons.mp hv with rfl | hv
                 . exact .now
                 . exact h3 v hv
end
section
variable {X : Cx} {pins : List (Addr × Obj)} {σ : St} {H : Hp} {s : Shared} {k : Nat} {f : Addr} {fd : FuncData} {ps : List Str} {sp : Sp} {kf : V -> Int × Str} {A : Around}
theorem oX {H' : Hp} {s' : Shared} {a kS : Addr} {e e1 : Nat} {us out : List Value} {ys : List V} {st : SortSt} {E : Value -> Shared -> Prop} {P : PySem.Fin -> Shared -> Prop} (I : Inv X pins σ H' s') (fa : eY X pins H' a) (fk : eY X pins H' kS) (x9 : a ≠ kS) (Ar : X.cA.heap.objs.size <= a)
 (oa : s'.heap.get? a = some (seqObj "list" #[] e1)) (ok : s'.heap.get? kS = some (seqObj "list" (List.toArray us) e)) (hz : us.length < 64) (Jk : (arrOf st).map (·.2) = List.toArray out) (ho : out.length < 64) (hf : failedOf st = none) (rv : Vals ys out)
 (h : ∀ s2, Inv X pins σ (upd H' a (.lst ys)) s2 -> P (.done (.ret .none)) s2) : wpAny (model X.prog X.w) A (ksk_tail a false e1 (.ref kS) st) P E s' := by
 have FV : (64 : Nat) <= sizeLine := by decide
 unfold ksk_tail
 dsimp only
 rw [Jk]
 refine wpAny_bind (listUpdate_at ok rfl ?_ (by rw [List.size_toArray]; omega) (Nat.zero_le _))
 refine wpAny_bind (wpAny_letGo ?_)
 have HR : (s'.heap.update kS (Obj.mapSeq fun _ => (#[] : Array Value))).get? a = some (seqObj "list" #[] e1) := by rw [Heap.get?_update_ne _ _ _ _ x9]; exact oa
 have I1 : Inv X pins σ H' { s' with heap := s'.heap.update kS (Obj.mapSeq fun _ => (#[] : Array Value)) } := I.zx fk
 refine wpAny_bind (seqEpoch_at HR rfl ?_)
 refine wpAny_bind (listUpdate_at HR rfl ?_ (Nat.zero_le _) (by show (List.toArray out).size <= _; rw [List.size_toArray]; omega))
 rw [hf]
 simp only [bne_self_eq_false, Bool.false_eq_true, if_false]
 refine wpAny_pure (h _ ?_)
 have I2 := I1.zx (f := Obj.mapSeq fun _ => List.toArray out) fa
 exact I2.E5 fa Ar (by rw [rv.length]; omega) rv (get?_update_seq HR fun _ => List.toArray out)
theorem xU {H' : Hp} {s' : Shared} {a kS : Addr} {e e1 : Nat} {us vs : List Value} {xs ys : List V} {Q : VK} {E : Value -> Shared -> Prop} {P : PySem.Fin -> Shared -> Prop} (sm : aB H H') (JM : H a = none) (I : Inv X pins σ H' s') (fa : eY X pins H' a) (fk : eY X pins H' kS) (x9 : a ≠ kS) (Ar : X.cA.heap.objs.size <= a)
 (oa : s'.heap.get? a = some (seqObj "list" #[] e1)) (ok : s'.heap.get? kS = some (seqObj "list" (List.toArray us) e)) (h64 : xs.length < 64) (rx : Vals xs vs) (ry : Vals ys us) (dv : cP H' ys (xs.map fun v => .tuple [.int (kf v).1, .str (kf v).2]))
 (fin : um X pins σ H dJ kf xs Q) (h : ∀ s2, EP X pins σ Q (.ref a) s2 -> P (.done (.ret .none)) s2) : wpAny (model X.prog X.w) A (ksk_end a false vs.toArray e1 (.ref kS) (List.toArray us)) P E s' := by
 have lx := rx.length
 have ly := ry.length
 have ld := dv.length
 rw [List.length_map] at ld
 unfold ksk_end
 simp only [Bool.false_eq_true, if_false]
 by_cases h2 : vs.toArray.size < 2
 . rw [if_pos h2, if_pos h2]
   refine wpAny_bind (wpAny_pure ?_)
   rw [StateT.run_pure]
   refine wpAny_bind (wpAny_pure ?_)
   refine oX (out := vs) (ys := xs) I fa fk x9 Ar oa ok (by omega) ?_ (by omega) rfl rx (fun s2 I2 => h s2 ⟨.ref a, _, I2, rfl, fin a xs H' sm JM fa.1 ⟨List.Perm.refl _, ?_⟩⟩)
   . show ((List.toArray us).zip vs.toArray).map (·.2) = List.toArray vs
     apply Array.toList_inj.mp
     have : us.length = vs.length := by omega
     simp [List.map_snd_zip, this]
   . rw [List.size_toArray] at h2
     match xs, lx with
     | [], _ => exact .nil
     | [_], _ => exact List.pairwise_singleton _ _
     | _ :: _ :: _, lx => simp at lx; omega
 . rw [if_neg h2, if_neg h2]
   rw [List.size_toArray] at h2
   obtain ⟨fs, k1, k2, k3⟩ := mE I ry dv
   refine wpAny_bind (kat_kind k1 (by omega) k3 (by decide) ?_)
   have Gy : us.length = vs.length := by omega
   refine wpAny_bind (wpAny_mono (kat_run (Q := fun x8 s2 => s2 = s' /\ ∃ p : Array Nat, Ix xs.length p /\ arrOf x8 = p.map (kas_item ((List.toArray us).zip (List.toArray vs))) /\ failedOf x8 = none /\ Up (fun i j => dJ (kf (xs.getD i .aY)) (kf (xs.getD j .aY))) p xs.length)
    (G := fun p s2 => s2 = s' /\ Ix xs.length p /\ Up (fun i j => dJ (kf (xs.getD i .aY)) (kf (xs.getD j .aY))) p xs.length) Gy (by omega) (by omega) (fun p x8 s2 a1 a2 a3 ⟨a4, a5, a6⟩ => ⟨a4, p, a5, a2, a3, a6⟩) ?_) ?_ fun _ _ z => z)
   . rw [show vs.length = xs.length by omega]
     refine zJ (lt := fun i j => dJ (kf (xs.getD i .aY)) (kf (xs.getD j .aY))) (S := fun z => z = s') ⟨fun _ => qV _, fun _ _ => vM, fun _ _ _ => xa⟩ (vn I ry dv) (by omega) (fun p s2 hs hp hu => ⟨hs, hp, hu⟩) s' rfl
   . rintro ⟨⟨⟩, x8⟩ s2 ⟨rfl, p, hp, MI, hf, hu⟩
     dsimp only
     refine oX (out := p.toList.map fun i => vs.getD i Value.none) (ys := p.toList.map fun i => xs.getD i .aY) I fa fk x9 Ar oa ok (by omega) (kat_snds Gy MI) (by simp [hp.sz]; omega) hf (ow rx _) (fun s3 I3 => h s3 ⟨.ref a, _, I3, rfl, fin a _ H' sm JM fa.1 (vU hp hu)⟩)
end
section
variable {X : Cx} {k : Nat} {f : Addr} {ps : List Str} {sp : Sp} {e : Expr} {t : TA} {x : Str} {p p2 pos B3 : Pos}
end
end L2
namespace L2
open PySem PySem.Spec PyProof.Rows
theorem mF {scope : Scope} {env : Env} (h : ∀ x ∈ scope.names, x.2 = .free -> ∃ c, env.cells.lookup x.1 = some c) :
 ∃ cl, closureFor scope env = pure cl /\ (∀ x c, cl.lookup x = some c -> env.cells.lookup x = some c) /\ ∀ x ∈ scope.names, x.2 = .free -> ∃ c, cl.lookup x.1 = some c := by
 have key : ∀ (l : List (Str × NameKind)) (acc : List (Str × Addr)), (∀ x ∈ l, x.2 = .free -> ∃ c, env.cells.lookup x.1 = some c) -> (∀ x c, acc.lookup x = some c -> env.cells.lookup x = some c) ->
  ∃ cl, (forIn l acc (fun (x : Str × NameKind) (r : List (Str × Addr)) => (match x with
    | (name, kind) => if (kind == NameKind.free) = true then (do let c <- cellOf env name; pure (ForInStep.yield ((name, c) :: r))) else pure (ForInStep.yield r) : Sem (ForInStep (List (Str × Addr))))) : Sem _) = pure cl /\
    (∀ x c, cl.lookup x = some c -> env.cells.lookup x = some c) /\ (∀ x ∈ l, x.2 = .free -> ∃ c, cl.lookup x.1 = some c) /\ ∀ x, (∃ c, acc.lookup x = some c) -> ∃ c, cl.lookup x = some c := by
  intro l
  induction l with
  | nil => intro acc _ ha; exact ⟨acc, rfl, ha, fun _ z => (nomatch z), fun _ z => z⟩
  | cons p r ih =>
    intro acc hl ha
    obtain ⟨n, k⟩ := p
    rw [List.forIn_cons]
    by_cases hk : k = .free
    . subst hk
      obtain ⟨c, hc⟩ := hl (n, .free) List.mem_cons_self rfl
      have oR : cellOf env n = pure c := by unfold cellOf; rw [hc]
      obtain ⟨cl, e, h1, h2, h3⟩ := ih ((n, c) :: acc) (fun x hx => hl x (List.mem_cons_of_mem _ hx)) (fun x d hd => by
       rw [List.lookup_cons] at hd
       by_cases hx : x = n
       . subst hx; rw [beq_self_eq_true] at hd; cases hd; exact hc
       . rw [beq_eq_false_iff_ne.mpr hx] at hd; exact ha x d hd)
      refine ⟨cl, ?_, h1, fun x hx hf => ?_, fun x ⟨d, hd⟩ => h3 x ?_⟩
      . simp only [beq_self_eq_true, if_true, oR]
        exact e
      . rcases List.mem_cons.mp hx with rfl | hx
        . exact h3 n ⟨c, by rw [List.lookup_cons, beq_self_eq_true]⟩
        . exact h2 x hx hf
      . rw [List.lookup_cons]
        by_cases hx : x = n
        . subst hx; rw [beq_self_eq_true]; exact ⟨c, rfl⟩
        . rw [beq_eq_false_iff_ne.mpr hx]; exact ⟨d, hd⟩
    . obtain ⟨cl, e, h1, h2, h3⟩ := ih acc (fun x hx => hl x (List.mem_cons_of_mem _ hx)) ha
      refine ⟨cl, ?_, h1, fun x hx hf => ?_, h3⟩
      . have : (k == NameKind.free) = false := by simpa using hk
        simp only [this, Bool.false_eq_true, if_false]
        exact e
      . rcases List.mem_cons.mp hx with rfl | hx
        . exact absurd hf hk
        . exact h2 x hx hf
 obtain ⟨cl, e, h1, h2, _⟩ := key scope.names [] h (fun _ _ z => by simp at z)
 refine ⟨cl, ?_, h1, h2⟩
 unfold closureFor
 show (forIn scope.names [] _ >>= fun cs => pure cs) = _
 refine Eq.trans (congrArg (· >>= _) e) rfl
theorem gZ {env : Env} {scope : Scope} {x : Str} : (relabel scope env).names.lookup x = (scope.names.lookup x).map fun k => if (k == NameKind.free && env.scope.kind == .function && env.kindOf x == some .cell) = true then .cell else k := by
 unfold relabel
 show List.lookup x (List.map _ scope.names) = _
 generalize scope.names = l
 induction l with
 | nil => rfl
 | cons p r ih =>
   obtain ⟨n, k⟩ := p
   rw [List.map_cons]
   dsimp only
   by_cases hx : x = n
   . subst hx
     by_cases hc : (k == NameKind.free && env.scope.kind == .function && env.kindOf x == some .cell) = true
     . rw [if_pos hc, List.lookup_cons, List.lookup_cons, beq_self_eq_true]; simp only [Option.map_some, if_pos hc]
     . rw [if_neg hc, List.lookup_cons, List.lookup_cons, beq_self_eq_true]; simp only [Option.map_some, if_neg hc]
   . have hb : (x == n) = false := beq_eq_false_iff_ne.mpr hx
     by_cases hc : (k == NameKind.free && env.scope.kind == .function && env.kindOf n == some .cell) = true
     . rw [if_pos hc, List.lookup_cons, List.lookup_cons, hb]; exact ih
     . rw [if_neg hc, List.lookup_cons, List.lookup_cons, hb]; exact ih
theorem mem_lookup {α : Type} {x : Str} {k : α} : ∀ {l : List (Str × α)}, l.lookup x = some k -> (x, k) ∈ l
 | [], h => by simp at h
 | (n, j) :: r, h => by
   rw [List.lookup_cons] at h
   by_cases hx : x = n
   . subst hx; rw [beq_self_eq_true] at h; cases h; exact List.mem_cons_self
   . rw [beq_eq_false_iff_ne.mpr hx] at h; exact List.mem_cons_of_mem _ (mem_lookup h)
def fK (X : Cx) (N : List Str) (scope : Scope) (cl : List (Str × Addr)) (C : Addr) (s : Shared) (H : Hp) (fp : List Addr) : Cx :=
 { X with N := N, cA := s, vu := H, env := compEnvC scope cl C X.env, outer := X.stack, stack := X.stack, ex := fp, fn := fun _ => false, pn := [], xe := fun _ _ => False }
structure iP (X : Cx) (T M : List Str) (scope : Scope) : Prop where
 kind : scope.kind = .function
 cell : ∀ y ∈ scope.names, y.2 ≠ .cell
 names : ∀ y ∈ scope.names, y.2 = .local -> scope.names.lookup y.1 = some .local
 free : ∀ y ∈ scope.names, y.2 = .free -> X.env.scope.names.lookup y.1 = some .cell \/ X.env.scope.names.lookup y.1 = some .free
 len : M.length = X.N.length
 old : ∀ (i : Nat) x, M[i]? = some x -> X.N[i]? = some x /\ scope.names.lookup x = some .free \/ scope.names.lookup x = none
section
variable {X : Cx} {pins : List (Addr × Obj)} {σ : St} {H : Hp} {s : Shared} {T M : List Str} {scope : Scope} {cl : List (Str × Addr)} {fp : List Addr}
theorem Es {C : Addr} (I : Inv X pins σ H s) (hN : iP X T M scope) (h1 : ∀ x c, cl.lookup x = some c -> X.env.cells.lookup x = some c) (h2 : ∀ x ∈ scope.names, x.2 = .free -> ∃ c, cl.lookup x.1 = some c)
 (hC : s.heap.objs.size <= C) (hf : ∀ b ∈ fp, eY X pins H b) (DU : ∀ b ∈ fp, b < s.heap.objs.size) : (fK X (T ++ M) scope cl C s H fp).Ok where
 mod := I.ok.mod
 kind := hN.kind
 glob := I.ok.glob
 blt := I.ok.blt
 above := hC
 inj := fun x y c e1 e2 => I.ok.inj x y c (h1 x c e1) (h1 y c e2)
 has := fun x hx => by
  have pW : (relabel scope X.env).names.lookup x = some .cell \/ (relabel scope X.env).names.lookup x = some .free := hx
  rw [gZ] at pW
  cases e : scope.names.lookup x with
  | none => rw [e] at pW; simp at pW
  | some k =>
    have hm := mem_lookup e
    have hk : k = .free := by
     rw [e] at pW
     simp only [Option.map_some, Option.some.injEq] at pW
     by_cases hf : k = .free
     . exact hf
     . have : (k == NameKind.free) = false := by simpa using hf
       simp only [this, Bool.false_and, Bool.false_eq_true, if_false] at pW
       rcases pW with pW | pW
       . exact absurd pW (hN.cell _ hm)
       . exact pW
    exact h2 (x, k) hm hk
 yB := fun _ _ z => by cases z
 hd := I.ok.hd
 frames := I.ok.frames
 AA := .inl rfl
 AJ := fun b hb => ⟨Nat.ne_of_lt (Nat.lt_of_lt_of_le (DU b hb) hC), fun x c e => (hf b hb).2.2.2.2.1 x c (h1 x c e)⟩
 bs := I.bs
 rC := Nat.le_trans I.ok.rC I.sz
 pL := fun b o e hb => by
  rcases (hf b hb).2.2.2.1 with z | z
  . exact I.ok.pL b o e z
  . exact absurd (Nat.lt_of_lt_of_le (Heap.lt_size e) (Nat.le_trans I.ok.rC z)) (Nat.lt_irrefl _)
 pV := fun b hb z => by
  rcases List.mem_cons.mp (I.pK b z) with e | e
  . exact (hf b hb).2.1 e
  . exact (hf b hb).2.2.1 e
 ie := I.stack
 uF := I.lO
theorem xI {C : Addr} {h₁ : Heap} {tk : Nat} (I : Inv X pins σ H s) (hN : iP X T M scope) (h1 : ∀ x c, cl.lookup x = some c -> X.env.cells.lookup x = some c) (h2 : ∀ x ∈ scope.names, x.2 = .free -> ∃ c, cl.lookup x.1 = some c)
 (hC : s.heap.objs.size <= C) (hf : ∀ b ∈ fp, eY X pins H b) (DU : ∀ b ∈ fp, b < s.heap.objs.size)
 {m : Str -> Option Value} (hn : h₁.Ns C m) (old : ∀ b o, s.heap.get? b = some o -> h₁.get? b = some o) :
 Inv (fK X (T ++ M) scope cl C s H fp) [] (List.replicate T.length none ++ σ) H { s with heap := h₁, toks := tk } where
 ok := Es I hN h1 h2 hC hf DU
 os := rfl
 bare := I.bare
 base := Un.kept old
 loc := by
  refine ⟨m, hn, fun i x v e1 e2 e3 => ?_⟩
  have DT : (T ++ M)[i]? = some x := e1
  by_cases hi : i < T.length
  . rw [List.getElem?_append_left (by simpa using hi), List.getElem?_replicate, if_pos hi] at e2
    cases e2
  . have Bg : T.length <= i := Nat.le_of_not_lt hi
    rw [List.getElem?_append_right Bg] at DT
    rw [List.getElem?_append_right (by simpa using Bg), List.length_replicate] at e2
    have HN : BQ (relabel scope X.env) x := e3
    rcases hN.old _ x DT with ⟨hx, kL⟩ | vB
    . obtain ⟨m0, Ar, G8⟩ := I.loc
      have hk := hN.free _ (mem_lookup kL) rfl
      have tU : X.env.scope.names.lookup x = some .cell \/ X.env.scope.names.lookup x = some .free := hk
      obtain ⟨u, r, l⟩ := G8 _ x v hx e2 (.inr tU)
      refine ⟨u, r, .inr ?_⟩
      rcases l with ⟨z, _⟩ | ⟨_, c, hc, oR⟩
      . have z' : X.env.scope.names.lookup x = some .local := z
        rw [z'] at tU; rcases tU with q | q <;> cases q
      . obtain ⟨c', lb⟩ := h2 _ (mem_lookup kL) rfl
        have : c' = c := by have := h1 _ _ lb; rw [hc] at this; exact (Option.some.inj this).symm
        subst this
        refine ⟨?_, c', lb, ?_⟩
        . show (relabel scope X.env).names.lookup x = some .cell \/ (relabel scope X.env).names.lookup x = some .free
          rw [gZ, kL]
          simp only [Option.map_some, Option.some.injEq]
          by_cases hc : (NameKind.free == NameKind.free && X.env.scope.kind == .function && X.env.kindOf x == some .cell) = true
          . left; rw [if_pos hc]
          . right; rw [if_neg hc]
        . obtain ⟨o, ho, hd⟩ := oR
          exact ⟨o, old _ _ ho, hd⟩
    . unfold BQ at HN
      rw [gZ, vB] at HN
      simp at HN
 cell := fun x c e => by
  obtain ⟨v, o, ho, hd⟩ := I.cell x c (h1 x c e)
  exact ⟨v, o, old _ _ ho, hd⟩
 free := I.aK.fresh hC
 c9 := fun x c e => I.c9 x c (h1 x c e)
 pin := fun p hp => nomatch hp
 aK := I.aK.kept old
 len := by
  show (List.replicate T.length none ++ σ).length = (T ++ M).length
  rw [List.length_append, List.length_append, List.length_replicate, hN.len, I.len]
theorem zf {C D : Addr} {s' : Shared} {σ' : St} {H' : Hp} {acc : List V} {aJ : List Value} {n : Nat} (I : Inv X pins σ H s) (I' : Inv (fK X (T ++ M) scope cl C s H fp) [] σ' H' s')
 (hf : ∀ b ∈ fp, eY X pins H b) (hD : s.heap.objs.size <= D) (hn : H' D = none) (hl : acc.length <= sizeLine) (r : Vals acc aJ) (hd : s'.heap.get? D = some { cls := .type "list", data := .seq aJ.toArray n }) :
 Inv X pins σ (upd H' D (.lst acc)) s' := by
 have U : Un (mJ X.stack) fp H H' s.heap s'.heap := I'.base
 have HK : ∀ b o, s.heap.get? b = some o -> b ≠ D := fun b o e => Nat.ne_of_lt (Nat.lt_of_lt_of_le (Heap.lt_size e) hD)
 have neT : ∀ b u, H' b = some u -> b ≠ D := fun b u e => aE e hn
 refine I.xE (ch := fp) I'.os ⟨U.keep, U.slot, fun b o e1 e2 e3 => ?_, U.there, fun b xs e => ?_, fun b o u e => ?_, fun b ps e => ?_⟩ (fun b u e => ?_) I'.bare (fun b hb => ⟨(hf b hb).2.2.2.1, (hf b hb).2.1, (hf b hb).2.2.2.2.1, (hf b hb).2.2.2.2.2⟩)
 . rw [ak (HK b o e1)]; exact U.free b o e1 e2 e3
 . rw [ak (neT b _ (U.iK b xs e))]; exact U.iK b xs e
 . rw [ak (neT b _ (U.ic b o u e))]; exact U.ic b o u e
 . obtain ⟨more, q⟩ := U.i5 b ps e
   exact ⟨more, by rw [ak (neT b _ q)]; exact q⟩
 . by_cases hb : b = D
   . subst hb
     rw [av] at e
     cases e
     exact ⟨hl, aJ, n, r, hd⟩
   . rw [ak hb] at e
     exact (I'.aK b u e).kg (fun c v _ q => q) (fun c q => by rw [ak (neT c _ q)]; exact q) fun c xs q => by rw [ak (neT c _ q)]; exact q
end
theorem sX {prog : Program} {w : World} {A : Around} {R : Result -> Shared -> Prop} {s : Shared} {elt target iter : Expr} {ifs : List Expr} {scope : Scope} {pos : Pos} {it acc : Value} {env : Env} (I : Nat -> Shared -> Prop)
 (turn : ∀ n s, I n s -> wpAny (model prog w) A (pyNext it) (fun r s₁ => match r with
  | none => R (.ok .next) s₁
  | some v => wpAny (model prog w) A (letOwnedTupleGo target it v) (fun _ A0 => wpAny (model prog w) A (assign target env v) (fun _ s₂ =>
   wpAny (model prog w) A (forIn ifs true fun c r => if r = true then do let ok <- isTrue c env (eval c env); pure (ForInStep.yield ok) else pure (ForInStep.yield r)) (fun ok s₃ =>
    if ok = true then wpAny (model prog w) A (eval elt env) (fun x s₄ =>
     wpAny (model prog w) A (call (.builtin "list.append") [acc, x]) (fun _ s₅ => ∃ m, m < n /\ I m s₅) (fun _ _ => False) s₄) (fun _ _ => False) s₃
    else ∃ m, m < n /\ I m s₃) (fun _ _ => False) s₂) (fun _ _ => False) A0) (fun _ _ => False) s₁) (fun _ _ => False) s)
 (n : Nat) (h : I n s) :
 codeAny (model prog w) A (.compLoop (.ListComp elt [⟨target, iter, ifs, 0⟩] scope pos) 0 it acc env) R s := by
 refine codeAny_loop rfl I (fun n s hI => ?_) n h
 show wpAny _ A ((compTurn (.ListComp elt [⟨target, iter, ifs, 0⟩] scope pos) 0 it acc env).onRaise (fun x => do noteFrame x env; theTreesLotGoes x)) _ _ s
 refine wpAny_noted ?_
 rw [compTurn_list]
 refine wpAny_bind (wpAny_standAt (wpAny_bind (wpAny_mono (turn n s hI) (fun r s₁ h₁ => ?_) fun _ _ h' => h'.elim)))
 cases r with
 | none => exact wpAny_pure h₁
 | some v =>
   refine wpAny_bind (wpAny_mono h₁ (fun _ A0 Ex => ?_) fun _ _ h' => h'.elim)
   refine wpAny_bind (wpAny_mono Ex (fun _ s₂ h₂ => wpAny_bind (wpAny_mono h₂ (fun ok s₃ h₃ => ?_) fun _ _ h' => h'.elim)) fun _ _ h' => h'.elim)
   cases ok with
   | false => exact wpAny_pure ⟨rfl, h₃⟩
   | true =>
     exact wpAny_bind (wpAny_bind (wpAny_mono h₃ (fun x s₄ h₄ => wpAny_bind (wpAny_mono h₄ (fun _ s₅ h₅ => wpAny_pure (wpAny_pure ⟨rfl, h₅⟩)) fun _ _ h' => h'.elim)) fun _ _ h' => h'.elim))
def F5 (X : Cx) (ifs : List Expr) (t : TT) : Prop :=
 ∀ (pins : List (Addr × Obj)) (s : Shared) (σ : St) (H : Hp) (Q : Bool -> Hp -> Prop), Inv X pins σ H s -> t σ H Q ->
   wpAny (model X.prog X.w) X.A (forIn ifs true fun c r => if r = true then do let ok <- isTrue c X.env (eval c X.env); pure (ForInStep.yield ok) else pure (ForInStep.yield r)) (TP X pins σ Q) X.xe s
def IE : TT := fun _ H Q => Q true H
theorem pC {X : Cx} : F5 X [] IE := fun _ _ _ H _ I h => wpAny_tests_nil ⟨H, I, h⟩
theorem zR {X : Cx} {c : Expr} {t : TT} (h : PT X c t) : F5 X [c] t := fun pins s σ H Q I q => wpAny_tests_one (h pins s σ H Q I q)
def Eh (k : Nat) (g : TG) (tc : TT) (te : TE) (Fin : List V -> Hp -> Prop) (σ : St) (J : It) (H1 : Hp) : Prop :=
 ∃ W : Nat -> Nat -> List V -> Hp -> Prop, (∃ m, W 0 m [] H1) /\ ∀ i m acc H, W i m acc H ->
   (J.stop i H /\ Fin acc H) \/ (J.go i H /\ acc.length < sizeLine /\ ∀ x H', J.DN i H x H' -> g x (List.replicate k none ++ σ) H' fun σ2 H2 => tc σ2 H2 fun b H3 =>
    if b = true then te σ2 H3 fun y H4 => ∃ m', m' < m /\ W (i + 1) m' (acc ++ [y]) H4 else ∃ m', m' < m /\ W (i + 1) m' acc H3)
section
variable {X : Cx} {pins : List (Addr × Obj)} {σ : St} {H : Hp} {s : Shared} {T M : List Str} {scope : Scope} {cl : List (Str × Addr)} {fp : List Addr} {g : TG} {tc : TT} {te : TE} {tg elt iter : Expr} {ifs : List Expr} {pos : Pos}
theorem Inv.forget {X : Cx} {pins : List (Addr × Obj)} {σ σ' : St} {H : Hp} {s : Shared} (I : Inv X pins σ' H s) (k : Nat) (hk : k + σ.length = σ'.length) (h : σ'.drop k = σ) : Inv X pins (List.replicate k none ++ σ) H s := by
 refine I.weak (by simp [hk]) (fun i v e => ?_)
 by_cases hi : i < k
 . rw [List.getElem?_append_left (by simpa using hi), List.getElem?_replicate, if_pos hi] at e; cases e
 . rw [List.getElem?_append_right (by simpa using hi), List.length_replicate, <- h, List.getElem?_drop] at e
   have : k + (i - k) = i := by omega
   rw [this] at e; exact e
theorem wO {it : Addr} {tn : Nat -> Heap -> Prop} {J : It} {RR : Value -> Addr -> Result -> Shared -> Prop} {Fin : List V -> Hp -> Prop} {E : Value -> Shared -> Prop}
 (hN : iP X T M scope) (lg : X.calm = true) (h1 : ∀ x c, cl.lookup x = some c -> X.env.cells.lookup x = some c) (h2 : ∀ x ∈ scope.names, x.2 = .free -> ∃ c, cl.lookup x.1 = some c)
 (hg : ∀ cl C s H fp, PG (fK X (T ++ M) scope cl C s H fp) tg g) (L6 : ∀ v H Q, g v (List.replicate T.length none ++ σ) H Q -> g v (List.replicate T.length none ++ σ) H fun σ2 H2 => Q σ2 H2 /\ T.length + σ.length = σ2.length /\ σ2.drop T.length = σ)
 (hc : ∀ cl C s H fp, F5 (fK X (T ++ M) scope cl C s H fp) ifs tc) (he : ∀ cl C s H fp, PE (fK X (T ++ M) scope cl C s H fp) elt te)
 (I : Inv X pins σ H s) (Tn : Turn X.prog X.w X.K tg J fp it tn) (st : tn 0 s.heap) (hf : ∀ b ∈ fp, eY X pins H b) (hW : Eh T.length g tc te Fin σ J H)
 (hR : ∀ D C s' H' acc m, s.heap.objs.size <= D -> s.heap.objs.size <= C -> C ≠ D -> s'.heap.Ns C m -> H' C = none -> H' D = none -> Inv X pins σ (upd H' D (.lst acc)) s' -> Fin acc H' -> RR (.ref D) C (.ok .next) s') :
 wpAny (model X.prog X.w) X.A (newList []) (fun acc s₃ => wpAny (model X.prog X.w) X.A (newFunctionEnv scope X.env.globals cl [] X.env.qual none .none (some X.env)) (fun EK s₄ =>
  codeAny (model X.prog X.w) X.A (.compStart (.ListComp elt [⟨tg, iter, ifs, 0⟩] scope pos) 0 (.ref it) acc { EK with scope := relabel scope X.env }) (RR acc EK.locals) s₄) E s₃) E s := by
 refine wpAny_newObj_type (wpAny_newFunctionEnv hN.cell (by intro y hy; simp at hy) (fun h₁ se pz => ?_) hN.kind)
 dsimp only at se pz ⊢
 generalize HY : s.heap.push { cls := .type "list", dict := none, data := .seq ([] : List Value).toArray } = H2 at se pz ⊢
 have hC : H2.objs.size = s.heap.objs.size + 1 := by rw [<- HY, Heap.size_push]
 have GL : s.heap.objs.size ≠ H2.objs.size := by rw [hC]; exact Nat.ne_of_lt (Nat.lt_succ_self _)
 have CF : s.heap.objs.size <= H2.objs.size := by rw [hC]; exact Nat.le_succ _
 have DU : ∀ b ∈ fp, b < s.heap.objs.size := fun b hb => by obtain ⟨o, ho, _⟩ := Tn.obj _ _ st b hb; exact Heap.lt_size ho
 have old : ∀ b o, s.heap.get? b = some o -> h₁.get? b = some o := fun b o e => pz.extBut b o (Nat.ne_of_lt (Nat.lt_of_lt_of_le (Heap.lt_size e) CF)) (Heap.get?_push_of_some _ (HY ▸ Heap.get?_push_of_some _ e))
 have gy : h₁.PlainList s.heap.objs.size #[] := ⟨_, pz.extBut _ _ GL (Heap.get?_push_of_some _ (HY ▸ Heap.get?_push_size _ rfl))⟩
 generalize Ct : s.heap.objs.size = D at *
 generalize Kt : H2.objs.size = C at *
 have I0 : Inv (fK X (T ++ M) scope cl C s H fp) [] (List.replicate T.length none ++ σ) H { s with heap := h₁, toks := s.toks + ([] : List (Str × Value)).length } :=
  xI I hN h1 h2 (by rw [Ct]; exact CF) hf (by rw [Ct]; exact DU) se old
 have GO : tn 0 h₁ := Tn.keep _ _ _ st fun b _ o e => old b o e
 obtain ⟨W, ⟨m0, w0⟩, turn⟩ := hW
 have JV : ∀ b ∈ fp, b ≠ D := fun b hb => Nat.ne_of_lt (DU b hb)
 have stat : ∀ {H' : Hp} {pl : List (Addr × Obj)}, (∀ b ∈ fp, H' b = none) -> (∀ p ∈ pl, p.1 = D) -> ∀ b ∈ fp, eY (fK X (T ++ M) scope cl C s H fp) pl H' b := fun {H' pl} hn hp b hb => by
  have ok := I0.ok
  refine ⟨hn b hb, (ok.AJ b hb).1, ok.pV b hb, .inl hb, (ok.AJ b hb).2, fun p hq => ?_⟩
  have va : p ∈ pl := hq
  rw [hp p va]; exact Ne.symm (JV b hb)
 have loop : codeAny (model X.prog X.w) X.A (.compLoop (.ListComp elt [⟨tg, iter, ifs, 0⟩] scope pos) 0 (.ref it) (.ref D) (compEnvC scope cl C X.env)) (RR (.ref D) C) { s with heap := h₁, toks := s.toks + ([] : List (Str × Value)).length } := by
  refine sX (fun n s' => ∃ i acc H' aJ, Inv (fK X (T ++ M) scope cl C s H fp) [] (List.replicate T.length none ++ σ) H' s' /\ tn i s'.heap /\ (∀ b ∈ fp, H' b = none) /\ s'.heap.PlainList D aJ /\ H' D = none /\ Vals acc aJ.toList /\ acc.length <= sizeLine /\ W i n acc H') ?_ m0
   ⟨0, [], H, #[], I0, GO, fun b hb => (hf b hb).1, gy, I.aK.fresh (by rw [Ct]; exact Nat.le_refl _), .nil, Nat.zero_le _, w0⟩
  rintro n s3 ⟨i, acc, H3, aJ, I3, FN, FL, ⟨nn, ho⟩, Jq, hv, hlen, w3⟩
  have Je : ∀ {H'} {s'} {σ'} {o : Obj}, Inv (fK X (T ++ M) scope cl C s H fp) [] σ' H' s' -> s'.heap.get? D = some o -> (∀ v, o.data ≠ .cell v) -> H' D = none -> Inv (fK X (T ++ M) scope cl C s H fp) [(D, o)] σ' H' s' := fun {H' s' σ' o} I' e d hn => by
   refine I'.gK fun p hp => ?_
   have e' : p = (D, o) := by simpa using hp
   subst e'
   refine ⟨e, hn, GL, fun z => ?_, d⟩
   have z' : D ∈ mJ X.stack := z
   obtain ⟨_, o', yY, _⟩ := I.stack.mem z'
   exact absurd (Heap.lt_size yY) (by rw [Ct]; exact Nat.lt_irrefl _)
  have KI := Je I3 ho (fun v z => by cases z) Jq
  rcases turn i n acc H3 w3 with ⟨stop, fin⟩ | ⟨go, hl, step⟩
  . refine cg (Tn.done (fK X (T ++ M) scope cl C s H fp) rfl rfl rfl lg i _ s3 _ H3 _ KI (stat FL (by simp)) FN stop) fun r s4 ⟨hr, I4⟩ => ?_
    subst hr
    have e4 := (I4.pin (D, _) (List.mem_append_right _ List.mem_cons_self)).1
    have Ho : Inv (fK X (T ++ M) scope cl C s H fp) [] (List.replicate T.length none ++ σ) H3 s4 := I4.gK fun p hp => nomatch hp
    obtain ⟨m4, n4, _⟩ := Ho.loc
    exact hR D C s4 H3 acc m4 (Nat.le_refl _) CF (Ne.symm GL) n4 Ho.free Jq (zf I Ho hf (by rw [Ct]; exact Nat.le_refl _) Jq hlen hv (by simpa using e4)) fin
  . refine cg (Tn.item (fK X (T ++ M) scope cl C s H fp) rfl rfl rfl lg i _ s3 _ H3 _ KI (stat FL (by simp)) FN go) fun r s4 ⟨u, hr, h4⟩ => ?_
    subst hr
    refine cg h4 fun _ s5 ⟨x, H5, I5, r5, y5, DJ, HL⟩ => ?_
    have IZ := I5.pinned (stat HL (by simp)) (Tn.obj _ _ DJ)
    refine cg (hg _ _ _ _ _ _ s5 _ H5 x u _ IZ r5 (L6 _ _ _ (step x H5 y5))) fun _ s6 ⟨σ6, H6, I6, q6, Mz, MF⟩ => ?_
    refine cg (hc _ _ _ _ _ _ s6 σ6 H6 _ I6 q6) fun b s7 ⟨H7, I7, q7⟩ => ?_
    have rest : ∀ {s8 : Shared} {H8 : Hp}, Inv (fK X (T ++ M) scope cl C s H fp) ([(D, _)] ++ mR fp s5.heap) σ6 H8 s8 -> tn (i + 1) s8.heap /\ (∀ b ∈ fp, H8 b = none) /\ s8.heap.PlainList D aJ /\ H8 D = none /\ Inv (fK X (T ++ M) scope cl C s H fp) [] (List.replicate T.length none ++ σ) H8 s8 := fun {s8 H8} I8 => by
     refine ⟨Tn.keep _ _ _ DJ fun b hb o e => (I8.pin (b, o) (List.mem_append_right _ (List.mem_append_right _ (gL hb e)))).1, fun b hb => ?_, ⟨nn, (I8.pin (D, _) (List.mem_append_right _ (List.mem_append_left _ List.mem_cons_self))).1⟩, (I8.pin (D, _) (List.mem_append_right _ (List.mem_append_left _ List.mem_cons_self))).2.1, (I8.forget T.length Mz MF).gK fun p hp => nomatch hp⟩
     obtain ⟨o, e, d⟩ := Tn.obj _ _ DJ b hb
     exact (I8.pin (b, o) (List.mem_append_right _ (List.mem_append_right _ (gL hb e)))).2.1
    cases b with
    | false =>
      obtain ⟨m', hm, w7⟩ := q7
      obtain ⟨a1, a2, a3, a4, a5⟩ := rest I7
      exact ⟨m', hm, i + 1, acc, H7, aJ, a5, a1, a2, a3, a4, hv, hlen, w7⟩
    | true =>
      refine cg (he _ _ _ _ _ _ s7 σ6 H7 _ I7 q7) fun y s8 ⟨yv, H8, I8, r8, m', hm, w8⟩ => ?_
      obtain ⟨a1, a2, a3, a4, a5⟩ := rest I8
      have hsz : aJ.size <= sizeLine := by have := hv.length; simp at this; omega
      refine wpAny_list_append_plain (hsz := hsz) a3 fun h9 K5 JB => ?_
      refine ⟨m', hm, i + 1, acc ++ [yv], H8, aJ.push y, ?_, ?_, a2, K5, a4, ?_, by simp; omega, w8⟩
      . exact a5.turned (t' := s8.toks) (it := D) (fun b o hb e => (JB.2 b hb).trans e) a4 GL (.inr (by show s.heap.objs.size <= D; rw [Ct]; exact Nat.le_refl _)) (fun x c e z => by
         obtain ⟨v, o, ho, _⟩ := I.cell x c (h1 x c e)
         exact absurd (Heap.lt_size ho) (by rw [Ct, z]; exact Nat.lt_irrefl _)) (fun p hp => nomatch hp)
      . exact Tn.keep _ _ _ a1 fun b hb o e => (JB.2 b (JV b hb)).trans e
      . simpa using Vals.append hv (.cons r8 .nil)
 exact codeAny_compStart_list loop (Tn.self _ _ _ _ _ GO loop)
end
def Bj (k : Nat) (g : TG) : Prop := ∀ v (τ σ : St) H Q, τ.length = k -> g v (τ ++ σ) H Q -> g v (τ ++ σ) H fun σ2 H2 => Q σ2 H2 /\ ∃ τ', τ'.length = k /\ σ2 = τ' ++ σ
theorem iS {k i : Nat} (h : i < k) : Bj k (oK i) := fun v τ σ H Q hl q => by
 have e : (τ ++ σ).set i (some v) = τ.set i (some v) ++ σ := List.set_append_left _ _ (by omega)
 exact ⟨q, τ.set i (some v), by simp [hl], e⟩
def rl (Q : VK) (acc : List V) (H : Hp) : Prop := ∀ p, H p = none -> Q (.ref p) (upd H p (.lst acc))
def FW (k : Nat) (wi : TI) (g : TG) (tc : TT) (te : TE) : TE := fun σ H Q => wi σ H fun J H1 => Eh k g tc te (rl Q) σ J H1
section
variable {X : Cx} {T M : List Str} {scope : Scope} {g : TG} {tc : TT} {te : TE} {wi : TI} {tg elt iter : Expr} {ifs : List Expr} {pos : Pos}
theorem v7 (hN : iP X T M scope) (lg : X.calm = true) (hi : PI X tg iter wi) (hg : ∀ cl C s H fp, PG (fK X (T ++ M) scope cl C s H fp) tg g) (HC : Bj T.length g)
 (hc : ∀ cl C s H fp, F5 (fK X (T ++ M) scope cl C s H fp) ifs tc) (he : ∀ cl C s H fp, PE (fK X (T ++ M) scope cl C s H fp) elt te)
 (hs : ∀ x, foldedSetIterable iter X.env x = pure x := by intro _; rfl) : PE X (.ListComp elt [⟨tg, iter, ifs, 0⟩] scope pos) (FW T.length wi g tc te) := by
 intro pins s σ H Q I h
 obtain ⟨cl, gW, h1, h2⟩ := mF (scope := scope) (env := X.env) fun x hx hf => I.ok.has x.1 (hN.free x hx hf)
 rw [eval_ListComp]
 refine wpAny_comprehension_free (use := none) rfl hs gW hN.kind hN.names (cg (hi pins s σ H _ I h) fun xv s1 yc => cg yc fun GK s2 CU => ?_)
 obtain ⟨it, fp, tn, J, H2, e, I2, Tn, st, hf, hW⟩ := CU
 subst e
 refine wO (RR := fun acc C => compPost (model X.prog X.w) X.A X.xe none (EP X pins σ Q) acc C) hN lg h1 h2 hg (fun v H Q q => ?_) hc he I2 Tn st hf hW ?_
 . have := HC v (List.replicate T.length none) σ H Q (by simp) q
   refine (by
    have e : (fun (σ2 : St) (H2 : Hp) => Q σ2 H2 /\ T.length + σ.length = σ2.length /\ σ2.drop T.length = σ) = fun σ2 H2 => Q σ2 H2 /\ ∃ τ' : St, τ'.length = T.length /\ σ2 = τ' ++ σ := by
     funext σ2 H2
     refine propext ⟨fun ⟨a, b, c⟩ => ⟨a, σ2.take T.length, by rw [List.length_take]; omega, by rw [<- c, List.take_append_drop]⟩, fun ⟨a, τ', b, c⟩ => ⟨a, by rw [c, List.length_append, b], by rw [c, <- b, List.drop_left]⟩⟩
    rw [e]; exact this)
 . intro D C s' H' acc m hD hC p5 hn IT Ij Ib fin
   refine ⟨m, hn, fun h' rB => ⟨.ref D, _, ?_, rfl, fin D Ij⟩⟩
   exact Ib.turned (t' := s'.toks) (it := C) (fun b o hb e => (rB.2 b hb).trans e) (by rw [ak p5]; exact IT) (Nat.ne_of_gt (Nat.lt_of_lt_of_le I2.lt hC)) (.inr (Nat.le_trans I2.sz hC)) (fun x c e z => by
    obtain ⟨v, q⟩ := I2.cell x c e
    exact absurd (Nat.lt_of_lt_of_le q.lt (by rw [z]; exact hC)) (Nat.lt_irrefl _)) (fun p hp z => absurd (Nat.lt_of_lt_of_le (Heap.lt_size (I2.pin p hp).1) (by rw [z]; exact hC)) (Nat.lt_irrefl _))
theorem Fz {i : Nat} {y : Str} {py Ez : Pos} (GI : X.N.Nodup) (Bg : X.N[i]? = some y) (hy : Loc X.env.scope y) (hN : iP X T M scope) (lg : X.calm = true) (hi : PI X tg iter wi) (hg : ∀ cl C s H fp, PG (fK X (T ++ M) scope cl C s H fp) tg g) (HC : Bj T.length g)
 (hc : ∀ cl C s H fp, F5 (fK X (T ++ M) scope cl C s H fp) ifs tc) (he : ∀ cl C s H fp, PE (fK X (T ++ M) scope cl C s H fp) elt te)
 (MT : swapsWith (.ListComp elt [⟨tg, iter, ifs, 0⟩] scope pos) (some (.Name y py)) Ez.line X.env = pure true)
 (hs : ∀ x, foldedSetIterable iter X.env x = pure x := by intro _; rfl) (Ly : X.fn y = true \/ X.env.scope.names.lookup y = some .local := by first | exact .inl rfl | exact .inr rfl | assumption) :
 PS X (.Assign [.Name y py] (.ListComp elt [⟨tg, iter, ifs, 0⟩] scope pos) Ez) (Dz (FW T.length wi g tc te) (oK i)) := by
 intro pins s σ H D' I h
 have h : FW T.length wi g tc te σ H fun x H1 => D'.nx (σ.set i (some x)) H1 := h
 obtain ⟨cl, gW, h1, h2⟩ := mF (scope := scope) (env := X.env) fun x hx hf => I.ok.has x.1 (hN.free x hx hf)
 rw [exec_Assign_Name_used _ _ _ _ MT]
 refine wpAny_bind (wpAny_standAt (wpAny_bind ?_))
 show wpAny _ X.A (do let _ <- comprehension (.ListComp elt [⟨tg, iter, ifs, 0⟩] scope pos) scope X.env _ (newList []) false (eval iter X.env) (some (assign (.Name y py) X.env))) _ _ s
 refine wpAny_bind (wpAny_mono (wpAny_comprehension_free (use := some (assign (.Name y py) X.env)) (Q := fun _ s' => SP X pins D' .next s') rfl hs gW hN.kind hN.names
  (cg (hi pins s σ H _ I h) fun xv s1 yc => cg yc fun GK s2 CU => ?_)) (fun _ s' hq => wpAny_pure (wpAny_pure hq)) fun _ _ e => e)
 obtain ⟨it, fp, tn, J, H2, e, I2, Tn, st, hf, hW⟩ := CU
 subst e
 refine wO (RR := fun acc C => compPost (model X.prog X.w) X.A X.xe (some (assign (.Name y py) X.env)) (fun _ s' => SP X pins D' .next s') acc C) hN lg h1 h2 hg (fun v H Q q => ?_) hc he I2 Tn st hf hW ?_
 . have := HC v (List.replicate T.length none) σ H Q (by simp) q
   refine (by
    have e : (fun (σ2 : St) (H2 : Hp) => Q σ2 H2 /\ T.length + σ.length = σ2.length /\ σ2.drop T.length = σ) = fun σ2 H2 => Q σ2 H2 /\ ∃ τ' : St, τ'.length = T.length /\ σ2 = τ' ++ σ := by
     funext σ2 H2
     refine propext ⟨fun ⟨a, b, c⟩ => ⟨a, σ2.take T.length, by rw [List.length_take]; omega, by rw [<- c, List.take_append_drop]⟩, fun ⟨a, τ', b, c⟩ => ⟨a, by rw [c, List.length_append, b], by rw [c, <- b, List.drop_left]⟩⟩
    rw [e]; exact this)
 . intro D C s' H' acc m hD hC p5 hn IT Ij Ib fin
   show wpAny _ X.A (assign (.Name y py) X.env (.ref D)) _ _ _
   refine wpAny_assign_Name (oU Ib GI Bg hy (v := .ref D) rfl (fun s3 I3 ⟨a, sb, ha⟩ => ?_) Ly)
   have Kd : C ≠ X.env.locals := Nat.ne_of_gt (Nat.lt_of_lt_of_le I2.lt hC)
   have JE : ∀ x c, X.env.cells.lookup x = some c -> c ≠ C := fun x c e z => by
    obtain ⟨v, q⟩ := I2.cell x c e
    exact absurd (Nat.lt_of_lt_of_le q.lt (by rw [z]; exact hC)) (Nat.lt_irrefl _)
   have K7 : C ≠ a := by
    rcases ha with rfl | ha
    . exact Kd
    . exact Ne.symm (JE _ _ ha)
   refine ⟨m, hn.sameBut sb K7, fun h' rB => ⟨_, _, ?_, fin D Ij⟩⟩
   exact I3.turned (t' := s3.toks) (it := C) (fun b o hb e => (rB.2 b hb).trans e) (by rw [ak p5]; exact IT) Kd (.inr (Nat.le_trans I2.sz hC)) JE (fun p hp z => absurd (Nat.lt_of_lt_of_le (Heap.lt_size (I2.pin p hp).1) (by rw [z]; exact hC)) (Nat.lt_irrefl _))
end
end L2
namespace L2
open PySem PySem.Spec PyProof.Rows PySem.W
mutual
def nY : PyData -> Bool
 | .none => true
 | .bool _ => true
 | .int _ => true
 | .str _ => true
 | .tuple ds => aZ ds
 | .list _ => false
 | .dict _ => false
def aZ : List PyData -> Bool
 | [] => true
 | d :: ds => nY d && aZ ds
end
theorem gU : ∀ {ds : List PyData}, aZ ds = true ↔ ∀ d ∈ ds, nY d = true
 | [] => by simp [aZ]
 | d :: ds => by simp [aZ, gU (ds := ds)]
theorem gg {ds es : List PyData} (h1 : aZ ds = true) (h2 : aZ es = true) : aZ (ds ++ es) = true := by
 rw [gU] at *
 intro d hd
 rcases List.mem_append.mp hd with h | h
 . exact h1 d h
 . exact h2 d h
theorem jq {α : Type} {f : α -> PyData} (h : ∀ x, nY (f x) = true) (xs : List α) : aZ (xs.map f) = true := by
 rw [gU]
 intro d hd
 obtain ⟨x, _, rfl⟩ := List.mem_map.mp hd
 exact h x
structure Mv (S : List Addr) (H H' : Hp) : Prop where
 kp : ∀ a o, a ∉ S -> H a = some o -> H' a = some o
 tp : ∀ a xs, H a = some (.tup xs) -> H' a = some (.tup xs)
 dm : ∀ a, H' a = none -> H a = none
theorem Mv.refl {S : List Addr} {H : Hp} : Mv S H H := ⟨fun _ _ _ h => h, fun _ _ h => h, fun _ h => h⟩
theorem aB.mv {S : List Addr} {H H' : Hp} (s : aB H H') : Mv S H H' := ⟨fun a o _ h => s a o h, fun a xs h => s a _ h, fun a h => by
 cases e : H a with
 | none => rfl
 | some o => rw [s a o e] at h; cases h⟩
theorem Mv.trans {S : List Addr} {H H1 H2 : Hp} (m : Mv S H H1) (m2 : Mv S H1 H2) : Mv S H H2 := ⟨fun a o n h => m2.kp a o n (m.kp a o n h), fun a xs h => m2.tp a xs (m.tp a xs h), fun a h => m.dm a (m2.dm a h)⟩
theorem Mv.oH {S : List Addr} {H H1 H2 : Hp} (m : Mv S H H1) (s : aB H1 H2) : Mv S H H2 := m.trans s.mv
theorem Mv.at {S : List Addr} {H H' : Hp} {a : Addr} {o : HO} (m : Mv S H H') (n : a ∉ S) (h : H a = some o) : H' a = some o := m.kp a o n h
theorem Mv.none {S : List Addr} {H H' : Hp} {a : Addr} (m : Mv S H H') (h : H' a = none) : H a = none := m.dm a h
theorem aB.none {H H' : Hp} {a : Addr} (m : aB H H') (h : H' a = none) : H a = none := (m.mv (S := [])).dm a h
theorem Mv.pF {H : Hp} {p : Addr} {o u : HO} (h : H p = some u) (nt : ∀ xs, u ≠ .tup xs) : Mv [p] H (upd H p o) := ⟨fun a v n e => by
 rw [ak (fun z => n (by simp [z]))]; exact e, fun a xs e => by
 rw [ak (fun z => by subst z; rw [h] at e; exact nt xs (Option.some.inj e))]; exact e, fun a e => by
 by_cases z : a = p
 . subst z; rw [av] at e; cases e
 . rw [ak z] at e; exact e⟩
mutual
theorem Dv.rA {H H' : Hp} (t : ∀ a xs, H a = some (.tup xs) -> H' a = some (.tup xs)) : ∀ {v : V} {d : PyData}, Dv H v d -> nY d = true -> Dv H' v d
 | _, _, .aY, _ => .aY
 | _, _, .bl b, _ => .bl b
 | _, _, .int i, _ => .int i
 | _, _, .str x, _ => .str x
 | _, _, .tup h r, c => .tup (t _ _ h) (cP.rA t r (by simpa [nY] using c))
 | _, _, .lst h r, c => by simp [nY] at c
 | _, _, .dct h r, c => by simp [nY] at c
theorem cP.rA {H H' : Hp} (t : ∀ a xs, H a = some (.tup xs) -> H' a = some (.tup xs)) : ∀ {v : List V} {d : List PyData}, cP H v d -> aZ d = true -> cP H' v d
 | _, _, .nil, _ => .nil
 | _, _, .cons h r, c => by
   have c' := c
   simp only [aZ, Bool.and_eq_true] at c'
   exact .cons (Dv.rA t h c'.1) (cP.rA t r c'.2)
end
theorem Mv.dat {S : List Addr} {H H' : Hp} {v : V} {d : PyData} (m : Mv S H H') (i : nY d = true) (h : Dv H v d) : Dv H' v d := h.rA m.tp i
theorem Mv.Bp {S : List Addr} {H H' : Hp} {v : List V} {d : List PyData} (m : Mv S H H') (i : aZ d = true) (h : cP H v d) : cP H' v d := h.rA m.tp i
def eI (H : Hp) (p : Addr) (ds : List PyData) : Prop := ∃ xs, H p = some (.lst xs) /\ cP H xs ds /\ aZ ds = true
theorem eI.dv {H : Hp} {p : Addr} {ds : List PyData} (h : eI H p ds) : Dv H (.ref p) (.list ds) := let ⟨_, e, d, _⟩ := h; .lst (.of e) d
theorem eI.keeps {H H' : Hp} {p : Addr} {ds : List PyData} (s : aB H H') (h : eI H p ds) : eI H' p ds := let ⟨xs, e, d, i⟩ := h; ⟨xs, s _ _ e, d.keeps s, i⟩
theorem eI.mv {S : List Addr} {H H' : Hp} {p : Addr} {ds : List PyData} (m : Mv S H H') (n : p ∉ S) (h : eI H p ds) : eI H' p ds := let ⟨xs, e, d, i⟩ := h; ⟨xs, m.at n e, m.Bp i d, i⟩
theorem eI.ne {H : Hp} {p q : Addr} {ds : List PyData} (h : eI H p ds) (hn : H q = none) : p ≠ q := let ⟨_, e, _, _⟩ := h; aE e hn
theorem eI.rA {H : Hp} {p : Addr} {ds : List PyData} (h : eI H p ds) : aZ ds = true := let ⟨_, _, _, i⟩ := h; i
theorem tG {H : Hp} {p : Addr} {xs : List V} {ds : List PyData} (hn : H p = none) (d : cP H xs ds) (i : aZ ds = true) : eI (upd H p (.lst xs)) p ds := ⟨xs, av, d.keeps (dX hn), i⟩
theorem wj {p q : Addr} (h : p ≠ q) : p ∉ [q] := by simpa using h
theorem small {n m : Nat} (h : n <= m) (hm : m <= 4000 := by decide) : n <= sizeLine := Nat.le_trans h (Nat.le_trans hm (by decide))
theorem gS {n : Nat} (h : n <= 4000) : n < sizeLine := Nat.lt_of_le_of_lt h (by decide)
section
variable {σ : St} {H : Hp} {Q : VK} {D : Ends} {K : PySem.W.Frag} {p : Addr} {ds : List PyData}
theorem Iq {T : String} {r : V -> List V -> Hp -> VK -> Prop} {to : TE} {t : TA} (h : to σ H fun x H1 => Hf K T x H1 /\ t σ H1 fun xs H2 => r x xs H2 Q) : JA K T r to t σ H Q := h
theorem FH {R : Prop} (hp : eI H p ds) (h : R) : Hf K "list" (.ref p) H /\ R := let ⟨xs, e, _, _⟩ := hp; ⟨.inl ⟨rfl, xs, fL.of e⟩, h⟩
theorem Fb {y : V} {d : PyData} (hp : eI H p ds) (hl : ds.length <= 4000) (hy : Dv H y d) (hi : nY d = true) (h : ∀ H2, Mv [p] H H2 -> eI H2 p (ds ++ [d]) -> Q .aY H2) : tD (.ref p) [y] H Q := by
 obtain ⟨xs, e, dv, i⟩ := hp
 have m : Mv [p] H (upd H p (.lst (xs ++ [y]))) := .pF e (by intro _ z; cases z)
 refine ⟨p, xs, y, rfl, rfl, e, by rw [dv.length]; exact gS hl, h _ m ⟨_, av, m.Bp (gg i (by simp [aZ, hi])) (dv.append (.cons hy .nil)), gg i (by simp [aZ, hi])⟩⟩
theorem BR {xs : List V} (hl : xs.length <= sizeLine) (hd : cP H xs ds) (hi : aZ ds = true) (k : ∀ p H2, aB H H2 -> H p = none -> eI H2 p ds -> Q (.ref p) H2) : DA xs H Q :=
 ⟨hl, ds, hd, fun p H2 s n e d _ => k p H2 s n ⟨xs, e, d, hi⟩⟩
end
mutual
theorem Dv.fn {H : Hp} : ∀ {v : V} {d e : PyData}, Dv H v d -> Dv H v e -> nY d = true -> d = e
 | _, _, _, .aY, h, _ => by cases h; rfl
 | _, _, _, .bl b, h, _ => by cases h; rfl
 | _, _, _, .int i, h, _ => by cases h; rfl
 | _, _, _, .str x, h, _ => by cases h; rfl
 | _, _, _, .tup h r, h2, c => by
   cases h2 with
   | tup h' r' =>
     have c' := (by simpa [nY] using c : aZ _ = true)
     rw [h] at h'
     cases h'
     rw [cP.fn r r' c']
   | lst h' r' =>
     rcases h' with h' | ⟨o, h'⟩ <;> rw [h] at h' <;> cases h'
   | dct h' r' => rw [h] at h'; cases h'
 | _, _, _, .lst h r, _, c => by simp [nY] at c
 | _, _, _, .dct h r, _, c => by simp [nY] at c
theorem cP.fn {H : Hp} : ∀ {v : List V} {d e : List PyData}, cP H v d -> cP H v e -> aZ d = true -> d = e
 | _, _, _, .nil, h, _ => by cases h; rfl
 | _, _, _, .cons h r, h2, c => by
   have c' := c
   simp only [aZ, Bool.and_eq_true] at c'
   cases h2 with
   | cons h' r' => rw [Dv.fn h h' c'.1, cP.fn r r' c'.2]
end
theorem Dv.lst_inv {H : Hp} {v : V} {ds : List PyData} (h : Dv H v (.list ds)) : ∃ a xs, v = .ref a /\ (∀ K : PySem.W.Frag, fL K H a xs) /\ cP H xs ds := by
 cases h with
 | lst h r => exact ⟨_, _, rfl, fun _ => .inl h, r⟩
section
variable {σ : St} {H : Hp} {Q : VK} {D : Ends} {K : PySem.W.Frag} {p : Addr} {v : V} {ds : List PyData}
def Gv (te : TE) (N : Option V -> Hp -> Prop) (σ2 : St) (b : Bool) (H3 : Hp) : Prop := if b = true then te σ2 H3 (fun y H4 => N (some y) H4) else N none H3
theorem Gu {k : Nat} {tl : TE} {g : TG} {tc : TT} {te : TE} (h : tl σ H fun x H1 => ∃ a, x = .ref a /\ (∃ xs, fL K H1 a xs) /\ Eh k g tc te (rl Q) σ (ya K a) H1) : FW k (xH K tl) g tc te σ H Q := h
theorem z8 {k : Nat} {g : TG} {tc : TT} {te : TE} {α : Type} {cs : List α} {gd : α -> PyData} (pf : α -> Bool) (fd : α -> PyData) (hl : Dv H v (.list (cs.map gd))) (hlen : cs.length <= 4000) (hi : ∀ c, nY (fd c) = true)
 (turn : ∀ x c H' (N : Option V -> Hp -> Prop), c ∈ cs -> aB H H' -> Dv H' x (gd c) -> (pf c = true -> ∀ y H4, aB H' H4 -> Dv H4 y (fd c) -> N (some y) H4) -> (pf c = false -> ∀ H3, aB H' H3 -> N none H3) ->
  g x (List.replicate k none ++ σ) H' fun σ2 H2 => tc σ2 H2 fun b H3 => Gv te N σ2 b H3)
 (kk : ∀ q H', aB H H' -> H q = none -> eI H' q ((cs.filter pf).map fd) -> Q (.ref q) H') : ∃ a, v = .ref a /\ (∃ xs, fL K H a xs) /\ Eh k g tc te (rl Q) σ (ya K a) H := by
 obtain ⟨p, xs, rfl, e, dv⟩ := hl.lst_inv
 have G8 : fL K H p xs := e K
 have Kz : xs.length = cs.length := by rw [dv.length, List.length_map]
 refine ⟨p, rfl, ⟨xs, G8⟩, fun i m acc H' => i <= cs.length /\ m = cs.length - i /\ aB H H' /\ cP H' acc (((cs.take i).filter pf).map fd), ⟨cs.length, Nat.zero_le _, rfl, aB.refl _, by simpa using cP.nil⟩, ?_⟩
 rintro i m acc H' ⟨KY, hm, sm, gy⟩
 have F7 : fL K H' p xs := aB.seq sm G8
 have JR : acc.length <= cs.length := by
  rw [gy.length, List.length_map]
  exact Nat.le_trans (List.length_filter_le _ _) (by rw [List.length_take]; omega)
 by_cases hc : i = cs.length
 . left
   refine ⟨⟨xs, F7, by omega⟩, fun q hq => ?_⟩
   rw [hc, List.take_length] at gy
   have lP : aB H (upd H' q (.lst acc)) := sm.trans (dX hq)
   exact kk q _ lP (sm.none hq) ⟨acc, av, gy.keeps (dX hq), jq hi _⟩
 . right
   have n6 : i < cs.length := by omega
   have Mb : i < xs.length := by omega
   refine ⟨⟨xs, xs[i], F7, List.getElem?_eq_getElem Mb⟩, gS (by omega), fun x H2 hy => ?_⟩
   obtain ⟨rfl, hy⟩ := hy
   have hx := hy xs F7
   have J9 : cs[i]? = some cs[i] := List.getElem?_eq_getElem n6
   obtain ⟨x', pW, hd⟩ := dv.get (i := i) (d := gd cs[i]) (by rw [List.getElem?_map, J9]; rfl)
   rw [hx] at pW
   cases pW
   have Hk : cs.take (i + 1) = cs.take i ++ [cs[i]] := by rw [List.take_add_one, J9]; rfl
   exact turn x cs[i] H2 (fun o H4 => match o with | some y => ∃ m', m' < m /\ i + 1 <= cs.length /\ m' = cs.length - (i + 1) /\ aB H H4 /\ cP H4 (acc ++ [y]) (((cs.take (i + 1)).filter pf).map fd) | none => ∃ m', m' < m /\ i + 1 <= cs.length /\ m' = cs.length - (i + 1) /\ aB H H4 /\ cP H4 acc (((cs.take (i + 1)).filter pf).map fd))
    (List.getElem_mem n6) sm (hd.keeps sm)
    (fun hp y H4 s4 d4 => ⟨cs.length - (i + 1), by omega, n6, rfl, sm.trans s4, by
     rw [Hk, List.filter_append, List.map_append]
     simp only [List.filter_cons, hp, if_true, List.filter_nil, List.map_cons, List.map_nil]
     exact cP.append (gy.keeps s4) (.cons d4 .nil)⟩)
    (fun hp H3 s3 => ⟨cs.length - (i + 1), by omega, n6, rfl, sm.trans s3, by
     rw [Hk, List.filter_append, List.map_append]
     simp only [List.filter_cons, hp, Bool.false_eq_true, if_false, List.filter_nil, List.map_nil, List.append_nil]
     exact gy.keeps s3⟩)
end
def tm (scope sc : Scope) (N M : List Str) : Bool :=
 (scope.kind == .function) && scope.names.all (fun y => y.2 != .cell) && scope.names.all (fun y => y.2 != .local || scope.names.lookup y.1 == some .local) &&
  scope.names.all (fun y => y.2 != .free || (sc.names.lookup y.1 == some .cell || sc.names.lookup y.1 == some .free)) && (M.length == N.length) &&
  (M.zip N).all fun p => (p.1 == p.2 && scope.names.lookup p.1 == some .free) || scope.names.lookup p.1 == none
theorem GR {X : Cx} {T M : List Str} {scope : Scope} (sc : Scope) (N : List Str) (hs : X.env.scope = sc) (hN : X.N = N) (h : tm scope sc N M = true) : iP X T M scope := by
 unfold tm at h
 simp only [Bool.and_eq_true, List.all_eq_true, Bool.or_eq_true, bne_iff_ne, beq_iff_eq, ne_eq] at h
 obtain ⟨⟨⟨⟨⟨h1, h2⟩, h3⟩, h4⟩, h5⟩, h6⟩ := h
 refine ⟨h1, h2, fun y hy e => ?_, fun y hy e => ?_, by rw [hN]; exact h5, fun i x hx => ?_⟩
 . rcases h3 y hy with z | z
   . exact absurd e z
   . exact z
 . rw [hs]
   rcases h4 y hy with z | z
   . exact absurd e z
   . exact z
 . have hi : i < M.length := (List.getElem?_eq_some_iff.mp hx).1
   have KL : i < N.length := by omega
   have hz : (M.zip N)[i]? = some (x, N[i]) := by
    rw [List.getElem?_zip_eq_some]
    exact ⟨hx, List.getElem?_eq_getElem KL⟩
   rcases h6 _ (List.mem_of_getElem? hz) with ⟨a, b⟩ | a
   . left
     refine ⟨?_, b⟩
     rw [hN, List.getElem?_eq_getElem KL]
     have a' : x = N[i] := a
     rw [a']
   . exact .inr a
section
variable {σ : St} {H : Hp} {Q : VK} {D : Ends} {K : PySem.W.Frag} {p : Addr} {v : V} {ds : List PyData}
theorem BF {z : Str} {i : Int} {c : Nat} (hl : z.length <= sizeLine) (hi : pE z.cps.toList i = some c) (h : Q (.str ⟨#[c]⟩) H) : qh K (.str z) (.int i) H Q := .inl (.inr ⟨z, i, c, rfl, rfl, hl, hi, h⟩)
def wz : R2 := fun x y H Q => ∃ i j, x = .str i /\ y = .str j /\ i.length + j.length <= sizeLine /\ Q (.str (i ++ j)) H
theorem lU {X : Cx} : ki X (binaryOp .Add) wz := rZ
theorem wa {i j : Str} (hl : i.length + j.length <= 4000) (h : Q (.str (i ++ j)) H) : wz (.str i) (.str j) H Q := ⟨i, j, rfl, rfl, small hl, h⟩
theorem qz {H : Hp} {x : Str} : ∀ {xs : List V} {ss : List Str}, cP H xs (ss.map PyData.str) -> xs.all jj = true /\ GA (.str x) xs = ss.contains x
 | _, [], .nil => ⟨rfl, rfl⟩
 | _, s :: ss, .cons h r => by
   cases h
   obtain ⟨a, b⟩ := qz (x := x) r
   refine ⟨by simpa [jj] using a, ?_⟩
   show (yp (.str s) (.str x) || GA (.str x) _) = _
   rw [b]
   show ((s == x) || ss.contains x) = _
   rw [List.contains_cons, show (s == x) = (x == s) from by rw [Bool.eq_iff_iff, beq_iff_eq, beq_iff_eq]; exact eq_comm]
theorem Gp {ss : List Str} {x : Str} (hp : Dv H v (.list (ss.map PyData.str))) (h : Q (.bl (ss.contains x)) H) : J5 K false (.str x) v H Q := by
 obtain ⟨p, xs, rfl, e, dv⟩ := hp.lst_inv
 obtain ⟨a, b⟩ := qz (x := x) dv
 refine ⟨p, xs, rfl, .inl (e K), rfl, a, ?_⟩
 rw [b]; exact h
end
end L2
namespace L2
end L2
namespace L2
open PySem
theorem Bt {α : Type} {g : α -> PyData} {xs : List α} {K : PySem.W.Frag} {H : Hp} {Q : VK} {v : V} (hs : Dv H v (.list (xs.map g))) (h : Q (.int (xs.length : Nat)) H) : uk K [v] H Q := wk (.inr hs) (by rw [List.length_map]; exact h)
theorem zl {i : Nat} {v : V} {σ : St} {H : Hp} {R : St -> Hp -> Prop} (h : R (σ.set i (some v)) H) : oK i v σ H R := h
theorem Mv.F9 {p : Addr} {H H1 H2 : Hp} (s : aB H H1) (m : Mv [p] H1 H2) (n : H p = Option.none) : aB H H2 := fun a o e => m.kp a o (wj (aE e n)) (s a o e)
theorem Mv.sq {K : PySem.W.Frag} {S : List Addr} {H H' : Hp} {a : Addr} {xs : List V} (m : Mv S H H') (n : a ∉ S) (h : fL K H a xs) : fL K H' a xs := by
 rcases h with (h | ⟨o, h⟩) | h
 . exact .inl (.inl (m.at n h))
 . exact .inl (.inr ⟨o, m.at n h⟩)
 . exact .inr h
theorem qS {te : TE} {N : Option V -> Hp -> Prop} {σ2 : St} {b : Bool} {H3 : Hp} (h1 : b = true -> te σ2 H3 (fun y H4 => N (some y) H4)) (h2 : b = false -> N none H3) : Gv te N σ2 b H3 := by
 unfold Gv
 cases b with
 | true => rw [if_pos rfl]; exact h1 rfl
 | false => rw [if_neg (by simp)]; exact h2 rfl
end L2
namespace L2
open PySem PySem.Spec PyProof.Rows
section
variable {X : Cx} {K : PySem.W.Frag} {a b e : Expr} {es : List Expr} {ta : TE} {pos : Pos}
theorem p7 (h : X.K = K) : vy X (qh K) := by rw [<- h]; exact gv
theorem Dy (h : X.K = K) (hu : X.A.units + 8 < cLine) : ki X (compareOp .Eq) (vj K id) := by rw [<- h]; exact dc hu
theorem iR (h : X.K = K) (ha : PE X a ta) (he : ∀ whole, isTrue a X.env whole = (do let v <- whole; standAt a.pos; holding [v] (truthy v))) : PT X a (fun σ H Q => ta σ H fun x H' => ∃ k, yG K x H' k /\ Q k H') := by rw [<- h]; exact xu ha he
end
end L2
namespace L2
open PySem PySem.Spec PyProof.Rows PySem.W
inductive jo (H : Hp) : List (Key × V) -> List (Str × PyData) -> Prop where
 | nil : jo H [] []
 | cons {k : Str} {v : V} {d : PyData} {kvs : List (Key × V)} {m : List (Str × PyData)} (h : Dv H v d) (i : nY d = true) (r : jo H kvs m) : jo H ((.inr k, v) :: kvs) ((k, d) :: m)
theorem jo.rA {H H' : Hp} (t : ∀ a xs, H a = some (.tup xs) -> H' a = some (.tup xs)) : ∀ {kvs : List (Key × V)} {m : List (Str × PyData)}, jo H kvs m -> jo H' kvs m
 | _, _, .nil => .nil
 | _, _, .cons h i r => .cons (h.rA t i) i (jo.rA t r)
theorem jo.length {H : Hp} : ∀ {kvs : List (Key × V)} {m : List (Str × PyData)}, jo H kvs m -> kvs.length = m.length
 | _, _, .nil => rfl
 | _, _, .cons _ _ r => by simp [jo.length r]
def dq (m : List (Str × PyData)) (k : Str) : Option PyData := (m.find? fun kv => decide (kv.1 = k)).map (·.2)
def putD (m : List (Str × PyData)) (k : Str) (d : PyData) : List (Str × PyData) := if (m.any fun kv => decide (kv.1 = k)) = true then m.map (fun kv => if kv.1 = k then (kv.1, d) else kv) else m ++ [(k, d)]
theorem zE {a b : Str} : ((Sum.inr a : Key) = Sum.inr b) = (a = b) := propext ⟨fun h => Sum.inr.inj h, fun h => by rw [h]⟩
theorem jo.val {H : Hp} {k : Str} : ∀ {kvs : List (Key × V)} {m : List (Str × PyData)}, jo H kvs m -> (∀ d, dq m k = some d -> ∃ v, km kvs (.inr k) = some v /\ Dv H v d) /\ (dq m k = none -> km kvs (.inr k) = none)
 | _, _, .nil => ⟨fun d h => by simp [dq] at h, fun _ => rfl⟩
 | _, _, .cons (k := j) h i r => by
   obtain ⟨h1, h2⟩ := jo.val (k := k) r
   by_cases e : j = k
   . subst e
     refine ⟨fun d hd => ⟨_, jZ rfl, ?_⟩, fun hd => by simp [dq] at hd⟩
     simp [dq] at hd
     subst hd; exact h
   . have e' : (Sum.inr j : Key) ≠ .inr k := fun z => e (Sum.inr.inj z)
     have el : ∀ (d : PyData) (m : List (Str × PyData)), dq ((j, d) :: m) k = dq m k := fun d m => by simp [dq, List.find?_cons, e]
     refine ⟨fun d hd => ?_, fun hd => ?_⟩
     . rw [el] at hd
       obtain ⟨v, hv, jt⟩ := h1 d hd
       exact ⟨v, by rw [iD e']; exact hv, jt⟩
     . rw [el] at hd
       rw [iD e']; exact h2 hd
theorem jo.any {H : Hp} {k : Str} : ∀ {kvs : List (Key × V)} {m : List (Str × PyData)}, jo H kvs m -> (kvs.any fun kv => decide (kv.1 = .inr k)) = m.any fun kv => decide (kv.1 = k)
 | _, _, .nil => rfl
 | _, _, .cons h i r => by
   simp only [List.any_cons, jo.any r, zE]
theorem jo.append {H : Hp} : ∀ {kvs Ff : List (Key × V)} {m m' : List (Str × PyData)}, jo H kvs m -> jo H Ff m' -> jo H (kvs ++ Ff) (m ++ m')
 | _, _, _, _, .nil, s => s
 | _, _, _, _, .cons h i r, s => .cons h i (jo.append r s)
theorem jo.repl {H : Hp} {k : Str} {v : V} {d : PyData} (hv : Dv H v d) (hi : nY d = true) : ∀ {kvs : List (Key × V)} {m : List (Str × PyData)}, jo H kvs m -> jo H (kvs.map fun kv => if kv.1 = .inr k then (kv.1, v) else kv) (m.map fun kv => if kv.1 = k then (kv.1, d) else kv)
 | _, _, .nil => .nil
 | _, _, .cons (k := j) h i r => by
   rw [List.map_cons, List.map_cons]
   by_cases e : j = k
   . subst e
     rw [if_pos rfl, if_pos rfl]
     exact .cons hv hi (jo.repl hv hi r)
   . rw [if_neg (fun z => e (Sum.inr.inj z)), if_neg e]
     exact .cons h i (jo.repl hv hi r)
theorem jo.put {H : Hp} {k : Str} {v : V} {d : PyData} {kvs : List (Key × V)} {m : List (Str × PyData)} (r : jo H kvs m) (hv : Dv H v d) (hi : nY d = true) : jo H (putK kvs (.inr k) v) (putD m k d) := by
 unfold putK putD
 rw [r.any]
 by_cases h : (m.any fun kv => decide (kv.1 = k)) = true
 . rw [if_pos h, if_pos h]; exact r.repl hv hi
 . rw [if_neg h, if_neg h]; exact r.append (.cons hv hi .nil)
def ku (H : Hp) (p : Addr) (m : List (Str × PyData)) : Prop := ∃ kvs, H p = some (.dK kvs) /\ jo H kvs m
theorem ku.keeps {H H' : Hp} {p : Addr} {m : List (Str × PyData)} (s : aB H H') (h : ku H p m) : ku H' p m := let ⟨kvs, e, d⟩ := h; ⟨kvs, s _ _ e, d.rA fun a xs e => s _ _ e⟩
theorem ku.mv {S : List Addr} {H H' : Hp} {p : Addr} {m : List (Str × PyData)} (v : Mv S H H') (n : p ∉ S) (h : ku H p m) : ku H' p m := let ⟨kvs, e, d⟩ := h; ⟨kvs, v.at n e, d.rA v.tp⟩
theorem ku.ne {H : Hp} {p q : Addr} {m : List (Str × PyData)} (h : ku H p m) (hn : H q = none) : p ≠ q := let ⟨_, e, _⟩ := h; aE e hn
section
variable {σ : St} {H : Hp} {Q : VK} {D : Ends} {K : PySem.W.Frag} {p : Addr} {m : List (Str × PyData)} {k : Str}
theorem Dj (h : ∀ p H2, aB H H2 -> H p = none -> ku H2 p [] -> Q (.ref p) H2) : wB σ H Q := fun p hp => h p _ (dX hp) hp ⟨[], av, .nil⟩
theorem zP {td ty tv : TE} (h : tv σ H fun v H1 => td σ H1 fun x H2 => ty σ H2 fun y H3 => ∃ a H4, x = .ref a /\ sJ H3 a y v H4 /\ D.nx σ H4) : AF td ty tv D σ H := h
theorem B2 {v : V} {d : PyData} {R : Hp -> Prop} (hp : ku H p m) (hl : m.length <= 4000) (hv : Dv H v d) (hi : nY d = true) (h : ∀ H2, Mv [p] H H2 -> ku H2 p (putD m k d) -> R H2) : ∃ a H4, V.ref p = .ref a /\ sJ H a (.str k) v H4 /\ R H4 := by
 obtain ⟨kvs, e, dk⟩ := hp
 have mv : Mv [p] H (upd H p (.dK (putK kvs (.inr k) v))) := .pF e (by intro _ z; cases z)
 exact ⟨p, _, rfl, sJ.k (k := .inr k) e (by rw [dk.length]; exact gS hl), h _ mv ⟨_, av, (dk.put hv hi).rA mv.tp⟩⟩
theorem yQ {td ty : TE} (h : td σ H fun x H1 => ty σ H1 fun y H2 => ∃ a v, x = .ref a /\ lC H2 a y (some v) /\ Q v H2) : Az td ty σ H Q := h
theorem BL {td ty : TE} (h : ty σ H fun y H1 => td σ H1 fun x H2 => ∃ a o, x = .ref a /\ lC H2 a y o /\ Q (.bl o.isSome) H2) : E4 ty td σ H Q := h
theorem yu {td ty : TE} (h : ty σ H fun y H1 => td σ H1 fun x H2 => ∃ a o, x = .ref a /\ lC H2 a y o /\ Q (.bl (!o.isSome)) H2) : t6 ty td σ H Q := h
end
end L2
namespace L2
theorem Jr {t : TE} {σ : St} {H : Hp} {Q : Bool -> Hp -> Prop} (h : t σ H fun x H' => ∃ k, x = .bl k /\ Q k H') : tB t σ H Q := h
end L2
namespace L2
open PySem
theorem Gi {Hb : Hp} {σ : St} {H : Hp} {D : Ends} {K : PySem.W.Frag} {v : V} {α : Type} {cs : List α} {gd : α -> PyData} {g : TG} {tb : TS} (hl : Dv Hb v (.list (cs.map gd))) (Pv : Nat -> St -> Hp -> Prop) (h0 : Pv 0 σ H) (hk : ∀ i σ H', i <= cs.length -> Pv i σ H' -> ∀ a xs, v = .ref a -> fL K Hb a xs -> fL K H' a xs)
 (hs : ∀ i c x σ H', cs[i]? = some c -> Pv i σ H' -> (nY (gd c) = true -> (∀ a xs, Hb a = some (.tup xs) -> H' a = some (.tup xs)) -> Dv H' x (gd c)) -> (aB Hb H' -> Dv H' x (gd c)) -> g x σ H' fun σ2 H2 => tb { D with nx := Pv (i + 1), ct := Pv (i + 1), bk := D.nx } σ2 H2) (hd : ∀ σ H', Pv cs.length σ H' -> D.nx σ H') : B7 K v g tb D σ H := by
 obtain ⟨p, xs, rfl, e, dv⟩ := hl.lst_inv
 have Kz : xs.length = cs.length := by rw [dv.length, List.length_map]
 refine forL (hk 0 σ H (Nat.zero_le _) h0 p xs rfl (e K)) Pv h0 (fun i σ H' hi hp => hk i σ H' (by omega) hp p xs rfl (e K)) (fun i x σ H' hx hp => ?_) (fun σ H' hp => hd σ H' (by rw [<- Kz]; exact hp))
 have hi : i < cs.length := by have := (List.getElem?_eq_some_iff.mp hx).1; omega
 obtain ⟨x', pW, jt⟩ := dv.get (i := i) (d := gd cs[i]) (by rw [List.getElem?_map, List.getElem?_eq_getElem hi]; rfl)
 rw [hx] at pW
 cases pW
 exact hs i cs[i] x σ H' (List.getElem?_eq_getElem hi) hp (fun im t => jt.rA t im) (fun s => jt.keeps s)
end L2
namespace L2
open PySem PySem.Spec PyProof.Rows PySem.W
section
variable {X : Cx} {tg : Expr}
def F0 : List V -> Hp -> VK -> Prop := fun xs H Q => ∃ (v : V) (bs : List Bool), xs = [v] /\ Dv H v (.list (bs.map PyData.bool)) /\ Q (.bl (bs.any id)) H
theorem qT {H : Hp} : ∀ {xs : List V} {bs : List Bool} {us : List Value}, cP H xs (bs.map PyData.bool) -> Vals xs us -> us = bs.map Value.bool
 | _, [], _, .nil, .nil => rfl
 | _, b :: bs, _, .cons h r, .cons q t => by
   cases h
   cases q
   rw [qT r t]; rfl
theorem rS {H : Hp} {pins : List (Addr × Obj)} {σ : St} {s : Shared} {v : V} {u : Value} {bs : List Bool} {A : Around} {E : Value -> Shared -> Prop} {Q : (Nat -> Bool) -> Shared -> Prop} (hA : A.handled = none) (I : Inv X pins σ H s) (rv : RelV v u) (hd : Dv H v (.list (bs.map PyData.bool)))
 (fin : ∀ h' tk, Inv X pins σ H { s with heap := h', toks := tk } -> Q (fun i => bs.getD i false) { s with heap := h', toks := tk }) :
 wpAny (model X.prog X.w) A (pyIter u) (fun it s2 => ∃ J fp wr n P St tr, it = .ref J /\ Walks X.prog X.w A J fp wr n P St /\ St 0 s2.heap /\ TruthOf X.prog X.w A P tr /\ n = bs.length /\ (tr = fun i => bs.getD i false) /\
  ∀ h' tk, (∀ b o, b ∉ wr -> s2.heap.get? b = some o -> h'.get? b = some o) -> Q tr { s2 with heap := h', toks := tk }) E s := by
 obtain ⟨p, xs, rfl, e, dv⟩ := hd.lst_inv
 obtain ⟨aJ, Hr, pl, _⟩ := I.list (e X.K)
 have hits := qT dv Hr
 have hu : u = .ref p := rv
 subst hu
 refine wpAny_pyIter_list pl.isList ?_
 have n6 : p < s.heap.objs.size := by obtain ⟨o, n, e1, _⟩ := pl; exact Heap.lt_size e1
 refine ⟨s.heap.objs.size, _, _, _, _, _, fun i => bs.getD i false, rfl, Walks.list hA _ p (Nat.ne_of_lt n6) aJ.toArray, ⟨⟨_, Heap.get?_push_size _ rfl, rfl, rfl⟩, pl.isList.at fun o e => Heap.get?_push_of_some _ e⟩, ?_, ?_, rfl, fun h' tk kk => ?_⟩
 . intro i w' s3 Q3 E3 hP q
   subst hits
   have hi : (bs.map Value.bool)[i]? = some w' := by simpa using hP
   rw [List.getElem?_map] at hi
   cases hb : bs[i]? with
   | none => rw [hb] at hi; cases hi
   | some b =>
     rw [hb] at hi
     have : w' = .bool b := (Option.some.inj hi).symm
     subst this
     refine wpAny_truthy_bool ?_
     have : bs.getD i false = b := by simp [hb]
     have q' : Q3 (bs.getD i false) s3 := q
     rw [this] at q'
     exact q'
 . subst hits; simp
 . have I1 := I.kept (t' := s.toks) (h' := s.heap.push { cls := Value.type "list_iterator", data := Data.fields #[Value.ref p, Value.int 0 0] }) fun b o e => Heap.get?_push_of_some _ e
   have fp := I.u6 (H' := H) (Nat.le_refl _) (I.aK.fresh (Nat.le_refl _))
   have I2 := I1.turned (t' := tk) (h' := h') (it := s.heap.objs.size) (fun b o hb e => kk b o (by simpa using hb) e) fp.1 fp.2.1 fp.2.2.2.1 fp.2.2.2.2.1 fp.2.2.2.2.2
   exact fin h' tk I2
theorem range_any (bs : List Bool) : (List.range bs.length).any (fun i => bs.getD i false) = bs.any id := by
 rw [Bool.eq_iff_iff]
 simp only [List.any_eq_true, List.mem_range, id]
 constructor
 . rintro ⟨i, hi, e⟩
   simp [hi] at e
   exact ⟨_, List.getElem_mem hi, e⟩
 . rintro ⟨b, hb, e⟩
   obtain ⟨i, hi, e2⟩ := List.getElem_of_mem hb
   exact ⟨i, hi, by simp [hi, e2, e]⟩
theorem uT (hc : X.calm = true) : iG X (.builtin "any") F0 := by
 intro pins s σ H xs us Q I r h
 obtain ⟨v, bs, rfl, hd, q⟩ := h
 obtain ⟨u, rfl, ru⟩ := vals1 r
 refine call_any_walk (cg (rS (Q := fun g s' => EP X pins σ Q (.bool ((List.range bs.length).any g)) s') (show X.A.in1.handled = none from I.ok.hd hc) I ru hd (fun h' tk I' => ⟨.bl _, H, I', rfl, ?_⟩)) fun it s2 hq => ?_)
 . rw [range_any]; exact q
 . obtain ⟨J, fp, wr, n, P, St, tr, e1, W, st, tt, hn, NX, k⟩ := hq
   subst hn
   exact ⟨J, fp, wr, _, P, St, tr, e1, W, st, tt, k⟩
section
variable {σ : St} {H : Hp} {Q : VK} {D : Ends} {K : PySem.W.Frag}
theorem EJ {v : V} {bs : List Bool} (hd : Dv H v (.list (bs.map PyData.bool))) (h : Q (.bl (bs.any id)) H) : F0 [v] H Q := ⟨v, bs, rfl, hd, h⟩
end
end
end L2
namespace L2
open PySem
section
variable {H : Hp} {Q : VK} {K : PySem.W.Frag}
end
end L2
namespace L2
open PySem PySem.Spec PyProof.Rows PySem.W
section
variable {X : Cx}
end
section
variable {σ : St} {H : Hp} {Q : VK} {D : Ends} {K : PySem.W.Frag} {p : Addr} {ds : List PyData}
theorem cP.rev {H : Hp} {xs : List V} {ds : List PyData} (h : cP H xs ds) : cP H xs.reverse ds.reverse := by
 induction xs generalizing ds with
 | nil => cases h; exact .nil
 | cons x xs ih =>
   cases h with
   | cons h r => rw [List.reverse_cons, List.reverse_cons]; exact (ih r).append (.cons h .nil)
theorem sL {ds : List PyData} (h : aZ ds = true) : aZ ds.reverse = true := by
 rw [gU] at *
 intro d hd
 exact h d (List.mem_reverse.mp hd)
theorem CG {q : Addr} {es : List PyData} (hp : eI H p ds) (hq : eI H q es) (hl : ds.length + es.length <= 4000) (k : ∀ r H', aB H H' -> H r = none -> eI H' r (ds ++ es) -> Q (.ref r) H') : Fi (.ref p) (.ref q) H Q := by
 obtain ⟨xs, e, dv, im⟩ := hp
 obtain ⟨zs, e2, JK, Ml⟩ := hq
 refine ⟨p, q, xs, zs, rfl, rfl, e, e2, by rw [dv.length, JK.length]; exact small hl, fun r hr => ?_⟩
 exact k r _ (dX hr) hr (tG hr (dv.append JK) (gg im Ml))
end
end L2
namespace L2
open PySem PySem.Calls PyProof.Rows
section
variable {X : Cx} {e k : Expr} {te tk : TE} {pos p2 : Pos}
end
section
variable {X : Cx}
end
section
variable {K : PySem.W.Frag} {σ : St} {H : Hp} {Q : VK} {p : Addr} {ds : List PyData}
end
end L2
namespace L2
open PySem PySem.Spec PyProof.Rows PySem.W
section
variable {X : Cx}
theorem p8 {H : Hp} : ∀ (ss : List Str), cP H (ss.map V.str) (ss.map PyData.str)
 | [] => .nil
 | x :: r => .cons (.str x) (p8 r)
def A5 : List V -> Hp -> VK -> Prop := fun xs H Q => ∃ (v : V) (ns : List Int), xs = [v] /\ Dv H v (.list (ns.map PyData.int)) /\ Q (.int ns.sum) H
theorem tS {H : Hp} : ∀ {xs : List V} {ns : List Int} {us : List Value}, cP H xs (ns.map PyData.int) -> Vals xs us -> IntsAre us ns
 | _, [], _, .nil, .nil => .nil
 | _, _ :: _, _, .cons h r, .cons q t => by
   cases h
   obtain ⟨tk, rfl⟩ := q
   exact .cons _ _ (tS r t)
theorem lr (x : Int) (ns : List Int) : ∀ k, preSum (fun i => (x :: ns).getD i 0) (k + 1) = x + preSum (fun i => ns.getD i 0) k
 | 0 => by simp [preSum]
 | k + 1 => by
   rw [preSum, lr x ns k, preSum, List.getD_cons_succ]
   omega
theorem kX : ∀ ns : List Int, preSum (fun i => ns.getD i 0) ns.length = ns.sum
 | [] => rfl
 | x :: r => by rw [List.length_cons, lr, kX r, List.sum_cons]
theorem vp (hc : X.calm = true) : iG X (.builtin "sum") A5 := by
 intro pins s σ H xs us Q I r h
 obtain ⟨v, ns, rfl, hd, q⟩ := h
 obtain ⟨u, rfl, ru⟩ := vals1 r
 obtain ⟨p, ys, rfl, e, dv⟩ := hd.lst_inv
 obtain ⟨aJ, Hr, pl, _⟩ := I.list (e X.K)
 cases ru
 have hI := tS dv Hr
 have n6 : p < s.heap.objs.size := by obtain ⟨o, n, e1, _⟩ := pl; exact Heap.lt_size e1
 have hA : X.A.in1.handled = none := I.ok.hd hc
 refine call_sum_walkAnyB (wpAny_pyIter_list pl.isList ?_)
 refine ⟨s.heap.objs.size, _, _, _, _, _, _, fun i => ns.getD i 0, rfl, (Walks.list hA _ p (Nat.ne_of_lt n6) aJ.toArray).toS, ⟨⟨_, Heap.get?_push_size _ rfl, rfl, rfl⟩, pl.isList.at fun o e => Heap.get?_push_of_some _ e⟩, ?_, ?_, ?_⟩
 . intro b hb
   rw [Heap.size_push]
   have : b = s.heap.objs.size \/ b = p := by simpa using hb
   rcases this with rfl | rfl
   . exact Nat.lt_succ_self _
   . exact Nat.lt_succ_of_lt n6
 . intro i v hv
   obtain ⟨t, ht⟩ := hI.int_at i v (by simpa using hv)
   exact .inl ⟨t, ht⟩
 . intro s' t' hm
   have hn : aJ.toArray.size = ns.length := by rw [List.size_toArray, hI.length]
   rw [hn, kX]
   obtain ⟨h', g', d', Jj, ER⟩ := s'
   have eg : g' = s.gens := hm.gens
   have ed : d' = s.drawn := hm.drawn
   have eo : ER = s.os := hm.os
   subst eg; subst ed; subst eo
   have I1 := I.kept (t' := s.toks) (h' := s.heap.push { cls := Value.type "list_iterator", data := Data.fields #[Value.ref p, Value.int 0 0] }) fun b o e => Heap.get?_push_of_some _ e
   have fp := I.u6 (H' := H) (Nat.le_refl _) (I.aK.fresh (Nat.le_refl _))
   have I2 := I1.turned (t' := Jj) (h' := h') (it := s.heap.objs.size) (fun b o hb e => hm.heap b o (by simpa using hb) e) fp.1 fp.2.1 fp.2.2.2.1 fp.2.2.2.2.1 fp.2.2.2.2.2
   exact ⟨.int ns.sum, H, I2, ⟨t', rfl⟩, q⟩
end
theorem zh : typeLookup (.type "list_reverseiterator") "__len__" = pure none := by rw [typeLookup_type, builtinLookup_eq_fast]; kernel_rfl
theorem xS : typeLookup (.type "list_reverseiterator") "__length_hint__" = pure (some (.builtin "list_reverseiterator.__length_hint__")) := by rw [typeLookup_type, builtinLookup_eq_fast]; kernel_rfl
theorem uO : splitId "list_reverseiterator.__length_hint__" = some ("list_reverseiterator", "__length_hint__") := by decide +kernel
section
variable {prog : Program} {w : World} {A : Around} {E : Value -> Shared -> Prop} {s : Shared} {it l : Addr} {aJ : Array Value}
theorem Aa {R : Result -> Shared -> Prop} (hh : A.handled = none) (p5 : l ≠ it) (y : Addr) (c0 : Nat) (hz : aJ.size <= sizeLine) (hi : s.heap.IsRevIter it l ((aJ.size : Int) - 1)) (hl : s.heap.IsList l aJ)
 (hy : s.heap.get? y = some { cls := .type "list", data := .seq #[] c0 }) (Jx : y ≠ it) (LV : y ≠ l)
 (hR : ∀ s' acc c, Moved [y, it] (fun a b => b = a) s s' -> s'.heap.get? y = some { cls := .type "list", data := .seq acc c } -> ItemsOf (fun i v => aJ[aJ.size - 1 - i]? = some v) acc aJ.size -> R (.ok (.ret .none)) s') :
 wpAny (model prog w) A.in1 (Builtin.List.listExtendWith (.ref y) (.ref it) .none)
  (fun f s' => match f with | .done g => R (.ok g) s' | .again c => c.quiet = true /\ codeAny (model prog w) A c R s') (fun e s' => R (.error e) s') s := by
 have W := (Walks.listRev (prog := prog) (w := w) (A := A.in1) hh it l p5 aJ).toS
 have GO : (0 : Nat) <= aJ.size /\ s.heap.IsRevIter it l ((aJ.size : Int) - 1 - ((0 : Nat) : Int)) /\ s.heap.IsList l aJ := ⟨Nat.zero_le _, by simpa using hi, hl⟩
 have nf : y ∉ [it, l] := by simp [Jx, LV]
 unfold Builtin.List.listExtendWith
 refine wpAny_bind (wpAny_typeOf hi.typeIs ?_)
 have a1 : Builtin.List.listSameRef (.ref y) (.ref it) = false := by simp [Builtin.List.listSameRef, Jx]
 have a2 : (Value.type "list_reverseiterator" == Value.type "list") = false := by decide
 have a3 : (Value.type "list_reverseiterator" == Value.type "tuple") = false := by decide
 simp only [a1, a2, a3, Bool.or_self, Bool.false_eq_true, if_false]
 refine wpAny_bind (wpAny_pyIter_revIter hi (wpAny_bind (wpAny_holding ?_)))
 unfold Builtin.List.listLengthHint
 refine wpAny_bind (wpAny_specialOf hi.typeIs zh ?_)
 wp_delta
 refine wpAny_bind (wpAny_specialOf hi.typeIs xS ?_)
 dsimp only
 rw [uO]
 dsimp only
 refine wpAny_bind (wpAny_isInstance (b := true) hi.typeIs (by rw [isSubtype_type]; kernel_rfl) ?_)
 rw [if_neg (by decide), if_pos (by decide +kernel), if_neg (by decide)]
 refine wpAny_pure ?_
 rw [if_neg (by decide +kernel)]
 refine wpAny_pure ⟨plainId_quiet F.plain_extend_loop _, codeAny_extend_loopS W hz _ nf _ aJ.size 0 _ _ _ rfl (Nat.zero_le _) GO hy (ItemsOf.nil _) fun s' acc c hm hs gy => ?_⟩
 exact hR s' acc c (hm.mono (by simp)) hs gy
theorem nJ {Q : Value -> Shared -> Prop} (hh : A.handled = none) (p5 : l ≠ it) (hz : aJ.size <= sizeLine) (hi : s.heap.IsRevIter it l ((aJ.size : Int) - 1)) (hl : s.heap.IsList l aJ)
 (hQ : ∀ s' acc c, s'.gens = s.gens -> s'.drawn = s.drawn -> s'.os = s.os -> (∀ b o, b ≠ it -> s.heap.get? b = some o -> s'.heap.get? b = some o) -> s'.heap.get? s.heap.objs.size = some { cls := .type "list", data := .seq acc c } -> ItemsOf (fun i v => aJ[aJ.size - 1 - i]? = some v) acc aJ.size -> Q (.ref s.heap.objs.size) s') :
 wpAny (model prog w) A (call (.type "list") [.ref it]) Q E s := by
 have li : it < s.heap.objs.size := by obtain ⟨o, e, _⟩ := hi; exact Heap.lt_size e
 have ll : l < s.heap.objs.size := by obtain ⟨o, e, _⟩ := hl; exact Heap.lt_size e
 refine callType_codes (Q₁ := fun u s1 => u = .ref s.heap.objs.size /\ s1 = { s with heap := s.heap.push { cls := .type "list", data := .seq #[] } }) F.called_list (F.typeCall_list_1 _) F.entry_list_init (code_list_new _ ⟨rfl, rfl⟩) fun u s1 hu => ?_
 obtain ⟨rfl, rfl⟩ := hu
 have h0 : (s.heap.push { cls := .type "list", data := .seq #[] }).get? s.heap.objs.size = some { cls := .type "list", data := .seq #[] } := Heap.get?_push_size _ rfl
 refine ⟨⟨_, h0, rfl⟩, F.args_list_init_2 _ _, ?_⟩
 show wpAny _ _ (Builtin.List.listItems (.ref s.heap.objs.size) >>= fun old => Builtin.List.listUpdate (.ref s.heap.objs.size) (fun _ => #[]) >>= fun _ => letGo old.toList.reverse >>= fun _ => Builtin.List.listExtendWith (.ref s.heap.objs.size) (.ref it) .none) _ _ _
 refine wpAny_bind ?_
 unfold Builtin.List.listItems
 refine wpAny_bind (wpAny_seqItems h0 rfl (wpAny_pure (wpAny_bind ?_)))
 refine wpAny_updateSeq h0 rfl (wpAny_bind (wpAny_letGo ?_))
 have h2 := Heap.get?_update_self (Obj.mapSeq (fun _ => (#[] : Array Value))) h0 rfl
 have ot : ∀ b o, b ≠ s.heap.objs.size -> s.heap.get? b = some o -> ((s.heap.push { cls := .type "list", data := .seq #[] }).update s.heap.objs.size (Obj.mapSeq (fun _ => (#[] : Array Value)))).get? b = some o := fun b o hb e => by
  rw [Heap.get?_update_other _ _ (Ne.symm hb)]
  exact Heap.get?_push_of_some _ e
 refine Aa (A := A.in1) hh p5 _ _ hz (hi.at fun o e => ot it o (Nat.ne_of_lt li) e) (hl.at fun o e => ot l o (Nat.ne_of_lt ll) e) h2 (Ne.symm (Nat.ne_of_lt li)) (Ne.symm (Nat.ne_of_lt ll)) fun s' acc c hm hs gy => ?_
 exact ⟨rfl, hQ s' acc c hm.gens hm.drawn hm.os (fun b o hb e => hm.heap b o (by simp [hb, Nat.ne_of_lt (Heap.lt_size e)]) (ot b o (Nat.ne_of_lt (Heap.lt_size e)) e)) hs gy⟩
end
section
variable {X : Cx} {e : Expr} {te : TE} {p p2 pos u3 : Pos}
def rE (K : PySem.W.Frag) : V -> Hp -> VK -> Prop := fun x H Q => ∃ a xs, x = .ref a /\ fL K H a xs /\ ∀ q, H q = none -> Q (.ref q) (upd H q (.lst xs.reverse))
def vX (K : PySem.W.Frag) (te : TE) : TE := fun σ H Q => te σ H fun x H1 => rE K x H1 Q
theorem uG {aJ : List Value} {acc : Array Value} (h : ItemsOf (fun i v => aJ.toArray[aJ.toArray.size - 1 - i]? = some v) acc aJ.toArray.size) : acc.toList = aJ.reverse := by
 obtain ⟨h0, h1⟩ := h
 rw [List.size_toArray] at h0
 refine List.ext_getElem (by simp [h0]) fun i hi hj => ?_
 have ha : i < acc.size := by simpa using hi
 have n6 : i < aJ.length := by simpa using hj
 have := h1 i acc[i] (Array.getElem?_eq_getElem ha)
 rw [List.size_toArray] at this
 rw [List.getElem_reverse]
 have hk : aJ.length - 1 - i < aJ.length := by omega
 have e : aJ.toArray[aJ.length - 1 - i]? = some aJ[aJ.length - 1 - i] := by simp [hk]
 rw [e] at this
 simpa using (Option.some.inj this).symm
theorem sG (he : PE X e te) (hc : X.calm = true) (hg : Gl X "list") (hm : X.mg "list" = none) (Dx : Gl X "reversed") (GV : X.mg "reversed" = none)
 (h1 : starEach [e] X.env = (false, eval e X.env) :: starEach [] X.env := by rfl)
 (h2 : starEach [.Call (.Name "reversed" p2) [e] [] u3] X.env = (false, eval (.Call (.Name "reversed" p2) [e] [] u3) X.env) :: starEach [] X.env := by rfl) :
 PE X (.Call (.Name "list" p) [.Call (.Name "reversed" p2) [e] [] u3] [] pos) (vX X.K te) := by
 intro pins s σ H Q I h
 refine wpAny_Call_Name_kw (jv I hg hm (by rfl) ?_ (by decide) (by decide))
 refine PyProof.Rows.callWith_type1 ?_ h2 rfl
 rw [h2]
 show wpAny _ _ (spliced ((false, eval (.Call (.Name "reversed" p2) [e] [] u3) X.env) :: backTo pos (starEach [] X.env))) _ _ s
 refine Calls.spliced_cons (wpAny_Call_Name_kw (jv I Dx GV (by rfl) ?_ (by decide) (by decide)))
 refine PyProof.Rows.callWith_type1 ?_ h1 rfl
 rw [h1]
 show wpAny _ _ (spliced ((false, eval e X.env) :: backTo u3 (starEach [] X.env))) _ _ s
 refine Calls.spliced_cons (cg (he pins s σ H _ I h) fun u s1 ⟨x, H1, I1, r1, q1⟩ => ?_)
 refine Calls.spliced_nil ?_
 obtain ⟨a, xs, rfl, hx, q⟩ := q1
 cases r1
 obtain ⟨aJ, r, ht, hz⟩ := I1.list hx
 have hlen := r.length
 have la : a < s1.heap.objs.size := by obtain ⟨o, n, e1, _⟩ := ht; exact Heap.lt_size e1
 refine call_reversed_list ht.isList ?_
 refine Calls.spliced_nil ?_
 have hit : (s1.heap.push (revObj a ((aJ.toArray.size : Int) - 1))).IsRevIter s1.heap.objs.size a ((aJ.toArray.size : Int) - 1) := ⟨_, Heap.get?_push_size _ rfl, rfl, rfl⟩
 refine nJ (I1.ok.hd hc) (Nat.ne_of_lt la) (by rw [List.size_toArray]; omega) hit (ht.isList.at fun o e => Heap.get?_push_of_some _ e) fun s' acc c eg ed eo hk hs gy => ?_
 obtain ⟨h', g', d', Jj, ER⟩ := s'
 have eg : g' = s1.gens := eg
 have ed : d' = s1.drawn := ed
 have eo : ER = s1.os := eo
 subst eg; subst ed; subst eo
 have sz : (s1.heap.push (revObj a ((aJ.toArray.size : Int) - 1))).objs.size = s1.heap.objs.size + 1 := Heap.size_push ..
 rw [sz] at hs
 have hq : H1 (s1.heap.objs.size + 1) = none := I1.aK.fresh (Nat.le_succ _)
 rw [sz]
 refine ⟨.ref (s1.heap.objs.size + 1), upd H1 (s1.heap.objs.size + 1) (.lst xs.reverse), I1.laid (t' := Jj) (fun b ob e => hk b ob (Nat.ne_of_lt (Heap.lt_size e)) (Heap.get?_push_of_some _ e)) (Nat.le_succ _) ?_, rfl, q _ hq⟩
 refine ⟨by rw [List.length_reverse]; exact hz, aJ.reverse, c, r.reverse, ?_⟩
 rw [<- uG gy]
 simpa using hs
end
section
variable {K : PySem.W.Frag} {σ : St} {H : Hp} {Q : VK} {p : Addr} {ds : List PyData} {v : V}
theorem vZ {te : TE} (h : te σ H fun x H1 => rE K x H1 Q) : vX K te σ H Q := h
theorem zG (hp : Dv H v (.list ds)) (i : aZ ds = true) (k : ∀ q H', aB H H' -> H q = none -> eI H' q ds.reverse -> Q (.ref q) H') : rE K v H Q := by
 obtain ⟨p, xs, rfl, e, dv⟩ := hp.lst_inv
 refine ⟨p, xs, rfl, e K, fun q hq => ?_⟩
 exact k q _ (dX hq) hq (tG hq dv.rev (sL i))
theorem C4 {ns : List Int} (hp : Dv H v (.list (ns.map PyData.int))) (h : Q (.int ns.sum) H) : A5 [v] H Q := ⟨v, ns, rfl, hp, h⟩
end
section
variable {P : Program} {w : World} {H : Hp} {h : Heap} {d : Addr} {o : Obj} {kvs : List (Key × V)}
end
section
variable {X : Cx} {pins : List (Addr × Obj)} {σ : St} {H : Hp} {s : Shared} {d : Addr} {o : Obj} {kvs : List (Key × V)}
end
theorem v9 {k : Key} {v : Value} (h : mL k v = true) : RelV (kV k) v := by
 rcases bj h with ⟨i, t, rfl, rfl⟩ | ⟨x, t, rfl, rfl⟩
 . exact ⟨t, rfl⟩
 . exact ⟨t, rfl⟩
def Ae (H : Hp) (p : Addr) (m : List (Str × PyData)) : Prop := ∃ kvs, Rd H p (.dK kvs) /\ jo H kvs m
theorem ku.rd {H : Hp} {p : Addr} {m : List (Str × PyData)} (h : ku H p m) : Ae H p m := let ⟨kvs, e, d⟩ := h; ⟨kvs, .inl e, d⟩
theorem Ae.keeps {H H' : Hp} {p : Addr} {m : List (Str × PyData)} (s : aB H H') (h : Ae H p m) : Ae H' p m := by
 obtain ⟨kvs, r, d⟩ := h
 refine ⟨kvs, ?_, d.rA fun a xs e => s _ _ e⟩
 rcases r with r | ⟨o, r⟩
 . exact .inl (s _ _ r)
 . exact .inr ⟨o, s _ _ r⟩
section
variable {σ : St} {H : Hp} {Q : VK} {K : PySem.W.Frag} {p : Addr} {m : List (Str × PyData)} {k : Str}
theorem yN {d : PyData} {R : V -> Prop} (hp : Ae H p m) (hk : dq m k = some d) (h : nH H d fun v _ => R v) : ∃ a v, V.ref p = .ref a /\ lC H a (.str k) (some v) /\ R v := by
 obtain ⟨kvs, e, dk⟩ := hp
 obtain ⟨v, hv, hd⟩ := (dk.val (k := k)).1 d hk
 exact ⟨p, v, rfl, .inl ⟨kvs, .inr k, e, rfl, hv.symm⟩, h.use hd⟩
theorem De {R : Option V -> Prop} (hp : Ae H p m) (h : ∀ o : Option V, o.isSome = (dq m k).isSome -> R o) : ∃ a o, V.ref p = .ref a /\ lC H a (.str k) o /\ R o := by
 obtain ⟨kvs, e, dk⟩ := hp
 refine ⟨p, km kvs (.inr k), rfl, .inl ⟨kvs, .inr k, e, rfl, rfl⟩, h _ ?_⟩
 obtain ⟨h1, h2⟩ := dk.val (k := k)
 cases hl : dq m k with
 | none => rw [h2 hl]; rfl
 | some d => obtain ⟨v, hv, _⟩ := h1 d hl; rw [hv]; rfl
end
section
variable {X : Cx}
def jW (i : Str) (n : Int) : Str := if n < 1 then Str.empty else if (n == 1 || i.length == 0) = true then i else ⟨(List.replicate n.toNat i.cps).foldl (· ++ ·) #[]⟩
def xW : R2 := fun x y H Q => ∃ i n, x = .str i /\ y = .int n /\ 0 <= n /\ n <= 10 /\ i.length <= 10 /\ (jW i n).length <= 4000 /\ Q (.str (jW i n)) H
theorem uj : ki X (binaryOp .Mult) xW := by
 intro pins s σ H x y v u Q I rx ry h
 obtain ⟨i, n, rfl, rfl, h0, h1, hl, hm, q⟩ := h
 obtain ⟨t, rfl⟩ := rx
 obtain ⟨t', rfl⟩ := ry
 have G1 : ((i.length : Nat) : Int) <= 10 := by omega
 refine PySem.P.mul_str (by simp; omega) (fun a _ => ?_) (fun a _ => ?_) ?_
 . have c : n = 1 \/ n = 2 \/ n = 3 \/ n = 4 \/ n = 5 \/ n = 6 \/ n = 7 \/ n = 8 \/ n = 9 \/ n = 10 := by omega
   rcases c with rfl | rfl | rfl | rfl | rfl | rfl | rfl | rfl | rfl | rfl <;> omega
 . have : i.length * n.toNat <= 10 * 10 := Nat.mul_le_mul hl (by omega)
   exact decide_eq_false (Nat.not_lt.mpr (Nat.le_trans this (Nat.le_of_lt (gS (by decide)))))
 . unfold jW at hm q
   split
   . rename_i c
     rw [if_pos c] at hm q
     exact ⟨Nat.le_of_lt (gS hm), .str _, H, I.tok _, ⟨_, rfl⟩, q⟩
   . rename_i c
     rw [if_neg c] at hm q
     split
     . rename_i c2
       rw [if_pos c2] at hm q
       exact ⟨.str _, H, I, ⟨_, rfl⟩, q⟩
     . rename_i c2
       rw [if_neg c2] at hm q
       exact ⟨Nat.le_of_lt (gS hm), .str _, H, I.tok _, ⟨_, rfl⟩, q⟩
end
section
variable {σ : St} {H : Hp} {Q : VK} {K : PySem.W.Frag} {p : Addr} {m : List (Str × PyData)} {k : Str}
theorem Bm {i : Str} {n : Int} (h0 : 0 <= n) (h1 : n <= 10) (hl : i.length <= 10) (hm : (jW i n).length <= 4000) (h : Q (.str (jW i n)) H) : xW (.str i) (.int n) H Q := ⟨i, n, rfl, rfl, h0, h1, hl, hm, h⟩
end
section
variable {σ : St} {H : Hp} {Q : VK} {K : PySem.W.Frag} {p : Addr}
end
section
variable {X : Cx}
end
section
variable {prog : Program} {w : World} {K : Type} [DecidableEq K] {knd : KeyKind prog w K} {A : Around} {E : Value -> Shared -> Prop} {s : Shared} {d : Addr} {kvs : List (K × Value)} {ep : Nat}
end
section
variable {X : Cx}
theorem rY {P : Program} {w : World} {kvs : List (Key × V)} {vs : List (Key × Value)} {acc : Array Value} (kv : KV kvs vs) (h : ItemsOf (fun i v => ∃ k x, vs[i]? = some (k, x) /\ (bM P w).is k v = true) acc vs.length) : Vals (kvs.map fun kv => kV kv.1) acc.toList := by
 obtain ⟨h0, h1⟩ := h
 have key : ∀ (kvs : List (Key × V)) (vs : List (Key × Value)), KV kvs vs -> ∀ l : List Value, l.length = vs.length -> (∀ (i : Nat) (v : Value), l[i]? = some v -> ∃ k x, vs[i]? = some (k, x) /\ (bM P w).is k v = true) -> Vals (kvs.map fun kv => kV kv.1) l := by
  intro kvs vs r
  induction r with
  | nil =>
    intro l hl _
    cases l with
    | nil => exact .nil
    | cons => simp at hl
  | cons r t ih =>
    intro l hl hi
    cases l with
    | nil => simp at hl
    | cons v l =>
      refine .cons ?_ (ih l (by simpa using hl) fun i v e => ?_)
      . obtain ⟨k, x, e, hk⟩ := hi 0 v rfl
        have e' := Option.some.inj e
        dsimp only
        rw [r.1, e']
        exact v9 hk
      . exact hi (i + 1) v (by simpa using e)
 exact key kvs vs kv acc.toList (by simpa using h0) fun i v e => h1 i v (by simpa using e)
end
section
variable {σ : St} {H : Hp} {Q : VK} {p : Addr} {m : List (Str × PyData)}
theorem k7 : ∀ ss : List Str, aZ (ss.map PyData.str) = true
 | [] => rfl
 | _ :: r => by rw [List.map_cons, aZ, k7 r]; rfl
end
section
variable {σ : St} {H : Hp} {D : Ends} {p : Addr} {m : List (Str × PyData)} {g : TG} {tb : TS}
end
section
variable {σ : St} {H : Hp} {K : PySem.W.Frag}
end
end L2
namespace L2
open PySem
def Lb (xs : Array Nat) : Prop := ∀ i j, (hi : i < xs.size) -> (hj : j < xs.size) -> i < j -> xs[i] < xs[j]
structure Good (t : SetTable) : Prop where
 up : Lb t.place
 nd : t.dummies = #[]
section
variable {prog : Program} {w : World} {A : Around} {E : Value -> Shared -> Prop} {s : Shared}
end
section
variable {prog : Program} {w : World} {A : Around} {E : Value -> Shared -> Prop} {s : Shared}
end
set_option maxRecDepth 100000
section
variable {prog : Program} {w : World} {A : Around} {E : Value -> Shared -> Prop} {s : Shared} {it a : Addr} {o : Obj} {es : Array (Int × Value)} {ep : Nat} {t : SetTable}
end
section
variable {prog : Program} {w : World} {A : Around} {E : Value -> Shared -> Prop} {s : Shared} {it a : Addr} {o : Obj} {es : Array (Int × Value)} {ep : Nat} {t : SetTable}
end
section
variable {prog : Program} {w : World} {A : Around} {E : Value -> Shared -> Prop} {s : Shared} {it a : Addr} {o : Obj} {es : Array (Int × Value)} {ep : Nat} {t : SetTable}
end
end L2
namespace L2
open PySem PySem.Spec PyProof.Rows
section
variable {prog : Program} {w : World} {A : Around} {R : Result -> Shared -> Prop} {it y : Addr} {fp wr : List Addr} {G : Array GenState -> Array GenState -> Prop} {n : Nat} {Pv : Nat -> Value -> Prop} {St : Nat -> Shared -> Prop}
end
section
variable {prog : Program} {w : World} {A : Around} {E : Value -> Shared -> Prop} {s : Shared}
set_option maxRecDepth 100000 in
set_option maxHeartbeats 3200000 in
end
section
variable {prog : Program} {w : World} {A : Around} {E : Value -> Shared -> Prop} {s : Shared} {a : Addr} {S : Int -> Bool} {n : Nat}
end
end L2
namespace L2
open PySem PySem.Spec PyProof.Rows PySem.W
section
variable {X : Cx} {e : Expr} {te : TE} {p p2 pos u3 : Pos}
end
section
variable {σ : St} {H : Hp} {Q : VK} {v : V}
end
section
variable {X : Cx}
end
section
variable {σ : St} {H : Hp} {Q : VK} {K : PySem.W.Frag} {p : Addr} {m : List (Str × PyData)}
end
def Tr (h : Heap) (a T : Addr) (c : Value) : Prop := ∃ oe vs oT ts, h.get? a = some oe /\ oe.cls = c /\ oe.dict = none /\ oe.data = .fields vs /\ vs[1]? = some (.ref T) /\ T ≠ a /\ h.get? T = some oT /\ oT.data = .fields ts /\ ts[3]? = some .none /\ vs[2]? = some .none
structure Lv (l : List Env) (S : List Addr) (h h' : Heap) : Prop where
 keep : ∀ b o, b ∉ mJ l -> b ∉ S -> h.get? b = some o -> h'.get? b = some o
 slot : ∀ b o, b ∈ mJ l -> h.get? b = some o -> ∃ sl, h'.get? b = some { o with slots := sl }
section
variable {M : Model} {A : Around} {E : Value -> Shared -> Prop} {s : Shared} {env : Env} {outer : List Env} {L a T : Addr} {c : Value} {base : Heap} {Q : Unit -> Shared -> Prop}
end
theorem bo.live {P : Program} {w : World} {H : Hp} {h : Heap} {a : Addr} {o : HO} (x : bo P w H h a o) : ∃ ob, h.get? a = some ob := by
 induction o with
 | lst xs => obtain ⟨_, _, _, _, e⟩ := x; exact ⟨_, e⟩
 | tup xs => obtain ⟨_, _, _, ob, e, _⟩ := x; exact ⟨_, e⟩
 | dK kvs => obtain ⟨_, _, _, _, o, _, _, e, _⟩ := x; exact ⟨_, e⟩
 | dT kvs => obtain ⟨_, _, _, _, o, _, _, e, _⟩ := x; exact ⟨_, e⟩
 | set S n => obtain ⟨o, _, _, _, e, _⟩ := x; exact ⟨_, e⟩
 | ins C dx fs => obtain ⟨_, _, _, e, _⟩ := x; exact ⟨_, e⟩
 | own y => exact x
 | xd fs => obtain ⟨_, ⟨_, _, _, e, _⟩, _⟩ := x; exact ⟨_, e⟩
 | He lo hi => obtain ⟨_, _, _, e⟩ := x; exact ⟨_, e⟩
 | rX ob u _ => exact ⟨_, x.1⟩
 | iX ps => exact ⟨_, x⟩
 | met f y => exact ⟨_, x⟩
 | ext φ => exact x.2.1
theorem iU.dead {P : Program} {w : World} {H : Hp} {h : Heap} {a : Addr} (ok : iU P w H h) (n : h.get? a = none) : H a = none := by
 cases e : H a with
 | none => rfl
 | some u =>
   obtain ⟨o, z⟩ := (ok a u e).live
   rw [n] at z
   cases z
def Mq (P : Program) (w : World) : p0 := fun outer H s E e s' => ∃ a T C H', e = .ref a /\ s'.os = s.os /\ AllBare s'.gens /\ Un (mJ outer) [] H H' s.heap s'.heap /\ iU P w H' s'.heap /\ Tr s'.heap a T (.ref C) /\ s.heap.get? a = none /\ s.heap.get? T = none /\ H' a = none /\ H' T = none /\ E (.ref C) none H'
section
variable {P : Program} {w : World} {K : PySem.W.Frag} {mg : Str -> Option Value} {base : Heap} {N : List Str} {qual : Str} {scope : Scope} {f : Addr} {cd : Value} {A : Around} {outer : List Env} {s0 : Shared} {H0 : Hp} {E : XK} {CX : p0} {pins : List (Addr × Obj)} {σ : St} {H : Hp} {s : Shared}
end
section
variable {K : PySem.W.Frag} {h : Heap} {C : Addr} {yd : List Value} {newId : String}
def DP (h : Heap) (C : Addr) (yd : List Value) (newId : String) : Prop := ∃ (bm : List Value) (N : Addr) (nm q : Str) (bs : List Value) (hd : Bool) (sn : List Str) (sub : List Value) (ab : Bool) (col : Option Bool) (dd : Option Addr) (k0 k1 k2 k3 k5 : Option Value) (mN : Str -> Option Value),
 h.get? C = some (excClassObj nm q C N bs bm hd sn sub ab col dd k0 k1 k2 k3 k5 newId) /\ h.Ns N mN /\ mN "__init__" = none /\ OwnTail h yd bm
theorem xG (X : K.In h) (q : excIn K C yd newId = true) : DP h C yd newId := by
 unfold excIn at q
 split at q
 . rename_i dd cd sl ho
   split at q
   . rename_i C' bm k0 k1 k2 k3 n k5 hm hs
     simp only [Bool.and_eq_true, beq_iff_eq, Bool.not_eq_true'] at q
     obtain ⟨⟨⟨⟨⟨rfl, rfl⟩, FT⟩, ht⟩, aK⟩, GP⟩ := q
     obtain ⟨nm, bs, mro, ns, qn, hd, sn, sub, ab, col, del⟩ := cd
     dsimp only at hm FT aK GP
     subst hm FT
     obtain ⟨l⟩ := sl
     dsimp only at hs
     subst hs
     exact ⟨bm, ns, nm, qn, bs, hd, sn, sub, ab, col, dd, k0, k1, k2, k3, k5, _, X _ _ ho, .of_isNs (isNs_of_in X aK), nsMap_none_of_in X aK GP, tail_of_in X ht⟩
   . cases q
 . cases q
end
abbrev vD : List Value := [.type "ValueError", .type "Exception", .type "BaseException", .type "object"]
def vY (K : PySem.W.Frag) (C : Addr) : Prop := excIn K C vD "ValueError.__new__" = true
section
variable {X : Cx} {pins : List (Addr × Obj)} {σ : St} {H : Hp} {s : Shared}
theorem Inv.lv {S : List Addr} {h' : Heap} {t' : Nat} (I : Inv X pins σ H s) (lv : Lv X.stack S s.heap h') (hS : ∀ b ∈ S, H b = none /\ X.cA.heap.get? b = none /\ b ≠ X.env.locals /\ (∀ x c, X.env.cells.lookup x = some c -> c ≠ b) /\ ∀ p ∈ X.pn ++ pins, p.1 ≠ b) : Inv X pins σ H { s with heap := h', toks := t' } := by
 have old : ∀ b o, X.cA.heap.get? b = some o -> b ∉ S /\ b ≠ X.env.locals := fun b o e => ⟨fun z => (by rw [(hS b z).2.1] at e; cases e), Nat.ne_of_lt (Nat.lt_of_lt_of_le (Heap.lt_size e) I.ok.above)⟩
 have one : ∀ b o, b ∉ S -> s.heap.get? b = some o -> ∃ sl, h'.get? b = some { o with slots := sl } := fun b o n e => by
  by_cases m : b ∈ mJ X.stack
  . exact lv.slot b o m e
  . exact ⟨o.slots, lv.keep b o m n e⟩
 have nL : X.env.locals ∉ S := fun z => (hS _ z).2.2.1 rfl
 have cellK : ∀ x c, X.env.cells.lookup x = some c -> ∀ v, s.heap.IsCell c v -> h'.IsCell c v := fun x c e v ⟨o, ho, hd⟩ => by
  obtain ⟨sl, q⟩ := one c o (fun z => (hS c z).2.2.2.1 x c e rfl) ho
  exact ⟨_, q, hd⟩
 have KJ : ∀ b, b ∉ X.fs -> b ≠ X.env.locals -> b ∉ mJ X.stack := fun b n1 n2 m => by
  rcases List.mem_cons.mp (I.pK b m) with z | z
  . exact n2 z
  . exact n1 z
 refine ⟨I.ok, I.os, I.bare, ⟨fun b o e n hb hx => ?_, fun b o e n hb hx => ?_, fun b o e n hx => I.base.free b o e n hx, fun b o e hx => ?_, I.base.iK, I.base.ic, I.base.i5⟩, ?_, fun x c e => ?_, I.free, I.c9, fun p hp => ?_, fun b u e => ?_, I.len⟩
 . exact lv.keep b o (KJ b hb (old b o e).2) (old b o e).1 (I.base.keep b o e n hb hx)
 . obtain ⟨sl, z⟩ := I.base.slot b o e n hb hx
   obtain ⟨Fy, z2⟩ := one b _ (old b o e).1 z
   exact ⟨Fy, z2⟩
 . obtain ⟨o2, z⟩ := I.base.there b o e hx
   obtain ⟨Fy, z2⟩ := one b _ (old b o e).1 z
   exact ⟨_, z2⟩
 . obtain ⟨m, ⟨o, es, ep, ho, r⟩, hl⟩ := I.loc
   obtain ⟨sl, z⟩ := one _ o nL ho
   refine ⟨m, ⟨_, es, ep, z, r⟩, fun i x v e1 e2 e3 => ?_⟩
   obtain ⟨u, ru, l⟩ := hl i x v e1 e2 e3
   refine ⟨u, ru, ?_⟩
   rcases l with l | ⟨k, c, e, z⟩
   . exact .inl l
   . exact .inr ⟨k, c, e, cellK x c e _ z⟩
 . obtain ⟨v, z⟩ := I.cell x c e
   exact ⟨v, cellK x c e v z⟩
 . obtain ⟨e, n, ne, nf, d⟩ := I.pin p hp
   exact ⟨lv.keep p.1 p.2 (KJ p.1 nf ne) (fun z => (hS p.1 z).2.2.2.2 p hp rfl) e, n, ne, nf, d⟩
 . refine (I.aK b u e).kg (fun c v hc q => ?_) (fun _ q => q) fun _ _ q => q
   have lb : H c ≠ none := by
    rcases hc with rfl | hc
    . rw [e]; intro z; cases z
    . rw [hc]; intro z; cases z
   exact lv.keep c v (fun m => lb (I.lO c m)) (fun m => lb (hS c m).1) q
theorem Inv.xj {a : Addr} {φ : Heap -> Prop} (I : Inv X pins σ H s) (ha : H a = none) (hs : X.cA.heap.get? a = none) (hL : a ≠ X.env.locals) (hc : ∀ x c, X.env.cells.lookup x = some c -> c ≠ a) (hp : ∀ p ∈ X.pn ++ pins, p.1 ≠ a)
 (new : φ s.heap /\ (∃ o, s.heap.get? a = some o) /\ ∀ h1 h2 : Heap, φ h1 -> (∀ o, h1.get? a = some o -> h2.get? a = some o) -> φ h2) : Inv X pins σ (upd H a (.ext φ)) s := by
 have kp : ∀ b u, H b = some u -> upd H a (.ext φ) b = some u := fun b u e => by rw [ak (fun z => by rw [z, ha] at e; cases e)]; exact e
 have fr : ∀ b, b ≠ a -> H b = none -> upd H a (.ext φ) b = none := fun b n e => by rw [ak n]; exact e
 refine ⟨I.ok, I.os, I.bare, ⟨I.base.keep, I.base.slot, fun b o e n hx => fr b (fun z => by rw [z, hs] at e; cases e) (I.base.free b o e n hx), I.base.there, fun b xs e => kp _ _ (I.base.iK b xs e), fun b o u e => kp _ _ (I.base.ic b o u e), fun b ps e => ?_⟩, I.loc, I.cell, fr _ (Ne.symm hL) I.free, fun x c e => fr _ (hc x c e) (I.c9 x c e), fun p yf => ?_, fun b u e => ?_, I.len⟩
 . obtain ⟨m, z⟩ := I.base.i5 b ps e
   exact ⟨m, kp _ _ z⟩
 . obtain ⟨e1, e2, e3⟩ := I.pin p yf
   exact ⟨e1, fr _ (hp p yf) e2, e3⟩
 . by_cases z : b = a
   . subst z
     rw [av] at e
     cases e
     exact new
   . rw [ak z] at e
     exact (I.aK b u e).kg (fun _ _ _ q => q) (fun c q => kp _ _ q) fun c xs q => kp _ _ q
abbrev Cx.yD (X : Cx) (f : Value -> Shared -> Prop) (pn : List (Addr × Obj)) : Cx := { X with xe := f, pn := pn }
abbrev Cx.hand (X : Cx) (a : Addr) : Cx := { X with A := X.A.mark (some (.ref a)), calm := false, xe := fun _ _ => False }
theorem Inv.Gs {f : Value -> Shared -> Prop} (I : Inv X pins σ H s) : Inv (X.yD f (X.pn ++ pins)) [] σ H s :=
 ⟨⟨I.ok.mod, I.ok.kind, I.ok.glob, I.ok.blt, I.ok.above, I.ok.inj, I.ok.has, I.ok.yB, I.ok.hd, I.ok.frames, I.ok.AA, I.ok.AJ, I.ok.bs, I.ok.rC, I.ok.pL, I.ok.pV, I.ok.ie, I.ok.uF⟩, I.os, I.bare, I.base, I.loc, I.cell, I.free, I.c9, fun p hp => I.pin p (by simpa using hp), I.aK, I.len⟩
theorem Inv.ou {f : Value -> Shared -> Prop} {rm : List (Addr × Obj)} (I : Inv (X.yD f (X.pn ++ pins)) rm σ H s) : Inv X pins σ H s :=
 ⟨⟨I.ok.mod, I.ok.kind, I.ok.glob, I.ok.blt, I.ok.above, I.ok.inj, I.ok.has, I.ok.yB, I.ok.hd, I.ok.frames, I.ok.AA, I.ok.AJ, I.ok.bs, I.ok.rC, I.ok.pL, I.ok.pV, I.ok.ie, I.ok.uF⟩, I.os, I.bare, I.base, I.loc, I.cell, I.free, I.c9, fun p hp => I.pin p (List.mem_append_left _ hp), I.aK, I.len⟩
theorem Inv.rP {a : Addr} (I : Inv X pins σ H s) : Inv (X.hand a) pins σ H s :=
 ⟨⟨I.ok.mod, I.ok.kind, I.ok.glob, I.ok.blt, I.ok.above, I.ok.inj, I.ok.has, I.ok.yB, (fun z => nomatch z), I.ok.frames, I.ok.AA, I.ok.AJ, I.ok.bs, I.ok.rC, I.ok.pL, I.ok.pV, I.ok.ie, I.ok.uF⟩, I.os, I.bare, I.base, I.loc, I.cell, I.free, I.c9, I.pin, I.aK, I.len⟩
theorem Inv.mn {a : Addr} (I : Inv (X.hand a) pins σ H s) (ok : X.Ok) : Inv X pins σ H s :=
 ⟨ok, I.os, I.bare, I.base, I.loc, I.cell, I.free, I.c9, I.pin, I.aK, I.len⟩
end
section
variable {M : Model} {A : Around} {E : Value -> Shared -> Prop}
end
structure yb (K : PySem.W.Frag) (C : Addr) : Prop where
 ga : PySem.W.findIn K (.ref C) "__getattribute__" = some (some (.builtin "BaseException.__getattribute__"))
 gn : PySem.W.findIn K (.ref C) "__getattr__" = some none
 mb : PySem.W.mroIn K C (.type "BaseException") = some true
 hd : PySem.W.hasDictIn K C = true
 ty : EB K C
section
variable {X : Cx}
end
section
variable {P : Program} {w : World} {K : PySem.W.Frag} {mg : Str -> Option Value} {base : Heap}
structure Mx (P : Program) (w : World) (K : PySem.W.Frag) (mg : Str -> Option Value) (base : Heap) (k : Nat) (f : Addr) (ps : List Str) (bH : List V) (sp : Sp) : Prop where
 ex : ∃ (fd : FuncData) (ds : List Value), bw P w K mg base (Mq P w) k f fd ps sp /\ Binds K fd ps ds /\ Vals bH ds
end
section
variable {X : Cx} {k : Nat} {f : Addr} {ps : List Str} {sp : Sp} {bH : List V} {E : XK} {x : Str} {p pos : Pos} {e : Expr} {es : List Expr} {t : TA}
end
section
variable {σ : St} {H : Hp} {Q : VK} {D : Ends} {K : PySem.W.Frag} {E : XK} {C : Addr} {ta : TA}
end
section
variable {X : Cx}
end
theorem di {K : PySem.W.Frag} {C D : Addr} (h2 : PySem.W.mroIn K D (.type "object") = some true) (h3 : PySem.W.typeIn K (.ref D) = some (.type "type")) (h : PySem.W.mroIn K C (.ref D) = some false) (hb : (C == D) = false) : PySem.W.kitOne K (.ref C) (.ref D) = some false :=
 lN h2 h3 h fun e => by rw [e] at hb; simp at hb
theorem lB : bootBuiltins "ValueError" = some (.type "ValueError") := by decide +kernel
theorem sR {K : PySem.W.Frag} {C : Addr} (h : PySem.W.mroIn K C (.type "ValueError") = some true) : PySem.W.kitOne K (.ref C) (.type "ValueError") = some true := by
 unfold PySem.W.kitOne
 rw [if_neg (by simp)]
 show (if PySem.W.kitMeta "ValueError" = true then PySem.W.subIn K (.ref C) (.type "ValueError") else none) = some true
 rw [if_pos (by decide +kernel)]
 exact h
section
variable {σ : St} {H : Hp} {Q : VK} {D : Ends} {K : PySem.W.Frag}
end
section
variable {X : Cx} {k : Nat} {f C : Addr} {ps : List Str} {sp : Sp} {bH : List V} {E : XK} {x m : Str} {p pos apos : Pos} {e : Expr} {es : List Expr} {t : TA}
end
section
variable {prog : Program} {w : World} {A : Around} {E : Value -> Shared -> Prop} {s : Shared}
end
section
variable {σ : St} {H : Hp} {Q : VK} {D : Ends}
end
section
variable {X : Cx} {pins : List (Addr × Obj)} {σ : St} {H : Hp} {s : Shared} {h' : Heap}
end
section
variable {X : Cx}
end
section
variable {σ : St} {H : Hp} {Q : VK}
end
section
variable {σ : St} {H : Hp} {Q : VK} {K : PySem.W.Frag} {v : V}
end
end L2
namespace L2
open PySem
section
variable {H : Hp} {Q : VK} {K : PySem.W.Frag}
end
end L2
namespace L2
open PySem PySem.Spec PyProof.Rows PySem.W
section
variable {X : Cx}
end
section
variable {σ : St} {H : Hp} {Q : VK}
end
section
variable {X : Cx} {pins : List (Addr × Obj)} {σ : St} {H : Hp} {s : Shared}
end
section
variable {σ : St} {H : Hp} {Q : VK}
end
section
variable {σ : St} {H : Hp} {Q : VK} {K : PySem.W.Frag} {p : Addr} {m : List (Str × PyData)} {k : Str}
end
def tQ (h : Heap) (a T : Addr) (c : Value) (od : Option Addr) : Prop := ∃ oe vs oT ts, h.get? a = some oe /\ oe.cls = c /\ oe.dict = od /\ oe.data = .fields vs /\ vs[1]? = some (.ref T) /\ T ≠ a /\ h.get? T = some oT /\ oT.data = .fields ts /\ ts[3]? = some .none /\ vs[2]? = some .none
section
variable {M : Model} {A : Around} {E : Value -> Shared -> Prop} {s : Shared} {env : Env} {outer : List Env} {L a T : Addr} {c : Value} {od : Option Addr} {base : Heap} {Q : Unit -> Shared -> Prop}
theorem oM {oe : Obj} {vs : Array Value} {head : Value} {Mm : Bool} (kL : A.frames = some (env :: outer)) (hl : s.heap.FunFrames base (env :: outer)) (hf : env.frame = some L) (he : s.heap.get? a = some oe) (IP : oe.dict = od) (hd : oe.data = .fields vs) (hsz : 1 < vs.size) (Jh : vs[2]? = some .none)
 (h : ∀ h' T', tQ h' a T' oe.cls od -> s.heap.get? T' = none -> Lv (env :: outer) [a] s.heap h' -> Q () { s with heap := h' }) :
 wpAny M A (do let x <- frameOf env; let pl <- entryPlaceOf L Mm; let b <- EntryCells.newEntry head x .none (rawInt L) .none pl; setField (.ref a) 1 b) (fun _ s' => wpAny M A (setFlight (.ref a) none) Q E s') E s := by
 have nE : a ∉ mJ (env :: outer) := fun m => by
  obtain ⟨_, o, ho, hn⟩ := hl.mem m
  rw [he] at ho
  cases ho
  exact hn vs hd
 refine wpAny_bind (wpAny_frameOf_fun kL hl hf fun h1 s1 => ?_)
 refine wpAny_bind (wpAny_entryPlaceOf fun pl kr => ?_)
 unfold EntryCells.newEntry newFields
 refine wpAny_bind (wpAny_newObj_type ?_ (kr.sizeOk5 _ _ _ _ _))
 have e1 : h1.get? a = some oe := (s1.2.1 a nE).trans he
 let tb : Obj := { cls := .type "traceback", dict := none, data := .fields ([head, .ref L, .none, rawInt L, .none] ++ (if pl.isEmpty then List.replicate 6 Value.none else pl)).toArray }
 have e2 : (h1.push tb).get? a = some oe := Heap.get?_push_of_some _ e1
 refine wpAny_setField e2 hd hsz ?_
 have Ik : h1.objs.size ≠ a := Ne.symm (Nat.ne_of_lt (Heap.lt_size e1))
 have d3 := Obj.data_mapFields hd (·.setIfInBounds 1 (Value.ref h1.objs.size))
 have e3 := Heap.get?_update_self (Obj.mapFields (·.setIfInBounds 1 (Value.ref h1.objs.size))) e2 (Obj.isFreed_of_fields d3)
 have t3 : ((h1.push tb).update a (Obj.mapFields (·.setIfInBounds 1 (Value.ref h1.objs.size)))).get? h1.objs.size = some tb := (Heap.get?_update_other _ _ (Ne.symm Ik)).trans (Heap.get?_push_size h1 rfl)
 unfold setFlight
 refine wpAny_bind (wpAny_field e3 d3 (x := .ref h1.objs.size) (by simp [hsz]) ?_)
 rw [if_pos (show (Value.ref h1.objs.size != Value.none) = true from by simp)]
 refine wpAny_setField t3 rfl (by simp only [List.size_toArray, List.length_append, List.length_cons, List.length_nil] <;> omega) (h _ h1.objs.size ?_ ?_ ?_)
 . refine ⟨_, _, _, _, (Heap.get?_update_other _ _ Ik).trans e3, Obj.cls_mapFields _ _, ?_, d3, by simp [hsz], Ik, Heap.get?_update_self _ t3 (Obj.isFreed_of_fields (Obj.data_mapFields rfl _)), Obj.data_mapFields rfl _, by first | (simp; done) | (rcases kr with rfl | ⟨_, _, _, _, _, _, _, rfl⟩ <;> simp), by rw [Array.getElem?_setIfInBounds_ne (by decide)]; exact Jh⟩
   obtain ⟨c0, d0, Hq, Mr⟩ := oe
   cases Hq <;> first | exact IP | (cases hd)
 . cases q : s.heap.get? h1.objs.size with
   | none => rfl
   | some o =>
     obtain ⟨sl, z⟩ := s1.2.2 _ o q
     exact absurd (Heap.lt_size z) (Nat.lt_irrefl _)
 . have kp : ∀ b o, b ≠ a -> h1.get? b = some o -> (((h1.push tb).update a (Obj.mapFields (·.setIfInBounds 1 (Value.ref h1.objs.size)))).update h1.objs.size (Obj.mapFields (·.setIfInBounds 3 ((none : Option Addr).elim Value.none fun f => rawInt f)))).get? b = some o := fun b o hb q => by
    rw [Heap.get?_update_other _ _ (Ne.symm (Nat.ne_of_lt (Heap.lt_size q))), Heap.get?_update_other _ _ (Ne.symm hb)]
    exact Heap.get?_push_of_some _ q
   refine ⟨fun b o n1 n2 q => kp b o (by simpa using n2) ((s1.2.1 b n1).trans q), fun b o m q => ?_⟩
   obtain ⟨sl, z⟩ := s1.2.2 b o q
   exact ⟨sl, kp b _ (fun z => nE (z ▸ m)) z⟩
theorem qy {oe : Obj} {vs : Array Value} (kL : A.frames = some (env :: outer)) (hl : s.heap.FunFrames base (env :: outer)) (hf : env.frame = some L) (he : s.heap.get? a = some oe) (IP : oe.dict = od) (hd : oe.data = .fields vs) (h1 : vs[1]? = some .none) (Jh : vs[2]? = some .none)
 (h : ∀ h' T', tQ h' a T' oe.cls od -> s.heap.get? T' = none -> Lv (env :: outer) [a] s.heap h' -> Q () { s with heap := h' }) : wpAny M A (noteFrame (.ref a) env) (fun _ s' => wpAny M A (setFlight (.ref a) none) Q E s') E s := by
 unfold noteFrame
 simp only [hf]
 refine wpAny_bind (wpAny_field he hd h1 ?_)
 rw [if_neg (by decide)]
 exact oM kL hl hf he IP hd (Array.getElem?_eq_some_iff.mp h1).1 Jh h
theorem mr (kL : A.frames = some (env :: outer)) (hl : s.heap.FunFrames base (env :: outer)) (hf : env.frame = some L) (ht : tQ s.heap a T c od)
 (h : ∀ h' T', tQ h' a T' c od -> (T' = T \/ s.heap.get? T' = none) -> Lv (env :: outer) [a, T] s.heap h' -> Q () { s with heap := h' }) : wpAny M A (noteFrame (.ref a) env) (fun _ s' => wpAny M A (setFlight (.ref a) none) Q E s') E s := by
 obtain ⟨oe, vs, oT, ts, e1, rfl, e3, e4, e5, e6, e7, e8, e9, IM⟩ := ht
 unfold noteFrame
 simp only [hf]
 refine wpAny_bind (wpAny_field e1 e4 e5 ?_)
 rw [if_pos (show (Value.ref T != Value.none) = true from by simp)]
 refine wpAny_bind (wpAny_field e7 e8 e9 ?_)
 rw [if_neg (show ¬ ((Value.none == rawInt L) = true) from by simp [rawInt])]
 refine wpAny_bind (wpAny_setField e7 e8 (Array.getElem?_eq_some_iff.mp e9).1 ?_)
 have EZ : ∀ b, b ≠ T -> (s.heap.update T (Obj.mapFields (·.setIfInBounds 3 Value.none))).get? b = s.heap.get? b := fun b hb => Heap.get?_update_other _ _ (Ne.symm hb)
 have nT : ∀ b o, s.heap.get? b = some o -> (∀ vs, o.data ≠ .fields vs) -> b ≠ T := fun b o hb hn z => by
  rw [z, e7] at hb
  cases hb
  exact hn ts e8
 refine oM (s := { s with heap := s.heap.update T (Obj.mapFields (·.setIfInBounds 3 Value.none)) }) kL (hl.of_keeps fun b o hb hn => ⟨o, (EZ b (nT b o hb hn)).trans hb, rfl⟩) hf ((EZ a (Ne.symm e6)).trans e1) e3 e4 (Array.getElem?_eq_some_iff.mp e5).1 IM fun h' T' t1 t2 lv => h h' T' t1 ?_ ⟨fun b o n1 n2 q => ?_, fun b o m q => ?_⟩
 . by_cases z : T' = T
   . exact .inl z
   . exact .inr ((EZ T' z).symm.trans t2)
 . have : b ≠ a /\ b ≠ T := by simpa using n2
   exact lv.keep b o n1 (by simpa using this.1) ((EZ b this.2).trans q)
 . obtain ⟨_, o', q', hn⟩ := hl.mem m
   rw [q] at q'
   cases q'
   exact lv.slot b o m ((EZ b (nT b o q hn)).trans q)
theorem i9 (ht : tQ s.heap a T c od) (h : ∀ h', tQ h' a T c od -> (∀ b o, b ≠ T -> s.heap.get? b = some o -> h'.get? b = some o) -> Q () { s with heap := h' }) : wpAny M A (setFlight (.ref a) none) Q E s := by
 obtain ⟨oe, vs, oT, ts, e1, rfl, e3, e4, e5, e6, e7, e8, e9, IM⟩ := ht
 have hz := (Array.getElem?_eq_some_iff.mp e9).1
 refine wpAny_setFlight_none e1 e4 e5 e7 e8 hz (h _ ⟨oe, vs, _, _, (Heap.get?_update_other _ _ e6).trans e1, rfl, e3, e4, e5, e6, Heap.get?_update_self _ e7 (Obj.isFreed_of_fields (Obj.data_mapFields e8 _)), Obj.data_mapFields e8 _, by simp [hz], IM⟩ fun b o hb q => (Heap.get?_update_other _ _ (Ne.symm hb)).trans q)
end
def nG (P : Program) (w : World) : p0 := fun outer H s E e s' => ∃ a T C od H', e = .ref a /\ s'.os = s.os /\ AllBare s'.gens /\ Un (mJ outer) [] H H' s.heap s'.heap /\ iU P w H' s'.heap /\ tQ s'.heap a T (.ref C) od /\ s.heap.get? a = none /\ s.heap.get? T = none /\ H' a = none /\ H' T = none /\ E (.ref C) od H'
section
variable {P : Program} {w : World} {K : PySem.W.Frag} {mg : Str -> Option Value} {base : Heap} {N : List Str} {qual : Str} {scope : Scope} {f : Addr} {cd : Value} {A : Around} {outer : List Env} {s0 : Shared} {H0 : Hp} {E : XK} {CX : p0} {pins : List (Addr × Obj)} {σ : St} {H : Hp} {s : Shared}
theorem qZ {a T C : Addr} {od : Option Addr} {S : List Addr} {h' : Heap} (I : Inv (jT CX P w K mg base N qual scope f cd A outer s0 H0 E) pins σ H s) (lv : Lv (jT CX P w K mg base N qual scope f cd A outer s0 H0 E).stack S s.heap h') (hS : ∀ b ∈ S, H b = none /\ s0.heap.get? b = none)
 (tr : tQ h' a T (.ref C) od) (ha : H a = none) (hT : H T = none) (na : s0.heap.get? a = none) (nT : s0.heap.get? T = none) (hE : E (.ref C) od H) : nG P w outer H0 s0 E (.ref a) { s with heap := h' } := by
 have eL : mJ (jT CX P w K mg base N qual scope f cd A outer s0 H0 E).stack = s0.heap.objs.size :: mJ outer := rfl
 have old : ∀ b o, s0.heap.get? b = some o -> b ∉ S /\ b ≠ s0.heap.objs.size := fun b o e => ⟨fun z => (by rw [(hS b z).2] at e; cases e), Nat.ne_of_lt (Heap.lt_size e)⟩
 refine ⟨a, T, C, od, H, rfl, I.os, I.bare, ⟨fun b o e n hb hx => ?_, fun b o e n hb hx => ?_, fun b o e n hx => I.base.free b o e n hx, fun b o e hx => ?_, I.base.iK, I.base.ic, I.base.i5⟩, fun b u e => ?_, tr, na, nT, ha, hT, hE⟩
 . have z := I.base.keep b o e n hb hx
   exact lv.keep b o (by rw [eL]; simp [(old b o e).2, hb]) (old b o e).1 z
 . obtain ⟨sl, z⟩ := I.base.slot b o e n hb hx
   obtain ⟨Fy, z2⟩ := lv.slot b _ (by rw [eL]; exact List.mem_cons_of_mem _ hb) z
   exact ⟨Fy, z2⟩
 . obtain ⟨o2, z⟩ := I.base.there b o e hx
   by_cases m : b ∈ mJ (jT CX P w K mg base N qual scope f cd A outer s0 H0 E).stack
   . obtain ⟨Fy, z2⟩ := lv.slot b _ m z
     exact ⟨_, z2⟩
   . exact ⟨_, lv.keep b o2 m (old b o e).1 z⟩
 . refine (I.aK b u e).kg (fun c v hc q => ?_) (fun _ q => q) fun _ _ q => q
   have lb : H c ≠ none := by
    rcases hc with rfl | hc
    . rw [e]; intro z; cases z
    . rw [hc]; intro z; cases z
   exact lv.keep c v (fun m => lb (I.lO c m)) (fun m => lb (hS c m).1) q
def j6 (CX : p0) (X : Cx) (E : St -> XK) : Prop := ∀ (pins : List (Addr × Obj)) (σ : St) (H : Hp) (s : Shared) (e : Value) (s' : Shared), Inv X pins σ H s -> CX X.stack H s (E σ) e s' -> X.xe e s'
theorem eU : j6 (nG P w) (jT (nG P w) P w K mg base N qual scope f cd A outer s0 H0 E) (fun _ => E) := by
 intro pins σ H s e s' I ⟨a, T, C, od, H', he, os, bare, un, aK, tr, na, nT, ha, hT, hE⟩
 subst he
 have I' := I.xE (ch := []) os un aK bare (fun b z => nomatch z)
 have dead : ∀ b, s.heap.get? b = none -> s0.heap.get? b = none := fun b z => by
  cases q : s0.heap.get? b with
  | none => rfl
  | some o =>
    obtain ⟨o2, z2⟩ := I.base.there b o q (by intro y; cases y)
    rw [z] at z2
    cases z2
 show wpAny _ _ (leaving _ (.ref a)) _ _ s'
 refine wpAny_bind (mr (base := base) I'.ok.frames I'.stack rfl tr fun h2 T2 GF CQ lv => ?_)
 have d' : s'.heap.get? T2 = none -> s0.heap.get? T2 = none := fun z => by
  cases q : s0.heap.get? T2 with
  | none => rfl
  | some o =>
    obtain ⟨o2, z2⟩ := I'.base.there T2 o q (by intro y; cases y)
    rw [z] at z2
    cases z2
 refine qZ I' lv (fun b hb => ?_) GF ha ?_ (dead a na) ?_ hE
 . have : b = a \/ b = T := by simpa using hb
   rcases this with rfl | rfl
   . exact ⟨ha, dead _ na⟩
   . exact ⟨hT, dead _ nT⟩
 . rcases CQ with rfl | z
   . exact hT
   . exact I'.aK.dead z
 . rcases CQ with rfl | z
   . exact dead _ nT
   . exact d' z
def qt (X : Cx) (E : St -> XK) : Prop := ∀ (pins : List (Addr × Obj)) (σ : St) (H : Hp) (s : Shared) (a C : Addr) (od : Option Addr) (oe : Obj) (vs : Array Value), Inv X pins σ H s -> s.heap.get? a = some oe -> oe.cls = .ref C -> oe.dict = od -> oe.data = .fields vs -> vs[1]? = some .none -> vs[2]? = some .none ->
 H a = none -> X.cA.heap.get? a = none -> E σ (.ref C) od H -> X.xe (.ref a) s
theorem sN : qt (jT (nG P w) P w K mg base N qual scope f cd A outer s0 H0 E) (fun _ => E) := by
 intro pins σ H s a C od oe vs I e1 e2 e3 e4 v1 v2 ha na hE
 show wpAny _ _ (leaving _ (.ref a)) _ _ s
 refine wpAny_bind (qy (base := base) I.ok.frames I.stack rfl e1 e3 e4 v1 v2 fun h2 T2 GF CQ lv => ?_)
 rw [e2] at GF
 refine qZ I lv (fun b hb => ?_) GF ha (I.aK.dead CQ) na ?_ hE
 . have : b = a := by simpa using hb
   subst this
   exact ⟨ha, na⟩
 . cases q : s0.heap.get? T2 with
   | none => rfl
   | some o =>
     obtain ⟨o2, z2⟩ := I.base.there T2 o q (by intro y; cases y)
     rw [CQ] at z2
     cases z2
end
structure iZ (P : Program) (w : World) (K : PySem.W.Frag) (mg : Str -> Option Value) (base : Heap) (k : Nat) (f : Addr) (ps : List Str) (bH : List V) (sp : Sp) : Prop where
 ex : ∃ (fd : FuncData) (ds : List Value), bw P w K mg base (nG P w) k f fd ps sp /\ Binds K fd ps ds /\ Vals bH ds
theorem fi.out {sp : Sp} {vs : List V} {H : Hp} {Q : VK} {E : XK} (h : fi sp vs H Q E) : sp vs H Q E := let ⟨_, e, h⟩ := h; e ▸ h
def x3 (sp : Sp) (bH : List V) (E : St -> XK) (t : TA) : TE := fun σ H Q => t σ H fun vs H1 => fi sp (vs ++ bH) H1 Q (E σ)
def vV (C : Addr) (m : Str) (sp : Sp) (bH : List V) (E : St -> XK) (ta : TE) (t : TA) : TE := fun σ H Q => ta σ H fun x H1 => ∃ a dx fs, x = .ref a /\ H1 a = some (.ins C dx fs) /\ fs.lookup m = none /\
 t σ H1 fun vs H2 => fi sp (x :: (vs ++ bH)) H2 Q (E σ)
section
variable {X : Cx} {CX : p0} {k : Nat} {f C : Addr} {fd : FuncData} {ps : List Str} {sp : Sp} {bH : List V} {ds : List Value} {E : St -> XK} {x m : Str} {p pos apos : Pos} {e o : Expr} {es : List Expr} {ta : TE} {t : TA}
theorem tL {pins : List (Addr × Obj)} {σ : St} {H : Hp} {s : Shared} {Q : VK} {us : List Value} {vs : List V} (F : bw X.prog X.w X.K X.mg X.base CX k f fd ps sp) (hr : a8 k X.A) (hb : Binds X.K fd ps ds) (hd : Vals bH ds) (hx : j6 CX X E)
 (I : Inv X pins σ H s) (r : Vals vs us) (h : sp (vs ++ bH) H Q (E σ)) : wpAny (model X.prog X.w) X.A (call (.ref f) us) (EP X pins σ Q) X.xe s := by
 have r2 : Vals (vs ++ bH) (us ++ ds) := r.append hd
 have hl : (us ++ ds).length = ps.length := by rw [<- r2.length]; exact F.len _ _ _ _ h
 refine wpAny_call (codeAny_mono (F.run X.A X.stack s H ⟨us, []⟩ (us ++ ds) (vs ++ bH) Q (E σ) hr I.ve (hb s us I.iY hl) r2 h) fun r s' hq => ?_)
 cases r with
 | error e => exact hx pins σ H s e s' I hq
 | ok fl =>
   cases fl with
   | ret u => exact I.after hq
   | next => exact False.elim hq
   | brk => exact False.elim hq
   | cont => exact False.elim hq
theorem yk (c : iZ X.prog X.w X.K X.mg X.base k f ps bH sp) (hr : a8 k X.A) (hg : Gl X x) (hm : X.mg x = some (.ref f)) (hk : PySem.W.keepIn X.K (.ref f) = true) (hx : j6 (nG X.prog X.w) X E)
 (ha : PA X (e :: es) t) (nX : (x == ("__debug__" : Str)) = false := by decide) (he : starEach (e :: es) X.env = (false, eval e X.env) :: starEach es X.env := by rfl) (kr : (backTo pos (starEach es X.env)).any (·.1) = false := by rfl) :
 PE X (.Call (.Name x p) (e :: es) [] pos) (x3 sp bH E t) := by
 obtain ⟨fd, ds, F, hb, hd⟩ := c.ex
 intro pins s σ H Q I h
 refine wpAny_Call_Name_kw (gM I hg hm ?_ nX)
 refine PySem.W.callWith_K (h₀ := X.base) I.ok.mod.DS hk (cg (ha pos pins s σ H _ I h) fun us s1 ⟨vs, H1, I1, r, q⟩ => ⟨I1.iY, ?_⟩) he kr
 exact tL F hr hb hd hx I1 r (fi.out q)
theorem bO {pl : Sem Bool} (he : PE X o ta) (c : nF X.K C) (hm : Meth X.K C m f) (F : iZ X.prog X.w X.K X.mg X.base k f ps bH sp) (hr : a8 k X.A) (hx : j6 (nG X.prog X.w) X E) (ha : PA X (e :: es) t)
 (kW : starEach (e :: es) X.env = (false, eval e X.env) :: starEach es X.env := by rfl) (kr : (backTo pos (starEach es X.env)).any (·.1) = false := by rfl)
 (ht : eval (.Call (.Attribute o m apos) (e :: es) [] pos) X.env = (do
  let ov <- eval o X.env
  standAt apos.atName
  let (f, first) <- holding [ov] (getMethod ov m pl)
  callWith pos f first (backTo pos (starEach (e :: es) X.env)) (backToKw pos (keywordEach [] X.env))) := by rfl) :
 PE X (.Call (.Attribute o m apos) (e :: es) [] pos) (vV C m sp bH E ta t) := by
 obtain ⟨fd, ds, F, hb, hd⟩ := F.ex
 intro pins s σ H Q I h
 refine PySem.W.methodCall_KW (pl := pl) (cg (he pins s σ H _ I h) fun u s1 ⟨x, H1, I1, rx, a, dx, fs, ex, ea, l, q⟩ => ?_) ht
 subst ex
 obtain rfl : u = Value.ref a := rx
 refine jr I1 ea c hm l ?_
 refine PySem.W.callWith_K (first := [.ref a]) (h₀ := X.base) I.ok.mod.DS hm.kp (cg (ha pos pins s1 σ H1 _ I1 q) fun us s2 ⟨vs, H2, I2, r, q2⟩ => ⟨I2.iY, ?_⟩) kW kr
 exact tL (us := .ref a :: us) (vs := .ref a :: vs) F hr hb hd hx I2 (.cons rfl r) (fi.out q2)
end
section
variable {P : Program} {w : World} {K : PySem.W.Frag} {mg : Str -> Option Value} {base : Heap}
theorem cO.wD {x qual : Str} {st : Stmt} {f : Addr} {dV : Value} {fd : FuncData} {N ps : List Str} {k : Nat} {sp : Sp} (F : cO K x qual st f dV fd) (S : aH N ps (ax st)) (len : ∀ vs H Q E, sp vs H Q E -> vs.length = ps.length)
 (jd : ∀ (eh : Value) (A : Around) (outer : List Env) (s : Shared) (H : Hp) (vs : List V) (Q : VK) (E : XK), a8 k (A.deeper (envOfC qual (ax st) s.heap.objs.size f eh)) -> sp vs H Q E ->
  ∃ t, om (jT (nG P w) P w K mg base N qual (ax st) f eh A outer s H E) (fR st) t /\ t { nx := fun _ H' => Q .aY H', rt := Q } (start N vs) H) : bw P w K mg base (nG P w) (k + 1) f fd ps sp := by
 obtain ⟨oc, od, kV, doc, pm, an, eh, ct, sV, rfl, lk, mq⟩ := F.ex
 exact wK lk mq S len fun A outer s H vs Q E hr uo => jd eh A outer s H vs Q E hr uo
end
theorem Ao {prog : Program} {w : World} {A : Around} {E : Value -> Shared -> Prop} {s : Shared} {K : PySem.W.Frag} {x D : Addr} {ox od : Obj} {name : Str} {v : Value} {expr : Bool} {Q : Value -> Shared -> Prop} (t : yb K D) (X : K.In s.heap) (I : InstAt s.heap x ox D (some od)) (ha : PySem.W.findIn K (.ref D) name = some none)
 (hl : PySem.W.lookIn name od = some (some v)) (hh : PySem.W.handedIn v = true) (h : Q v { s with toks := s.toks + 1 }) : wpAny (model prog w) A (getAttr (.ref x) name expr) Q E s := by
 have hf : findObj K D (some od) name = some (.value v) := PySem.W.findObj_own t.hd ha rfl hl
 obtain ⟨hp, g, d, tk, os⟩ := s
 have L0 := I.type (M := model prog w)
 have L1 := looks_findIn (M := model prog w) X t.ga
 have L2 := looks_findIn (M := model prog w) X t.gn
 have L3 := looks_find (M := model prog w) X I hf
 have L4 := looks_mroIn (M := model prog w) X t.mb
 have hk : builtinKind "BaseException.__getattribute__" = some .slot := by decide +kernel
 have hsplit : splitId "BaseException.__getattribute__" = some ("BaseException", "__getattribute__") := by decide +kernel
 unfold getAttr getAttrBy
 refine wpAny_bind (wpAny_mkText (wpAny_holding (wpAny_bind (L0.at (wpAny_bind (L1.at ?_))))))
 dsimp only
 rw [if_neg (show ¬ ((onTheHeap (Value.ref D) && Value.builtin "BaseException.__getattribute__" == Value.builtin "object.__getattribute__") = true) by rw [show (Value.builtin "BaseException.__getattribute__" == Value.builtin "object.__getattribute__") = false from by decide +kernel, Bool.and_false]; decide)]
 unfold getAttrByItsOwn
 refine wpAny_bind (show wpAny _ _ (typeLookup (.ref D) "__getattr__") _ _ _ from L2.at ?_)
 refine wpAny_bind (wpAny_attempt (wpAny_holding ?_))
 unfold callGetattribute
 rw [show (expr && onTheHeap (Value.builtin "BaseException.__getattribute__")) = false from by cases expr <;> rfl, if_neg (by decide)]
 unfold boundAndCalled
 rw [PySem.F.attr_ValueError.ga.bind]
 refine wpAny_bind (wpAny_pure ?_)
 refine wpAny_call (codeAny_call_builtin PySem.F.attr_ValueError.ga.plain PySem.F.entry_bexc_ga ?_)
 simp only [checkBuiltinCall, hk, hsplit]
 have ha := PySem.F.args_bexc_ga (.ref x) (.str name tk)
 dsimp only at L0 L1 L2 L3 L4 X I h
 refine wpAny_bind ?_
 unfold isInstance
 refine wpAny_bind (L0.at (L4.at ?_))
 rw [if_neg (by decide)]
 repeat (any_goals (first | assumption | with_reducible refine L0.at ?_ | with_reducible refine L3.at ?_ | wp_step))
 show wpAny _ _ (handedOut v) _ _ _
 rw [handedOut_of hh]; exact wpAny_pure h
def kh : List Value -> Bool
 | .ref _ :: r => kh r
 | l => l == vD
theorem wg {l : List Value} (e : kh l = true) (self : Value) : refuseLoop self "__setattr__" l = pure () := by
 induction l with
 | nil => cases e
 | cons v r ih =>
   cases v with
   | ref c => rw [refuseLoop_ref]; exact ih e
   | _ => have e' := beq_iff_eq.mp (show ((_ :: r) == vD) = true from e); rw [e']; exact PySem.F.store_ValueError.passes self
theorem wX {l : List Value} (e : kh l = true) : l.contains (.type "object") = true /\ l.isEmpty = false := by
 refine ⟨?_, by cases l <;> first | rfl | cases e⟩
 induction l with
 | nil => cases e
 | cons v r ih =>
   cases v with
   | ref c => rw [List.contains_cons, ih e, Bool.or_true]
   | _ => have e' := beq_iff_eq.mp (show ((_ :: r) == vD) = true from e); rw [e']; decide
section
variable {prog : Program} {w : World} {A : Around} {E : Value -> Shared -> Prop} {s : Shared} {K : PySem.W.Frag} {x C : Addr} {ox : Obj} {name : Str} {v : Value} {cd : ClassData}
open Builtin.ObjectAttr in
theorem zp {od : Option Obj} {tk : Tok} {R : Result -> Shared -> Prop} (X : K.In s.heap) (I : InstAt s.heap x ox C od) (hc : clsIn K C = some cd) (ho : kh cd.mro = true) (ht : takerIn K C name = some none)
 (h : ∀ b, wpAny (model prog w) A.in1 (storeInOwnDict (.ref x) (.ref C) (.str name tk) name v b)
  (fun fin s' => match fin with | .done f => R (.ok f) s' | .again c' => c'.quiet = true /\ codeAny (model prog w) A c' R s') (fun e s' => R (.error e) s') s) :
 codeAny (model prog w) A (.call (.builtin "object.__setattr__") ⟨[.ref x, .str name tk, v], []⟩) R s := by
 have SF := PySem.F.store_object
 obtain ⟨Ea, ne⟩ := wX ho
 have sub : Looks (model prog w) s.heap (isInstance (.ref x) (.type "object")) true := I.type.andThen (looks_mroIn X (by unfold mroIn; rw [hc, Option.bind_some, if_neg (by rw [ne]; decide), Ea]))
 refine codeAny_call_builtin SF.slot.plain SF.entry (@check_slot (model prog w) _ _ s "object.__setattr__" "object" "__setattr__" (.ref x) [.str name tk, v] [] _ SF.kind SF.split sub (SF.args (.ref x) (.str name tk) v) ?_)
 obtain ⟨attr, ha, hr⟩ := Option.bind_eq_some_iff.mp ht
 have hm : Looks (model prog w) s.heap (mroOf (.ref C)) cd.mro := (looks_clsIn X hc).andThen .now
 have L3 : Looks (model prog w) s.heap (storeTaker? attr) none := by
  cases attr with
  | none => cases hr; exact .now
  | some a =>
    obtain ⟨b, hb, he⟩ := Option.map_eq_some_iff.mp hr
    refine (looks_takesIn X hb).andThen ?_
    cases b
    . exact .now
    . cases he
 rw [osa_eq, refuse_eq]
 refine wpAny_bind (wpAny_bind (I.type.here (wpAny_bind (hm.here ?_))))
 rw [wg ho]
 refine wpAny_pure (wpAny_bind (I.type.here (wpAny_bind ((looks_findIn X ha).here (wpAny_bind (L3.here ?_))))))
 exact h _
open Builtin.ObjectAttr in
theorem Ah {vs : Array Value} {Q : Unit -> Shared -> Prop} (X : K.In s.heap) (hx : s.heap.get? x = some ox) (gW : ox.cls = .ref C) (hd : ox.dict = none) (hf : ox.data = .fields vs)
 (hs : PySem.W.findIn K (.ref C) "__setattr__" = some (some (.builtin "object.__setattr__"))) (hc : clsIn K C = some cd) (ho : kh cd.mro = true) (hh : cd.hasDict = true) (ht : takerIn K C name = some none)
 (h : ∀ h' d t', s.heap.get? d = none -> d ≠ x -> h'.get? x = some { ox with dict := some d } -> h'.Ns1 d (fun y => if y = name then some v else none) -> (∀ b o, b ≠ x -> s.heap.get? b = some o -> h'.get? b = some o) -> Q () { s with heap := h', toks := t' }) :
 wpAny (model prog w) A (setAttr (.ref x) name v) Q E s := by
 have J : InstAt s.heap x ox C none := ⟨hx, gW, by unfold notCls; rw [hf], by rw [hd]; trivial⟩
 refine PySem.W.set_plain X J hs (zp (s := { s with toks := s.toks + 1 }) X J hc ho ht fun b => ?_)
 unfold storeInOwnDict
 refine wpAny_bind (wpAny_pure ?_)
 rw [if_neg (by intro q; cases beq_iff_eq.mp q)]
 refine wpAny_bind ?_
 refine wpAny_bind (wpAny_loadPart hx ?_)
 rw [gW]
 dsimp only
 refine wpAny_bind (PySem.W.Looks.here (s := { s with toks := s.toks + 1 }) (PySem.W.looks_clsIn X hc) ?_)
 rw [hh]
 simp only [Bool.not_true, Bool.false_eq_true, if_false]
 rw [hd]
 dsimp only
 rw [if_neg (by simp [typeHasDict]), hf]
 dsimp only
 have JT : (s.heap.push { cls := .type "dict", data := .dict #[] }).get? x = some ox := Heap.get?_push_of_some _ hx
 have Ic : x ≠ s.heap.objs.size := Nat.ne_of_lt (Heap.lt_size hx)
 refine wpAny_bind (wpAny_alloc' ?_)
 refine wpAny_bind (wpAny_update' JT ?_)
 refine wpAny_pure ?_
 have Mp : ((s.heap.push { cls := .type "dict", data := .dict #[] }).update x fun o => { cls := o.cls, dict := some s.heap.objs.size, data := o.data, slots := o.slots }).get? s.heap.objs.size = some { cls := .type "dict", data := .dict #[] } :=
  (Heap.get?_update_ne _ _ _ _ Ic.symm).trans (Heap.get?_push_at rfl rfl)
 have GI : ((s.heap.push { cls := .type "dict", data := .dict #[] }).update x fun o => { cls := o.cls, dict := some s.heap.objs.size, data := o.data, slots := o.slots }).Ns s.heap.objs.size (fun _ => none) :=
  ⟨_, #[], _, Mp, rfl, fun e he => absurd he (by simp), fun _ => rfl⟩
 show wpAny _ _ (storeInDict s.heap.objs.size (.str name _) name v) _ _ _
 unfold storeInDict newKeyGuard
 refine wpAny_bind (wpAny_pure (wpAny_bind (wpAny_nsSet1 (Heap.Ns1.of_empty GI) fun h' Ei rB => ?_)))
 obtain ⟨oD, L8, Ln, IH, Jp, xA⟩ := Ei.count (Within.cons name v Within.nil)
 refine wpAny_bind (wpAny_lookBehind IH (by rw [Jp]; exact pastItsLine_dict (Nat.le_trans xA (by rw [List.length_cons, List.length_nil, sizeLine_eq]; omega))) ?_)
 refine wpAny_pure ?_
 refine h h' s.heap.objs.size _ (Heap.get?_none_of_le (Nat.le_refl _)) Ic.symm ?_ Ei fun b ob MY hb => ?_
 . refine (rB.2 x Ic).trans ?_
   rw [Heap.get?_update_self _ JT]
   have kL := (Heap.get?_some_iff.mp hx).2
   obtain ⟨oc, od, Ms, sV⟩ := ox
   cases Ms <;> first | rfl | exact kL
 . exact (rB.2 b (Nat.ne_of_lt (Heap.lt_size hb))).trans ((Heap.get?_update_ne _ _ _ _ MY).trans (Heap.get?_push_of_some _ hb))
end
def kn (a C : Addr) (od : Option Addr) : Heap -> Prop := fun h => ∃ o vs v0, h.get? a = some o /\ o.cls = .ref C /\ o.dict = od /\ o.data = .fields vs /\ vs[0]? = some v0 /\ vs[1]? = some .none /\ vs[2]? = some .none
def jK (a C : Addr) (od : Option Addr) : Heap -> Prop := fun h => ∃ o vs, h.get? a = some o /\ o.cls = .ref C /\ o.dict = od /\ o.data = .fields vs /\ vs[2]? = some .none
theorem kn.ext {h : Heap} {a C : Addr} {od : Option Addr} (m : kn a C od h) : kn a C od h /\ (∃ o, h.get? a = some o) /\ ∀ h1 h2 : Heap, kn a C od h1 -> (∀ o, h1.get? a = some o -> h2.get? a = some o) -> kn a C od h2 :=
 ⟨m, let ⟨o, _, _, e, _⟩ := m; ⟨o, e⟩, fun _ _ ⟨o, vs, v0, e, r⟩ k => ⟨o, vs, v0, k o e, r⟩⟩
theorem jK.ext {h : Heap} {a C : Addr} {od : Option Addr} (m : jK a C od h) : jK a C od h /\ (∃ o, h.get? a = some o) /\ ∀ h1 h2 : Heap, jK a C od h1 -> (∀ o, h1.get? a = some o -> h2.get? a = some o) -> jK a C od h2 :=
 ⟨m, let ⟨o, _, e, _⟩ := m; ⟨o, e⟩, fun _ _ ⟨o, vs, e, r⟩ k => ⟨o, vs, k o e, r⟩⟩
structure sI (K : PySem.W.Frag) (C W fI : Addr) : Prop where
 cls : ∃ (nm q : Str) (N : Addr) (bs : List Value) (sn : List Str) (sub : List Value) (ab : Bool) (col : Option Bool) (dd : Option Addr) (k0 k1 k2 k3 k5 : Option Value), K.lookup C = some (excClassObj nm q C N bs (.ref W :: vD) true sn sub ab col dd k0 k1 k2 k3 k5 "ValueError.__new__")
 up : vY K W
 init : PySem.W.findIn K (.ref C) "__init__" = some (some (.ref fI))
 fn : PySem.W.isFn K (.ref fI) = true
 te : yb K C
 sa : PySem.W.findIn K (.ref C) "__setattr__" = some (some (.builtin "object.__setattr__"))
 tk : PySem.W.takerIn K C "name" = some none
 nm : PySem.W.findIn K (.ref C) "name" = some none
def nO (K : PySem.W.Frag) (C : Addr) : Prop := ∀ h : Heap, K.In h -> ∃ (bm : List Value) (N : Addr) (nm q : Str) (bs : List Value) (hd : Bool) (sn : List Str) (sub : List Value) (ab : Bool) (col : Option Bool) (dd : Option Addr) (k0 k1 k2 k3 k5 : Option Value),
 h.get? C = some (excClassObj nm q C N bs bm hd sn sub ab col dd k0 k1 k2 k3 k5 "ValueError.__new__") /\ OwnTail h vD bm
theorem vY.o {K : PySem.W.Frag} {C : Addr} (h : vY K C) : nO K C := fun hp X => by
 obtain ⟨bm, N, nm, q, bs, hd, sn, sub, ab, col, dd, k0, k1, k2, k3, k5, mN, hC, _, _, T⟩ := xG X h
 exact ⟨bm, N, nm, q, bs, hd, sn, sub, ab, col, dd, k0, k1, k2, k3, k5, hC, T⟩
theorem sI.tail {K : PySem.W.Frag} {C W fI : Addr} (e : sI K C W fI) {h : Heap} (X : K.In h) : OwnTail h vD (.ref W :: vD) := by
 obtain ⟨bm, N, nm, q, bs, hd, sn, sub, ab, col, dd, k0, k1, k2, k3, k5, mN, hC, hN, GP, T⟩ := xG X e.up
 exact .own hC hN GP .base
theorem sI.o {K : PySem.W.Frag} {C W fI : Addr} (e : sI K C W fI) : nO K C := fun hp X => by
 obtain ⟨nm, q, N, bs, sn, sub, ab, col, dd, k0, k1, k2, k3, k5, hl⟩ := e.cls
 exact ⟨_, N, nm, q, bs, true, sn, sub, ab, col, dd, k0, k1, k2, k3, k5, X _ _ hl, e.tail X⟩
section
variable {prog : Program} {w : World} {A : Around} {E : Value -> Shared -> Prop} {h : Heap} {g : Array GenState} {d : Drawn} {t : Nat} {os : OsState}
variable {nm q : Str} {C N : Addr} {bs bm yd : List Value} {hdct : Bool} {sn : List Str} {sub : List Value} {ab : Bool} {col : Option Bool} {dd : Option Addr} {k0 k1 k2 k3 k5 : Option Value} {B newId xF : String}
theorem lF {K : PySem.W.Frag} (F : ExcBaseFacts B newId xF yd) (T : OwnTail h yd bm) {rest : List Value} {fI : Addr} {Q : PySem.Fin -> Shared -> Prop} (X : K.In h)
 (hC : h.get? C = some (excClassObj nm q C N bs bm hdct sn sub ab col dd k0 k1 k2 k3 k5 newId)) (hi : PySem.W.findIn K (.ref C) "__init__" = some (some (.ref fI))) (hf : PySem.W.isFn K (.ref fI) = true)
 (hq : ∀ h' e, Heap.MadeExcOf h h' e (.ref C) rest ->
  wpAny (model prog w) A (call (.ref fI) (.ref e :: rest)) (fun r s' => r = .none /\ Q (.done (.ret (.ref e))) s') E ⟨h', g, d, t, os⟩) (hrest : rest.length <= sizeLine) :
 wpAny (model prog w) A (Builtin.«type.__call__» ⟨.ref C :: rest, []⟩) Q E ⟨h, g, d, t, os⟩ := by
 repeat (first | with_reducible refine wpAny_loadPart_at hC ?_ | with_reducible refine wpAny_madeBy_exc hC ?_ | wp_step)
 refine codeAny_call_builtin_code (Code.quiet_builtin _ F.quiet) (wpAny_check_new_subT F T hC ?_)
 refine codeAny_exc_new_subT F T hC ?_ hrest
 show wpAny _ _ _ _ _ _
 have kp : ∀ b o, h.get? b = some o -> ((h.push { cls := .type "tuple", data := .seq rest.toArray }).push { cls := .ref C, data := .fields #[.ref h.objs.size, .none, .none, .none, .bool false, .none] }).get? b = some o := fun b o e => Heap.get?_push_of_some _ (Heap.get?_push_of_some _ e)
 have FX := kp _ _ hC
 have X₁ := X.keeps kp
 have FJ : ((h.push { cls := .type "tuple", data := .seq rest.toArray }).push
  { cls := .ref C, data := .fields #[.ref h.objs.size, .none, .none, .none, .bool false, .none] }).get? (h.objs.size + 1) = some
  { cls := .ref C, data := .fields #[.ref h.objs.size, .none, .none, .none, .bool false, .none] } := by heap_get
 have LN : (Value.ref C :: bm).contains (.ref C) = true := by simp
 unfold isInstance
 repeat (first | with_reducible refine wpAny_loadPart_at FJ ?_ | (with_reducible refine wpAny_isSubtype_exc FX ?_; rw [LN]) | wp_step)
 show wpAny _ _ (typeLookup (.ref C) _) _ _ _
 refine (PySem.W.looks_findIn (M := model prog w) X₁ hi).at ?_
 refine wpAny_holding (wpAny_bind ?_)
 refine (PySem.W.bind_fn (M := model prog w) X₁ _ (beq_iff_eq.mp hf)).at ?_
 refine wpAny_bind (wpAny_mono (hq _ (h.objs.size + 1) ⟨kp, Heap.get?_none_of_le (Nat.le_succ _), h.objs.size, FJ, Heap.get?_none_of_le (Nat.le_refl _), ?_⟩) (fun r s' hr => ?_) fun _ _ x => x)
 . exact Heap.get?_push_of_some _ (Heap.get?_push_at rfl rfl)
 . obtain ⟨rfl, hQ⟩ := hr
   wp_walk
   exact hQ
theorem nD {K : PySem.W.Frag} (F : ExcBaseFacts B newId xF yd) (T : OwnTail h yd bm) {rest : List Value} {fI : Addr} {Q : Value -> Shared -> Prop} (X : K.In h)
 (hC : h.get? C = some (excClassObj nm q C N bs bm hdct sn sub ab col dd k0 k1 k2 k3 k5 newId)) (hi : PySem.W.findIn K (.ref C) "__init__" = some (some (.ref fI))) (hf : PySem.W.isFn K (.ref fI) = true)
 (hq : ∀ h' e, Heap.MadeExcOf h h' e (.ref C) rest ->
  wpAny (model prog w) (A.under (.builtin "type.__call__" ⟨.ref C :: rest, []⟩)) (call (.ref fI) (.ref e :: rest)) (fun r s' => r = .none /\ Q (.ref e) s') E ⟨h', g, d, t, os⟩) (hrest : rest.length <= sizeLine) :
 wpAny (model prog w) A (call (.ref C) rest) Q E ⟨h, g, d, t, os⟩ := by
 have f1 := tc_lookup
 have f2 := tc_bind (.ref C)
 have hT : (⟨h, g, d, t, os⟩ : Shared).TypeIs (.ref C) "type" := ⟨_, hC, rfl⟩
 refine wpAny_call (codeAny_of_tree ?_)
 show wpAny _ _ (callAny (.ref C) _) _ _ _
 repeat (any_goals (first | assumption | with_reducible refine wpAny_loadPart_at hC ?_ | wp_step))
 refine ⟨rfl, ?_⟩
 refine codeAny_call_builtin_at (Code.quiet_builtin _ (by decide +kernel)) entry_typeCall (wpAny_check_type_call_sub hC (lF (hrest := hrest) F T X hC hi hf fun h' e hm => ?_))
 exact hq h' e hm
end
theorem Du {H : Hp} {a : Addr} {o : HO} (e : H a = some o) : upd H a o = H := by
 funext b
 unfold upd
 split
 . rename_i z; rw [z, e]
 . rfl
structure A2 (K : PySem.W.Frag) (W : Addr) : Prop where
 ga : PySem.W.specialIn K (.ref W) "__getattribute__" = some (some (.builtin "type.__getattribute__"))
 rd : PySem.W.readsIn K W (.type "type") = true
 fd : PySem.W.findCls K (.ref W) (.type "type") "__init__" = some (.val (.builtin "ValueError.__init__"))
def nk (K : PySem.W.Frag) (vs : List V) (H : Hp) (Q : VK) : Prop := ∃ a C od ys, vs = .ref a :: ys /\ ys.length <= 100 /\ H a = some (.ext (kn a C od)) /\ nO K C /\ Q .aY H
def qv (K : PySem.W.Frag) (t : TA) : TE := fun σ H Q => t σ H fun vs H1 => nk K vs H1 Q
section
variable {X : Cx} {W : Addr} {x : Str} {p pos apos : Pos} {e : Expr} {es : List Expr} {t : TA} {pl : Sem Bool}
theorem ju (hg : Gl X x) (hm : X.mg x = some (.ref W)) (B : A2 X.K W) (ha : PA X (e :: es) t)
 (nX : (x == ("__debug__" : Str)) = false := by decide)
 (kW : starEach (e :: es) X.env = (false, eval e X.env) :: starEach es X.env := by rfl) (kr : (backTo pos (starEach es X.env)).any (·.1) = false := by rfl)
 (ht : eval (.Call (.Attribute (.Name x p) "__init__" apos) (e :: es) [] pos) X.env = (do
  let ov <- eval (.Name x p) X.env
  standAt apos.atName
  let (f, first) <- holding [ov] (getMethod ov "__init__" pl)
  callWith pos f first (backTo pos (starEach (e :: es) X.env)) (backToKw pos (keywordEach [] X.env))) := by rfl) :
 PE X (.Call (.Attribute (.Name x p) "__init__" apos) (e :: es) [] pos) (qv X.K t) := by
 intro pins s σ H Q I h
 refine PySem.W.methodCall_KW (pl := pl) (gM I hg hm ?_ nX) ht
 refine PySem.W.method_cls I.iY B.ga ?_
 refine PySem.W.cls_value I.iY B.rd B.fd rfl ?_
 have I' : Inv X pins σ H { s with toks := s.toks + 1 } := I.tok _
 show wpAny _ _ (callWith pos (.builtin "ValueError.__init__") [] (backTo pos (starEach (e :: es) X.env)) []) _ _ _
 refine PyProof.Rows.callWith_builtin1 (cg (ha pos pins _ σ H _ I' h) fun us s2 ⟨vs, H2, I2, r, q2⟩ => ?_) kW kr
 obtain ⟨a, C, od, ys, rfl, Ny, hH, hO, q⟩ := q2
 cases r with
 | cons ra ru =>
 rename_i u us _
 obtain rfl : u = Value.ref a := ra
 obtain ⟨⟨o, Jz, v0, e1, e2, e3, e4, e5, e6, e7⟩, _⟩ := (show bo X.prog X.w H2 s2.heap a (.ext (kn a C od)) from I2.aK a _ hH)
 obtain ⟨bm, N, nm, q', bs, hd, sn, sub, ab, col, dd, k0, k1, k2, k3, k5, hC, T⟩ := hO _ I2.iY
 obtain ⟨hp, g, d, tk, os⟩ := s2
 have F := PySem.F.excBase_ValueError
 have G3 : us.length <= sizeLine := by rw [<- ru.length, sizeLine_eq]; omega
 refine wpAny_call (codeAny_call_builtin F.init.plain F.initEntry (wpAny_check_init_subT F T hC e1 e2 ?_))
 show wpAny _ _ (newTuple us >>= fun t => Builtin.BaseException.bexcPut (.ref a) 0 t >>= fun _ => ret .none) _ _ _
 refine wpAny_bind (wpAny_newTuple ?_ G3)
 unfold Builtin.BaseException.bexcPut
 have kp : ∀ b u, hp.get? b = some u -> (hp.push (seqObj "tuple" us.toArray 0)).get? b = some u := fun b u z => Heap.get?_push_of_some _ z
 have I3 : Inv X pins σ H2 ⟨hp.push (seqObj "tuple" us.toArray 0), g, d, tk, os⟩ := I2.kept (t' := tk) kp
 have DT := kp _ _ e1
 have hz : 0 < Jz.size := (Array.getElem?_eq_some_iff.mp e5).1
 refine wpAny_bind (wpAny_bind (wpAny_field DT e4 e5 (wpAny_bind (wpAny_setField DT e4 hz ?_))))
 have d3 := Obj.data_mapFields e4 (·.setIfInBounds 0 (Value.ref hp.objs.size))
 have JN := Heap.get?_update_self (Obj.mapFields (·.setIfInBounds 0 (Value.ref hp.objs.size))) DT (Obj.isFreed_of_fields d3)
 have I4 : Inv X pins σ H2 ⟨(hp.push (seqObj "tuple" us.toArray 0)).update a (Obj.mapFields (·.setIfInBounds 0 (Value.ref hp.objs.size))), g, d, tk, os⟩ := by
  have J := I3.write (x := a) (e := a) (o := .ext (kn a C od)) (t' := tk) (h' := (hp.push (seqObj "tuple" us.toArray 0)).update a (Obj.mapFields (·.setIfInBounds 0 (Value.ref hp.objs.size)))) (by rw [hH]; trivial) (.inl rfl) (fun b u hb z => (Heap.get?_update_other _ _ (Ne.symm hb)).trans z) ⟨_, JN⟩
   (kn.ext ⟨_, _, .ref hp.objs.size, JN, ?_, ?_, d3, by simp [hz], ?_, ?_⟩)
  . rw [Du hH] at J; exact J
  . rw [Obj.cls_mapFields]; exact e2
  . obtain ⟨c0, d0, Hq, Mr⟩ := o
    cases Hq <;> first | exact e3 | (cases e4)
  . rw [Array.getElem?_setIfInBounds_ne (by decide)]; exact e6
  . rw [Array.getElem?_setIfInBounds_ne (by decide)]; exact e7
 have fin : EP X pins σ Q Value.none ⟨(hp.push (seqObj "tuple" us.toArray 0)).update a (Obj.mapFields (·.setIfInBounds 0 (Value.ref hp.objs.size))), g, d, tk, os⟩ := ⟨.aY, H2, I4, rfl, q⟩
 cases v0
 case ref b => exact wpAny_letGo (wpAny_pure fin)
 all_goals exact wpAny_pure (wpAny_pure fin)
end
theorem Dk {K : PySem.W.Frag} {C : Addr} {c0 : Value} {dd : Option Addr} {cd : ClassData} {sl : Array (Option Value)} (h : K.lookup C = some ⟨c0, dd, .cls cd, sl⟩) : clsIn K C = some cd := by unfold clsIn; rw [h]
def Bf (K : PySem.W.Frag) (ta tv : TE) : TS := fun D σ H => tv σ H fun y H1 => ta σ H1 fun x H2 => ∃ a C W fI, x = .ref a /\ H2 a = some (.ext (kn a C none)) /\ sI K C W fI /\ ∀ d, H2 d = none -> d ≠ a -> D.nx σ (upd (upd H2 d (.xd [("name", y)])) a (.ext (kn a C (some d))))
theorem pj {X : Cx} {o value : Expr} {pos pos' : Pos} {ta tv : TE} (ha : PE X o ta) (hv : PE X value tv) (hs : swapsWith value (some (.Attribute o "name" pos')) pos.line X.env = pure false) : PS X (.Assign [.Attribute o "name" pos'] value pos) (Bf X.K ta tv) := by
 intro pins s σ H D I h
 refine plainObj_wpAny_Assign_Attribute (cg (hv pins s σ H _ I h) fun u s1 ⟨y, H1, I1, ry, q⟩ => cg (ha pins s1 σ H1 _ I1 q) fun ov s2 ⟨x, H2, I2, rx, a, C, W, fI, ex, ea, n, q2⟩ => ?_) hs
 subst ex
 obtain rfl : ov = Value.ref a := rx
 obtain ⟨⟨o, vs, v0, e1, e2, e3, e4, e5, e6, e7⟩, _⟩ := (show bo X.prog X.w H2 s2.heap a (.ext (kn a C none)) from I2.aK a _ ea)
 obtain ⟨nm, qn, N, bs, sn, sub, ab, col, dd, k0, k1, k2, k3, k5, hl⟩ := n.cls
 have hc := Dk hl
 refine Ah I2.iY e1 e2 e3 e4 n.sa hc rfl rfl n.tk fun h' d t' hd MR hx vC kp => ?_
 have KW : H2 d = none := I2.aK.dead hd
 refine ⟨σ, _, ?_, q2 d KW MR⟩
 have zU : ∀ b, H2 b = none -> b ≠ a := fun b z y => by rw [y, ea] at z; cases z
 have Lr : ∀ b o, s2.heap.get? b = some o -> b ≠ d := fun b o z y => by rw [y, hd] at z; cases z
 have old : ∀ b u, H2 b = some u -> b ≠ a -> upd (upd H2 d (.xd [("name", y)])) a (.ext (kn a C (some d))) b = some u := fun b u z nb => by
  rw [ak nb, ak (fun y => by rw [y, KW] at z; cases z)]; exact z
 refine I2.step (g' := s2.gens) (d' := s2.drawn) (t' := t') (ch := []) (fun _ z => nomatch z) (fun b o _ _ _ z n => kp b o (zU b n) z) (fun b o _ _ _ z n => ⟨o.slots, kp b o (zU b n) z⟩) (fun b o _ z n => ?_) (fun b o _ z => ?_) (fun b xs z => old b _ z (fun y => by rw [y, ea] at z; cases z)) (fun b o u z => old b _ z (fun y => by rw [y, ea] at z; cases z)) (fun b ps z => ⟨#[], by rw [Array.append_empty]; exact old b _ z (fun y => by rw [y, ea] at z; cases z)⟩) (fun m hm => ?_) (fun b u z => ?_) I2.bare
 . rw [ak (zU b n), ak (Lr b o z)]; exact n
 . by_cases hb : b = a
   . exact ⟨_, hb ▸ hx⟩
   . exact ⟨o, kp b o hb z⟩
 . obtain ⟨o', es, ep, z, r⟩ := hm
   exact ⟨o', es, ep, kp _ _ (zU _ I2.free) z, r⟩
 . by_cases hb : b = a
   . subst hb
     rw [av] at z
     cases z
     exact kn.ext ⟨_, vs, v0, hx, e2, rfl, e4, e5, e6, e7⟩
   . by_cases oE : b = d
     . subst oE
       rw [ak hb, av] at z
       cases z
       refine ⟨_, vC, fun f => ?_⟩
       by_cases hf : f = Str.ofString "name"
       . subst hf; rw [if_pos rfl]; simp [List.lookup]; exact ry
       . rw [if_neg hf]
         have : (f == Str.ofString "name") = false := beq_eq_false_iff_ne.mpr hf
         simp [List.lookup, this]; trivial
     . rw [ak hb, ak oE] at z
       refine (I2.aK b u z).kg (fun c v lb q' => ?_) (fun c z' => old c _ z' (fun y => by rw [y, ea] at z'; cases z')) fun c xs z' => old c _ z' (fun y => by rw [y, ea] at z'; cases z')
       refine kp c v ?_ q'
       rcases lb with rfl | lb
       . exact hb
       . intro y; rw [y, ea] at lb; cases lb
def del (H : Hp) (a : Addr) : Hp := fun b => if b = a then none else H b
theorem sk {H : Hp} {a b : Addr} (h : b ≠ a) : del H a b = H b := if_neg h
theorem qJ {H : Hp} {a : Addr} : del H a a = none := if_pos rfl
theorem Inv.zC {X : Cx} {pins : List (Addr × Obj)} {σ : St} {H : Hp} {s : Shared} {a : Addr} {φ : Heap -> Prop} (I : Inv X pins σ H s) (e : H a = some (.ext φ)) : Inv X pins σ (del H a) s := by
 have old : ∀ b u, H b = some u -> (∀ φ, u ≠ .ext φ) -> del H a b = some u := fun b u z nu => by
  rw [sk (fun y => by rw [y, e] at z; exact nu φ (Option.some.inj z).symm)]; exact z
 have fr : ∀ b, H b = none -> del H a b = none := fun b z => by unfold del; split <;> first | rfl | exact z
 refine ⟨I.ok, I.os, I.bare, ⟨I.base.keep, I.base.slot, fun b o z n hx => fr b (I.base.free b o z n hx), I.base.there, fun b xs z => old b _ (I.base.iK b xs z) (by intro _ y; cases y), fun b o u z => old b _ (I.base.ic b o u z) (by intro _ y; cases y), fun b ps z => ?_⟩, I.loc, I.cell, fr _ I.free, fun x c z => fr _ (I.c9 x c z), fun p hp => ?_, fun b u z => ?_, I.len⟩
 . obtain ⟨m, z'⟩ := I.base.i5 b ps z
   exact ⟨m, old b _ z' (by intro _ y; cases y)⟩
 . obtain ⟨e1, e2, e3⟩ := I.pin p hp
   exact ⟨e1, fr _ e2, e3⟩
 . by_cases hb : b = a
   . rw [hb, qJ] at z; cases z
   . rw [sk hb] at z
     exact (I.aK b u z).kg (fun _ _ _ q => q) (fun c q => old c _ q (by intro _ y; cases y)) fun c xs q => old c _ q (by intro _ y; cases y)
section
variable {prog : Program} {w : World} {A : Around} {E : Value -> Shared -> Prop} {s : Shared} {env : Env}
variable {nm q : Str} {C N : Addr} {bs bm yd : List Value} {hdct : Bool} {sn : List Str} {sub : List Value} {ab : Bool} {col : Option Bool} {dd : Option Addr} {k0 k1 k2 k3 k5 : Option Value} {newId : String}
theorem sC {x : Sem Value} {Q : Flow -> Shared -> Prop} (wy : bm.contains (.type "BaseException") = true) (hh : A.handled = none)
 (h : wpAny (model prog w) A x (fun v s₁ => ∃ e oe vs, v = .ref e /\ s₁.heap.get? C = some (excClassObj nm q C N bs bm hdct sn sub ab col dd k0 k1 k2 k3 k5 newId) /\
  s₁.heap.get? e = some oe /\ oe.cls = .ref C /\ oe.data = .fields vs /\ vs[1]? = some .none /\ E (.ref e) s₁) E s) :
 wpAny (model prog w) A (raiseStmt env (some x) none) Q E s := by
 have Lg : (Value.ref C :: bm).contains (.type "BaseException") = true := by rw [List.contains_cons, wy, Bool.or_true]
 unfold raiseStmt
 refine wpAny_bind (wpAny_mono h (fun v s₁ h₁ => ?_) fun _ _ x => x)
 obtain ⟨e, oe, vs, rfl, hC, he, uN, FG, La, hE⟩ := h₁
 obtain ⟨hp, g, d, tk, os⟩ := s₁
 repeat (first | (with_reducible refine wpAny_loadPart_at he ?_; first | rw [uN] | rw [FG]) | with_reducible refine wpAny_loadPart_at hC ?_ | (with_reducible refine wpAny_isSubtype_exc hC ?_; rw [Lg]) | wp_step)
 rw [FG]
 refine wpAny_pure ?_
 rw [La]
 refine wpAny_pure ?_
 rw [if_neg (by decide)]
 exact wpAny_pure (wpAny_raiseNew_none hh hE)
end
def o3 (n : Str) : Prop := n.length <= 1000 /\ ∀ c ∈ n.cps.toList, c < 1114112
def uc (C : Addr) (E : St -> XK) (ta : TA) : TS := fun _ σ H => ta σ H fun vs H1 => ∃ n, vs = [.str n] /\ o3 n /\ ∀ d, H1 d = none -> E σ (.ref C) (some d) (upd H1 d (.xd [("name", .str n)]))
def eD (K : PySem.W.Frag) (C : Addr) : Sp := fun vs H Q _ => ∃ a n, vs = [.ref a, .str n] /\ o3 n /\ H a = some (.ext (kn a C none)) /\ ∀ d, H d = none -> d ≠ a -> Q .aY (upd (upd H d (.xd [("name", .str n)])) a (.ext (kn a C (some d))))
theorem kz {X : Cx} {E : St -> XK} {C W fI : Addr} {k : Nat} {x : Str} {np dG pos : Pos} {e : Expr} {ta : TA} (hX : qt X E) (hc : X.calm = true) (ha : PA X [e] ta) (hg : Gl X x) (hm : X.mg x = some (.ref C)) (hq : sI X.K C W fI) (hr : a8 (k + 1) X.A)
 (F : nQ X.prog X.w X.K X.mg X.base k fI ["self", "name"] [] (eD X.K C)) (hex : X.ex = [])
 (hs : starEach [e] X.env = (false, eval e X.env) :: starEach [] X.env := by rfl) (pN : (backTo dG (starEach [e] X.env)).any (·.1) = false := by rfl) (nX : (x == ("__debug__" : Str)) = false := by decide) :
 PS X (.Raise (some (.Call (.Name x np) [e] [] dG)) none pos) (uc C E ta) := by
 intro pins s σ H D I h
 obtain ⟨nm, qn, N, bs, sn, sub, ab, col, dd, k0, k1, k2, k3, k5, hl⟩ := hq.cls
 have T := hq.tail I.iY
 rw [arm_exec_Raise]
 refine wpAny_bind (wpAny_standAt ?_)
 show wpAny _ _ (raiseStmt X.env (some (do let v <- eval (.Call (.Name x np) [e] [] dG) X.env; standAt pos; pure v)) none) _ _ s
 refine sC (C := C) (nm := nm) (q := qn) (N := N) (bs := bs) (bm := .ref W :: vD) (hdct := true) (sn := sn) (sub := sub) (ab := ab) (col := col) (dd := dd) (k0 := k0) (k1 := k1) (k2 := k2) (k3 := k3) (k5 := k5) (newId := "ValueError.__new__") (T.hasType (by decide)) (I.ok.hd hc) ?_
 refine wpAny_bind (wpAny_mono (Q := fun v s₁ => ∃ e oe vs, v = .ref e /\ s₁.heap.get? C = some (excClassObj nm qn C N bs (.ref W :: vD) true sn sub ab col dd k0 k1 k2 k3 k5 "ValueError.__new__") /\ s₁.heap.get? e = some oe /\ oe.cls = .ref C /\ oe.data = .fields vs /\ vs[1]? = some .none /\ X.xe (.ref e) s₁) ?_ (fun v s₁ z => wpAny_bind (wpAny_standAt (wpAny_pure z))) fun _ _ z => z)
 refine wpAny_Call_ofName (gM I hg hm ?_ nX)
 have hA := ha dG pins s σ H _ I h
 unfold callWith
 refine wpAny_bind (wpAny_holding ?_)
 rw [hs] at hA pN ⊢
 refine Calls.evalArgs_plain (cg hA fun us s1 ⟨vs, H1, I1, r1, n, hv, hn, q1⟩ => ?_)
 refine wpAny_bind (wpAny_standAt ?_)
 simp only [pN]
 have JO := I1.iY _ _ hl
 have T1 := hq.tail I1.iY
 have G3 : us.length <= sizeLine := by rw [<- r1.length, hv, sizeLine_eq]; simp
 obtain ⟨hp, g, d, tk, os⟩ := s1
 refine wpAny_bind (wpAny_keeperOf_exc JO ?_)
 obtain ⟨fd, ds, F, hb, LI⟩ := F.ex
 cases LI
 refine wpAny_bind (nD PySem.F.excBase_ValueError T1 I1.iY JO hq.init hq.fn (fun h' e hm => ?_) G3)
 obtain ⟨t0, e1, _, _⟩ := hm.there
 have I2 : Inv X pins σ H1 ⟨h', g, d, tk, os⟩ := I1.kept (t' := tk) fun b u z => hm.keeps b u z
 have dead : X.cA.heap.get? e = none := by
  cases q' : X.cA.heap.get? e with
  | none => rfl
  | some o =>
    obtain ⟨o2, z2⟩ := I1.base.there e o q' (by rw [hex]; intro y; cases y)
    rw [hm.new] at z2
    cases z2
 have IC : H1 e = none := I1.aK.dead hm.new
 have I3 : Inv X pins σ (upd H1 e (.ext (kn e C none))) ⟨h', g, d, tk, os⟩ := I2.xj IC dead (fun y => by
  obtain ⟨m, ⟨o, _, _, ho, _⟩, _⟩ := I1.loc
  rw [<- y, hm.new] at ho
  cases ho) (fun x c z y => by
  obtain ⟨v, o, ho, _⟩ := I1.cell x c z
  rw [y, hm.new] at ho
  cases ho) (fun p yf y => by
  have ho := (I1.pin p yf).1
  rw [y, hm.new] at ho
  cases ho) (kn.ext ⟨_, _, _, e1, rfl, rfl, rfl, rfl, rfl, rfl⟩)
 have r2 : Vals [.ref e, .str n] (.ref e :: us) := .cons rfl (hv ▸ r1)
 have uo : eD X.K C [.ref e, .str n] (upd H1 e (.ext (kn e C none))) (fun v H2 => v = .aY /\ ∃ d, H1 d = none /\ d ≠ e /\ H2 = upd (upd (upd H1 e (.ext (kn e C none))) d (.xd [("name", .str n)])) e (.ext (kn e C (some d)))) E0 :=
  ⟨e, n, rfl, hn, av, fun d' h1 h2 => ⟨rfl, d', by rw [ak h2] at h1; exact h1, h2, rfl⟩⟩
 have hlen : (Value.ref e :: us ++ []).length = ["self", "name"].length := by have := r2.length; simp at this ⊢; omega
 have KQ := hb ⟨h', g, d, tk, os⟩ (.ref e :: us) I2.iY hlen
 rw [List.append_nil] at KQ
 refine wpAny_call (codeAny_mono (F.run _ X.stack ⟨h', g, d, tk, os⟩ _ ⟨.ref e :: us, []⟩ (.ref e :: us) _ _ E0 (hr.make C us []) (I3.ve.make C us []) KQ r2 uo) fun r s' va => ?_)
 cases r with
 | error e => exact va.elim
 | ok fl =>
   cases fl with
   | next => exact False.elim va
   | brk => exact False.elim va
   | cont => exact False.elim va
   | ret u =>
     obtain ⟨v, H', I4, rv, ev, d', Ek, hd2, rfl⟩ := I3.after va
     subst ev
     refine ⟨rv, wpAny_bind (wpAny_holding (wpAny_point (wpAny_pure ?_)))⟩
     obtain ⟨⟨oe, ws, v0, f1, f2, f3, f4, f5, f6, f7⟩, _⟩ := (show bo X.prog X.w _ s'.heap e (.ext (kn e C (some d'))) from I4.aK e _ av)
     refine ⟨e, oe, ws, rfl, I4.iY _ _ hl, f1, f2, f4, f6, ?_⟩
     have eH : del (upd (upd (upd H1 e (.ext (kn e C none))) d' (.xd [("name", .str n)])) e (.ext (kn e C (some d')))) e = upd H1 d' (.xd [("name", .str n)]) := by
      funext b
      by_cases vx : b = e
      . subst vx; rw [qJ, ak (Ne.symm hd2), IC]
      . rw [sk vx, ak vx]
        unfold upd
        split <;> first | rfl | (rw [if_neg vx])
     have I5 := I4.zC av
     rw [eH] at I5
     exact hX pins σ _ s' e C (some d') oe ws I5 f1 f2 f3 f4 f6 f7 (by rw [ak (Ne.symm hd2)]; exact IC) dead (q1 d' Ek)
theorem sx {M : Model} {A : Around} {E : Value -> Shared -> Prop} {h : Heap} {g : Array GenState} {d : Drawn} {t : Nat} {os : OsState} {a C D N N' : Addr} {oe : Obj} {nm q KR q' : Str} {bs bm K1 G6 sub EL : List Value} {hdct Gn ab KA : Bool} {sn JY : List Str} {col El : Option Bool} {dd Bx : Option Addr} {k0 k1 k2 k3 k5 l0 l1 l2 l3 l5 : Option Value} {newId C9 : String} {Q : Bool -> Shared -> Prop} {b : Bool}
 (hC : h.get? C = some (excClassObj nm q C N bs bm hdct sn sub ab col dd k0 k1 k2 k3 k5 newId)) (hD : h.get? D = some (excClassObj KR q' D N' K1 G6 Gn JY EL KA El Bx l0 l1 l2 l3 l5 C9)) (he : h.get? a = some oe) (uN : oe.cls = .ref C) (hb : G6.contains (.type "BaseException") = true)
 (hit : (Value.ref C :: bm).contains (.ref D) = b) (hq : Q b ⟨h, g, d, t, os⟩) : wpAny M A (excMatches (.ref a) (.ref D)) Q E ⟨h, g, d, t, os⟩ := by
 have c1 : (Value.ref D :: G6).contains (.type "BaseException") = true := by rw [List.contains_cons, hb, Bool.or_true]
 have f := tc_notTuple
 unfold excMatches
 cases b
 . repeat (first | (with_reducible refine wpAny_loadPart_at he ?_; rw [uN]) | with_reducible refine wpAny_loadPart_at hD ?_ | (with_reducible refine wpAny_isSubtype_exc hD ?_; rw [c1]) | (with_reducible refine wpAny_isSubtype_exc hC ?_; rw [hit]) | wp_step)
   all_goals exact hq
 . repeat (first | (with_reducible refine wpAny_loadPart_at he ?_; rw [uN]) | with_reducible refine wpAny_loadPart_at hD ?_ | (with_reducible refine wpAny_isSubtype_exc hD ?_; rw [c1]) | (with_reducible refine wpAny_isSubtype_exc hC ?_; rw [hit]) | wp_step)
   all_goals exact hq
theorem yZ {K : PySem.W.Frag} {h : Heap} {C D N : Addr} {nm q : Str} {bs bm sub : List Value} {hdct ab : Bool} {sn : List Str} {col : Option Bool} {dd : Option Addr} {k0 k1 k2 k3 k5 : Option Value} {newId : String} {b : Bool} (X : K.In h) (hC : h.get? C = some (excClassObj nm q C N bs bm hdct sn sub ab col dd k0 k1 k2 k3 k5 newId)) (hm : PySem.W.mroIn K C (.ref D) = some b) : (Value.ref C :: bm).contains (.ref D) = b := by
 unfold PySem.W.mroIn PySem.W.clsIn at hm
 split at hm
 . rename_i c' d' cd sl ho
   have z := X _ _ ho
   rw [hC] at z
   cases z
   simpa using hm
 . cases hm
theorem tQ.keeps {h h' : Heap} {a T : Addr} {c : Value} {od : Option Addr} (t : tQ h a T c od) (k : ∀ b o, h.get? b = some o -> h'.get? b = some o) : tQ h' a T c od := by
 obtain ⟨oe, vs, oT, ts, e1, e2, e3, e4, e5, e6, e7, e8⟩ := t
 exact ⟨oe, vs, oT, ts, k _ _ e1, e2, e3, e4, e5, e6, k _ _ e7, e8⟩
def KD (X : Cx) (cl : Expr) (hit : Addr -> Bool -> Prop) : Prop := ∀ (a C T : Addr) (od : Option Addr) (pins : List (Addr × Obj)) (σ : St) (H : Hp) (s : Shared) (Q : Bool -> Shared -> Prop) (E : Value -> Shared -> Prop) (b : Bool), Inv X pins σ H s -> tQ s.heap a T (.ref C) od -> hit C b ->
 (∀ h', (∀ b o, s.heap.get? b = some o -> h'.get? b = some o) -> Q b { s with heap := h' }) ->
 wpAny (model X.prog X.w) (X.hand a).A (eval cl X.env) (fun c s1 => wpAny (model X.prog X.w) (X.hand a).A (excMatches (.ref a) c) Q E s1) E s
def yC (K : PySem.W.Frag) (D C : Addr) (b : Bool) : Prop := nO K C /\ PySem.W.mroIn K C (.ref D) = some b
theorem yF {X : Cx} {x : Str} {np : Pos} {D : Addr} (hg : Gl X x) (hm : X.mg x = some (.ref D)) (hD : nO X.K D) (nX : (x == ("__debug__" : Str)) = false := by decide) : KD X (.Name x np) (yC X.K D) := by
 intro a C T od pins σ H s Q E b I tr hit k
 refine gM (X := { X with xe := E }.hand a) (E := E) I.rP hg hm ?_ nX
 obtain ⟨bm, N, nm, q, bs, hd, sn, sub, ab, col, dd, k0, k1, k2, k3, k5, hC, _⟩ := hit.1 _ I.iY
 obtain ⟨G6, N', KR, q', K1, jt, JY, EL, KA, El, Bx, l0, l1, l2, l3, l5, LU, T'⟩ := hD _ I.iY
 obtain ⟨oe, vs, oT, Nm, e1, e2, e3, e4, e5⟩ := id tr
 exact sx hC LU e1 e2 (T'.hasType (by decide)) (yZ I.iY hC hit.2) (k _ fun _ _ z => z)
structure Cp where
 hit : Addr -> Bool -> Prop
 i : Option Nat
 ts : Addr -> TS
def yJ (σ : St) (i : Option Nat) (v : Option V) : St := match i with
 | some i => σ.set i v
 | none => σ
def BG (X : Cx) : Option Str -> Option Nat -> Prop
 | some n, some i => X.N[i]? = some n /\ X.env.scope.names.lookup n = some .local
 | none, none => True
 | _, _ => False
inductive mW (X : Cx) : List ExceptHandler -> List Cp -> Prop
 | nil : mW X [] []
 | cons {cl : Expr} {n : Option Str} {b0 : Stmt} {wc : List Stmt} {pos : Pos} {hs : List ExceptHandler} {hit : Addr -> Bool -> Prop} {i : Option Nat} {ts : Addr -> TS} {rs : List Cp} (hc : KD X cl hit) (hb : ∀ a, om (X.hand a) (b0 :: wc) (ts a)) (hn : BG X n i) (r : mW X hs rs) :
  mW X (.ExceptHandler (some cl) n (b0 :: wc) pos :: hs) (⟨hit, i, ts⟩ :: rs)
def Bq (D : Ends) (i : Option Nat) : Ends := { nx := fun σ H => D.nx (yJ σ i none) H, rt := D.rt, bk := fun σ H => D.bk (yJ σ i none) H, ct := fun σ H => D.ct (yJ σ i none) H }
def zY (D : Ends) (σ : St) (C : Addr) (od : Option Addr) (H' : Hp) : List Cp -> Prop
 | [] => False
 | r :: rs => (r.hit C true /\ ∀ a, H' a = none -> r.ts a (Bq D r.i) (yJ σ r.i (some (.ref a))) (upd H' a (.ext (jK a C od)))) \/ (r.hit C false /\ zY D σ C od H' rs)
def AQ (tb : (St -> XK) -> TS) (rs : List Cp) (te : TS) : TS := fun D σ H =>
 tb (fun σ' c od H' => ∃ C, c = .ref C /\ zY D σ' C od H' rs) { D with nx := fun σ' H' => te D σ' H' } σ H
theorem Inv.gone {X : Cx} {pins : List (Addr × Obj)} {σ : St} {H : Hp} {s : Shared} {h' : Heap} {m : Str -> Option Value} {n : Str} {v : Option Value} {i : Nat} {t' : Nat} (I : Inv X pins σ H s) (hN : X.N.Nodup) (hi : X.N[i]? = some n)
 (loc : ∀ (j : Nat) (x : Str) (v : V), X.N[j]? = some x -> σ[j]? = some (some v) -> BQ X.env.scope x -> ∃ u, RelV v u /\ Look X.env s.heap m x u) (ns : h'.Ns X.env.locals (fun x => if x = n then v else m x)) (sb : Heap.SameBut X.env.locals s.heap h') : Inv X pins (σ.set i none) H { s with heap := h', toks := t' } := by
 have old : ∀ b o, X.cA.heap.get? b = some o -> b ≠ X.env.locals := fun b o e => Nat.ne_of_lt (Nat.lt_of_lt_of_le (Heap.lt_size e) I.ok.above)
 refine ⟨I.ok, I.os, I.bare, ⟨fun b o e n hb hx => (sb.2 b (old b o e)).trans (I.base.keep b o e n hb hx), fun b o e n hb hx => ?_, fun b o e n hx => I.base.free b o e n hx, fun b o e hx => ?_, I.base.iK, I.base.ic, I.base.i5⟩, ⟨_, ns, fun j x w e1 e2 e3 => ?_⟩, fun x c e => ?_, I.free, I.c9, fun p hp => ?_, fun b u e => ?_, by rw [List.length_set]; exact I.len⟩
 . obtain ⟨sl, z⟩ := I.base.slot b o e n hb hx
   exact ⟨sl, (sb.2 b (old b o e)).trans z⟩
 . obtain ⟨o2, z⟩ := I.base.there b o e hx
   exact ⟨o2, (sb.2 b (old b o e)).trans z⟩
 . have Km : i ≠ j := fun y => by
    subst y
    rw [List.getElem?_set_self' ] at e2
    cases q : σ[i]? <;> rw [q] at e2 <;> cases e2
   rw [List.getElem?_set_ne Km] at e2
   obtain ⟨u, ru, l⟩ := loc j x w e1 e2 e3
   refine ⟨u, ru, ?_⟩
   have M7 : x ≠ n := fun y => Km (ni hN hi (y ▸ e1))
   rcases l with ⟨k, l⟩ | ⟨k, c, e, o, ho, hd⟩
   . exact .inl ⟨k, by show (if x = n then v else m x) = _; rw [if_neg M7]; exact l⟩
   . exact .inr ⟨k, c, e, o, (sb.2 c (I.zW x c e)).trans ho, hd⟩
 . obtain ⟨v, o, ho, hd⟩ := I.cell x c e
   exact ⟨v, o, (sb.2 c (I.zW x c e)).trans ho, hd⟩
 . obtain ⟨e, n, ne, nf, d⟩ := I.pin p hp
   exact ⟨(sb.2 p.1 ne).trans e, n, ne, nf, d⟩
 . refine (I.aK b u e).kg (fun c v hc q => (sb.2 c fun z => ?_).trans q) (fun _ q => q) fun _ _ q => q
   have lb : H c ≠ none := by
    rcases hc with rfl | hc
    . rw [e]; intro z; cases z
    . rw [hc]; intro z; cases z
   exact lb (z ▸ I.free)
section
variable {X : Cx} {pins : List (Addr × Obj)} {σ : St} {H : Hp} {a C : Addr} {od : Option Addr} {Dn : Ends}
def G5 (X : Cx) (pins : List (Addr × Obj)) (b : Addr) : Prop := X.cA.heap.get? b = none /\ b ≠ X.env.locals /\ (∀ x c, X.env.cells.lookup x = some c -> c ≠ b) /\ ∀ p ∈ X.pn ++ pins, p.1 ≠ b
theorem rq (hN : X.N.Nodup) (ha : H a = none) (fa : G5 X pins a) {hs : List ExceptHandler} {rs : List Cp} (ok : mW X hs rs) : ∀ (s : Shared) (T : Addr), Inv X pins σ H s -> tQ s.heap a T (.ref C) od -> H T = none -> G5 X pins T -> zY Dn σ C od H rs ->
 wpAny (model X.prog X.w) X.A (handleBy (.ref a) X.env hs) (SP X pins Dn) X.xe s := by
 induction ok with
 | nil => intro s T _ _ _ _ h; exact h.elim
 | @cons cl n b0 wc pos hs hit i ts rs hc hb hn r ih =>
   intro s T J tr hT fT h
   refine wpAny_handleBy_cons (codeAny_handlers_test ?_) (by intro q; cases q)
   rcases h with ⟨h1, GU⟩ | ⟨h1, h2⟩
   . refine hc a C T od pins σ H s _ _ true J tr h1 fun h3 k3 => ?_
     have J3 : Inv X pins σ H { s with heap := h3 } := J.kept (t' := s.toks) fun b u e => k3 b u e
     have Gw := tr.keeps k3
     have lay : ∀ h4, tQ h4 a T (.ref C) od -> (∀ b o, b ≠ T -> h3.get? b = some o -> h4.get? b = some o) -> Inv X pins σ (upd H a (.ext (jK a C od))) { s with heap := h4 } := fun h4 Fg k4 => by
      have J4 : Inv X pins σ H { s with heap := h4 } := J3.lv (S := [T]) (t' := s.toks) ⟨fun b o _ n2 z => k4 b o (by simpa using n2) z, fun b o m z => ⟨o.slots, k4 b o (fun y => ?_) z⟩⟩ fun b hb => by
       have : b = T := by simpa using hb
       subst this
       exact ⟨hT, fT⟩
      . obtain ⟨MZ, LL, Np, N2, f1, f2, f3, f4, _, _, _, _, _, f5⟩ := id Fg
        exact J4.xj ha fa.1 fa.2.1 fa.2.2.1 fa.2.2.2 (jK.ext ⟨MZ, LL, f1, f2, f3, f4, f5⟩)
      . subst y
        obtain ⟨_, _, _, _, _, _, _, _, _, _, f7, f8, _⟩ := id Gw
        obtain ⟨_, o', z', hn⟩ := J3.stack.mem m
        rw [f7] at z'
        cases z'
        exact hn _ f8
     cases n with
     | none =>
       cases i with
       | some _ => exact hn.elim
       | none =>
       refine codeAny_handlers_suite ?_
       refine i9 (s := { s with heap := h3 }) Gw fun h4 Fg k4 => ?_
       refine wpAny_mono (hb a pins _ _ _ _ (lay h4 Fg k4).rP (GU a ha)) (fun fl s7 q7 => ?_) (fun _ _ z => z.elim)
       cases fl with
       | next => obtain ⟨σ7, H7, J7, q8⟩ := q7; exact ⟨_, _, J7.mn J.ok, q8⟩
       | brk => obtain ⟨σ7, H7, J7, q8⟩ := q7; exact ⟨_, _, J7.mn J.ok, q8⟩
       | cont => obtain ⟨σ7, H7, J7, q8⟩ := q7; exact ⟨_, _, J7.mn J.ok, q8⟩
       | ret u => obtain ⟨v, σ7, H7, J7, r7, q8⟩ := q7; exact ⟨v, _, _, J7.mn J.ok, r7, q8⟩
     | some nn =>
       cases i with
       | none => exact hn.elim
       | some ii =>
       obtain ⟨hi, hk⟩ := hn
       refine codeAny_handlers_suite_as ?_
       refine i9 (s := { s with heap := h3 }) Gw fun h4 Fg k4 => ?_
       refine m3 (X := X.hand a) (v := .ref a) (i := ii) (lay h4 Fg k4).rP hN hi (.inl hk) rfl (fun s6 J6 => ?_) (.inr hk)
       refine wpAny_mono (hb a pins s6 _ _ _ J6 (GU a ha)) (fun fl s7 q7 => ?_) (fun _ _ z => z.elim)
       have core : ∀ {σ7 : St} {H7 : Hp}, Inv (X.hand a) pins σ7 H7 s7 -> (∀ s8, Inv X pins (σ7.set ii none) H7 s8 -> SP X pins Dn fl s8) -> wpAny (model X.prog X.w) X.A (do bindName X.env nn .none; unbindBehindTheSuite X.env nn pos) (fun _ s8 => SP X pins Dn fl s8) X.xe s7 := fun {σ7 H7} J7 fin => by
        have J8 := J7.mn J.ok
        obtain ⟨m, vC, Jo⟩ := J8.loc
        exact wpAny_nameGoes_keeps hk vC (by rw [J.ok.kind]; rfl) fun h8 v8 KU sb => fin _ (J8.gone hN hi Jo KU sb)
       cases fl with
       | next => obtain ⟨σ7, H7, J7, q8⟩ := q7; exact core J7 fun s8 J8 => ⟨_, _, J8, q8⟩
       | brk => obtain ⟨σ7, H7, J7, q8⟩ := q7; exact core J7 fun s8 J8 => ⟨_, _, J8, q8⟩
       | cont => obtain ⟨σ7, H7, J7, q8⟩ := q7; exact core J7 fun s8 J8 => ⟨_, _, J8, q8⟩
       | ret u => obtain ⟨v, σ7, H7, J7, r7, q8⟩ := q7; exact core J7 fun s8 J8 => ⟨v, _, _, J8, r7, q8⟩
   . refine hc a C T od pins σ H s _ _ false J tr h1 fun h3 k3 => ?_
     exact ih _ T (J.kept (t' := s.toks) fun b u e => k3 b u e) (tr.keeps k3) hT fT h2
end
theorem zH {X : Cx} {body orelse : List Stmt} {h0 : ExceptHandler} {hs : List ExceptHandler} {rs : List Cp} {pos : Pos} {tb : (St -> XK) -> TS} {te : TS}
 (hb : ∀ (f : Value -> Shared -> Prop) (pn : List (Addr × Obj)) (E' : St -> XK), j6 (nG X.prog X.w) (X.yD f pn) E' -> om (X.yD f pn) body (tb E')) (ho : om X orelse te) (hh : mW X (h0 :: hs) rs)
 (hN : X.N.Nodup) (kW : X.stack = X.env :: X.outer) (hf : X.env.frame = some X.env.locals) (hex : X.ex = []) :
 PS X (.Try body (h0 :: hs) orelse [] pos) (AQ tb rs te) := by
 intro pins s σ H Dn I h
 refine wpAny_Try_except ?_
 refine wpAny_mono (hb (fun e s1 => wpAny (model X.prog X.w) X.A (noteFrame e X.env) (fun _ s2 => wpAny (model X.prog X.w) X.A (setFlight e none) (fun _ s3 => wpAny (model X.prog X.w) X.A (handleBy e X.env (h0 :: hs)) (SP X pins Dn) X.xe s3) X.xe s2) X.xe s1) (X.pn ++ pins) _ ?_ [] s σ H _ I.Gs h) ?_ (fun e s1 z => z)
 . intro rm σ' H1 s1 e s2 I1 ⟨a, T, C, od, H', he, os, bare, un, aK, tr, na, nT, ha, hT, C', Kt, GU⟩
   subst he
   cases Kt
   have I2 := I1.xE (ch := []) os un aK bare (fun b z => nomatch z)
   have J := I2.ou (pins := pins)
   have JP := I1.ou (pins := pins)
   have rF : ∀ {s' : Shared} {Fl : St} {Kr : Hp}, Inv X pins Fl Kr s' -> ∀ b, s'.heap.get? b = none -> G5 X pins b := fun {s' Fl Kr} I b z => by
    refine ⟨?_, fun y => ?_, fun x c e y => ?_, fun p hp y => ?_⟩
    . cases q : X.cA.heap.get? b with
      | none => rfl
      | some o =>
        obtain ⟨o2, z2⟩ := I.base.there b o q (by rw [hex]; intro y; cases y)
        rw [z] at z2
        cases z2
    . obtain ⟨m, ⟨o, _, _, ho, _⟩, _⟩ := I.loc
      rw [<- y, z] at ho
      cases ho
    . obtain ⟨v, o, ho, _⟩ := I.cell x c e
      rw [y, z] at ho
      cases ho
    . have ho := (I.pin p hp).1
      rw [y, z] at ho
      cases ho
   have fa := rF JP a na
   have fT := rF JP T nT
   show wpAny _ _ (noteFrame (.ref a) X.env) _ _ s2
   refine mr (base := X.base) (by rw [<- kW]; exact J.ok.frames) (by rw [<- kW]; exact J.stack) hf tr fun h3 T3 Gw ME lv => ?_
   have J3 : Inv X pins σ' H' { s2 with heap := h3 } := J.lv (S := [a, T]) (t' := s2.toks) (by rw [kW]; exact lv) fun b hb => by
    have : b = a \/ b = T := by simpa using hb
    rcases this with rfl | rfl
    . exact ⟨ha, fa⟩
    . exact ⟨hT, fT⟩
   have FR : H' T3 = none /\ G5 X pins T3 := by
    rcases ME with rfl | z
    . exact ⟨hT, fT⟩
    . exact ⟨J.aK.dead z, rF J _ z⟩
   exact rq hN ha fa hh _ T3 J3 Gw FR.1 FR.2 GU
 . intro f s1 q
   cases f with
   | next => obtain ⟨σ7, H7, J7, q8⟩ := q; exact ho pins s1 σ7 H7 Dn J7.ou q8
   | brk => obtain ⟨σ7, H7, J7, q8⟩ := q; exact ⟨σ7, H7, J7.ou, q8⟩
   | cont => obtain ⟨σ7, H7, J7, q8⟩ := q; exact ⟨σ7, H7, J7.ou, q8⟩
   | ret u => obtain ⟨v, σ7, H7, J7, r7, q8⟩ := q; exact ⟨v, σ7, H7, J7.ou, r7, q8⟩
def vR (K : PySem.W.Frag) : V -> Hp -> VK -> Prop := fun x H Q => ∃ a C W fI d fs v, x = .ref a /\ H a = some (.ext (jK a C (some d))) /\ sI K C W fI /\ H d = some (.xd fs) /\ fs.lookup (Str.ofString "name") = some v /\ Q v H
def wU (K : PySem.W.Frag) (ta : TE) : TE := fun σ H Q => ta σ H fun x H1 => vR K x H1 Q
theorem yH {X : Cx} {e : Expr} {ta : TE} {pos : Pos} (he : PE X e ta) (hb : attributeBase e "name" X.env (eval e X.env) = eval e X.env) : PE X (.Attribute e "name" pos) (wU X.K ta) := by
 intro pins s σ H Q I h
 refine tI hb (cg (he pins s σ H _ I h) fun u s1 ⟨x, H1, I1, rx, a, C, W, fI, d, fs, v, ex, ea, n, ed, l, q⟩ => ?_)
 subst ex
 obtain rfl : u = Value.ref a := rx
 obtain ⟨⟨o, vs, e1, e2, e3, e4, e5⟩, _⟩ := (show bo X.prog X.w H1 s1.heap a (.ext (jK a C (some d))) from I1.aK a _ ea)
 obtain ⟨mA, vC, hr⟩ := (show bo X.prog X.w H1 s1.heap d (.xd fs) from I1.aK d _ ed)
 obtain ⟨od, ho, hl⟩ := og vC
 have J : InstAt s1.heap a o C (some od) := ⟨e1, e2, by unfold notCls; rw [e4], by rw [e3]; exact ho⟩
 obtain ⟨u, hu, ru⟩ := iL.some_of (v := v) (o := mA (Str.ofString "name")) (by rw [<- l]; exact hr _)
 exact Ao n.te I1.iY J n.nm (by rw [hl, hu]) (oW ru) ⟨v, H1, I1.tok _, ru, q⟩
theorem si {prog : Program} {w : World} {A : Around} {E : Value -> Shared -> Prop} {s : Shared} {K : PySem.W.Frag} {x D : Addr} {ox : Obj} {ED : Option Obj} {Q : Option Value -> Shared -> Prop} (t : yb K D) (X : K.In s.heap) (I : InstAt s.heap x ox D ED) (h : Q (some (.ref D)) { s with toks := s.toks + 1 }) : wpAny (model prog w) A (getAttr? (.ref x) "__class__") Q E s := by
 have hf : findObj K D ED "__class__" = some (.bind (.builtin "getset_descriptor.__get__") (.builtin "object.__class__")) := by
  obtain ⟨cd, hc, _⟩ := any_some t.hd
  unfold findObj
  rw [hc, t.ty.ha]
  simp only [Option.bind_some, t.ty.hn, t.ty.ht]
 obtain ⟨hh, g, d, tk, os⟩ := s
 have L0 := I.type (M := model prog w)
 have L1 := looks_findIn (M := model prog w) X t.ga
 have L2 := looks_findIn (M := model prog w) X t.gn
 have L3 := looks_find (M := model prog w) X I hf
 have L4 := looks_mroIn (M := model prog w) X t.mb
 have hk : builtinKind "BaseException.__getattribute__" = some .slot := by decide +kernel
 have hsplit : splitId "BaseException.__getattribute__" = some ("BaseException", "__getattribute__") := by decide +kernel
 unfold getAttr? getAttrBy? getAttrBy
 refine wpAny_bind (wpAny_mkText (wpAny_bind (wpAny_attempt (wpAny_holding (wpAny_bind (L0.at (wpAny_bind (L1.at ?_))))))))
 dsimp only
 rw [if_neg (show ¬ ((onTheHeap (Value.ref D) && Value.builtin "BaseException.__getattribute__" == Value.builtin "object.__getattribute__") = true) by rw [show (Value.builtin "BaseException.__getattribute__" == Value.builtin "object.__getattribute__") = false from by decide +kernel, Bool.and_false]; decide)]
 unfold getAttrByItsOwn
 refine wpAny_bind (show wpAny _ _ (typeLookup (.ref D) "__getattr__") _ _ _ from L2.at ?_)
 refine wpAny_bind (wpAny_attempt (wpAny_holding ?_))
 show wpAny _ _ (boundAndCalled _ _ _) _ _ _
 unfold boundAndCalled
 rw [PySem.F.attr_ValueError.ga.bind]
 refine wpAny_bind (wpAny_pure ?_)
 refine wpAny_call (codeAny_call_builtin PySem.F.attr_ValueError.ga.plain PySem.F.entry_bexc_ga ?_)
 simp only [checkBuiltinCall, hk, hsplit]
 have ha := PySem.F.args_bexc_ga (.ref x) (.str "__class__" tk)
 dsimp only at L0 L1 L2 L3 L4 X I h
 refine wpAny_bind ?_
 unfold isInstance
 refine wpAny_bind (L0.at (L4.at ?_))
 rw [if_neg (by decide)]
 repeat (any_goals (first | assumption | with_reducible refine L0.at ?_ | with_reducible refine L3.at ?_ | wp_step))
 exact class_get (s := ⟨hh, g, d, tk + 1, os⟩) (ox := ox) (od := ED) X I t.ty.hm (wpAny_pure (handed_on rfl (wpAny_pure h)))
theorem xc {K : PySem.W.Frag} {x D : Addr} {ox : Obj} {ED : Option Obj} (t : yb K D) : KitX K (.ref x) (.ref D) (fun h => InstAt h x ox D ED) where
 ty := fun _ _ _ I => I.type
 it := fun _ _ X _ => by
  obtain ⟨MO, xA, _⟩ := any_some t.hd
  unfold clsIn at xA
  split at xA
  . rename_i c' d' MG Ec ho
    intro A' Q' E' s' k q
    unfold isType loadHead
    exact wpAny_bind (wpAny_loadPart (k _ _ (X _ _ ho)) (wpAny_pure q))
  . cases xA
 ne := fun h tp dd aJ n sl X M3 => by
  obtain ⟨MO, xA, _⟩ := any_some t.hd
  refine Bool.eq_false_iff.mpr fun q => ?_
  have e : D = tp := Value.ref.inj (beq_iff_eq.mp q)
  subst e
  unfold clsIn at xA
  split at xA
  . rename_i c' d' MG Ec ho
    have z := (X _ _ ho).symm.trans M3
    cases z
  . cases xA
 ca := fun X I k => si t X I k
def ui (K : PySem.W.Frag) : List V -> Hp -> VK -> Prop := fun xs H Q => ∃ a c cv C od b, xs = [.ref a, c] /\ Dr c cv /\ H a = some (.ext (jK a C od)) /\ (∀ d, od = some d -> ∃ fs, H d = some (.xd fs)) /\ yb K C /\ PySem.W.kitOne K (.ref C) cv = some b /\ Q (.bl b) H
theorem uA {X : Cx} : iG X (.builtin "isinstance") (ui X.K) := by
 intro pins s σ H xs us Q I r h
 obtain ⟨a, c, cv, C, od, b, rfl, hc, hH, hd, ty, e, q⟩ := h
 obtain ⟨u, w', rfl, r1, r2⟩ := vals2 r
 have ew : w' = cv := by cases hc <;> exact r2
 subst ew
 cases r1
 obtain ⟨⟨o, vs, z1, z2, z3, z4, _⟩, _⟩ := (show bo X.prog X.w H s.heap a (.ext (jK a C od)) from I.aK a _ hH)
 cases od with
 | none =>
   have J : InstAt s.heap a o C none := ⟨z1, z2, by unfold notCls; rw [z4], by rw [z3]; trivial⟩
   exact PySem.W.kia_one (xc ty) I.iY J e (fun z => nomatch z) fun tk => ⟨.bl b, H, I.tok tk, rfl, q⟩
 | some d =>
   obtain ⟨fs, hf⟩ := hd d rfl
   obtain ⟨mA, ⟨o', es, ep, ho, _⟩, _⟩ := (show bo X.prog X.w H s.heap d (.xd fs) from I.aK d _ hf)
   have J : InstAt s.heap a o C (some o') := ⟨z1, z2, by unfold notCls; rw [z4], by rw [z3]; exact ho⟩
   exact PySem.W.kia_one (xc ty) I.iY J e (fun z => nomatch z) fun tk => ⟨.bl b, H, I.tok tk, rfl, q⟩
theorem repr_len {x : Str} (h : o3 x) : (reprText x).length <= 11000 := by
 unfold reprText
 show ((x.cps.foldl (fun out c => out ++ (Builtin.Str.reprChar (reprQuote x) c).toArray) #[reprQuote x]).push (reprQuote x)).size <= _
 rw [Array.size_push, <- Array.foldl_toList]
 have := PySem.StrLaws.foldl_repr_len (reprQuote x) x.cps.toList #[reprQuote x] (fun c hc => by have := h.2 c hc; omega)
 have e1 : (#[reprQuote x] : Array Nat).size = 1 := rfl
 have hl : x.cps.toList.length <= 1000 := by rw [Array.length_toList]; exact h.1
 omega
def yV : V -> Hp -> VK -> Prop := fun v H Q => ∃ x, v = .str x /\ o3 x /\ ∀ z, Q (.str z) H
def z7 (te : TE) : TE := fun σ H Q => te σ H fun v H1 => yV v H1 Q
section
variable {X : Cx} {e : Expr} {te : TE} {y y2 : Str} {k k2 : Nat} {p1 p2 p3 pos : Pos}
theorem pM {acc : Str} {Q : Value -> Shared -> Prop} {R : List (Sem Value)} {pins : List (Addr × Obj)} {s : Shared} {σ : St} {H : Hp} {QV : VK} (he : PE X e te) (I : Inv X pins σ H s) (gy : acc.length <= 1000) (h : te σ H fun v H1 => yV v H1 QV)
 (k : ∀ r H1 s1, r.length <= 11000 -> Inv X pins σ H1 s1 -> (∀ z, QV (.str z) H1) -> Joins (model X.prog X.w) X.A X.xe R (acc ++ r) (fun out s₁ => out.length <= sizeLine /\ Q (.str out s₁.toks) { s₁ with toks := s₁.toks + 1 }) s1) :
 Joins (model X.prog X.w) X.A X.xe (eval (.FormattedValue e 114 none p1) X.env :: R) acc (fun out s₁ => out.length <= sizeLine /\ Q (.str out s₁.toks) { s₁ with toks := s₁.toks + 1 }) s := by
 show wpAny _ _ (eval (.FormattedValue e 114 none p1) X.env) _ _ s
 refine PySem.wpAny_FormattedValue_repr (cg (he pins s σ H _ I h) fun v s1 ⟨w, H1, I1, r1, x, ex, hx, q⟩ => ?_)
 subst ex
 obtain ⟨t, rfl⟩ := r1
 have hr := repr_len hx
 have FV : sizeLine = 16777216 := sizeLine_eq
 refine PySem.wpAny_pyReprObj_gives (T := "str") (typeIs_str _ _ _) F.slot_str_repr F.entry_str_repr (F.args_str_repr_1 _) (gives_str_repr x t) ?_ rfl (by omega)
 refine formatField_str (fun t' tk => ⟨reprText x, t', rfl, ?_, ?_⟩) (by omega)
 . rw [strLen_append]; omega
 . exact k _ _ _ hr ((I1.tok _).tok _) q
theorem Af (he : PE X e te) (hy : y.length <= 1000) : PE X (.JoinedStr [.FormattedValue e 114 none p1, .Constant (.str y) k p2] pos) (z7 te) := by
 intro pins s σ H Q I h
 have FV : sizeLine = 16777216 := sizeLine_eq
 refine wpAny_JoinedStr (pM he I (by decide) h fun r H1 s1 hr I1 q => ?_)
 show wpAny _ _ (eval (.Constant (.str y) k p2) X.env) _ _ _
 have e0 : (Str.empty ++ r).length = r.length := by rw [strLen_append]; show 0 + _ = _; omega
 refine Calls.Constant_str ⟨y, _, rfl, ?_, ?_, ?_⟩
 . rw [strLen_append, e0]; omega
 . rw [strLen_append, e0]; omega
 . exact ⟨.str _, H1, (I1.tok _).tok _, ⟨_, rfl⟩, q _⟩
theorem yl (he : PE X e te) (hy : y.length <= 1000) : PE X (.JoinedStr [.Constant (.str y) k p2, .FormattedValue e 114 none p1] pos) (z7 te) := by
 intro pins s σ H Q I h
 have FV : sizeLine = 16777216 := sizeLine_eq
 have e0 : (Str.empty ++ y).length = y.length := by rw [strLen_append]; show 0 + _ = _; omega
 refine wpAny_JoinedStr ?_
 show wpAny _ _ (eval (.Constant (.str y) k p2) X.env) _ _ _
 refine Calls.Constant_str ⟨y, _, rfl, by rw [e0]; omega, ?_⟩
 refine pM he (I.tok _) (by rw [e0]; exact hy) h fun r H1 s1 hr I1 q => ?_
 refine ⟨?_, .str _, H1, I1.tok _, ⟨_, rfl⟩, q _⟩
 rw [strLen_append, e0]; omega
theorem zL (he : PE X e te) (hy : y.length <= 1000) (NT : y2.length <= 1000) : PE X (.JoinedStr [.Constant (.str y) k p2, .FormattedValue e 114 none p1, .Constant (.str y2) k2 p3] pos) (z7 te) := by
 intro pins s σ H Q I h
 have FV : sizeLine = 16777216 := sizeLine_eq
 have e0 : (Str.empty ++ y).length = y.length := by rw [strLen_append]; show 0 + _ = _; omega
 refine wpAny_JoinedStr ?_
 show wpAny _ _ (eval (.Constant (.str y) k p2) X.env) _ _ _
 refine Calls.Constant_str ⟨y, _, rfl, by rw [e0]; omega, ?_⟩
 refine pM he (I.tok _) (by rw [e0]; exact hy) h fun r H1 s1 hr I1 q => ?_
 show wpAny _ _ (eval (.Constant (.str y2) k2 p3) X.env) _ _ _
 refine Calls.Constant_str ⟨y2, _, rfl, ?_, ?_, ?_⟩
 . rw [strLen_append, strLen_append, e0]; omega
 . rw [strLen_append, strLen_append, e0]; omega
 . exact ⟨.str _, H1, (I1.tok _).tok _, ⟨_, rfl⟩, q _⟩
end
section
variable {σ : St} {H : Hp} {Q : VK} {D : Ends} {K : PySem.W.Frag} {C : Addr} {E : St -> XK}
theorem Al {sp : Sp} {bH : List V} {t : TA} (h : t σ H fun vs H1 => fi sp (vs ++ bH) H1 Q (E σ)) : x3 sp bH E t σ H Q := h
theorem zq {m : Str} {sp : Sp} {bH : List V} {ta : TE} {t : TA} (h : ta σ H fun x H1 => ∃ a dx fs, x = .ref a /\ H1 a = some (.ins C dx fs) /\ fs.lookup m = none /\ t σ H1 fun vs H2 => fi sp (x :: (vs ++ bH)) H2 Q (E σ)) : vV C m sp bH E ta t σ H Q := h
theorem xZ {ta : TA} (h : ta σ H fun vs H1 => ∃ n, vs = [.str n] /\ o3 n /\ ∀ d, H1 d = none -> E σ (.ref C) (some d) (upd H1 d (.xd [("name", .str n)]))) : uc C E ta D σ H := h
theorem kC {n : Str} {H1 : Hp} {G : Value -> Option Addr -> Hp -> Prop} (hn : o3 n) (h : ∀ d, H1 d = none -> G (.ref C) (some d) (upd H1 d (.xd [("name", .str n)]))) : ∃ m, [V.str n] = [.str m] /\ o3 m /\ ∀ d, H1 d = none -> G (.ref C) (some d) (upd H1 d (.xd [("name", .str m)])) := ⟨n, rfl, hn, h⟩
theorem vk {t : TA} (h : t σ H fun vs H1 => nk K vs H1 Q) : qv K t σ H Q := h
theorem jF {a : Addr} {od : Option Addr} {y : V} (h1 : H a = some (.ext (kn a C od))) (h2 : nO K C) (h : Q .aY H) : nk K [.ref a, y] H Q := ⟨a, C, od, [y], rfl, by simp, h1, h2, h⟩
theorem yx {ta tv : TE} (h : tv σ H fun y H1 => ta σ H1 fun x H2 => ∃ a C W fI, x = .ref a /\ H2 a = some (.ext (kn a C none)) /\ sI K C W fI /\ ∀ d, H2 d = none -> d ≠ a -> D.nx σ (upd (upd H2 d (.xd [("name", y)])) a (.ext (kn a C (some d))))) : Bf K ta tv D σ H := h
theorem EA {te : TE} (h : te σ H fun v H1 => yV v H1 Q) : z7 te σ H Q := h
theorem DB {x : Str} (hx : o3 x) (h : ∀ z, Q (.str z) H) : yV (.str x) H Q := ⟨x, rfl, hx, h⟩
theorem Cz {ta : TE} (h : ta σ H fun x H1 => vR K x H1 Q) : wU K ta σ H Q := h
theorem lT {a d W fI : Addr} {fs : List (Str × V)} {v : V} (h1 : H a = some (.ext (jK a C (some d)))) (h2 : sI K C W fI) (h3 : H d = some (.xd fs)) (h4 : fs.lookup (Str.ofString "name") = some v) (h : Q v H) : vR K (.ref a) H Q := ⟨a, C, W, fI, d, fs, v, rfl, h1, h2, h3, h4, h⟩
theorem CT {tb : (St -> XK) -> TS} {rs : List Cp} {te : TS} (h : tb (fun σ' c od H' => ∃ C, c = .ref C /\ zY D σ' C od H' rs) { D with nx := fun σ' H' => te D σ' H' } σ H) : AQ tb rs te D σ H := h
theorem yK {a C' d : Addr} {b : Bool} {fs : List (Str × V)} (h1 : H a = some (.ext (jK a C (some d)))) (h2 : H d = some (.xd fs)) (ty : yb K C) (e : PySem.W.kitOne K (.ref C) (.ref C') = some b) (h : Q (.bl b) H) : ui K [.ref a, .ref C'] H Q := ⟨a, _, _, C, some d, b, rfl, .ref _, h1, (fun _ z => by cases z; exact ⟨fs, h2⟩), ty, e, h⟩
theorem wY {a d : Addr} {n : String} {b : Bool} {fs : List (Str × V)} (h1 : H a = some (.ext (jK a C (some d)))) (h2 : H d = some (.xd fs)) (ty : yb K C) (e : PySem.W.kitOne K (.ref C) (.type n) = some b) (h : Q (.bl b) H) : ui K [.ref a, .ty n] H Q := ⟨a, _, _, C, some d, b, rfl, .ty _, h1, (fun _ z => by cases z; exact ⟨fs, h2⟩), ty, e, h⟩
end
theorem ck {X : Cx} {K : PySem.W.Frag} (h : X.K = K) : iG X (.builtin "isinstance") (ui K) := h ▸ uA
theorem wQ {X : Cx} {K : PySem.W.Frag} (h : X.K = K) {e : Expr} {ta : TE} {pos : Pos} (he : PE X e ta) (hb : attributeBase e "name" X.env (eval e X.env) = eval e X.env) : PE X (.Attribute e "name" pos) (wU K ta) := h ▸ yH he hb
section
variable {prog : Program} {w : World} {A : Around} {R : Result -> Shared -> Prop} {I S : Addr} {fp wr : List Addr} {n : Nat} {P : Nat -> Value -> Prop} {St : Nat -> Heap -> Prop} {bt : Nat -> Nat -> Bool}
end
section
variable {prog : Program} {w : World} {A : Around} {E : Value -> Shared -> Prop} {s : Shared}
end
section
variable {X : Cx}
end
section
variable {σ : St} {H : Hp} {Q : VK} {D : Ends} {K : PySem.W.Frag}
end
theorem PS.zc {X : Cx} {st : Stmt} {t : TS} (h : PS X.zc st t) : PS X st t := fun pins s σ H D I hw =>
 wpAny_mono (h pins s σ H D (I.mY _) hw) (fun _ _ q => q.gN) fun _ _ z => False.elim z
def BH : Expr -> Option V
 | .Constant (.int i) _ _ => some (.int i)
 | .Constant (.str x) _ _ => some (.str x)
 | .Constant (.bool b) _ _ => some (.bl b)
 | .Constant .none _ _ => some .aY
 | _ => none
def vE : List Expr -> Option (List V)
 | [] => some []
 | e :: es => match BH e, vE es with
   | some v, some vs => some (v :: vs)
   | _, _ => none
def Aw (vs : List V) : TA := fun _ H Q => Q vs H
theorem uv {X : Cx} {e : Expr} {v : V} (h : BH e = some v) : PE X e (tC v) /\ ∀ es : List Expr, starEach (e :: es) X.env = (false, eval e X.env) :: starEach es X.env := by
 unfold BH at h
 split at h <;> cases h <;> refine ⟨?_, fun _ => rfl⟩
 . exact aA
 . exact cZ
 . exact oN
 . exact mC
theorem tM {X : Cx} : ∀ {es : List Expr} {vs : List V}, vE es = some vs -> PA X es (Aw vs)
 | [], vs, h => by cases h; exact aj
 | e :: es, vs, h => by
   unfold vE at h
   split at h
   . rename_i v Jz h1 h2
     cases h
     exact af (uv h1).1 (tM h2) ((uv h1).2 es)
   . cases h
theorem BX {σ : St} {H : Hp} {vs : List V} {Q : List V -> Hp -> Prop} (h : Q vs H) : Aw vs σ H Q := h
section
variable {σ : St} {H : Hp} {Q : VK} {K : PySem.W.Frag}
theorem Cb {k : Nat} {ta : TA} {g : TG} {tc : TT} {te : TE} (h : ta σ H fun vs H1 => ∃ j : Int, vs = [.int j] /\ -(2 ^ 62) <= j /\ j < 2 ^ 62 /\ Eh k g tc te (rl Q) σ (vP 0 j.toNat) H1) : FW k (vT ta) g tc te σ H Q := h
theorem EC {k n : Nat} {g : TG} {tc : TT} {te : TE} (fd : Nat -> PyData) (hlen : n <= 4000) (hi : ∀ i, nY (fd i) = true)
 (turn : ∀ i H' (N : Option V -> Hp -> Prop), i < n -> aB H H' -> (∀ y H4, aB H' H4 -> Dv H4 y (fd i) -> N (some y) H4) ->
  g (.int (i : Int)) (List.replicate k none ++ σ) H' fun σ2 H2 => tc σ2 H2 fun b H3 => Gv te N σ2 b H3)
 (kk : ∀ q H', aB H H' -> H q = none -> eI H' q ((List.range n).map fd) -> Q (.ref q) H') : Eh k g tc te (rl Q) σ (vP 0 n) H := by
 refine ⟨fun i m acc H' => i <= n /\ m = n - i /\ aB H H' /\ cP H' acc ((List.range i).map fd), ⟨n, Nat.zero_le _, rfl, aB.refl _, .nil⟩, ?_⟩
 rintro i m acc H' ⟨KY, hm, sm, gy⟩
 have JR : acc.length = i := by rw [gy.length, List.length_map, List.length_range]
 by_cases hc : i = n
 . subst hc
   refine .inl ⟨Nat.le_refl _, fun q hq => ?_⟩
   exact kk q _ (sm.trans (dX hq)) (sm.none hq) ⟨acc, av, gy.keeps (dX hq), jq hi _⟩
 . refine .inr ⟨by show i < n; omega, gS (by omega), fun x H2 hy => ?_⟩
   obtain ⟨rfl, rfl⟩ := hy
   rw [Int.zero_add]
   refine turn i H2 (fun o H4 => match o with | some y => ∃ m', m' < m /\ i + 1 <= n /\ m' = n - (i + 1) /\ aB H H4 /\ cP H4 (acc ++ [y]) ((List.range (i + 1)).map fd) | none => ∃ m', m' < m /\ i + 1 <= n /\ m' = n - (i + 1) /\ aB H H4 /\ cP H4 acc ((List.range (i + 1)).map fd)) (by omega) sm fun y H4 s4 d4 => ?_
   refine ⟨n - (i + 1), by omega, by omega, rfl, sm.trans s4, ?_⟩
   rw [List.range_succ, List.map_append]
   exact cP.append (gy.keeps s4) (.cons d4 .nil)
end
section
variable {X : Cx}
end
section
open PySem.SeqAt
open PySem.AutoSeq1 (wpAny_loadPart')
open PySem.MeetsSeq PySem.MeetsSeq2 PySem.MeetsSeq3
end
section
variable {X : Cx}
end
section
variable {σ : St} {H : Hp} {Q : VK} {D : Ends} {K : PySem.W.Frag}
theorem Ag {S : List Addr} {H0 H1 H2 : Hp} (s : aB H0 H1) (m : Mv S H1 H2) (h : ∀ b ∈ S, H0 b = none) : aB H0 H2 := fun b u e => m.kp b u (fun z => by rw [h b z] at e; cases e) (s b u e)
end
section
variable {X : Cx}
theorem rj : ∀ {bs : List Bool} {us : List Value}, Vals (bs.map V.bl) us -> us = bs.map Value.bool
 | [], us, h => by cases h; rfl
 | b :: bs, us, h => by
   cases h with
   | cons h1 h2 =>
     cases h1
     rw [rj h2]; rfl
def ua : V -> List V -> Hp -> VK -> Prop := fun x vs H Q => ∃ (l : Addr) (bs : List Bool) (j : Nat), x = .ref l /\ vs = [.bl true] /\ H l = some (.lst (bs.map V.bl)) /\ bs[j]? = some true /\ (∀ m, m < j -> bs[m]? = some false) /\ bs.length <= 4000 /\ Q (.int (j : Nat)) H
theorem wV : JW X "list.index" ua := by
 intro pins s σ H x vs v us Q I rx rv h
 obtain ⟨l, bs, j, rfl, rfl, hH, hj, vB, hlen, q⟩ := h
 cases rx
 obtain ⟨u, rfl, ru⟩ := Vals.one rv
 cases ru
 obtain ⟨z, aJ, n, r, hl, e⟩ := I.y9 hH
 have hits := rj r
 subst hits
 have En : j < bs.length := (List.getElem?_eq_some_iff.mp hj).1
 have hb : ∀ m (hm : m < bs.length), (bs.map Value.bool).toArray[m]'(by simpa using hm) = .bool bs[m] := fun m hm => by simp
 refine call_meets F.slot_list_index ⟨_, e, rfl⟩ F.entry_list_index (F.args_list_index_2 _ _) (PySem.SeqAt.list_indexAt l (bs.map Value.bool).toArray n none #[] (.bool true) (fun y => y == .bool true) j (by simpa using En) (by omega) ?_ ?_) ⟨e, fun y hy => ?_, ⟨.int j, H, I.tok _, ⟨_, rfl⟩, q⟩⟩
 . rw [hb j En, (List.getElem?_eq_some_iff.mp hj).2]; rfl
 . intro m hm K9
   have M9 : m < bs.length := by simpa using hm
   rw [hb m M9, (List.getElem?_eq_some_iff.mp (vB m K9)).2]; rfl
 . have Le : y ∈ bs.map Value.bool := by simpa using hy
   obtain ⟨b, _, rfl⟩ := List.mem_map.mp Le
   have := PySem.SeqAt.EqAt.bool_bool (A := X.A.in1) (s := s) b true
   have e2 : (Value.bool b == Value.bool true) = (b == true) := by cases b <;> rfl
   rw [e2]; exact this
end
section
variable {σ : St} {H : Hp} {Q : VK}
end
def kP (sp : Sp) : Sp := fun vs H Q _ => sp vs H Q fun _ _ _ => False
section
variable {P : Program} {w : World} {K : PySem.W.Frag} {mg : Str -> Option Value} {base : Heap} {k : Nat} {f : Addr} {fd : FuncData} {ps : List Str} {bH : List V} {sp : Sp}
theorem bw.calm (F : bw P w K mg base (nG P w) k f fd ps sp) : bw P w K mg base ng k f fd ps (kP sp) :=
 ⟨fun vs H Q _ h => F.len vs H Q _ h, fun A outer s H args us vs Q E hr he hb hv hs => codeAny_mono (F.run A outer s H args us vs Q _ hr he hb hv hs) fun r s' h => by
  cases r with
  | ok g => cases g <;> exact h
  | error e =>
    obtain ⟨_, _, _, _, _, _, _, _, _, _, _, _, _, _, _, z⟩ := h
    exact z⟩
theorem iZ.calm (c : iZ P w K mg base k f ps bH sp) : nQ P w K mg base k f ps bH (kP sp) :=
 let ⟨fd, ds, F, b, v⟩ := c.ex
 ⟨fd, ds, F.calm, b, v⟩
end
section
variable {X : Cx}
end
section
variable {σ : St} {H : Hp} {Q : VK}
end
def BM (mg : Str -> Option Value) (h : Heap) : Prop := ∃ bm ob, mg "__builtins__" = some (.ref bm) /\ bm ≠ builtinsNs /\ h.get? bm = some ob /\ ob.cls = .type "module" /\ ob.dict = some builtinsNs /\ ob.data = .plain
def mZ (c : Addr) (q : Str) : HO := .ext fun h => h.CodeRec (.ref c) q
def TabAt (H : Hp) (P : Addr) (pos : Pos) (q : Str) : Prop := H P = some (.iX #[]) \/ ∃ c, c ≠ P /\ H P = some (.iX #[rawInt pos.line, rawInt pos.col, .ref c]) /\ H c = some (mZ c q)
theorem TabAt.keeps {H H' : Hp} {P : Addr} {pos : Pos} {q : Str} (sm : aB H H') (h : TabAt H P pos q) : TabAt H' P pos q := by
 rcases h with h | ⟨c, h0, h1, h2⟩
 . exact .inl (sm _ _ h)
 . exact .inr ⟨c, h0, sm _ _ h1, sm _ _ h2⟩
theorem TabAt.mv {H H' : Hp} {S : List Addr} {P : Addr} {pos : Pos} {q : Str} (mv : Mv S H H') (hS : ∀ b ∈ S, b ≠ P /\ ∀ φ, H b ≠ some (.ext φ)) (h : TabAt H P pos q) : TabAt H' P pos q := by
 rcases h with h | ⟨c, h0, h1, h2⟩
 . exact .inl (mv.at (fun z => (hS _ z).1 rfl) h)
 . exact .inr ⟨c, h0, mv.at (fun z => (hS _ z).1 rfl) h1, mv.at (fun z => (hS _ z).2 _ h2) h2⟩
theorem wo {P : Program} {w : World} {H : Hp} {h : Heap} {c : Addr} {q : Str} (e : h.CodeRec (.ref c) q) : bo P w H h c (mZ c q) := by
 refine ⟨e, ?_, fun h1 h2 x k => ?_⟩
 . obtain ⟨c', o, vs, t, e1, e2, _⟩ := e
   cases e1
   exact ⟨o, e2⟩
 . obtain ⟨c', o, vs, t, e1, e2, r⟩ := x
   cases e1
   exact ⟨c, o, vs, t, rfl, k _ e2, r⟩
theorem qR {env : Env} {x : Str} {c : Addr} (hc : env.cells.lookup x = some c) : ∀ (names : List (Str × NameKind)) (acc : List (Str × Addr)), (names.filter fun y => y.2 == .free).map (·.1) = [x] ->
 (forIn names acc fun (y : Str × NameKind) (cs : List (Str × Addr)) => (if (y.2 == NameKind.free) = true then (do let a <- cellOf env y.1; pure (ForInStep.yield ((y.1, a) :: cs))) else pure (ForInStep.yield cs) : Sem _)) = pure ((x, c) :: acc)
 | [], _, h => by cases h
 | (n, k) :: r, acc, h => by
   rw [List.forIn_cons]
   by_cases hk : (k == NameKind.free) = true
   . simp only [hk, if_true]
     rw [List.filter_cons, if_pos hk, List.map_cons] at h
     obtain ⟨e1, e2⟩ := List.cons.inj h
     have e1 : n = x := e1
     subst e1
     have MQ : cellOf env n = pure c := by unfold cellOf; rw [hc]
     rw [MQ]
     simp only [pure_bind]
     have e3 : r.filter (fun y => y.2 == .free) = [] := List.map_eq_nil_iff.mp e2
     clear h
     induction r generalizing acc with
     | nil => rfl
     | cons y r ih =>
       rw [List.forIn_cons]
       have hy : (y.2 == NameKind.free) = false := by
        cases z : (y.2 == NameKind.free) with
        | false => rfl
        | true => rw [List.filter_cons, if_pos z] at e3; cases e3
       have e4 : r.filter (fun y => y.2 == .free) = [] := by rw [List.filter_cons, if_neg (by rw [hy]; decide)] at e3; exact e3
       simp only [hy, Bool.false_eq_true, if_false, pure_bind]
       exact ih acc (by rw [e4]; rfl) e4
   . have tU : (k == NameKind.free) = false := by simpa using hk
     rw [List.filter_cons, if_neg (by rw [tU]; decide)] at h
     simp only [tU, Bool.false_eq_true, if_false, pure_bind]
     exact qR hc r acc h
theorem qg {scope : Scope} {env : Env} {x : Str} {c : Addr} (h : (scope.names.filter fun y => y.2 == .free).map (·.1) = [x]) (hc : env.cells.lookup x = some c) : closureFor scope env = pure [(x, c)] := by
 unfold closureFor
 have := qR hc scope.names [] h
 simp only [bind_pure_comp] at this ⊢
 rw [this, pure_bind]
section
variable {X : Cx} {pins : List (Addr × Obj)} {σ : St} {H : Hp} {s : Shared} {c P : Addr} {params : Arguments} {body : Expr} {scope : Scope} {pos : Pos} {bQ : List (Str × Addr)} {E : Value -> Shared -> Prop}
theorem Inv.grow {h' : Heap} {c' P : Addr} {ps more : Array Value} {q : Str} {tk : Nat} (I : Inv X pins σ H s) (hT : H P = some (.iX ps)) (hx : Heap.ExtBut P s.heap h') (DX : s.heap.objs.size <= c') (BJ : h'.CodeRec (.ref c') q) (hP : h'.get? P = some (tabObj (ps ++ more))) :
 Inv X pins σ (upd (upd H P (.iX (ps ++ more))) c' (mZ c' q)) { s with heap := h', toks := tk } := by
 have BE : H c' = none := I.aK.fresh DX
 have GQ : P ≠ c' := aE hT BE
 have nP : ∀ b, H b = none -> b ≠ P := fun b n z => by rw [z, hT] at n; cases n
 have kp : ∀ b u, b ≠ P -> H b = some u -> upd (upd H P (.iX (ps ++ more))) c' (mZ c' q) b = some u := fun b u hb e => by rw [ak (aE e BE), ak hb]; exact e
 have MB : upd (upd H P (.iX (ps ++ more))) c' (mZ c' q) P = some (.iX (ps ++ more)) := by rw [ak GQ, av]
 refine I.step (g' := s.gens) (d' := s.drawn) (ch := []) (fun _ z => nomatch z) (fun b o _ _ _ e n => hx b o (nP b n) e) (fun b o _ _ _ e n => ⟨o.slots, hx b o (nP b n) e⟩) (fun b o _ e n => ?_) (fun b o _ e => ?_) (fun b xs e => kp b _ (fun z => by rw [z, hT] at e; cases e) e)
  (fun b o u e => kp b _ (fun z => by rw [z, hT] at e; cases e) e) (fun b N3 e => ?_) (fun m hm => ?_) (fun b u e => ?_) I.bare
 . rw [ak (Nat.ne_of_lt (Nat.lt_of_lt_of_le (Heap.lt_size e) DX)), ak (nP b n)]; exact n
 . by_cases hb : b = P
   . exact ⟨_, hb ▸ hP⟩
   . exact ⟨o, hx b o hb e⟩
 . by_cases hb : b = P
   . subst hb
     rw [hT] at e; cases e
     exact ⟨more, MB⟩
   . exact ⟨#[], by rw [kp b _ hb e]; simp⟩
 . obtain ⟨o, es, ep, ho, r⟩ := hm
   exact ⟨o, es, ep, hx _ o (nP _ I.free) ho, r⟩
 . by_cases hb : b = c'
   . subst hb
     rw [av] at e; cases e
     exact wo BJ
   . rw [ak hb] at e
     by_cases oE : b = P
     . subst oE
       rw [av] at e; cases e
       exact hP
     . rw [ak oE] at e
       refine (I.aK b u e).kg (fun d v hd z => hx d v (fun y => ?_) z) (fun d z => kp d _ (fun y => by rw [y, hT] at z; cases z) z) fun d xs z => kp d _ (fun y => by rw [y, hT] at z; cases z) z
       rcases hd with rfl | hd
       . exact oE y
       . rw [y, hT] at hd; cases hd
theorem xK {Q : Value -> Shared -> Prop} (I : Inv X pins σ H s) (mq : X.env.code = .ref c) (C : CodeHd X.base c P) (hB : BM X.mg X.base) (hT : TabAt H P pos (X.env.qual ++ "<lambda>")) (HS : defaultsOf params X.env = ([], [])) (gW : closureFor scope X.env = pure bQ)
 (h : ∀ g c' pm qq H' s', Inv X (pins ++ [(g, kla_obj "<lambda>" (X.env.qual ++ "<lambda>") params body scope bQ pm c' qq)]) σ H' s' -> H' c' = some (mZ c' (X.env.qual ++ "<lambda>")) -> Mv [P] H H' -> TabAt H' P pos (X.env.qual ++ "<lambda>") -> Q (.ref g) s') :
 wpAny (model X.prog X.w) X.A (eval (.Lambda params body scope pos) X.env) Q E s := by
 obtain ⟨bm, ob, b1, b2, b3, b4, b5, b6⟩ := hB
 have Kv : s.heap.Ns mainGlobals X.mg := I.mod.glob.keeps I.bk
 have Cs := C.keeps I.bk
 have Gd : ∀ {h' : Heap} {H' : Hp} {o : Obj} {tk : Nat}, Inv X pins σ H' { s with heap := h'.push o, toks := tk } -> s.heap.objs.size <= h'.objs.size -> H' h'.objs.size = none -> (∀ v, o.data ≠ .cell v) -> o.isFreed = false -> Inv X (pins ++ [(h'.objs.size, o)]) σ H' { s with heap := h'.push o, toks := tk } := fun {h' H' o tk} J hsz hn hv kL => J.gK fun p hp => by
  rcases List.mem_append.mp hp with hp | hp
  . exact J.pin p (List.mem_append_right _ hp)
  . rw [List.mem_singleton.mp hp]
    exact ⟨Heap.get?_push_size _ kL, hn, Nat.ne_of_gt (Nat.lt_of_lt_of_le I.lt hsz), I.Gr hsz, hv⟩
 have Kl : ∀ ps, H P = some (.iX ps) -> bm ≠ P := fun ps e z => by
  have := (I.bs bm ob b3).2
  rw [z, e] at this; cases this
 have KO : bm ≠ mainGlobals := fun z => by
  obtain ⟨o, es, ep, e, hd, _⟩ := I.mod.glob
  rw [z, e] at b3; cases b3; rw [hd] at b6; cases b6
 have Lj : ∀ ps, H P = some (.iX ps) -> mainGlobals ≠ P := fun ps e z => by
  obtain ⟨o, es, ep, e1, hd, _⟩ := I.mod.glob
  have := (I.bs _ o e1).2
  rw [z, e] at this; cases this
 refine kla_eval HS ?_
 rcases hT with hT | ⟨c', Lf, hT, lb⟩
 . have HV : s.heap.get? P = some (tabObj #[]) := I.aK P _ hT
   refine kla_makeFunction (mg := X.mg) gW I.ok.glob Kv mq Cs HV trivial rfl (Lj _ hT) ⟨bm, ob, b1, b2, KO, Kl _ hT, (I.bs _ _ b3).1, b4, b5, b6⟩ fun c' qq h' tk hx DX n6 BJ LW => ?_
   have J := I.grow (tk := tk) hT hx DX BJ LW
   have BE : H c' = none := I.aK.fresh DX
   have GQ : P ≠ c' := aE hT BE
   have J2 := J.tJ (o := kla_obj "<lambda>" (X.env.qual ++ "<lambda>") params body scope bQ ((X.mg "__name__").getD .none) c' qq)
   have hsz : s.heap.objs.size <= h'.objs.size := Nat.le_trans DX (Nat.le_of_lt n6)
   refine h h'.objs.size c' _ qq _ _ (Gd J2 hsz (J.aK.fresh (Nat.le_refl _)) (fun v z => by cases z) rfl) av ⟨fun b o hb e => ?_, fun b xs e => ?_, fun b e => ?_⟩ (.inr ⟨c', Ne.symm GQ, by rw [ak GQ, av]; rfl, av⟩)
   . rw [ak (aE e BE), ak (by simpa using hb)]; exact e
   . rw [ak (aE e BE), ak (fun z => by rw [z, hT] at e; cases e)]; exact e
   . by_cases hb : b = c'
     . rw [hb]; exact BE
     . rw [ak hb] at e
       by_cases oE : b = P
       . rw [oE, av] at e; cases e
       . rw [ak oE] at e; exact e
 . have HV : s.heap.get? P = some (tabObj #[rawInt pos.line, rawInt pos.col, .ref c']) := I.aK P _ hT
   refine kla_makeFunctionHit (mg := X.mg) gW I.ok.glob Kv mq Cs HV ?_ (cv := .ref c') ?_ ⟨bm, ob, b1, b2, KO, Kl _ hT, (I.bs _ _ b3).1, b4, b5, b6⟩ fun qq h' tk hk hsz => ?_
   . simp [TriplesOk, rawInt]
   . exact codeAmong_snoc [] trivial rfl
   have J2 : Inv X pins σ H { s with heap := h'.push (kla_obj "<lambda>" (X.env.qual ++ "<lambda>") params body scope bQ ((X.mg "__name__").getD .none) c' qq), toks := tk } := I.kept fun b u e => Heap.get?_push_of_some _ (hk b u e)
   exact h h'.objs.size c' _ qq _ _ (Gd J2 hsz (I.aK.fresh hsz) (fun v z => by cases z) rfl) lb Mv.refl (.inr ⟨c', Lf, hT, lb⟩)
end
def mB (qual : Str) (scope : Scope) (L g : Addr) (cd : Value) (bQ : List (Str × Addr)) : Env := newEnv scope L mainGlobals bQ (qual ++ ".<locals>.") (some g) cd none builtinsNs
def qA (X : Cx) (A : Around) (N : List Str) (qual : Str) (scope : Scope) (g : Addr) (cd : Value) (bQ : List (Str × Addr)) (s : Shared) (H : Hp) : Cx where
 prog := X.prog
 w := X.w
 K := X.K
 mg := X.mg
 base := X.base
 A := A.deeper (mB qual scope s.heap.objs.size g cd bQ)
 N := N
 cA := s
 vu := H
 env := mB qual scope s.heap.objs.size g cd bQ
 outer := X.stack
 stack := mB qual scope s.heap.objs.size g cd bQ :: X.stack
 ex := []
 fn := fun _ => false
 calm := true
 pn := []
 xe := fun _ _ => False
structure jP (N : List Str) (p : Str) (scope : Scope) : Prop where
 kind : scope.kind = .function
 co : scope.isCoroutine = false
 gen : scope.isGenerator = false
 nd : N.Nodup
 pre : N[0]? = some p
 par : scope.names.lookup p = some .local
 we : ∀ y ∈ scope.names, y.2 ≠ .cell
def vW (X : Cx) (σ : St) (N : List Str) (scope : Scope) (v : V) (σ' : St) : Prop := σ'.length = N.length /\ σ'[0]? = some (some v) /\ ∀ (i : Nat) (x : Str) (w : V), 0 < i -> N[i]? = some x -> σ'[i]? = some (some w) -> scope.names.lookup x = some .free /\ ∃ j : Nat, X.N[j]? = some x /\ σ[j]? = some (some w) /\ (X.env.kindOf x = some .cell \/ X.env.kindOf x = some .free)
section
variable {X : Cx} {pins : List (Addr × Obj)} {σ σ' : St} {H : Hp} {s : Shared} {A : Around} {N : List Str} {p name qual : Str} {params : Arguments} {body : Expr} {scope : Scope} {bQ : List (Str × Addr)} {g c' : Addr} {pm qq : Value} {v : V} {u : Value} {k : Nat} {Q : VK} {te : TE}
theorem uI {h1 : Heap} {tk : Nat} {cd : Value} (I : Inv X pins σ H s) (hA : A.frames = some X.stack) (hh : A.handled = none) (S : jP N p scope) (gW : ∀ x c, bQ.lookup x = some c -> X.env.cells.lookup x = some c) (kL : ∀ x, scope.names.lookup x = some .free -> ∃ c, bQ.lookup x = some c)
 (kW : vW X σ N scope v σ') (rv : RelV v u) (vC : h1.Ns s.heap.objs.size fun x => [(p, u)].reverse.lookup x) (hk : ∀ b o, s.heap.get? b = some o -> h1.get? b = some o) : Inv (qA X A N qual scope g cd bQ s H) [] σ' H { s with heap := h1, toks := tk } := by
 obtain ⟨hlen, h0, I9⟩ := kW
 have e0 := I.ve
 have yo : ∀ b : Addr, b ∉ (qA X A N qual scope g cd bQ s H).ex := fun b z => absurd (show b ∈ ([] : List Addr) from z) (by simp)
 refine ⟨⟨e0.mod, S.kind, rfl, rfl, Nat.le_refl _, fun y z c h1 h2 => I.ok.inj y z c (gW _ _ h1) (gW _ _ h2), fun y hy => ?_, fun y c h => (nomatch (show false = true from h)), fun _ => hh, Around.frames_deeper hA, .inr ⟨rfl, rfl⟩, fun b z => absurd z (yo b), e0.bs, e0.rC, fun b _ _ => yo b, fun b z => absurd z (yo b), e0.ie, e0.uF⟩,
  rfl, I.bare, Un.kept hk, ⟨_, vC, fun i y w yc h2 h3 => ?_⟩, fun y c h => ?_, e0.aK.fresh (Nat.le_refl _), fun y c h => I.c9 y c (gW y c h), fun p hp => absurd (show p ∈ ([] : List (Addr × Obj)) from hp) (by simp), e0.aK.kept hk, hlen⟩
 . have hy : scope.names.lookup y = some .cell \/ scope.names.lookup y = some .free := hy
   rcases hy with hy | hy
   . exact absurd rfl (S.we _ (PySem.mem_of_lookup hy))
   . exact kL y hy
 . by_cases hi : i = 0
   . subst hi
     have e1 : N[0]? = some y := yc
     rw [S.pre] at e1; cases e1
     rw [h0] at h2; cases h2
     exact ⟨u, rv, .inl ⟨S.par, by simp⟩⟩
   . obtain ⟨hf, j, hj, M4, KG⟩ := I9 i y w (by omega) yc h2
     obtain ⟨c, hc⟩ := kL y hf
     have IQ : BQ X.env.scope y := by
      rcases KG with z | z
      . exact .inr (.inl z)
      . exact .inr (.inr z)
     obtain ⟨m, _, hl⟩ := I.loc
     obtain ⟨u', ru, l⟩ := hl j y w hj M4 IQ
     rcases l with ⟨z, _⟩ | ⟨_, c2, e2, e3⟩
     . rcases KG with y' | y' <;> (rw [z] at y'; cases y')
     . have e4 := gW y c hc
       rw [e2] at e4; cases e4
       refine ⟨u', ru, .inr ⟨.inr hf, _, hc, ?_⟩⟩
       obtain ⟨o, ho, hd⟩ := e3
       exact ⟨o, hk _ _ ho, hd⟩
 . obtain ⟨w, o, ho, hd⟩ := I.cell y c (gW y c h)
   exact ⟨w, o, hk _ _ ho, hd⟩
theorem zO (I : Inv X pins σ H s) (hA : A.frames = some X.stack) (hr : a8 (k + 1) A) (S : jP N p scope) (gW : ∀ x c, bQ.lookup x = some c -> X.env.cells.lookup x = some c) (kL : ∀ x, scope.names.lookup x = some .free -> ∃ c, bQ.lookup x = some c)
 (hp : (g, kla_obj name qual params body scope bQ pm c' qq) ∈ pins) (mq : s.heap.CodeRec (.ref c') qual) (xY : bindArgs (kla_fn name qual params body scope bQ pm (.ref c') qq) ⟨[u], []⟩ = pure [(p, u)]) (kW : vW X σ N scope v σ') (rv : RelV v u)
 (ht : PE (qA X A N qual scope g (.ref c') bQ s H) body te) (hq : te σ' H Q) : codeAny (model X.prog X.w) A (.call (.ref g) ⟨[u], []⟩) (CR ng X.stack X.prog X.w H s Q E0) s := by
 have hg := (I.pin _ (List.mem_append_right _ hp)).1
 refine kla_callFunE hr.depth hg rfl S.co S.gen rfl mq ?_
 rw [xY]
 refine wpAny_pure (wpAny_newFunctionEnv S.we (fun y hy => ?_) (fun h1 vC K4 => ?_) S.kind)
 . rw [List.mem_singleton.mp hy]; exact S.par
 have hk : ∀ b o, s.heap.get? b = some o -> h1.get? b = some o := fun b o e => K4.extBut b o (Nat.ne_of_lt (Heap.lt_size e)) (Heap.get?_push_of_some _ e)
 refine ⟨I.nolimit.keeps hk, kla_codeExpr ?_⟩
 have J := uI (qual := qual) (g := g) (cd := .ref c') (tk := s.toks + 1) I hA hr.hd S gW kL kW rv vC hk
 refine wpAny_mono (ht [] _ σ' H Q J hq) (fun w s' h => ?_) fun _ _ h => h.elim
 obtain ⟨v', H', J', r', q'⟩ := h
 exact ⟨v', H', J'.os, J'.bare, J'.base, J'.aK, r', q'⟩
end
section
variable {X : Cx} {pins : List (Addr × Obj)} {σ : St} {H : Hp} {s : Shared} {f a : Addr} {sp : Sp} {kf : V -> Int × Str} {A : Around}
def pJ (X : Cx) (pins : List (Addr × Obj)) (σ : St) (H : Hp) (f : Addr) (sp : Sp) : Prop := ∀ (pl : List (Addr × Obj)) (s' : Shared) (H' : Hp) (v : V) (u : Value) (Q : VK), Inv X pl σ H' s' -> (∀ p ∈ pins, p ∈ pl) -> aB H H' -> RelV v u -> sp [v] H' Q E0 ->
 wpAny (model X.prog X.w) X.A.in1.in1 (call (.ref f) [u]) (EP X pl σ Q) (fun _ _ => False) s'
theorem me {kS : Addr} {oa : Obj} {body : Value -> PUnit -> Sem (ForInStep PUnit)} {E : Value -> Shared -> Prop} (KC : pJ X pins σ H f sp) (Kb : ∀ v, oa.data ≠ .cell v)
 (jd : ∀ x (s' : Shared) (R : Shared -> Prop), wpAny (model X.prog X.w) X.A.in1.in1 (call (.ref f) [x]) (fun k s2 => ∃ us e, s2.heap.get? kS = some (seqObj "list" (List.toArray us) e) /\ us.length < 64 /\ R { s2 with heap := s2.heap.update kS (Obj.mapSeq (·.push k)) }) (fun _ _ => False) s' ->
  wpAny (model X.prog X.w) X.A.in1.in1 (body x ⟨⟩) (fun r s2 => r = .yield ⟨⟩ /\ R s2) E s')
 (fa : eY X pins H a) (fk : eY X pins H kS) (x9 : a ≠ kS) : ∀ (rx : List V) (r : List Value) (xs : List V) (s' : Shared), Vals rx r -> sW sp kf H rx -> xs.length + rx.length < 64 -> BA X pins σ H kf a kS oa xs s' ->
  wpAny (model X.prog X.w) X.A.in1.in1 (forIn r PUnit.unit body) (fun _ s2 => BA X pins σ H kf a kS oa (xs ++ rx) s2) E s'
 | [], _, xs, s', hv, _, _, hK => by
   cases hv
   rw [List.forIn_nil, List.append_nil]
   exact wpAny_pure hK
 | v :: rx, _, xs, s', .cons (b := u) (l₂ := r) hu hv, Kh, hlen, ⟨H', us, e, ys, I, sm, ha, hk, MN, LA, rv, dv⟩ => by
   rw [List.forIn_cons]
   have N8 := fa.keep (H' := H') ha
   have Nn := fk.keep (H' := H') hk
   have I' : Inv X (pins ++ [(a, oa), (kS, seqObj "list" (List.toArray us) e)]) σ H' s' := by
    refine I.gK fun p hp => ?_
    rcases List.mem_append.mp hp with hp | hp
    . exact I.pin p (List.mem_append_right _ hp)
    . rcases List.mem_cons.mp hp with rfl | hp
      . exact ⟨MN, ha, fa.2.1, fa.2.2.1, Kb⟩
      . have : p = (kS, seqObj "list" (List.toArray us) e) := by simpa using hp
        subst this
        exact ⟨LA, hk, fk.2.1, fk.2.2.1, fun v z => by cases z⟩
   have G3 : us.length = xs.length := by rw [<- rv.length, dv.length, List.length_map]
   refine wpAny_bind (wpAny_mono (jd u s' (fun s2 => BA X pins σ H kf a kS oa (xs ++ [v]) s2) (wpAny_mono (KC _ s' H' v u _ I' (fun p hp => List.mem_append_left _ hp) sm hu (Kh v List.mem_cons_self H' sm)) (fun kv s2 hq => ?_) fun _ _ z => z)) (fun q s2 hq => ?_) fun _ _ z => z)
   . obtain ⟨y, H2, I2, ry, lP, dy⟩ := hq
     have p1 := I2.pin (a, oa) (List.mem_append_right _ (List.mem_append_right _ List.mem_cons_self))
     have p2 := I2.pin (kS, seqObj "list" (List.toArray us) e) (List.mem_append_right _ (List.mem_append_right _ (List.mem_cons_of_mem _ List.mem_cons_self)))
     have I3 : Inv X pins σ H2 s2 := I2.ip
     refine ⟨us, e, p2.1, by simp at hlen; omega, ?_⟩
     obtain ⟨c, hc⟩ : ∃ c, (s2.heap.update kS (Obj.mapSeq (·.push kv))).get? kS = some (seqObj "list" (List.toArray (us ++ [kv])) c) := by
      have ea : (List.toArray us).push kv = List.toArray (us ++ [kv]) := by simp
      rw [<- ea]
      exact ⟨_, get?_update_seq p2.1 (·.push kv)⟩
     refine ⟨H2, us ++ [kv], c, ys ++ [y], I3.zx (fk.keep p2.2.1), sm.trans lP, p1.2.1, p2.2.1, ?_, hc, rv.append (.cons ry .nil), ?_⟩
     . show (s2.heap.update kS _).get? a = some oa
       rw [Heap.get?_update_ne _ _ _ _ x9]; exact p1.1
     . rw [List.map_append]
       exact (dv.keeps lP).append (.cons dy .nil)
   . obtain ⟨rfl, hq⟩ := hq
     have := me KC Kb jd fa fk x9 rx r (xs ++ [v]) s2 hv (fun z hz => Kh z (List.mem_cons_of_mem _ hz)) (by simp at hlen ⊢; omega) hq
     rw [List.append_assoc] at this
     exact this
theorem qK {l : Addr} {xs : List V} {Q : VK} {E : Value -> Shared -> Prop} (I : Inv X pins σ H s) (h64 : xs.length < 64) (Hw : ∀ (R : List Value -> Shared -> Prop) (E' : Value -> Shared -> Prop), (∀ vs s2, Vals xs vs -> Inv X pins σ H s2 -> R vs s2) -> wpAny (model X.prog X.w) X.A.in1 (collect (.ref l)) R E' s) (KC : pJ X pins σ H f sp)
 (hk : sW sp kf H xs) (fin : um X pins σ H dJ kf xs Q) : wpAny (model X.prog X.w) X.A (call (.builtin "sorted") [.ref l] [(Str.ofString "key", .ref f)]) (EP X pins σ Q) E s := by
 have FV : (64 : Nat) <= sizeLine := by decide
 refine call_function_entry_kw kind_sorted plain_sorted entry_sorted (ksk_s1 _ _) ?_
 unfold Builtin.«sorted»
 refine wpAny_bind (m := checkCount "sorted" 1 1 _) (wpAny_pure ?_)
 refine wpAny_bind (Hw _ _ fun vs s2 rv I2 => ?_)
 have lx := rv.length
 refine wpAny_bind (wpAny_newList ?_ (by omega))
 obtain ⟨h2, g2, d2, t2, o2⟩ := s2
 have D5 : (h2.push (seqObj "list" vs.toArray 0)).get? h2.objs.size = some (seqObj "list" vs.toArray 0) := Heap.get?_push_size _ rfl
 have I3 : Inv X pins σ H (⟨h2.push (seqObj "list" vs.toArray 0), g2, d2, t2, o2⟩ : Shared) := I2.tJ
 have fa : eY X pins H h2.objs.size := I2.u6 (Nat.le_refl _) (I2.aK.fresh (Nat.le_refl _))
 have Ar : X.cA.heap.objs.size <= h2.objs.size := I2.sz
 show wpAny _ _ _ _ _ (⟨h2.push (seqObj "list" vs.toArray 0), g2, d2, t2, o2⟩ : Shared)
 generalize h2.objs.size = a at *
 refine wpAny_bind (wpAny_holding (wpAny_call_entry_kw slot_list_sort ⟨_, D5, rfl⟩ entry_list_sort ?body (ksk_l1 _ _)))
 case body =>
  show wpAny (model X.prog X.w) X.A.in1.in1 (Builtin.«list.sort» ⟨[.ref a], [(Str.ofString "key", .ref f)]⟩) _ _ _
  rw [ksk_t1]
  generalize h2.push (seqObj "list" vs.toArray 0) = h3 at *
  unfold ksk_tree
  refine wpAny_bind (listItems_at D5 rfl ?_)
  refine wpAny_bind (listUpdate_at D5 rfl ?_ (by rw [List.size_toArray]; omega) (Nat.zero_le _))
  have I4 : Inv X pins σ H (⟨h3.update a (Obj.mapSeq fun _ => (#[] : Array Value)), g2, d2, t2, o2⟩ : Shared) := I3.zx fa
  obtain ⟨e1, oa⟩ : ∃ e1, (h3.update a (Obj.mapSeq fun _ => (#[] : Array Value))).get? a = some (seqObj "list" #[] e1) := ⟨_, get?_update_seq D5 fun _ => #[]⟩
  generalize h3.update a (Obj.mapSeq fun _ => (#[] : Array Value)) = h4 at *
  refine wpAny_bind (seqEpoch_at oa rfl ?_)
  refine wpAny_bind (wpAny_newTuple ?_ (by show vs.length <= _; omega))
  have I5 : Inv X pins σ H (⟨h4.push (seqObj "tuple" vs.toArray 0), g2, d2, t2, o2⟩ : Shared) := I4.tJ
  have Jy : (h4.push (seqObj "tuple" vs.toArray 0)).get? a = some (seqObj "list" #[] e1) := Heap.get?_push_of_some _ oa
  show wpAny _ _ _ _ _ (⟨h4.push (seqObj "tuple" vs.toArray 0), g2, d2, t2, o2⟩ : Shared)
  generalize h4.push (seqObj "tuple" vs.toArray 0) = h5 at *
  refine wpAny_bind (wpAny_newList ?_ (Nat.zero_le _))
  have I6 : Inv X pins σ H (⟨h5.push (seqObj "list" #[] 0), g2, d2, t2, o2⟩ : Shared) := I5.tJ
  have fk : eY X pins H h5.objs.size := I5.u6 (Nat.le_refl _) (I5.aK.fresh (Nat.le_refl _))
  have LZ : (h5.push (seqObj "list" #[] 0)).get? a = some (seqObj "list" #[] e1) := Heap.get?_push_of_some _ Jy
  have MS : (h5.push (seqObj "list" #[] 0)).get? h5.objs.size = some (seqObj "list" #[] 0) := Heap.get?_push_size _ rfl
  have x9 : a ≠ h5.objs.size := Nat.ne_of_lt (Heap.lt_size Jy)
  show wpAny _ _ _ _ _ (⟨h5.push (seqObj "list" #[] 0), g2, d2, t2, o2⟩ : Shared)
  show wpAny _ _ (holding [_, .ref h5.objs.size] (ksk_rest a (.ref f) false vs.toArray e1 (.ref h5.objs.size))) _ _ _
  generalize h5.objs.size = kS at *
  generalize h5.push (seqObj "list" #[] 0) = h6 at *
  refine wpAny_holding ?_
  unfold ksk_rest
  refine wpAny_bind (wpAny_rule ?_)
  first
   | rw [List.forIn_toArray]
   | (rw [<- Array.forIn_toList]; simp only [List.toList_toArray])
  refine wpAny_bind (wpAny_mono (me (kf := kf) KC (oa := seqObj "list" #[] e1) (fun v z => by cases z) (fun x s' R hx => ?_) fa fk x9 xs vs [] (⟨h6, g2, d2, t2, o2⟩ : Shared) rv hk (by simpa using h64) ⟨H, [], 0, [], I6, aB.refl _, fa.1, fk.1, LZ, MS, .nil, .nil⟩) (fun _ s7 hK => ?_) fun _ _ z => z)
  . refine wpAny_bind (wpAny_attempt (wpAny_mono hx (fun kv s2 hq => ?_) fun _ _ z => z.elim))
    obtain ⟨us, e, ok, n6, hR⟩ := hq
    dsimp only
    refine wpAny_bind (listUpdate_at ok rfl ?_ (by rw [List.size_toArray]; omega) (by rw [Array.size_push, List.size_toArray]; omega))
    exact wpAny_pure ⟨rfl, hR⟩
  . obtain ⟨H', us, e, ys, I7, sm, K2, MX, LK, Ks, ry, dv⟩ := hK
    try dsimp only
    refine wpAny_bind (listItems_at Ks rfl ?_)
    refine xU sm fa.1 I7 (fa.keep K2) (fk.keep MX) x9 Ar LK Ks h64 rv ry (by simpa using dv) fin (fun s8 h8 => ⟨_, rfl, wpAny_pure ⟨_, rfl, h8⟩⟩)
end
def uf (te : TE) (js : List Nat) (σ : St) : Sp := fun vs H Q _ => ∃ v, vs = [v] /\ te (some v :: js.map fun j => σ.getD j none) H Q
structure rn (X : Cx) (P : Addr) (params : Arguments) (scope : Scope) (p : Str) (xs : List Str) (js : List Nat) : Prop where
 sc : jP (p :: xs) p scope
 cd : ∃ c, X.env.code = .ref c /\ CodeHd X.base c P
 bm : BM X.mg X.base
 df : defaultsOf params X.env = ([], [])
 bd : ∀ (name qual : Str) (body : Expr) (bQ : List (Str × Addr)) (pm cv qq u : Value), bindArgs (kla_fn name qual params body scope bQ pm cv qq) ⟨[u], []⟩ = pure [(p, u)]
 cl : X.Ok -> ∃ bQ, closureFor scope X.env = pure bQ /\ (∀ x c, bQ.lookup x = some c -> X.env.cells.lookup x = some c) /\ ∀ x, scope.names.lookup x = some .free -> ∃ c, bQ.lookup x = some c
 st : ∀ (i : Nat) (x : Str), xs[i]? = some x -> scope.names.lookup x = some .free /\ ∃ j : Nat, js[i]? = some j /\ X.N[j]? = some x /\ (X.env.kindOf x = some .cell \/ X.env.kindOf x = some .free)
 ln : js.length = xs.length
section
variable {X : Cx} {pins : List (Addr × Obj)} {σ : St} {H : Hp} {s : Shared} {P : Addr} {params : Arguments} {body : Expr} {scope : Scope} {p : Str} {xs : List Str} {js : List Nat} {te : TE} {k : Nat} {pos : Pos}
theorem rn.Fc (L : rn X P params scope p xs js) (v : V) : vW X σ (p :: xs) scope v (some v :: js.map fun j => σ.getD j none) := by
 refine ⟨by simp [L.ln], rfl, fun i x w hi hx hw => ?_⟩
 obtain ⟨i, rfl⟩ : ∃ i', i = i' + 1 := ⟨i - 1, by omega⟩
 obtain ⟨h1, j, h2, h3, h4⟩ := L.st i x (by simpa using hx)
 refine ⟨h1, j, h3, ?_, h4⟩
 have hw : (js.map fun j => σ.getD j none)[i]? = some (some w) := by simpa using hw
 rw [List.getElem?_map, h2] at hw
 have hw : σ.getD j none = some w := by simpa using hw
 rw [List.getD_eq_getElem?_getD] at hw
 cases e : σ[j]? with
 | none => rw [e] at hw; cases hw
 | some o => rw [e] at hw; rw [show o = some w from hw]
theorem yq {pl : List (Addr × Obj)} {H1 : Hp} {g c' : Addr} {pm qq : Value} {bQ : List (Str × Addr)} (L : rn X P params scope p xs js) (hr : a8 (k + 3) X.A) (gW : ∀ x c, bQ.lookup x = some c -> X.env.cells.lookup x = some c) (kL : ∀ x, scope.names.lookup x = some .free -> ∃ c, bQ.lookup x = some c)
 (hp : (g, kla_obj "<lambda>" (X.env.qual ++ "<lambda>") params body scope bQ pm c' qq) ∈ pl) (hc : H1 c' = some (mZ c' (X.env.qual ++ "<lambda>")))
 (hb : ∀ (A : Around) (g : Addr) (cd : Value) (bQ : List (Str × Addr)) (s : Shared) (H : Hp), a8 k (A.deeper (mB (X.env.qual ++ "<lambda>") scope s.heap.objs.size g cd bQ)) -> PE (qA X A (p :: xs) (X.env.qual ++ "<lambda>") scope g cd bQ s H) body te) : pJ X pl σ H1 g (uf te js σ) := by
 intro N5 s' H' v u Q I' I9 sm rv hs
 obtain ⟨_, e, hq⟩ := hs
 obtain rfl := (List.cons.inj e).1
 have JX : a8 (k + 1) X.A.in1.in1 := a8.in1 (a8.in1 hr)
 have Lc : s'.heap.CodeRec (.ref c') (X.env.qual ++ "<lambda>") := (I'.aK c' _ (sm _ _ hc)).1
 have Iw : X.A.in1.in1.frames = some X.stack := I'.ve.in1.in1.frames
 refine wpAny_call (codeAny_mono (zO (k := k) I' Iw JX L.sc gW kL (I9 _ hp) Lc (L.bd _ _ _ _ _ _ _ u) (L.Fc v) rv (hb _ _ _ _ _ _ (JX.deeper _)) hq) fun r s2 hq => ?_)
 cases r with
 | error e => exact hq.elim
 | ok fl =>
   cases fl with
   | ret u => exact I'.after hq
   | next => exact False.elim hq
   | brk => exact False.elim hq
   | cont => exact False.elim hq
def pU (sp : Sp) (vs : List V) (H : Hp) (Q : VK) : Prop := ∃ p kvs kf, vs = [.ref p] /\ Rd H p (.dK kvs) /\ kvs.length < 64 /\ sW sp kf H (kvs.map fun kv => kV kv.1) /\ ∀ l ys H', aB H H' -> H l = none -> H' l = none -> pA dJ kf ys (kvs.map fun kv => kV kv.1) -> Q (.ref l) (upd H' l (.lst ys))
def tV (P : Addr) (pos : Pos) (q : Str) (te : TE) (js : List Nat) (t : TA) : TE := fun σ H Q => t σ H fun vs H1 => TabAt H1 P pos q /\ ∀ H2, Mv [P] H1 H2 -> TabAt H2 P pos q -> pU (uf te js σ) vs H2 Q
variable {e : Expr} {t : TA} {pn p2 dG B3 : Pos}
theorem vr (lg : X.calm = true) (L : rn X P params scope p xs js) (hr : a8 (k + 3) X.A) (hg : Gl X "sorted") (hm : X.mg "sorted" = none) (ha : PA X [e] t)
 (hb : ∀ (A : Around) (g : Addr) (cd : Value) (bQ : List (Str × Addr)) (s : Shared) (H : Hp), a8 k (A.deeper (mB (X.env.qual ++ "<lambda>") scope s.heap.objs.size g cd bQ)) -> PE (qA X A (p :: xs) (X.env.qual ++ "<lambda>") scope g cd bQ s H) body te)
 (kW : backTo dG (starEach [e] X.env) = (false, eval e X.env) :: backTo dG (starEach [] X.env) := by rfl) (kr : (backTo dG (starEach [e] X.env)).any (·.1) = false := by rfl) :
 PE X (.Call (.Name "sorted" pn) [e] [⟨some "key", .Lambda params body scope pos, B3⟩] dG) (tV P pos (X.env.qual ++ "<lambda>") te js t) := by
 intro pins s σ H Q I h
 obtain ⟨c, mq, hC⟩ := L.cd
 obtain ⟨bQ, HU, gW, kL⟩ := L.cl I.ok
 refine wpAny_Call_Name_kw (jv I hg hm boot_sorted ?_)
 refine callWith_kw (cg (ha dG pins s σ H _ I h) fun us s1 ⟨vs, H1, I1, r1, hT, q1⟩ => ?_) kW kr
 refine wpAny_evalAll_cons (wpAny_bind (xK I1 mq hC L.bm hT L.df HU fun g c' pm qq H2 s2 I2 hc mv CQ => wpAny_bind (wpAny_standAt (wpAny_pure (wpAny_evalAll_nil ?_)))))
 obtain ⟨d, kvs, kf, e1, hd, h64, hk, fin⟩ := q1 H2 mv CQ
 subst e1
 obtain ⟨u, rfl, ru⟩ := vals1 r1
 have e1 : u = .ref d := ru
 subst e1
 have ob : bo X.prog X.w H2 s2.heap d (.dK kvs) := by
  rcases hd with e | ⟨o, e⟩
  . exact I2.aK d _ e
  . exact (I2.aK d _ e).2
 obtain ⟨hz, hs, vs, kv, Mf⟩ := ob
 obtain ⟨ep, da⟩ := Mf.dictAt
 have hlen : vs.length = kvs.length := kv.length.symm
 refine wpAny_mono (qK (E := X.xe) (xs := kvs.map fun kv => kV kv.1) I2 (by rw [List.length_map]; exact h64) (fun R E' hR => ?_) (yq (P := P) (k := k) L hr gW kL (List.mem_append_right _ (List.mem_singleton.mpr rfl)) hc hb) hk (fun a ys H' => fin a ys H')) (fun w s3 hq => ?_) fun _ _ z => z
 . refine kdu_collect (kdl_dict (knd := bM X.prog X.w) (kvs := vs) (ep := ep) hs) ?_ da (by rw [hlen]; exact hz) fun h' tk acc tU gy => hR acc.toList _ (rY kv gy) (I2.kept tU)
   exact I2.ok.hd lg
 . obtain ⟨v, H3, I3, r3, q3⟩ := hq
   exact ⟨v, H3, I3.ip, r3, q3⟩
end
theorem u9 {P : Program} {w : World} {K : PySem.W.Frag} {mg mb : Str -> Option Value} {CX : p0} {k : Nat} {fa a : Addr} {fd : FuncData} {x : Str} {sp : Sp} {s₁ : Shared} {vs : List Value} {ns : List Int} {ts : List Addr}
 (KX : K.In s₁.heap) (vC : s₁.heap.Ns mainGlobals mg) (hb : s₁.heap.Ns builtinsNs mb) (ML : ∀ x : Str, x ≠ "__name__" -> mb x = bootBuiltins x) (IA : s₁.heap.NoLimit) (HI : BM mg s₁.heap) (rQ : ∀ b ∈ ts, s₁.heap.get? b = some (tabObj #[]) /\ K.lookup b = none /\ ∃ c, CodeHd s₁.heap c b) (hg : s₁.gens = #[])
 (ha : s₁.heap.get? a = some { cls := .type "list", data := .seq vs.toArray }) (hi : IntsAre vs ns) (hl : ns.length <= sizeLine) (hr : a8 k callerA)
 (F : ∀ base : Heap, K.In base -> base.Ns mainGlobals mg -> BM mg base -> bw P w K mg base CX k fa fd [x] sp) (xY : ∀ (s : Shared) (u : Value), BindsTo s fd ⟨[u], []⟩ [(x, u)])
 (uo : ∀ H : Hp, fL K H a (ns.map V.int) -> (∀ b ∈ ts, H b = some (.iX #[])) -> sp [.ref a] H (fun v _ => v = .bl true) fun _ _ _ => False)
 (HA : ∀ H e s', CX [] H s₁ (fun _ _ _ => False) e s' -> False) :
 codeAny (model P w) callerA (.call (.ref fa) ⟨[.ref a], []⟩) (fun r s' => r = .ok (.ret (.bool true)) /\ OldK s₁.heap s'.heap /\ s'.os = s₁.os /\ AllBare s'.gens) s₁ := by
 have rv := oI hi
 have HB := hi.length
 have core : ∀ H : Hp, fL K H a (ns.map V.int) -> iU P w H s₁.heap -> (∀ b, H b = none \/ (b = a /\ ∃ o xs, H b = some (.rX o (.lst xs))) \/ (b ∈ ts /\ H b = some (.iX #[]))) -> (∀ b ∈ ts, H b = some (.iX #[])) -> (H a ≠ none -> K.lookup a = none) ->
  codeAny (model P w) callerA (.call (.ref fa) ⟨[.ref a], []⟩) (fun r s' => r = .ok (.ret (.bool true)) /\ OldK s₁.heap s'.heap /\ s'.os = s₁.os /\ AllBare s'.gens) s₁ := by
  intro H hS aK hA LY hK
  have pH : ∀ {b : Addr} {o : Obj}, s₁.heap.get? b = some o -> H b = none -> (nV s₁.heap H).get? b = some o := fun e n => x4 e n
  have yo : ∀ {b : Addr} {o : Obj} {es : Array DictEntry} {ep : Nat}, s₁.heap.get? b = some o -> o.data = .dict es ep -> H b = none := fun {b o es ep} e d => by
   cases q : H b with
   | none => rfl
   | some u =>
     rcases hA b with z | ⟨e', _⟩ | ⟨hb, _⟩
     . rw [q] at z; cases z
     . subst e'
       rw [ha] at e; cases e
       have d' : Data.seq vs.toArray _ = Data.dict es ep := d
       cases d'
     . rw [(rQ b hb).1] at e; cases e
       have d' : Data.fields #[] = Data.dict es ep := d
       cases d'
  have GD : ∀ {b : Addr} {m : Str -> Option Value}, s₁.heap.Ns b m -> (nV s₁.heap H).Ns b m := fun {b m} ⟨o, es, ep, e, d, r⟩ => ⟨o, es, ep, pH e (yo e d), d, r⟩
  have Ke : K.In (nV s₁.heap H) := fun b o e => pH (KX b o e) (by
   cases q : H b with
   | none => rfl
   | some u =>
     rcases hA b with z | ⟨e', _⟩ | ⟨hb, _⟩
     . rw [q] at z; cases z
     . subst e'
       rw [hK (by rw [q]; simp)] at e; cases e
     . rw [(rQ b hb).2.1] at e; cases e)
  have Nh : BM mg (nV s₁.heap H) := by
   obtain ⟨bm, ob, b1, b2, b3, b4, b5, b6⟩ := HI
   refine ⟨bm, ob, b1, b2, pH b3 ?_, b4, b5, b6⟩
   rcases hA bm with z | ⟨e', _⟩ | ⟨hb, _⟩
   . exact z
   . rw [e', ha] at b3; cases b3; exact absurd (Value.type.inj b4) (by decide)
   . rw [(rQ bm hb).1] at b3; cases b3; cases b4
  have hM : Mod K mg (nV s₁.heap H) := ⟨Ke, GD vC, ⟨mb, GD hb, ML⟩, let ⟨mc, h1, h2⟩ := IA; ⟨mc, GD h1, h2⟩⟩
  have e0 : nZ P w K mg (nV s₁.heap H) callerA [] s₁ H := ⟨rfl, hM, fun b o e => Ab e, Nat.le_of_eq (vt _ _), trivial, fun b hb => absurd (show b ∈ ([] : List Addr) from hb) (by simp), aK, .of_eq hg⟩
  refine codeAny_mono ((F _ Ke (GD vC) Nh).run callerA [] s₁ H ⟨[.ref a], []⟩ [.ref a] [.ref a] _ _ hr e0 (xY s₁ (.ref a)) (.cons rfl .nil) (uo H hS LY)) fun r s' h => ?_
  cases r with
  | error e => exact (HA H e s' h).elim
  | ok fl =>
    cases fl with
    | next => exact False.elim h
    | brk => exact False.elim h
    | cont => exact False.elim h
    | ret u =>
      obtain ⟨v, H', os, bare, un, F1, r', q⟩ := h
      have q' : v = .bl true := q
      subst q'
      obtain rfl : u = Value.bool true := r'
      have key : ∀ b o, s₁.heap.get? b = some o -> s'.heap.get? b = some o \/ (b ∈ ts /\ o = tabObj #[] /\ ∃ more, s'.heap.get? b = some (tabObj (#[] ++ more))) := fun b o e => by
       rcases hA b with q | ⟨_, ob, xs, z⟩ | ⟨hb, z⟩
       . exact .inl (un.keep b o e q (by intro z; exact absurd (show b ∈ ([] : List Addr) from z) (by simp)) (by simp))
       . have z2 := un.ic b ob _ z
         obtain ⟨e1, _⟩ := aK b _ z
         obtain ⟨e2, _⟩ := F1 b _ z2
         rw [e] at e1; cases e1
         exact .inl e2
       . obtain ⟨more, z2⟩ := un.i5 b _ z
         have e1 := (rQ b hb).1
         rw [e] at e1; cases e1
         exact .inr ⟨hb, rfl, more, F1 b _ z2⟩
      refine ⟨rfl, ⟨fun b o e => ?_, fun b o e => ?_⟩, os, bare⟩
      . rcases key b o e with z | ⟨hb, rfl, more, z⟩
        . exact .inl z
        . obtain ⟨h1, _, c, hC⟩ := rQ b hb
          exact .inr (.inl ⟨(hC.tab h1).isCodeTable, rfl, #[], more, rfl, z⟩)
      . rcases key b o e with z | ⟨_, _, more, z⟩
        . exact ⟨_, z⟩
        . exact ⟨_, z⟩
 have nat : ∀ b ∈ ts, b ≠ a := fun b hb z => by
  have := (rQ b hb).1
  rw [z, ha] at this; cases this
 have Kp : ∀ (H : Hp) (b : Addr), b ∈ ts -> bo P w H s₁.heap b (.iX #[]) := fun H b hb => (rQ b hb).1
 cases hk : K.lookup a with
 | some o =>
   have e := KX a o hk
   rw [ha] at e
   cases e
   refine core (fun b => if b ∈ ts then some (.iX #[]) else none) (.inr ⟨_, vs.toArray, _, hk, rfl, rfl, rfl, by rw [List.size_toArray, HB]; exact hl, by simpa using rv⟩) (fun b u z => ?_) (fun b => ?_) (fun b hb => if_pos hb) (fun z => absurd (if_neg fun y => nat a y rfl) z)
   . by_cases hb : b ∈ ts
     . have z' := (if_pos hb).symm.trans z
       cases z'
       exact Kp _ b hb
     . have z' := (if_neg hb).symm.trans z
       cases z'
   . by_cases hb : b ∈ ts
     . exact .inr (.inr ⟨hb, if_pos hb⟩)
     . exact .inl (if_neg hb)
 | none =>
   have e1 : ∀ b, b ≠ a -> b ∈ ts -> (fun b => if b = a then some (HO.rX { cls := .type "list", data := .seq vs.toArray } (.lst (ns.map V.int))) else if b ∈ ts then some (.iX #[]) else none) b = some (.iX #[]) := fun b h1 h2 => by simp [h1, h2]
   have e2 : ∀ b, b ≠ a -> b ∉ ts -> (fun b => if b = a then some (HO.rX { cls := .type "list", data := .seq vs.toArray } (.lst (ns.map V.int))) else if b ∈ ts then some (.iX #[]) else none) b = none := fun b h1 h2 => by simp [h1, h2]
   refine core (fun b => if b = a then some (.rX { cls := .type "list", data := .seq vs.toArray } (.lst (ns.map V.int))) else if b ∈ ts then some (.iX #[]) else none) (.inl (.inr ⟨{ cls := .type "list", data := .seq vs.toArray }, if_pos rfl⟩)) (fun b u z => ?_) (fun b => ?_) (fun b hb => e1 b (nat b hb) hb) fun _ => hk
   . by_cases hb : b = a
     . have z' := (if_pos hb).symm.trans z
       cases z'
       subst hb
       exact ⟨ha, by rw [List.length_map]; exact hl, vs, _, rv, ha⟩
     . by_cases oE : b ∈ ts
       . have z' := (e1 b hb oE).symm.trans z
         cases z'
         exact Kp _ b oE
       . have z' := (e2 b hb oE).symm.trans z
         cases z'
   . by_cases hb : b = a
     . exact .inr (.inl ⟨hb, _, _, if_pos hb⟩)
     . by_cases oE : b ∈ ts
       . exact .inr (.inr ⟨oE, e1 b hb oE⟩)
       . exact .inl (e2 b hb oE)
theorem xC {l : PySem.W.OpenLaw} {n k : Nat} {q : Program} {loose : List Str} {XP : (Str -> Option Value) -> Heap -> Prop} {YP : World -> Heap -> Prop} {d : DefRec} {K : Params -> PySem.W.Frag} {CX : p0} {sp : List Addr -> PySem.W.Frag -> Sp} {x : Str} {ts : List Addr}
 (hn : l.most = some n) (CW : n <= sizeLine) (Ji : d.params.defaults = []) (hr : a8 k callerA)
 (hY : ∀ (w : World) (h : Heap), YP w h -> (K w.params).In h /\ ∀ b ∈ ts, h.get? b = some (tabObj #[]))
 (F : ∀ (w : World) (mg : Str -> Option Value) (fa : Addr) (h : Heap), (K w.params).In h -> h.Ns mainGlobals mg -> mg d.name = some (.ref fa) ->
  ∃ fd : FuncData, (∀ (s : Shared) (u : Value), BindsTo s fd ⟨[u], []⟩ [(x, u)]) /\ (∀ b ∈ ts, (K w.params).lookup b = none /\ ∃ c, CodeHd h c b) /\
    ∀ base : Heap, (K w.params).In base -> base.Ns mainGlobals mg -> BM mg base -> bw l.prog w (K w.params) mg base CX k fa fd [x] (sp ts (K w.params)))
 (uo : ∀ (K : PySem.W.Frag) (H : Hp) (a : Addr) (ns : List Int), ns.length <= n -> fL K H a (ns.map V.int) -> (∀ b ∈ ts, H b = some (.iX #[])) -> sp ts K [.ref a] H (fun v _ => v = .bl true) fun _ _ _ => False)
 (HA : ∀ (H : Hp) (s : Shared) (e : Value) (s' : Shared), CX [] H s (fun _ _ _ => False) e s' -> False) :
 PySem.W.WalkO q loose XP YP l.row.toRowW d [] (fun f vs => PySem.call f vs) := by
 refine JG.qF hn Ji fun w cA s₁ mg mb fa o pm cd doc a vs ns G Y ho hd mq Ca B1 hints hlen hg => ?_
 obtain ⟨KX, hT⟩ := hY w _ Y
 obtain ⟨fd, hb, hK, hF⟩ := F w mg fa _ KX G.T.g Ca
 exact u9 KX G.T.g G.T.b G.T.builtins G.T.nolimit G.T.bmain (fun b hb => ⟨hT b hb, hK b hb⟩) hg B1 hints (Nat.le_trans hlen CW) hr hF hb (fun H hS hT => uo (K w.params) H a ns hlen hS hT) fun H e s' => HA H s₁ e s'
structure Bh (K : PySem.W.Frag) (f c P : Addr) : Prop where
 fn : ∃ (oc : Value) (od : Option Addr) (fd : FuncData) (sl : Array (Option Value)), K.lookup f = some ⟨oc, od, .func fd, sl⟩ /\ fd.code = .ref c
 cd : codeHdIn K c P = true
 no : K.lookup P = none
theorem yn {K : PySem.W.Frag} {f c P : Addr} {oc : Value} {od Kx : Option Addr} {fd : FuncData} {sl Ec : Array (Option Value)} {vs : Array Value} (l : K.lookup f = some ⟨oc, od, .func fd, sl⟩) (e : fd.code = .ref c) (lc : K.lookup c = some ⟨.type "code", Kx, .fields vs, Ec⟩) (ev : vs.getD 11 .none = .ref P)
 (cd : codeHdIn K c P = true) (no : K.lookup P = none) : Bh K f c P := ⟨⟨oc, od, fd, sl, l, e⟩, cd, no⟩
structure FO (K : PySem.W.Frag) (fd : FuncData) (c P : Addr) : Prop where
 e : fd.code = .ref c
 cd : codeHdIn K c P = true
 no : K.lookup P = none
theorem y1 {K : PySem.W.Frag} {x qual : Str} {st : Stmt} {f c P : Addr} {dV : Value} {fd : FuncData} (F : cO K x qual st f dV fd) (L : Bh K f c P) : FO K fd c P := by
 obtain ⟨oc, od, kV, doc, pm, an, eh, ct, sV, rfl, lk, _⟩ := F.ex
 obtain ⟨NS, Kx, ND, Ec, l, e⟩ := L.fn
 rw [lk] at l
 cases l
 exact ⟨e, L.cd, L.no⟩
structure Bs (K : PySem.W.Frag) (mg : Str -> Option Value) (base : Heap) : Prop where
 k : K.In base
 b : BM mg base
section
variable {P : Program} {w : World} {K : PySem.W.Frag} {mg : Str -> Option Value} {base : Heap}
theorem cO.MJ {x qual : Str} {st : Stmt} {f : Addr} {dV : Value} {fd : FuncData} {N ps : List Str} {k : Nat} {sp : Sp} (F : cO K x qual st f dV fd) (S : aH N ps (ax st)) (len : ∀ vs H Q E, sp vs H Q E -> vs.length = ps.length)
 (jd : ∀ (A : Around) (outer : List Env) (s : Shared) (H : Hp) (vs : List V) (Q : VK) (E : XK), a8 k (A.deeper (envOfC qual (ax st) s.heap.objs.size f fd.code)) -> sp vs H Q E ->
  ∃ t, om (jT ng P w K mg base N qual (ax st) f fd.code A outer s H E).zc (fR st) t /\ t { nx := fun _ H' => Q .aY H', rt := Q } (start N vs) H) : bw P w K mg base ng (k + 1) f fd ps sp := by
 obtain ⟨oc, od, kV, doc, pm, an, eh, ct, sV, rfl, lk, mq⟩ := F.ex
 refine wK lk mq S len fun A outer s H vs Q E hr uo => ?_
 obtain ⟨t, h, q⟩ := jd A outer s H vs Q E hr uo
 exact ⟨t, h.zc, q⟩
end
section
variable {X : Cx} {P : Addr} {params : Arguments} {scope : Scope} {p x : Str} {j : Nat}
theorem yM (hf : (scope.names.filter fun y => y.2 == .free).map (·.1) = [x]) (hx : X.env.kindOf x = some .cell \/ X.env.kindOf x = some .free) : X.Ok -> ∃ bQ, closureFor scope X.env = pure bQ /\ (∀ x c, bQ.lookup x = some c -> X.env.cells.lookup x = some c) /\ ∀ x, scope.names.lookup x = some .free -> ∃ c, bQ.lookup x = some c := fun ok => by
 obtain ⟨c, hc⟩ := ok.has x hx
 refine ⟨[(x, c)], qg hf hc, fun y d h => ?_, fun y h => ?_⟩
 . rw [List.lookup_cons] at h
   by_cases e : y = x
   . subst e
     simp at h
     rw [<- h]; exact hc
   . have : (y == x) = false := by simpa using e
     rw [this] at h; cases h
 . have h1 := List.mem_map_of_mem (f := (·.1)) (List.mem_filter (p := fun y : Str × NameKind => y.2 == .free) |>.mpr ⟨PySem.mem_of_lookup h, (rfl : (NameKind.free == NameKind.free) = true)⟩)
   rw [hf] at h1
   have : y = x := by simpa using h1
   subst this
   exact ⟨c, by simp⟩
theorem BD (sc : jP [p, x] p scope) (cd : ∃ c, X.env.code = .ref c /\ CodeHd X.base c P) (bm : BM X.mg X.base) (df : defaultsOf params X.env = ([], [])) (bd : ∀ (name qual : Str) (body : Expr) (bQ : List (Str × Addr)) (pm cv qq u : Value), bindArgs (kla_fn name qual params body scope bQ pm cv qq) ⟨[u], []⟩ = pure [(p, u)])
 (hf : (scope.names.filter fun y => y.2 == .free).map (·.1) = [x]) (hl : scope.names.lookup x = some .free) (hN : X.N[j]? = some x) (hk : X.env.kindOf x = some .cell) : rn X P params scope p [x] [j] :=
 ⟨sc, cd, bm, df, bd, yM hf (.inl hk), fun i y h => by
  cases i with
  | zero =>
    have : x = y := by simpa using h
    subst this
    exact ⟨hl, j, rfl, hN, .inl hk⟩
  | succ i => simp at h, rfl⟩
end
section
variable {σ : St} {H : Hp} {Q : VK} {K : PySem.W.Frag} {p : Addr} {m : List (Str × PyData)}
theorem vb {P : Addr} {pos : Pos} {q : Str} {te : TE} {js : List Nat} {t : TA} (h : t σ H fun vs H1 => TabAt H1 P pos q /\ ∀ H2, Mv [P] H1 H2 -> TabAt H2 P pos q -> pU (uf te js σ) vs H2 Q) : tV P pos q te js t σ H Q := h
theorem vJ {sp : Sp} (key : Str -> Int × Str) (hp : ku H p m) (h64 : m.length < 64)
 (hk : ∀ x ∈ m.map (·.1), ∀ H', aB H H' -> sp [.str x] H' (fun y H2 => aB H' H2 /\ Dv H2 y (.tuple [.int (key x).1, .str (key x).2])) E0)
 (k : ∀ q H' (ss : List Str), aB H H' -> H q = none -> ss.Perm (m.map (·.1)) -> ss.Pairwise (fun c d => dJ (key d) (key c) = false) -> eI H' q (ss.map PyData.str) -> Q (.ref q) H') : pU sp [.ref p] H Q := by
 obtain ⟨kvs, e, dk⟩ := hp
 have wu : kvs.map (fun kv => kV kv.1) = (m.map (·.1)).map V.str := by
  clear hk k h64 e
  induction dk with
  | nil => rfl
  | cons h1 h2 r ih => rw [List.map_cons, ih]; rfl
 refine ⟨p, kvs, fun v => match v with | .str x => key x | _ => (0, ⟨#[]⟩), rfl, .inl e, ?_, fun v hv H' sm => ?_, fun l ys H' sm hn Ei ord => ?_⟩
 . have := congrArg List.length wu
   simp only [List.length_map] at this
   omega
 . rw [wu] at hv
   obtain ⟨x, hx, rfl⟩ := List.mem_map.mp hv
   exact hk x hx H' sm
 . rw [wu] at ord
   obtain ⟨pm, pw⟩ := ord
   obtain ⟨ss, Lw, pc⟩ : ∃ ss : List Str, ys = ss.map V.str /\ ss.Perm (m.map (·.1)) := by
    have Dl : ∀ v ∈ ys, ∃ x, v = .str x := fun v hv => by
     obtain ⟨x, _, rfl⟩ := List.mem_map.mp (pm.mem_iff.mp hv)
     exact ⟨x, rfl⟩
    have h1 : (ys.map fun v => match v with | .str x => x | _ => (⟨#[]⟩ : Str)).Perm (((m.map (·.1)).map V.str).map fun v => match v with | .str x => x | _ => (⟨#[]⟩ : Str)) := pm.map _
    refine ⟨ys.map fun v => match v with | .str x => x | _ => (⟨#[]⟩ : Str), ?_, ?_⟩
    . rw [List.map_map]
      conv => lhs; rw [<- List.map_id ys]
      refine List.map_congr_left fun v hv => ?_
      obtain ⟨x, rfl⟩ := Dl v hv
      rfl
    . rw [List.map_map] at h1
      have e : (m.map (·.1)).map ((fun v => match v with | V.str x => x | _ => (⟨#[]⟩ : Str)) ∘ V.str) = m.map (·.1) := by
       conv => rhs; rw [<- List.map_id (m.map (·.1))]
       exact List.map_congr_left fun x _ => rfl
      rw [e] at h1
      exact h1
   subst Lw
   have lP : aB H (upd H' l (.lst (ss.map V.str))) := sm.trans (dX Ei)
   refine k l _ ss lP hn pc ?_ ⟨_, av, ?_, k7 _⟩
   . rw [List.pairwise_map] at pw
     exact pw
   . exact p8 ss
end
section
variable {σ : St} {H : Hp} {D : Ends} {p : Addr} {m : List (Str × PyData)} {g : TG} {tb : TS}
end
section
variable {σ : St} {H : Hp} {Q : VK} {K : PySem.W.Frag} {p : Addr} {m : List (Str × PyData)} {k : Str}
end
section
variable {σ : St} {H H' : Hp} {Q : VK} {K : PySem.W.Frag} {p l : Addr} {ns : List Str} {f : Str -> List PyData} {k : Str}
end
section
variable {H H' : Hp} {P : Addr} {pos : Pos} {q : Str}
theorem TabAt.iX (h : TabAt H P pos q) : ∃ ps, H P = some (.iX ps) := by
 rcases h with h | ⟨c, _, h, _⟩
 . exact ⟨_, h⟩
 . exact ⟨_, h⟩
theorem TabAt.ne {b : Addr} {u : HO} (h : TabAt H P pos q) (e : H b = some u) (nt : ∀ ps, u ≠ .iX ps) : b ≠ P := fun z => by
 obtain ⟨ps, hp⟩ := h.iX
 rw [z, hp] at e
 cases e
 exact nt _ rfl
theorem TabAt.D1 {b : Addr} {u : HO} (h : TabAt H P pos q) (e : H b = some u) (nt : ∀ ps, u ≠ .iX ps) (nx : ∀ φ, u ≠ .ext φ) (mv : Mv [b] H H') : TabAt H' P pos q :=
 h.mv mv fun c hc => by
  rw [List.mem_singleton.mp hc]
  exact ⟨h.ne e nt, fun φ z => by rw [e] at z; cases z; exact nx _ rfl⟩
theorem TabAt.Nf {d : Addr} {m : List (Str × PyData)} (h : TabAt H P pos q) (hd : ku H d m) (mv : Mv [d] H H') : TabAt H' P pos q := let ⟨_, e, _⟩ := hd; h.D1 e (by intro _ z; cases z) (by intro _ z; cases z) mv
theorem TabAt.HK {d : Addr} {m : List (Str × PyData)} (h : TabAt H P pos q) (hd : ku H d m) : d ≠ P := let ⟨_, e, _⟩ := hd; h.ne e (by intro _ z; cases z)
theorem TabAt.zU {d : Addr} {ds : List PyData} (h : TabAt H P pos q) (hd : eI H d ds) : d ≠ P := let ⟨_, e, _⟩ := hd; h.ne e (by intro _ z; cases z)
theorem TabAt.FK {C : Addr} {v : V} {fs : List (Str × V)} (h : TabAt H P pos q) (hi : vA H v C fs) (mv : Mv [P] H H') : vA H' v C fs := by
 obtain ⟨p, dx, rfl, e⟩ := hi
 exact ⟨p, dx, rfl, mv.at (by simpa using h.ne e (by intro _ z; cases z)) e⟩
theorem TabAt.Kc {d : Addr} {m : List (Str × PyData)} (h : TabAt H P pos q) (hd : ku H d m) (mv : Mv [P] H H') : ku H' d m := hd.mv mv (by simpa using h.HK hd)
theorem TabAt.DZ {d : Addr} {ds : List PyData} (h : TabAt H P pos q) (hd : eI H d ds) (mv : Mv [P] H H') : eI H' d ds := hd.mv mv (by simpa using h.zU hd)
theorem Ac {te : TE} {js : List Nat} {σ : St} {v : V} {Q : VK} {E : XK} (h : te (some v :: js.map fun j => σ.getD j none) H Q) : uf te js σ [v] H Q E := ⟨v, rfl, h⟩
end
end L2
set_option maxHeartbeats 4000000
namespace My
open PySem L2
local macro_rules | `(tactic| walk_at "same") => `(tactic| first
 | exact aB.refl _
 | assumption
 | (refine' aB.trans ?m ?s; (case s => assumption); (case m => walk_at "same")))
local macro_rules | `(tactic| walk_at "at") => `(tactic| first
 | assumption
 | exact av
 | (refine' aB.at ?s ?m; (case s => assumption); (case m => walk_at "at")))
local macro_rules | `(tactic| walk_at "dat") => `(tactic| first
 | exact Dv.int _
 | exact Dv.aY
 | exact Dv.bl _
 | exact Dv.str _
 | assumption
 | (refine' Dv.keeps ?s ?m; (case s => assumption); (case m => walk_at "dat")))
local macro_rules | `(tactic| walk_at "ins") => `(tactic| first
 | assumption
 | (refine' vA.keeps ?s ?m; (case s => assumption); (case m => walk_at "ins")))
local macro_rules | `(tactic| walk_at "dats") => `(tactic| first
 | exact cP.nil
 | (refine' cP.cons ?m ?s; (case m => walk_at "dat"); (case s => walk_at "dats"))
 | assumption
 | (refine' cP.keeps ?s ?m; (case s => assumption); (case m => walk_at "dats")))
local macro_rules | `(tactic| walk_at "sql") => `(tactic| first
 | assumption
 | (refine' aB.seq ?s ?m; (case s => assumption); (case m => walk_at "sql")))
local macro_rules | `(tactic| walk_at "isq") => `(tactic| first
 | (refine' Or.inl ?m; case m => walk_at "dat")
 | (refine' Or.inr ?m; case m => walk_at "dat"))
set_option hygiene false in
local macro_rules | `(tactic| walk_at "side") => `(tactic| first
 | omega
 | assumption
 | exact (by decide)
 | exact Gj (by omega) (by omega)
 | exact F6 ⟨by omega, by omega⟩ ⟨by omega, by omega⟩
 | exact ⟨by decide, by decide, by decide⟩)
set_option hygiene false in
local macro_rules | `(tactic| walk_at "use") => `(tactic| fail)
set_option hygiene false in
local macro_rules | `(tactic| walk_at "lk") => `(tactic| fail)
set_option hygiene false in
local macro_rules | `(tactic| walk_at "put") => `(tactic| fail)
set_option hygiene false in
local macro_rules | `(tactic| walk_at "fin") => `(tactic| fail)
set_option hygiene false in
local macro_rules | `(tactic| walk_at "wds") => `(tactic| first
 | with_reducible refine rL (ws := [_]) rfl ?_
 | with_reducible refine rL (ws := [_, _]) rfl ?_
 | with_reducible refine rL (ws := [_, _, _]) rfl ?_
 | with_reducible refine rL (ws := [_, _, _, _]) rfl ?_
 | with_reducible refine rL (ws := [_, _, _, _, _]) rfl ?_
 | with_reducible refine rL (ws := [_, _, _, _, _, _]) rfl ?_
 | with_reducible refine rL (ws := []) rfl ?_)
set_option hygiene false in
local macro_rules | `(tactic| walk_at "mks") => `(tactic| first
 | fail)
local macro_rules | `(tactic| walk_at "br") => `(tactic| ((with_reducible refine EV (fun hb => ?_) (fun hb => ?_)) <;> (try simp only [id, decide_eq_true_eq, decide_eq_false_iff_not, Bool.not_eq_true', Bool.not_eq_false', Bool.not_true, Bool.not_false, V.int.injEq, Bool.true_eq_false, Bool.false_eq_true, reduceCtorEq, decide_true, decide_false, not_true, not_false_iff, PyData.eqv, PyData.eqvAll, Bool.and_eq_true, Bool.and_eq_false_iff, Bool.or_eq_true, Bool.or_eq_false_iff, beq_iff_eq, beq_eq_false_iff_ne, ne_eq, bne_iff_ne, Bool.and_true, Bool.and_false, Bool.and_self, beq_self_eq_true, isInt, isBool, isStr, Et, isTup, Gg, List.length_cons, List.length_nil] at hb) <;> (try (exfalso; omega)) <;> (try (exfalso; (refine' HG hb ?d); (case d => walk_at "dat")))))
local macro_rules | `(tactic| walk_at "rd1") => `(tactic| first
 | with_reducible refine CL ?_
 | with_reducible refine Fn ?_
 | with_reducible refine F3 ?_
 | with_reducible refine DG ?_
 | with_reducible refine Gf ?_
 | ((with_reducible refine' F8 ?e ?_); case e => exact rfl)
 | with_reducible refine L5 ?_
 | with_reducible refine HH ?_
 | with_reducible refine Hh ?_
 | with_reducible refine IB ?_
 | ((with_reducible refine' Mh ?e ?_); case e => walk_at "side")
 | with_reducible refine LO ?_
 | with_reducible refine Dq ?_
 | with_reducible refine Ge ?_
 | with_reducible refine zX ?_
 | with_reducible refine Ju ?_
 | with_reducible refine Bk ?_
 | with_reducible refine Fo ?_
 | with_reducible refine Hv ?_
 | with_reducible refine DH ?_
 | with_reducible refine CI ?_
 | with_reducible refine IV ?_
 | with_reducible refine CJ ?_
 | with_reducible refine xR ?_
 | with_reducible refine u5 ?_
 | walk_at "br"
 | with_reducible refine CN ?_
 | ((with_reducible refine' FU ?e ?_); case e => exact rfl)
 | ((with_reducible refine' AO ?e1 ?e2 ?e3 ?e4 ?e5 ?_); (case e1 => walk_at "dat"); (case e2 => walk_at "dat"); (case e3 => first | rfl | assumption); (case e4 => first | rfl | assumption); (case e5 => first | exact Nat.le_of_ble_eq_true rfl | assumption))
 | ((with_reducible refine' qQ ?e1 ?e2 ?_); (case e1 => walk_at "isq"); (case e2 => exact rfl))
 | ((with_reducible refine' wk ?e ?_); case e => walk_at "isq")
 | ((with_reducible refine' DK ?e ?_); case e => walk_at "sql")
 | with_reducible refine Cm ?_
 | ((with_reducible refine' Ce ?e (fun _ _ => ?_)); case e => walk_at "side")
 | with_reducible refine IK ?_
 | with_reducible refine Cg ?_
 | ((with_reducible refine' z5 ?e1 ?e2 ?e3 ?e4 ?e5 ?_); (case e1 => walk_at "at"); (case e2 => assumption); (case e3 => assumption); (case e4 => exact zi rfl); (case e5 => walk_at "put"))
 | ((with_reducible refine' DE ?e1 ?e2 ?e3 ?e4 ?_); (case e1 => walk_at "ins"); (case e2 => assumption); (case e3 => assumption); (case e4 => walk_at "lk"))
 | ((with_reducible refine' yT ?e1 ?e2 ?_); (case e1 => walk_at "ins"); (case e2 => walk_at "lk"))
 | with_reducible refine z6 ?_
 | with_reducible refine zB ?_
 | with_reducible refine lS ?_
 | with_reducible refine CK ?_
 | ((with_reducible refine' Dg ?e1 ?e2 (fun _ _ _ _ => ?_)); (case e1 => exact A6 rfl); (case e2 => walk_at "dats"))
 | with_reducible refine CM ?_
 | with_reducible refine C0 ?_
 | with_reducible refine FC ?_
 | with_reducible refine y7 ?_
 | ((with_reducible refine' Dh ?e1 ?e2 ?_); (case e1 => omega); (case e2 => omega))
 | with_reducible refine Fd ?_
 | with_reducible refine yr ?_
 | with_reducible refine Am ?_
 | with_reducible refine zT (fun _ _ => ?_)
 | walk_at "wds"
 | walk_at "mks"
 | walk_at "use"
 | walk_at "fin")
local macro_rules | `(tactic| walk_at "lat") => `(tactic| first
 | assumption
 | (refine' eI.keeps ?s ?m; (case s => assumption); (case m => walk_at "lat"))
 | (refine' eI.mv ?s ?n ?m; (case s => assumption); (case n => walk_at "nin"); (case m => walk_at "lat"))
 | fail)
local macro_rules | `(tactic| walk_at "nin") => `(tactic| first
 | (refine' wj ?n1; (case n1 => walk_at "ne"))
 | fail)
local macro_rules | `(tactic| walk_at "ne") => `(tactic| first
 | assumption
 | (refine Ne.symm ?_; assumption)
 | (refine' eI.ne ?h ?n; (case n => assumption); (case h => walk_at "lat"))
 | (refine' Ne.symm (eI.ne ?h ?n); (case n => assumption); (case h => walk_at "lat"))
 | fail)
local macro_rules | `(tactic| walk_at "dla") => `(tactic| first
 | assumption
 | (refine' ku.keeps ?s ?m; (case s => assumption); (case m => walk_at "dla"))
 | (refine' ku.mv ?s ?n ?m; (case s => assumption); (case n => walk_at "nin"); (case m => walk_at "dla"))
 | fail)
local macro_rules | `(tactic| walk_at "ne") => `(tactic| first
 | (refine' ku.ne ?h ?n; (case n => assumption); (case h => walk_at "dla"))
 | (refine' Ne.symm (ku.ne ?h ?n); (case n => assumption); (case h => walk_at "dla"))
 | fail)
local macro_rules | `(tactic| walk_at "imm") => `(tactic| first
 | rfl
 | assumption
 | exact jq (fun _ => rfl) _
 | (refine' eI.rA ?h; (case h => assumption))
 | fail)
set_option hygiene false in
local macro_rules | `(tactic| walk_at "dm") => `(tactic| first
 | exact fun _ h => h
 | fail)
set_option hygiene false in
local macro_rules | `(tactic| walk_at "none") => `(tactic| first
 | assumption
 | fail)
local macro_rules | `(tactic| walk_at "same") => `(tactic| first
 | (refine' Mv.F9 ?s ?m ?n; (case m => assumption); (case s => walk_at "same"); (case n => walk_at "none"))
 | fail)
local macro_rules | `(tactic| walk_at "mv") => `(tactic| first
 | exact Mv.refl
 | assumption
 | (refine' Mv.oH ?m ?s; (case s => assumption); (case m => walk_at "mv"))
 | (refine' Mv.step ?m ?s ?h; (case s => assumption); (case m => walk_at "mv"); (case h => walk_at "ours"))
 | fail)
set_option hygiene false in
local macro_rules | `(tactic| walk_at "ours") => `(tactic| first
 | fail)
local macro_rules | `(tactic| walk_at "dat") => `(tactic| first
 | (refine' eI.dv ?m; (case m => walk_at "lat"))
 | (refine' Mv.dat ?s ?i ?m; (case s => assumption); (case i => walk_at "imm"); (case m => walk_at "dat"))
 | fail)
local macro_rules | `(tactic| walk_at "dats") => `(tactic| first
 | (refine' Mv.Bp ?s ?i ?m; (case s => assumption); (case i => walk_at "imm"); (case m => walk_at "dats"))
 | fail)
set_option hygiene false in
local macro_rules | `(tactic| walk_at "len") => `(tactic| first
 | (simp only [List.length_map, List.length_append, List.length_cons, List.length_nil]; omega)
 | omega
 | fail)
local macro_rules | `(tactic| walk_at "rd1") => `(tactic| first
 | ((with_reducible refine' EJ ?e ?_); case e => walk_at "dat")
 | with_reducible refine Jr ?_
 | with_reducible refine Dj (fun _ _ _ _ _ => ?_)
 | with_reducible refine zP ?_
 | with_reducible refine yQ ?_
 | with_reducible refine BL ?_
 | with_reducible refine yu ?_
 | ((with_reducible refine' B2 ?e1 ?e2 ?e3 ?e4 (fun _ _ _ => ?_)); (case e1 => walk_at "dla"); (case e3 => walk_at "dat"); (case e2 => walk_at "len"); (case e4 => walk_at "imm"))
 | with_reducible refine zl ?_
 | with_reducible refine Iq ?_
 | ((with_reducible refine' FH ?e ?_); case e => walk_at "lat")
 | ((with_reducible refine' Fb ?e1 ?e2 ?e3 ?e4 (fun _ _ _ => ?_)); (case e1 => walk_at "lat"); (case e3 => walk_at "dat"); (case e2 => walk_at "len"); (case e4 => walk_at "imm"))
 | ((with_reducible refine' BR ?e1 ?e2 ?e3 (fun _ _ _ _ _ => ?_)); (case e1 => exact A6 rfl); (case e2 => walk_at "dats"); (case e3 => exact rfl))
 | with_reducible refine Gu ?_
 | ((with_reducible refine' Gp ?e ?_); case e => walk_at "dat")
 | ((with_reducible refine' wa ?e ?_); case e => walk_at "len")
 | ((with_reducible refine' Bt ?e ?_); case e => walk_at "dat")
 | ((with_reducible refine' qQ ?e1 ?e2 ?_); (case e1 => walk_at "isq"); (case e2 => first | exact Ed | (refine' Fq ?a ?b; (case a => omega); (case b => walk_at "len")) | fail))
 | fail)
local macro_rules | `(tactic| walk_at "rd1") => `(tactic| first
 | ((with_reducible refine' CG ?e1 ?e2 ?e3 (fun _ _ _ _ _ => ?_)); (case e1 => walk_at "lat"); (case e2 => walk_at "lat"); (case e3 => walk_at "len"))
 | fail)
local macro_rules | `(tactic| walk_at "rd1") => `(tactic| first
 | with_reducible refine vZ ?_
 | ((with_reducible refine' zG ?e1 ?e2 (fun _ _ _ _ _ => ?_)); (case e1 => walk_at "dat"); (case e2 => walk_at "imm"))
 | ((with_reducible refine' C4 ?e1 ?_); (case e1 => walk_at "dat"))
 | fail)
set_option hygiene false in
local macro_rules | `(tactic| walk_at "rd1") => `(tactic| first
 | fail)
set_option hygiene false in
local macro_rules | `(tactic| walk_at "rd1") => `(tactic| first
 | fail)
set_option hygiene false in
local macro_rules | `(tactic| walk_at "rd1") => `(tactic| first
 | fail)
set_option hygiene false in
local macro_rules | `(tactic| walk_at "rd1") => `(tactic| first
 | fail)
local macro_rules | `(tactic| walk_at "rd1") => `(tactic| first
 | with_reducible refine Al ?_
 | with_reducible refine zq ?_
 | with_reducible refine xZ ?_
 | with_reducible refine vk ?_
 | with_reducible refine yx ?_
 | with_reducible refine Cz ?_
 | with_reducible refine CT ?_
 | with_reducible refine EA ?_
 | ((with_reducible refine' DB ?e (fun _ => ?_)); case e => assumption)
 | ((with_reducible refine' yK ?e1 ?e2 ?e3 ?e4 ?_); (case e1 => walk_at "at"); (case e2 => walk_at "at"); (case e3 => assumption); (case e4 => assumption))
 | ((with_reducible refine' wY ?e1 ?e2 ?e3 ?e4 ?_); (case e1 => walk_at "at"); (case e2 => walk_at "at"); (case e3 => assumption); (case e4 => assumption))
 | fail)
set_option hygiene false in
local macro_rules | `(tactic| walk_at "rd1") => `(tactic| first
 | with_reducible refine BX ?_
 | fail)
set_option hygiene false in
local macro_rules | `(tactic| walk_at "rd1") => `(tactic| first
 | with_reducible refine Cb ?_
 | fail)
set_option hygiene false in
local macro_rules | `(tactic| walk_at "rd1") => `(tactic| first
 | fail)
set_option hygiene false in
local macro_rules | `(tactic| walk_at "rd1") => `(tactic| first
 | fail)
def top (i : Nat) : Stmt := PySem.Challenge.pw_wakefew_k22_groups_refused.main.body.getD i (.Pass ⟨0, 0, 0, 0⟩)
set_option hygiene false in
local macro_rules | `(tactic| walk_at "scp") => `(tactic| exact ⟨rfl, rfl, rfl, by decide +kernel, rfl, by decide +kernel, by decide +kernel⟩)
abbrev et : Stmt := inClass (top 3) 0
theorem jY : aH ["self", "name"] ["self", "name"] (ax et) := by walk_at "scp"
abbrev du : Stmt := inClass (top 5) 0
theorem i3 : aH ["self", "name"] ["self", "name"] (ax du) := by walk_at "scp"
abbrev dw : Stmt := inClass (top 6) 0
theorem i7 : aH ["self", "name"] ["self", "name"] (ax dw) := by walk_at "scp"
abbrev dD : Stmt := inClass (top 9) 0
theorem jG : aH ["self"] ["self"] (ax dD) := by walk_at "scp"
abbrev gA : Stmt := inClass (top 9) 1
theorem nK : aH ["self", "name", "above"] ["self", "name", "above"] (ax gA) := by walk_at "scp"
abbrev gP : Stmt := inClass (top 9) 2
theorem nM : aH ["self", "name"] ["self", "name"] (ax gP) := by walk_at "scp"
abbrev fH : Stmt := inClass (top 9) 3
theorem g7 : aH ["self", "name", "ahead"] ["self", "name"] (ax fH) := by walk_at "scp"
abbrev gm : Stmt := inClass (top 9) 4
theorem iM : aH ["self", "name", "ahead"] ["self", "name"] (ax gm) := by walk_at "scp"
abbrev gF : Stmt := inClass (top 9) 5
theorem jb : aH ["self", "name", "gone", "other"] ["self", "name"] (ax gF) := by walk_at "scp"
abbrev dZ : Stmt := inClass (top 9) 6
theorem lA : aH ["self", "name"] ["self", "name"] (ax dZ) := by walk_at "scp"
abbrev eM : Stmt := inClass (top 9) 7
theorem kT : aH ["self", "name"] ["self", "name"] (ax eM) := by walk_at "scp"
abbrev fG : Stmt := inClass (top 9) 8
theorem eP : aH ["self", "name", "names"] ["self", "name"] (ax fG) := by walk_at "scp"
abbrev eR : Stmt := inClass (top 9) 9
theorem kE : aH ["self", "name"] ["self", "name"] (ax eR) := by walk_at "scp"
abbrev eO : Stmt := inClass (top 9) 10
theorem kA : aH ["self"] ["self"] (ax eO) := by walk_at "scp"
abbrev cG : Stmt := inClass (top 9) 11
theorem gX : aH ["self", "name"] ["self", "name"] (ax cG) := by walk_at "scp"
abbrev dO : Stmt := inClass (top 9) 12
theorem jB : aH ["self", "name"] ["self", "name"] (ax dO) := by walk_at "scp"
abbrev bG : Stmt := inClass (top 9) 13
theorem gR : aH ["self", "name"] ["self", "name"] (ax bG) := by walk_at "scp"
abbrev fm : Stmt := top 11
theorem lH : aH ["_law_script", "_law_k"] ["_law_script", "_law_k"] (ax fm) := by walk_at "scp"
abbrev iN : Stmt := top 12
theorem j8 : aH ["_law_k", "_law_style", "_law_some"] ["_law_k", "_law_style"] (ax iN) := by walk_at "scp"
abbrev jz : Stmt := top 13
theorem qu : aH ["_law_told", "_law_word_here", "_law_name_here"] ["_law_told", "_law_word_here", "_law_name_here"] (ax jz) := by walk_at "scp"
abbrev gb : Stmt := top 14
theorem cn : aH ["_law_told", "_law_deed_here", "_law_kinds", "_law_name_here", "e"] ["_law_told", "_law_deed_here"] (ax gb) := by walk_at "scp"
abbrev iq : Stmt := top 15
theorem gJ : aH ["_law_script", "_law_names", "_law_stranger", "_law_other", "_law_cell", "_law_way"] ["_law_script", "_law_names", "_law_stranger", "_law_other"] (ax iq) := by walk_at "scp"
abbrev jl : Stmt := top 16
theorem q4 : aH ["_law_deed_here", "_law_names", "_law_other"] ["_law_deed_here", "_law_names", "_law_other"] (ax jl) := by walk_at "scp"
abbrev tH : Stmt := top 17
theorem en : aH ["_law_script", "_law_style", "_law_names", "_law_beside", "_law_stranger", "_law_other", "_law_told", "_law_above", "_law_name_here", "_law_rows", "_law_deed_here", "_law_again"] ["_law_script"] (ax tH) := by walk_at "scp"
abbrev kl : Pos := ⟨83, 41, 83, 81⟩
abbrev kG : Str := ("Groups.all_of" ++ ".<locals>.") ++ "<lambda>"
theorem fU : ¬ (("above_of" : Str) = "marks") := by decide +kernel
theorem fY : ¬ (("marks" : Str) = "above_of") := by decide +kernel
theorem eG : ¬ (("__init__" : Str) = "above_of") := by decide +kernel
theorem fP : ¬ (("__init__" : Str) = "marks") := by decide +kernel
theorem g6 : ¬ (("add" : Str) = "above_of") := by decide +kernel
theorem jX : ¬ (("add" : Str) = "marks") := by decide +kernel
theorem hZ : ¬ (("has" : Str) = "above_of") := by decide +kernel
theorem jM : ¬ (("has" : Str) = "marks") := by decide +kernel
theorem fN : ¬ (("sleep" : Str) = "above_of") := by decide +kernel
theorem iB : ¬ (("sleep" : Str) = "marks") := by decide +kernel
theorem gu : ¬ (("wake" : Str) = "above_of") := by decide +kernel
theorem jh : ¬ (("wake" : Str) = "marks") := by decide +kernel
theorem ia : ¬ (("end" : Str) = "above_of") := by decide +kernel
theorem jU : ¬ (("end" : Str) = "marks") := by decide +kernel
theorem fX : ¬ (("awake" : Str) = "above_of") := by decide +kernel
theorem iH : ¬ (("awake" : Str) = "marks") := by decide +kernel
theorem fq : ¬ (("marked" : Str) = "above_of") := by decide +kernel
theorem g4 : ¬ (("marked" : Str) = "marks") := by decide +kernel
theorem fV : ¬ (("chain" : Str) = "above_of") := by decide +kernel
theorem iF : ¬ (("chain" : Str) = "marks") := by decide +kernel
theorem fz : ¬ (("within" : Str) = "above_of") := by decide +kernel
theorem hV : ¬ (("within" : Str) = "marks") := by decide +kernel
theorem fB : ¬ (("all_of" : Str) = "above_of") := by decide +kernel
theorem g5 : ¬ (("all_of" : Str) = "marks") := by decide +kernel
theorem dg : ¬ (("check_stands" : Str) = "above_of") := by decide +kernel
theorem ei : ¬ (("check_stands" : Str) = "marks") := by decide +kernel
theorem eA : ¬ (("depth_of" : Str) = "above_of") := by decide +kernel
theorem fO : ¬ (("depth_of" : Str) = "marks") := by decide +kernel
theorem dh : ¬ (("awake_within" : Str) = "above_of") := by decide +kernel
theorem ej : ¬ (("awake_within" : Str) = "marks") := by decide +kernel
theorem fe : ¬ (("unmark" : Str) = "above_of") := by decide +kernel
theorem ib : ¬ (("unmark" : Str) = "marks") := by decide +kernel
set_option hygiene false in
local macro_rules | `(tactic| walk_at "lk") => `(tactic| first
 | assumption
 | (rw [lz]; ((conv => lhs; simp only [look, reduceIte, fU, fY, eG, fP, g6, jX, hZ, jM, fN, iB, gu, jh, ia, jU, fX, iH, fq, g4, fV, iF, fz, hV, fB, g5, dg, ei, eA, fO, dh, ej, fe, ib]) <;> exact rfl)))
set_option hygiene false in
local macro_rules | `(tactic| walk_at "put") => `(tactic| ((conv => lhs; simp only [gp, reduceIte, fU, fY, eG, fP, g6, jX, hZ, jM, fN, iB, gu, jh, ia, jU, fX, iH, fq, g4, fV, iF, fz, hV, fB, g5, dg, ei, eA, fO, dh, ej, fe, ib]) <;> exact rfl))
structure rV (K : PySem.W.Frag) (x q : Str) (s : Stmt) (d : Value) (f : Addr) : Prop where
 a : PySem.W.nsIn K mainGlobals x = some (some (.ref f))
 l : ∃ fd, cO K x q s f d fd
 k : PySem.W.keepIn K (.ref f) = true
structure iu (K : PySem.W.Frag) (C : Addr) (x q : Str) (s : Stmt) (d : Value) (f : Addr) : Prop where
 a : PySem.W.findIn K (.ref C) x = some (some (.ref f))
 l : ∃ fd, cO K x q s f d fd
 k : PySem.W.keepIn K (.ref f) = true
 i : PySem.W.isFn K (.ref f) = true
structure Ie (K : PySem.W.Frag) (C : Addr) : Prop where
 pg : PySem.W.plainGet K C Str.empty = true
 hd : PySem.W.hasDictIn K C = true
 po : PySem.W.plainOver K C = true
 sa : PySem.W.findIn K (.ref C) "__setattr__" = some (some (.builtin "object.__setattr__"))
 t1 : PySem.W.findIn K (.ref C) "__class__" = some (some (.builtin "object.__class__"))
 t2 : PySem.W.mroIn K C (.type "object") = some true
 t3 : PySem.W.typeIn K (.ref C) = some (.type "type")
structure G9 (K : PySem.W.Frag) (C W : Addr) : Prop where
 ex : ∃ (nm q : Str) (N : Addr) (bs : List Value) (sn : List Str) (sub : List Value) (ab : Bool) (col : Option Bool) (dd : Option Addr) (k0 k1 k2 k3 k5 : Option Value), K.lookup C = some (excClassObj nm q C N bs (.ref W :: vD) true sn sub ab col dd k0 k1 k2 k3 k5 "ValueError.__new__")
theorem Cu {K : PySem.W.Frag} {C W : Addr} {nm q : Str} {N : Addr} {bs : List Value} {sn : List Str} {sub : List Value} {ab : Bool} {col : Option Bool} {dd : Option Addr} {k0 k1 k2 k3 k5 : Option Value} (l : K.lookup C = some (excClassObj nm q C N bs (.ref W :: vD) true sn sub ab col dd k0 k1 k2 k3 k5 "ValueError.__new__")) : G9 K C W := ⟨⟨_, _, _, _, _, _, _, _, _, _, _, _, _, _, l⟩⟩
theorem yy {K : PySem.W.Frag} {t : Addr} {xs : Array Value} {n : Nat} {d : Option Addr} {z : Array (Option Value)} {c : Value} (l : K.lookup t = some ⟨c, d, .seq xs n, z⟩) : DM K t xs := ⟨⟨_, _, l, rfl⟩⟩
set_option genSizeOf false in
set_option genInjectivity false in
structure Ad where
 aX : Addr
 f9 : FuncData
 aO : Addr
 eV : FuncData
 aP : Addr
 eT : FuncData
 aS : Addr
 fg : FuncData
 bK : Addr
 jf : FuncData
 cE : Addr
 cm : Addr
 ji : FuncData
 bD : Addr
 hJ : FuncData
 bR : Addr
 iy : FuncData
 cj : Addr
 ja : FuncData
 bC : Addr
 hU : FuncData
 a9 : Addr
 gx : FuncData
 bA : Addr
 g9 : FuncData
 a7 : Addr
 gq : FuncData
 aT : Addr
 eu : FuncData
 bV : Addr
 aC : Addr
 aF : Addr
 dR : FuncData
 aR : Addr
 fu : FuncData
 aG : Addr
 dQ : FuncData
 a0 : Addr
 hG : FuncData
 cb : Addr
 j9 : FuncData
 cU : Addr
 lj : FuncData
 cf : Addr
 ke : FuncData
 b8 : Addr
 ka : FuncData
 cR : Addr
 k8 : FuncData
 oS : Addr
 pd : FuncData
 ah : Addr
 bh : Addr
 ag : Addr
 bS : Addr
 ai : Addr
 aq : Addr
 az : Addr
 tabs : List Addr
 dH : Tok
structure Txt (K : PySem.W.Frag) (mg : Str -> Option Value) (a : Ad) : Prop where
 er : cO K "__init__" "Twice.__init__" et a.aX (.none) a.f9
 dt : cO K "__init__" "NoGroup.__init__" du a.aO (.none) a.eV
 dz : cO K "__init__" "TooDeep.__init__" dw a.aP (.none) a.eT
 ef : cO K "__init__" "Groups.__init__" dD a.aS (.none) a.fg
 eW : cO K "add" "Groups.add" gA a.bK (.ref a.cE) a.jf
 gQ : DM K a.cE #[.none]
 gO : cO K "has" "Groups.has" gP a.cm (.none) a.ji
 fA : cO K "sleep" "Groups.sleep" fH a.bD (.none) a.hJ
 gk : cO K "wake" "Groups.wake" gm a.bR (.none) a.iy
 gD : cO K "end" "Groups.end" gF a.cj (.none) a.ja
 fw : cO K "awake" "Groups.awake" dZ a.bC (.none) a.hU
 eQ : cO K "marked" "Groups.marked" eM a.a9 (.none) a.gx
 fE : cO K "chain" "Groups.chain" fG a.bA (.none) a.g9
 eS : cO K "within" "Groups.within" eR a.a7 (.none) a.gq
 eJ : cO K "all_of" "Groups.all_of" eO a.aT (.none) a.eu
 bp : FO K a.eu a.bV a.aC
 c7 : a.aC ∈ a.tabs
 cH : cO K "check_stands" "Groups.check_stands" cG a.aF (.none) a.dR
 dS : cO K "depth_of" "Groups.depth_of" dO a.aR (.none) a.fu
 cJ : cO K "awake_within" "Groups.awake_within" bG a.aG (.none) a.dQ
 fJ : cO K "_law_cell_at" "_law_cell_at" fm a.a0 (.none) a.hG
 cz : PySem.W.keepIn K (.ref a.a0) = true
 cB : mg "_law_cell_at" = some (.ref a.a0)
 ix : cO K "_law_name" "_law_name" iN a.cb (.none) a.j9
 dC : PySem.W.keepIn K (.ref a.cb) = true
 dN : mg "_law_name" = some (.ref a.cb)
 jw : cO K "_law_ask" "_law_ask" jz a.cU (.none) a.lj
 lu : PySem.W.keepIn K (.ref a.cU) = true
 kZ : mg "_law_ask" = some (.ref a.cU)
 il : cO K "_law_word" "_law_word" gb a.cf (.none) a.ke
 j7 : PySem.W.keepIn K (.ref a.cf) = true
 jV : mg "_law_word" = some (.ref a.cf)
 iI : cO K "_law_deed" "_law_deed" iq a.b8 (.none) a.ka
 jO : PySem.W.keepIn K (.ref a.b8) = true
 jS : mg "_law_deed" = some (.ref a.b8)
 jE : cO K "_law_due" "_law_due" jl a.cR (.none) a.k8
 kU : PySem.W.keepIn K (.ref a.cR) = true
 kY : mg "_law_due" = some (.ref a.cR)
 wt : cO K "law" "law" tH a.oS (.none) a.pd
 vQ : mg "law" = some (.ref a.oS)
 oY : mg "Groups" = some (.ref a.ah)
 au : nF K a.ah
 ay : dW K a.ah "above_of"
 aD : dW K a.ah "marks"
 q9 : Mk K a.ah a.aS
 dF : Meth K a.ah "add" a.bK
 jN : Meth K a.ah "has" a.cm
 iJ : Meth K a.ah "sleep" a.bD
 jc : Meth K a.ah "wake" a.bR
 jR : Meth K a.ah "end" a.cj
 dY : Meth K a.ah "awake" a.bC
 eN : Meth K a.ah "marked" a.a9
 b7 : Meth K a.ah "chain" a.bA
 dn : Meth K a.ah "within" a.a7
 eK : Meth K a.ah "all_of" a.aT
 aW : Meth K a.ah "check_stands" a.aF
 d8 : Meth K a.ah "depth_of" a.aR
 cI : Meth K a.ah "awake_within" a.aG
 n9 : mg "NoBell" = some (.ref a.bh)
 gH : mg "NoGroup" = some (.ref a.ag)
 rg : mg "NoRow" = some (.ref a.bS)
 gY : mg "TooDeep" = some (.ref a.ai)
 jL : mg "Twice" = some (.ref a.aq)
 d6 : mg "WakeError" = some (.ref a.az)
 cX : vY K a.az
 nc : yb K a.ag
 m6 : PySem.W.kitOne K (.ref a.ag) (.type "ValueError") = some true
 fc : sI K a.ag a.az a.aO
 bL : PySem.W.kitOne K (.ref a.ag) (.ref a.bh) = some false
 bF : PySem.W.kitOne K (.ref a.ag) (.ref a.ag) = some true
 bU : PySem.W.kitOne K (.ref a.ag) (.ref a.bS) = some false
 bu : PySem.W.kitOne K (.ref a.ag) (.ref a.ai) = some false
 bW : PySem.W.kitOne K (.ref a.ag) (.ref a.aq) = some false
 eF : PySem.W.mroIn K a.ag (.ref a.az) = some true
 mV : yb K a.ai
 mm : PySem.W.kitOne K (.ref a.ai) (.type "ValueError") = some true
 gw : sI K a.ai a.az a.aP
 bP : PySem.W.kitOne K (.ref a.ai) (.ref a.bh) = some false
 bE : PySem.W.kitOne K (.ref a.ai) (.ref a.ag) = some false
 bZ : PySem.W.kitOne K (.ref a.ai) (.ref a.bS) = some false
 bq : PySem.W.kitOne K (.ref a.ai) (.ref a.ai) = some true
 bT : PySem.W.kitOne K (.ref a.ai) (.ref a.aq) = some false
 eE : PySem.W.mroIn K a.ai (.ref a.az) = some true
 ri : yb K a.aq
 qf : PySem.W.kitOne K (.ref a.aq) (.type "ValueError") = some true
 jQ : sI K a.aq a.az a.aX
 cC : PySem.W.kitOne K (.ref a.aq) (.ref a.bh) = some false
 bY : PySem.W.kitOne K (.ref a.aq) (.ref a.ag) = some false
 cV : PySem.W.kitOne K (.ref a.aq) (.ref a.bS) = some false
 bX : PySem.W.kitOne K (.ref a.aq) (.ref a.ai) = some false
 c4 : PySem.W.kitOne K (.ref a.aq) (.ref a.aq) = some true
 fv : PySem.W.mroIn K a.aq (.ref a.az) = some true
 eZ : A2 K a.az
 zA : ∀ b ∈ a.tabs, b = a.aC
 jg : mg "MOST_DEPTH" = some (.int 8 a.dH)
 ez : mg "ValueError" = none
 oZ : mg "any" = none
 pX : mg "int" = none
 aI : mg "isinstance" = none
 jA : mg "len" = none
 lM : mg "list" = none
 iC : mg "range" = none
 fQ : mg "reversed" = none
 iT : mg "sorted" = none
 pD : mg "sum" = none
theorem Bw {K : PySem.W.Frag} {h : Heap} {mg : Str -> Option Value} {aX aO aP aS bK cE cm bD bR cj bC a9 bA a7 aT bV aC aF aR aG a0 cb cU cf b8 cR oS ah bh ag bS ai aq az : Addr} {dH : Tok} {tabs : List Addr}  (X : K.In h) (G : h.Ns mainGlobals mg)
 (uE : PySem.W.nsIn K mainGlobals "Groups" = some (some (.ref ah)))
 (u0 : PySem.W.nsIn K mainGlobals "NoBell" = some (some (.ref bh)))
 (rR : PySem.W.nsIn K mainGlobals "NoGroup" = some (some (.ref ag)))
 (wR : PySem.W.nsIn K mainGlobals "NoRow" = some (some (.ref bS)))
 (sO : PySem.W.nsIn K mainGlobals "TooDeep" = some (some (.ref ai)))
 (xB : PySem.W.nsIn K mainGlobals "Twice" = some (some (.ref aq)))
 (px : PySem.W.nsIn K mainGlobals "WakeError" = some (some (.ref az)))
 (D2 : PySem.W.specialIn K (.builtin "object.__class__") "__get__" = some (some (.builtin "getset_descriptor.__get__")))
 (D4 : PySem.W.takesIn K (.builtin "object.__class__") = some true)
 (c5 : iu K aq "__init__" "Twice.__init__" et (.none) aX)
 (cu : iu K ag "__init__" "NoGroup.__init__" du (.none) aO)
 (cq : iu K ai "__init__" "TooDeep.__init__" dw (.none) aP)
 (cL : iu K ah "__init__" "Groups.__init__" dD (.none) aS)
 (dB : iu K ah "add" "Groups.add" gA (.ref cE) bK)
 (o6 : DM K cE #[.none])
 (dP : iu K ah "has" "Groups.has" gP (.none) cm)
 (cT : iu K ah "sleep" "Groups.sleep" fH (.none) bD)
 (de : iu K ah "wake" "Groups.wake" gm (.none) bR)
 (dI : iu K ah "end" "Groups.end" gF (.none) cj)
 (cW : iu K ah "awake" "Groups.awake" dZ (.none) bC)
 (cD : iu K ah "marked" "Groups.marked" eM (.none) a9)
 (cS : iu K ah "chain" "Groups.chain" fG (.none) bA)
 (cw : iu K ah "within" "Groups.within" eR (.none) a7)
 (bJ : iu K ah "all_of" "Groups.all_of" eO (.none) aT)
 (kI : Bh K aT bV aC)
 (c7 : aC ∈ tabs)
 (aV : iu K ah "check_stands" "Groups.check_stands" cG (.none) aF)
 (bN : iu K ah "depth_of" "Groups.depth_of" dO (.none) aR)
 (aU : iu K ah "awake_within" "Groups.awake_within" bG (.none) aG)
 (dE : rV K "_law_cell_at" "_law_cell_at" fm (.none) a0)
 (fW : rV K "_law_name" "_law_name" iN (.none) cb)
 (gG : rV K "_law_ask" "_law_ask" jz (.none) cU)
 (fM : rV K "_law_word" "_law_word" gb (.none) cf)
 (gf : rV K "_law_deed" "_law_deed" iq (.none) b8)
 (gI : rV K "_law_due" "_law_due" jl (.none) cR)
 (wL : rV K "law" "law" tH (.none) oS)
 (au : Ie K ah)
 (ay : PySem.W.findIn K (.ref ah) "above_of" = some none)
 (aD : PySem.W.findIn K (.ref ah) "marks" = some none)
 (uw : PySem.W.makesIn K ah = true)
 (vd : PySem.W.keepIn K (.ref ah) = true)
 (kM : PySem.W.mroIn K bh (.type "object") = some true)
 (kK : PySem.W.typeIn K (.ref bh) = some (.type "type"))
 (s9 : G9 K ag az)
 (fD : PySem.W.mroIn K ag (.type "object") = some true)
 (jJ : PySem.W.typeIn K (.ref ag) = some (.type "type"))
 (mh : PySem.W.mroIn K bS (.type "object") = some true)
 (m8 : PySem.W.typeIn K (.ref bS) = some (.type "type"))
 (rD : G9 K ai az)
 (fC : PySem.W.mroIn K ai (.type "object") = some true)
 (jC : PySem.W.typeIn K (.ref ai) = some (.type "type"))
 (wN : G9 K aq az)
 (ik : PySem.W.mroIn K aq (.type "object") = some true)
 (mz : PySem.W.typeIn K (.ref aq) = some (.type "type"))
 (cX : PySem.W.excIn K az [.type "ValueError", .type "Exception", .type "BaseException", .type "object"] "ValueError.__new__" = true)
 (nC : PySem.W.findIn K (.ref ag) "__getattribute__" = some (some (.builtin "BaseException.__getattribute__")))
 (nB : PySem.W.findIn K (.ref ag) "__getattr__" = some none)
 (my : PySem.W.mroIn K ag (.type "BaseException") = some true)
 (m9 : PySem.W.hasDictIn K ag = true)
 (mX : PySem.W.findIn K (.ref ag) "__class__" = some (some (.builtin "object.__class__")))
 (sj : PySem.W.mroIn K ag (.type "ValueError") = some true)
 (sA : PySem.W.findIn K (.ref ag) "__setattr__" = some (some (.builtin "object.__setattr__")))
 (sg : PySem.W.takerIn K ag "name" = some none)
 (sD : PySem.W.findIn K (.ref ag) "name" = some none)
 (bL : PySem.W.mroIn K ag (.ref bh) = some false)
 (j3 : (ag == bh) = false)
 (bF : PySem.W.mroIn K ag (.ref ag) = some true)
 (bU : PySem.W.mroIn K ag (.ref bS) = some false)
 (kQ : (ag == bS) = false)
 (bu : PySem.W.mroIn K ag (.ref ai) = some false)
 (jy : (ag == ai) = false)
 (bW : PySem.W.mroIn K ag (.ref aq) = some false)
 (kO : (ag == aq) = false)
 (iA : PySem.W.mroIn K ag (.ref az) = some true)
 (mS : PySem.W.findIn K (.ref ai) "__getattribute__" = some (some (.builtin "BaseException.__getattribute__")))
 (nz : PySem.W.findIn K (.ref ai) "__getattr__" = some none)
 (mw : PySem.W.mroIn K ai (.type "BaseException") = some true)
 (ml : PySem.W.hasDictIn K ai = true)
 (nj : PySem.W.findIn K (.ref ai) "__class__" = some (some (.builtin "object.__class__")))
 (sY : PySem.W.mroIn K ai (.type "ValueError") = some true)
 (sf : PySem.W.findIn K (.ref ai) "__setattr__" = some (some (.builtin "object.__setattr__")))
 (sy : PySem.W.takerIn K ai "name" = some none)
 (sE : PySem.W.findIn K (.ref ai) "name" = some none)
 (bP : PySem.W.mroIn K ai (.ref bh) = some false)
 (kc : (ai == bh) = false)
 (bE : PySem.W.mroIn K ai (.ref ag) = some false)
 (jn : (ai == ag) = false)
 (bZ : PySem.W.mroIn K ai (.ref bS) = some false)
 (kJ : (ai == bS) = false)
 (bq : PySem.W.mroIn K ai (.ref ai) = some true)
 (bT : PySem.W.mroIn K ai (.ref aq) = some false)
 (ko : (ai == aq) = false)
 (iw : PySem.W.mroIn K ai (.ref az) = some true)
 (qB : PySem.W.findIn K (.ref aq) "__getattribute__" = some (some (.builtin "BaseException.__getattribute__")))
 (qG : PySem.W.findIn K (.ref aq) "__getattr__" = some none)
 (qj : PySem.W.mroIn K aq (.type "BaseException") = some true)
 (p9 : PySem.W.hasDictIn K aq = true)
 (qP : PySem.W.findIn K (.ref aq) "__class__" = some (some (.builtin "object.__class__")))
 (wM : PySem.W.mroIn K aq (.type "ValueError") = some true)
 (wx : PySem.W.findIn K (.ref aq) "__setattr__" = some (some (.builtin "object.__setattr__")))
 (xn : PySem.W.takerIn K aq "name" = some none)
 (xo : PySem.W.findIn K (.ref aq) "name" = some none)
 (cC : PySem.W.mroIn K aq (.ref bh) = some false)
 (lD : (aq == bh) = false)
 (bY : PySem.W.mroIn K aq (.ref ag) = some false)
 (ky : (aq == ag) = false)
 (cV : PySem.W.mroIn K aq (.ref bS) = some false)
 (nq : (aq == bS) = false)
 (bX : PySem.W.mroIn K aq (.ref ai) = some false)
 (kj : (aq == ai) = false)
 (c4 : PySem.W.mroIn K aq (.ref aq) = some true)
 (jm : PySem.W.mroIn K aq (.ref az) = some true)
 (nR : PySem.W.specialIn K (.ref az) "__getattribute__" = some (some (.builtin "type.__getattribute__")))
 (nI : PySem.W.readsIn K az (.type "type") = true)
 (n0 : PySem.W.findCls K (.ref az) (.type "type") "__init__" = some (.val (.builtin "ValueError.__init__")))
 (zA : ∀ b ∈ tabs, b = aC)
 (nS : PySem.W.nsIn K mainGlobals "MOST_DEPTH" = some (some (.int 8 dH)))
 (ez : PySem.W.nsIn K mainGlobals "ValueError" = some none)
 (oZ : PySem.W.nsIn K mainGlobals "any" = some none)
 (pX : PySem.W.nsIn K mainGlobals "int" = some none)
 (aI : PySem.W.nsIn K mainGlobals "isinstance" = some none)
 (jA : PySem.W.nsIn K mainGlobals "len" = some none)
 (lM : PySem.W.nsIn K mainGlobals "list" = some none)
 (iC : PySem.W.nsIn K mainGlobals "range" = some none)
 (fQ : PySem.W.nsIn K mainGlobals "reversed" = some none)
 (iT : PySem.W.nsIn K mainGlobals "sorted" = some none)
 (pD : PySem.W.nsIn K mainGlobals "sum" = some none)
 : ∃ a : Ad, a.tabs = tabs /\ Txt K mg a :=
 ⟨⟨aX, c5.l.choose, aO, cu.l.choose, aP, cq.l.choose, aS, cL.l.choose, bK, dB.l.choose, cE, cm, dP.l.choose, bD, cT.l.choose, bR, de.l.choose, cj, dI.l.choose, bC, cW.l.choose, a9, cD.l.choose, bA, cS.l.choose, a7, cw.l.choose, aT, bJ.l.choose, bV, aC, aF, aV.l.choose, aR, bN.l.choose, aG, aU.l.choose, a0, dE.l.choose, cb, fW.l.choose, cU, gG.l.choose, cf, fM.l.choose, b8, gf.l.choose, cR, gI.l.choose, oS, wL.l.choose, ah, bh, ag, bS, ai, aq, az, tabs, dH⟩, rfl, {
   er := c5.l.choose_spec,
   dt := cu.l.choose_spec,
   dz := cq.l.choose_spec,
   ef := cL.l.choose_spec,
   eW := dB.l.choose_spec,
   gQ := o6,
   gO := dP.l.choose_spec,
   fA := cT.l.choose_spec,
   gk := de.l.choose_spec,
   gD := dI.l.choose_spec,
   fw := cW.l.choose_spec,
   eQ := cD.l.choose_spec,
   fE := cS.l.choose_spec,
   eS := cw.l.choose_spec,
   eJ := bJ.l.choose_spec,
   bp := y1 bJ.l.choose_spec kI,
   c7 := c7,
   cH := aV.l.choose_spec,
   dS := bN.l.choose_spec,
   cJ := aU.l.choose_spec,
   fJ := dE.l.choose_spec,
   cz := dE.k,
   cB := PySem.W.mg_of X G dE.a,
   ix := fW.l.choose_spec,
   dC := fW.k,
   dN := PySem.W.mg_of X G fW.a,
   jw := gG.l.choose_spec,
   lu := gG.k,
   kZ := PySem.W.mg_of X G gG.a,
   il := fM.l.choose_spec,
   j7 := fM.k,
   jV := PySem.W.mg_of X G fM.a,
   iI := gf.l.choose_spec,
   jO := gf.k,
   jS := PySem.W.mg_of X G gf.a,
   jE := gI.l.choose_spec,
   kU := gI.k,
   kY := PySem.W.mg_of X G gI.a,
   wt := wL.l.choose_spec,
   vQ := PySem.W.mg_of X G wL.a,
   oY := PySem.W.mg_of X G uE,
   au := ⟨au.pg, au.hd, au.po, au.sa⟩,
   ay := ay,
   aD := aD,
   q9 := ⟨uw, cL.a, cL.i, vd⟩,
   dF := ⟨dB.a, dB.i, dB.k⟩,
   jN := ⟨dP.a, dP.i, dP.k⟩,
   iJ := ⟨cT.a, cT.i, cT.k⟩,
   jc := ⟨de.a, de.i, de.k⟩,
   jR := ⟨dI.a, dI.i, dI.k⟩,
   dY := ⟨cW.a, cW.i, cW.k⟩,
   eN := ⟨cD.a, cD.i, cD.k⟩,
   b7 := ⟨cS.a, cS.i, cS.k⟩,
   dn := ⟨cw.a, cw.i, cw.k⟩,
   eK := ⟨bJ.a, bJ.i, bJ.k⟩,
   aW := ⟨aV.a, aV.i, aV.k⟩,
   d8 := ⟨bN.a, bN.i, bN.k⟩,
   cI := ⟨aU.a, aU.i, aU.k⟩,
   n9 := PySem.W.mg_of X G u0,
   gH := PySem.W.mg_of X G rR,
   rg := PySem.W.mg_of X G wR,
   gY := PySem.W.mg_of X G sO,
   jL := PySem.W.mg_of X G xB,
   d6 := PySem.W.mg_of X G px,
   cX := cX,
   nc := ⟨nC, nB, my, m9, ⟨mX, D2, D4, fD⟩⟩,
   m6 := sR sj,
   fc := ⟨s9.ex, cX, cu.a, cu.i, ⟨nC, nB, my, m9, ⟨mX, D2, D4, fD⟩⟩, sA, sg, sD⟩,
   bL := di kM kK bL j3,
   bF := lN fD jJ bF,
   bU := di mh m8 bU kQ,
   bu := di fC jC bu jy,
   bW := di ik mz bW kO,
   eF := iA,
   mV := ⟨mS, nz, mw, ml, ⟨nj, D2, D4, fC⟩⟩,
   mm := sR sY,
   gw := ⟨rD.ex, cX, cq.a, cq.i, ⟨mS, nz, mw, ml, ⟨nj, D2, D4, fC⟩⟩, sf, sy, sE⟩,
   bP := di kM kK bP kc,
   bE := di fD jJ bE jn,
   bZ := di mh m8 bZ kJ,
   bq := lN fC jC bq,
   bT := di ik mz bT ko,
   eE := iw,
   ri := ⟨qB, qG, qj, p9, ⟨qP, D2, D4, ik⟩⟩,
   qf := sR wM,
   jQ := ⟨wN.ex, cX, c5.a, c5.i, ⟨qB, qG, qj, p9, ⟨qP, D2, D4, ik⟩⟩, wx, xn, xo⟩,
   cC := di kM kK cC lD,
   bY := di fD jJ bY ky,
   cV := di mh m8 cV nq,
   bX := di fC jC bX kj,
   c4 := lN ik mz c4,
   fv := jm,
   eZ := ⟨nR, nI, n0⟩,
   zA := zA,
   jg := PySem.W.mg_of X G nS,
   ez := PySem.W.mg_none_of X G ez,
   oZ := PySem.W.mg_none_of X G oZ,
   pX := PySem.W.mg_none_of X G pX,
   aI := PySem.W.mg_none_of X G aI,
   jA := PySem.W.mg_none_of X G jA,
   lM := PySem.W.mg_none_of X G lM,
   iC := PySem.W.mg_none_of X G iC,
   fQ := PySem.W.mg_none_of X G fQ,
   iT := PySem.W.mg_none_of X G iT,
   pD := PySem.W.mg_none_of X G pD
 }⟩
theorem Txt.oj {K : PySem.W.Frag} {mg : Str -> Option Value} {a : Ad} (T : Txt K mg a) : nO K a.ag := sI.o T.fc
theorem Txt.oG {K : PySem.W.Frag} {mg : Str -> Option Value} {a : Ad} (T : Txt K mg a) : nO K a.ai := sI.o T.gw
theorem Txt.tK {K : PySem.W.Frag} {mg : Str -> Option Value} {a : Ad} (T : Txt K mg a) : nO K a.aq := sI.o T.jQ
theorem Txt.qM {K : PySem.W.Frag} {mg : Str -> Option Value} {a : Ad} (T : Txt K mg a) : nO K a.az := vY.o T.cX
theorem Txt.ek {K : PySem.W.Frag} {mg : Str -> Option Value} {a : Ad} (T : Txt K mg a) : yC K a.az a.ag true := ⟨T.oj, T.eF⟩
theorem Txt.ig {K : PySem.W.Frag} {mg : Str -> Option Value} {a : Ad} (T : Txt K mg a) : yC K a.az a.ai true := ⟨T.oG, T.eE⟩
theorem Txt.i6 {K : PySem.W.Frag} {mg : Str -> Option Value} {a : Ad} (T : Txt K mg a) : yC K a.az a.aq true := ⟨T.tK, T.fv⟩
section
variable {P : Program} {w : World} {K : PySem.W.Frag} {mg : Str -> Option Value} {base : Heap} {a : Ad}
theorem nW (T : Txt K mg a) : bw P w K mg base ng 1 a.aX a.f9 ["self", "name"] (eD K a.aq) := by
 have hO := T.tK
 refine T.er.ok jY (fun vs H Q E h => ?_) (fun eh A outer s H vs Q E hr h => ?_)
 . obtain ⟨_, _, rfl, _⟩ := h; rfl
 . obtain ⟨p, n, rfl, hn, hp, q⟩ := h
   refine ⟨_, (ao (c6 (ju rfl T.d6 T.eZ (af (pv 0) (af (Af (pv 1) (by decide +kernel)) aj))))
    (aw (pj (pv 0) (pv 1) rfl))), ?_⟩
   repeat' (walk_at "rd1")
   refine jF hp hO ?_
   repeat' (walk_at "rd1")
   exact ⟨p, _, _, _, rfl, hp, T.jQ, fun d h1 h2 => q d h1 h2⟩
theorem mG (T : Txt K mg a) : nQ P w K mg base 1 a.aX ["self", "name"] [] (eD K a.aq) :=
 ⟨⟨_, _, nW T, T.er.binds fun _ _ _ _ _ _ => .all fun us hl => match us, hl with | [_, _], _ => rfl, .nil⟩⟩
theorem lJ (T : Txt K mg a) : bw P w K mg base ng 1 a.aO a.eV ["self", "name"] (eD K a.ag) := by
 have hO := T.oj
 refine T.dt.ok i3 (fun vs H Q E h => ?_) (fun eh A outer s H vs Q E hr h => ?_)
 . obtain ⟨_, _, rfl, _⟩ := h; rfl
 . obtain ⟨p, n, rfl, hn, hp, q⟩ := h
   refine ⟨_, (ao (c6 (ju rfl T.d6 T.eZ (af (pv 0) (af (yl (pv 1) (by decide +kernel)) aj))))
    (aw (pj (pv 0) (pv 1) rfl))), ?_⟩
   repeat' (walk_at "rd1")
   refine jF hp hO ?_
   repeat' (walk_at "rd1")
   exact ⟨p, _, _, _, rfl, hp, T.fc, fun d h1 h2 => q d h1 h2⟩
theorem kB (T : Txt K mg a) : nQ P w K mg base 1 a.aO ["self", "name"] [] (eD K a.ag) :=
 ⟨⟨_, _, lJ T, T.dt.binds fun _ _ _ _ _ _ => .all fun us hl => match us, hl with | [_, _], _ => rfl, .nil⟩⟩
theorem lE (T : Txt K mg a) : bw P w K mg base ng 1 a.aP a.eT ["self", "name"] (eD K a.ai) := by
 have hO := T.oG
 refine T.dz.ok i7 (fun vs H Q E h => ?_) (fun eh A outer s H vs Q E hr h => ?_)
 . obtain ⟨_, _, rfl, _⟩ := h; rfl
 . obtain ⟨p, n, rfl, hn, hp, q⟩ := h
   refine ⟨_, (ao (c6 (ju rfl T.d6 T.eZ (af (pv 0) (af (zL (pv 1) (by decide +kernel) (by decide +kernel)) aj))))
    (aw (pj (pv 0) (pv 1) rfl))), ?_⟩
   repeat' (walk_at "rd1")
   refine jF hp hO ?_
   repeat' (walk_at "rd1")
   exact ⟨p, _, _, _, rfl, hp, T.gw, fun d h1 h2 => q d h1 h2⟩
theorem kD (T : Txt K mg a) : nQ P w K mg base 1 a.aP ["self", "name"] [] (eD K a.ai) :=
 ⟨⟨_, _, lE T, T.dz.binds fun _ _ _ _ _ _ => .all fun us hl => match us, hl with | [_, _], _ => rfl, .nil⟩⟩
def Xn (H : Hp) (d : Addr) (x : Str) : Hp := upd H d (.xd [("name", .str x)])
inductive Chain (m : List (Str × PyData)) : Str -> List Str -> Prop
 | top {n : Str} : dq m n = some .none -> Chain m n [n]
 | up {n b : Str} {c : List Str} : dq m n = some (.str b) -> Chain m b c -> Chain m n (n :: c)
theorem Chain.has {m : List (Str × PyData)} {n : Str} {c : List Str} (h : Chain m n c) : (dq m n).isSome = true := by
 cases h with
 | top e => rw [e]; rfl
 | up e _ => rw [e]; rfl
theorem Chain.all {m : List (Str × PyData)} {n : Str} {c : List Str} (h : Chain m n c) : ∀ o ∈ c, (dq m o).isSome = true := by
 induction h with
 | top e =>
   intro o ho
   rw [List.mem_singleton.mp ho, e]; rfl
 | up e _ ih =>
   intro o ho
   rcases List.mem_cons.mp ho with rfl | ho
   . rw [e]; rfl
   . exact ih o ho
theorem Chain.inj {m : List (Str × PyData)} {n : Str} {c d : List Str} (h : Chain m n c) (k : Chain m n d) : c = d := by
 induction h generalizing d with
 | top e =>
   cases k with
   | top _ => rfl
   | up e2 _ => rw [e] at e2; cases e2
 | up e _ ih =>
   cases k with
   | top e2 => rw [e] at e2; cases e2
   | up e2 k2 =>
     rw [e] at e2
     cases e2
     rw [ih k2]
structure p6 (C : Addr) (H : Hp) (v : V) (d1 d2 : Addr) (m ms : List (Str × PyData)) : Prop where
 ins : vA H v C [("above_of", .ref d1), ("marks", .ref d2)]
 ab : Ae H d1 m
 A4 : Ae H d2 ms
theorem p6.keeps {C : Addr} {H H' : Hp} {v : V} {d1 d2 : Addr} {m ms : List (Str × PyData)} (s : aB H H') (h : p6 C H v d1 d2 m ms) : p6 C H' v d1 d2 m ms := ⟨h.ins.keeps s, h.ab.keeps s, h.A4.keeps s⟩
local macro_rules | `(tactic| walk_at "grd") => `(tactic| first
 | assumption
 | (refine' p6.keeps ?s ?m; (case s => assumption); (case m => walk_at "grd"))
 | fail)
local macro_rules | `(tactic| walk_at "drd") => `(tactic| first
 | assumption
 | (refine' Ae.keeps ?s ?m; (case s => assumption); (case m => walk_at "drd"))
 | (refine' ku.rd ?m; (case m => walk_at "dla"))
 | fail)
local macro_rules | `(tactic| walk_at "rd1") => `(tactic| first
 | ((with_reducible refine' De ?e1 (fun _ _ => ?_)); (case e1 => walk_at "drd"))
 | ((with_reducible refine' yN ?e1 ?e2 ?_); (case e1 => walk_at "drd"); (case e2 => assumption))
 | fail)
def oO (C cN : Addr) : Sp := fun vs H Q E => ∃ v d1 d2 m ms n, vs = [v, .str n] /\ p6 C H v d1 d2 m ms /\ (dq m n = none -> o3 n /\ ∀ d', H d' = none -> E (.ref cN) (some d') (Xn H d' n)) /\ ((dq m n).isSome = true -> Q .aY H)
theorem uB (T : Txt K mg a) : bw P w K mg base (nG P w) 3 a.aF a.dR ["self", "name"] (oO a.ah a.ag) := by
 have n1 := T.ay; have n2 := T.aD; have cl := T.au
 have mx := kB (P := P) (w := w) (base := base) T
 refine T.cH.wD gX (fun vs H Q E h => ?_) (fun eh A outer s H vs Q E hr h => ?_)
 . obtain ⟨_, _, _, _, _, _, rfl, _⟩ := h; rfl
 . obtain ⟨v, d1, d2, m, ms, n, rfl, hg, qN, q⟩ := h
   have hi := hg.ins; have ha := hg.ab
   refine ⟨_, (aw (cK (x6 (uH (oi hr) (pv 1) (jD (pv 0) rfl)) rfl)
    (aw (kz sN rfl (af (pv 1) aj) rfl T.gH T.fc (hr.mono (by decide)) mx rfl))
    aQ)), ?_⟩
   repeat' (walk_at "rd1")
   . rename_i o e hb
     cases hk : dq m n with
     | none => exact kC (qN hk).1 (fun d' jt => (qN hk).2 d' jt)
     | some u => rw [e, hk] at hb; cases hb
   . rename_i o e hb
     refine q ?_
     cases hk : dq m n with
     | none => rw [e, hk] at hb; cases hb
     | some u => rfl
theorem gC (T : Txt K mg a) : iZ P w K mg base 3 a.aF ["self", "name"] [] (oO a.ah a.ag) :=
 ⟨⟨_, _, uB T, T.cH.binds fun _ _ _ _ _ _ => .all fun us hl => match us, hl with | [_, _], _ => rfl, .nil⟩⟩
def nA (C cN : Addr) : Sp := fun vs H Q E => ∃ v d1 d2 m ms n, vs = [v, .str n] /\ p6 C H v d1 d2 m ms /\ (dq m n = none -> o3 n /\ ∀ d', H d' = none -> E (.ref cN) (some d') (Xn H d' n)) /\ ((dq m n).isSome = true -> ∃ c, Chain m n c /\ c.length <= 60 /\ ∀ q H', aB H H' -> H q = none -> eI H' q (c.map PyData.str) -> Q (.ref q) H')
theorem wF (T : Txt K mg a) : bw P w K mg base (nG P w) 5 a.bA a.g9 ["self", "name"] (nA a.ah a.ag) := by
 have n1 := T.ay; have n2 := T.aD; have cl := T.au
 have bz := T.aW
 have bB := gC (P := P) (w := w) (base := base) T
 refine T.fE.wD eP (fun vs H Q E h => ?_) (fun eh A outer s H vs Q E hr h => ?_)
 . obtain ⟨_, _, _, _, _, _, rfl, _⟩ := h; rfl
 . obtain ⟨v, d1, d2, m, ms, n, rfl, hg, qN, qY⟩ := h
   have hi := hg.ins; have ha := hg.ab
   refine ⟨_, (ao (c6 (bO (pv 0) cl bz bB (hr.mono (by decide)) eU (af (pv 1) aj)))
    (ao (bI (i := 2) eP.nd rfl (Or.inl rfl) (gT aj))
    (ao (PS.zc (w6 PassesOwn.never (aN ud (pv 1) mC (bf _))
     (ao (c6 (Ax PySem.F.plainAttrs_list PySem.F.slot_list_append PySem.F.type_list_append vm (pv 2) (af (pv 1) aj)))
     (aw (bI (i := 1) eP.nd rfl (Or.inl rfl) (yI (oi hr) (jD (pv 0) rfl) (pv 1) (fun _ _ => rfl)))))))
    (aw (aL (pv 2)))))), ?_⟩
   repeat' (walk_at "rd1")
   refine ⟨v, d1, d2, m, ms, n, rfl, hg, qN, fun hs => ?_⟩
   obtain ⟨c, hc, gW, q⟩ := qY hs
   repeat' (walk_at "rd1")
   rename_i p H1 o9 vq By
   refine yO (fun r σ' H' => ∃ (acc rest : List Str) (x : V), σ' = [some v, some x, some (.ref p)] /\ aB H H' /\ eI H' p (acc.map PyData.str) /\ acc ++ rest = c /\ r = rest.length /\ ((x = .aY /\ rest = []) \/ ∃ n, x = .str n /\ Chain m n rest)) ⟨_, [], c, _, rfl, o9, By, rfl, rfl, .inr ⟨n, rfl, hc⟩⟩ ?_
   rintro r σ' H' ⟨acc, rest, x, rfl, Ep, yf, A3, rfl, hx⟩
   have Bg := hi.keeps Ep
   have Ka := ha.keeps Ep
   have JR : acc.length <= 60 := by rw [<- A3, List.length_append] at gW; omega
   rcases hx with ⟨rfl, rfl⟩ | ⟨n', rfl, lb⟩
   . repeat' (walk_at "rd1")
     rw [List.append_nil] at A3
     subst A3
     exact q _ _ Ep vq yf
   . cases lb with
     | top e =>
       repeat' (walk_at "rd1")
       rename_i hb H3 Bc Ih
       have sm3 : aB H H3 := by walk_at "same"
       have GW := hi.keeps sm3
       have Lx := ha.keeps sm3
       repeat' (walk_at "rd1")
       exact ⟨0, Nat.zero_lt_one, acc ++ [n'], [], .aY, rfl, sm3, by rw [List.map_append]; exact Ih, by rw [List.append_nil]; exact A3, rfl, .inl ⟨rfl, rfl⟩⟩
     | @up _ b c2 e Kn =>
       repeat' (walk_at "rd1")
       rename_i hb H3 Bc Ih
       have sm3 : aB H H3 := by walk_at "same"
       have GW := hi.keeps sm3
       have Lx := ha.keeps sm3
       repeat' (walk_at "rd1")
       exact ⟨c2.length, Nat.lt_succ_self _, acc ++ [n'], c2, .str b, rfl, sm3, by rw [List.map_append]; exact Ih, by rw [List.append_assoc]; exact A3, rfl, .inr ⟨b, rfl, Kn⟩⟩
theorem iQ (T : Txt K mg a) : iZ P w K mg base 5 a.bA ["self", "name"] [] (nA a.ah a.ag) :=
 ⟨⟨_, _, wF T, T.fE.binds fun _ _ _ _ _ _ => .all fun us hl => match us, hl with | [_, _], _ => rfl, .nil⟩⟩
theorem wq {C cN : Addr} {H : Hp} {Q : VK} {E : XK} {v : V} {d1 d2 : Addr} {m ms : List (Str × PyData)} {n : Str} {c : List Str} (h : p6 C H v d1 d2 m ms) (hc : Chain m n c) (hl : c.length <= 60) (q : ∀ q H', aB H H' -> H q = none -> eI H' q (c.map PyData.str) -> Q (.ref q) H') : kP (nA C cN) [v, .str n] H Q E :=
 ⟨v, d1, d2, m, ms, n, rfl, h, fun hk => (by have := hc.has; rw [hk] at this; cases this), fun _ => ⟨c, hc, hl, q⟩⟩
def AX (ms : List (Str × PyData)) (n : Str) : Bool := (dq ms n).isSome
def kH (C cN : Addr) : Sp := fun vs H Q E => ∃ v d1 d2 m ms n, vs = [v, .str n] /\ p6 C H v d1 d2 m ms /\ (dq m n = none -> o3 n /\ ∀ d', H d' = none -> E (.ref cN) (some d') (Xn H d' n)) /\ ((dq m n).isSome = true -> Q (.bl (AX ms n)) H)
theorem uX (T : Txt K mg a) : bw P w K mg base (nG P w) 5 a.a9 a.gx ["self", "name"] (kH a.ah a.ag) := by
 have n1 := T.ay; have n2 := T.aD; have cl := T.au
 have bz := T.aW
 have bB := gC (P := P) (w := w) (base := base) T
 refine T.eQ.wD kT (fun vs H Q E h => ?_) (fun eh A outer s H vs Q E hr h => ?_)
 . obtain ⟨_, _, _, _, _, _, rfl, _⟩ := h; rfl
 . obtain ⟨v, d1, d2, m, ms, n, rfl, hg, qN, q⟩ := h
   have hi := hg.ins; have ha := hg.A4
   refine ⟨_, (ao (c6 (bO (pv 0) cl bz bB (hr.mono (by decide)) eU (af (pv 1) aj)))
    (aw (aL (wI (sh (oi hr) (pv 1) (jD (pv 0) rfl)) rfl)))), ?_⟩
   repeat' (walk_at "rd1")
   refine ⟨v, d1, d2, m, ms, n, rfl, hg, qN, fun hs => ?_⟩
   repeat' (walk_at "rd1")
   rename_i o e
   have e' : o.isSome = AX ms n := e
   rw [e']
   exact q hs
theorem m5 (T : Txt K mg a) : iZ P w K mg base 5 a.a9 ["self", "name"] [] (kH a.ah a.ag) :=
 ⟨⟨_, _, uX T, T.eQ.binds fun _ _ _ _ _ _ => .all fun us hl => match us, hl with | [_, _], _ => rfl, .nil⟩⟩
theorem uM {C cN : Addr} {H : Hp} {Q : VK} {E : XK} {v : V} {d1 d2 : Addr} {m ms : List (Str × PyData)} {n : Str} (h : p6 C H v d1 d2 m ms) (hn : (dq m n).isSome = true) (q : Q (.bl (AX ms n)) H) : kP (kH C cN) [v, .str n] H Q E :=
 ⟨v, d1, d2, m, ms, n, rfl, h, fun hk => (by rw [hk] at hn; cases hn), fun _ => q⟩
def mU (C : Addr) : Sp := fun vs H Q _ => ∃ v d1 d2 m ms n c, vs = [v, .str n] /\ p6 C H v d1 d2 m ms /\ Chain m n c /\ c.length <= 60 /\ ∀ H', aB H H' -> Q (.int (c.length : Nat)) H'
theorem yW {C : Addr} {H : Hp} {Q : VK} {E : XK} {v : V} {d1 d2 : Addr} {m ms : List (Str × PyData)} {n : Str} {c : List Str} (h : p6 C H v d1 d2 m ms) (hc : Chain m n c) (hl : c.length <= 60) (q : ∀ H', aB H H' -> Q (.int (c.length : Nat)) H') : mU C [v, .str n] H Q E := ⟨v, d1, d2, m, ms, n, c, rfl, h, hc, hl, q⟩
local macro_rules | `(tactic| walk_at "use") => `(tactic| first
 | ((with_reducible refine' wq ?e1 ?e2 ?e3 (fun _ _ _ _ _ => ?_)); (case e1 => walk_at "grd"); (case e2 => assumption); (case e3 => assumption))
 | ((with_reducible refine' uM ?e1 ?e2 ?_); (case e1 => walk_at "grd"); (case e2 => assumption))
 | ((with_reducible refine' yW ?e1 ?e2 ?e3 (fun _ _ => ?_)); (case e1 => walk_at "grd"); (case e2 => assumption); (case e3 => assumption))
 | fail)
theorem xg (T : Txt K mg a) : bw P w K mg base ng 6 a.aR a.fu ["self", "name"] (mU a.ah) := by
 have cl := T.au
 have pT := T.b7
 have pe := (iQ (P := P) (w := w) (base := base) T).calm
 refine T.dS.ok jB (fun vs H Q E h => ?_) (fun eh A outer s H vs Q E hr h => ?_)
 . obtain ⟨_, _, _, _, _, _, _, rfl, _⟩ := h; rfl
 . obtain ⟨v, d1, d2, m, ms, n, c, rfl, hg, hc, gW, q⟩ := h
   have hi := hg.ins
   refine ⟨_, (aw (aL (bx iV rfl T.jA PySem.boot_len (af (dj (pv 0) cl pT pe (hr.mono (by decide)) (af (pv 1) aj)) aj)))), ?_⟩
   repeat' (walk_at "rd1")
   exact q _ (by walk_at "same")
theorem oQ (T : Txt K mg a) : nQ P w K mg base 6 a.aR ["self", "name"] [] (mU a.ah) :=
 ⟨⟨_, _, xg T, T.dS.binds fun _ _ _ _ _ _ => .all fun us hl => match us, hl with | [_, _], _ => rfl, .nil⟩⟩
def DW : Nat -> List (Str × PyData) -> Str -> List Str
 | 0, _, n => [n]
 | f + 1, m, n => match dq m n with
   | some (.str b) => n :: DW f m b
   | _ => [n]
theorem Chain.fn {m : List (Str × PyData)} {n : Str} {c : List Str} (h : Chain m n c) : ∀ {f : Nat}, c.length <= f -> DW f m n = c := by
 induction h with
 | top e =>
   intro f hf
   cases f with
   | zero => rfl
   | succ f => simp [DW, e]
 | up e _ ih =>
   intro f hf
   cases f with
   | zero => simp at hf
   | succ f => simp only [DW, e]; rw [ih (by simpa using hf)]
def D8 (m ms : List (Str × PyData)) (n : Str) : Bool := (DW 60 m n).any (AX ms)
def m7 (C cN : Addr) : Sp := fun vs H Q E => ∃ v d1 d2 m ms n, vs = [v, .str n] /\ p6 C H v d1 d2 m ms /\ (dq m n = none -> o3 n /\ ∀ d', H d' = none -> E (.ref cN) (some d') (Xn H d' n)) /\ ((dq m n).isSome = true -> ∃ c, Chain m n c /\ c.length <= 60 /\ ∀ H', aB H H' -> Q (.bl (!D8 m ms n)) H')
theorem w5 (T : Txt K mg a) : bw P w K mg base (nG P w) 7 a.bC a.hU ["self", "name"] (m7 a.ah a.ag) := by
 have cl := T.au
 have pT := T.b7; have wW := T.eN
 have pe := iQ (P := P) (w := w) (base := base) T
 have sP := (m5 (P := P) (w := w) (base := base) T).calm
 refine T.fw.wD lA (fun vs H Q E h => ?_) (fun eh A outer s H vs Q E hr h => ?_)
 . obtain ⟨_, _, _, _, _, _, rfl, _⟩ := h; rfl
 . obtain ⟨v, d1, d2, m, ms, n, rfl, hg, qN, qY⟩ := h
   have hi := hg.ins
   refine ⟨_, (aw (aL (vK (bx (uT rfl) rfl T.oZ PyProof.Rows.boot_any (af (v7 (T := ["other"]) (M := ["self", "name"]) (GR (ax dZ) ["self", "name"] rfl rfl (by decide +kernel)) rfl (lQ (bO (pv 0) cl pT pe (hr.mono (by decide)) eU (af (pv 1) aj))) (fun _ _ _ _ _ => (iW (i := 0) (show List.Nodup (["other", "self", "name"] : List Str) by decide +kernel) rfl (Or.inl rfl))) (iS (by decide)) (fun _ _ _ _ _ => pC) (fun _ _ _ _ _ => (dj (pv 1) cl wW sP (hr.mono (by decide)) (af (pv 0) aj)))) aj))))), ?_⟩
   repeat' (walk_at "rd1")
   refine ⟨v, d1, d2, m, ms, n, rfl, hg, qN, fun hs => ?_⟩
   obtain ⟨c, hc, gW, q⟩ := qY hs
   refine ⟨c, hc, gW, fun p1 H1 o9 vq By => ?_⟩
   refine z8 (cs := c) (gd := PyData.str) (fun _ => true) (fun o => .bool (AX ms o)) By.dv (by omega) (fun _ => rfl) (fun x o H' N ho Ep jt yes no => ?_) (fun pq H5 Js J0 JL => ?_)
   . obtain rfl := jt.str_inv
     have kW := hc.all o ho
     have Li := (hg.keeps o9).keeps Ep
     have Bg := Li.ins
     repeat' (walk_at "rd1")
     show Gv _ N _ true _
     refine qS (fun _ => ?_) (fun hb => by cases hb)
     repeat' (walk_at "rd1")
     exact yes rfl _ _ (aB.refl _) (.bl _)
   . have e : c.filter (fun _ => true) = c := List.filter_eq_self.mpr (by simp)
     rw [e] at JL
     have Mt : eI H5 pq ((c.map (AX ms)).map PyData.bool) := by rw [List.map_map]; exact JL
     repeat' (walk_at "rd1")
     have e2 : (c.map (AX ms)).any id = D8 m ms n := by unfold D8; rw [hc.fn gW, List.any_map]; rfl
     rw [e2]
     exact q _ (by walk_at "same")
theorem kN (T : Txt K mg a) : iZ P w K mg base 7 a.bC ["self", "name"] [] (m7 a.ah a.ag) :=
 ⟨⟨_, _, w5 T, T.fw.binds fun _ _ _ _ _ _ => .all fun us hl => match us, hl with | [_, _], _ => rfl, .nil⟩⟩
theorem vF {C cN : Addr} {H : Hp} {Q : VK} {E : XK} {v : V} {d1 d2 : Addr} {m ms : List (Str × PyData)} {n : Str} {c : List Str} (h : p6 C H v d1 d2 m ms) (hc : Chain m n c) (hl : c.length <= 60) (q : ∀ H', aB H H' -> Q (.bl (!D8 m ms n)) H') : kP (m7 C cN) [v, .str n] H Q E :=
 ⟨v, d1, d2, m, ms, n, rfl, h, fun hk => (by have := hc.has; rw [hk] at this; cases this), fun _ => ⟨c, hc, hl, q⟩⟩
def jk (C cN : Addr) : Sp := fun vs H _ E => ∃ v d1 d2 m ms n, vs = [v, .str n] /\ p6 C H v d1 d2 m ms /\ dq m n = none /\ o3 n /\ ∀ d', H d' = none -> E (.ref cN) (some d') (Xn H d' n)
theorem uZ (T : Txt K mg a) : bw P w K mg base (nG P w) 5 a.a7 a.gq ["self", "name"] (jk a.ah a.ag) := by
 have n1 := T.ay; have n2 := T.aD; have cl := T.au
 have bz := T.aW
 have bB := gC (P := P) (w := w) (base := base) T
 refine T.eS.wD kE (fun vs H Q E h => ?_) (fun eh A outer s H vs Q E hr h => ?_)
 . obtain ⟨_, _, _, _, _, _, rfl, _⟩ := h; rfl
 . obtain ⟨v, d1, d2, m, ms, n, rfl, hg, hk, hn, qN⟩ := h
   have hi := hg.ins
   refine ⟨_, (ao (c6 (bO (pv 0) cl bz bB (hr.mono (by decide)) eU (af (pv 1) aj)))
    (aw fF)), ?_⟩
   repeat' (walk_at "rd1")
   exact ⟨v, d1, d2, m, ms, n, rfl, hg, fun _ => ⟨hn, qN⟩, fun hs => (by rw [hk] at hs; cases hs)⟩
theorem jH (T : Txt K mg a) : iZ P w K mg base 5 a.a7 ["self", "name"] [] (jk a.ah a.ag) :=
 ⟨⟨_, _, uZ T, T.eS.binds fun _ _ _ _ _ _ => .all fun us hl => match us, hl with | [_, _], _ => rfl, .nil⟩⟩
theorem yE (T : Txt K mg a) : bw P w K mg base (nG P w) 8 a.aG a.dQ ["self", "name"] (jk a.ah a.ag) := by
 have n1 := T.ay; have n2 := T.aD; have cl := T.au
 have nh := T.dn; have zv := T.dY
 have mM := jH (P := P) (w := w) (base := base) T
 have uQ := (kN (P := P) (w := w) (base := base) T).calm
 refine T.cJ.wD gR (fun vs H Q E h => ?_) (fun eh A outer s H vs Q E hr h => ?_)
 . obtain ⟨_, _, _, _, _, _, rfl, _⟩ := h; rfl
 . obtain ⟨v, d1, d2, m, ms, n, rfl, hg, hk, hn, qN⟩ := h
   have hi := hg.ins
   refine ⟨_, (aw (aL (v7 (T := ["other"]) (M := ["self", "name"]) (GR (ax bG) ["self", "name"] rfl rfl (by decide +kernel)) rfl (lQ (bO (pv 0) cl nh mM (hr.mono (by decide)) eU (af (pv 1) aj))) (fun _ _ _ _ _ => (iW (i := 0) (show List.Nodup (["other", "self", "name"] : List Str) by decide +kernel) rfl (Or.inl rfl))) (iS (by decide)) (fun _ _ _ _ _ => (zR (iR (K := K) rfl (dj (pv 1) cl zv uQ (hr.mono (by decide)) (af (pv 0) aj)) (fun _ => rfl)))) (fun _ _ _ _ _ => (pv 0))))), ?_⟩
   repeat' (walk_at "rd1")
   exact ⟨v, d1, d2, m, ms, n, rfl, hg, hk, hn, qN⟩
theorem qx (T : Txt K mg a) : iZ P w K mg base 8 a.aG ["self", "name"] [] (jk a.ah a.ag) :=
 ⟨⟨_, _, yE T, T.cJ.binds fun _ _ _ _ _ _ => .all fun us hl => match us, hl with | [_, _], _ => rfl, .nil⟩⟩
theorem x5 (T : Txt K mg a) : bw P w K mg base (nG P w) 10 a.bD a.hJ ["self", "name"] (jk a.ah a.ag) := by
 have n1 := T.ay; have n2 := T.aD; have cl := T.au
 have fh := T.cI
 have ft := qx (P := P) (w := w) (base := base) T
 refine T.fA.wD g7 (fun vs H Q E h => ?_) (fun eh A outer s H vs Q E hr h => ?_)
 . obtain ⟨_, _, _, _, _, _, rfl, _⟩ := h; rfl
 . obtain ⟨v, d1, d2, m, ms, n, rfl, hg, hk, hn, qN⟩ := h
   have hi := hg.ins
   refine ⟨_, (ao (bI (i := 2) g7.nd rfl (Or.inl rfl) (bO (pv 0) cl fh ft (hr.mono (by decide)) eU (af (pv 1) aj)))
    (ao fF
    (aw fF))), ?_⟩
   repeat' (walk_at "rd1")
   exact ⟨v, d1, d2, m, ms, n, rfl, hg, hk, hn, qN⟩
theorem vg (T : Txt K mg a) : iZ P w K mg base 10 a.bD ["self", "name"] [] (jk a.ah a.ag) :=
 ⟨⟨_, _, x5 T, T.fA.binds fun _ _ _ _ _ _ => .all fun us hl => match us, hl with | [_, _], _ => rfl, .nil⟩⟩
theorem yA (T : Txt K mg a) : bw P w K mg base (nG P w) 10 a.bR a.iy ["self", "name"] (jk a.ah a.ag) := by
 have n1 := T.ay; have n2 := T.aD; have cl := T.au
 have fh := T.cI
 have ft := qx (P := P) (w := w) (base := base) T
 refine T.gk.wD iM (fun vs H Q E h => ?_) (fun eh A outer s H vs Q E hr h => ?_)
 . obtain ⟨_, _, _, _, _, _, rfl, _⟩ := h; rfl
 . obtain ⟨v, d1, d2, m, ms, n, rfl, hg, hk, hn, qN⟩ := h
   have hi := hg.ins
   refine ⟨_, (ao (bI (i := 2) iM.nd rfl (Or.inr rfl) (bO (pv 0) cl fh ft (hr.mono (by decide)) eU (af (pv 1) aj)))
    (ao fF
    (aw fF))), ?_⟩
   repeat' (walk_at "rd1")
   exact ⟨v, d1, d2, m, ms, n, rfl, hg, hk, hn, qN⟩
theorem wA (T : Txt K mg a) : iZ P w K mg base 10 a.bR ["self", "name"] [] (jk a.ah a.ag) :=
 ⟨⟨_, _, yA T, T.gk.binds fun _ _ _ _ _ _ => .all fun us hl => match us, hl with | [_, _], _ => rfl, .nil⟩⟩
theorem Cv (T : Txt K mg a) : bw P w K mg base (nG P w) 7 a.cj a.ja ["self", "name"] (jk a.ah a.ag) := by
 have n1 := T.ay; have n2 := T.aD; have cl := T.au
 have nh := T.dn
 have mM := jH (P := P) (w := w) (base := base) T
 refine T.gD.wD jb (fun vs H Q E h => ?_) (fun eh A outer s H vs Q E hr h => ?_)
 . obtain ⟨_, _, _, _, _, _, rfl, _⟩ := h; rfl
 . obtain ⟨v, d1, d2, m, ms, n, rfl, hg, hk, hn, qN⟩ := h
   have hi := hg.ins
   refine ⟨_, (ao (bI (i := 2) jb.nd rfl (Or.inl rfl) (bO (pv 0) cl nh mM (hr.mono (by decide)) eU (af (pv 1) aj)))
    (ao fF
    (aw fF))), ?_⟩
   repeat' (walk_at "rd1")
   exact ⟨v, d1, d2, m, ms, n, rfl, hg, hk, hn, qN⟩
theorem za (T : Txt K mg a) : iZ P w K mg base 7 a.cj ["self", "name"] [] (jk a.ah a.ag) :=
 ⟨⟨_, _, Cv T, T.gD.binds fun _ _ _ _ _ _ => .all fun us hl => match us, hl with | [_, _], _ => rfl, .nil⟩⟩
structure nU (C : Addr) (H : Hp) (v : V) (d1 d2 : Addr) (m ms : List (Str × PyData)) : Prop where
 ins : vA H v C [("above_of", .ref d1), ("marks", .ref d2)]
 ab : ku H d1 m
 A4 : ku H d2 ms
 ne : d1 ≠ d2
theorem nU.rd {C : Addr} {H : Hp} {v : V} {d1 d2 : Addr} {m ms : List (Str × PyData)} (h : nU C H v d1 d2 m ms) : p6 C H v d1 d2 m ms := ⟨h.ins, h.ab.rd, h.A4.rd⟩
theorem nU.keeps {C : Addr} {H H' : Hp} {v : V} {d1 d2 : Addr} {m ms : List (Str × PyData)} (s : aB H H') (h : nU C H v d1 d2 m ms) : nU C H' v d1 d2 m ms := ⟨h.ins.keeps s, h.ab.keeps s, h.A4.keeps s, h.ne⟩
theorem tT {C : Addr} {H H' : Hp} {v : V} {fs : List (Str × V)} {d : Addr} {m : List (Str × PyData)} (h : vA H v C fs) (hd : ku H d m) (mv : Mv [d] H H') : vA H' v C fs := by
 obtain ⟨p, dx, rfl, e⟩ := h
 obtain ⟨kvs, e2, _⟩ := hd
 exact ⟨p, dx, rfl, mv.at (by simpa using A9 e e2 (by intro z; cases z)) e⟩
structure zy (m : List (Str × PyData)) : Prop where
 ch : ∀ n, (dq m n).isSome = true -> ∃ c, Chain m n c /\ c.length <= 60
 nd : (m.map (·.1)).Nodup
 len : m.length <= 60
theorem mP {m : List (Str × PyData)} {n : Str} (h : n ∈ m.map (·.1)) : (dq m n).isSome = true := by
 unfold dq
 rw [Option.isSome_map, List.find?_isSome]
 obtain ⟨x, hx, e⟩ := List.mem_map.mp h
 exact ⟨x, hx, by simpa using e⟩
local macro_rules | `(tactic| walk_at "gat") => `(tactic| first
 | assumption
 | (refine' nU.keeps ?s ?m; (case s => assumption); (case m => walk_at "gat"))
 | fail)
theorem qL {m : List (Str × PyData)} {k : Str} {d : PyData} (h : dq m k = none) : putD m k d = m ++ [(k, d)] := by
 unfold putD
 rw [if_neg]
 unfold dq at h
 rw [Option.map_eq_none_iff, List.find?_eq_none] at h
 simp only [List.any_eq_true, not_exists, not_and]
 exact h
def ux (m : List (Str × PyData)) (x : V) (d : PyData) : Prop := (x = .aY /\ d = .none) \/ ∃ b c, x = .str b /\ d = .str b /\ Chain m b c /\ c.length <= 7
inductive uY (C1 C2 C3 : Addr) (m : List (Str × PyData)) (n : Str) : V -> Option (Addr × Str) -> Prop
 | twice {x : V} : (dq m n).isSome = true -> uY C1 C2 C3 m n x (some (C1, n))
 | group {b : Str} : dq m n = none -> dq m b = none -> o3 b -> uY C1 C2 C3 m n (.str b) (some (C2, b))
 | deep {b : Str} {c : List Str} : dq m n = none -> Chain m b c -> c.length = 8 -> uY C1 C2 C3 m n (.str b) (some (C3, n))
 | ok {x : V} {d : PyData} : dq m n = none -> ux m x d -> uY C1 C2 C3 m n x none
def o1 (C C1 C2 C3 : Addr) : Sp := fun vs H Q E => ∃ v d1 d2 m ms n x r, vs = [v, .str n, x] /\ nU C H v d1 d2 m ms /\ m.length <= 100 /\ o3 n /\ uY C1 C2 C3 m n x r /\ (∀ c y, r = some (c, y) -> ∀ H2, aB H H2 -> ∀ d', H2 d' = none -> E (.ref c) (some d') (Xn H2 d' y)) /\ (r = none -> ∀ d, ux m x d -> ∀ H', Mv [d1] H H' -> nU C H' v d1 d2 (m ++ [(n, d)]) ms -> Q .aY H')
theorem vN (T : Txt K mg a) : bw P w K mg base (nG P w) 8 a.bK a.jf ["self", "name", "above"] (o1 a.ah a.aq a.ag a.ai) := by
 have n1 := T.ay; have n2 := T.aD; have cl := T.au
 have bz := T.aW; have jI := T.d8
 have bB := gC (P := P) (w := w) (base := base) T
 have jx := oQ (P := P) (w := w) (base := base) T
 have pR := mG (P := P) (w := w) (base := base) T
 have mD := kD (P := P) (w := w) (base := base) T
 refine T.eW.wD nK (fun vs H Q E h => ?_) (fun eh A outer s H vs Q E hr h => ?_)
 . obtain ⟨_, _, _, _, _, _, _, _, rfl, _⟩ := h; rfl
 . obtain ⟨v, d1, d2, m, ms, n, x, r, rfl, hg, hl, Ej, Ir, qE, q⟩ := h
   have hi := hg.ins; have Ek := hg.ab; have GN := hg.rd
   refine ⟨_, (ao (cK (x6 (sh (oi hr) (pv 1) (jD (pv 0) rfl)) rfl)
    (aw (kz sN rfl (af (pv 1) aj) rfl T.jL T.jQ (hr.mono (by decide)) pR rfl))
    aQ)
    (ao (cK (aN ud (pv 2) mC (bf _))
     (ao (c6 (bO (pv 0) cl bz bB (hr.mono (by decide)) eU (af (pv 2) aj)))
     (aw (cK (aN Gh (dj (pv 0) cl jI jx (hr.mono (by decide)) (af (pv 2) aj)) (fb (v := .int 8) rfl T.jg ⟨_, rfl⟩) (bf _))
      (aw (kz sN rfl (af (pv 1) aj) rfl T.gY T.gw (hr.mono (by decide)) mD rfl))
      aQ)))
     aQ)
    (aw (zI (oi hr) (jD (pv 0) rfl) (pv 1) (pv 2) rfl)))), ?_⟩
   have zk : ∀ {o : Option V}, o.isSome = (dq m n).isSome -> dq m n = none -> ¬ o.isSome = true := fun e hn hb => by rw [e, hn] at hb; cases hb
   cases Ir with
   | twice hs =>
     repeat' (walk_at "rd1")
     . exact kC Ej (fun d' jt => qE _ _ rfl H (aB.refl _) d' jt)
     . rename_i o e D0 oE; rw [e, hs] at D0; cases D0
     . rename_i o e D0 oE; rw [e, hs] at D0; cases D0
   | @group b hn hb HI =>
     repeat' (walk_at "rd1")
     . rename_i o e hb; exact absurd hb (zk e hn)
     . exact ⟨v, d1, d2, m, ms, b, rfl, GN, fun _ => ⟨HI, fun d' jt => qE _ _ rfl H (aB.refl _) d' jt⟩, fun hs => by rw [hb] at hs; cases hs⟩
   | @deep b c hn hc gW =>
     have Ci : c.length <= 60 := by omega
     repeat' (walk_at "rd1")
     . rename_i o e hb; exact absurd hb (zk e hn)
     . refine ⟨v, d1, d2, m, ms, b, rfl, GN, fun hk => (by have := hc.has; rw [hk] at this; cases this), fun _ => ?_⟩
       repeat' (walk_at "rd1")
       exact kC Ej (fun d' jt => qE _ _ rfl _ (by assumption) d' jt)
   | ok hn ha =>
     rcases id ha with ⟨rfl, rfl⟩ | ⟨b, c, rfl, rfl, hc, gW⟩
     . repeat' (walk_at "rd1")
       . rename_i o e hb; exact absurd hb (zk e hn)
       . rename_i o e D0 oE H2 sF hd
         rw [qL hn] at hd
         exact q rfl _ ha _ sF ⟨tT hi Ek sF, hd, hg.A4.mv sF (by simpa using Ne.symm hg.ne), hg.ne⟩
     . have Ci : c.length <= 60 := by omega
       repeat' (walk_at "rd1")
       . rename_i o e hb; exact absurd hb (zk e hn)
       . refine ⟨v, d1, d2, m, ms, b, rfl, GN, fun hk => (by have := hc.has; rw [hk] at this; cases this), fun _ => ?_⟩
         repeat' (walk_at "rd1")
         rename_i H4 JS NR H2 sF hd
         have y8 := hg.keeps JS
         rw [qL hn] at hd
         exact q rfl _ ha _ (JS.mv.trans sF) ⟨tT y8.ins y8.ab sF, hd, y8.A4.mv sF (by simpa using Ne.symm hg.ne), hg.ne⟩
theorem tu (T : Txt K mg a) : iZ P w K mg base 8 a.bK ["self", "name", "above"] [] (o1 a.ah a.aq a.ag a.ai) :=
 ⟨⟨_, _, vN T, T.eW.binds fun _ _ _ _ _ _ s us kx hl => by
   obtain ⟨o, n, h1, h2⟩ := T.gQ.ex
   have hl : us.length = 3 := by simp at hl; omega
   match us, hl with
   | [_, _, _], _ => exact PySem.W.binds_K kx rfl h1 h2 rfl rfl, .nil⟩⟩
theorem xV (T : Txt K mg a) : iZ P w K mg base 8 a.bK ["self", "name", "above"] [.aY] (o1 a.ah a.aq a.ag a.ai) :=
 ⟨⟨_, _, vN T, T.eW.binds fun _ _ _ _ _ _ s us kx hl => by
   obtain ⟨o, n, h1, h2⟩ := T.gQ.ex
   have hl : us.length = 2 := by simp at hl; omega
   match us, hl with
   | [_, _], _ => exact PySem.W.binds_K kx rfl h1 h2 rfl rfl, .cons rfl .nil⟩⟩
theorem rT {C C1 C2 C3 : Addr} {H : Hp} {Q : VK} {E : XK} {v x : V} {d1 d2 : Addr} {m ms : List (Str × PyData)} {n : Str} {d : PyData} (h : nU C H v d1 d2 m ms) (hl : m.length <= 100) (Ej : o3 n) (hn : dq m n = none) (ha : ux m x d) (q : ∀ H', Mv [d1] H H' -> nU C H' v d1 d2 (m ++ [(n, d)]) ms -> Q .aY H') : kP (o1 C C1 C2 C3) [v, .str n, x] H Q E := by
 refine ⟨v, d1, d2, m, ms, n, x, none, rfl, h, hl, Ej, uY.ok hn ha, ?_, ?_⟩
 . intro c y e; cases e
 . intro _ d' Ka H' mv hg
   have : d' = d := by
    rcases ha with ⟨rfl, rfl⟩ | ⟨b, c, rfl, rfl, _⟩ <;> rcases Ka with ⟨e1, e2⟩ | ⟨b', c', e1, e2, _⟩
    . exact e2
    . cases e1
    . cases e1
    . cases e1; exact e2
   subst this
   exact q H' mv hg
def r9 (C : Addr) : Sp := fun vs H Q _ => ∃ v d1 d2 m ms n, vs = [v, .str n] /\ p6 C H v d1 d2 m ms /\ Q (.bl (dq m n).isSome) H
theorem Gk {C : Addr} {H : Hp} {Q : VK} {E : XK} {v : V} {d1 d2 : Addr} {m ms : List (Str × PyData)} {n : Str} (h : p6 C H v d1 d2 m ms) (q : Q (.bl (dq m n).isSome) H) : r9 C [v, .str n] H Q E := ⟨v, d1, d2, m, ms, n, rfl, h, q⟩
theorem DC (T : Txt K mg a) : bw P w K mg base ng 1 a.cm a.ji ["self", "name"] (r9 a.ah) := by
 have n1 := T.ay; have n2 := T.aD; have cl := T.au
 refine T.gO.ok nM (fun vs H Q E h => ?_) (fun eh A outer s H vs Q E hr h => ?_)
 . obtain ⟨_, _, _, _, _, _, rfl, _⟩ := h; rfl
 . obtain ⟨v, d1, d2, m, ms, n, rfl, hg, q⟩ := h
   have hi := hg.ins; have ha := hg.ab
   refine ⟨_, (aw (aL (wI (sh (oi hr) (pv 1) (jD (pv 0) rfl)) rfl))), ?_⟩
   repeat' (walk_at "rd1")
   rename_i o e
   rw [e]
   exact q
theorem zM (T : Txt K mg a) : nQ P w K mg base 1 a.cm ["self", "name"] [] (r9 a.ah) :=
 ⟨⟨_, _, DC T, T.gO.binds fun _ _ _ _ _ _ => .all fun us hl => match us, hl with | [_, _], _ => rfl, .nil⟩⟩
def wC (m : List (Str × PyData)) (k : Str) : Int := ((DW 60 m k).length : Nat)
def EI (m : List (Str × PyData)) (ss : List Str) : Prop := ss.Perm (m.map (·.1)) /\ ss.Pairwise fun c d => dJ (wC m d, d) (wC m c, c) = false
theorem lV {f : Str -> Int} : ∀ {xs ys : List Str}, xs.Perm ys -> xs.Pairwise (fun c d => dJ (f d, d) (f c, c) = false) -> ys.Pairwise (fun c d => dJ (f d, d) (f c, c) = false) -> xs = ys
 | [], _, hp, _, _ => List.Perm.nil_eq hp
 | x :: xs, [], hp, _, _ => by have := hp.length_eq; simp at this
 | x :: xs, y :: ys, hp, h1, h2 => by
   have hx := List.pairwise_cons.mp h1
   have hy := List.pairwise_cons.mp h2
   have Gy : x = y := by
    have m1 : y ∈ x :: xs := hp.mem_iff.mpr List.mem_cons_self
    have m2 : x ∈ y :: ys := hp.mem_iff.mp List.mem_cons_self
    rcases List.mem_cons.mp m1 with e | LC
    . exact e.symm
    rcases List.mem_cons.mp m2 with e | Mi
    . exact e
    exact (Prod.mk.inj (xJ (hy.1 x Mi) (hx.1 y LC))).2
   subst Gy
   rw [lV (List.Perm.cons_inv hp) hx.2 hy.2]
abbrev r6 (H : Hp) (P : Addr) : Prop := TabAt H P kl kG
theorem nU.Gq {C P : Addr} {H H' : Hp} {v : V} {d1 d2 : Addr} {m ms : List (Str × PyData)} {pos : Pos} {q : Str} (h : nU C H v d1 d2 m ms) (t : TabAt H P pos q) (mv : Mv [P] H H') : nU C H' v d1 d2 m ms := ⟨t.FK h.ins mv, t.Kc h.ab mv, t.Kc h.A4 mv, h.ne⟩
def tf (C P : Addr) : Sp := fun vs H Q _ => ∃ v d1 d2 m ms, vs = [v] /\ nU C H v d1 d2 m ms /\ zy m /\ r6 H P /\ ∀ q H' ss, Mv [P] H H' -> r6 H' P -> H q = none -> EI m ss -> eI H' q (ss.map PyData.str) -> Q (.ref q) H'
theorem AB {C P : Addr} {H : Hp} {Q : VK} {E : XK} {v : V} {d1 d2 : Addr} {m ms : List (Str × PyData)} (h : nU C H v d1 d2 m ms) (hm : zy m) (ht : r6 H P) (q : ∀ q H' ss, Mv [P] H H' -> r6 H' P -> H q = none -> EI m ss -> eI H' q (ss.map PyData.str) -> Q (.ref q) H') : tf C P [v] H Q E := ⟨v, d1, d2, m, ms, rfl, h, hm, ht, q⟩
theorem CO (T : Txt K mg a) (hB : Bs K mg base) : bw P w K mg base ng 11 a.aT a.eu ["self"] (tf a.ah a.aC) := by
 have n1 := T.ay; have n2 := T.aD; have cl := T.au
 have jI := T.d8
 have jx := oQ (P := P) (w := w) (base := base) T
 refine T.eJ.MJ kA (fun vs H Q E h => ?_) (fun A outer s H vs Q E hr h => ?_)
 . obtain ⟨_, _, _, _, _, rfl, _⟩ := h; rfl
 . obtain ⟨v, d1, d2, m, ms, rfl, hg, hm, ht, q⟩ := h
   have hi := hg.ins
   have Kj := hm.len
   refine ⟨_, (aw (aL (vr (k := 7) rfl (BD (j := 0) ⟨rfl, rfl, rfl, by decide +kernel, rfl, rfl, by decide +kernel⟩ ⟨a.bV, T.bp.e, PySem.W.codeHd_of_K hB.k T.bp.cd⟩ hB.b rfl (fun _ _ _ _ _ _ _ _ => rfl) rfl rfl rfl rfl) (hr.mono (by decide)) rfl T.iT (af (jD (pv 0) rfl) aj) (fun _ _ _ _ _ _ hr => (dr (af (dj (pv 1) cl jI jx (hr.mono (by decide)) (af (pv 0) aj)) (af (pv 0) aj))))))), ?_⟩
   repeat' (walk_at "rd1")
   refine vb ?_
   repeat' (walk_at "rd1")
   refine ⟨ht, fun H2 sF K8 => ?_⟩
   have Dx := hg.Gq ht sF
   refine vJ (fun x => (wC m x, x)) Dx.ab (by omega) (fun x hx H' sm => ?_) (fun q5 H5 ss Js J0 MV MH IG => ?_)
   . obtain ⟨c, hc, gW⟩ := hm.ch x (mP hx)
     have LX := (Dx.keeps sm).rd
     have GW := LX.ins
     have e : wC m x = (c.length : Nat) := by unfold wC; rw [hc.fn gW]
     refine Ac ?_
     repeat' (walk_at "rd1")
     exact ⟨by walk_at "same", by rw [e]; assumption⟩
   . exact q _ _ ss (sF.oH Js) (K8.keeps Js) (sF.none J0) ⟨MV, MH⟩ IG
theorem y3 (T : Txt K mg a) (hB : Bs K mg base) : nQ P w K mg base 11 a.aT ["self"] [] (tf a.ah a.aC) :=
 ⟨⟨_, _, CO T hB, T.eJ.binds fun _ _ _ _ _ _ => .all fun us hl => match us, hl with | [_], _ => rfl, .nil⟩⟩
theorem vH {X : Cx} {k : Nat} {f C : Addr} {ps : List Str} {sp : Sp} {bH : List V} {x : Str} {p pos : Pos} (M : Mk X.K C f) (F : nQ X.prog X.w X.K X.mg X.base k f ps bH sp) (hr : a8 (k + 1) X.A) (hg : Gl X x) (hm : X.mg x = some (.ref C))
 (nX : (x == ("__debug__" : Str)) = false := by decide) : PE X (.Call (.Name x p) [] [] pos) (o5 C sp bH E0 sM) := by
 rw [vh]
 obtain ⟨fd, ds, F, hb, hd⟩ := F.ex
 exact xT M F hr hg hm hb hd tX nX
def j2 (C : Addr) : Sp := fun vs H Q _ => ∃ p dx, vs = [.ref p] /\ H p = some (.ins C dx []) /\ ∀ H' d1 d2, Mv [p] H H' -> H d1 = none -> H d2 = none -> nU C H' (.ref p) d1 d2 [] [] -> Q .aY H'
theorem wH (T : Txt K mg a) : bw P w K mg base ng 1 a.aS a.fg ["self"] (j2 a.ah) := by
 have n1 := T.ay; have n2 := T.aD; have cl := T.au
 refine T.ef.ok jG (fun vs H Q E h => ?_) (fun eh A outer s H vs Q E hr h => ?_)
 . obtain ⟨_, _, rfl, _⟩ := h; rfl
 . obtain ⟨p, dx, rfl, hp, q⟩ := h
   refine ⟨_, (ao (xM (pv 0) qk rfl)
    (aw (xM (pv 0) qk rfl))), ?_⟩
   repeat' (walk_at "rd1")
   rename_i d1 H1 o9 vq Ek d2 H2 lP CW hd2
   have e1 := o9 _ _ hp
   have D1 : Mv [p] H1 (upd H1 p (.ins a.ah dx [("above_of", .ref d1)])) := .pF e1 (by intro _ z; cases z)
   have e2 := lP p _ av
   have sF : Mv [p] H2 (upd H2 p (.ins a.ah dx [("above_of", .ref d1), ("marks", .ref d2)])) := .pF e2 (by intro _ z; cases z)
   have Bc := ((o9.mv (S := [p])).trans D1).trans ((lP.mv (S := [p])).trans sF)
   have By : d1 ≠ p := Ne.symm (aE hp vq)
   have Iy : ku H2 d1 [] := (Ek.mv D1 (by simpa using By)).keeps lP
   have FY : H d2 = none := ((o9.mv (S := [p])).trans D1).none CW
   have Jw : d2 ≠ p := Ne.symm (aE hp FY)
   exact q _ d1 d2 Bc vq FY ⟨⟨p, dx, rfl, av⟩, Iy.mv sF (by simpa using By), hd2.mv sF (by simpa using Jw), (Ek.mv D1 (by simpa using By)).ne CW⟩
theorem uP (T : Txt K mg a) : nQ P w K mg base 1 a.aS ["self"] [] (j2 a.ah) :=
 ⟨⟨_, _, wH T, T.ef.binds fun _ _ _ _ _ _ => .all fun us hl => match us, hl with | [_], _ => rfl, .nil⟩⟩
theorem zt {C : Addr} {H : Hp} {Q : VK} {E : XK} (k : ∀ v H2 d1 d2, aB H H2 -> H d1 = none -> H d2 = none -> nU C H2 v d1 d2 [] [] -> Q v H2) : rk C (j2 C) [] H Q E := by
 refine ⟨[], rfl, fun x dx hx hd ne => ⟨x, dx, rfl, av, fun H' d1 d2 mv h1 h2 hg => ⟨rfl, ?_⟩⟩⟩
 have z : ∀ {d : Addr}, upd (upd H dx (.own x)) x (.ins C dx []) d = none -> H d = none := by
  intro d h
  unfold upd at h
  split at h
  . cases h
  . split at h
    . cases h
    . exact h
 refine k _ _ d1 d2 (fun b u e => ?_) (z h1) (z h2) hg
 have hb : b ≠ x := aE e hx
 refine mv.kp b u (by simpa using hb) ?_
 rw [ak hb, ak (aE e hd)]
 exact e
def pY (s : Str) : Prop := s.length <= 100 /\ ∀ c ∈ s.cps.toList, c < 0x110000
theorem t9 {s : Str} (h : pY s) : PyData.canLay0 (.str s) = true := by
 show s.cps.all (· < 0x110000) = true
 rw [Array.all_eq_true']
 intro c hc
 exact decide_eq_true (h.2 c (by simpa using hc))
theorem qW : ∀ {ss : List Str}, (∀ x ∈ ss, pY x) -> PyData.canLayAll0 (ss.map PyData.str) = true
 | [], _ => rfl
 | x :: r, h => by
   simp only [List.map_cons, PyData.canLayAll0, t9 (h x List.mem_cons_self), Bool.true_and]
   exact qW fun y hy => h y (List.mem_cons_of_mem _ hy)
theorem oA : ∀ ws : List Str, PyData.depthAll (ws.map PyData.str) <= 1
 | [] => by simp [PyData.depthAll]
 | _ :: r => by have := oA r; simp only [List.map_cons, PyData.depthAll, PyData.depth]; omega
theorem rK {K : PySem.W.Frag} {H : Hp} {Q : VK} {f : Bool -> Bool} {x y : V} {ss : List Str} (h1 : Dv H x (.list (ss.map PyData.str))) (h2 : Dv H y (.list (ss.map PyData.str))) (hs : ∀ x ∈ ss, pY x) (h : Q (.bl (f true)) H) : vj K f x y H Q := by
 have hl : PyData.canLay0 (.list (ss.map PyData.str)) = true := by rw [PyData.canLay0]; exact qW hs
 refine AO h1 h2 hl hl ?_ (by rw [PySem.SeqAt.eqv_refl _ hl]; exact h)
 have := oA ss
 rw [PyData.depth]; omega
theorem tR {x y : Str} (h : x.cps = y.cps) : x = y := by cases x; cases y; simp at h; rw [h]
theorem gB (x y : Str) : (x ++ y).cps = x.cps ++ y.cps := rfl
theorem DR {K : PySem.W.Frag} {H : Hp} {Q : VK} {i : Int} (h0 : 0 <= i) (h1 : i < 26) (h : Q (.str ⟨#[97 + i.toNat]⟩) H) : qh K (.str "abcdefghijklmnopqrstuvwxyz") (.int i) H Q := by
 obtain ⟨m, rfl⟩ := Int.eq_ofNat_of_zero_le h0
 have hm : m < 26 := by omega
 have e : (Str.cps "abcdefghijklmnopqrstuvwxyz").toList[m]? = some (97 + m) := by
  have z : ∀ m < 26, (Str.cps "abcdefghijklmnopqrstuvwxyz").toList[m]? = some (97 + m) := by decide
  exact z m hm
 exact BF (by decide) (pP e) h
theorem qI {z : Str} (hz : z.cps.size = 1) {n : Int} (h0 : 0 <= n) (h1 : n <= 6) : (jW z n).length = n.toNat /\ ∀ c ∈ (jW z n).cps.toList, c ∈ z.cps.toList := by
 obtain ⟨⟨l⟩⟩ := z
 match l, hz with
 | [c], _ =>
   have : n = 0 \/ n = 1 \/ n = 2 \/ n = 3 \/ n = 4 \/ n = 5 \/ n = 6 := by omega
   rcases this with rfl | rfl | rfl | rfl | rfl | rfl | rfl <;> exact ⟨rfl, by simp [jW, Str.empty, Str.length]⟩
theorem BU {z : Str} {H : Hp} {Q : VK} {n : Int} (hz : z.cps.size = 1) (h0 : 0 <= n) (h1 : n <= 6) (h : (jW z n).length <= 20 -> Q (.str (jW z n)) H) : xW (.str z) (.int n) H Q :=
 have e := (qI hz h0 h1).1
 Bm h0 (by omega) (by show z.cps.size <= 10; omega) (by omega) (h (by omega))
theorem CZ {i j : Str} {H : Hp} {Q : VK} (h1 : i.length <= 100) (h2 : j.length <= 100) (h : Q (.str (i ++ j)) H) : wz (.str i) (.str j) H Q := wa (by omega) h
theorem len_one {c : Nat} : (⟨#[c]⟩ : Str).length <= 20 := by show 1 <= 20; omega
theorem len_app {i j : Str} {n m : Nat} (h1 : i.length <= n) (h2 : j.length <= m) : (i ++ j).length <= n + m := by
 have : (i ++ j).length = i.length + j.length := by show (i ++ j).cps.size = _; rw [gB, Array.size_append]; rfl
 omega
theorem Bu {i : Str} (h : i.length <= 20) : i.length <= 100 := by omega
set_option hygiene false in
local macro_rules | `(tactic| walk_at "sl1") => `(tactic| first
 | exact len_one
 | assumption
 | fail)
set_option hygiene false in
local macro_rules | `(tactic| walk_at "sl") => `(tactic| first
 | (refine Bu ?_; walk_at "sl1")
 | (refine Nat.le_trans (len_app (n := 20) (m := 20) ?_ ?_) (by decide) <;> walk_at "sl1")
 | fail)
local macro_rules | `(tactic| walk_at "rd1") => `(tactic| first
 | ((with_reducible refine' DR ?e1 ?e2 ?_); (case e1 => omega); (case e2 => omega))
 | ((with_reducible refine' BU ?e1 ?e2 ?e3 (fun _ => ?_)); (case e1 => exact rfl); (case e2 => omega); (case e3 => omega))
 | ((with_reducible refine' CZ ?e1 ?e2 ?_); (case e1 => walk_at "sl"); (case e2 => walk_at "sl"))
 | fail)
def sQ (ts : List Addr) (K : PySem.W.Frag) : Sp := fun vs H Q _ => ∃ (l : Addr) (ns : List Int), vs = [.ref l] /\ fL K H l (ns.map V.int) /\ ns.length <= 63 /\ (∀ b ∈ ts, H b = some (.iX #[])) /\ ∀ H', Q (.bl true) H'
theorem vv (T : Txt K mg a) (s : Shared) (u : Value) : BindsTo s a.pd ⟨[u], []⟩ [("_law_script", u)] := by
 obtain ⟨oc, od, kV, doc, pm, an, eh, ct, sV, e, lk, mq⟩ := T.wt.ex
 rw [e]
 exact .of_eq rfl
theorem mO (T : Txt K mg a) : bw P w K mg base ng 1 a.a0 a.hG ["_law_script", "_law_k"] (rN K) := by
 refine T.fJ.ok lH (fun vs H Q E h => ?_) (fun eh A outer s H vs Q E hr h => ?_)
 . obtain ⟨_, _, _, rfl, _⟩ := h; rfl
 . obtain ⟨l, ns, i, rfl, hl, h0, k⟩ := h
   refine ⟨_, (ao (cK (aN FQ (pv 1) (bx iV rfl T.jA PySem.boot_len (af (pv 0) aj)) (bf _))
    (aw (aL (cM gv (pv 0) (pv 1) (fun _ _ => rfl))))
    aQ)
    (aw (aL aA))), ?_⟩
   repeat' (walk_at "rd1")
   . exact Fv hl (yR h0 (by assumption)) k
   . rw [yS h0 (by assumption)] at k; exact k
theorem g8 (T : Txt K mg a) : nQ P w K mg base 1 a.a0 ["_law_script", "_law_k"] [] (rN K) :=
 ⟨⟨_, _, mO T, T.fJ.binds fun _ _ _ _ _ _ => .all fun us hl => match us, hl with | [_, _], _ => rfl, .nil⟩⟩
local macro_rules | `(tactic| walk_at "use") => `(tactic| first
 | ((with_reducible refine' Cr ?e1 ?e2 ?_); (case e1 => walk_at "sql"); (case e2 => omega))
 | fail)
theorem zb {K : PySem.W.Frag} {H : Hp} {Q : VK} {v : V} {ss : List Str} {i : Int} (hp : Dv H v (.list (ss.map PyData.str))) (h0 : i = -1 /\ ss ≠ [] \/ 0 <= i /\ i < ss.length) (h : ∀ n ∈ ss, Q (.str n) H) : qh K v (.int i) H Q := by
 rcases h0 with ⟨rfl, h0⟩ | ⟨h0, h1⟩
 . rw [<- List.dropLast_concat_getLast h0] at hp
   refine qQ (.inr hp) (d := .str (ss.getLast h0)) (by rw [List.map_append]; exact qm _ _) (lS (h _ (List.getLast_mem h0)))
 . obtain ⟨m, rfl⟩ := Int.eq_ofNat_of_zero_le h0
   have hi : m < ss.length := by omega
   have e : pE (ss.map PyData.str) (m : Int) = some (.str ss[m]) := pP (by rw [List.getElem?_map, List.getElem?_eq_getElem hi]; rfl)
   exact qQ (.inr hp) e (lS (h _ (List.getElem_mem hi)))
theorem getD_mem {ss : List Str} {i : Nat} (h : i < ss.length) : ss.getD i default ∈ ss := by
 rw [List.getD_eq_getElem?_getD, List.getElem?_eq_getElem h]
 exact List.getElem_mem h
theorem ti {m : List (Str × PyData)} {n k : Str} {d e : PyData} (h : dq m n = some e) : dq (m ++ [(k, d)]) n = some e := by
 unfold dq at h ⊢
 rw [List.find?_append]
 cases hf : m.find? (fun kv => decide (kv.1 = n)) with
 | none => rw [hf] at h; cases h
 | some x => rw [hf] at h; exact h
theorem fS {m : List (Str × PyData)} {k : Str} {d : PyData} (h : dq m k = none) : dq (m ++ [(k, d)]) k = some d := by
 unfold dq at h ⊢
 rw [List.find?_append]
 rw [Option.map_eq_none_iff] at h
 rw [h]
 simp
theorem Chain.app {m : List (Str × PyData)} {n k : Str} {d : PyData} {c : List Str} (h : Chain m n c) : Chain (m ++ [(k, d)]) n c := by
 induction h with
 | top e => exact .top (ti e)
 | up e _ ih => exact .up (ti e) ih
theorem cY {m : List (Str × PyData)} {n : Str} (h : n ∉ m.map (·.1)) : dq m n = none := by
 unfold dq
 rw [Option.map_eq_none_iff, List.find?_eq_none]
 intro x hx
 have : x.1 ≠ n := fun e => h (List.mem_map.mpr ⟨x, hx, e⟩)
 simpa using this
structure uJ (nm : Int -> Str) (m : List (Str × PyData)) : Prop where
 nm : ∀ (i : Nat) x, m[i]? = some x -> x.1 = nm i
 ch : ∀ n ∈ m.map (·.1), ∃ c, Chain m n c /\ c.length <= 8
 top : ∀ x, m[0]? = some x -> x.2 = .none
 len : m.length <= 40
structure zg (nm : Int -> Str) : Prop where
 inj : ∀ {k j : Int}, 0 <= k -> k < 41 -> 0 <= j -> j < 41 -> nm k = nm j -> k = j
 ok : ∀ {k : Int}, 0 <= k -> k < 41 -> pY (nm k)
theorem uJ.nil {nm : Int -> Str} : uJ nm [] := ⟨fun i x h => by simp at h, fun n h => by simp at h, fun x h => by simp at h, Nat.zero_le _⟩
theorem uJ.nd {nm : Int -> Str} {m : List (Str × PyData)} (h : uJ nm m) (hn : zg nm) : (m.map (·.1)).Nodup := by
 rw [List.nodup_iff_pairwise_ne, List.pairwise_iff_getElem]
 intro i j hi hj pS e
 rw [List.length_map] at hi hj
 rw [List.getElem_map, List.getElem_map, h.nm i _ (List.getElem?_eq_getElem hi), h.nm j _ (List.getElem?_eq_getElem hj)] at e
 have := h.len
 have := hn.inj (by omega) (by omega) (by omega) (by omega) e
 omega
theorem uJ.Hm {nm : Int -> Str} {m : List (Str × PyData)} (h : uJ nm m) (hn : zg nm) : zy m := by
 refine ⟨fun n hs => ?_, h.nd hn, by have := h.len; omega⟩
 have : n ∈ m.map (·.1) := by
  rcases Classical.em (n ∈ m.map (·.1)) with z | z
  . exact z
  . rw [cY z] at hs; cases hs
 obtain ⟨c, hc, hl⟩ := h.ch n this
 exact ⟨c, hc, by omega⟩
theorem uJ.fresh {nm : Int -> Str} {m : List (Str × PyData)} (h : uJ nm m) (hn : zg nm) : dq m (nm m.length) = none := by
 refine cY fun hx => ?_
 obtain ⟨y, hy, e⟩ := List.mem_map.mp hx
 obtain ⟨i, hi, e2⟩ := List.getElem_of_mem hy
 have := h.nm i y (by rw [List.getElem?_eq_getElem hi, e2])
 rw [this] at e
 have hl := h.len
 have := hn.inj (by omega) (by omega) (by omega) (by omega) e
 omega
theorem uJ.snoc {nm : Int -> Str} {m : List (Str × PyData)} {x : V} {d : PyData} (h : uJ nm m) (hn : zg nm) (hl : m.length < 40) (ha : ux m x d) : uJ nm (m ++ [(nm m.length, d)]) := by
 have hf := h.fresh hn
 refine ⟨fun i y hy => ?_, fun n hn => ?_, fun y hy => ?_, by rw [List.length_append]; simp; omega⟩
 . by_cases hi : i < m.length
   . rw [List.getElem?_append_left hi] at hy
     exact h.nm i y hy
   . rw [List.getElem?_append_right (by omega)] at hy
     have GY : i - m.length = 0 := by
      have := (List.getElem?_eq_some_iff.mp hy).1
      simp at this
      omega
     rw [GY] at hy
     simp at hy
     subst hy
     show nm m.length = nm i
     congr 1
     omega
 . rw [List.map_append, List.mem_append] at hn
   rcases hn with hn | hn
   . obtain ⟨c, hc, hl⟩ := h.ch n hn
     exact ⟨c, hc.app, hl⟩
   . have : n = nm m.length := by simpa using hn
     subst this
     rcases ha with ⟨_, rfl⟩ | ⟨b, c, _, rfl, hc, gW⟩
     . exact ⟨_, .top (fS hf), by simp⟩
     . exact ⟨_, .up (fS hf) hc.app, by simp; omega⟩
 . cases m with
   | nil =>
     rcases ha with ⟨_, rfl⟩ | ⟨b, c, _, rfl, hc, gW⟩
     . simp at hy; rw [<- hy]
     . have := hc.has
       simp [dq] at this
   | cons z r => exact h.top y (by simpa using hy)
theorem uJ.first {nm : Int -> Str} {z : Str × PyData} {r : List (Str × PyData)} (h : uJ nm (z :: r)) : Chain (z :: r) z.1 [z.1] := by
 refine .top ?_
 have := h.top z (by simp)
 unfold dq
 simp [this]
theorem xQ {C : Addr} {H : Hp} {Q : VK} {E : XK} {us : List V} (e : us = []) (k : ∀ v H2 d1 d2, aB H H2 -> H d1 = none -> H d2 = none -> nU C H2 v d1 d2 [] [] -> Q v H2) : rk C (j2 C) us H Q E := by subst e; exact zt k
set_option hygiene false in
local macro_rules | `(tactic| walk_at "rd1") => `(tactic| first
 | with_reducible refine xQ rfl (fun _ _ _ _ _ _ _ _ => ?_)
 | fail)
local macro_rules | `(tactic| walk_at "mvS") => `(tactic| first
 | assumption
 | (refine' Mv.oH ?m ?s; (case s => assumption); (case m => walk_at "mvS"))
 | (refine' Mv.step ?m ?s ?k; (case s => assumption); (case m => walk_at "mvS"); (case k => (intro b hb; rw [List.mem_singleton.mp hb]; exact Or.inl (by simp))))
 | fail)
theorem wm {K : PySem.W.Frag} {H : Hp} {Q : VK} {p : Addr} {ds : List PyData} {x : Str} (hp : eI H p (ds ++ [.str x])) (h : Q (.str x) H) : qh K (.ref p) (.int (-1)) H Q := qQ (.inr hp.dv) (qm _ _) (lS h)
set_option hygiene false in
local macro_rules | `(tactic| walk_at "gat") => `(tactic| first
 | fail)
local macro_rules | `(tactic| walk_at "ins") => `(tactic| first
 | (refine' nU.ins (d1 := _) (d2 := _) (m := _) (ms := _) ?m; (case m => walk_at "gat"))
 | fail)
set_option hygiene false in
local macro_rules | `(tactic| walk_at "abok") => `(tactic| first
 | exact Or.inl ⟨rfl, rfl⟩
 | exact Or.inr ⟨_, _, rfl, rfl, by assumption, by first | omega | simp⟩
 | fail)
local macro_rules | `(tactic| walk_at "rd1") => `(tactic| first
 | ((with_reducible refine' wm ?e1 ?_); (case e1 => walk_at "lat"))
 | fail)
def dM (k s : Int) : Str := if s % 2 = 0 then (⟨#[97 + (k * 3 % 26).toNat]⟩ ++ jW "t" (s / 2 % 7)) ++ ⟨#[97 + (s / 14 % 26).toNat]⟩ else (jW "t" (s / 2 % 7) ++ ⟨#[97 + (s / 14 % 26).toNat]⟩) ++ ⟨#[97 + (25 - k).toNat]⟩
theorem t7 {k j s : Int} (k0 : 0 <= k) (k1 : k < 11) (j0 : 0 <= j) (j1 : j < 11) (h : dM k s = dM j s) : k = j := by
 unfold dM at h
 have h2 := congrArg (fun x : Str => x.cps.toList) h
 split at h2
 . simp only [gB, Array.toList_append, List.append_assoc, List.cons_append, List.nil_append, List.cons.injEq] at h2
   obtain ⟨h3, _⟩ := h2
   omega
 . simp only [gB, Array.toList_append, List.append_assoc] at h2
   have := List.append_cancel_left h2
   simp at this
   omega
theorem iz {k s : Int} (k0 : 0 <= k) (k1 : k < 11) : pY (dM k s) := by
 have h1 := Int.emod_nonneg (s / 2) (show (7 : Int) ≠ 0 by decide)
 have h2 := Int.emod_lt_of_pos (s / 2) (show (0 : Int) < 7 by decide)
 have h3 := Int.emod_nonneg (s / 14) (show (26 : Int) ≠ 0 by decide)
 have h4 := Int.emod_lt_of_pos (s / 14) (show (0 : Int) < 26 by decide)
 obtain ⟨hl, hm⟩ := qI (z := "t") rfl h1 (by omega)
 have G1 : (jW "t" (s / 2 % 7)).cps.size = (s / 2 % 7).toNat := hl
 have GV : ∀ c ∈ (jW "t" (s / 2 % 7)).cps.toList, c < 0x110000 := fun c hc => by
  have := hm c hc
  have e : (Str.cps "t").toList = [116] := rfl
  rw [e] at this
  simp at this
  omega
 unfold dM
 split
 . refine ⟨?_, fun c hc => ?_⟩
   . show (_ : Str).cps.size <= _
     simp only [gB, Array.size_append, G1]
     simp
     omega
   . simp only [gB, Array.toList_append, List.mem_append] at hc
     rcases hc with (hc | hc) | hc
     . simp at hc; omega
     . exact GV c hc
     . simp at hc; omega
 . refine ⟨?_, fun c hc => ?_⟩
   . show (_ : Str).cps.size <= _
     simp only [gB, Array.size_append, G1]
     simp
     omega
   . simp only [gB, Array.toList_append, List.mem_append] at hc
     rcases hc with (hc | hc) | hc
     . exact GV c hc
     . simp at hc; omega
     . simp at hc; omega
theorem pY.nm {x : Str} (h : pY x) : o3 x := ⟨by have := h.1; omega, h.2⟩
def mQ : Sp := fun vs H Q _ => ∃ k s, vs = [.int k, .int s] /\ 0 <= k /\ k < 11 /\ Q (.str (dM k s)) H
theorem zm {H : Hp} {Q : VK} {E : XK} {k s : Int} (h0 : 0 <= k) (h1 : k < 11) (q : Q (.str (dM k s)) H) : mQ [.int k, .int s] H Q E := ⟨k, s, rfl, h0, h1, q⟩
theorem w9 (T : Txt K mg a) : bw P w K mg base ng 1 a.cb a.j9 ["_law_k", "_law_style"] mQ := by
 refine T.ix.ok j8 (fun vs H Q E h => ?_) (fun eh A outer s H vs Q E hr h => ?_)
 . obtain ⟨_, _, rfl, _⟩ := h; rfl
 . obtain ⟨k, s, rfl, h0, h1, q⟩ := h
   refine ⟨_, (ao (bI (i := 2) j8.nd rfl (Or.inl rfl) cZ)
    (ao (cK (aN (dc hr.pZ) (b9 d9 (pv 1) aA) aA (bf _))
     (aw (aL (b9 lU (b9 lU (cM gv (pv 2) (b9 d9 (b9 zS (pv 0) aA) aA) (fun _ _ => rfl)) (b9 uj cZ (b9 d9 (b9 iO (pv 1) aA) aA))) (cM gv (pv 2) (b9 d9 (b9 iO (pv 1) aA) aA) (fun _ _ => rfl)))))
     aQ)
    (aw (aL (b9 lU (b9 lU (b9 uj cZ (b9 d9 (b9 iO (pv 1) aA) aA)) (cM gv (pv 2) (b9 d9 (b9 iO (pv 1) aA) aA) (fun _ _ => rfl))) (cM gv (pv 2) (b9 Cd aA (pv 0)) (fun _ _ => rfl))))))), ?_⟩
   repeat' (walk_at "rd1")
   . unfold dM at q
     rw [if_pos (by assumption)] at q
     exact q
   . unfold dM at q
     rw [if_neg (by assumption)] at q
     exact q
theorem uD (T : Txt K mg a) : nQ P w K mg base 1 a.cb ["_law_k", "_law_style"] [] mQ :=
 ⟨⟨_, _, w9 T, T.ix.binds fun _ _ _ _ _ _ => .all fun us hl => match us, hl with | [_, _], _ => rfl, .nil⟩⟩
def xt (C cN : Addr) : Sp := fun vs H _ E => ∃ v d1 d2 m ms n, ∃ w : Int, vs = [v, .int w, .str n] /\ p6 C H v d1 d2 m ms /\ dq m n = none /\ o3 n /\ ∀ d', H d' = none -> E (.ref cN) (some d') (Xn H d' n)
theorem Ck (T : Txt K mg a) : bw P w K mg base (nG P w) 12 a.cU a.lj ["_law_told", "_law_word_here", "_law_name_here"] (xt a.ah a.ag) := by
 have cl := T.au
 have md := vg (P := P) (w := w) (base := base) T
 have nN := wA (P := P) (w := w) (base := base) T
 have pO := za (P := P) (w := w) (base := base) T
 have fj := kN (P := P) (w := w) (base := base) T
 have lI := m5 (P := P) (w := w) (base := base) T
 have d7 := iQ (P := P) (w := w) (base := base) T
 have lG := jH (P := P) (w := w) (base := base) T
 refine T.jw.wD qu (fun vs H Q E h => ?_) (fun eh A outer s H vs Q E hr h => ?_)
 . obtain ⟨_, _, _, _, _, _, _, rfl, _⟩ := h; rfl
 . obtain ⟨v, d1, d2, m, ms, n, wd, rfl, hg, hk, hn, qN⟩ := h
   have hi := hg.ins
   have vB : ∀ {R : Prop}, (dq m n).isSome = true -> R := fun hs => by rw [hk] at hs; cases hs
   refine ⟨_, (ao (cK (aN (dc hr.pZ) (pv 1) aA (bf _))
    (aw (aL (bO (pv 0) T.au T.iJ md (hr.mono (by decide)) eU (af (pv 2) aj))))
    aQ)
    (ao (cK (aN (dc hr.pZ) (pv 1) aA (bf _))
     (aw (aL (bO (pv 0) T.au T.jc nN (hr.mono (by decide)) eU (af (pv 2) aj))))
     aQ)
    (ao (cK (aN (dc hr.pZ) (pv 1) aA (bf _))
     (aw (aL (bO (pv 0) T.au T.jR pO (hr.mono (by decide)) eU (af (pv 2) aj))))
     aQ)
    (ao (cK (aN (dc hr.pZ) (pv 1) aA (bf _))
     (aw (aL (bO (pv 0) T.au T.dY fj (hr.mono (by decide)) eU (af (pv 2) aj))))
     aQ)
    (ao (cK (aN (dc hr.pZ) (pv 1) aA (bf _))
     (aw (aL (bO (pv 0) T.au T.eN lI (hr.mono (by decide)) eU (af (pv 2) aj))))
     aQ)
    (ao (cK (aN (dc hr.pZ) (pv 1) aA (bf _))
     (aw (aL (bO (pv 0) T.au T.b7 d7 (hr.mono (by decide)) eU (af (pv 2) aj))))
     aQ)
    (aw (aL (bO (pv 0) T.au T.dn lG (hr.mono (by decide)) eU (af (pv 2) aj)))))))))), ?_⟩
   repeat' (walk_at "rd1")
   all_goals first
    | exact ⟨v, d1, d2, m, ms, n, rfl, hg, hk, hn, qN⟩
    | exact ⟨v, d1, d2, m, ms, n, rfl, hg, fun _ => ⟨hn, qN⟩, fun hs => vB hs⟩
theorem Aq (T : Txt K mg a) : iZ P w K mg base 12 a.cU ["_law_told", "_law_word_here", "_law_name_here"] [] (xt a.ah a.ag) :=
 ⟨⟨_, _, Ck T, T.jw.binds fun _ _ _ _ _ _ => .all fun us hl => match us, hl with | [_, _, _], _ => rfl, .nil⟩⟩
inductive qe (N : List Str) (m : List (Str × PyData)) : PyData -> Str × Str -> Prop
 | twice {n : Str} {x : PyData} : n ∈ N -> n ∈ m.map (·.1) -> (x = .none \/ ∃ y, x = .str y /\ pY y) -> pY n -> qe N m (.tuple [.str "add", .str n, x]) ("twice", n)
 | group {n b : Str} : n ∉ m.map (·.1) -> b ∉ m.map (·.1) -> pY n -> pY b -> qe N m (.tuple [.str "add", .str n, .str b]) ("group", b)
 | deep {n b : Str} {c : List Str} : n ∉ m.map (·.1) -> b ∈ N -> b ∈ m.map (·.1) -> Chain m b c -> c.length = 8 -> pY n -> pY b -> qe N m (.tuple [.str "add", .str n, .str b]) ("deep", n)
 | ask {w : Int} {n : Str} : 0 <= w -> w < 7 -> n ∉ m.map (·.1) -> pY n -> qe N m (.tuple [.str "ask", .int w, .str n]) ("group", n)
theorem lL {H : Hp} {d e : Addr} {x : Str} {o : HO} (hd : H d = none) (he : Xn H d x e = none) : aB H (upd (Xn H d x) e o) := fun b u hb => by
 have h1 : b ≠ d := aE hb hd
 have h2 : b ≠ e := fun z => by
  subst z
  unfold Xn at he
  rw [ak h1, hb] at he
  cases he
 rw [ak h2]
 unfold Xn
 rw [ak h1]
 exact hb
def B5 (j : Nat) : List Bool := (List.range 6).map fun i => decide (i = j)
theorem qX {H : Hp} : ∀ {xs : List V} {bs : List Bool}, cP H xs (bs.map PyData.bool) -> xs = bs.map V.bl
 | [], [], _ => rfl
 | [], _ :: _, h => nomatch h
 | _ :: _, [], h => nomatch h
 | x :: xs, b :: bs, h => by
   cases h with
   | cons h1 h2 =>
     cases h1
     rw [qX h2]; rfl
theorem lY {H : Hp} {Q : VK} {p : Addr} {bs : List Bool} {j : Nat} (hp : eI H p (bs.map PyData.bool)) (hj : bs[j]? = some true) (vB : ∀ m, m < j -> bs[m]? = some false) (hl : bs.length <= 4000) (h : Q (.int (j : Nat)) H) : ua (.ref p) [.bl true] H Q := by
 obtain ⟨xs, e, dv, _⟩ := hp
 rw [qX dv] at e
 exact ⟨p, bs, j, rfl, rfl, e, hj, vB, hl, h⟩
def ur (C : Addr) : Sp := fun vs H Q _ => ∃ v d1 d2 m ms y D r, ∃ N : List Str, vs = [v, y] /\ nU C H v d1 d2 m ms /\ m.length <= 100 /\ Dv H y D /\ qe N m D r /\ ∀ u H', aB H H' -> Dv H' u (.tuple [.str r.1, .str r.2]) -> Q u H'
theorem Ap (T : Txt K mg a) : bw P w K mg base ng 14 a.cf a.ke ["_law_told", "_law_deed_here"] (ur a.ah) := by
 have cl := T.au
 have eX := tu (P := P) (w := w) (base := base) T
 have rO := Aq (P := P) (w := w) (base := base) T
 refine T.il.ok cn (fun vs H Q E h => ?_) (fun eh A outer s H vs Q E hr h => ?_)
 . obtain ⟨_, _, _, _, _, _, _, _, _, rfl, _⟩ := h; rfl
 . obtain ⟨v, d1, d2, m, ms, y, D, r, N, rfl, hg, hl, hy, hD, q⟩ := h
   have Gz := T.ri; have G0 := T.qf; have c4 := T.c4; have bY := T.bY; have bX := T.bX; have cC := T.cC; have cV := T.cV
   have Ee := T.nc; have D9 := T.m6; have bW := T.bW; have bF := T.bF; have bu := T.bu; have bL := T.bL; have bU := T.bU
   have DV := T.mV; have D7 := T.mm; have bT := T.bT; have bE := T.bE; have bq := T.bq; have bP := T.bP; have bZ := T.bZ
   refine ⟨_, (ao (bI (i := 2) cn.nd rfl (Or.inl rfl) (gT aj))
    (ao (bI (i := 3) cn.nd rfl (Or.inl rfl) cZ)
    (xN (zH (fun _ _ _ hP => (aw (cK (aN (Dy (K := K) rfl hr.pZ) (cM (p7 (K := K) rfl) (pv 1) aA (fun _ _ => rfl)) cZ (bf _))
     (aw (c6 (bO (pv 0) T.au T.dF eX (hr.mono (by decide)) hP (af (cM (p7 (K := K) rfl) (pv 1) aA (fun _ _ => rfl)) (af (cM (p7 (K := K) rfl) (pv 1) aA (fun _ _ => rfl)) aj)))))
     (aw (c6 (yk rO (hr.mono (by decide)) rfl T.kZ T.lu hP (af (pv 0) (af (cM (p7 (K := K) rfl) (pv 1) aA (fun _ _ => rfl)) (af (cM (p7 (K := K) rfl) (pv 1) aA (fun _ _ => rfl)) aj)))))))))
     aQ
     (mW.cons (i := some 4) (yF rfl T.d6 T.qM) (fun ae => (ao (bI (i := 2) cn.nd rfl (Or.inl rfl) (gT (af (bx (ck (K := K) rfl) rfl T.aI PyProof.Rows.boot_isinstance (af (pv 4) (af (fb (v := .ref a.aq) rfl T.jL rfl) aj))) (af (bx (ck (K := K) rfl) rfl T.aI PyProof.Rows.boot_isinstance (af (pv 4) (af (fb (v := .ref a.ag) rfl T.gH rfl) aj))) (af (bx (ck (K := K) rfl) rfl T.aI PyProof.Rows.boot_isinstance (af (pv 4) (af (fb (v := .ref a.ai) rfl T.gY rfl) aj))) (af (bx (ck (K := K) rfl) rfl T.aI PyProof.Rows.boot_isinstance (af (pv 4) (af (fb (v := .ref a.bh) rfl T.n9 rfl) aj))) aj))))))
     (ao (bI (i := 2) cn.nd rfl (Or.inl rfl) (b9 Bo (pv 2) (gT (af (bx (ck (K := K) rfl) rfl T.aI PyProof.Rows.boot_isinstance (af (pv 4) (af (fb (v := .ref a.bS) rfl T.rg rfl) aj))) (af (vK (bx (ck (K := K) rfl) rfl T.aI PyProof.Rows.boot_isinstance (af (pv 4) (af (yP (v := .ty "ValueError") rfl T.ez lB rfl) aj)))) aj)))))
     (aw (cK (PW.pt (tq (iR (K := K) rfl (bx (ck (K := K) rfl) rfl T.aI PyProof.Rows.boot_isinstance (af (pv 4) (af (fb (v := .ref a.aq) rfl T.jL rfl) aj))) (fun _ => rfl)) (tq (iR (K := K) rfl (bx (ck (K := K) rfl) rfl T.aI PyProof.Rows.boot_isinstance (af (pv 4) (af (fb (v := .ref a.ag) rfl T.gH rfl) aj))) (fun _ => rfl)) (vL (iR (K := K) rfl (bx (ck (K := K) rfl) rfl T.aI PyProof.Rows.boot_isinstance (af (pv 4) (af (fb (v := .ref a.ai) rfl T.gY rfl) aj))) (fun _ => rfl))))))
      (aw (bI (i := 3) cn.nd rfl (Or.inl rfl) (wQ (K := K) rfl (pv 4) rfl)))
      aQ))))) ⟨rfl, rfl⟩
     mW.nil) cn.nd rfl rfl rfl)
    (ao (cK (aN (rJ hr.pZ) (bx (vp rfl) rfl T.pD PyProof.Rows.boot_sum (af (v7 (T := ["_law_kind"]) (M := ["_law_told", "_law_deed_here", "_law_kinds", "_law_name_here", "e"]) (GR (ax gb) ["_law_told", "_law_deed_here", "_law_kinds", "_law_name_here", "e"] rfl rfl (by decide +kernel)) rfl (lQ (pv 2)) (fun _ _ _ _ _ => (iW (i := 0) (show List.Nodup (["_law_kind", "_law_told", "_law_deed_here", "_law_kinds", "_law_name_here", "e"] : List Str) by decide +kernel) rfl (Or.inl rfl))) (iS (by decide)) (fun _ _ _ _ _ => pC) (fun _ _ _ _ _ => (vl uU rfl T.pX PyProof.Rows.boot_int (af (pv 0) aj)))) aj)) aA (bf _))
     (aw (aL (dr (af cZ (af (pv 3) aj)))))
     aQ)
    (aw (aL (dr (af (cM gv (gT (tM (vs := [.str "twice", .str "group", .str "deep", .str "bell", .str "row", .str "plain"]) rfl)) (Ax PySem.F.plainAttrs_list PySem.F.slot_list_index PySem.F.type_list_index wV (pv 2) (af oN aj)) (fun _ _ => rfl)) (af (pv 3) aj))))))))), ?_⟩
   repeat' (walk_at "rd1")
   rename_i pk H1 o9 vq NA
   have Ey := hg.keeps o9
   have Nv := hy.keeps o9
   have KY := Ey.ins
   refine Ds (fun σ' H' => ∃ (pk : Addr) (j : Nat) (z : Option V), aB H H' /\ σ' = [some v, some y, some (.ref pk), some (.str r.2), z] /\ eI H' pk ((B5 j).map PyData.bool) /\ ((j = 0 /\ r.1 = "twice") \/ (j = 1 /\ r.1 = "group") \/ (j = 2 /\ r.1 = "deep"))) ?_ ?_
   . cases hD with
     | @twice n x J1 hn hx aK =>
       repeat' (walk_at "rd1")
       refine ⟨v, d1, d2, m, ms, n, _, _, rfl, Ey, hl, aK.nm, .twice (mP hn), ?_, fun e => nomatch e⟩
       rintro c y' e H2 lP d' jt
       cases e
       refine ⟨_, rfl, .inl ⟨T.i6, fun ae nE => ?_⟩⟩
       have sm := lL (o := .ext (jK ae a.aq (some d'))) jt nE
       have p5 : d' ≠ ae := fun z => by subst z; unfold Xn at nE; rw [av] at nE; cases nE
       have ha : upd (Xn H2 d' n) ae (.ext (jK ae a.aq (some d'))) ae = some _ := av
       have Cw : upd (Xn H2 d' n) ae (.ext (jK ae a.aq (some d'))) d' = some (.xd [("name", .str n)]) := by rw [ak p5]; exact av
       generalize upd (Xn H2 d' n) ae (.ext (jK ae a.aq (some d'))) = HE at *
       repeat' (walk_at "rd1")
       rename_i p1 H3 s3 n3 l3 p2 H4 s4 n4 l4 p3 H5 s5 n5 l5
       refine lT (s5 _ _ (s4 _ _ (s3 _ _ ha))) T.jQ (s5 _ _ (s4 _ _ (s3 _ _ Cw))) rfl ?_
       repeat' (walk_at "rd1")
       exact ⟨p3, 0, _, ((((o9.trans lP).trans sm).trans s3).trans s4).trans s5, rfl, l5, .inl ⟨rfl, rfl⟩⟩
     | @group n b hn hb aK Ea =>
       repeat' (walk_at "rd1")
       refine ⟨v, d1, d2, m, ms, n, _, _, rfl, Ey, hl, aK.nm, .group (cY hn) (cY hb) Ea.nm, ?_, fun e => nomatch e⟩
       rintro c y' e H2 lP d' jt
       cases e
       refine ⟨_, rfl, .inl ⟨T.ek, fun ae nE => ?_⟩⟩
       have sm := lL (o := .ext (jK ae a.ag (some d'))) jt nE
       have p5 : d' ≠ ae := fun z => by subst z; unfold Xn at nE; rw [av] at nE; cases nE
       have ha : upd (Xn H2 d' b) ae (.ext (jK ae a.ag (some d'))) ae = some _ := av
       have Cw : upd (Xn H2 d' b) ae (.ext (jK ae a.ag (some d'))) d' = some (.xd [("name", .str b)]) := by rw [ak p5]; exact av
       generalize upd (Xn H2 d' b) ae (.ext (jK ae a.ag (some d'))) = HE at *
       repeat' (walk_at "rd1")
       rename_i p1 H3 s3 n3 l3 p2 H4 s4 n4 l4 p3 H5 s5 n5 l5
       refine lT (s5 _ _ (s4 _ _ (s3 _ _ ha))) T.fc (s5 _ _ (s4 _ _ (s3 _ _ Cw))) rfl ?_
       repeat' (walk_at "rd1")
       exact ⟨p3, 1, _, ((((o9.trans lP).trans sm).trans s3).trans s4).trans s5, rfl, l5, .inr (.inl ⟨rfl, rfl⟩)⟩
     | @deep n b c hn Kk hb hc gW aK Ea =>
       repeat' (walk_at "rd1")
       refine ⟨v, d1, d2, m, ms, n, _, _, rfl, Ey, hl, aK.nm, .deep (cY hn) hc gW, ?_, fun e => nomatch e⟩
       rintro c y' e H2 lP d' jt
       cases e
       refine ⟨_, rfl, .inl ⟨T.ig, fun ae nE => ?_⟩⟩
       have sm := lL (o := .ext (jK ae a.ai (some d'))) jt nE
       have p5 : d' ≠ ae := fun z => by subst z; unfold Xn at nE; rw [av] at nE; cases nE
       have ha : upd (Xn H2 d' n) ae (.ext (jK ae a.ai (some d'))) ae = some _ := av
       have Cw : upd (Xn H2 d' n) ae (.ext (jK ae a.ai (some d'))) d' = some (.xd [("name", .str n)]) := by rw [ak p5]; exact av
       generalize upd (Xn H2 d' n) ae (.ext (jK ae a.ai (some d'))) = HE at *
       repeat' (walk_at "rd1")
       rename_i p1 H3 s3 n3 l3 p2 H4 s4 n4 l4 p3 H5 s5 n5 l5
       refine lT (s5 _ _ (s4 _ _ (s3 _ _ ha))) T.gw (s5 _ _ (s4 _ _ (s3 _ _ Cw))) rfl ?_
       repeat' (walk_at "rd1")
       exact ⟨p3, 2, _, ((((o9.trans lP).trans sm).trans s3).trans s4).trans s5, rfl, l5, .inr (.inr ⟨rfl, rfl⟩)⟩
     | @ask wd n h0 h7 hn aK =>
       repeat' (walk_at "rd1")
       . rename_i h; exact absurd (V.str.inj h) (by decide +kernel)
       refine ⟨v, d1, d2, m, ms, n, wd, rfl, Ey.rd, cY hn, aK.nm, fun d' jt => ?_⟩
       refine ⟨_, rfl, .inl ⟨T.ek, fun ae nE => ?_⟩⟩
       have sm := lL (o := .ext (jK ae a.ag (some d'))) jt nE
       have p5 : d' ≠ ae := fun z => by subst z; unfold Xn at nE; rw [av] at nE; cases nE
       have ha : upd (Xn H1 d' n) ae (.ext (jK ae a.ag (some d'))) ae = some _ := av
       have Cw : upd (Xn H1 d' n) ae (.ext (jK ae a.ag (some d'))) d' = some (.xd [("name", .str n)]) := by rw [ak p5]; exact av
       generalize upd (Xn H1 d' n) ae (.ext (jK ae a.ag (some d'))) = HE at *
       repeat' (walk_at "rd1")
       rename_i p1 H3 s3 n3 l3 p2 H4 s4 n4 l4 p3 H5 s5 n5 l5
       refine lT (s5 _ _ (s4 _ _ (s3 _ _ ha))) T.fc (s5 _ _ (s4 _ _ (s3 _ _ Cw))) rfl ?_
       repeat' (walk_at "rd1")
       exact ⟨p3, 1, _, (((o9.trans sm).trans s3).trans s4).trans s5, rfl, l5, .inr (.inl ⟨rfl, rfl⟩)⟩
   . rintro σ' H2 ⟨Nt, j, z, lP, rfl, Ef, hj⟩
     rcases hj with ⟨rfl, hr⟩ | ⟨rfl, hr⟩ | ⟨rfl, hr⟩
     . rw [hr] at q
       repeat' (walk_at "rd1")
       refine z8 (cs := B5 0) (gd := PyData.bool) (fun _ => true) (fun b => .int (if b then 1 else 0)) Ef.dv (by decide) (fun _ => rfl) (fun y b H3 N hb sm3 hy yes no => ?_) (fun q1 H3 sm3 JF A8 => ?_)
       . obtain rfl : y = .bl b := by cases hy; rfl
         repeat' (walk_at "rd1")
         refine qS (fun hb => ?_) (fun hb => by cases hb)
         repeat' (walk_at "rd1")
         exact .inr ⟨b, rfl, yes rfl _ _ (aB.refl _) (.int _)⟩
       have Ku : eI H3 q1 (([1, 0, 0, 0, 0, 0] : List Int).map PyData.int) := A8
       have Ft := Ef.keeps sm3
       repeat' (walk_at "rd1")
       . rename_i h v1 H4 s4 d4
         exact absurd (by decide) h
       . rename_i h p4 H4 s4 n4 l4
         refine lY (Ft.keeps s4) (j := 0) rfl (by decide : ∀ m, m < 0 -> (B5 0)[m]? = some false) (by decide) ?_
         repeat' (walk_at "rd1")
         rename_i v5 H5 s5 d5
         exact q v5 H5 ((lP.trans sm3).trans (s4.trans s5)) d5
     . rw [hr] at q
       repeat' (walk_at "rd1")
       refine z8 (cs := B5 1) (gd := PyData.bool) (fun _ => true) (fun b => .int (if b then 1 else 0)) Ef.dv (by decide) (fun _ => rfl) (fun y b H3 N hb sm3 hy yes no => ?_) (fun q1 H3 sm3 JF A8 => ?_)
       . obtain rfl : y = .bl b := by cases hy; rfl
         repeat' (walk_at "rd1")
         refine qS (fun hb => ?_) (fun hb => by cases hb)
         repeat' (walk_at "rd1")
         exact .inr ⟨b, rfl, yes rfl _ _ (aB.refl _) (.int _)⟩
       have Ku : eI H3 q1 (([0, 1, 0, 0, 0, 0] : List Int).map PyData.int) := A8
       have Ft := Ef.keeps sm3
       repeat' (walk_at "rd1")
       . rename_i h v1 H4 s4 d4
         exact absurd (by decide) h
       . rename_i h p4 H4 s4 n4 l4
         refine lY (Ft.keeps s4) (j := 1) rfl (by decide : ∀ m, m < 1 -> (B5 1)[m]? = some false) (by decide) ?_
         repeat' (walk_at "rd1")
         rename_i v5 H5 s5 d5
         exact q v5 H5 ((lP.trans sm3).trans (s4.trans s5)) d5
     . rw [hr] at q
       repeat' (walk_at "rd1")
       refine z8 (cs := B5 2) (gd := PyData.bool) (fun _ => true) (fun b => .int (if b then 1 else 0)) Ef.dv (by decide) (fun _ => rfl) (fun y b H3 N hb sm3 hy yes no => ?_) (fun q1 H3 sm3 JF A8 => ?_)
       . obtain rfl : y = .bl b := by cases hy; rfl
         repeat' (walk_at "rd1")
         refine qS (fun hb => ?_) (fun hb => by cases hb)
         repeat' (walk_at "rd1")
         exact .inr ⟨b, rfl, yes rfl _ _ (aB.refl _) (.int _)⟩
       have Ku : eI H3 q1 (([0, 0, 1, 0, 0, 0] : List Int).map PyData.int) := A8
       have Ft := Ef.keeps sm3
       repeat' (walk_at "rd1")
       . rename_i h v1 H4 s4 d4
         exact absurd (by decide) h
       . rename_i h p4 H4 s4 n4 l4
         refine lY (Ft.keeps s4) (j := 2) rfl (by decide : ∀ m, m < 2 -> (B5 2)[m]? = some false) (by decide) ?_
         repeat' (walk_at "rd1")
         rename_i v5 H5 s5 d5
         exact q v5 H5 ((lP.trans sm3).trans (s4.trans s5)) d5
theorem xx (T : Txt K mg a) : nQ P w K mg base 14 a.cf ["_law_told", "_law_deed_here"] [] (ur a.ah) :=
 ⟨⟨_, _, Ap T, T.il.binds fun _ _ _ _ _ _ => .all fun us hl => match us, hl with | [_, _], _ => rfl, .nil⟩⟩
theorem xq {N : List Str} {m : List (Str × PyData)} {D : PyData} {r : Str × Str} (h : qe N m D r) : pY r.2 /\ (r.1 = "twice" \/ r.1 = "group" \/ r.1 = "deep") := by
 cases h with
 | twice _ _ _ h => exact ⟨h, .inl rfl⟩
 | group _ _ _ h => exact ⟨h, .inr (.inl rfl)⟩
 | deep _ _ _ _ _ h _ => exact ⟨h, .inr (.inr rfl)⟩
 | ask _ _ _ h => exact ⟨h, .inr (.inl rfl)⟩
def uq (K : PySem.W.Frag) : Sp := fun vs H Q _ => ∃ l p st ot, ∃ ns : List Int, ∃ N : List Str, ∃ m : List (Str × PyData), vs = [.ref l, .ref p, .str st, .str ot] /\ fL K H l (ns.map V.int) /\ eI H p (N.map PyData.str) /\ N ≠ [] /\ N.length <= 8 /\ (∀ x ∈ N, pY x /\ x ∈ m.map (·.1)) /\ st ∉ m.map (·.1) /\ ot ∉ m.map (·.1) /\ pY st /\ pY ot /\ (∀ x, N.getLast? = some x -> N.length = 8 -> ∃ c, Chain m x c /\ c.length = 8) /\ ∀ u H' D r, aB H H' -> qe N m D r -> Dv H' u D -> Q u H'
theorem zj (T : Txt K mg a) : bw P w K mg base ng 3 a.b8 a.ka ["_law_script", "_law_names", "_law_stranger", "_law_other"] (uq K) := by
 have cQ := g8 (P := P) (w := w) (base := base) T
 refine T.iI.ok gJ (fun vs H Q E h => ?_) (fun eh A outer s H vs Q E hr h => ?_)
 . obtain ⟨_, _, _, _, _, _, _, rfl, _⟩ := h; rfl
 . obtain ⟨l, p, st, ot, ns, N, m, rfl, hl, hp, p5, Oa, Eb, kW, Mu, D6, M5, Lz, q⟩ := h
   have Nc : 0 < N.length := List.length_pos_iff.mpr p5
   obtain ⟨r0, z0, hN⟩ : ∃ r0 z0, N = r0 ++ [z0] := ⟨_, _, (List.dropLast_concat_getLast p5).symm⟩
   have NP : eI H p (r0.map PyData.str ++ [.str z0]) := by rw [hN, List.map_append] at hp; exact hp
   have GX : z0 ∈ N := by rw [hN]; simp
   have NC : ∀ {i : Int}, 0 <= i -> i < (N.length : Nat) -> N.getD i.toNat default ∈ N := fun h0 h1 => getD_mem (by omega)
   refine ⟨_, (ao (bI (i := 4) gJ.nd rfl (Or.inl rfl) (dU cQ (hr.mono (by decide)) rfl T.cB T.cz (af (pv 0) (af aA aj))))
    (ao (bI (i := 5) gJ.nd rfl (Or.inl rfl) (b9 d9 (dU cQ (hr.mono (by decide)) rfl T.cB T.cz (af (pv 0) (af aA aj))) aA))
    (ao (cK (aN (dc hr.pZ) (pv 5) aA (bf _))
     (aw (aL (dr (af cZ (af (cM gv (pv 1) (b9 d9 (b9 iO (pv 4) aA) (bx iV rfl T.jA PySem.boot_len (af (pv 1) aj))) (fun _ _ => rfl)) (af (cM gv (gT (af mC (af (pv 2) (af (cM gv (pv 1) (tZ pQ aA) (fun _ _ => rfl)) aj)))) (b9 d9 (pv 4) aA) (fun _ _ => rfl)) aj))))))
     aQ)
    (ao (cK (aN (dc hr.pZ) (pv 5) aA (bf _))
     (aw (aL (dr (af cZ (af (pv 2) (af (pv 3) aj))))))
     aQ)
    (ao (cK (PW.pt (Dd (aN (dc hr.pZ) (pv 5) aA (bf _)) (z9 (aN (dc hr.pZ) (bx iV rfl T.jA PySem.boot_len (af (pv 1) aj)) aA (bf _)))))
     (aw (aL (dr (af cZ (af (pv 2) (af (cM gv (pv 1) (tZ pQ aA) (fun _ _ => rfl)) aj))))))
     aQ)
    (ao (cK (aN (dc hr.pZ) (pv 5) aA (bf _))
     (aw (aL (dr (af cZ (af (pv 2) (af (pv 2) aj))))))
     aQ)
    (aw (aL (dr (af cZ (af (b9 d9 (pv 4) aA) (af (pv 2) aj)))))))))))), ?_⟩
   repeat' (walk_at "rd1")
   all_goals first
    | exact q _ _ _ _ (by assumption) (.group kW Mu D6 M5) (by assumption)
    | exact q _ _ _ _ (by assumption) (.group kW kW D6 D6) (by assumption)
    | exact q _ _ _ _ (by assumption) (.ask (by assumption) (by assumption) kW D6) (by assumption)
    | skip
   . refine zb hp.dv (.inr ⟨by assumption, by assumption⟩) (fun n1 vq => ?_)
     obtain ⟨Jd, IX⟩ := Eb n1 vq
     repeat' (walk_at "rd1")
     rename_i q1 H1 o9 Nr JQ c0 c1
     have c3 : cell ns (Int.toNat 3) % 3 = 0 \/ cell ns (Int.toNat 3) % 3 = 1 \/ cell ns (Int.toNat 3) % 3 = 2 := by omega
     generalize cell ns (Int.toNat 3) % 3 = ii at *
     rcases c3 with rfl | rfl | rfl
     . repeat' (walk_at "rd1")
       exact q _ _ _ _ (by walk_at "same") (.twice vq IX (.inl rfl) Jd) (by assumption)
     . repeat' (walk_at "rd1")
       exact q _ _ _ _ (by walk_at "same") (.twice vq IX (.inr ⟨_, rfl, D6⟩) Jd) (by assumption)
     . repeat' (walk_at "rd1")
       exact q _ _ _ _ (by walk_at "same") (.twice vq IX (.inr ⟨_, rfl, (Eb z0 GX).1⟩) Jd) (by assumption)
   . have h8 : N.length = 8 := by omega
     obtain ⟨c, hc, gW⟩ := Lz z0 (by rw [hN]; simp) h8
     exact q _ _ _ _ (by assumption) (.deep kW GX (Eb z0 GX).2 hc gW D6 (Eb z0 GX).1) (by assumption)
theorem xk (T : Txt K mg a) : nQ P w K mg base 3 a.b8 ["_law_script", "_law_names", "_law_stranger", "_law_other"] [] (uq K) :=
 ⟨⟨_, _, zj T, T.iI.binds fun _ _ _ _ _ _ => .all fun us hl => match us, hl with | [_, _, _, _], _ => rfl, .nil⟩⟩
def vS : Sp := fun vs H Q _ => ∃ y p z D r, ∃ N : List Str, ∃ m : List (Str × PyData), vs = [y, .ref p, z] /\ Dv H y D /\ eI H p (N.map PyData.str) /\ N.length <= 8 /\ (∀ x ∈ N, x ∈ m.map (·.1)) /\ qe N m D r /\ ∀ u H', aB H H' -> Dv H' u (.tuple [.str r.1, .str r.2]) -> Q u H'
theorem B8 (T : Txt K mg a) : bw P w K mg base ng 1 a.cR a.k8 ["_law_deed_here", "_law_names", "_law_other"] vS := by
 refine T.jE.ok q4 (fun vs H Q E h => ?_) (fun eh A outer s H vs Q E hr h => ?_)
 . obtain ⟨_, _, _, _, _, _, _, rfl, _⟩ := h; rfl
 . obtain ⟨y, p, z, D, r, N, m, rfl, hy, hp, NM, Eb, hD, q⟩ := h
   have cN : ∀ {x : Str}, x ∉ m.map (·.1) -> ¬ N.contains x = true := fun hx hh => hx (Eb _ (List.contains_iff_mem.mp hh))
   refine ⟨_, (ao (cK (aN (dc hr.pZ) (cM gv (pv 0) aA (fun _ _ => rfl)) cZ (bf _))
    (aw (aL (dr (af cZ (af (cM gv (pv 0) aA (fun _ _ => rfl)) aj)))))
    aQ)
    (ao (cK (aN oh (cM gv (pv 0) aA (fun _ _ => rfl)) (pv 1) rfl)
     (aw (aL (dr (af cZ (af (cM gv (pv 0) aA (fun _ _ => rfl)) aj)))))
     aQ)
    (ao (cK (aN oh (cM gv (pv 0) aA (fun _ _ => rfl)) (pv 1) rfl)
     (aw (aL (dr (af cZ (af (cM gv (pv 0) aA (fun _ _ => rfl)) aj)))))
     aQ)
    (aw (aL (dr (af cZ (af (cM gv (pv 0) aA (fun _ _ => rfl)) aj)))))))), ?_⟩
   have ne1 : ¬ V.str (Str.ofString "add") = V.str (Str.ofString "ask") := fun h => absurd (V.str.inj h) (by decide +kernel)
   have cF : ∀ {x : Str}, x ∉ m.map (·.1) -> N.contains x = false := fun hx => by
    rw [<- Bool.not_eq_true]; exact cN hx
   have bb : ∀ {b : Bool} {R : Prop}, b = true -> b = false -> R := fun h1 h2 => by rw [h1] at h2; cases h2
   cases hD with
   | @twice n x J1 hn hx aK =>
     have h1 : N.contains n = true := List.contains_iff_mem.mpr J1
     repeat' (walk_at "rd1")
     . exact absurd (by assumption) ne1
     . exact q _ _ (by assumption) (by assumption)
     . exact bb h1 (by assumption)
   | @group n b hn hb aK Ea =>
     have h1 := cF hn
     have h2 := cF hb
     repeat' (walk_at "rd1")
     . exact absurd (by assumption) ne1
     . exact bb (by assumption) h1
     . exact bb (by assumption) h2
     . exact q _ _ (by assumption) (by assumption)
   | @deep n b c hn Kk hb hc gW aK Ea =>
     have h1 := cF hn
     have h2 : N.contains b = true := List.contains_iff_mem.mpr Kk
     repeat' (walk_at "rd1")
     . exact absurd (by assumption) ne1
     . exact bb (by assumption) h1
     . exact q _ _ (by assumption) (by assumption)
     . exact bb h2 (by assumption)
   | @ask wd n h0 h7 hn aK =>
     repeat' (walk_at "rd1")
     all_goals first
      | exact q _ _ (by assumption) (by assumption)
      | exact absurd trivial (by assumption)
      | exact absurd rfl (by assumption)
theorem yi (T : Txt K mg a) : nQ P w K mg base 1 a.cR ["_law_deed_here", "_law_names", "_law_other"] [] vS :=
 ⟨⟨_, _, B8 T, T.jE.binds fun _ _ _ _ _ _ => .all fun us hl => match us, hl with | [_, _, _], _ => rfl, .nil⟩⟩
theorem Ai {m : List (Str × PyData)} {n : Str} (h : (dq m n).isSome = true) : n ∈ m.map (·.1) := by
 rcases Classical.em (n ∈ m.map (·.1)) with z | z
 . exact z
 . rw [cY z] at h; cases h
structure GJ (m : List (Str × PyData)) : Prop where
 ch : ∀ n ∈ m.map (·.1), ∃ c, Chain m n c /\ c.length <= 8
 nd : (m.map (·.1)).Nodup
 len : m.length <= 20
theorem GJ.Hm {m : List (Str × PyData)} (h : GJ m) : zy m := ⟨fun n hs => let ⟨c, hc, hl⟩ := h.ch n (Ai hs); ⟨c, hc, by omega⟩, h.nd, by have := h.len; omega⟩
theorem GJ.add {m : List (Str × PyData)} {n : Str} {x : V} {d : PyData} (h : GJ m) (hl : m.length < 20) (hn : dq m n = none) (ha : ux m x d) : GJ (m ++ [(n, d)]) := by
 have hk : (m ++ [(n, d)]).map (·.1) = m.map (·.1) ++ [n] := by rw [List.map_append]; rfl
 refine ⟨fun y hy => ?_, ?_, by rw [List.length_append]; simp; omega⟩
 . rw [hk, List.mem_append] at hy
   rcases hy with hy | hy
   . obtain ⟨c, hc, hl⟩ := h.ch y hy
     exact ⟨c, hc.app, hl⟩
   . rw [List.mem_singleton.mp hy]
     rcases ha with ⟨_, rfl⟩ | ⟨b, c, _, rfl, hc, gW⟩
     . exact ⟨_, .top (fS hn), by simp⟩
     . exact ⟨_, .up (fS hn) hc.app, by simp; omega⟩
 . rw [hk, List.nodup_append]
   refine ⟨h.nd, by simp, fun a ha b hb e => ?_⟩
   rw [List.mem_singleton.mp hb] at e
   have := mP (e ▸ ha)
   rw [hn] at this; cases this
def je (n : Nat) (st : Int) : List Str := (List.range n).map fun i : Nat => dM (i : Int) st
theorem BW {n i : Nat} {st : Int} (h : i < n) : (je n st)[i]? = some (dM (i : Int) st) := by unfold je; simp [h]
theorem kd {n : Nat} {st : Int} : je (n + 1) st = je n st ++ [dM (n : Int) st] := by unfold je; rw [List.range_succ, List.map_append]; rfl
theorem tN {n : Nat} {st : Int} {x : Str} (h : x ∈ je n st) : ∃ i : Nat, i < n /\ x = dM (i : Int) st := by
 obtain ⟨i, hi, rfl⟩ := List.mem_map.mp h
 exact ⟨i, List.mem_range.mp hi, rfl⟩
theorem pG {n : Nat} {st k : Int} (hn : n <= 8) (h0 : n <= k) (h1 : k < 11) : dM k st ∉ je n st := fun h => by
 obtain ⟨i, hi, e⟩ := tN h
 have := t7 (by omega) (by omega) (by omega) (by omega) e
 omega
theorem BO {H : Hp} {P l : Addr} {pos : Pos} {q : Str} {xs : List V} (t : TabAt H P pos q) (no : K.lookup P = none) (h : fL K H l xs) : l ≠ P := by
 rcases h with (h | ⟨o, h⟩) | ⟨o, aJ, n, h, _⟩
 . exact t.ne h (by intro _ z; cases z)
 . exact t.ne h (by intro _ z; cases z)
 . intro z; rw [z, no] at h; cases h
theorem yz {m : List (Str × PyData)} {n : Str} : D8 m [] n = false := by
 unfold D8
 rw [List.any_eq_false]
 intro x _
 simp [AX, dq]
structure Laid (C : Addr) (H : Hp) (v : V) (d1 d2 : Addr) (m : List (Str × PyData)) (n : Nat) (st : Int) : Prop where
 g : nU C H v d1 d2 m []
 j : GJ m
 k : m.map (·.1) = je n st
 c : 0 < n -> Chain m (dM ((n - 1 : Nat) : Int) st) (je n st).reverse
local macro_rules | `(tactic| walk_at "use") => `(tactic| first
 | ((with_reducible refine' Gk ?e1 ?_); (case e1 => walk_at "grd"))
 | ((with_reducible refine' vF ?e1 ?e2 ?e3 (fun _ _ => ?_)); (case e1 => walk_at "grd"); (case e2 => assumption); (case e3 => assumption))
 | ((with_reducible refine' zm ?e1 ?e2 ?_); (case e1 => omega); (case e2 => omega))
 | fail)
theorem CP (T : Txt K mg a) (hB : Bs K mg base) : bw P w K mg base ng 16 a.oS a.pd ["_law_script"] (sQ a.tabs K) := by
 have cl := T.au
 have cQ := g8 (P := P) (w := w) (base := base) T
 have fZ := uD (P := P) (w := w) (base := base) T
 have qU := xx (P := P) (w := w) (base := base) T
 have sT := yi (P := P) (w := w) (base := base) T
 have qp := xk (P := P) (w := w) (base := base) T
 have sd := uP (P := P) (w := w) (base := base) T
 have eX := (tu (P := P) (w := w) (base := base) T).calm
 have lX := (xV (P := P) (w := w) (base := base) T).calm
 have o8 := zM (P := P) (w := w) (base := base) T
 have fj := (kN (P := P) (w := w) (base := base) T).calm
 have d7 := (iQ (P := P) (w := w) (base := base) T).calm
 have g0 := y3 (P := P) (w := w) (base := base) T hB
 refine T.wt.ok en (fun vs H Q E h => ?_) (fun eh A outer s H vs Q E hr h => ?_)
 . obtain ⟨_, _, rfl, _⟩ := h; rfl
 . obtain ⟨l, ns, rfl, hl, hn, hT, q⟩ := h
   have t1 : r6 H a.aC := .inl (hT _ T.c7)
   refine ⟨_, (ao (bI (i := 1) en.nd rfl (Or.inr rfl) (dU cQ (hr.mono (by decide)) rfl T.cB T.cz (af (pv 0) (af aA aj))))
    (ao (Fz (i := 2) en.nd rfl (Or.inl rfl) (T := ["_law_k"]) (M := ["_law_script", "_law_style", "_law_names", "_law_beside", "_law_stranger", "_law_other", "_law_told", "_law_above", "_law_name_here", "_law_rows", "_law_deed_here", "_law_again"]) (GR (ax tH) ["_law_script", "_law_style", "_law_names", "_law_beside", "_law_stranger", "_law_other", "_law_told", "_law_above", "_law_name_here", "_law_rows", "_law_deed_here", "_law_again"] rfl rfl (by decide +kernel)) rfl (oV rfl T.iC (af (b9 Bl aA (b9 d9 (dU cQ (hr.mono (by decide)) rfl T.cB T.cz (af (pv 0) (af aA aj))) aA)) aj)) (fun _ _ _ _ _ => (iW (i := 0) (show List.Nodup (["_law_k", "_law_script", "_law_style", "_law_names", "_law_beside", "_law_stranger", "_law_other", "_law_told", "_law_above", "_law_name_here", "_law_rows", "_law_deed_here", "_law_again"] : List Str) by decide +kernel) rfl (Or.inl rfl))) (iS (by decide)) (fun _ _ _ _ _ => pC) (fun _ _ _ _ _ => (dU fZ (hr.mono (by decide)) rfl T.dN T.dC (af (pv 0) (af (pv 2) aj)))) rfl)
    (ao (bI (i := 3) en.nd rfl (Or.inl rfl) (dU fZ (hr.mono (by decide)) rfl T.dN T.dC (af aA (af (pv 1) aj))))
    (ao (bI (i := 4) en.nd rfl (Or.inl rfl) (dU fZ (hr.mono (by decide)) rfl T.dN T.dC (af aA (af (pv 1) aj))))
    (ao (bI (i := 5) en.nd rfl (Or.inl rfl) (dU fZ (hr.mono (by decide)) rfl T.dN T.dC (af aA (af (pv 1) aj))))
    (ao (bI (i := 6) en.nd rfl (Or.inl rfl) (vH T.q9 sd (hr.mono (by decide)) rfl T.oY))
    (ao (bI (i := 7) en.nd rfl (Or.inl rfl) mC)
    (ao (vI PassesOwn.never rfl (lQ (pv 2)) (iW (i := 8) en.nd rfl (Or.inl rfl))
     (ao (c6 (dj (pv 6) T.au T.dF eX (hr.mono (by decide)) (af (pv 8) (af (pv 7) aj))))
     (aw (bI (i := 7) en.nd rfl (Or.inl rfl) (pv 8)))))
    (ao (c6 (dj (pv 6) T.au T.dF lX (hr.mono (by decide)) (af (pv 3) aj)))
    (ao (bI (i := 9) en.nd rfl (Or.inl rfl) (rz (pv 6) T.au T.eK g0 (hr.mono (by decide))))
    (ao (bI (i := 10) en.nd rfl (Or.inl rfl) (dU qp (hr.mono (by decide)) rfl T.jS T.jO (af (pv 0) (af (pv 2) (af (pv 4) (af (pv 5) aj))))))
    (ao (vI PassesOwn.never rfl (oV rfl T.iC (af aA aj)) (iW (i := 11) en.nd rfl (Or.inl rfl))
     (ao (cK (aN (rJ hr.pZ) (dU qU (hr.mono (by decide)) rfl T.jV T.j7 (af (pv 6) (af (pv 10) aj))) (dU sT (hr.mono (by decide)) rfl T.kY T.kU (af (pv 10) (af (pv 2) (af (pv 5) aj)))) (bf _))
      (aw (aL oN))
      aQ)
     (aw (cK (PW.pt (tq (aN (rJ hr.pZ) (rz (pv 6) T.au T.eK g0 (hr.mono (by decide))) (pv 9) (bf _)) (tq (aN oF (dj (pv 6) T.au T.jN o8 (hr.mono (by decide)) (af (pv 4) aj)) oN (bf _)) (vL (aN oF (dj (pv 6) T.au T.dY fj (hr.mono (by decide)) (af (cM gv (pv 2) (tZ pQ aA) (fun _ _ => rfl)) aj)) oN (bf _))))))
      (aw (aL oN))
      aQ))))
    (ao (c6 (dj (pv 6) T.au T.dF eX (hr.mono (by decide)) (af (pv 4) (af (pv 3) aj))))
    (aw (aL (C8 (t5 (dc hr.pZ) (dj (pv 6) T.au T.b7 d7 (hr.mono (by decide)) (af (pv 4) aj)) (gT (af (pv 4) (af (pv 3) aj))) (bf _)) (Dc (t5 (dc hr.pZ) (dj (pv 6) T.au T.b7 d7 (hr.mono (by decide)) (af (cM gv (pv 2) (tZ pQ aA) (fun _ _ => rfl)) aj)) (sG (pv 2) rfl rfl T.lM rfl T.fQ) (bf _))))))))))))))))))), ?_⟩
   repeat' (walk_at "rd1")
   rename_i Nj N9
   have KU : (1 + cell ns (Int.toNat 0) % 8).toNat <= 8 := by omega
   have vq : 0 < (1 + cell ns (Int.toNat 0) % 8).toNat := by omega
   generalize (1 + cell ns (Int.toNat 0) % 8).toNat = n at *
   refine EC (fun i => .str (dM (i : Int) (cell ns (Int.toNat 1)))) (by omega) (fun _ => rfl) (fun i H1 N hi o9 yes => ?_) (fun pn H1 o9 LQ A8 => ?_)
   . repeat' (walk_at "rd1")
     refine qS (fun hb => ?_) (fun hb => by cases hb)
     repeat' (walk_at "rd1")
     exact yes _ _ (aB.refl _) (.str _)
   generalize LD : cell ns (Int.toNat 1) = st at *
   have Bn : eI H1 pn ((je n st).map PyData.str) := by unfold je; rw [List.map_map]; exact A8
   clear A8
   have JQ := aB.seq o9 hl
   repeat' (walk_at "rd1")
   rename_i v H2 d1 d2 lP Gb Hg Dx
   have Er := Bn.keeps lP
   have ne1 : pn ≠ d1 := Bn.ne Gb
   have ne2 : pn ≠ d2 := Bn.ne Hg
   have hlen : (je n st).length = n := by unfold je; simp
   refine Gi (Hb := H2) (cs := je n st) (gd := PyData.str) Er.dv (fun j σ' H' => ∃ z x m, σ' = [some (.ref l), some (.int st), some (.ref pn), some (.str (dM 8 st)), some (.str (dM 9 st)), some (.str (dM 10 st)), some v, some x, z, none, none, none] /\ Mv [d1] H2 H' /\ Laid a.ah H' v d1 d2 m j st /\ ((j = 0 /\ x = .aY) \/ (0 < j /\ x = .str (dM ((j - 1 : Nat) : Int) st)))) ⟨_, _, [], rfl, Mv.refl, ⟨Dx, ⟨fun y hy => by simp at hy, .nil, Nat.zero_le _⟩, rfl, fun h => absurd h (Nat.lt_irrefl _)⟩, .inl ⟨rfl, rfl⟩⟩ (fun i σ' H' _ ⟨_, _, _, _, mv, _⟩ a' xs e hx => by cases e; exact mv.sq (by simpa using ne1) hx) ?_ ?_
   . rintro j y v' σ' H3 hj ⟨z, x, m, rfl, Bc, L3, Jm⟩ hI hS
     have Ni : j < n := by have := (List.getElem?_eq_some_iff.mp hj).1; omega
     rw [BW Ni] at hj
     cases hj
     obtain rfl := (hI rfl (fun b xs e => Bc.tp b xs e)).str_inv
     have Kj : m.length = j := by have := congrArg List.length L3.k; rw [List.length_map] at this; rw [this]; unfold je; simp
     have kL : dq m (dM (j : Int) st) = none := cY (by rw [L3.k]; exact pG (by omega) (by omega) (by omega))
     have Ej : o3 (dM (j : Int) st) := (iz (by omega) (by omega)).nm
     have G2 : ∃ d, ux m x d /\ Chain (m ++ [(dM (j : Int) st, d)]) (dM (j : Int) st) (je (j + 1) st).reverse := by
      rcases Jm with ⟨rfl, rfl⟩ | ⟨h0, rfl⟩
      . exact ⟨.none, .inl ⟨rfl, rfl⟩, by rw [kd]; exact .top (fS kL)⟩
      . have hc := L3.c h0
        refine ⟨.str (dM ((j - 1 : Nat) : Int) st), .inr ⟨_, _, rfl, rfl, hc, by rw [List.length_reverse]; unfold je; simp; omega⟩, ?_⟩
        rw [kd, List.reverse_append]
        exact .up (fS kL) hc.app
     obtain ⟨d, G2, vz⟩ := G2
     have GW := L3.g.ins
     repeat' (walk_at "rd1")
     refine rT L3.g (by omega) Ej kL G2 (fun H4 HJ y8 => ?_)
     repeat' (walk_at "rd1")
     refine ⟨_, _, _, rfl, Bc.trans HJ, ⟨y8, L3.j.add (by omega) kL G2, by rw [List.map_append, L3.k, kd]; rfl, fun _ => vz⟩, .inr ⟨Nat.succ_pos _, rfl⟩⟩
   . rintro σ' H3 ⟨z, x, m, rfl, Bc, L3, Jm⟩
     rw [hlen] at L3 Jm
     have Kj : m.length = n := by have := congrArg List.length L3.k; rw [List.length_map, hlen] at this; exact this
     have Bi : dq m (dM 8 st) = none := cY (by rw [L3.k]; exact pG (by omega) (by omega) (by omega))
     have GW := L3.g.ins
     repeat' (walk_at "rd1")
     refine rT L3.g (by omega) (iz (by omega) (by omega)).nm Bi (.inl ⟨rfl, rfl⟩) (fun H4 HJ y8 => ?_)
     have j4 := L3.j.add (by omega) Bi (x := .aY) (d := .none) (.inl ⟨rfl, rfl⟩)
     have Hl : (m ++ [(dM 8 st, PyData.none)]).map (·.1) = je n st ++ [dM 8 st] := by rw [List.map_append, L3.k]; rfl
     have K0 : Chain (m ++ [(dM 8 st, PyData.none)]) (dM ((n - 1 : Nat) : Int) st) (je n st).reverse := (L3.c vq).app
     have Kf : Chain (m ++ [(dM 8 st, PyData.none)]) (dM 8 st) [dM 8 st] := .top (fS Bi)
     generalize m ++ [(dM 8 st, PyData.none)] = m4 at *
     have NB := y8.ins
     have Jn : Mv [d1] H2 H4 := Bc.trans HJ
     have t4 : r6 H4 a.aC := ((t1.keeps o9).keeps lP).Nf Dx.ab Jn
     have Jc := Er.mv Jn (by simpa using ne1)
     have Ky : fL K H4 l (ns.map V.int) := aB.seq (Ag lP Jn (fun b hb => by rw [List.mem_singleton.mp hb]; exact Gb)) JQ
     have yh : ∀ x ∈ je n st, pY x /\ x ∈ m4.map (·.1) := fun x hx => by
      obtain ⟨i, hi, rfl⟩ := tN hx
      exact ⟨iz (by omega) (by omega), by rw [Hl]; exact List.mem_append_left _ hx⟩
     have vB : ∀ {k : Int}, 9 <= k -> k < 11 -> dM k st ∉ m4.map (·.1) := fun {k} h0 h1 hh => by
      rw [Hl, List.mem_append] at hh
      rcases hh with hh | hh
      . exact pG (by omega) (by omega) h1 hh
      . have := t7 (by omega) h1 (by omega) (by omega) (List.mem_singleton.mp hh)
        omega
     have Fs : je n st = je (n - 1) st ++ [dM ((n - 1 : Nat) : Int) st] := by rw [<- kd]; congr 1; omega
     have Lq := j4.len
     repeat' (walk_at "rd1")
     refine AB y8 j4.Hm t4 (fun q5 H5 s5 IJ M8 Ls Iz Ia => ?_)
     have L7 := y8.Gq t4 IJ
     have FZ := t4.DZ Jc IJ
     have IG := IJ.sq (by simpa using BO t4 T.bp.no Ky) Ky
     repeat' (walk_at "rd1")
     refine ⟨l, pn, _, _, ns, je n st, m4, rfl, IG, FZ, (by rw [Fs]; simp), by omega, yh, vB (by decide) (by decide), vB (by decide) (by decide), iz (by decide) (by decide), iz (by decide) (by decide), fun x hx h8 => ?_, fun u H6 D r G7 hD hu => ?_⟩
     . rw [Fs] at hx
       have pW : dM ((n - 1 : Nat) : Int) st = x := by simpa using hx
       exact ⟨_, pW ▸ K0, by rw [List.length_reverse]; exact h8⟩
     have Mj : nY D = true := by
      cases hD with
      | twice _ _ hx _ => rcases hx with rfl | ⟨y, rfl, _⟩ <;> rfl
      | group => rfl
      | deep => rfl
      | ask => rfl
     obtain ⟨Lh, Ma⟩ := xq hD
     have JC := L7.keeps G7
     have DY := M8.keeps G7
     have F4 := FZ.keeps G7
     have Im := Ia.keeps G7
     repeat' (walk_at "rd1")
     refine vw (fun j σ' H' => ∃ z z', σ' = [some (.ref l), some (.int st), some (.ref pn), some (.str (dM 8 st)), some (.str (dM 9 st)), some (.str (dM 10 st)), some v, some x, z, some (.ref q5), some u, z'] /\ Mv [a.aC] H6 H' /\ r6 H' a.aC) ⟨_, _, rfl, Mv.refl, DY⟩ ?_ ?_
     . rintro j σ' H7 hj ⟨z, z', rfl, A1, KN⟩
       have EX := JC.Gq DY A1
       have zQ := DY.DZ F4 A1
       have Jf := DY.DZ Im A1
       have Ki := A1.dat Mj hu
       repeat' (walk_at "rd1")
       refine ⟨v, d1, d2, m4, [], u, D, r, je n st, rfl, EX, by omega, Ki, hD, fun w1 H8 BK NN => ?_⟩
       repeat' (walk_at "rd1")
       refine ⟨u, pn, _, D, r, je n st, m4, rfl, Ki.keeps BK, zQ.keeps BK, by omega, fun y hy => (yh y hy).2, hD, fun w2 H9 FP NY => ?_⟩
       have II : PyData.canLay0 (.tuple [.str r.1, .str r.2]) = true := by
        have h1 : PyData.canLay0 (.str r.1) = true := by rcases Ma with h | h | h <;> rw [h] <;> decide +kernel
        have h2 := t9 Lh
        simp only [PyData.canLay0, PyData.canLayAll0, Bool.and_true] at h1 h2 ⊢
        rw [h1, h2]; rfl
       have HP := (EX.keeps BK).keeps FP
       have G4 := (KN.keeps BK).keeps FP
       have NQ := HP.ins
       have Io := (Jf.keeps BK).keeps FP
       repeat' (walk_at "rd1")
       refine AB HP j4.Hm G4 (fun Nk K6 Nx zz Hy KS FA EH => ?_)
       obtain rfl := lV (Iz.1.trans FA.1.symm) Iz.2 FA.2
       have E9 := HP.Gq G4 zz
       have Ld := E9.ins
       have Mg := E9.rd
       have BV := G4.DZ Io zz
       have AH := G4.DZ ((zQ.keeps BK).keeps FP) zz
       rw [Fs, List.map_append] at AH
       have HD : eI K6 pn ((je (n - 1) st).map PyData.str ++ [.str (dM ((n - 1 : Nat) : Int) st)]) := AH
       repeat' (walk_at "rd1")
       refine rK EH.dv BV.dv (fun y hy => ?_) ?_
       . have := Iz.1.mem_iff.mp hy
         rw [Hl, List.mem_append] at this
         rcases this with h | h
         . exact (yh y h).1
         . rw [List.mem_singleton.mp h]; exact iz (by decide) (by decide)
       have Ci : (je n st).reverse.length <= 60 := by rw [List.length_reverse]; omega
       have Ak : dq m4 (dM 9 st) = none := cY (vB (by decide) (by decide))
       repeat' (walk_at "rd1")
       . rename_i hb; exact absurd (by rw [Ak]; rfl) hb
       . rename_i hb; exact absurd yz hb
       . exact ⟨_, _, rfl, ((((A1.oH BK).oH FP).trans zz).oH (by assumption)), Hy.keeps (by assumption)⟩
     . rintro σ' H7 ⟨z, z', rfl, A1, KN⟩
       have EX := JC.Gq DY A1
       have zQ := DY.DZ F4 A1
       have Nz := EX.ins
       have Ak : dq m4 (dM 9 st) = none := cY (vB (by decide) (by decide))
       repeat' (walk_at "rd1")
       refine rT EX (by omega) (iz (by decide) (by decide)).nm Ak (.inr ⟨_, _, rfl, rfl, Kf, by simp⟩) (fun H8 MU JU => ?_)
       have N7 := JU.ins
       have NZ := JU.rd
       have Fu := zQ.mv MU (by simpa using ne1)
       have Kg : eI H8 pn ((je (n - 1) st).map PyData.str ++ [.str (dM ((n - 1 : Nat) : Int) st)]) := by rw [Fs, List.map_append] at Fu; exact Fu
       have N1 : Chain (m4 ++ [(dM 9 st, PyData.str (dM 8 st))]) (dM 9 st) [dM 9 st, dM 8 st] := .up (fS Ak) Kf.app
       have MC : Chain (m4 ++ [(dM 9 st, PyData.str (dM 8 st))]) (dM ((n - 1 : Nat) : Int) st) (je n st).reverse := K0.app
       have Ci : (je n st).reverse.length <= 60 := by rw [List.length_reverse]; omega
       have Kn : [dM 9 st, dM 8 st].length <= 60 := by simp
       repeat' (walk_at "rd1")
       rename_i qa Ha NK NU Lp qb Hb Mw N6 MM
       have IL : eI Hb qb ([dM 9 st, dM 8 st].map PyData.str) := MM
       refine rK (Lp.keeps Mw).dv IL.dv (fun y hy => ?_) ?_
       . have : y = dM 9 st \/ y = dM 8 st := by simpa using hy
         rcases this with rfl | rfl <;> exact iz (by decide) (by decide)
       repeat' (walk_at "rd1")
       rename_i qc Hc NV NW Nb qd Hd MA GI Kq
       have e1 : ((je (n - 1) st).map PyData.str ++ [PyData.str (dM ((n - 1 : Nat) : Int) st)]).reverse = (je n st).reverse.map PyData.str := by rw [List.map_reverse, Fs, List.map_append]; rfl
       rw [e1] at Kq
       refine rK (Nb.keeps MA).dv Kq.dv (fun y hy => (yh y (List.mem_reverse.mp hy)).1) ?_
       exact q _
end
end My
open PySem PySem.W PyProof.Rows
local macro_rules | `(tactic| walk_at "k_dg") => `(tactic| (refine' ⟨?a, ⟨_, L2.ug ?l ?c⟩, ?k⟩; (case a => k_is); (case l => k_is); (case c => k_is); (case k => k_is)))
local macro_rules | `(tactic| walk_at "k_dm") => `(tactic| (refine' ⟨?a, ⟨_, L2.ug ?l ?c⟩, ?k, ?i⟩; (case a => k_is); (case l => k_is); (case c => k_is); (case k => k_is); (case i => k_is)))
local macro_rules | `(tactic| walk_at "k_dt") => `(tactic| (refine' My.yy ?l; (case l => k_is)))
local macro_rules | `(tactic| walk_at "k_ck") => `(tactic| (refine' ⟨?a, ?b, ?c, ?d, ?e, ?f, ?g⟩; (case a => k_is); (case b => k_is); (case c => k_is); (case d => k_is); (case e => k_is); (case f => k_is); (case g => k_is)))
local macro_rules | `(tactic| walk_at "k_xl") => `(tactic| (refine' My.Cu ?l; (case l => k_is)))
local macro_rules | `(tactic| walk_at "k_lm") => `(tactic| (refine' L2.yn ?l ?e ?lc ?ev ?cd ?no; (case l => k_is); (case e => exact rfl); (case lc => k_is); (case ev => exact rfl); (case cd => kernel_rfl); (case no => kernel_rfl)))
theorem My.Jg {K : Frag} {mg : Str -> Option Value} {h : Heap} {fa : Addr} {ts : List Addr} {w : World} (X : K.In h) (Ca : mg "law" = some (.ref fa)) (T : ∃ a : My.Ad, a.tabs = ts /\ My.Txt K mg a) :
 ∃ fd : FuncData, (∀ (s : Shared) (u : Value), BindsTo s fd ⟨[u], []⟩ [("_law_script", u)]) /\ (∀ b ∈ ts, K.lookup b = none /\ ∃ c, CodeHd h c b) /\
   ∀ base : Heap, K.In base -> base.Ns mainGlobals mg -> L2.BM mg base -> L2.bw PySem.Challenge.rw_wakefew_k22_groups_refused.prog w K mg base L2.ng 18 fa fd ["_law_script"] (My.sQ ts K) := by
 obtain ⟨a, rfl, T⟩ := T
 have e0 := Ca.symm.trans T.vQ
 cases e0
 refine ⟨a.pd, fun s u => My.vv T s u, fun b hb => ?_, fun base kb nb bm => (My.CP T ⟨kb, bm⟩).mono (by decide)⟩
 rcases T.zA b hb with rfl
 exact ⟨T.bp.no, _, codeHd_of_K X T.bp.cd⟩
theorem PySem.W.Fast.tw15443464388401927148 : True := trivial
theorem PySem.W.Fast.tw2912408263703316205 : True := trivial
theorem PySem.W.Fast.tw6363802640352180993 : True := trivial
theorem PySem.W.Fast.tw6196364561951506438 : True := trivial
theorem PySem.W.Fast.tw5123214212670554790 : True := trivial
theorem PySem.W.Fast.tw14408716829184236136 : True := trivial
theorem PySem.W.Fast.tw2831974788653993522 : True := trivial
theorem PySem.W.Fast.tw3674873616108306841 : True := trivial
theorem PySem.W.Fast.tw9426764854318693925 : True := trivial
set_option maxRecDepth 100000 in
set_option maxHeartbeats 0 in
theorem PySem.Challenge.cw_wakefew_k22_groups_refused_holds : PySem.Challenge.rw_wakefew_k22_groups_refused.Holds := by
 w_on; o_law; k_head; (case hw => w_witness2)
 k_fill
 refine L2.xC (l := PySem.Challenge.rw_wakefew_k22_groups_refused) (n := 63) (k := 18) (x := "_law_script") (CX := L2.ng) (sp := My.sQ) rfl (by decide) rfl ⟨rfl, by decide, by decide⟩ (fun w h Y => ⟨PySem.W.km_in_of Y, PySem.W.km_tabs_of Y⟩) ?F ?S ?C
 case F =>
  intro w mg fa h KX G Ca
  refine My.Jg KX Ca ?_
  try dsimp only
  refine' My.Bw KX G ?h0 ?h1 ?h2 ?h3 ?h4 ?h5 ?h6 ?h7 ?h8 ?h9 ?h11 ?h12 ?h13 ?h14 ?h15 ?h16 ?h17 ?h18 ?h19 ?h20 ?h21 ?h22 ?h23 ?h24 ?h25 ?h26 ?h27 ?h28 ?h29 ?h31 ?h32 ?h33 ?h34 ?h35 ?h36 ?h37 ?h38 ?h39 ?h40 ?h41 ?h42 ?h44 ?h45 ?h46 ?h47 ?h48 ?h50 ?h51 ?h52 ?h53 ?h54 ?h55 ?h56 ?h57 ?h58 ?h61 ?h62 ?h63 ?h64 ?h65 ?h66 ?h67 ?h68 ?h69 ?h70 ?h71 ?h72 ?h73 ?h74 ?h75 ?h76 ?h77 ?h78 ?h79 ?h80 ?h81 ?h82 ?h83 ?h84 ?h85 ?h86 ?h87 ?h88 ?h89 ?h90 ?h91 ?h92 ?h93 ?h94 ?h95 ?h96 ?h97 ?h98 ?h99 ?h100 ?h101 ?h102 ?h103 ?h104 ?h105 ?h106 ?h107 ?h108 ?h109 ?h110 ?h111 ?h112 ?h113 ?h114 ?h115 ?h116 ?h117 ?h118 ?h119 ?h120 ?h121 ?h122 ?h123 ?h124 ?h125 ?h126 ?h127 ?h128 ?h129 ?h130 ?h131 ?h132
  (case h0 => k_is)
  (case h1 => k_is)
  (case h2 => k_is)
  (case h3 => k_is)
  (case h4 => k_is)
  (case h5 => k_is)
  (case h6 => k_is)
  (case h7 => k_is)
  (case h8 => k_is)
  (case h9 => walk_at "k_dm")
  (case h11 => walk_at "k_dm")
  (case h12 => walk_at "k_dm")
  (case h13 => walk_at "k_dm")
  (case h14 => walk_at "k_dm")
  (case h15 => walk_at "k_dt")
  (case h16 => walk_at "k_dm")
  (case h17 => walk_at "k_dm")
  (case h18 => walk_at "k_dm")
  (case h19 => walk_at "k_dm")
  (case h20 => walk_at "k_dm")
  (case h21 => walk_at "k_dm")
  (case h22 => walk_at "k_dm")
  (case h23 => walk_at "k_dm")
  (case h24 => walk_at "k_dm")
  (case h25 => walk_at "k_lm")
  (case h26 => decide)
  (case h27 => walk_at "k_dm")
  (case h28 => walk_at "k_dm")
  (case h29 => walk_at "k_dm")
  (case h31 => walk_at "k_dg")
  (case h32 => walk_at "k_dg")
  (case h33 => walk_at "k_dg")
  (case h34 => walk_at "k_dg")
  (case h35 => walk_at "k_dg")
  (case h36 => walk_at "k_dg")
  (case h37 => walk_at "k_dg")
  (case h38 => walk_at "k_ck")
  (case h39 => k_is)
  (case h40 => k_is)
  (case h41 => k_is)
  (case h42 => k_is)
  (case h44 => k_is)
  (case h45 => k_is)
  (case h46 => walk_at "k_xl")
  (case h47 => k_is)
  (case h48 => k_is)
  (case h50 => k_is)
  (case h51 => k_is)
  (case h52 => walk_at "k_xl")
  (case h53 => k_is)
  (case h54 => k_is)
  (case h55 => walk_at "k_xl")
  (case h56 => k_is)
  (case h57 => k_is)
  (case h58 => k_exc)
  (case h61 => k_is)
  (case h62 => k_is)
  (case h63 => k_is)
  (case h64 => k_is)
  (case h65 => k_is)
  (case h66 => k_is)
  (case h67 => k_is)
  (case h68 => k_is)
  (case h69 => k_is)
  (case h70 => k_is)
  (case h71 => decide)
  (case h72 => k_is)
  (case h73 => k_is)
  (case h74 => decide)
  (case h75 => k_is)
  (case h76 => decide)
  (case h77 => k_is)
  (case h78 => decide)
  (case h79 => k_is)
  (case h80 => k_is)
  (case h81 => k_is)
  (case h82 => k_is)
  (case h83 => k_is)
  (case h84 => k_is)
  (case h85 => k_is)
  (case h86 => k_is)
  (case h87 => k_is)
  (case h88 => k_is)
  (case h89 => k_is)
  (case h90 => decide)
  (case h91 => k_is)
  (case h92 => decide)
  (case h93 => k_is)
  (case h94 => decide)
  (case h95 => k_is)
  (case h96 => k_is)
  (case h97 => decide)
  (case h98 => k_is)
  (case h99 => k_is)
  (case h100 => k_is)
  (case h101 => k_is)
  (case h102 => k_is)
  (case h103 => k_is)
  (case h104 => k_is)
  (case h105 => k_is)
  (case h106 => k_is)
  (case h107 => k_is)
  (case h108 => k_is)
  (case h109 => decide)
  (case h110 => k_is)
  (case h111 => decide)
  (case h112 => k_is)
  (case h113 => decide)
  (case h114 => k_is)
  (case h115 => decide)
  (case h116 => k_is)
  (case h117 => k_is)
  (case h118 => k_is)
  (case h119 => k_is)
  (case h120 => k_is)
  (case h121 => decide)
  (case h122 => k_is)
  (case h123 => k_is)
  (case h124 => k_is)
  (case h125 => k_is)
  (case h126 => k_is)
  (case h127 => k_is)
  (case h128 => k_is)
  (case h129 => k_is)
  (case h130 => k_is)
  (case h131 => k_is)
  (case h132 => k_is)
 case S => exact fun K H l ns hl hS hT => ⟨l, ns, rfl, hS, hl, hT, fun _ => rfl⟩
 case C => exact fun H s e s' h => h
