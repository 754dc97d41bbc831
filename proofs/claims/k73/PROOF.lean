import PyProof.Rows.All
import Wide.All
import OpenK.AllK
import Wide.FinOn
import Lean
import PyProof.EqAt
import PyProof.EqKinds
import PyProof.TupleCall
import PySem.Challenge.RW_wakefew_k73_rules_read_again
set_option compiler.extract_closed false
set_option Elab.async false
set_option linter.all false
set_option maxRecDepth 100000
namespace L2
open PySem PySem.Spec PyProof.Rows
abbrev Key := Sum Int Str
def mz : Key -> Value -> Bool
 | .inl k, v => Value.isInt k v
 | .inr x, v => Value.isStrOf x v
def JI (w : World) : Key -> Int
 | .inl k => hashInt k
 | .inr x => hashStr w x
theorem cz : ∀ {k : Key} {v : Value}, mz k v = true -> (∃ i t, k = Sum.inl i /\ v = Value.int i t) \/ (∃ x t, k = Sum.inr x /\ v = Value.str x t)
 | .inl i, v, h => by
   obtain ⟨t, e⟩ := Value.isInt_shape (k := i) (v := v) h
   exact .inl ⟨i, t, rfl, e⟩
 | .inr x, v, h => by
   obtain ⟨t, e⟩ := Value.isStrOf_shape (x := x) (v := v) h
   exact .inr ⟨x, t, rfl, e⟩
theorem y0 (i : Int) (t : Tok) : mz (.inl i) (.int i t) = true := by simp [mz, Value.isInt]
theorem zk (x : Str) (t : Tok) : mz (.inr x) (.str x t) = true := by simp [mz, Value.isStrOf]
theorem Fd (a b : Int) : decide ((Sum.inl a : Key) = Sum.inl b) = (a == b) := by
 by_cases e : a = b
 . subst e; simp
 . have h : ¬ (Sum.inl a : Key) = Sum.inl b := fun q => e (Sum.inl.inj q)
   rw [decide_eq_false h]
   exact (beq_eq_false_iff_ne.mpr e).symm
theorem F5 (a b : Str) : decide ((Sum.inr a : Key) = Sum.inr b) = decide (a = b) := by
 by_cases e : a = b
 . subst e; simp
 . have h : ¬ (Sum.inr a : Key) = Sum.inr b := fun q => e (Sum.inr.inj q)
   rw [decide_eq_false h, decide_eq_false e]
theorem FW (a : Int) (b : Str) : decide ((Sum.inl a : Key) = Sum.inr b) = false := decide_eq_false (fun q => nomatch q)
theorem Fq (a : Str) (b : Int) : decide ((Sum.inr a : Key) = Sum.inl b) = false := decide_eq_false (fun q => nomatch q)
def ft (prog : Program) (w : World) : PySem.KeyKind prog w Key where
 is := mz
 hash := JI w
 inj := fun v a b ha hb => by
  rcases cz ha with ⟨i, t, rfl, rfl⟩ | ⟨x, t, rfl, rfl⟩
  . rcases cz hb with ⟨j, u, rfl, e⟩ | ⟨y, u, rfl, e⟩
    . injection e with e1 _; rw [e1]
    . exact nomatch e
  . rcases cz hb with ⟨j, u, rfl, e⟩ | ⟨y, u, rfl, e⟩
    . exact nomatch e
    . injection e with e1 _; rw [e1]
 byValue := fun k v h => by
  rcases cz h with ⟨i, t, rfl, rfl⟩ | ⟨x, t, rfl, rfl⟩ <;> rfl
 pyHash := fun hv h => by
  rcases cz hv with ⟨i, t, rfl, rfl⟩ | ⟨x, t, rfl, rfl⟩
  . exact wpAny_pyHash_int h
  . exact wpAny_pyHash_str h
 eqBool := fun hu hv h => by
  rcases cz hu with ⟨i, t, rfl, rfl⟩ | ⟨x, t, rfl, rfl⟩
  . rcases cz hv with ⟨j, u, rfl, rfl⟩ | ⟨y, u, rfl, rfl⟩
    . rw [Fd] at h; exact wpAny_eqBool_int h
    . rw [FW] at h; exact SeqAt.EqAt.int_str i t y u _ _ _ _ h
  . rcases cz hv with ⟨j, u, rfl, rfl⟩ | ⟨y, u, rfl, rfl⟩
    . rw [Fq] at h; exact SeqAt.EqAt.str_int x t j u _ _ _ _ h
    . rw [F5] at h; exact wpAny_eqBool_str h
 «strs» := fun k x t v h => by
  rcases cz h with ⟨i, u, rfl, e⟩ | ⟨y, u, rfl, e⟩
  . exact nomatch e
  . injection e with e1 _
    subst e1
    cases v <;> rfl
theorem v5 (prog : Program) (w : World) (i : Int) (t : Tok) : (ft prog w).is (.inl i) (.int i t) = true := y0 i t
theorem wm (prog : Program) (w : World) (x : Str) (t : Tok) : (ft prog w).is (.inr x) (.str x t) = true := zk x t
inductive V where
 | cf | bl (b : Bool) | int (i : Int) | str (x : Str) | yD (b : Array UInt8) | EA (b : UInt64) | ref (a : Addr) | ty (n : String)
 deriving DecidableEq
def RelV : V -> Value -> Prop
 | .cf, u => u = Value.none
 | .bl b, u => u = Value.bool b
 | .int i, u => ∃ t, u = Value.int i t
 | .str x, u => ∃ t, u = Value.str x t
 | .yD b, u => ∃ t, u = Value.bytes b t
 | .EA b, u => ∃ t, u = Value.float b t
 | .ref a, u => u = Value.ref a
 | .ty n, u => u = Value.type n
abbrev Vals : List V -> List Value -> Prop := Paired RelV
theorem Vals.length {xs : List V} {us : List Value} (r : Vals xs us) : xs.length = us.length := Paired.length r
theorem Vals.get : ∀ {xs : List V} {us : List Value} {i : Nat} {x : V}, Vals xs us -> xs[i]? = some x -> ∃ u, us[i]? = some u /\ RelV x u
 | _, _, _, _, .nil, e => by simp at e
 | _, _, 0, _, .cons r _, e => by simp at e; subst e; exact ⟨_, rfl, r⟩
 | _, _, i + 1, x, .cons _ t, e => by
   obtain ⟨u, h1, h2⟩ := Vals.get (i := i) (x := x) t (by simpa using e)
   exact ⟨u, by simpa using h1, h2⟩
theorem Vals.append : ∀ {xs ys : List V} {us ws : List Value}, Vals xs us -> Vals ys ws -> Vals (xs ++ ys) (us ++ ws)
 | _, _, _, _, .nil, s => s
 | _, _, _, _, .cons r t, s => .cons r (Vals.append t s)
theorem Vals.take : ∀ {xs : List V} {us : List Value} (n : Nat), Vals xs us -> Vals (xs.take n) (us.take n)
 | _, _, 0, _ => .nil
 | _, _, _ + 1, .nil => .nil
 | _, _, n + 1, .cons r t => .cons r (Vals.take n t)
theorem Vals.drop : ∀ {xs : List V} {us : List Value} (n : Nat), Vals xs us -> Vals (xs.drop n) (us.drop n)
 | _, _, 0, r => r
 | _, _, _ + 1, .nil => .nil
 | _, _, n + 1, .cons _ t => Vals.drop n t
def pL : Option V -> Option Value -> Prop
 | some v, some u => RelV v u
 | none, none => True
 | _, _ => False
def KV {κ : Type} : List (κ × V) -> List (κ × Value) -> Prop := Paired fun (p : κ × V) (q : κ × Value) => p.1 = q.1 /\ RelV p.2 q.2
def kV : Key -> V
 | .inl i => .int i
 | .inr x => .str x
inductive HO where
 | lst (xs : List V)
 | tup (xs : List V)
 | dK (e9 : List (Key × V)) | dT (e9 : List (List Key × V))
 | set (S : Int -> Bool) (n : Nat)
 | ins (C dx : Addr) (fs : List (Str × V))
 | own (x : Addr)
 | xd (fs : List (Str × V))
 | met (f x : Addr)
 | K6 (lo hi : Int)
 | xh (o : Obj) (u : HO)
 | GA (ps : Array Value)
 | ext (φ : Heap -> Prop)
abbrev Hp := Addr -> Option HO
def upd (H : Hp) (a : Addr) (o : HO) : Hp := fun b => if b = a then some o else H b
theorem bI {H : Hp} {a : Addr} {o : HO} : upd H a o a = some o := by unfold upd; rw [if_pos rfl]
theorem a8 {H : Hp} {a b : Addr} {o : HO} (h : b ≠ a) : upd H a o b = H b := by unfold upd; rw [if_neg h]
theorem oz {H : Hp} {a : Addr} {o u : HO} : upd (upd H a o) a u = upd H a u := by
 funext b; unfold upd; split <;> rfl
theorem bF {H : Hp} {a b : Addr} {o : HO} (h : H a = some o) (h' : H b = none) : a ≠ b := by
 intro e; subst e; rw [h] at h'; cases h'
section
variable (P : Program) (w : World)
def fb (H : Hp) (h : Heap) (a : Addr) : HO -> Prop
 | .lst xs => xs.length <= sizeLine /\ ∃ (b5 : List Value) (n : Nat), Vals xs b5 /\ h.get? a = some { cls := .type "list", data := .seq b5.toArray n }
 | .tup xs => xs.length <= sizeLine /\ ∃ b5 : List Value, Vals xs b5 /\ IsTup h a b5.toArray
 | .dK e9 => e9.length <= sizeLine /\ (a == sysModules) = false /\ ∃ vs, KV e9 vs /\ h.DictOf (ft P w) a vs
 | .dT e9 => e9.length <= sizeLine /\ (a == sysModules) = false /\ ∃ xs : List (List Key × Addr × Value),
  Paired (fun (p : List Key × V) (q : List Key × Addr × Value) => p.1 = q.1 /\ H q.2.1 = some (.tup (p.1.map kV)) /\ RelV p.2 q.2.2) e9 xs /\
  ∃ o es ep, h.get? a = some o /\ o.ExactDict /\ o.data = .dict es ep /\ es.toList = xs.map (entryOfKey (tupleKind (ft P w))) /\ (xs.map (·.1)).Nodup
 | .set S n => h.SetOf (intKind P w) a S n
 | .ins C dx fs => H dx = some (.own a) /\ fs.length <= 1000 /\ dx ≠ a /\ h.get? a = some (PySem.W.instObj C dx) /\
  ∃ mA, h.Ns1 dx mA /\ (∀ f, pL (fs.lookup f) (mA f)) /\ PySem.Within mA (fs.map (·.1))
 | .own _ => ∃ o, h.get? a = some o
 | .xd fs => ∃ mA, h.Ns1 a mA /\ ∀ f, pL (fs.lookup f) (mA f)
 | .K6 lo hi => ∃ t u v, h.get? a = some { cls := .type "range", data := .fields #[.int lo t, .int hi u, .int 1 v] }
 | .xh o u => h.get? a = some o /\ fb H h a u
 | .GA ps => h.get? a = some { cls := .none, data := .fields ps }
 | .met f x => h.get? a = some (PySem.W.methodObj (.ref f) (.ref x))
 | .ext φ => φ h /\ (∃ o, h.get? a = some o) /\ ∀ h1 h2 : Heap, φ h1 -> (∀ o, h1.get? a = some o -> h2.get? a = some o) -> φ h2
def rh (H : Hp) (h : Heap) : Prop := ∀ a o, H a = some o -> fb P w H h a o
end
section
variable {P : Program} {w : World} {H H' : Hp} {h h' : Heap} {a : Addr} {o : HO}
theorem fb.lt (x : fb P w H h a o) : a < h.objs.size := by
 cases o with
 | lst xs => obtain ⟨_, _, _, _, e⟩ := x; exact Heap.lt_size e
 | tup xs => obtain ⟨_, _, _, p⟩ := x; exact p.lt
 | dK e9 => obtain ⟨_, _, _, _, o, _, _, e, _⟩ := x; exact Heap.lt_size e
 | dT e9 => obtain ⟨_, _, _, _, o, _, _, e, _⟩ := x; exact Heap.lt_size e
 | set S n => obtain ⟨o, _, _, _, e, _⟩ := x; exact Heap.lt_size e
 | ins C dx fs => obtain ⟨_, _, _, e, _⟩ := x; exact Heap.lt_size e
 | own y => obtain ⟨_, e⟩ := x; exact Heap.lt_size e
 | xd fs => obtain ⟨_, ⟨_, _, _, e, _⟩, _⟩ := x; exact Heap.lt_size e
 | K6 lo hi => obtain ⟨_, _, _, e⟩ := x; exact Heap.lt_size e
 | xh ob u => obtain ⟨e, _⟩ := x; exact Heap.lt_size e
 | GA ps => exact Heap.lt_size (show h.get? a = some _ from x)
 | met f y => exact Heap.lt_size (show h.get? a = some _ from x)
 | ext φ => obtain ⟨_, ⟨_, e⟩, _⟩ := x; exact Heap.lt_size e
theorem Paired.Ij {α β : Type} {F G : α -> β -> Prop} : ∀ {l₁ : List α} {l₂ : List β}, Paired F l₁ l₂ -> (∀ a b, F a b -> G a b) -> Paired G l₁ l₂
 | _, _, .nil, _ => .nil
 | _, _, .cons r t, f => .cons (f _ _ r) (Paired.Ij t f)
theorem fb.zH (x : fb P w H h a o) (k : ∀ b u, (b = a \/ H b = some (.own a)) -> h.get? b = some u -> h'.get? b = some u)
 (ho : ∀ b, H b = some (.own a) -> H' b = some (.own a)) (ht : ∀ b xs, H b = some (.tup xs) -> H' b = some (.tup xs)) : fb P w H' h' a o := by
 induction o with
 | lst xs => obtain ⟨z, b5, n, r, e⟩ := x; exact ⟨z, b5, n, r, k _ _ (.inl rfl) e⟩
 | tup xs => obtain ⟨z, b5, r, ob, e, c⟩ := x; exact ⟨z, b5, r, ob, k _ _ (.inl rfl) e, c⟩
 | dK e9 => obtain ⟨z, y, vs, r, ob, es, ep, e, c⟩ := x; exact ⟨z, y, vs, r, ob, es, ep, k _ _ (.inl rfl) e, c⟩
 | dT e9 =>
   obtain ⟨z, y, xs, r, ob, es, ep, e, c⟩ := x
   exact ⟨z, y, xs, Paired.Ij r fun p q z => ⟨z.1, ht _ _ z.2.1, z.2.2⟩, ob, es, ep, k _ _ (.inl rfl) e, c⟩
 | set S n => obtain ⟨ob, es, ep, t, e, c⟩ := x; exact ⟨ob, es, ep, t, k _ _ (.inl rfl) e, c⟩
 | ins C dx fs =>
   obtain ⟨d, z, ne, e, mA, ⟨od, es, ep, e2, c⟩, r⟩ := x
   exact ⟨ho _ d, z, ne, k _ _ (.inl rfl) e, mA, ⟨od, es, ep, k _ _ (.inr d) e2, c⟩, r⟩
 | own y => obtain ⟨ob, e⟩ := x; exact ⟨ob, k _ _ (.inl rfl) e⟩
 | xd fs => obtain ⟨mA, ⟨od, es, ep, e, c⟩, r⟩ := x; exact ⟨mA, ⟨od, es, ep, k _ _ (.inl rfl) e, c⟩, r⟩
 | K6 lo hi => obtain ⟨t, u, v, e⟩ := x; exact ⟨t, u, v, k _ _ (.inl rfl) e⟩
 | xh ob u ih => obtain ⟨e, q⟩ := x; exact ⟨k _ _ (.inl rfl) e, ih q⟩
 | GA ps =>
   have e : h.get? a = some { cls := .none, data := .fields ps } := x
   show h'.get? a = some { cls := .none, data := .fields ps }
   exact k a _ (.inl rfl) e
 | met f y =>
   have e : h.get? a = some (PySem.W.methodObj (.ref f) (.ref y)) := x
   show h'.get? a = some (PySem.W.methodObj (.ref f) (.ref y))
   exact k a _ (.inl rfl) e
 | ext φ => obtain ⟨p, ⟨o, e⟩, st⟩ := x; exact ⟨st _ _ p fun o q => k _ _ (.inl rfl) q, ⟨o, k _ _ (.inl rfl) e⟩, st⟩
theorem rh.lt (x : rh P w H h) (e : H a = some o) : a < h.objs.size := (x a o e).lt
theorem rh.fresh (x : rh P w H h) (e : h.objs.size <= a) : H a = none := by
 cases q : H a with
 | none => rfl
 | some u => exact absurd (Nat.lt_of_lt_of_le (x.lt q) e) (Nat.lt_irrefl _)
theorem rh.kept (x : rh P w H h) (k : ∀ b u, h.get? b = some u -> h'.get? b = some u) : rh P w H h' := fun a o e =>
 (x a o e).zH (fun b u _ q => k b u q) (fun _ q => q) fun _ _ q => q
theorem rh.laid (x : rh P w H h) (k : ∀ b u, h.get? b = some u -> h'.get? b = some u) (hp : h.objs.size <= a) (new : fb P w (upd H a o) h' a o) : rh P w (upd H a o) h' := fun b u e => by
 have hn := x.fresh hp
 by_cases hb : b = a
 . subst hb; rw [bI] at e; cases e; exact new
 . rw [a8 hb] at e
   exact (x b u e).zH (fun c v _ q => k c v q) (fun c q => by rw [a8 (bF q hn)]; exact q) fun c xs q => by rw [a8 (bF q hn)]; exact q
end
def Rd (H : Hp) (a : Addr) (u : HO) : Prop := H a = some u \/ ∃ o, H a = some (.xh o u)
theorem Rd.of {H : Hp} {a : Addr} {u : HO} (h : H a = some u) : Rd H a u := .inl h
theorem Rd.ok {P : Program} {w : World} {H : Hp} {h : Heap} {a : Addr} {u : HO} (r : Rd H a u) (x : rh P w H h) : fb P w H h a u := by
 rcases r with r | ⟨o, r⟩
 . exact x a u r
 . obtain ⟨_, q⟩ := x a _ r
   exact q
def Jv : Option HO -> Prop
 | some (.lst _) => True
 | some (.dK _) => True
 | some (.dT _) => True
 | some (.set _ _) => True
 | some (.ins _ _ _) => True
 | some (.ext _) => True
 | _ => False
section
variable {P : Program} {w : World} {H : Hp} {h h' : Heap} {x e : Addr} {o' : HO}
theorem rh.write (ok : rh P w H h) (mu : Jv (H x)) (he : e = x \/ H e = some (.own x)) (k : ∀ b u, b ≠ e -> h.get? b = some u -> h'.get? b = some u) (GK : ∃ u, h'.get? e = some u)
 (new : fb P w (upd H x o') h' x o') : rh P w (upd H x o') h' := fun b u q => by
 have G6 : ∀ c y, H c = some (.own y) -> c ≠ x := fun c y r z => by subst z; rw [r] at mu; exact mu
 have JY : ∀ c xs, H c = some (.tup xs) -> c ≠ x := fun c xs r z => by subst z; rw [r] at mu; exact mu
 by_cases hb : b = x
 . subst hb; rw [bI] at q; cases q; exact new
 . rw [a8 hb] at q
   by_cases E9 : b = e
   . have q' : H b = some (.own x) := by
      rcases he with z | z
      . exact absurd (E9.trans z) hb
      . rw [E9]; exact z
     rw [q] at q'; cases q'
     obtain ⟨v, hv⟩ := GK
     exact ⟨v, by rw [E9]; exact hv⟩
   . refine (ok b u q).zH (fun c v hc r => k c v ?_ r) (fun c r => by rw [a8 (G6 c b r)]; exact r) fun c xs r => by rw [a8 (JY c xs r)]; exact r
     rcases hc with rfl | hc
     . exact E9
     . rintro rfl
       rcases he with z | z
       . exact G6 c b hc z
       . rw [hc] at z; cases z; exact hb rfl
end
structure Un (fs ex : List Addr) (H H' : Hp) (h h' : Heap) : Prop where
 keep : ∀ b o, h.get? b = some o -> H b = none -> b ∉ fs -> b ∉ ex -> h'.get? b = some o
 slot : ∀ b o, h.get? b = some o -> H b = none -> b ∈ fs -> b ∉ ex -> ∃ sl, h'.get? b = some { o with slots := sl }
 free : ∀ b o, h.get? b = some o -> H b = none -> b ∉ ex -> H' b = none
 there : ∀ b o, h.get? b = some o -> b ∉ ex -> ∃ o', h'.get? b = some o'
 tV : ∀ b xs, H b = some (.tup xs) -> H' b = some (.tup xs)
 sr : ∀ b o u, H b = some (.xh o u) -> H' b = some (.xh o u)
 uZ : ∀ b ps, H b = some (.GA ps) -> ∃ more, H' b = some (.GA (ps ++ more))
section
variable {fs Jf ex Nf : List Addr} {H H1 H2 : Hp} {h h1 h2 h' : Heap} {a x e : Addr} {o : HO}
theorem Un.any (u : Un fs ex H H1 h h1) {b : Addr} {ob : Obj} (q : h.get? b = some ob) (n : H b = none) (hx : b ∉ ex) : ∃ sl, h1.get? b = some { ob with slots := sl } := by
 by_cases hb : b ∈ fs
 . exact u.slot b ob q n hb hx
 . exact ⟨ob.slots, u.keep b ob q n hb hx⟩
theorem Un.kept (k : ∀ b u, h.get? b = some u -> h'.get? b = some u) : Un fs ex H H h h' :=
 ⟨fun b ob q _ _ _ => k b ob q, fun b ob q _ _ _ => ⟨ob.slots, k b ob q⟩, fun _ _ _ n _ => n, fun b ob q _ => ⟨ob, k b ob q⟩, fun _ _ q => q, fun _ _ _ q => q, fun _ ps q => ⟨#[], by rw [q]; simp⟩⟩
theorem Un.refl : Un fs ex H H h h := Un.kept fun _ _ q => q
theorem Un.laid (k : ∀ b u, h.get? b = some u -> h'.get? b = some u) (hp : h.objs.size <= a) (hn : H a = none) : Un fs ex H (upd H a o) h h' where
 keep := fun b u q _ _ _ => k b u q
 slot := fun b u q _ _ _ => ⟨u.slots, k b u q⟩
 free := fun b u q n _ => by rw [a8 (Nat.ne_of_lt (Nat.lt_of_lt_of_le (Heap.lt_size q) hp))]; exact n
 there := fun b u q _ => ⟨u, k b u q⟩
 tV := fun b xs q => by rw [a8 (bF q hn)]; exact q
 sr := fun b u xs q => by rw [a8 (bF q hn)]; exact q
 uZ := fun b ps q => ⟨#[], by rw [a8 (bF q hn), q]; simp⟩
theorem Un.write (mu : Jv (H x)) (he : e = x \/ H e = some (.own x)) (k : ∀ b u, b ≠ e -> h.get? b = some u -> h'.get? b = some u) (GK : ∃ u, h'.get? e = some u) : Un fs ex H (upd H x o) h h' := by
 have hx : ∀ b, H b = none -> b ≠ x := fun b n z => by subst z; rw [n] at mu; exact mu
 have hb : ∀ b, H b = none -> b ≠ e := fun b n z => by
  subst z
  rcases he with r | r
  . exact hx b n r
  . rw [n] at r; cases r
 have hm : ∀ b u, H b = some u -> ¬ Jv (some u) -> b ≠ x := fun b u q nm z => by subst z; rw [q] at mu; exact nm mu
 refine ⟨fun b u q n _ _ => k b u (hb b n) q, fun b u q n _ _ => ⟨u.slots, k b u (hb b n) q⟩, fun b u q n _ => by rw [a8 (hx b n)]; exact n, fun b u q _ => ?_,
  fun b xs q => by rw [a8 (hm b _ q fun z => z)]; exact q, fun b u xs q => by rw [a8 (hm b _ q fun z => z)]; exact q, fun b ps q => ⟨#[], by rw [a8 (hm b _ q fun z => z), q]; simp⟩⟩
 by_cases E9 : b = e
 . subst E9; exact GK
 . exact ⟨u, k b u E9 q⟩
end
def Jh (h : Heap) (H : Hp) : List Addr := (List.range h.objs.size).filter fun a => (H a).isSome
def vn (h : Heap) (H : Hp) : Heap := PySem.W.hideAll h (Jh h H)
theorem zZ (h : Heap) (H : Hp) : (vn h H).objs.size = h.objs.size := PySem.W.hideAll_size _ _
theorem A6 {h : Heap} {H : Hp} {b : Addr} {o : Obj} (e : h.get? b = some o) (n : H b = none) : (vn h H).get? b = some o :=
 PySem.W.hideAll_get _ e fun hm => by
  have q : (H b).isSome = true := (List.mem_filter.mp hm).2
  rw [n] at q; simp at q
theorem CZ {h : Heap} {H : Hp} {b : Addr} {o : Obj} (e : (vn h H).get? b = some o) : h.get? b = some o /\ H b = none := by
 have e' : h.get? b = some o := PySem.W.of_hideAll (Jh h H) e
 refine ⟨e', ?_⟩
 cases q : H b with
 | none => rfl
 | some x =>
   have hm : b ∈ Jh h H := List.mem_filter.mpr ⟨List.mem_range.mpr (Heap.lt_size e'), by simp [q]⟩
   have z : (vn h H).get? b = none := PySem.W.hideAll_none (Jh h H) hm
   rw [z] at e; cases e
def BX (g h : Heap) (L : Addr) : List (Addr × Obj) := (List.range h.objs.size).filterMap fun a => if a = L \/ (g.get? a).isSome = true then none else (h.get? a).map fun o => (a, o)
def rest (g h : Heap) (L d : Addr) : List (Addr × Obj) := (BX g h L).filter fun p => decide (p.1 ≠ d)
structure Mod (K : PySem.W.Frag) (mg : Str -> Option Value) (base : Heap) : Prop where
 Fp : K.In base
 glob : base.Ns mainGlobals mg
 blt : ∃ mb, base.Ns builtinsNs mb /\ ∀ x : Str, x ≠ "__name__" -> mb x = bootBuiltins x
 nolimit : base.NoLimit
structure Cx where
 prog : Program
 w : World
 K : PySem.W.Frag
 mg : Str -> Option Value
 base : Heap
 A : Around
 N : List Str
 gL : Shared
 BM : Hp
 env : Env
 outer : List Env
 stack : List Env
 ex : List Addr
 fn : Str -> Bool
 calm : Bool
 pn : List (Addr × Obj)
 xe : Value -> Shared -> Prop
def wM (l : List Env) : List Addr := l.filterMap (·.frame)
abbrev Cx.fs (X : Cx) : List Addr := wM X.outer
def GY (sc : Scope) (x : Str) : Prop := sc.names.lookup x = some .local \/ sc.names.lookup x = some .cell \/ sc.names.lookup x = some .free
def Loc (sc : Scope) (x : Str) : Prop := sc.names.lookup x = some .local \/ sc.names.lookup x = some .cell
def Look (env : Env) (h : Heap) (m : Str -> Option Value) (x : Str) (u : Value) : Prop :=
 (env.kindOf x = some .local /\ m x = some u) \/ ((env.kindOf x = some .cell \/ env.kindOf x = some .free) /\ ∃ c, env.cells.lookup x = some c /\ h.IsCell c (some u))
structure Cx.Ok (X : Cx) : Prop where
 mod : Mod X.K X.mg X.base
 kind : X.env.scope.kind = .function
 glob : X.env.globals = mainGlobals
 blt : X.env.builtins = builtinsNs
 above : X.gL.heap.objs.size <= X.env.locals
 inj : ∀ x y c, X.env.cells.lookup x = some c -> X.env.cells.lookup y = some c -> x = y
 has : ∀ x, (X.env.kindOf x = some .cell \/ X.env.kindOf x = some .free) -> ∃ c, X.env.cells.lookup x = some c
 Ec : ∀ x c, X.fn x = true -> X.env.cells.lookup x = some c -> X.gL.heap.objs.size <= c
 hd : X.calm = true -> X.A.handled = none
 frames : X.A.frames = some X.stack
 FJ : X.stack = X.outer \/ (X.stack = X.env :: X.outer /\ X.env.frame = some X.env.locals)
 FZ : ∀ b ∈ X.ex, b ≠ X.env.locals /\ ∀ x c, X.env.cells.lookup x = some c -> c ≠ b
 bs : ∀ b o, X.base.get? b = some o -> X.gL.heap.get? b = some o /\ X.BM b = none
 Af : X.base.objs.size <= X.gL.heap.objs.size
 vI : ∀ b o, X.base.get? b = some o -> b ∉ X.ex
 wy : ∀ b ∈ X.ex, b ∉ X.fs
 nY : X.gL.heap.FunFrames X.base X.outer
 BQ : ∀ b ∈ X.fs, X.BM b = none
structure Inv (X : Cx) (pins : List (Addr × Obj)) (σ : List (Option V)) (H : Hp) (s : Shared) : Prop where
 ok : X.Ok
 os : s.os = X.gL.os
 bare : AllBare s.gens
 base : Un X.fs X.ex X.BM H X.gL.heap s.heap
 loc : ∃ m, s.heap.Ns X.env.locals m /\ ∀ (i : Nat) (x : Str) (v : V), X.N[i]? = some x -> σ[i]? = some (some v) -> GY X.env.scope x -> ∃ u, RelV v u /\ Look X.env s.heap m x u
 cell : ∀ x c, X.env.cells.lookup x = some c -> ∃ v, s.heap.IsCell c v
 free : H X.env.locals = none
 iu : ∀ x c, X.env.cells.lookup x = some c -> H c = none
 pin : ∀ p ∈ X.pn ++ pins, s.heap.get? p.1 = some p.2 /\ H p.1 = none /\ p.1 ≠ X.env.locals /\ p.1 ∉ X.fs /\ ∀ v, p.2.data ≠ .cell v
 dP : rh X.prog X.w H s.heap
 len : σ.length = X.N.length
section
variable {X : Cx} {pins : List (Addr × Obj)} {σ : List (Option V)} {H H' : Hp} {s : Shared} {h' : Heap}
theorem Cx.Ok.J0 (ok : X.Ok) {b : Addr} {o : Obj} (e : X.base.get? b = some o) : b ∉ X.fs := fun hb => by
 have := (ok.nY.mem hb).1
 rw [e] at this; cases this
theorem Inv.bs (I : Inv X pins σ H s) : ∀ b o, X.base.get? b = some o -> s.heap.get? b = some o /\ H b = none := fun b o e =>
 ⟨I.base.keep b o (I.ok.bs b o e).1 (I.ok.bs b o e).2 (I.ok.J0 e) (I.ok.vI b o e), I.base.free b o (I.ok.bs b o e).1 (I.ok.bs b o e).2 (I.ok.vI b o e)⟩
theorem Inv.bk (I : Inv X pins σ H s) : ∀ b o, X.base.get? b = some o -> s.heap.get? b = some o := fun b o e => (I.bs b o e).1
theorem Inv.mod (I : Inv X pins σ H s) : Mod X.K X.mg X.base := I.ok.mod
theorem Inv.pY (I : Inv X pins σ H s) : X.K.In s.heap := I.ok.mod.Fp.keeps I.bk
theorem Inv.lt (I : Inv X pins σ H s) : X.env.locals < s.heap.objs.size := let ⟨_, hn, _⟩ := I.loc; hn.lt
theorem Inv.sz (I : Inv X pins σ H s) : X.gL.heap.objs.size <= s.heap.objs.size := Nat.le_trans I.ok.above (Nat.le_of_lt I.lt)
theorem Inv.JO (I : Inv X pins σ H s) {a : Addr} (h : s.heap.objs.size <= a) : a ∉ X.fs := fun hb => by
 obtain ⟨_, o, ho, _⟩ := I.ok.nY.mem hb
 exact absurd (Nat.lt_of_lt_of_le (Heap.lt_size ho) (Nat.le_trans I.sz h)) (Nat.lt_irrefl _)
theorem Inv.FP (I : Inv X pins σ H s) : ∀ x c, X.env.cells.lookup x = some c -> c ≠ X.env.locals := fun x c e z => by
 obtain ⟨v, o, ho, hd⟩ := I.cell x c e
 obtain ⟨m, ⟨o', es, ep, zh, Ae, _⟩, _⟩ := I.loc
 rw [z, zh] at ho; cases ho; rw [Ae] at hd; cases hd
theorem Inv.nY (I : Inv X pins σ H s) : s.heap.FunFrames X.base X.outer := by
 have all : ∀ (l : List Env), (∀ b ∈ wM l, b ∈ X.fs) -> X.gL.heap.FunFrames X.base l -> s.heap.FunFrames X.base l := by
  intro l
  induction l with
  | nil => intro _ _; trivial
  | cons env r ih =>
    intro hs hl
    obtain ⟨hk, ⟨L, o, hf, hn, ho, hd⟩, hr⟩ := hl
    have hL : L ∈ X.fs := hs L (by unfold wM; rw [List.filterMap_cons, hf]; exact List.mem_cons_self)
    obtain ⟨sl, e⟩ := I.base.slot L o ho (I.ok.BQ L hL) hL fun z => I.ok.wy L z hL
    exact ⟨hk, ⟨L, _, hf, hn, e, hd⟩, ih (fun b hb => hs b (by unfold wM; rw [List.filterMap_cons, hf]; exact List.mem_cons_of_mem _ hb)) hr⟩
 exact all X.outer (fun _ hb => hb) I.ok.nY
theorem Inv.stack (I : Inv X pins σ H s) : s.heap.FunFrames X.base X.stack := by
 rcases I.ok.FJ with e | ⟨e, hf⟩
 . rw [e]; exact I.nY
 . rw [e]
   obtain ⟨m, hn, _⟩ := I.loc
   refine .cons (by rw [I.ok.kind]; decide) hf hn ?_ I.nY
   exact Heap.get?_none_of_le (Nat.le_trans I.ok.Af I.ok.above)
theorem Inv.wQ (I : Inv X pins σ H s) : ∀ b ∈ wM X.stack, b ∈ X.env.locals :: X.fs := fun b hb => by
 rcases I.ok.FJ with e | ⟨e, hf⟩
 . rw [e] at hb; exact List.mem_cons_of_mem _ hb
 . rw [e] at hb
   unfold wM at hb
   rw [List.filterMap_cons, hf] at hb
   exact hb
theorem Inv.yw (I : Inv X pins σ H s) : ∀ b ∈ wM X.stack, H b = none := fun b hb => by
 rcases List.mem_cons.mp (I.wQ b hb) with e | hb
 . rw [e]; exact I.free
 . obtain ⟨_, o, ho, _⟩ := I.ok.nY.mem hb
   exact I.base.free b o ho (I.ok.BQ b hb) fun z => I.ok.wy b z hb
theorem Inv.step {g' : Array GenState} {t' : Nat} {d' : Drawn} {ch : List Addr} (I : Inv X pins σ H s)
 (BO : ∀ b ∈ ch, (b ∈ X.ex \/ X.gL.heap.objs.size <= b) /\ b ≠ X.env.locals /\ (∀ x c, X.env.cells.lookup x = some c -> c ≠ b) /\ ∀ p ∈ X.pn ++ pins, p.1 ≠ b)
 (keep : ∀ b o, b ≠ X.env.locals -> b ∉ X.fs -> b ∉ ch -> s.heap.get? b = some o -> H b = none -> h'.get? b = some o)
 (slot : ∀ b o, b ≠ X.env.locals -> b ∈ X.fs -> b ∉ ch -> s.heap.get? b = some o -> H b = none -> ∃ sl, h'.get? b = some { o with slots := sl }) (free : ∀ b o, b ∉ ch -> s.heap.get? b = some o -> H b = none -> H' b = none)
 (there : ∀ b o, b ∉ ch -> s.heap.get? b = some o -> ∃ o', h'.get? b = some o')
 (tV : ∀ b xs, H b = some (.tup xs) -> H' b = some (.tup xs)) (sr : ∀ b o u, H b = some (.xh o u) -> H' b = some (.xh o u)) (uZ : ∀ b ps, H b = some (.GA ps) -> ∃ more, H' b = some (.GA (ps ++ more)))
 (ns : ∀ m, s.heap.Ns X.env.locals m -> h'.Ns X.env.locals m) (dP : rh X.prog X.w H' h') (hg : AllBare g') :
 Inv X pins σ H' { s with heap := h', gens := g', drawn := d', toks := t' } := by
 have LK : ∀ b o, X.gL.heap.get? b = some o -> b ≠ X.env.locals := fun b o e => Nat.ne_of_lt (Nat.lt_of_lt_of_le (Heap.lt_size e) I.ok.above)
 have Ju : ∀ b o, X.gL.heap.get? b = some o -> b ∉ X.ex -> b ∉ ch := fun b o e hx hb => by
  rcases (BO b hb).1 with z | z
  . exact hx z
  . exact absurd (Nat.lt_of_lt_of_le (Heap.lt_size e) z) (Nat.lt_irrefl _)
 have cellK : ∀ x c, X.env.cells.lookup x = some c -> ∀ v, s.heap.IsCell c v -> h'.IsCell c v := fun x c e v ⟨o, ho, hd⟩ => by
  have G7 : c ∉ ch := fun z => (BO c z).2.2.1 x c e rfl
  by_cases hc : c ∈ X.fs
  . obtain ⟨sl, q⟩ := slot c o (I.FP x c e) hc G7 ho (I.iu x c e)
    exact ⟨_, q, hd⟩
  . exact ⟨o, keep c o (I.FP x c e) hc G7 ho (I.iu x c e), hd⟩
 refine ⟨I.ok, I.os, hg, ⟨fun b o e n hb hx => ?_, fun b o e n hb hx => ?_, fun b o e n hx => ?_, fun b o e hx => ?_, fun b xs e => tV b xs (I.base.tV b xs e), fun b o xs e => sr b o xs (I.base.sr b o xs e), fun b ps e => ?_⟩, ?_, fun x c e => ?_, ?_, fun x c e => ?_, fun p hp => ?_, dP, I.len⟩
 . exact keep b o (LK b o e) hb (Ju b o e hx) (I.base.keep b o e n hb hx) (I.base.free b o e n hx)
 . obtain ⟨sl, e1⟩ := I.base.slot b o e n hb hx
   obtain ⟨L6, e2⟩ := slot b _ (LK b o e) hb (Ju b o e hx) e1 (I.base.free b o e n hx)
   exact ⟨L6, e2⟩
 . obtain ⟨o', e1⟩ := I.base.there b o e hx
   exact free b o' (Ju b o e hx) e1 (I.base.free b o e n hx)
 . obtain ⟨o', e1⟩ := I.base.there b o e hx
   exact there b o' (Ju b o e hx) e1
 . obtain ⟨m1, e1⟩ := I.base.uZ b ps e
   obtain ⟨m2, e2⟩ := uZ b _ e1
   exact ⟨m1 ++ m2, by rw [e2, Array.append_assoc]⟩
 . obtain ⟨m, hn, hl⟩ := I.loc
   refine ⟨m, ns m hn, fun i x v e1 e2 e3 => ?_⟩
   obtain ⟨u, r, l⟩ := hl i x v e1 e2 e3
   refine ⟨u, r, ?_⟩
   rcases l with l | ⟨k, c, e, z⟩
   . exact .inl l
   . exact .inr ⟨k, c, e, cellK x c e _ z⟩
 . obtain ⟨v, z⟩ := I.cell x c e
   exact ⟨v, cellK x c e v z⟩
 . obtain ⟨m, ⟨o, _, _, ho, _⟩, _⟩ := I.loc
   exact free _ o (fun z => (BO _ z).2.1 rfl) ho I.free
 . obtain ⟨v, o, ho, hd⟩ := I.cell x c e
   exact free c o (fun z => (BO c z).2.2.1 x c e rfl) ho (I.iu x c e)
 . obtain ⟨e, n, ne, nf, d⟩ := I.pin p hp
   have G7 : p.1 ∉ ch := fun z => (BO p.1 z).2.2.2 p hp rfl
   exact ⟨keep p.1 p.2 ne nf G7 e n, free p.1 p.2 G7 e n, ne, nf, d⟩
theorem Inv.un {t' : Nat} (I : Inv X pins σ H s) (u : Un X.fs [] H H' s.heap h') (dP : rh X.prog X.w H' h') : Inv X pins σ H' { s with heap := h', toks := t' } := by
 obtain ⟨m, ⟨o, es, ep, ho, r⟩, _⟩ := id I.loc
 obtain ⟨sl, hL⟩ := u.any ho I.free (by simp)
 exact I.step (g' := s.gens) (d' := s.drawn) (ch := []) (fun _ z => nomatch z) (fun b o _ hb _ e n => u.keep b o e n hb (by simp)) (fun b o _ hb _ e n => u.slot b o e n hb (by simp)) (fun b o _ e n => u.free b o e n (by simp)) (fun b o _ e => u.there b o e (by simp)) u.tV u.sr u.uZ (fun m' hm => by
  obtain ⟨o', J5, KR, zh, r'⟩ := hm
  rw [ho] at zh; cases zh
  exact ⟨_, J5, KR, hL, r'⟩) dP I.bare
theorem Inv.call {g' : Array GenState} {t' : Nat} {d' : Drawn} {ch : List Addr} (I : Inv X pins σ H s) (u : Un (wM X.stack) ch H H' s.heap h') (dP : rh X.prog X.w H' h') (hg : AllBare g')
 (BO : ∀ b ∈ ch, (b ∈ X.ex \/ X.gL.heap.objs.size <= b) /\ b ≠ X.env.locals /\ (∀ x c, X.env.cells.lookup x = some c -> c ≠ b) /\ ∀ p ∈ X.pn ++ pins, p.1 ≠ b) :
 Inv X pins σ H' { s with heap := h', gens := g', drawn := d', toks := t' } := by
 obtain ⟨m, ⟨o, es, ep, ho, r⟩, _⟩ := id I.loc
 obtain ⟨sl, hL⟩ := u.any ho I.free fun z => (BO _ z).2.1 rfl
 exact I.step (ch := ch) BO (fun b o hL hb hc e n => u.keep b o e n (fun z => (List.mem_cons.mp (I.wQ b z)).elim hL hb) hc) (fun b o _ _ hc e n => u.any e n hc) (fun b o hc e n => u.free b o e n hc) (fun b o hc e => u.there b o e hc) u.tV u.sr u.uZ (fun m' hm => by
  obtain ⟨o', J5, KR, zh, r'⟩ := hm
  rw [ho] at zh; cases zh
  exact ⟨_, J5, KR, hL, r'⟩) dP hg
theorem Inv.turned {t' : Nat} {it : Addr} (I : Inv X pins σ H s) (k : ∀ b o, b ≠ it -> s.heap.get? b = some o -> h'.get? b = some o) (hn : H it = none) (hL : it ≠ X.env.locals)
 (h1 : it ∈ X.ex \/ X.gL.heap.objs.size <= it) (h2 : ∀ x c, X.env.cells.lookup x = some c -> c ≠ it) (h3 : ∀ p ∈ X.pn ++ pins, p.1 ≠ it) : Inv X pins σ H { s with heap := h', toks := t' } := by
 have Ln : ∀ b u, H b = some u -> b ≠ it := fun b u e z => by rw [z, hn] at e; cases e
 refine I.step (g' := s.gens) (d' := s.drawn) (ch := [it]) (fun b hb => ?_) (fun b o _ _ hc e _ => k b o (fun z => hc (by simp [z])) e) (fun b o _ _ hc e _ => ⟨o.slots, k b o (fun z => hc (by simp [z])) e⟩) (fun _ _ _ _ n => n)
  (fun b o hc e => ⟨o, k b o (fun z => hc (by simp [z])) e⟩) (fun _ _ e => e) (fun _ _ _ e => e) (fun b ps e => ⟨#[], by rw [e]; simp⟩) (fun m hm => ?_) (fun b u e => ?_) I.bare
 . have e : b = it := by simpa using hb
   subst e
   exact ⟨h1, hL, h2, h3⟩
 . obtain ⟨o, es, ep, ho, r⟩ := hm
   exact ⟨o, es, ep, k _ o (Ne.symm hL) ho, r⟩
 . refine (I.dP b u e).zH (fun c v hc q => k c v ?_ q) (fun _ q => q) fun _ _ q => q
   rcases hc with z | z
   . rw [z]; exact Ln b u e
   . exact Ln c _ z
theorem Inv.tok (I : Inv X pins σ H s) (t : Nat) : Inv X pins σ H { s with toks := t } := I.un (h' := s.heap) (t' := t) Un.refl I.dP
theorem Inv.kept {t' : Nat} (I : Inv X pins σ H s) (k : ∀ b u, s.heap.get? b = some u -> h'.get? b = some u) : Inv X pins σ H { s with heap := h', toks := t' } := I.un (Un.kept k) (I.dP.kept k)
theorem Inv.laid {a : Addr} {o : HO} {t' : Nat} (I : Inv X pins σ H s) (k : ∀ b u, s.heap.get? b = some u -> h'.get? b = some u) (hp : s.heap.objs.size <= a) (new : fb X.prog X.w (upd H a o) h' a o) :
 Inv X pins σ (upd H a o) { s with heap := h', toks := t' } := I.un (Un.laid k hp (I.dP.fresh hp)) (I.dP.laid k hp new)
theorem Inv.write {x e : Addr} {o : HO} {t' : Nat} (I : Inv X pins σ H s) (mu : Jv (H x)) (he : e = x \/ H e = some (.own x)) (k : ∀ b u, b ≠ e -> s.heap.get? b = some u -> h'.get? b = some u) (GK : ∃ u, h'.get? e = some u)
 (new : fb X.prog X.w (upd H x o) h' x o) : Inv X pins σ (upd H x o) { s with heap := h', toks := t' } := I.un (Un.write mu he k GK) (I.dP.write mu he k GK new)
theorem Inv.weak {σ' : List (Option V)} (I : Inv X pins σ H s) (hl : σ'.length = σ.length) (w : ∀ (i : Nat) v, σ'[i]? = some (some v) -> σ[i]? = some (some v)) : Inv X pins σ' H s :=
 ⟨I.ok, I.os, I.bare, I.base, let ⟨m, hn, IL⟩ := I.loc; ⟨m, hn, fun i x v e1 e2 e3 => IL i x v e1 (w i v e2) e3⟩, I.cell, I.free, I.iu, I.pin, I.dP, hl.trans I.len⟩
theorem Inv.oZ {yz : List (Addr × Obj)} (I : Inv X pins σ H s) (h : ∀ p ∈ yz, s.heap.get? p.1 = some p.2 /\ H p.1 = none /\ p.1 ≠ X.env.locals /\ p.1 ∉ X.fs /\ ∀ v, p.2.data ≠ .cell v) : Inv X yz σ H s :=
 ⟨I.ok, I.os, I.bare, I.base, I.loc, I.cell, I.free, I.iu, fun p hp => (List.mem_append.mp hp).elim (fun z => I.pin p (List.mem_append_left _ z)) (h p), I.dP, I.len⟩
theorem wq {N : List Str} (hN : N.Nodup) {i j : Nat} {x : Str} (a : N[i]? = some x) (b : N[j]? = some x) : i = j := by
 obtain ⟨h1, e1⟩ := List.getElem?_eq_some_iff.mp a
 obtain ⟨h2, e2⟩ := List.getElem?_eq_some_iff.mp b
 exact (List.getElem_inj hN).mp (e1.trans e2.symm)
theorem zy {M : Model} {A : Around} {E : Value -> Shared -> Prop} {i : Nat} {x : Str} {v : V} {u : Value} {Q : Unit -> Shared -> Prop} (I : Inv X pins σ H s) (hN : X.N.Nodup) (hi : X.N[i]? = some x) (hx : Loc X.env.scope x) (r : RelV v u)
 (h : ∀ s', Inv X pins (σ.set i (some v)) H s' -> (∃ a, Heap.SameBut a s.heap s'.heap /\ (a = X.env.locals \/ X.env.cells.lookup x = some a)) -> Q () s') (hf : X.fn x = true \/ X.env.scope.names.lookup x = some .local := by first | exact .inl rfl | exact .inr rfl | assumption) : wpAny M A (storeName X.env x u) Q E s := by
 obtain ⟨m, hn, hl⟩ := id I.loc
 have J1 : (X.env.scope.kind == .class || (X.env.scope.kind == .module && X.env.locals != X.env.globals)) = false := by rw [I.ok.kind]; rfl
 have II : i < σ.length := by rw [I.len]; exact (List.getElem?_eq_some_iff.mp hi).1
 have FP := I.FP
 have tracked : ∀ {a : Addr} {h' : Heap}, (∃ o, s.heap.get? a = some o /\ H a = none) -> Heap.SameBut a s.heap h' -> rh X.prog X.w H h' := fun {a h'} ha hs b ob e => by
  obtain ⟨_, _, D4⟩ := ha
  refine (I.dP b ob e).zH (fun c w' hc q => (hs.2 c ?_).trans q) (fun _ q => q) fun _ _ q => q
  rintro rfl
  rcases hc with rfl | hc
  . rw [D4] at e; cases e
  . rw [D4] at hc; cases hc
 rcases hx with hk | hk
 . refine wpAny_storeName_local hk hn (fun h' L4 hs => ?_) J1
   obtain ⟨oL, _, _, ME, _⟩ := id hn
   refine h _ ⟨I.ok, I.os, I.bare, ⟨fun b o e n hb hx => ?_, fun b o e n hb hx => ?_, I.base.free, fun b o e hx => ?_, I.base.tV, I.base.sr, I.base.uZ⟩, ⟨_, L4, fun j y v' e1 e2 e3 => ?_⟩, fun y c e => ?_, I.free, I.iu, fun p hp => ?_, tracked ⟨oL, ME, I.free⟩ hs, by simpa using I.len⟩ ⟨_, hs, .inl rfl⟩
   . exact (hs.2 b (Nat.ne_of_lt (Nat.lt_of_lt_of_le (Heap.lt_size e) I.ok.above))).trans (I.base.keep b o e n hb hx)
   . obtain ⟨sl, e1⟩ := I.base.slot b o e n hb hx
     exact ⟨sl, (hs.2 b (Nat.ne_of_lt (Nat.lt_of_lt_of_le (Heap.lt_size e) I.ok.above))).trans e1⟩
   . obtain ⟨o', e1⟩ := I.base.there b o e hx
     exact ⟨o', (hs.2 b (Nat.ne_of_lt (Nat.lt_of_lt_of_le (Heap.lt_size e) I.ok.above))).trans e1⟩
   . by_cases hj : j = i
     . subst hj
       rw [hi] at e1; cases e1
       rw [List.getElem?_set_self II] at e2
       cases e2
       exact ⟨u, r, .inl ⟨hk, by simp⟩⟩
     . rw [List.getElem?_set_ne (Ne.symm hj)] at e2
       obtain ⟨u', r', q⟩ := hl j y v' e1 e2 e3
       refine ⟨u', r', ?_⟩
       rcases q with ⟨k, e⟩ | ⟨k, c, e, z⟩
       . refine .inl ⟨k, ?_⟩
         have : y ≠ x := fun e => hj (wq hN e1 (e ▸ hi))
         simp [this, e]
       . exact .inr ⟨k, c, e, z.sameBut hs (FP y c e)⟩
   . obtain ⟨w', z⟩ := I.cell y c e
     exact ⟨w', z.sameBut hs (FP y c e)⟩
   . obtain ⟨e, n, ne, nf, d⟩ := I.pin p hp
     exact ⟨(hs.2 p.1 ne).trans e, n, ne, nf, d⟩
 . have KJ : X.fn x = true := by
    rcases hf with z | z
    . exact z
    . rw [z] at hk; cases hk
   obtain ⟨c, hc⟩ := I.ok.has x (.inl hk)
   obtain ⟨w', z⟩ := I.cell x c hc
   refine wpAny_storeName_cell I.ok.kind hk hc z (fun h' Hz hs => ?_)
   obtain ⟨oc, K9, Kr⟩ := id z
   refine h { s with heap := h' } ⟨I.ok, I.os, I.bare, ⟨fun b o e n hb hx => ?_, fun b o e n hb hx => ?_, I.base.free, fun b o e hx => ?_, I.base.tV, I.base.sr, I.base.uZ⟩, ⟨m, hn.sameBut hs (Ne.symm (FP x c hc)), fun j y v' e1 e2 e3 => ?_⟩, fun y c' e => ?_, I.free, I.iu, fun p hp => ?_, tracked ⟨oc, K9, I.iu x c hc⟩ hs, by simpa using I.len⟩ ⟨c, hs, .inr hc⟩
   . exact (hs.2 b (Nat.ne_of_lt (Nat.lt_of_lt_of_le (Heap.lt_size e) (I.ok.Ec x c KJ hc)))).trans (I.base.keep b o e n hb hx)
   . obtain ⟨sl, e1⟩ := I.base.slot b o e n hb hx
     exact ⟨sl, (hs.2 b (Nat.ne_of_lt (Nat.lt_of_lt_of_le (Heap.lt_size e) (I.ok.Ec x c KJ hc)))).trans e1⟩
   . obtain ⟨o', e1⟩ := I.base.there b o e hx
     exact ⟨o', (hs.2 b (Nat.ne_of_lt (Nat.lt_of_lt_of_le (Heap.lt_size e) (I.ok.Ec x c KJ hc)))).trans e1⟩
   . by_cases hj : j = i
     . subst hj
       rw [hi] at e1; cases e1
       rw [List.getElem?_set_self II] at e2
       cases e2
       exact ⟨u, r, .inr ⟨.inl hk, c, hc, Hz⟩⟩
     . rw [List.getElem?_set_ne (Ne.symm hj)] at e2
       obtain ⟨u', r', q⟩ := hl j y v' e1 e2 e3
       refine ⟨u', r', ?_⟩
       rcases q with q | ⟨k, c', e, z'⟩
       . exact .inl q
       . refine .inr ⟨k, c', e, z'.sameBut hs ?_⟩
         rintro rfl
         exact hj (wq hN e1 (I.ok.inj _ _ _ e hc ▸ hi))
   . by_cases Jm : c' = c
     . subst Jm; exact ⟨_, Hz⟩
     . obtain ⟨w2, z2⟩ := I.cell y c' e
       exact ⟨w2, z2.sameBut hs Jm⟩
   . obtain ⟨e, n, ne, nf, d⟩ := I.pin p hp
     refine ⟨(hs.2 p.1 ?_).trans e, n, ne, nf, d⟩
     intro q
     rw [q, K9] at e
     have q' : oc = p.2 := Option.some.inj e
     exact d w' (by rw [<- q']; exact Kr)
theorem vJ {M : Model} {A : Around} {E : Value -> Shared -> Prop} {i : Nat} {x : Str} {v : V} {u : Value} {Q : Unit -> Shared -> Prop} (I : Inv X pins σ H s) (hN : X.N.Nodup) (hi : X.N[i]? = some x) (hx : Loc X.env.scope x) (r : RelV v u)
 (h : ∀ s', Inv X pins (σ.set i (some v)) H s' -> Q () s') (hf : X.fn x = true \/ X.env.scope.names.lookup x = some .local := by first | exact .inl rfl | exact .inr rfl | assumption) : wpAny M A (storeName X.env x u) Q E s :=
 zy I hN hi hx r (fun s' I' _ => h s' I') hf
theorem Inv.IM {s' : Shared} {ch : List Addr} (I : Inv X pins σ H s) (ho : s'.os = s.os) (u : Un (wM X.stack) ch H H' s.heap s'.heap) (dP : rh X.prog X.w H' s'.heap) (hg : AllBare s'.gens)
 (BO : ∀ b ∈ ch, (b ∈ X.ex \/ X.gL.heap.objs.size <= b) /\ b ≠ X.env.locals /\ (∀ x c, X.env.cells.lookup x = some c -> c ≠ b) /\ ∀ p ∈ X.pn ++ pins, p.1 ≠ b) : Inv X pins σ H' s' := by
 obtain ⟨h', g', d', t', o'⟩ := s'
 have e : o' = s.os := ho
 subst e
 exact I.call (g' := g') (t' := t') (d' := d') u dP hg BO
end
abbrev XK := Value -> Option Addr -> Hp -> Prop
abbrev St := List (Option V)
abbrev VK := V -> Hp -> Prop
abbrev TE := St -> Hp -> VK -> Prop
abbrev TT := St -> Hp -> (Bool -> Hp -> Prop) -> Prop
abbrev TA := St -> Hp -> (List V -> Hp -> Prop) -> Prop
structure Ends where
 nx : St -> Hp -> Prop
 rt : VK
 bk : St -> Hp -> Prop := fun _ _ => False
 ct : St -> Hp -> Prop := fun _ _ => False
abbrev TS := Ends -> St -> Hp -> Prop
def EP (X : Cx) (pins : List (Addr × Obj)) (σ : St) (Q : VK) (u : Value) (s' : Shared) : Prop := ∃ v H', Inv X pins σ H' s' /\ RelV v u /\ Q v H'
def TP (X : Cx) (pins : List (Addr × Obj)) (σ : St) (Q : Bool -> Hp -> Prop) (b : Bool) (s' : Shared) : Prop := ∃ H', Inv X pins σ H' s' /\ Q b H'
def AP (X : Cx) (pins : List (Addr × Obj)) (σ : St) (Q : List V -> Hp -> Prop) (us : List Value) (s' : Shared) : Prop := ∃ vs H', Inv X pins σ H' s' /\ Vals vs us /\ Q vs H'
def SP (X : Cx) (pins : List (Addr × Obj)) (D : Ends) (f : Flow) (s' : Shared) : Prop :=
 match f with
 | .next => ∃ σ' H', Inv X pins σ' H' s' /\ D.nx σ' H'
 | .brk => ∃ σ' H', Inv X pins σ' H' s' /\ D.bk σ' H'
 | .cont => ∃ σ' H', Inv X pins σ' H' s' /\ D.ct σ' H'
 | .ret u => ∃ v σ' H', Inv X pins σ' H' s' /\ RelV v u /\ D.rt v H'
def PE (X : Cx) (e : Expr) (t : TE) : Prop :=
 ∀ (pins : List (Addr × Obj)) (s : Shared) (σ : St) (H : Hp) (Q : VK), Inv X pins σ H s -> t σ H Q -> wpAny (model X.prog X.w) X.A (eval e X.env) (EP X pins σ Q) X.xe s
def PT (X : Cx) (e : Expr) (t : TT) : Prop :=
 ∀ (pins : List (Addr × Obj)) (s : Shared) (σ : St) (H : Hp) (Q : Bool -> Hp -> Prop), Inv X pins σ H s -> t σ H Q -> wpAny (model X.prog X.w) X.A (isTrue e X.env (eval e X.env)) (TP X pins σ Q) X.xe s
def PW (X : Cx) (e : Expr) (t : TT) : Prop :=
 ∀ (whole : Sem Value) (pins : List (Addr × Obj)) (s : Shared) (σ : St) (H : Hp) (Q : Bool -> Hp -> Prop), Inv X pins σ H s -> t σ H Q -> wpAny (model X.prog X.w) X.A (isTrue e X.env whole) (TP X pins σ Q) X.xe s
theorem PW.pt {X : Cx} {e : Expr} {t : TT} (h : PW X e t) : PT X e t := h _
def PA (X : Cx) (es : List Expr) (t : TA) : Prop :=
 ∀ (pos : Pos) (pins : List (Addr × Obj)) (s : Shared) (σ : St) (H : Hp) (Q : List V -> Hp -> Prop), Inv X pins σ H s -> t σ H Q -> wpAny (model X.prog X.w) X.A (spliced (backTo pos (starEach es X.env))) (AP X pins σ Q) X.xe s
def PS (X : Cx) (st : Stmt) (t : TS) : Prop :=
 ∀ (pins : List (Addr × Obj)) (s : Shared) (σ : St) (H : Hp) (D : Ends), Inv X pins σ H s -> t D σ H -> wpAny (model X.prog X.w) X.A (exec st X.env) (SP X pins D) X.xe s
def wN (X : Cx) (st : List Stmt) (t : TS) : Prop :=
 ∀ (pins : List (Addr × Obj)) (s : Shared) (σ : St) (H : Hp) (D : Ends), Inv X pins σ H s -> t D σ H -> wpAny (model X.prog X.w) X.A (execs st X.env) (SP X pins D) X.xe s
theorem df {α : Type} {t : Sem α} {Q Q' : α -> Shared -> Prop} {M : Model} {A : Around} {E : Value -> Shared -> Prop} {s : Shared} (h : wpAny M A t Q E s) (hQ : ∀ a s, Q a s -> Q' a s) : wpAny M A t Q' E s := wpAny_mono h hQ fun _ _ x => x
section
variable {X : Cx}
def Fl (i : Nat) : TE := fun σ H Q => ∃ v, σ[i]? = some (some v) /\ Q v H
def tC (v : V) : TE := fun _ H Q => Q v H
theorem Gu {i : Nat} {x : Str} {pos : Pos} (hN : X.N[i]? = some x) (hv : GY X.env.scope x) (hd : (x == ("__debug__" : Str)) = false := by decide) (Ac : (x == ("__classdict__" : Str)) = false := by decide) : PE X (.Name x pos) (Fl i) := by
 intro pins s σ H Q I h
 obtain ⟨v, e, h⟩ := h
 obtain ⟨m, hn, hl⟩ := I.loc
 obtain ⟨u, r, l⟩ := hl i x v hN e hv
 have fin : EP X pins σ Q u s := ⟨v, H, I, r, h⟩
 rcases l with ⟨hk, hm⟩ | ⟨hk, c, hc, ub⟩
 . exact wpAny_Name (wpAny_loadName_local I.ok.kind hk hn hm fin) hd
 . rcases hk with hk | hk
   . exact wpAny_Name (wpAny_loadName_cell I.ok.kind hk hc ub fin) hd
   . exact wpAny_Name (wpAny_loadName_free I.ok.kind hk hc ub fin Ac) hd
theorem ai {i j pos} : PE X (.Constant (.int i) j pos) (tC (.int i)) := fun _ _ _ H _ I h => wpAny_Constant_int ⟨.int i, H, I.tok _, ⟨_, rfl⟩, h⟩
theorem t8 {b j pos} : PE X (.Constant (.bool b) j pos) (tC (.bl b)) := fun _ _ _ H _ I h => Constant_bool ⟨.bl b, H, I, rfl, h⟩
theorem iS {j pos} : PE X (.Constant .none j pos) (tC .cf) := fun _ _ _ H _ I h => Constant_none ⟨.cf, H, I, rfl, h⟩
theorem aP {x j pos} : PE X (.Constant (.str x) j pos) (tC (.str x)) := fun _ _ _ H _ I h => Calls.Constant_str ⟨.str x, H, I.tok _, ⟨_, rfl⟩, h⟩
def Gl (X : Cx) (x : Str) : Prop := X.env.kindOf x = some .globalImplicit
theorem rN {E : Value -> Shared -> Prop} {pins : List (Addr × Obj)} {s : Shared} {σ : St} {H : Hp} {x : Str} {u : Value} {pos : Pos} {Q : Value -> Shared -> Prop} (I : Inv X pins σ H s) (hg : Gl X x) (hm : X.mg x = some u) (h : Q u s)
 (hd : (x == ("__debug__" : Str)) = false := by decide) : wpAny (model X.prog X.w) X.A (eval (.Name x pos) X.env) Q E s :=
 Calls.Name_function_global I.ok.kind hg (Calls.loadGlobal_global (by rw [I.ok.glob]; exact I.mod.glob.keeps I.bk) hm h) hd
theorem vj {E : Value -> Shared -> Prop} {pins : List (Addr × Obj)} {s : Shared} {σ : St} {H : Hp} {x : Str} {u : Value} {pos : Pos} {Q : Value -> Shared -> Prop} (I : Inv X pins σ H s) (hg : Gl X x) (hm : X.mg x = none) (hv : bootBuiltins x = some u) (h : Q u s)
 (hn : x ≠ "__name__" := by decide) (hd : (x == ("__debug__" : Str)) = false := by decide) : wpAny (model X.prog X.w) X.A (eval (.Name x pos) X.env) Q E s := by
 obtain ⟨mb, h1, h2⟩ := I.mod.blt
 exact Calls.Name_function_global I.ok.kind hg (Calls.loadGlobal_builtin (by rw [I.ok.glob]; exact I.mod.glob.keeps I.bk) hm (by rw [I.ok.blt]; exact h1.keeps I.bk) ((h2 x hn).trans hv) h) hd
theorem ip {x : Str} {v : V} {u : Value} {pos : Pos} (hg : Gl X x) (hm : X.mg x = some u) (r : RelV v u) (hd : (x == ("__debug__" : Str)) = false := by decide) : PE X (.Name x pos) (tC v) :=
 fun _ _ _ H _ I h => rN I hg hm ⟨v, H, I, r, h⟩ hd
theorem rM {x : Str} {v : V} {u : Value} {pos : Pos} (hg : Gl X x) (hm : X.mg x = none) (hv : bootBuiltins x = some u) (r : RelV v u) (hn : x ≠ "__name__" := by decide) (hd : (x == ("__debug__" : Str)) = false := by decide) : PE X (.Name x pos) (tC v) :=
 fun _ _ _ H _ I h => vj I hg hm hv ⟨v, H, I, r, h⟩ hn hd
variable {a b : Expr} {ta tb : TE} {pos : Pos}
def PC (X : Cx) (op : CmpOp) (a b : Expr) (t : TE) : Prop :=
 ∀ (pins : List (Addr × Obj)) (s : Shared) (σ : St) (H : Hp) (Q : VK), Inv X pins σ H s -> t σ H Q ->
   wpAny (model X.prog X.w) X.A (eval a X.env) (fun v s₁ => wpAny (model X.prog X.w) X.A (eval b X.env) (fun u s₂ => wpAny (model X.prog X.w) X.A (compareOp op v u) (EP X pins σ Q) X.xe s₂) X.xe s₁) X.xe s
theorem Gr {op : CmpOp} {t : TE} (h : PC X op a b t) (h1 : behindInMarks op b = false := by first | exact HF _ (by decide) (by decide) | rfl) : PE X (.Compare a [op] [b] pos) t := fun pins s σ H Q I hw => wpAny_Compare1 (h pins s σ H Q I hw) h1
variable {tA Jo : TT} {rest : List Expr}
def He (t u : TT) : TT := fun σ H Q => t σ H fun c H1 => if c = true then u σ H1 Q else Q false H1
def LJ (t u : TT) : TT := fun σ H Q => t σ H fun c H1 => if c = true then Q true H1 else u σ H1 Q
def HU (t : TT) : TT := fun σ H Q => t σ H fun c H1 => Q (!c) H1
theorem vt (ha : PT X a tA) : PW X (.BoolOp .And [a] pos) tA := by
 intro wh pins s σ H Q I h
 refine isTrue_and (df (ha pins s σ H Q I h) fun c s1 e => ?_)
 cases c with
 | true => exact isTrue_and_nil e
 | false => exact e
theorem uU (ha : PT X a tA) : PW X (.BoolOp .Or [a] pos) tA := by
 intro wh pins s σ H Q I h
 refine isTrue_or (df (ha pins s σ H Q I h) fun c s1 e => ?_)
 cases c with
 | false => exact isTrue_or_nil e
 | true => exact e
theorem xJ (ha : PT X a tA) (hb : PW X (.BoolOp .And (b :: rest) pos) Jo) : PW X (.BoolOp .And (a :: b :: rest) pos) (He tA Jo) := by
 intro wh pins s σ H Q I h
 refine isTrue_and (df (ha pins s σ H _ I h) fun c s1 ⟨H1, I1, q1⟩ => ?_)
 cases c with
 | true => exact hb wh pins s1 σ H1 Q I1 q1
 | false => exact ⟨H1, I1, q1⟩
theorem yG (ha : PT X a tA) (hb : PW X (.BoolOp .Or (b :: rest) pos) Jo) : PW X (.BoolOp .Or (a :: b :: rest) pos) (LJ tA Jo) := by
 intro wh pins s σ H Q I h
 refine isTrue_or (df (ha pins s σ H _ I h) fun c s1 ⟨H1, I1, q1⟩ => ?_)
 cases c with
 | true => exact ⟨H1, I1, q1⟩
 | false => exact hb wh pins s1 σ H1 Q I1 q1
theorem rT (ha : PT X a tA) : PT X (.UnaryOp .Not a pos) (HU tA) := by
 intro pins s σ H Q I h
 exact isTrue_not (ha pins s σ H (fun c H1 => Q (!c) H1) I h)
def DU (ta tb : TE) : TE := fun σ H Q => ta σ H fun x H1 => ∃ c, x = .bl c /\ if c = true then tb σ H1 Q else Q (.bl false) H1
def IX (ta tb : TE) : TE := fun σ H Q => ta σ H fun x H1 => ∃ c, x = .bl c /\ if c = true then Q (.bl true) H1 else tb σ H1 Q
def Ee (ta : TE) : TE := fun σ H Q => ta σ H fun x H1 => ∃ c, x = .bl c /\ Q (.bl (!c)) H1
theorem vb {op} {t : TE} (h : PE X a t) : PE X (.BoolOp op [a] pos) t := fun pins s σ H Q I hw => BoolOp_one (h pins s σ H Q I hw)
theorem ye (ha : PE X a ta) (hb : PE X (.BoolOp .And (b :: rest) pos) tb) : PE X (.BoolOp .And (a :: b :: rest) pos) (DU ta tb) := by
 intro pins s σ H Q I h
 refine BoolOp_and (df (ha pins s σ H _ I h) fun v s1 ⟨x, H1, I1, r1, q1⟩ => ?_)
 obtain ⟨c, rfl, q1⟩ := q1
 cases r1
 refine wpAny_truthy_bool ?_
 cases c with
 | true => exact hb pins s1 σ H1 Q I1 q1
 | false => exact ⟨.bl false, H1, I1, rfl, q1⟩
theorem HN (ha : PE X a ta) (hb : PE X (.BoolOp .Or (b :: rest) pos) tb) : PE X (.BoolOp .Or (a :: b :: rest) pos) (IX ta tb) := by
 intro pins s σ H Q I h
 refine BoolOp_or (df (ha pins s σ H _ I h) fun v s1 ⟨x, H1, I1, r1, q1⟩ => ?_)
 obtain ⟨c, rfl, q1⟩ := q1
 cases r1
 refine wpAny_truthy_bool ?_
 cases c with
 | false => exact hb pins s1 σ H1 Q I1 q1
 | true => exact ⟨.bl true, H1, I1, rfl, q1⟩
theorem FV (ha : PE X a ta) : PE X (.UnaryOp .Not a pos) (Ee ta) := by
 intro pins s σ H Q I h
 refine UnaryOp_ (df (ha pins s σ H _ I h) fun v s1 ⟨x, H1, I1, r1, q1⟩ => ?_)
 obtain ⟨c, rfl, q1⟩ := q1
 cases r1
 exact not_of (wpAny_truthy_bool ⟨.bl (!c), H1, I1, rfl, q1⟩)
def LI (t : TT) (ta tb : TE) : TE := fun σ H Q => t σ H fun c H1 => if c = true then ta σ H1 Q else tb σ H1 Q
theorem oK {c : Expr} (hc : PT X c tA) (ha : PE X a ta) (hb : PE X b tb) : PE X (.IfExp c a b pos) (LI tA ta tb) := by
 intro pins s σ H Q I h
 refine wpAny_IfExp (df (hc pins s σ H _ I h) fun d s1 ⟨H1, I1, q1⟩ => ?_)
 cases d with
 | true => exact ha pins s1 σ H1 Q I1 q1
 | false => exact hb pins s1 σ H1 Q I1 q1
end
def i6 (K : PySem.W.Frag) (H : Hp) (a : Addr) (xs : List V) : Prop :=
 Rd H a (.lst xs) \/
  ∃ (o : Obj) (b5 : Array Value) (n : Nat), K.lookup a = some o /\ o.cls = .type "list" /\ o.dict = none /\ o.data = .seq b5 n /\ b5.size <= sizeLine /\ Vals xs b5.toList
def y9 (K : PySem.W.Frag) (H : Hp) (a : Addr) (xs : List V) : Prop :=
 Rd H a (.tup xs) \/
  ∃ (o : Obj) (b5 : Array Value) (n : Nat), K.lookup a = some o /\ o.cls = .type "tuple" /\ o.data = .seq b5 n /\ b5.size <= sizeLine /\ Vals xs b5.toList
def Ko : Value -> Option V
 | .none => some .cf
 | .bool b => some (.bl b)
 | .int i _ => some (.int i)
 | .str x _ => some (.str x)
 | .bytes b _ => some (.yD b)
 | .float b _ => some (.EA b)
 | .ref a => some (.ref a)
 | .type n => some (.ty n)
 | _ => none
theorem RelV.abs {x : V} {u : Value} (r : RelV x u) : Ko u = some x := by
 cases x with
 | cf => cases r; rfl
 | bl _ => cases r; rfl
 | int _ => obtain ⟨t, rfl⟩ := r; rfl
 | str _ => obtain ⟨t, rfl⟩ := r; rfl
 | yD _ => obtain ⟨t, rfl⟩ := r; rfl
 | EA _ => obtain ⟨t, rfl⟩ := r; rfl
 | ref _ => cases r; rfl
 | ty _ => cases r; rfl
theorem RelV.inj {x y : V} {u : Value} (r : RelV x u) (q : RelV y u) : x = y := Option.some.inj (r.abs.symm.trans q.abs)
theorem Vals.inj : ∀ {xs ys : List V} {us : List Value}, Vals xs us -> Vals ys us -> xs = ys
 | _, _, _, .nil, .nil => rfl
 | _, _, _, .cons r t, .cons r' t' => by rw [r.inj r', Vals.inj t t']
section
variable {X : Cx} {pins : List (Addr × Obj)} {σ : St} {H : Hp} {s : Shared} {a : Addr} {xs ys : List V}
theorem i6.of {K : PySem.W.Frag} (h : H a = some (.lst xs)) : i6 K H a xs := .inl (.inl h)
theorem y9.of {K : PySem.W.Frag} (h : H a = some (.tup xs)) : y9 K H a xs := .inl (.inl h)
theorem Inv.list (I : Inv X pins σ H s) (h : i6 X.K H a xs) : ∃ b5 : List Value, Vals xs b5 /\ PlainL s.heap a b5.toArray /\ xs.length <= sizeLine := by
 rcases h with h | ⟨o, b5, n, hk, hc, hd, hs, hz, r⟩
 . obtain ⟨z, b5, n, r, e⟩ := h.ok I.dP
   exact ⟨b5, r, ⟨_, n, e, rfl, rfl, rfl⟩, z⟩
 . refine ⟨b5.toList, r, ⟨o, n, I.pY a o hk, hc, hd, by simpa using hs⟩, ?_⟩
   have e := r.length
   simp only [Array.length_toList] at e
   omega
theorem Inv.tuple (I : Inv X pins σ H s) (h : y9 X.K H a xs) : ∃ b5 : List Value, Vals xs b5 /\ IsTup s.heap a b5.toArray /\ xs.length <= sizeLine := by
 rcases h with h | ⟨o, b5, n, hk, hc, hs, hz, r⟩
 . obtain ⟨z, b5, r, p⟩ := h.ok I.dP
   exact ⟨b5, r, p, z⟩
 . refine ⟨b5.toList, r, ⟨o, I.pY a o hk, hc, n, by simpa using hs⟩, ?_⟩
   have e := r.length
   simp only [Array.length_toList] at e
   omega
theorem Inv.AA (I : Inv X pins σ H s) (h : i6 X.K H a xs) (h' : i6 X.K H a ys) : xs = ys := by
 obtain ⟨b5, r, ⟨o, n, e, _, _, d⟩, _⟩ := I.list h
 obtain ⟨its', r', ⟨o', n', e', _, _, d'⟩, _⟩ := I.list h'
 rw [e] at e'; cases e'
 rw [d] at d'
 injection d' with d1 _
 have : b5 = its' := by simpa using congrArg Array.toList d1
 subst this
 exact r.inj r'
end
abbrev Cx.tK (X : Cx) (E : Value -> Shared -> Prop) : Cx := { X with xe := E }
abbrev Cx.Jt (X : Cx) : Cx := X.tK fun _ _ => False
theorem Cx.Ok.tK {X : Cx} (ok : X.Ok) (E : Value -> Shared -> Prop) : (X.tK E).Ok :=
 ⟨ok.mod, ok.kind, ok.glob, ok.blt, ok.above, ok.inj, ok.has, ok.Ec, ok.hd, ok.frames, ok.FJ, ok.FZ, ok.bs, ok.Af, ok.vI, ok.wy, ok.nY, ok.BQ⟩
theorem Cx.Ok.lr {X : Cx} {E : Value -> Shared -> Prop} (ok : (X.tK E).Ok) : X.Ok :=
 ⟨ok.mod, ok.kind, ok.glob, ok.blt, ok.above, ok.inj, ok.has, ok.Ec, ok.hd, ok.frames, ok.FJ, ok.FZ, ok.bs, ok.Af, ok.vI, ok.wy, ok.nY, ok.BQ⟩
section
variable {X : Cx} {pins : List (Addr × Obj)} {σ : St} {H : Hp} {s : Shared} {E : Value -> Shared -> Prop}
theorem Inv.tK (I : Inv X pins σ H s) (E : Value -> Shared -> Prop) : Inv (X.tK E) pins σ H s := ⟨I.ok.tK E, I.os, I.bare, I.base, I.loc, I.cell, I.free, I.iu, I.pin, I.dP, I.len⟩
theorem Inv.lr (I : Inv (X.tK E) pins σ H s) : Inv X pins σ H s := ⟨I.ok.lr, I.os, I.bare, I.base, I.loc, I.cell, I.free, I.iu, I.pin, I.dP, I.len⟩
theorem SP.lr {D : Ends} {f : Flow} {s' : Shared} (h : SP (X.tK E) pins D f s') : SP X pins D f s' := by
 cases f with
 | next => obtain ⟨σ', H', I, q⟩ := h; exact ⟨σ', H', I.lr, q⟩
 | brk => obtain ⟨σ', H', I, q⟩ := h; exact ⟨σ', H', I.lr, q⟩
 | cont => obtain ⟨σ', H', I, q⟩ := h; exact ⟨σ', H', I.lr, q⟩
 | ret u => obtain ⟨v, σ', H', I, r, q⟩ := h; exact ⟨v, σ', H', I.lr, r, q⟩
theorem wN.Jt {st : List Stmt} {t : TS} (h : wN X.Jt st t) : wN X st t := fun pins s σ H D I hw =>
 wpAny_mono (h pins s σ H D (I.tK _) hw) (fun _ _ q => q.lr) fun _ _ z => False.elim z
end
section
variable {X : Cx} {st : Stmt} {rest : List Stmt} {t u : TS} {e : Expr} {te : TE} {pos : Pos}
def El : TS := fun D σ H => D.nx σ H
theorem aW : wN X [] El := fun _ _ σ H _ I h => wpAny_execs_nil ⟨σ, H, I, h⟩
theorem ak (h1 : PS X st t) : wN X [st] t := by
 intro pins s σ H D I h
 refine wpAny_execs_cons (df (h1 pins s σ H D I h) fun f s1 q => ?_)
 cases f with
 | next => exact wpAny_execs_nil q
 | ret v => exact q
 | brk => exact q
 | cont => exact q
theorem Inv.quiet {pins : List (Addr × Obj)} {σ : St} {H : Hp} {s : Shared} (I : Inv X pins σ H s) : interactive X.env = false := by simp [interactive, I.ok.kind]
def DR (te : TE) : TS := fun D σ H => te σ H fun _ H1 => D.nx σ H1
theorem bV (he : PE X e te) (hs : swapsWith e none pos.line X.env = pure false := by rfl) : PS X (.Expr e pos) (DR te) := by
 intro pins s σ H D I h
 exact wpAny_Expr_any (df (he pins s σ H _ I h) fun v s1 ⟨x, H1, I1, r1, q1⟩ => ⟨σ, H1, I1, q1⟩) I.quiet hs
def I9 (te : TE) : TS := fun D σ H => te σ H D.rt
theorem aF (he : PE X e te) : PS X (.Return (some e) pos) (I9 te) := by
 intro pins s σ H D I h
 exact wpAny_Return_some (df (he pins s σ H _ I h) fun v s1 ⟨x, H1, I1, r1, q1⟩ => ⟨x, σ, H1, I1, r1, q1⟩)
def Ht (c : TT) (t u : TS) : TS := fun D σ H => c σ H fun b H1 => if b = true then t D σ H1 else u D σ H1
theorem cK {c : Expr} {a b : List Stmt} {tc : TT} (hc : PT X c tc) (ha : wN X a t) (hb : wN X b u) : PS X (.If c a b pos) (Ht tc t u) := by
 intro pins s σ H D I h
 refine wpAny_If (df (hc pins s σ H _ I h) fun d s1 ⟨H1, I1, q1⟩ => ?_)
 cases d with
 | true => exact ha pins s1 σ H1 D I1 q1
 | false => exact hb pins s1 σ H1 D I1 q1
def Et : TS := fun _ _ _ => False
theorem lu : PS X st Et := fun _ _ _ _ _ _ h => h.elim
end
abbrev TG := V -> St -> Hp -> (St -> Hp -> Prop) -> Prop
abbrev Fn := List V -> St -> Hp -> (St -> Hp -> Prop) -> Prop
def PG (X : Cx) (target : Expr) (t : TG) : Prop :=
 ∀ (pins : List (Addr × Obj)) (s : Shared) (σ : St) (H : Hp) (v : V) (u : Value) (Q : St -> Hp -> Prop), Inv X pins σ H s -> RelV v u -> t v σ H Q ->
   wpAny (model X.prog X.w) X.A (assign target X.env u) (fun _ s' => ∃ σ' H', Inv X pins σ' H' s' /\ Q σ' H') X.xe s
def Je (X : Cx) (ts : List Expr) (t : Fn) : Prop :=
 ∀ (pins : List (Addr × Obj)) (s : Shared) (σ : St) (H : Hp) (vs : List V) (us : List Value) (Q : St -> Hp -> Prop), Inv X pins σ H s -> Vals vs us -> t vs σ H Q ->
   wpAny (model X.prog X.w) X.A (assignInOrder ((assignEach ts X.env).map (·.2)) us) (fun _ s' => ∃ σ' H', Inv X pins σ' H' s' /\ Q σ' H') X.xe s
section
variable {X : Cx} {pos : Pos}
def kA (i : Nat) : TG := fun v σ H Q => Q (σ.set i (some v)) H
theorem jM {i : Nat} {x : Str} (hN : X.N.Nodup) (hi : X.N[i]? = some x) (hx : Loc X.env.scope x) (hf : X.fn x = true \/ X.env.scope.names.lookup x = some .local := by first | exact .inl rfl | exact .inr rfl | assumption) : PG X (.Name x pos) (kA i) := by
 intro pins s σ H v u Q I r h
 exact wpAny_assign_Name (vJ I hN hi hx r (fun s' I' => ⟨_, H, I', h⟩) hf)
def B1 : Fn := fun vs σ H Q => vs = [] /\ Q σ H
def sZ (t : TG) (u : Fn) : Fn := fun vs σ H Q => ∃ v r, vs = v :: r /\ t v σ H fun σ' H' => u r σ' H' Q
theorem DH : Je X [] B1 := by
 intro pins s σ H vs us Q I r h
 obtain ⟨e, h⟩ := h
 subst e
 cases r
 exact assignInOrder_nil ⟨σ, H, I, h⟩
theorem vX {e : Expr} {es : List Expr} {t : TG} {u : Fn} (h1 : PG X e t) (h2 : Je X es u)
 (hs : (assignEach (e :: es) X.env).map (·.2) = assign e X.env :: (assignEach es X.env).map (·.2) := by rfl) : Je X (e :: es) (sZ t u) := by
 intro pins s σ H vs us Q I r h
 obtain ⟨v, vr, e1, h⟩ := h
 subst e1
 cases r with
 | cons r rr =>
   rw [hs]
   refine assignInOrder_cons (df (h1 pins s σ H _ _ _ I r h) fun _ s1 ⟨σ1, H1, I1, q1⟩ => ?_)
   exact h2 pins s1 σ1 H1 _ _ Q I1 rr q1
def CN (K : PySem.W.Frag) (n : Nat) (t : Fn) : TG := fun v σ H Q => ∃ a xs, v = .ref a /\ y9 K H a xs /\ xs.length = n /\ t xs σ H Q
theorem EV {es : List Expr} {k : Nat} {t : Fn} {n : Nat} (hc : X.calm = true) (h : Je X es t)
 (hn : (assignEach es X.env).length = n := by rfl) (zO : (assignEach es X.env).findIdx? (·.1) = none := by rfl) : PG X (.Tuple es k pos) (CN X.K n t) := by
 intro pins s σ H v u Q I r hw
 obtain ⟨a, xs, e1, hq, hl, hw⟩ := hw
 subst e1
 cases r
 obtain ⟨b5, rv, ht, hz⟩ := I.tuple hq
 refine assign_Tuple_tuple (I.ok.hd hc) ht (by simp [hn, <- hl, rv.length]) zO fun h' hx => ?_
 have I1 : Inv X pins σ H { s with heap := h' } := I.kept (t' := s.toks) fun b o e => hx b o (Nat.ne_of_lt (Heap.lt_size e)) e
 exact h pins _ σ H xs _ Q I1 (by simpa using rv) hw
def DP (te : TE) (g : TG) : TS := fun D σ H => te σ H fun x H1 => g x σ H1 D.nx
theorem EB {tg e : Expr} {te : TE} {g : TG} (he : PE X e te) (hg : PG X tg g) (hs : swapsWithSole [tg] e pos.line X.env = pure false := by rfl) (hw : swappedStores [tg] e X.env = pure none := by rfl)
 (h1 : (assignEach [tg] X.env).map (·.2) = [assign tg X.env] := by rfl) : PS X (.Assign [tg] e pos) (DP te g) := by
 intro pins s σ H D I h
 refine wpAny_Assign_stores (df (he pins s σ H _ I h) fun v s1 ⟨x, H1, I1, r1, q1⟩ => ?_) hs hw
 rw [h1]
 exact df (hg pins s1 σ H1 x v _ I1 r1 q1) fun _ s2 q => q
theorem aM {i : Nat} {x : Str} {e : Expr} {te : TE} {pos' : Pos} (hN : X.N.Nodup) (hi : X.N[i]? = some x) (hx : Loc X.env.scope x) (he : PE X e te) (hs : swapsWith e (some (.Name x pos')) pos.line X.env = pure false := by rfl) (hf : X.fn x = true \/ X.env.scope.names.lookup x = some .local := by first | exact .inl rfl | exact .inr rfl | assumption) :
 PS X (.Assign [.Name x pos'] e pos) (DP te (kA i)) := by
 intro pins s σ H D I h
 refine wpAny_Assign_Name (df (he pins s σ H _ I h) fun v s1 ⟨y, H1, I1, r1, q1⟩ => ?_) hs
 exact vJ I1 hN hi hx r1 (fun s2 I2 => ⟨_, H1, I2, q1⟩) hf
end
section
variable {X : Cx} {pos : Pos}
def AI (c : TT) (tb : TS) : TS := fun D σ H => ∃ W : Nat -> St -> Hp -> Prop, (∃ m, W m σ H) /\ ∀ m σ H, W m σ H ->
 c σ H fun b H1 => if b = true then ∃ N : St -> Hp -> Prop, (∀ σ' H', N σ' H' -> ∃ m', m' < m /\ W m' σ' H') /\ tb { D with nx := N, ct := N, bk := D.nx } σ H1 else D.nx σ H1
theorem rY {c : Expr} {body : List Stmt} {tc : TT} {tb : TS} (hp : PassesOwn (model X.prog X.w) X.A X.env X.xe) (hc : PT X c tc) (hb : wN X body tb) : PS X (.While c body [] pos) (AI tc tb) := by
 intro pins s σ H D I h
 obtain ⟨W, ⟨m0, w0⟩, turn⟩ := h
 refine wpAny_While (codeAny_whileLoop (fun n s' => ∃ σ' H', Inv X pins σ' H' s' /\ W n σ' H') ?_ m0 ⟨σ, H, I, w0⟩)
 rintro n s1 ⟨σ1, H1, I1, w1⟩
 refine wpAny_passesOwn hp (df (hc pins s1 σ1 H1 _ I1 (turn n σ1 H1 w1)) fun b s2 ⟨H2, I2, q2⟩ => ?_)
 cases b with
 | true =>
   obtain ⟨N, hN, q2⟩ := q2
   rw [if_pos rfl]
   refine wpAny_passesOwn hp (df (hb pins s2 σ1 H2 _ I2 q2) fun f s3 q3 => ?_)
   cases f with
   | next =>
     obtain ⟨σ3, H3, I3, n3⟩ := q3
     obtain ⟨m', hm, w3⟩ := hN σ3 H3 n3
     exact ⟨m', hm, σ3, H3, I3, w3⟩
   | cont =>
     obtain ⟨σ3, H3, I3, n3⟩ := q3
     obtain ⟨m', hm, w3⟩ := hN σ3 H3 n3
     exact ⟨m', hm, σ3, H3, I3, w3⟩
   | brk => exact q3
   | ret v => exact q3
 | false =>
   rw [if_neg Bool.false_ne_true]
   exact wpAny_execs_nil ⟨σ1, H2, I2, q2⟩
end
structure It where
 go : Nat -> Hp -> Prop
 GR : Nat -> Hp -> V -> Hp -> Prop
 stop : Nat -> Hp -> Prop
def rz (X : Cx) (pins : List (Addr × Obj)) (H : Hp) (b : Addr) : Prop :=
 H b = none /\ b ≠ X.env.locals /\ b ∉ X.fs /\ (b ∈ X.ex \/ X.gL.heap.objs.size <= b) /\ (∀ x c, X.env.cells.lookup x = some c -> c ≠ b) /\ ∀ p ∈ X.pn ++ pins, p.1 ≠ b
theorem Inv.Df {X : Cx} {pins : List (Addr × Obj)} {σ : St} {H H' : Hp} {s : Shared} {b : Addr} (I : Inv X pins σ H s) (hb : s.heap.objs.size <= b) (hn : H' b = none) : rz X pins H' b := by
 refine ⟨hn, Nat.ne_of_gt (Nat.lt_of_lt_of_le I.lt hb), I.JO hb, .inr (Nat.le_trans I.sz hb), fun x c e z => ?_, fun p hp z => ?_⟩
 . obtain ⟨v, q⟩ := I.cell x c e
   exact absurd (Nat.lt_of_lt_of_le q.lt (by rw [z]; exact hb)) (Nat.lt_irrefl _)
 . exact absurd (Nat.lt_of_lt_of_le (Heap.lt_size (I.pin p hp).1) (by rw [z]; exact hb)) (Nat.lt_irrefl _)
structure Turn (P : Program) (w : World) (K : PySem.W.Frag) (tg : Expr) (J : It) (fp : List Addr) (it : Addr) (tn : Nat -> Heap -> Prop) : Prop where
 mem : it ∈ fp
 obj : ∀ i h, tn i h -> ∀ b ∈ fp, ∃ o, h.get? b = some o /\ ∀ v, o.data ≠ .cell v
 keep : ∀ i h h', tn i h -> (∀ b ∈ fp, ∀ o, h.get? b = some o -> h'.get? b = some o) -> tn i h'
 item : ∀ (X : Cx), X.prog = P -> X.w = w -> X.K = K -> X.calm = true -> ∀ (i : Nat) (pins : List (Addr × Obj)) (s : Shared) (σ : St) (H : Hp) (E : Value -> Shared -> Prop), Inv X pins σ H s -> (∀ b ∈ fp, rz X pins H b) -> tn i s.heap -> J.go i H ->
  wpAny (model P w) X.A (pyNext (.ref it)) (fun r s1 => ∃ u, r = some u /\
   wpAny (model P w) X.A (letOwnedTupleGo tg (.ref it) u) (fun _ s2 => ∃ x H', Inv X pins σ H' s2 /\ RelV x u /\ J.GR i H x H' /\ tn (i + 1) s2.heap /\ ∀ b ∈ fp, H' b = none) E s1) E s
 done : ∀ (X : Cx), X.prog = P -> X.w = w -> X.K = K -> X.calm = true -> ∀ (i : Nat) (pins : List (Addr × Obj)) (s : Shared) (σ : St) (H : Hp) (E : Value -> Shared -> Prop), Inv X pins σ H s -> (∀ b ∈ fp, rz X pins H b) -> tn i s.heap -> J.stop i H ->
  wpAny (model P w) X.A (pyNext (.ref it)) (fun r s1 => r = none /\ Inv X pins σ H s1) E s
 self : ∀ (A : Around) (i : Nat) (s : Shared) (Q : Value -> Shared -> Prop) (E : Value -> Shared -> Prop), tn i s.heap -> Q (.ref it) s -> wpAny (model P w) A (pyIter (.ref it)) Q E s
abbrev TI := St -> Hp -> (It -> Hp -> Prop) -> Prop
def Ld (X : Cx) (pins : List (Addr × Obj)) (σ : St) (tg : Expr) (R : It -> Hp -> Prop) (J4 : Value) (s2 : Shared) : Prop :=
 ∃ (it : Addr) (fp : List Addr) (tn : Nat -> Heap -> Prop) (J : It) (H' : Hp), J4 = .ref it /\ Inv X pins σ H' s2 /\ Turn X.prog X.w X.K tg J fp it tn /\ tn 0 s2.heap /\ (∀ b ∈ fp, rz X pins H' b) /\ R J H'
def PI (X : Cx) (tg iter : Expr) (wi : TI) : Prop :=
 ∀ (pins : List (Addr × Obj)) (s : Shared) (σ : St) (H : Hp) (R : It -> Hp -> Prop), Inv X pins σ H s -> wi σ H R ->
   wpAny (model X.prog X.w) X.A (eval iter X.env) (fun v s1 => wpAny (model X.prog X.w) X.A (pyIter v) (Ld X pins σ tg R) X.xe s1) X.xe s
theorem Be {M : Model} {A : Around} {E : Value -> Shared -> Prop} {s : Shared} {tg : Expr} {it : Addr} {u : Value} {o : Obj} {n : String} {vs : Array Value} {Q : Unit -> Shared -> Prop} (ho : s.heap.get? it = some o) (hc : o.cls = .type n) (hd : o.data = .fields vs)
 (hn : ["enumerate", "zip", "dict_itemiterator", "dict_reverseitemiterator", "odict_iterator", "itertools.zip_longest", "itertools.pairwise"].contains n = false) (hQ : Q () s) : wpAny M A (letOwnedTupleGo tg (.ref it) u) Q E s := by
 unfold letOwnedTupleGo
 cases tg <;> first
  | exact wpAny_pure hQ
  | (cases u <;> first
   | exact wpAny_pure hQ
   | (refine wpAny_bind (wpAny_load ho ?_)
      rw [hc, hd]
      show wpAny M A (if (["enumerate", "zip", "dict_itemiterator", "dict_reverseitemiterator", "odict_iterator", "itertools.zip_longest", "itertools.pairwise"].contains n && vs[0]? == some (rawInt _)) = true then _ else _) Q E s
      rw [if_neg (by intro h; rw [hn, Bool.false_and] at h; cases h)]
      exact wpAny_pure hQ))
def JB (K : PySem.W.Frag) (a : Addr) : It :=
 ⟨fun i H => ∃ xs x, i6 K H a xs /\ xs[i]? = some x, fun i H x H' => H' = H /\ ∀ xs, i6 K H a xs -> xs[i]? = some x, fun i H => ∃ xs, i6 K H a xs /\ xs.length <= i⟩
def CQ (lo : Int) (n : Nat) : It := ⟨fun i _ => i < n, fun i H x H' => H' = H /\ x = .int (lo + i), fun i _ => n <= i⟩
theorem z7 {P : Program} {w : World} {K : PySem.W.Frag} {tg : Expr} (a it : Addr) : Turn P w K tg (JB K a) [it] it (fun i h => h.IsListIter it a i) where
 mem := by simp
 obj := fun i h st b hb => by
  have e : b = it := by simpa using hb
  subst e
  obtain ⟨o, e, c, d⟩ := st
  exact ⟨o, e, fun v z => by rw [d] at z; cases z⟩
 keep := fun i h h' st k => st.at fun o e => k it (by simp) o e
 item := by
  intro X hP hw hK hc i pins s σ H E I hf st hg
  subst hP hw hK
  obtain ⟨xs, x, hq, hx⟩ := hg
  obtain ⟨b5, rv, p, hz⟩ := I.list hq
  obtain ⟨u, hu, ru⟩ := rv.get hx
  obtain ⟨f0, f1, f2, f3, f4, f5⟩ := hf it (by simp)
  refine wpAny_pyNext_list_item st p.isList (x := u) (by simpa using hu) fun h' Er sb => ?_
  have I1 : Inv X pins σ H { s with heap := h' } := I.turned (t' := s.toks) (fun b o hb e => (sb.2 b hb).trans e) f0 f1 f3 f4 f5
  obtain ⟨o, e, c, d⟩ := id Er
  exact ⟨u, rfl, Be (s := { s with heap := h' }) e c d (by decide) ⟨x, H, I1, ru, ⟨rfl, fun ys hy => by rw [I.AA hy hq]; exact hx⟩, Er, fun b hb => (hf b hb).1⟩⟩
 done := by
  intro X hP hw hK hc i pins s σ H E I hf st hg
  subst hP hw hK
  obtain ⟨xs, hq, hx⟩ := hg
  obtain ⟨b5, rv, p, hz⟩ := I.list hq
  obtain ⟨f0, f1, f2, f3, f4, f5⟩ := hf it (by simp)
  have hl := rv.length
  exact wpAny_pyNext_list_end (I.ok.hd hc) st p.isList (by simp; omega) fun h' eb => ⟨rfl, I.turned (t' := s.toks) (fun b o hb e => eb b o hb e) f0 f1 f3 f4 f5⟩
 self := fun _ _ _ _ _ st h => wpAny_pyIter_listiter st h
theorem x8 {P : Program} {w : World} {K : PySem.W.Frag} {tg : Expr} (it : Addr) (lo : Int) (n : Nat) : Turn P w K tg (CQ lo n) [it] it (fun i h => IsRangeIter h it (lo + (i : Nat) * 1) ((n : Int) - (i : Nat)) 1) where
 mem := by simp
 obj := fun i h st b hb => by
  have e : b = it := by simpa using hb
  subst e
  exact ⟨_, st, fun v z => by
   have z' : Data.fields _ = Data.cell v := z
   cases z'⟩
 keep := fun i h h' st k => k it (by simp) _ st
 item := by
  intro X hP hw hK hc i pins s σ H E I hf st hg
  subst hP hw hK
  obtain ⟨f0, f1, f2, f3, f4, f5⟩ := hf it (by simp)
  have W := Walks.range (prog := X.prog) (w := X.w) (I.ok.hd hc) it lo 1 n
  refine W.item i s _ _ hg st fun v h' tk hv Er kk => ?_
  obtain ⟨t, rfl⟩ := hv
  have I1 : Inv X pins σ H { s with heap := h', toks := tk } := I.turned (fun b o hb e => kk b o (by simpa using hb) e) f0 f1 f3 f4 f5
  refine ⟨_, rfl, Be (s := { s with heap := h', toks := tk }) (n := "range_iterator") Er rfl rfl (by decide) ⟨.int (lo + i), H, I1, ⟨t, ?_⟩, ⟨rfl, rfl⟩, Er, fun b hb => (hf b hb).1⟩⟩
  rw [Int.mul_one]
 done := by
  intro X hP hw hK hc i pins s σ H E I hf st hg
  subst hP hw hK
  obtain ⟨f0, f1, f2, f3, f4, f5⟩ := hf it (by simp)
  exact wpAny_pyNext_range_end (I.ok.hd hc) st (by have : n <= i := hg; omega) fun h' eb => ⟨rfl, I.turned (t' := s.toks) (fun b o hb e => eb b o hb e) f0 f1 f3 f4 f5⟩
 self := fun _ _ _ _ _ st h => wpAny_pyIter_rangeiter st h
section
variable {X : Cx} {tg : Expr}
def Eo (K : PySem.W.Frag) (tl : TE) : TI := fun σ H R => tl σ H fun x H1 => ∃ a, x = .ref a /\ (∃ xs, i6 K H1 a xs) /\ R (JB K a) H1
theorem uT {l : Expr} {tl : TE} (hl : PE X l tl) : PI X tg l (Eo X.K tl) := by
 intro pins s σ H R I h
 refine df (hl pins s σ H _ I h) fun v s1 ⟨x, H1, I1, r1, q1⟩ => ?_
 obtain ⟨a, e, ⟨xs, hq⟩, q⟩ := q1
 subst e
 cases r1
 obtain ⟨b5, rv, p, hz⟩ := I1.list hq
 refine wpAny_pyIter_list p.isList ?_
 refine ⟨s1.heap.objs.size, [s1.heap.objs.size], _, _, H1, rfl, I1.kept (t' := s1.toks) fun b o e => Heap.get?_push_of_some _ e, z7 a _, ⟨_, Heap.get?_push_size _ rfl, rfl, rfl⟩, fun b hb => ?_, q⟩
 have e : b = s1.heap.objs.size := by simpa using hb
 subst e
 exact I1.Df (Nat.le_refl _) (I1.dP.fresh (Nat.le_refl _))
theorem Am {pins : List (Addr × Obj)} {σ : St} {H : Hp} {s : Shared} {R : It -> Hp -> Prop} {E : Value -> Shared -> Prop} {lo hi : Int} {t u v : Tok} {tk : Nat} (I : Inv X pins σ H s) (h1 : -(2 ^ 62) <= lo) (h2 : lo < 2 ^ 62) (h3 : -(2 ^ 62) <= hi) (h4 : hi < 2 ^ 62)
 (q : R (CQ lo (hi - lo).toNat) H) : wpAny (model X.prog X.w) X.A (pyIter (.ref s.heap.objs.size)) (Ld X pins σ tg R) E { s with heap := s.heap.push { cls := .type "range", data := .fields #[.int lo t, .int hi u, .int 1 v] }, toks := tk } := by
 refine wpAny_pyIter_range (IsRange.new ..) (small_one h1 h2 h3 h4) ?_
 have I1 : Inv X pins σ H { s with heap := s.heap.push { cls := .type "range", data := .fields #[.int lo t, .int hi u, .int 1 v] }, toks := tk } := I.kept fun b o e => Heap.get?_push_of_some _ e
 refine ⟨(s.heap.push { cls := .type "range", data := .fields #[.int lo t, .int hi u, .int 1 v] }).objs.size, [(s.heap.push { cls := .type "range", data := .fields #[.int lo t, .int hi u, .int 1 v] }).objs.size], _, _, H, rfl,
  I1.kept (t' := tk) fun b o e => Heap.get?_push_of_some _ e, x8 _ lo (hi - lo).toNat, ?_, fun b hb => ?_, q⟩
 . have e1 : lo + ((0 : Nat) : Int) * 1 = lo := by simp
   have e2 : (((hi - lo).toNat : Nat) : Int) - ((0 : Nat) : Int) = Builtin.Range.rangeSize lo hi 1 := by rw [rangeSize_one]; split <;> omega
   show IsRangeIter _ _ (lo + ((0 : Nat) : Int) * 1) ((((hi - lo).toNat : Nat) : Int) - ((0 : Nat) : Int)) 1
   rw [e1, e2]
   exact Heap.get?_push_size _ rfl
 . have e : b = (s.heap.push { cls := .type "range", data := .fields #[.int lo t, .int hi u, .int 1 v] }).objs.size := by simpa using hb
   subst e
   exact I1.Df (Nat.le_refl _) (I1.dP.fresh (Nat.le_refl _))
def Eh (ta : TA) : TI := fun σ H R => ta σ H fun vs H1 => ∃ j : Int, vs = [.int j] /\ -(2 ^ 62) <= j /\ j < 2 ^ 62 /\ R (CQ 0 j.toNat) H1
theorem zj {a : Expr} {ta : TA} {p pos : Pos} (hg : Gl X "range") (hm : X.mg "range" = none) (ha : PA X [a] ta) (hs : starEach [a] X.env = [(false, eval a X.env)] := by rfl) : PI X tg (.Call (.Name "range" p) [a] [] pos) (Eh ta) := by
 intro pins s σ H R I h
 refine Call_ (vj I hg hm boot_range (PyProof.Rows.callWith_type1 (df (ha pos pins s σ H _ I h) fun us s1 ⟨vs, H1, I1, r1, q1⟩ => ?_) hs rfl))
 obtain ⟨j, e, q1, q2, q⟩ := q1
 subst e
 cases r1 with
 | cons r rr =>
   cases rr
   obtain ⟨t, rfl⟩ := r
   exact call_range_1 (Am I1 (by omega) (by omega) q1 q2 (by simpa using q))
def IJ (wi : TI) (g : TG) (tb : TS) : TS := fun D σ H => wi σ H fun J H1 => ∃ W : Nat -> Nat -> St -> Hp -> Prop, (∃ m, W 0 m σ H1) /\ ∀ i m σ H, W i m σ H ->
 (J.stop i H /\ D.nx σ H) \/ (J.go i H /\ ∃ N : St -> Hp -> Prop, (∀ σ' H', N σ' H' -> ∃ m', m' < m /\ W (i + 1) m' σ' H') /\ ∀ x H', J.GR i H x H' -> g x σ H' fun σ2 H2 => tb { D with nx := N, ct := N, bk := D.nx } σ2 H2)
def rS (fp : List Addr) (h : Heap) : List (Addr × Obj) := fp.filterMap fun b => (h.get? b).map fun o => (b, o)
theorem kn {fp : List Addr} {h : Heap} {b : Addr} {o : Obj} (hb : b ∈ fp) (e : h.get? b = some o) : (b, o) ∈ rS fp h := List.mem_filterMap.mpr ⟨b, hb, by rw [e]; rfl⟩
theorem zx {fp : List Addr} {h : Heap} {p : Addr × Obj} (hp : p ∈ rS fp h) : p.1 ∈ fp /\ h.get? p.1 = some p.2 := by
 obtain ⟨b, hb, e⟩ := List.mem_filterMap.mp hp
 cases q : h.get? b with
 | none => rw [q] at e; cases e
 | some o =>
   rw [q] at e
   have e' : (b, o) = p := Option.some.inj e
   subst e'
   exact ⟨hb, q⟩
theorem Inv.pinned {pins : List (Addr × Obj)} {σ : St} {H : Hp} {s : Shared} {fp : List Addr} (I : Inv X pins σ H s) (hf : ∀ b ∈ fp, rz X pins H b) (ho : ∀ b ∈ fp, ∃ o, s.heap.get? b = some o /\ ∀ v, o.data ≠ .cell v) : Inv X (pins ++ rS fp s.heap) σ H s :=
 I.oZ fun p hp => (List.mem_append.mp hp).elim (fun z => I.pin p (List.mem_append_right _ z)) fun z => by
  obtain ⟨hb, e⟩ := zx z
  obtain ⟨f0, f1, f2, _⟩ := hf p.1 hb
  obtain ⟨o, e', d⟩ := ho p.1 hb
  rw [e] at e'; cases e'
  exact ⟨e, f0, f1, f2, d⟩
theorem Inv.sQ {pins pl : List (Addr × Obj)} {σ : St} {H : Hp} {s : Shared} (I : Inv X (pins ++ pl) σ H s) : Inv X pins σ H s := I.oZ fun p hp => I.pin p (List.mem_append_right _ (List.mem_append_left _ hp))
theorem E8 {iter : Expr} {body : List Stmt} {wi : TI} {g : TG} {tb : TS} {pos : Pos} (hp : PassesOwn (model X.prog X.w) X.A X.env X.xe) (hc : X.calm = true) (hi : PI X tg iter wi) (hg : PG X tg g) (hb : wN X body tb)
 (hs : ∀ x, foldedSetIterable iter X.env x = pure x := by intro _; rfl) : PS X (.For tg iter body [] pos) (IJ wi g tb) := by
 intro pins s σ H D I h
 refine wpAny_For (df (hi pins s σ H _ I h) fun v s1 h1 => df h1 fun J4 s2 h2 => ?_) hs
 obtain ⟨it, fp, tn, J, H2, e, I2, T, Mz, f2, W, ⟨m0, w0⟩, turn⟩ := h2
 subst e
 have stat : ∀ {H' : Hp}, (∀ b ∈ fp, H' b = none) -> ∀ b ∈ fp, rz X pins H' b := fun hn b hb => ⟨hn b hb, (f2 b hb).2⟩
 refine codeAny_forLoop_any (fun n s' => ∃ i σ' H', Inv X pins σ' H' s' /\ tn i s'.heap /\ (∀ b ∈ fp, H' b = none) /\ W i n σ' H') ?_ m0 ⟨0, σ, H2, I2, Mz, fun b hb => (f2 b hb).1, w0⟩
 rintro n s3 ⟨i, σ3, H3, I3, Hk, Ja, w3⟩
 rcases turn i n σ3 H3 w3 with ⟨stop, qn⟩ | ⟨go, N, hN, step⟩
 . refine wpAny_passesOwn hp (df (T.done X rfl rfl rfl hc i pins s3 σ3 H3 X.xe I3 (stat Ja) Hk stop) fun r s4 ⟨hr, I4⟩ => ?_)
   subst hr
   exact wpAny_execs_nil ⟨σ3, H3, I4, qn⟩
 . refine wpAny_passesOwn hp (df (T.item X rfl rfl rfl hc i pins s3 σ3 H3 X.xe I3 (stat Ja) Hk go) fun r s4 ⟨u, hr, h4⟩ => ?_)
   subst hr
   refine wpAny_passesOwn hp (df h4 fun _ s5 ⟨x, H5, I5, r5, y5, ED, JQ⟩ => ?_)
   have K4 := I5.pinned (stat JQ) (T.obj _ _ ED)
   refine wpAny_passesOwn hp (df (hg _ s5 σ3 H5 x u _ K4 r5 (step x H5 y5)) fun _ s6 ⟨σ6, H6, I6, q6⟩ => ?_)
   refine wpAny_passesOwn hp (df (hb _ s6 σ6 H6 _ I6 q6) fun f s7 q7 => ?_)
   have again : ∀ {σ7 : St} {H7 : Hp}, Inv X (pins ++ rS fp s5.heap) σ7 H7 s7 -> N σ7 H7 -> ∃ m, m < n /\ ∃ i σ' H', Inv X pins σ' H' s7 /\ tn i s7.heap /\ (∀ b ∈ fp, H' b = none) /\ W i m σ' H' := fun {σ7 H7} I7 n7 => by
    obtain ⟨m', hm, w7⟩ := hN σ7 H7 n7
    refine ⟨m', hm, i + 1, σ7, H7, I7.sQ, T.keep _ _ _ ED fun b hb o e => (I7.pin (b, o) (List.mem_append_right _ (List.mem_append_right _ (kn hb e)))).1, fun b hb => ?_, w7⟩
    obtain ⟨o, e, d⟩ := T.obj _ _ ED b hb
    exact (I7.pin (b, o) (List.mem_append_right _ (List.mem_append_right _ (kn hb e)))).2.1
   cases f with
   | next => obtain ⟨σ7, H7, I7, n7⟩ := q7; exact again I7 n7
   | cont => obtain ⟨σ7, H7, I7, n7⟩ := q7; exact again I7 n7
   | brk => obtain ⟨σ7, H7, I7, q7⟩ := q7; exact ⟨σ7, H7, I7.sQ, q7⟩
   | ret v => obtain ⟨x7, σ7, H7, I7, r7, q7⟩ := q7; exact ⟨x7, σ7, H7, I7.sQ, r7, q7⟩
end
theorem zS {lo : Int} {n : Nat} {g : TG} {tb : TS} {D : Ends} {σ : St} {H : Hp} (Pv : Nat -> St -> Hp -> Prop) (h0 : Pv 0 σ H)
 (hs : ∀ i σ H, i < n -> Pv i σ H -> g (.int (lo + i)) σ H fun σ2 H2 => tb { D with nx := Pv (i + 1), ct := Pv (i + 1), bk := D.nx } σ2 H2) (hd : ∀ σ H, Pv n σ H -> D.nx σ H) :
 ∃ W : Nat -> Nat -> St -> Hp -> Prop, (∃ m, W 0 m σ H) /\ ∀ i m σ H, W i m σ H ->
   ((CQ lo n).stop i H /\ D.nx σ H) \/ ((CQ lo n).go i H /\ ∃ N : St -> Hp -> Prop, (∀ σ' H', N σ' H' -> ∃ m', m' < m /\ W (i + 1) m' σ' H') /\ ∀ x H', (CQ lo n).GR i H x H' -> g x σ H' fun σ2 H2 => tb { D with nx := N, ct := N, bk := D.nx } σ2 H2) := by
 refine ⟨fun i m σ H => m = n - i /\ i <= n /\ Pv i σ H, ⟨n, by simp, Nat.zero_le _, h0⟩, ?_⟩
 rintro i m σ H ⟨rfl, hi, p⟩
 by_cases wL : i < n
 . refine .inr ⟨wL, Pv (i + 1), fun σ' H' p' => ⟨n - (i + 1), by omega, rfl, wL, p'⟩, fun x H' y => ?_⟩
   obtain ⟨e, y⟩ := y
   subst e y
   exact hs i σ _ wL p
 . have e : i = n := by omega
   subst e
   exact .inl ⟨Nat.le_refl _, hd σ H p⟩
abbrev R2 := V -> V -> Hp -> VK -> Prop
def nC (X : Cx) (f : Value -> Value -> Sem Value) (r : R2) : Prop :=
 ∀ (pins : List (Addr × Obj)) (s : Shared) (σ : St) (H : Hp) (x y : V) (v u : Value) (Q : VK), Inv X pins σ H s -> RelV x v -> RelV y u -> r x y H Q ->
   wpAny (model X.prog X.w) X.A (f v u) (EP X pins σ Q) X.xe s
def K0 (X : Cx) (f : Value -> Sem Value) (r : V -> Hp -> VK -> Prop) : Prop :=
 ∀ (pins : List (Addr × Obj)) (s : Shared) (σ : St) (H : Hp) (x : V) (v : Value) (Q : VK), Inv X pins σ H s -> RelV x v -> r x H Q ->
   wpAny (model X.prog X.w) X.A (f v) (EP X pins σ Q) X.xe s
def gE (X : Cx) (f : Value) (r : List V -> Hp -> VK -> Prop) : Prop :=
 ∀ (pins : List (Addr × Obj)) (s : Shared) (σ : St) (H : Hp) (xs : List V) (us : List Value) (Q : VK), Inv X pins σ H s -> Vals xs us -> r xs H Q ->
   wpAny (model X.prog X.w) X.A (call f us) (EP X pins σ Q) X.xe s
def K7 (X : Cx) (r : V -> Hp -> (Bool -> Hp -> Prop) -> Prop) : Prop :=
 ∀ (pins : List (Addr × Obj)) (s : Shared) (σ : St) (H : Hp) (x : V) (v : Value) (Q : Bool -> Hp -> Prop), Inv X pins σ H s -> RelV x v -> r x H Q ->
   wpAny (model X.prog X.w) X.A (truthy v) (TP X pins σ Q) X.xe s
def IY (r : R2) (ta tb : TE) : TE := fun σ H Q => ta σ H fun x H1 => tb σ H1 fun y H2 => r x y H2 Q
def LN (r : V -> Hp -> VK -> Prop) (ta : TE) : TE := fun σ H Q => ta σ H fun x H1 => r x H1 Q
def rI (C : Int -> Int -> Prop) (g : Int -> Int -> V) : R2 := fun x y H Q => ∃ i j, x = .int i /\ y = .int j /\ C i j /\ Q (g i j) H
def Cw (g : Int -> Int -> V) : R2 := fun x y H Q => ∃ i j, x = .int i /\ y = .int j /\ Q (g i j) H
def rU (g : Int -> V) : V -> Hp -> VK -> Prop := fun x H Q => ∃ i, x = .int i /\ Q (g i) H
section
variable {X : Cx} {a b c : Expr} {ta tb tc : TE} {pos : Pos}
theorem FK (ha : PE X a ta) (hb : PE X b tb) {pins : List (Addr × Obj)} {s : Shared} {σ : St} {H : Hp} {R : V -> V -> Hp -> Prop} (I : Inv X pins σ H s)
 (h : ta σ H fun x H1 => tb σ H1 fun y H2 => R x y H2) {Q : Value -> Shared -> Prop} {f : Value -> Value -> Sem Value}
 (hf : ∀ v u s2 x y H2, Inv X pins σ H2 s2 -> RelV x v -> RelV y u -> R x y H2 -> wpAny (model X.prog X.w) X.A (f v u) Q X.xe s2) :
 wpAny (model X.prog X.w) X.A (eval a X.env) (fun v s₁ => wpAny (model X.prog X.w) X.A (eval b X.env) (fun u s₂ => wpAny (model X.prog X.w) X.A (f v u) Q X.xe s₂) X.xe s₁) X.xe s := by
 refine df (ha pins s σ H _ I h) fun v s1 ⟨x, H1, I1, r1, q1⟩ => ?_
 refine df (hb pins s1 σ H1 _ I1 q1) fun u s2 ⟨y, H2, I2, r2, q2⟩ => ?_
 exact hf v u s2 x y H2 I2 r1 r2 q2
theorem ax {op : Operator} {r : R2} (ho : nC X (binaryOp op) r) (ha : PE X a ta) (hb : PE X b tb) : PE X (.BinOp a op b pos) (IY r ta tb) := by
 intro pins s σ H Q I h
 exact wpAny_BinOp (FK ha hb I h fun v u s2 x y H2 I2 rx ry q => ho pins s2 σ H2 x y v u Q I2 rx ry q)
theorem DW {op : UnaryOp} {r : V -> Hp -> VK -> Prop} (ho : K0 X (unaryOp op) r) (ha : PE X a ta) : PE X (.UnaryOp op a pos) (LN r ta) := by
 intro pins s σ H Q I h
 exact UnaryOp_ (df (ha pins s σ H _ I h) fun v s1 ⟨x, H1, I1, r1, q1⟩ => ho pins s1 σ H1 x v Q I1 r1 q1)
theorem Jq {f : Value -> Value -> Sem Value} {C : Int -> Int -> Prop} {g : Int -> Int -> Int}
 (rule : ∀ (i j : Int) (t u : Tok) (s : Shared) (Q : Value -> Shared -> Prop) (E : Value -> Shared -> Prop), C i j -> Q (.int (g i j) s.toks) { s with toks := s.toks + 1 } -> wpAny (model X.prog X.w) X.A (f (.int i t) (.int j u)) Q E s) :
 nC X f (rI C fun i j => .int (g i j)) := by
 intro pins s σ H x y v u Q I rx ry h
 obtain ⟨i, j, rfl, rfl, hc, q⟩ := h
 obtain ⟨t, rfl⟩ := rx
 obtain ⟨t', rfl⟩ := ry
 exact rule i j t t' s _ _ hc ⟨.int (g i j), H, I.tok _, ⟨_, rfl⟩, q⟩
theorem HW {f : Value -> Value -> Sem Value} {g : Int -> Int -> Int}
 (rule : ∀ (i j : Int) (t u : Tok) (s : Shared) (Q : Value -> Shared -> Prop) (E : Value -> Shared -> Prop), Q (.int (g i j) s.toks) { s with toks := s.toks + 1 } -> wpAny (model X.prog X.w) X.A (f (.int i t) (.int j u)) Q E s) :
 nC X f (Cw fun i j => .int (g i j)) := by
 intro pins s σ H x y v u Q I rx ry h
 obtain ⟨i, j, rfl, rfl, q⟩ := h
 obtain ⟨t, rfl⟩ := rx
 obtain ⟨t', rfl⟩ := ry
 exact rule i j t t' s _ _ ⟨.int (g i j), H, I.tok _, ⟨_, rfl⟩, q⟩
theorem C3 {f : Value -> Value -> Sem Value} {g : Int -> Int -> Bool}
 (rule : ∀ (i j : Int) (t u : Tok) (s : Shared) (Q : Value -> Shared -> Prop) (E : Value -> Shared -> Prop), Q (.bool (g i j)) s -> wpAny (model X.prog X.w) X.A (f (.int i t) (.int j u)) Q E s) :
 nC X f (Cw fun i j => .bl (g i j)) := by
 intro pins s σ H x y v u Q I rx ry h
 obtain ⟨i, j, rfl, rfl, q⟩ := h
 obtain ⟨t, rfl⟩ := rx
 obtain ⟨t', rfl⟩ := ry
 exact rule i j t t' s _ _ ⟨.bl (g i j), H, I, rfl, q⟩
def E6 (i j : Int) : Prop := 0 <= j /\ j <= 1000000 /\ i.natAbs < 2 ^ 64
theorem aY : nC X (binaryOp .Add) (Cw fun i j => .int (i + j)) := HW fun _ _ _ _ _ _ _ q => add_int q
theorem vg : nC X (binaryOp .Sub) (Cw fun i j => .int (i - j)) := HW fun _ _ _ _ _ _ _ q => sub_int q
theorem FR : nC X (binaryOp .Mod) (rI (fun _ j => 0 < j) fun i j => .int (i % j)) := Jq fun i j _ _ _ _ _ hc q => by
 have h1 : (0 : Int) < j := hc
 exact mod_int' (by omega) (by rw [Int.fmod_eq_emod_of_nonneg i (by omega)]; exact q)
theorem Aj : nC X (binaryOp .Pow) (rI E6 fun i j => .int (i ^ j.toNat)) := Jq fun _ _ _ _ _ _ _ hc q => pow_int_small hc.1 hc.2.1 hc.2.2 q
theorem LU {f : Value -> Sem Value} {g : Int -> Int}
 (rule : ∀ (i : Int) (t : Tok) (s : Shared) (Q : Value -> Shared -> Prop) (E : Value -> Shared -> Prop), Q (.int (g i) s.toks) { s with toks := s.toks + 1 } -> wpAny (model X.prog X.w) X.A (f (.int i t)) Q E s) :
 K0 X f (rU fun i => .int (g i)) := by
 intro pins s σ H x v Q I rx h
 obtain ⟨i, rfl, q⟩ := h
 obtain ⟨t, rfl⟩ := rx
 exact rule i t s _ _ ⟨.int (g i), H, I.tok _, ⟨_, rfl⟩, q⟩
theorem A5 : K0 X (unaryOp .USub) (rU fun i => .int (-i)) := LU fun _ _ _ _ _ q => neg_int q
end
def Dt : V -> V -> Bool
 | .cf, .cf => true | .cf, .int _ => true | .int _, .cf => true | .cf, .bl _ => true | .bl _, .cf => true | .cf, .str _ => true | .str _, .cf => true
 | .int _, .int _ => true | .bl _, .bl _ => true | .str _, .str _ => true | .yD _, .yD _ => true
 | .int _, .str _ => true | .str _, .int _ => true | .bl _, .str _ => true | .str _, .bl _ => true
 | _, _ => false
def L0 : R2 := fun x y H Q => Dt x y = true /\ Q (.bl (decide (x = y))) H
def Mj : R2 := fun x y H Q => Dt x y = true /\ Q (.bl (!decide (x = y))) H
theorem yQ {i j : Int} : decide (V.int i = V.int j) = (i == j) := by
 rw [Bool.eq_iff_iff]
 simp
theorem AH {i j : Bool} : decide (V.bl i = V.bl j) = (i == j) := by
 rw [Bool.eq_iff_iff]
 simp
theorem yy {i j : Str} : decide (V.str i = V.str j) = (i == j) := by
 rw [Bool.eq_iff_iff]
 simp
theorem yK {i j : Array UInt8} : decide (V.yD i = V.yD j) = (i.toList == j.toList) := by
 rw [Bool.eq_iff_iff]
 cases i
 cases j
 simp
section
variable {X : Cx} {a b c : Expr} {ta tb tc : TE} {pos : Pos}
theorem a9 {pins : List (Addr × Obj)} {σ : St} {H : Hp} {s : Shared} {Q : VK} {k k' : Bool} (I : Inv X pins σ H s) (q : Q (.bl k) H) (e : k = k') : EP X pins σ Q (.bool k') s := by
 subst e
 exact ⟨.bl k, H, I, rfl, q⟩
theorem Iy : nC X (compareOp .Eq) L0 := by
 intro pins s σ H x y v u Q I rx ry h
 obtain ⟨hs, q⟩ := h
 cases x with
 | cf =>
   cases rx
   cases y with
   | cf => cases ry; exact PySem.EqNone.eq_none_none (a9 I q (by simp))
   | bl j => cases ry; exact PySem.EqNone.eq_none_bool (a9 I q (by simp))
   | int j => obtain ⟨t', rfl⟩ := ry; exact PySem.EqNone.eq_none_int (a9 I q (by simp))
   | str j => obtain ⟨t', rfl⟩ := ry; exact PySem.EqNone.eq_none_str (a9 I q (by simp))
   | _ => exact absurd (show false = true from hs) Bool.false_ne_true
 | bl i =>
   cases rx
   cases y with
   | cf => cases ry; exact PySem.EqNone.eq_bool_none (a9 I q (by simp))
   | bl j => cases ry; exact eq_bool (a9 I q AH)
   | str j => obtain ⟨t', rfl⟩ := ry; exact PySem.EqMixed.eq_bool_str (a9 I q (by simp))
   | _ => exact absurd (show false = true from hs) Bool.false_ne_true
 | int i =>
   obtain ⟨t, rfl⟩ := rx
   cases y with
   | cf => cases ry; exact PySem.EqNone.eq_int_none (a9 I q (by simp))
   | int j => obtain ⟨t', rfl⟩ := ry; exact eq_int (a9 I q yQ)
   | str j => obtain ⟨t', rfl⟩ := ry; exact PySem.EqMixed.eq_int_str (a9 I q (by simp))
   | _ => exact absurd (show false = true from hs) Bool.false_ne_true
 | str i =>
   obtain ⟨t, rfl⟩ := rx
   cases y with
   | cf => cases ry; exact PySem.EqNone.eq_str_none (a9 I q (by simp))
   | bl j => cases ry; exact PySem.EqMixed.eq_str_bool (a9 I q (by simp))
   | int j => obtain ⟨t', rfl⟩ := ry; exact PySem.EqMixed.eq_str_int (a9 I q (by simp))
   | str j => obtain ⟨t', rfl⟩ := ry; exact eq_str (a9 I q yy)
   | _ => exact absurd (show false = true from hs) Bool.false_ne_true
 | yD i =>
   obtain ⟨t, rfl⟩ := rx
   cases y with
   | yD j => obtain ⟨t', rfl⟩ := ry; exact PySem.W.eq_bytes (a9 I q yK)
   | _ => exact absurd (show false = true from hs) Bool.false_ne_true
 | _ => cases y <;> exact absurd (show false = true from hs) Bool.false_ne_true
theorem HG : nC X (compareOp .NotEq) Mj := by
 intro pins s σ H x y v u Q I rx ry h
 obtain ⟨hs, q⟩ := h
 cases x with
 | cf =>
   cases rx
   cases y with
   | cf => cases ry; exact PySem.EqNone.ne_none_none (a9 I q (by simp))
   | bl j => cases ry; exact PySem.EqNone.ne_none_bool (a9 I q (by simp))
   | int j => obtain ⟨t', rfl⟩ := ry; exact PySem.EqNone.ne_none_int (a9 I q (by simp))
   | str j => obtain ⟨t', rfl⟩ := ry; exact PySem.EqNone.ne_none_str (a9 I q (by simp))
   | _ => exact absurd (show false = true from hs) Bool.false_ne_true
 | bl i =>
   cases rx
   cases y with
   | cf => cases ry; exact PySem.EqNone.ne_bool_none (a9 I q (by simp))
   | bl j => cases ry; exact ne_bool (a9 I q (congrArg not AH))
   | str j => obtain ⟨t', rfl⟩ := ry; exact PySem.EqMixed.ne_bool_str (a9 I q (by simp))
   | _ => exact absurd (show false = true from hs) Bool.false_ne_true
 | int i =>
   obtain ⟨t, rfl⟩ := rx
   cases y with
   | cf => cases ry; exact PySem.EqNone.ne_int_none (a9 I q (by simp))
   | int j => obtain ⟨t', rfl⟩ := ry; exact ne_int (a9 I q (congrArg not yQ))
   | str j => obtain ⟨t', rfl⟩ := ry; exact PySem.EqMixed.ne_int_str (a9 I q (by simp))
   | _ => exact absurd (show false = true from hs) Bool.false_ne_true
 | str i =>
   obtain ⟨t, rfl⟩ := rx
   cases y with
   | cf => cases ry; exact PySem.EqNone.ne_str_none (a9 I q (by simp))
   | bl j => cases ry; exact PySem.EqMixed.ne_str_bool (a9 I q (by simp))
   | int j => obtain ⟨t', rfl⟩ := ry; exact PySem.EqMixed.ne_str_int (a9 I q (by simp))
   | str j => obtain ⟨t', rfl⟩ := ry; exact ne_str (a9 I q (congrArg not yy))
   | _ => exact absurd (show false = true from hs) Bool.false_ne_true
 | yD i =>
   obtain ⟨t, rfl⟩ := rx
   cases y with
   | yD j => obtain ⟨t', rfl⟩ := ry; exact PySem.W.ne_bytes (a9 I q (congrArg not yK))
   | _ => exact absurd (show false = true from hs) Bool.false_ne_true
 | _ => cases y <;> exact absurd (show false = true from hs) Bool.false_ne_true
theorem vO : nC X (compareOp .Lt) (Cw fun i j => .bl (decide (i < j))) := C3 fun _ _ _ _ _ _ _ q => lt_int q
theorem Aw : nC X (compareOp .LtE) (Cw fun i j => .bl (decide (i <= j))) := C3 fun _ _ _ _ _ _ _ q => le_int q
theorem HP : nC X (compareOp .Gt) (Cw fun i j => .bl (decide (j < i))) := C3 fun _ _ _ _ _ _ _ q => gt_int q
theorem yk : nC X (compareOp .GtE) (Cw fun i j => .bl (decide (j <= i))) := C3 fun _ _ _ _ _ _ _ q => ge_int q
theorem za : nC X (compareOp .In) (fun x y H Q => ∃ i j, x = .str i /\ y = .str j /\ Q (.bl (!(Builtin.Str.occurrences j i 0 j.length 1).isEmpty)) H) := by
 intro pins s σ H x y v u Q I rx ry h
 obtain ⟨i, j, rfl, rfl, q⟩ := h
 obtain ⟨t, rfl⟩ := rx
 obtain ⟨t', rfl⟩ := ry
 exact in_str (a9 I q rfl)
theorem Bp : nC X (compareOp .Is) (fun x y H Q => y = .cf /\ Q (.bl (decide (x = .cf))) H) := by
 intro pins s σ H x y v u Q I rx ry h
 obtain ⟨rfl, q⟩ := h
 cases ry
 refine is_none_gen (a9 I q ?_)
 cases x <;> first
  | (cases rx; rfl)
  | (obtain ⟨t, rfl⟩ := rx; rfl)
theorem vd : nC X (compareOp .IsNot) (fun x y H Q => y = .cf /\ Q (.bl (!decide (x = .cf))) H) := by
 intro pins s σ H x y v u Q I rx ry h
 obtain ⟨rfl, q⟩ := h
 cases ry
 refine isnot_none_gen (a9 I q ?_)
 cases x <;> first
  | (cases rx; rfl)
  | (obtain ⟨t, rfl⟩ := rx; rfl)
theorem aO (b : Expr) {op : CmpOp} (h : op ≠ .In := by decide) (h2 : op ≠ .NotIn := by decide) : behindInMarks op b = false := by
 have e1 : (op == CmpOp.In) = false := by cases op <;> first | rfl | exact absurd rfl h
 have e2 : (op == CmpOp.NotIn) = false := by cases op <;> first | rfl | exact absurd rfl h2
 cases b <;> simp [behindInMarks, e1, e2]
theorem gx {op : CmpOp} {r : R2} (ho : nC X (compareOp op) r) (ha : PE X a ta) (hb : PE X b tb) (hm : behindInMarks op b = false) : PE X (.Compare a [op] [b] pos) (IY r ta tb) := by
 intro pins s σ H Q I h
 exact wpAny_Compare1 (FK ha hb I h fun v u s2 x y H2 I2 rx ry q => ho pins s2 σ H2 x y v u Q I2 rx ry q) hm
def Ap (t : TE) : TT := fun σ H Q => t σ H fun x H' => ∃ k, x = .bl k /\ Q k H'
theorem aK {op : CmpOp} {r : R2} (ho : nC X (compareOp op) r) (ha : PE X a ta) (hb : PE X b tb) (hm : behindInMarks op b = false) : PT X (.Compare a [op] [b] pos) (Ap (IY r ta tb)) := by
 intro pins s σ H Q I h
 refine wpAny_isTrue_Compare1 (df (ha pins s σ H _ I h) fun v s1 ⟨x, H1, I1, r1, q1⟩ => df (hb pins s1 σ H1 _ I1 q1) fun u s2 ⟨y, H2, I2, r2, q2⟩ =>
  df (ho pins s2 σ H2 x y v u _ I2 r1 r2 q2) fun c s3 ⟨z, H3, I3, r3, k, e, q3⟩ => ?_) hm
 subst e
 cases r3
 exact wpAny_truthy_bool ⟨H3, I3, q3⟩
def Bb (r r' : R2) (ta tb tc : TE) : TE := fun σ H Q => ta σ H fun x H1 => tb σ H1 fun y H2 => r x y H2 fun z H3 => ∃ k, z = .bl k /\
 (if k = true then tc σ H3 fun w' H4 => r' y w' H4 Q else Q (.bl false) H3)
theorem BJ {op KA : CmpOp} {r r' : R2} (ho : nC X (compareOp op) r) (zh : nC X (compareOp KA) r') (ha : PE X a ta) (hb : PE X b tb) (hc : PE X c tc)
 (hm : lastMarks [op, KA] [b, c] = false := by with_unfolding_all rfl) : PT X (.Compare a [op, KA] [b, c] pos) (Ap (Bb r r' ta tb tc)) := by
 intro pins s σ H Q I h
 refine isTrue_chain (df (ha pins s σ H _ I h) fun v s1 ⟨x, H1, I1, r1, q1⟩ => test_link (df (hb pins s1 σ H1 _ I1 q1) fun u s2 ⟨y, H2, I2, r2, q2⟩ =>
  df (ho pins s2 σ H2 x y v u _ I2 r1 r2 q2) fun d s3 ⟨z, H3, I3, r3, k, e, q3⟩ => ?_)) hm
 subst e
 cases r3
 refine wpAny_truthy_bool ?_
 cases k with
 | false =>
   obtain ⟨k', e', q'⟩ := q3
   cases e'
   exact ite_ff ⟨H3, I3, q'⟩
 | true =>
   refine ite_tt (test_last (df (hc pins s3 σ H3 _ I3 q3) fun w' s4 ⟨z', H4, I4, r4, q4⟩ => df (zh pins s4 σ H4 y z' u w' _ I4 r2 r4 q4) fun d' s5 ⟨z2, H5, I5, r5, k2, e2, q5⟩ => ?_))
   subst e2
   cases r5
   exact wpAny_truthy_bool ⟨H5, I5, q5⟩
def Br (K : PySem.W.Frag) (x : V) (H : Hp) (k : Bool) : Prop :=
 match x with
 | .cf => k = false
 | .bl b => k = b
 | .int i => k = (i != 0)
 | .str y => y.length <= sizeLine /\ k = ((y.length : Int) != 0)
 | .yD y => y.size <= sizeLine /\ k = ((y.size : Int) != 0)
 | .ref p => (∃ xs, i6 K H p xs /\ k = !xs.isEmpty) \/ (∃ xs, y9 K H p xs /\ k = !xs.isEmpty) \/ ∃ e9, H p = some (.dK e9) /\ k = !e9.isEmpty
 | _ => False
theorem xt {κ : Type} {e9 : List (κ × V)} {vs : List (κ × Value)} (r : KV e9 vs) : (!vs.isEmpty) = !e9.isEmpty := by
 cases r <;> rfl
theorem tu {xs : List V} {b5 : List Value} (r : Vals xs b5) : (!b5.toArray.isEmpty) = !xs.isEmpty := by
 cases r <;> simp
theorem qm : (sizeLine : Nat) < 2 ^ 63 := by rw [sizeLine_eq]; decide
theorem FI : K7 X (fun x H Q => ∃ k, Br X.K x H k /\ Q k H) := by
 intro pins s σ H x v Q I rx h
 obtain ⟨k, e, q⟩ := h
 have hl := qm
 have hs : sizeLine = 16777216 := sizeLine_eq
 cases x with
 | cf =>
   cases rx
   have e' : k = false := e
   subst e'
   exact truthy_none ⟨H, I, q⟩
 | bl b =>
   cases rx
   have e' : k = b := e
   subst e'
   exact wpAny_truthy_bool ⟨H, I, q⟩
 | int i =>
   obtain ⟨t, rfl⟩ := rx
   have e' : k = (i != 0) := e
   subst e'
   exact PySem.P.truthy_int ⟨H, I, q⟩
 | str y =>
   obtain ⟨t, rfl⟩ := rx
   obtain ⟨hy, e'⟩ : y.length <= sizeLine /\ k = ((y.length : Int) != 0) := e
   subst e'
   exact PySem.P.truthy_str (by omega) ⟨H, I.tok _, q⟩
 | yD y =>
   obtain ⟨t, rfl⟩ := rx
   obtain ⟨hy, e'⟩ : y.size <= sizeLine /\ k = ((y.size : Int) != 0) := e
   subst e'
   exact PySem.W.truthy_bytes (by omega) ⟨H, I.tok _, q⟩
 | ref p =>
   cases rx
   have e' : (∃ xs, i6 X.K H p xs /\ k = !xs.isEmpty) \/ (∃ xs, y9 X.K H p xs /\ k = !xs.isEmpty) \/ ∃ e9, H p = some (.dK e9) /\ k = !e9.isEmpty := e
   rcases e' with ⟨xs, hx, e'⟩ | ⟨xs, hx, e'⟩ | ⟨e9, hx, e'⟩
   . subst e'
     obtain ⟨b5, r, pl, hz⟩ := I.list hx
     have hlen := r.length
     exact wpAny_truthy_list pl.isList (by simp only [List.size_toArray]; omega) ⟨H, I.tok _, by rw [tu r]; exact q⟩
   . subst e'
     obtain ⟨b5, r, pl, hz⟩ := I.tuple hx
     have hlen := r.length
     exact truthy_tuple pl (by simp only [List.size_toArray]; omega) ⟨H, I.tok _, by rw [tu r]; exact q⟩
   . subst e'
     obtain ⟨hz, hS, vs, r, m⟩ : e9.length <= sizeLine /\ (p == sysModules) = false /\ ∃ vs, KV e9 vs /\ s.heap.DictOf (ft X.prog X.w) p vs := I.dP p _ hx
     have hlen : e9.length = vs.length := Paired.length r
     exact wpAny_truthy_dict hS m (by omega) ⟨H, I.tok _, by rw [xt r]; exact q⟩
 | _ => exact (show False from e).elim
theorem je (ha : PE X a ta) (he : ∀ whole, isTrue a X.env whole = (do let v <- whole; standAt a.pos; holding [v] (truthy v))) :
 PT X a (fun σ H Q => ta σ H fun x H' => ∃ k, Br X.K x H' k /\ Q k H') := by
 intro pins s σ H Q I h
 exact isTrue_plain (df (ha pins s σ H _ I h) fun v s1 ⟨x, H1, I1, r1, q1⟩ => FI pins s1 σ H1 x v Q I1 r1 q1) (he _)
theorem ya : nC X (binaryOp .Add) (fun x y H Q => ∃ i j, x = .str i /\ y = .str j /\ i.length + j.length <= sizeLine /\ Q (.str (i ++ j)) H) := by
 intro pins s σ H x y v u Q I rx ry h
 obtain ⟨i, j, rfl, rfl, hz, q⟩ := h
 obtain ⟨t, rfl⟩ := rx
 obtain ⟨t', rfl⟩ := ry
 exact add_str (fun t' tk => ⟨.str (i ++ j), H, I.tok _, ⟨_, rfl⟩, q⟩) hz
theorem vals1 {x : V} {us : List Value} (r : Vals [x] us) : ∃ u, us = [u] /\ RelV x u := by
 cases r with
 | cons r1 r2 => cases r2; exact ⟨_, rfl, r1⟩
theorem vals2 {x y : V} {us : List Value} (r : Vals [x, y] us) : ∃ u w', us = [u, w'] /\ RelV x u /\ RelV y w' := by
 cases r with
 | cons r1 r2 =>
   cases r2 with
   | cons r3 r4 => cases r4; exact ⟨_, _, rfl, r1, r3⟩
theorem zF (hc : X.calm = true) : gE X (.builtin "max") (fun xs H Q => ∃ i j, xs = [.int i, .int j] /\ Q (.int (if j > i then j else i)) H) := by
 intro pins s σ H xs us Q I r h
 obtain ⟨i, j, rfl, q⟩ := h
 obtain ⟨u, w', rfl, ⟨t, rfl⟩, ⟨t', rfl⟩⟩ := vals2 r
 refine max_two_ints (I.ok.hd hc) fun h' tk k => ⟨_, H, I.kept k, ?_, q⟩
 by_cases hj : j > i
 . rw [if_pos hj, if_pos hj]; exact ⟨_, rfl⟩
 . rw [if_neg hj, if_neg hj]; exact ⟨_, rfl⟩
theorem zp (hc : X.calm = true) : gE X (.builtin "min") (fun xs H Q => ∃ i j, xs = [.int i, .int j] /\ Q (.int (if j < i then j else i)) H) := by
 intro pins s σ H xs us Q I r h
 obtain ⟨i, j, rfl, q⟩ := h
 obtain ⟨u, w', rfl, ⟨t, rfl⟩, ⟨t', rfl⟩⟩ := vals2 r
 refine min_two_ints (I.ok.hd hc) fun h' tk k => ⟨_, H, I.kept k, ?_, q⟩
 by_cases hj : j < i
 . rw [if_pos hj, if_pos hj]; exact ⟨_, rfl⟩
 . rw [if_neg hj, if_neg hj]; exact ⟨_, rfl⟩
theorem u6 : gE X (.type "str") (fun xs H Q => ∃ i, xs = [.int i] /\ i.natAbs.log2 < 1920 /\ Q (.str (toString i)) H) := by
 intro pins s σ H xs us Q I r h
 obtain ⟨i, rfl, hz, q⟩ := h
 obtain ⟨u, rfl, t, rfl⟩ := vals1 r
 exact PySem.P.str_of_int hz ⟨.str _, H, I.tok _, ⟨_, rfl⟩, q⟩
end
structure xG (h : Heap) (x dx C : Addr) (mA : Str -> Option Value) : Prop where
 obj : h.get? x = some (PySem.W.instObj C dx)
 ns : h.Ns1 dx mA
 ne : dx ≠ x
theorem z4 {h : Heap} {dx : Addr} {mA : Str -> Option Value} (n : h.Ns1 dx mA) : ∃ od, h.get? dx = some od /\ ∀ name, PySem.W.lookIn name od = some (mA name) := by
 obtain ⟨o, es, ep, ho, hd, hk, _, hm⟩ := n
 refine ⟨o, ho, fun name => ?_⟩
 have e := hm name
 unfold nsFind findBy at e
 rw [<- Array.find?_toList] at e
 unfold PySem.W.lookIn
 rw [hd]
 dsimp only
 split
 . rename_i y q
   rw [q] at e
   exact congrArg some e
 . rename_i q
   rw [q] at e
   have a : es.toList.any (·.refKey) = false := by
    rw [List.any_eq_false]
    intro y hy
    obtain ⟨z, t, JK⟩ := hk y (Array.mem_toList_iff.mp hy)
    simp [DictEntry.refKey, JK]
   have a' : ¬ es.toList.any (·.refKey) = true := by rw [a]; exact Bool.false_ne_true
   rw [if_neg a']
   exact congrArg some e
theorem xG.look {h : Heap} {x dx C : Addr} {mA : Str -> Option Value} (I : xG h x dx C mA) : ∃ od, PySem.W.InstAt h x (PySem.W.instObj C dx) C (some od) /\ ∀ name, PySem.W.lookIn name od = some (mA name) :=
 let ⟨od, ho, hl⟩ := z4 I.ns
 ⟨od, ⟨I.obj, rfl, rfl, ho⟩, hl⟩
section
variable {prog : Program} {w : World} {A : Around} {E : Value -> Shared -> Prop} {s : Shared} {K : PySem.W.Frag} {x dx C f : Addr} {mA : Str -> Option Value} {name : Str} {v : Value}
theorem get_map {expr : Bool} {Q : Value -> Shared -> Prop} (X : K.In s.heap) (I : xG s.heap x dx C mA) (hg : PySem.W.plainGet K C name = true) (hh : PySem.W.hasDictIn K C = true)
 (ha : PySem.W.findIn K (.ref C) name = some none) (hv : mA name = some v) (MO : PySem.W.handedIn v = true) (h : Q v { s with toks := s.toks + 1 }) :
 wpAny (model prog w) A (getAttr (.ref x) name expr) Q E s := by
 obtain ⟨od, J, hl⟩ := I.look
 exact PySem.W.get_value X J (PySem.W.plainGet_of hg).1 (PySem.W.findObj_own hh ha rfl (by rw [hl, hv])) MO h
theorem BK {pl : Sem Bool} {Q : Value × List Value -> Shared -> Prop} (X : K.In s.heap) (I : xG s.heap x dx C mA) (hg : PySem.W.plainGet K C name = true)
 (hf : PySem.W.findIn K (.ref C) name = some (some (.ref f))) (ht : PySem.W.isFn K (.ref f) = true) (hv : mA name = none) (h : Q (.ref f, [.ref x]) s) :
 wpAny (model prog w) A (getMethod (.ref x) name pl) Q E s := by
 obtain ⟨od, J, hl⟩ := I.look
 exact PySem.W.method_fn X J (PySem.W.plainGet_of hg).1 (PySem.W.plainGet_of hg).2 hf (beq_iff_eq.mp ht) (by show (PySem.W.lookIn name od).map (·.isSome) = some false; rw [hl, hv]; rfl) h
theorem Dm {ns : List Str} {Q : Unit -> Shared -> Prop} (X : K.In s.heap) (I : xG s.heap x dx C mA)
 (hs : PySem.W.findIn K (.ref C) "__setattr__" = some (some (.builtin "object.__setattr__"))) (hp : PySem.W.plainOver K C = true) (ht : PySem.W.takerIn K C name = some none) (hh : PySem.W.hasDictIn K C = true)
 (hw : PySem.Within mA ns) (hsz : ns.length <= sizeLine)
 (h : ∀ h', xG h' x dx C (fun y => if y = name then some v else mA y) -> Heap.SameBut dx s.heap h' -> Q () { s with heap := h', toks := s.toks + 2 }) :
 wpAny (model prog w) A (setAttr (.ref x) name v) Q E s := by
 obtain ⟨od, J, hl⟩ := I.look
 refine PySem.W.set_plain X J hs (PySem.W.osa_open (s := { s with toks := s.toks + 1 }) (r := none) X J hp ht fun b => ?_)
 obtain ⟨cd, hc, Ae⟩ := PySem.W.any_some hh
 have hx : s.heap.get? x = some ⟨.ref C, some dx, .plain, #[]⟩ := I.obj
 refine wpAny_bind (wpAny_pure (wpAny_bind (wpAny_bind (wpAny_loadPart hx (wpAny_bind (PySem.W.Looks.here (s := { s with toks := s.toks + 1 }) (PySem.W.looks_clsIn X hc) ?_))))))
 rw [Ae]
 refine wpAny_pure (a := some dx) (wpAny_bind (wpAny_pure (wpAny_bind ?_)))
 refine wpAny_nsSet1 (s := { s with toks := s.toks + 1 }) I.ns fun h' DT Lh => ?_
 obtain ⟨oD, MP, M7, MK, MA, Mg⟩ := DT.count (PySem.Within.cons name v hw)
 refine wpAny_bind (wpAny_lookBehind MK (by rw [MA]; exact pastItsLine_dict (Nat.le_trans Mg (by rw [List.length_cons]; omega))) ?_)
 exact wpAny_pure (h _ ⟨(Lh.2 _ (Ne.symm I.ne)).trans I.obj, DT, I.ne⟩ Lh)
theorem AY {R : Result -> Shared -> Prop} {vs : List Value} {kw : List (Str × Value)} (X : K.In s.heap) (hm : PySem.W.makesIn K C = true)
 (hi : PySem.W.findIn K (.ref C) "__init__" = some (some (.ref f))) (hf : PySem.W.typeIn K (.ref f) = some (.type "function"))
 (h : codeAny (model prog w) (A.under (.builtin "type.__call__" ⟨.ref C :: vs, kw⟩)) (.call (.ref f) ⟨.ref (s.heap.objs.size + 1) :: vs, kw⟩) (PySem.W.InitBack (s.heap.objs.size + 1) R)
  { s with heap := (s.heap.push PySem.W.emptyDict).push (PySem.W.instObj C s.heap.objs.size) }) :
 codeAny (model prog w) A (.call (.ref C) ⟨vs, kw⟩) R s := by
 obtain ⟨hh, g, d, t, os⟩ := s
 exact PySem.W.make_core (PySem.W.makes_of X hm) (PySem.W.looks_findIn X hi) (fun self => PySem.W.bind_fn X self hf) (.inl rfl) h
end
def ji (f : Str) (v : V) : List (Str × V) -> List (Str × V)
 | [] => [(f, v)]
 | (g, x) :: r => if g = f then (g, v) :: r else (g, x) :: ji f v r
theorem qL (f g : Str) (v : V) : ∀ fs : List (Str × V), (ji f v fs).lookup g = if g = f then some v else fs.lookup g
 | [] => by
   show List.lookup g [(f, v)] = _
   by_cases h : g = f
   . have hb : (g == f) = true := beq_iff_eq.mpr h
     simp only [List.lookup, hb, if_pos h]
   . have hb : (g == f) = false := beq_eq_false_iff_ne.mpr h
     simp only [List.lookup, hb, if_neg h]
 | (k, x) :: r => by
   have ih := qL f g v r
   rw [show ji f v ((k, x) :: r) = (if k = f then (k, v) :: r else (k, x) :: ji f v r) from rfl]
   by_cases hk : k = f
   . rw [if_pos hk]
     by_cases h : g = k
     . have hb : (g == k) = true := beq_iff_eq.mpr h
       simp only [List.lookup, hb, if_pos (h.trans hk)]
     . have hb : (g == k) = false := beq_eq_false_iff_ne.mpr h
       simp only [List.lookup, hb, if_neg (fun e : g = f => h (e.trans hk.symm))]
   . rw [if_neg hk]
     by_cases h : g = k
     . have hb : (g == k) = true := beq_iff_eq.mpr h
       simp only [List.lookup, hb, if_neg (fun e : g = f => hk (h.symm.trans e))]
     . have hb : (g == k) = false := beq_eq_false_iff_ne.mpr h
       simp only [List.lookup, hb]
       exact ih
theorem p4 (f : Str) (v : V) : ∀ fs : List (Str × V), f ∈ (ji f v fs).map (·.1) /\ ∀ g, g ∈ fs.map (·.1) -> g ∈ (ji f v fs).map (·.1)
 | [] => ⟨by simp [ji], fun g h => by simp at h⟩
 | (k, x) :: r => by
   obtain ⟨i1, i2⟩ := p4 f v r
   rw [show ji f v ((k, x) :: r) = (if k = f then (k, v) :: r else (k, x) :: ji f v r) from rfl]
   by_cases hk : k = f
   . rw [if_pos hk]
     subst hk
     exact ⟨by simp, fun g h => by simpa using h⟩
   . rw [if_neg hk]
     refine ⟨?_, fun g h => ?_⟩
     . rw [List.map_cons]
       exact List.mem_cons_of_mem _ i1
     . rw [List.map_cons] at h ⊢
       rcases List.mem_cons.mp h with e | e
       . exact List.mem_cons.mpr (.inl e)
       . exact List.mem_cons_of_mem _ (i2 g e)
theorem qE (f : Str) (v : V) : ∀ fs : List (Str × V), (ji f v fs).length <= fs.length + 1
 | [] => by simp [ji]
 | (k, x) :: r => by
   have ih := qE f v r
   rw [show ji f v ((k, x) :: r) = (if k = f then (k, v) :: r else (k, x) :: ji f v r) from rfl]
   by_cases hk : k = f
   . rw [if_pos hk, List.length_cons, List.length_cons]; omega
   . rw [if_neg hk, List.length_cons, List.length_cons]; omega
theorem pL.some_of {v : V} {o : Option Value} (r : pL (some v) o) : ∃ u, o = some u /\ RelV v u := by
 cases o with
 | none => exact (show False from r).elim
 | some u => exact ⟨u, rfl, r⟩
theorem pL.none_of {o : Option Value} (r : pL none o) : o = none := by
 cases o with
 | none => rfl
 | some u => exact (show False from r).elim
theorem zA {v : V} {u : Value} (r : RelV v u) : PySem.W.handedIn u = true := by
 cases v with
 | cf => cases (show u = Value.none from r); rfl
 | bl b => cases (show u = Value.bool b from r); rfl
 | int i => obtain ⟨t, e⟩ := (show ∃ t, u = Value.int i t from r); cases e; rfl
 | str x => obtain ⟨t, e⟩ := (show ∃ t, u = Value.str x t from r); cases e; rfl
 | yD b => obtain ⟨t, e⟩ := (show ∃ t, u = Value.bytes b t from r); cases e; rfl
 | EA b => obtain ⟨t, e⟩ := (show ∃ t, u = Value.float b t from r); cases e; rfl
 | ref a => cases (show u = Value.ref a from r); rfl
 | ty n => cases (show u = Value.type n from r); rfl
section
variable {P : Program} {w : World} {H H' : Hp} {h h' : Heap} {a C dx : Addr} {fs Jf : List (Str × V)}
theorem rE (dP : rh P w H h) (e : H a = some (.ins C dx fs)) : ∃ mA, xG h a dx C mA /\ (∀ f, pL (fs.lookup f) (mA f)) /\ PySem.Within mA (fs.map (·.1)) /\ fs.length <= 1000 /\ H dx = some (.own a) := by
 obtain ⟨d, z, ne, ob, mA, n, r, q⟩ := (show fb P w H h a (.ins C dx fs) from dP a _ e)
 exact ⟨mA, ⟨ob, n, ne⟩, r, q, z, d⟩
end
structure lq (K : PySem.W.Frag) (C : Addr) : Prop where
 pg : PySem.W.plainGet K C Str.empty = true
 hd : PySem.W.hasDictIn K C = true
 po : PySem.W.plainOver K C = true
 sa : PySem.W.findIn K (.ref C) "__setattr__" = some (some (.builtin "object.__setattr__"))
theorem lq.get {K : PySem.W.Frag} {C : Addr} (c : lq K C) (f : Str) : PySem.W.plainGet K C f = true := c.pg
def aJ (K : PySem.W.Frag) (C : Addr) (f : Str) : Prop := PySem.W.findIn K (.ref C) f = some none
theorem aJ.HY {K : PySem.W.Frag} {C : Addr} {f : Str} (n : aJ K C f) : PySem.W.takerIn K C f = some none := by
 unfold PySem.W.takerIn
 rw [show PySem.W.findIn K (.ref C) f = some none from n]
 rfl
structure M8 (K : PySem.W.Frag) (C : Addr) (f : Str) (v : V) (u : Value) : Prop where
 at_ : PySem.W.findIn K (.ref C) f = some (some u)
 rel : RelV v u
 get : PySem.W.specialIn K u "__get__" = some none
 cp : PySem.W.copiedNames.contains f = false
structure Meth (K : PySem.W.Frag) (C : Addr) (m : Str) (f : Addr) : Prop where
 at_ : PySem.W.findIn K (.ref C) m = some (some (.ref f))
 fn : PySem.W.isFn K (.ref f) = true
 kp : PySem.W.keepIn K (.ref f) = true
section
variable {X : Cx} {pins : List (Addr × Obj)} {σ : St} {H : Hp} {s : Shared} {a C dx : Addr} {fs : List (Str × V)} {f : Str} {v : V} {A : Around} {E : Value -> Shared -> Prop}
theorem xu {b : Bool} {Q : Value -> Shared -> Prop} (I : Inv X pins σ H s) (e : H a = some (.ins C dx fs)) (c : lq X.K C) (n : aJ X.K C f) (l : fs.lookup f = some v)
 (h : ∀ u s', Inv X pins σ H s' -> RelV v u -> Q u s') : wpAny (model X.prog X.w) A (getAttr (.ref a) f b) Q E s := by
 obtain ⟨mA, O, r, _, _, _⟩ := rE I.dP e
 obtain ⟨u, hu, ru⟩ := pL.some_of (v := v) (o := mA f) (by rw [<- l]; exact r f)
 exact get_map I.pY O (c.get f) c.hd n hu (zA ru) (h u _ (I.tok _) ru)
theorem sX {m : Str} {g : Addr} {pl : Sem Bool} {Q : Value × List Value -> Shared -> Prop} (I : Inv X pins σ H s) (e : H a = some (.ins C dx fs)) (c : lq X.K C) (k : Meth X.K C m g) (l : fs.lookup m = none)
 (h : Q (.ref g, [.ref a]) s) : wpAny (model X.prog X.w) A (getMethod (.ref a) m pl) Q E s := by
 obtain ⟨mA, O, r, _, _, _⟩ := rE I.dP e
 have hn : mA m = none := pL.none_of (by rw [<- l]; exact r m)
 exact BK I.pY O (c.get m) k.at_ k.fn hn h
theorem xi {y : V} {u : Value} {Q : Unit -> Shared -> Prop} (I : Inv X pins σ H s) (e : H a = some (.ins C dx fs)) (c : lq X.K C) (n : aJ X.K C f) (hl : fs.length < 1000) (ry : RelV y u)
 (h : ∀ s', Inv X pins σ (upd H a (.ins C dx (ji f y fs))) s' -> Q () s') : wpAny (model X.prog X.w) A (setAttr (.ref a) f u) Q E s := by
 obtain ⟨mA, O, r, wi, _, ho⟩ := rE I.dP e
 have hz : (fs.map (·.1)).length <= sizeLine := by rw [List.length_map, sizeLine_eq]; omega
 refine Dm I.pY O c.sa c.po n.HY c.hd wi hz fun h' O' sb => h _ ?_
 have hd : ∃ o, h'.get? dx = some o := let ⟨o, _, _, e', _⟩ := O'.ns; ⟨o, e'⟩
 refine I.write (x := a) (e := dx) (by rw [e]; exact True.intro) (.inr ho) (fun b q hb z => (sb.2 b hb).trans z) hd ?_
 refine ⟨by rw [a8 O.ne]; exact ho, ?_, O.ne, O'.obj, _, O'.ns, fun g => ?_, fun g hg => ?_⟩
 . have := qE f y fs; omega
 . show pL ((ji f y fs).lookup g) (if g = f then some u else mA g)
   rw [qL]
   by_cases q : g = f
   . rw [if_pos q, if_pos q]; exact ry
   . rw [if_neg q, if_neg q]; exact r g
 . by_cases q : g = f
   . rw [q]; exact (p4 f y fs).1
   . refine (p4 f y fs).2 g (wi g fun z => hg ?_)
     show (if g = f then some u else mA g) = none
     rw [if_neg q]; exact z
theorem Inv.made (I : Inv X pins σ H s) : Inv X pins σ (upd (upd H s.heap.objs.size (.own (s.heap.objs.size + 1))) (s.heap.objs.size + 1) (.ins C s.heap.objs.size []))
 { s with heap := (s.heap.push PySem.W.emptyDict).push (PySem.W.instObj C s.heap.objs.size) } := by
 have e1 : (s.heap.push PySem.W.emptyDict).get? s.heap.objs.size = some PySem.W.emptyDict := Heap.get?_push_size s.heap rfl
 have e2 : ((s.heap.push PySem.W.emptyDict).push (PySem.W.instObj C s.heap.objs.size)).get? (s.heap.objs.size + 1) = some (PySem.W.instObj C s.heap.objs.size) := by
  have := Heap.get?_push_size (s.heap.push PySem.W.emptyDict) (o := PySem.W.instObj C s.heap.objs.size) rfl
  rwa [Heap.size_push] at this
 have e3 : (s.heap.push PySem.W.emptyDict).Ns s.heap.objs.size (fun _ => none) := ⟨PySem.W.emptyDict, #[], _, e1, rfl, (fun e he => absurd he (by simp)), fun _ => rfl⟩
 have I1 := I.laid (a := s.heap.objs.size) (o := .own (s.heap.objs.size + 1)) (h' := s.heap.push PySem.W.emptyDict) (t' := s.toks) (fun b u q => Heap.get?_push_of_some _ q) (Nat.le_refl _) ⟨_, e1⟩
 refine I1.laid (a := s.heap.objs.size + 1) (o := .ins C s.heap.objs.size []) (t' := s.toks) (fun b u q => Heap.get?_push_of_some _ q) (Nat.le_of_eq (Heap.size_push _ _)) ?_
 have ne : s.heap.objs.size ≠ s.heap.objs.size + 1 := Nat.ne_of_lt (Nat.lt_succ_self _)
 refine ⟨by rw [a8 ne, bI], Nat.zero_le _, ne, e2, fun _ => none, (Heap.Ns1.of_empty e3).at fun o q => Heap.get?_push_of_some _ q, fun _ => True.intro, fun y hy => absurd rfl hy⟩
theorem B6 {prog : Program} {w : World} {env : Env} {e : Expr} {f : Str} {pos : Pos} {s : Shared} {Q : Value -> Shared -> Prop} (hb : attributeBase e f env (eval e env) = eval e env)
 (h : wpAny (model prog w) A (eval e env) (fun o s₁ => wpAny (model prog w) A (getAttr o f true) Q E s₁) E s) : wpAny (model prog w) A (eval (.Attribute e f pos) env) Q E s :=
 Attribute_any_ h (by rw [arm_eval_Attribute, hb])
end
def Hv (K : PySem.W.Frag) (ta : TE) (f : Str) : TE := fun σ H Q => ta σ H fun x H1 => ∃ a C dx fs v, x = .ref a /\ H1 a = some (.ins C dx fs) /\ lq K C /\ aJ K C f /\ fs.lookup f = some v /\ Q v H1
def HK (K : PySem.W.Frag) (ta tv : TE) (f : Str) : TS := fun D σ H => tv σ H fun y H1 => ta σ H1 fun x H2 => ∃ a C dx fs, x = .ref a /\ H2 a = some (.ins C dx fs) /\ lq K C /\ aJ K C f /\ fs.length < 1000 /\
 D.nx σ (upd H2 a (.ins C dx (ji f y fs)))
section
variable {X : Cx} {o e value : Expr} {f : Str} {pos pos' J6 : Pos} {ta tv : TE}
theorem aH (he : PE X e ta) (hb : attributeBase e f X.env (eval e X.env) = eval e X.env) : PE X (.Attribute e f pos) (Hv X.K ta f) := by
 intro pins s σ H Q I h
 refine B6 hb (df (he pins s σ H _ I h) fun u s1 ⟨x, H1, I1, rx, a, C, dx, fs, v, ex, ea, c, n, l, q⟩ => ?_)
 subst ex
 obtain rfl : u = Value.ref a := rx
 exact xu I1 ea c n l fun u' s2 I2 ru => ⟨v, H1, I2, ru, q⟩
theorem iI (ha : PE X o ta) (hv : PE X value tv) (hs : swapsWith value (some (.Attribute o f pos')) pos.line X.env = pure false) : PS X (.Assign [.Attribute o f pos'] value pos) (HK X.K ta tv f) := by
 intro pins s σ H D I h
 refine plainObj_wpAny_Assign_Attribute (df (hv pins s σ H _ I h) fun u s1 ⟨y, H1, I1, ry, q⟩ => df (ha pins s1 σ H1 _ I1 q) fun ov s2 ⟨x, H2, I2, rx, a, C, dx, fs, ex, ea, c, n, l, q2⟩ => ?_) hs
 subst ex
 obtain rfl : ov = Value.ref a := rx
 exact xi I2 ea c n l ry fun s3 I3 => ⟨σ, _, I3, q2⟩
end
section
variable {X : Cx} {pins : List (Addr × Obj)} {σ : St} {H : Hp} {s : Shared} {A : Around} {E : Value -> Shared -> Prop} {Q : Value -> Shared -> Prop} {c : Value} {b : Bool}
inductive oW (K : PySem.W.Frag) (H : Hp) : V -> Value -> Prop where
 | cf : oW K H .cf (.type "NoneType")
 | bl (x : Bool) : oW K H (.bl x) (.type "bool")
 | int (i : Int) : oW K H (.int i) (.type "int")
 | str (x : Str) : oW K H (.str x) (.type "str")
 | EA (x : UInt64) : oW K H (.EA x) (.type "float")
 | lst {a : Addr} {xs : List V} (e : H a = some (.lst xs)) : oW K H (.ref a) (.type "list")
 | xh {a : Addr} {o : Obj} {xs : List V} (e : H a = some (.xh o (.lst xs))) : oW K H (.ref a) (.type "list")
 | tup {a : Addr} {xs : List V} (e : H a = some (.tup xs)) : oW K H (.ref a) (.type "tuple")
 | dK {a : Addr} {e9 : List (Key × V)} (e : H a = some (.dK e9)) : oW K H (.ref a) (.type "dict")
 | dT {a : Addr} {e9 : List (List Key × V)} (e : H a = some (.dT e9)) : oW K H (.ref a) (.type "dict")
 | ins {a C dx : Addr} {fs : List (Str × V)} (e : H a = some (.ins C dx fs)) (cl : lq K C) (ha : PySem.W.findIn K (.ref C) "__class__" = some (some (.builtin "object.__class__")))
  (hn : PySem.W.specialIn K (.builtin "object.__class__") "__get__" = some (some (.builtin "getset_descriptor.__get__"))) (DZ : PySem.W.takesIn K (.builtin "object.__class__") = some true)
  (hm : PySem.W.mroIn K C (.type "object") = some true) : oW K H (.ref a) (.ref C)
theorem y7 {x : V} {u t : Value} (I : Inv X pins σ H s) (rx : RelV x u) (ty : oW X.K H x t) (e : PySem.W.kitOne X.K t c = some b) (h : ∀ tk, Q (.bool b) { s with toks := tk }) :
 wpAny (model X.prog X.w) A (call (.builtin "isinstance") [u, c]) Q E s := by
 cases ty with
 | cf => cases (show u = Value.none from rx); exact PySem.W.kia_one PySem.W.kitx_none I.pY True.intro e (fun z => nomatch z) h
 | bl y => cases (show u = Value.bool y from rx); exact PySem.W.kia_one PySem.W.kitx_bool I.pY True.intro e (fun z => nomatch z) h
 | int i => obtain ⟨t, q⟩ := (show ∃ t, u = Value.int i t from rx); cases q; exact PySem.W.kia_one PySem.W.kitx_int I.pY True.intro e (fun z => nomatch z) h
 | str y => obtain ⟨t, q⟩ := (show ∃ t, u = Value.str y t from rx); cases q; exact PySem.W.kia_one PySem.W.kitx_str I.pY True.intro e (fun z => nomatch z) h
 | EA y => obtain ⟨t, q⟩ := (show ∃ t, u = Value.float y t from rx); cases q; exact PySem.W.kia_one PySem.W.kitx_float I.pY True.intro e (fun z => nomatch z) h
 | @lst a xs ea =>
   cases (show u = Value.ref a from rx)
   obtain ⟨_, _, n, _, h1⟩ := (show fb X.prog X.w H s.heap a (.lst xs) from I.dP a _ ea)
   exact PySem.W.kia_one PySem.W.kitx_list I.pY ⟨_, h1, rfl⟩ e (fun z => nomatch z) h
 | @xh a ob xs ea =>
   cases (show u = Value.ref a from rx)
   obtain ⟨_, _, _, n, _, h1⟩ := (show fb X.prog X.w H s.heap a (.xh ob (.lst xs)) from I.dP a _ ea)
   exact PySem.W.kia_one PySem.W.kitx_list I.pY ⟨_, h1, rfl⟩ e (fun z => nomatch z) h
 | @tup a xs ea =>
   cases (show u = Value.ref a from rx)
   obtain ⟨_, _, _, p⟩ := (show fb X.prog X.w H s.heap a (.tup xs) from I.dP a _ ea)
   obtain ⟨o, h1, h2, _⟩ := p
   exact PySem.W.kia_one PySem.W.kitx_tuple I.pY ⟨o, h1, h2⟩ e (fun z => nomatch z) h
 | @dK a e9 ea =>
   cases (show u = Value.ref a from rx)
   obtain ⟨_, _, vs, _, p⟩ := (show fb X.prog X.w H s.heap a (.dK e9) from I.dP a _ ea)
   obtain ⟨o, es, ep, h1, h2, _⟩ := p
   exact PySem.W.kia_one PySem.W.kitx_dict I.pY ⟨o, h1, h2.1⟩ e (fun z => nomatch z) h
 | @dT a e9 ea =>
   cases (show u = Value.ref a from rx)
   obtain ⟨_, _, xs, _, o, es, ep, h1, h2, _⟩ := (show fb X.prog X.w H s.heap a (.dT e9) from I.dP a _ ea)
   exact PySem.W.kia_one PySem.W.kitx_dict I.pY ⟨o, h1, h2.1⟩ e (fun z => nomatch z) h
 | @ins a C dx fs ea cl ha hn DZ hm =>
   cases (show u = Value.ref a from rx)
   obtain ⟨mA, O, _⟩ := rE I.dP ea
   obtain ⟨od, J, _⟩ := O.look
   exact PySem.W.kia_one (PySem.W.kitx_own (cl.get _) cl.hd ha hn DZ hm) I.pY J e (fun z => nomatch z) h
end
structure de (k : Nat) (A : Around) : Prop where
 hd : A.handled = none
 dp : A.depth + 3 * k + 5 < recursionLimit
 un : A.units + 16 * k + 200 < cLine
theorem de.mono {j k : Nat} {A : Around} (r : de k A) (h : j <= k) : de j A := ⟨r.hd, by have := r.dp; omega, by have := r.un; omega⟩
theorem de.deeper {k : Nat} {A : Around} (r : de (k + 1) A) (env : Env) : de k (A.deeper env) :=
 ⟨r.hd, by have := r.dp; show A.depth + 1 + 3 * k + 5 < _; omega, by have := r.un; show A.units + 3 + 16 * k + 200 < _; omega⟩
theorem xZ {A : Around} {C : Addr} {us : List Value} {kw : List (Str × Value)} : (A.under (.builtin "type.__call__" ⟨.ref C :: us, kw⟩)).depth = A.depth + 1 := by
 first | rfl | simp [Around.under, Code.weight, Code.isCreation, Code.isGuard, Code.isCaller, Code.frames, Code.isFrame, guardIds]
theorem xX {A : Around} {C : Addr} {us : List Value} {kw : List (Str × Value)} : (A.under (.builtin "type.__call__" ⟨.ref C :: us, kw⟩)).units = A.units + 1 := by
 first | rfl | simp [Around.under, Code.cUnits, Code.frames, Code.isFrame]
theorem de.make {k : Nat} {A : Around} (r : de (k + 1) A) (C : Addr) (us : List Value) (kw : List (Str × Value)) : de k (A.under (.builtin "type.__call__" ⟨.ref C :: us, kw⟩)) :=
 ⟨r.hd, by have := r.dp; rw [xZ]; omega, by have := r.un; rw [xX]; omega⟩
theorem de.depth {k : Nat} {A : Around} (r : de k A) : A.depth < recursionLimit := by have := r.dp; omega
theorem de.units {k : Nat} {A : Around} (r : de k A) : A.units + 64 < cLine := by have := r.un; omega
def AW : TA := fun _ H Q => Q [] H
def Ea (ta : TE) (tr : TA) : TA := fun σ H Q => ta σ H fun x H1 => tr σ H1 fun xs H2 => Q (x :: xs) H2
section
variable {X : Cx} {e : Expr} {es : List Expr} {te : TE} {t : TA} {pos : Pos}
theorem af : PA X [] AW := fun _ _ _ _ H Q I h => Calls.spliced_nil ⟨[], H, I, .nil, h⟩
theorem ae (ha : PE X e te) (hr : PA X es t) (hs : starEach (e :: es) X.env = (false, eval e X.env) :: starEach es X.env := by rfl) : PA X (e :: es) (Ea te t) := by
 intro pos pins s σ H Q I h
 rw [hs]
 show wpAny _ _ (spliced ((false, eval e X.env) :: backTo pos (starEach es X.env))) _ _ s
 refine Calls.spliced_cons (df (ha pins s σ H _ I h) fun u s1 ⟨x, H1, I1, r1, q1⟩ => ?_)
 exact df (hr pos pins s1 σ H1 _ I1 q1) fun us s2 ⟨xs, H2, I2, r2, q2⟩ => ⟨x :: xs, H2, I2, .cons r1 r2, q2⟩
def KP (t : TA) : TE := fun σ H Q => t σ H fun xs H1 => xs.length <= sizeLine /\ ∀ p, H1 p = none -> Q (.ref p) (upd H1 p (.tup xs))
def JM (t : TA) : TE := fun σ H Q => t σ H fun xs H1 => xs.length <= sizeLine /\ ∀ p, H1 p = none -> Q (.ref p) (upd H1 p (.lst xs))
theorem Ft {x1} (h : PA X es t) : PE X (.Tuple es x1 pos) (KP t) := by
 intro pins s σ H Q I hq
 refine wpAny_Tuple_spliced (df (h pos pins s σ H _ I hq) fun us s1 ⟨xs, H1, I1, r, z, q⟩ => ⟨by rw [<- r.length]; exact z, ?_⟩)
 have hf : H1 s1.heap.objs.size = none := I1.dP.fresh (Nat.le_refl _)
 refine ⟨.ref s1.heap.objs.size, upd H1 s1.heap.objs.size (.tup xs), I1.laid (t' := s1.toks) (fun b u e => Heap.get?_push_of_some _ e) (Nat.le_refl _) ?_, rfl, q _ hf⟩
 exact ⟨z, us, r, ⟨_, Heap.get?_push_size _ rfl, rfl, _, rfl⟩⟩
theorem EE (h : PA X es t) : PE X (.List es pos) (JM t) := by
 intro pins s σ H Q I hq
 refine wpAny_List_spliced (df (h pos pins s σ H _ I hq) fun us s1 ⟨xs, H1, I1, r, z, q⟩ => ⟨by rw [<- r.length]; exact z, ?_⟩)
 have hf : H1 s1.heap.objs.size = none := I1.dP.fresh (Nat.le_refl _)
 refine ⟨.ref s1.heap.objs.size, upd H1 s1.heap.objs.size (.lst xs), I1.laid (t' := s1.toks) (fun b u e => Heap.get?_push_of_some _ e) (Nat.le_refl _) ?_, rfl, q _ hf⟩
 exact ⟨z, us, 0, r, Heap.get?_push_size _ rfl⟩
end
abbrev Sp := List V -> Hp -> VK -> XK -> Prop
abbrev v9 := List Env -> Hp -> Shared -> XK -> Value -> Shared -> Prop
structure xH (P : Program) (w : World) (K : PySem.W.Frag) (mg : Str -> Option Value) (base : Heap) (A : Around) (outer : List Env) (s : Shared) (H : Hp) : Prop where
 frames : A.frames = some outer
 mod : Mod K mg base
 bs : ∀ b o, base.get? b = some o -> s.heap.get? b = some o /\ H b = none
 Af : base.objs.size <= s.heap.objs.size
 nY : s.heap.FunFrames base outer
 BQ : ∀ b ∈ wM outer, H b = none
 dP : rh P w H s.heap
 bare : AllBare s.gens
def CE (outer : List Env) (P : Program) (w : World) (H : Hp) (s : Shared) (Q : VK) (u : Value) (s' : Shared) : Prop :=
 ∃ v H', s'.os = s.os /\ AllBare s'.gens /\ Un (wM outer) [] H H' s.heap s'.heap /\ rh P w H' s'.heap /\ RelV v u /\ Q v H'
def CR (CX : v9) (outer : List Env) (P : Program) (w : World) (H : Hp) (s : Shared) (Q : VK) (E : XK) (r : Result) (s' : Shared) : Prop :=
 match r with
 | .ok (.ret u) => CE outer P w H s Q u s'
 | .ok _ => False
 | .error e => CX outer H s E e s'
structure aV (P : Program) (w : World) (K : PySem.W.Frag) (mg : Str -> Option Value) (base : Heap) (CX : v9) (k : Nat) (f : Addr) (fd : FuncData) (ps : List Str) (sp : Sp) : Prop where
 len : ∀ vs H Q E, sp vs H Q E -> vs.length = ps.length
 run : ∀ (A : Around) (outer : List Env) (s : Shared) (H : Hp) (args : Args) (us : List Value) (vs : List V) (Q : VK) (E : XK), de k A -> xH P w K mg base A outer s H -> BindsTo s fd args (ps.zip us) -> Vals vs us -> sp vs H Q E ->
  codeAny (model P w) A (.call (.ref f) args) (CR CX outer P w H s Q E) s
theorem aV.mono {P : Program} {w : World} {K : PySem.W.Frag} {mg : Str -> Option Value} {base : Heap} {CX : v9} {j k : Nat} {f : Addr} {fd : FuncData} {ps : List Str} {sp : Sp} (F : aV P w K mg base CX j f fd ps sp) (h : j <= k) :
 aV P w K mg base CX k f fd ps sp := ⟨F.len, fun A outer s H args us vs Q E hr => F.run A outer s H args us vs Q E (hr.mono h)⟩
theorem xH.make {P : Program} {w : World} {K : PySem.W.Frag} {mg : Str -> Option Value} {base : Heap} {A : Around} {outer : List Env} {s : Shared} {H : Hp} (e : xH P w K mg base A outer s H) (C : Addr) (us : List Value) (kw : List (Str × Value)) :
 xH P w K mg base (A.under (.builtin "type.__call__" ⟨.ref C :: us, kw⟩)) outer s H := ⟨by first | exact e.frames | (simpa [Around.under, Code.envs, Code.isFrame, pushEnvs] using e.frames), e.mod, e.bs, e.Af, e.nY, e.BQ, e.dP, e.bare⟩
section
variable {X : Cx} {pins : List (Addr × Obj)} {σ : St} {H : Hp} {s s' : Shared}
theorem Inv.Hi (I : Inv X pins σ H s) : xH X.prog X.w X.K X.mg X.base X.A X.stack s H :=
 ⟨I.ok.frames, I.ok.mod, I.bs, Nat.le_trans I.ok.Af I.sz, I.stack, I.yw, I.dP, I.bare⟩
theorem Inv.after {Q : VK} {u : Value} (I : Inv X pins σ H s) (h : CE X.stack X.prog X.w H s Q u s') : EP X pins σ Q u s' := by
 obtain ⟨v, H', os, bare, un, dP, r, q⟩ := h
 obtain ⟨hh, g, d, t, Mf⟩ := s'
 obtain rfl : Mf = s.os := os
 exact ⟨v, H', I.call (h' := hh) (g' := g) (d' := d) (t' := t) (ch := []) un dP bare (fun b z => absurd z (by simp)), r, q⟩
end
def ui (sp : Sp) (dg : List V) (E : XK) (t : TA) : TE := fun σ H Q => t σ H fun vs H1 => sp (vs ++ dg) H1 Q E
def uf (C : Addr) (m : Str) (sp : Sp) (dg : List V) (E : XK) (ta : TE) (t : TA) : TE := fun σ H Q => ta σ H fun x H1 => ∃ a dx fs, x = .ref a /\ H1 a = some (.ins C dx fs) /\ fs.lookup m = none /\
 t σ H1 fun vs H2 => sp (x :: (vs ++ dg)) H2 Q E
def yE (C : Addr) (sp : Sp) (dg : List V) (E : XK) (t : TA) : TE := fun σ H Q => t σ H fun vs H1 => ∀ x dx, H1 x = none -> H1 dx = none -> dx ≠ x ->
 sp (.ref x :: (vs ++ dg)) (upd (upd H1 dx (.own x)) x (.ins C dx [])) (fun v H2 => v = .cf /\ Q (.ref x) H2) E
def Binds (K : PySem.W.Frag) (fd : FuncData) (ps : List Str) (ds : List Value) : Prop :=
 ∀ (s : Shared) (us : List Value), K.In s.heap -> (us ++ ds).length = ps.length -> BindsTo s fd ⟨us, []⟩ (ps.zip (us ++ ds))
theorem Binds.all {K : PySem.W.Frag} {fd : FuncData} {ps : List Str} (h : ∀ us : List Value, us.length = ps.length -> bindArgs fd ⟨us, []⟩ = pure (ps.zip us)) : Binds K fd ps [] := fun s us _ hl => by
 rw [List.append_nil] at hl ⊢
 exact .of_eq (h us hl)
def Passes (CX : v9) (X : Cx) (E : XK) : Prop := ∀ (pins : List (Addr × Obj)) (σ : St) (H : Hp) (s : Shared) (e : Value) (s' : Shared), Inv X pins σ H s -> CX X.stack H s E e s' -> X.xe e s'
section
variable {X : Cx} {CX : v9} {k : Nat} {f C : Addr} {fd : FuncData} {ps : List Str} {sp : Sp} {dg : List V} {ds : List Value} {E : XK} {x m : Str} {p pos apos : Pos} {e o : Expr} {es : List Expr} {ta : TE} {t : TA}
theorem vv {pins : List (Addr × Obj)} {σ : St} {H : Hp} {s : Shared} {Q : VK} {us : List Value} {vs : List V} (F : aV X.prog X.w X.K X.mg X.base CX k f fd ps sp) (hr : de k X.A) (hb : Binds X.K fd ps ds) (hd : Vals dg ds) (hx : Passes CX X E)
 (I : Inv X pins σ H s) (r : Vals vs us) (h : sp (vs ++ dg) H Q E) : wpAny (model X.prog X.w) X.A (call (.ref f) us) (EP X pins σ Q) X.xe s := by
 have r2 : Vals (vs ++ dg) (us ++ ds) := r.append hd
 have hl : (us ++ ds).length = ps.length := by rw [<- r2.length]; exact F.len _ _ _ _ h
 refine wpAny_call (codeAny_mono (F.run X.A X.stack s H ⟨us, []⟩ (us ++ ds) (vs ++ dg) Q E hr I.Hi (hb s us I.pY hl) r2 h) fun r s' hq => ?_)
 cases r with
 | error e => exact hx pins σ H s e s' I hq
 | ok fl =>
   cases fl with
   | ret u => exact I.after hq
   | next => exact False.elim hq
   | brk => exact False.elim hq
   | cont => exact False.elim hq
theorem Ct (F : aV X.prog X.w X.K X.mg X.base CX k f fd ps sp) (hr : de k X.A) (hg : Gl X x) (hm : X.mg x = some (.ref f)) (hk : PySem.W.keepIn X.K (.ref f) = true) (hb : Binds X.K fd ps ds) (hd : Vals dg ds) (hx : Passes CX X E)
 (ha : PA X (e :: es) t) (tP : (x == ("__debug__" : Str)) = false := by decide) (he : starEach (e :: es) X.env = (false, eval e X.env) :: starEach es X.env := by rfl) (pX : (backTo pos (starEach es X.env)).any (·.1) = false := by rfl) :
 PE X (.Call (.Name x p) (e :: es) [] pos) (ui sp dg E t) := by
 intro pins s σ H Q I h
 refine wpAny_Call_Name_kw (rN I hg hm ?_ tP)
 refine PySem.W.callWith_K (h₀ := X.base) I.ok.mod.Fp hk (df (ha pos pins s σ H _ I h) fun us s1 ⟨vs, H1, I1, r, q⟩ => ⟨I1.pY, ?_⟩) he pX
 exact vv F hr hb hd hx I1 r q
theorem CY {pl : Sem Bool} (he : PE X o ta) (c : lq X.K C) (hm : Meth X.K C m f) (F : aV X.prog X.w X.K X.mg X.base CX k f fd ps sp) (hr : de k X.A) (hb : Binds X.K fd ps ds) (hd : Vals dg ds) (hx : Passes CX X E) (ha : PA X (e :: es) t)
 (zO : starEach (e :: es) X.env = (false, eval e X.env) :: starEach es X.env := by rfl) (pX : (backTo pos (starEach es X.env)).any (·.1) = false := by rfl)
 (ht : eval (.Call (.Attribute o m apos) (e :: es) [] pos) X.env = (do
  let ov <- eval o X.env
  standAt apos.atName
  let (f, first) <- holding [ov] (getMethod ov m pl)
  callWith pos f first (backTo pos (starEach (e :: es) X.env)) (backToKw pos (keywordEach [] X.env))) := by rfl) :
 PE X (.Call (.Attribute o m apos) (e :: es) [] pos) (uf C m sp dg E ta t) := by
 intro pins s σ H Q I h
 refine PySem.W.methodCall_KW (pl := pl) (df (he pins s σ H _ I h) fun u s1 ⟨x, H1, I1, rx, a, dx, fs, ex, ea, l, q⟩ => ?_) ht
 subst ex
 obtain rfl : u = Value.ref a := rx
 refine sX I1 ea c hm l ?_
 refine PySem.W.callWith_K (first := [.ref a]) (h₀ := X.base) I.ok.mod.Fp hm.kp (df (ha pos pins s1 σ H1 _ I1 q) fun us s2 ⟨vs, H2, I2, r, q2⟩ => ⟨I2.pY, ?_⟩) zO pX
 exact vv (us := .ref a :: us) (vs := .ref a :: vs) F hr hb hd hx I2 (.cons rfl r) q2
theorem A9 {pl : Sem Bool} (he : PE X o ta) (c : lq X.K C) (hm : Meth X.K C m f) (F : aV X.prog X.w X.K X.mg X.base CX k f fd ps sp) (hr : de k X.A) (hb : Binds X.K fd ps ds) (hd : Vals dg ds) (hx : Passes CX X E)
 (ht : eval (.Call (.Attribute o m apos) [] [] pos) X.env = (do
  let ov <- eval o X.env
  standAt apos.atName
  let (f, first) <- holding [ov] (getMethod ov m pl)
  callWith pos f first (backTo pos (starEach [] X.env)) (backToKw pos (keywordEach [] X.env))) := by rfl) :
 PE X (.Call (.Attribute o m apos) [] [] pos) (uf C m sp dg E ta AW) := by
 intro pins s σ H Q I h
 refine PySem.W.methodCall_KW (pl := pl) (df (he pins s σ H _ I h) fun u s1 ⟨x, H1, I1, rx, a, dx, fs, ex, ea, l, q⟩ => ?_) ht
 subst ex
 obtain rfl : u = Value.ref a := rx
 refine sX I1 ea c hm l ?_
 exact PySem.W.callWith_K0 (first := [.ref a]) I1.pY hm.kp (vv (us := [.ref a]) (vs := [.ref a]) F hr hb hd hx I1 (.cons rfl .nil) q)
structure Mk (K : PySem.W.Frag) (C f : Addr) : Prop where
 makes : PySem.W.makesIn K C = true
 init : PySem.W.findIn K (.ref C) "__init__" = some (some (.ref f))
 fn : PySem.W.isFn K (.ref f) = true
 kp : PySem.W.keepIn K (.ref C) = true
theorem AV {pins : List (Addr × Obj)} {σ : St} {H : Hp} {s : Shared} {Q : VK} {us : List Value} {vs : List V} (M : Mk X.K C f) (F : aV X.prog X.w X.K X.mg X.base CX k f fd ps sp) (hr : de (k + 1) X.A) (hb : Binds X.K fd ps ds) (hd : Vals dg ds)
 (hx : Passes CX X E) (I : Inv X pins σ H s) (r : Vals vs us)
 (h : ∀ x dx, H x = none -> H dx = none -> dx ≠ x -> sp (.ref x :: (vs ++ dg)) (upd (upd H dx (.own x)) x (.ins C dx [])) (fun v H2 => v = .cf /\ Q (.ref x) H2) E) :
 wpAny (model X.prog X.w) X.A (call (.ref C) us) (EP X pins σ Q) X.xe s := by
 have hq := h (s.heap.objs.size + 1) s.heap.objs.size (I.dP.fresh (Nat.le_succ _)) (I.dP.fresh (Nat.le_refl _)) (Nat.ne_of_lt (Nat.lt_succ_self _))
 have I2 := Inv.made (C := C) I
 have r2 : Vals (V.ref (s.heap.objs.size + 1) :: (vs ++ dg)) (Value.ref (s.heap.objs.size + 1) :: (us ++ ds)) := .cons rfl (r.append hd)
 have hl : (Value.ref (s.heap.objs.size + 1) :: us ++ ds).length = ps.length := by
  have e := r2.length
  rw [F.len _ _ _ _ hq] at e
  exact e.symm
 refine wpAny_call (AY (f := f) I.pY M.makes M.init (beq_iff_eq.mp M.fn) (codeAny_mono (F.run _ X.stack _ _ ⟨Value.ref (s.heap.objs.size + 1) :: us, []⟩ (Value.ref (s.heap.objs.size + 1) :: (us ++ ds)) _ _ E (hr.make C us [])
  (I2.Hi.make C us []) (hb _ (Value.ref (s.heap.objs.size + 1) :: us) I2.pY hl) r2 hq) fun r s' F9 => ?_))
 cases r with
 | error e => exact hx pins σ _ _ e s' I2 F9
 | ok fl =>
   cases fl with
   | ret u =>
     obtain ⟨v, H', I3, rv, ev, q3⟩ := I2.after F9
     subst ev
     exact ⟨rv, ⟨V.ref (s.heap.objs.size + 1), H', I3, rfl, q3⟩⟩
   | next => exact False.elim F9
   | brk => exact False.elim F9
   | cont => exact False.elim F9
theorem DK (M : Mk X.K C f) (F : aV X.prog X.w X.K X.mg X.base CX k f fd ps sp) (hr : de (k + 1) X.A) (hg : Gl X x) (hm : X.mg x = some (.ref C)) (hb : Binds X.K fd ps ds) (hd : Vals dg ds) (hx : Passes CX X E)
 (ha : PA X (e :: es) t) (tP : (x == ("__debug__" : Str)) = false := by decide) (he : starEach (e :: es) X.env = (false, eval e X.env) :: starEach es X.env := by rfl) (pX : (backTo pos (starEach es X.env)).any (·.1) = false := by rfl) :
 PE X (.Call (.Name x p) (e :: es) [] pos) (yE C sp dg E t) := by
 intro pins s σ H Q I h
 refine wpAny_Call_Name_kw (rN I hg hm ?_ tP)
 refine PySem.W.callWith_K (h₀ := X.base) I.ok.mod.Fp M.kp (df (ha pos pins s σ H _ I h) fun us s1 ⟨vs, H1, I1, r, q⟩ => ⟨I1.pY, ?_⟩) he pX
 exact AV M F hr hb hd hx I1 r q
end
section
variable {X : Cx} {CX : v9} {k : Nat} {f C : Addr} {fd : FuncData} {ps ks : List Str} {sp : Sp} {E : XK} {x m : Str} {p pos apos JU : Pos} {e o : Expr} {es : List Expr} {Nc : List Keyword} {te ta : TE} {t tk : TA} {nm : Option Str}
structure KZ (K : PySem.W.Frag) (fd : FuncData) (ps ks : List Str) (g : List Value -> List Value -> List Value) (gV : List V -> List V -> List V) : Prop where
 to : ∀ (s : Shared) (us ws : List Value), K.In s.heap -> (g us ws).length = ps.length -> BindsTo s fd ⟨us, ks.zip ws⟩ (ps.zip (g us ws))
 rel : ∀ {vs : List V} {us : List Value} {zs : List V} {ws : List Value}, Vals vs us -> Vals zs ws -> Vals (gV vs zs) (g us ws)
variable {g : List Value -> List Value -> List Value} {gV : List V -> List V -> List V}
end
structure aB (N P : List Str) (sc : Scope) : Prop where
 kind : sc.kind = .function
 co : sc.isCoroutine = false
 gen : sc.isGenerator = false
 nd : N.Nodup
 pre : N.take P.length = P
 par : ∀ x ∈ P, sc.names.lookup x = some .local \/ sc.names.lookup x = some .cell
 Fx : ∀ y ∈ sc.names, y.2 ≠ .free
theorem uy {kindOf : Str -> Option NameKind} {x : Str} : ∀ {binds : List (Str × Value)} {m : Str -> Option Value}, (∀ v, (x, v) ∉ binds) -> bindL kindOf binds m x = m x
 | [], _, _ => rfl
 | (n, v) :: r, m, h => by
   unfold bindL
   rw [uy fun w hw => h w (List.mem_cons_of_mem _ hw)]
   split
   . have : x ≠ n := by rintro rfl; exact h v List.mem_cons_self
     simp [this]
   . rfl
theorem ud {kindOf : Str -> Option NameKind} {x : Str} : ∀ {binds : List (Str × Value)} {m : Str -> Option Value}, (∀ v, (x, v) ∉ binds) -> bindC kindOf binds m x = m x
 | [], _, _ => rfl
 | (n, v) :: r, m, h => by
   unfold bindC
   rw [ud fun w hw => h w (List.mem_cons_of_mem _ hw)]
   split
   . rfl
   . have : x ≠ n := by rintro rfl; exact h v List.mem_cons_self
     simp [this]
theorem um {kindOf : Str -> Option NameKind} {x : Str} {v : Value} : ∀ {P : List Str} {vs : List Value} {i : Nat} {m : Str -> Option Value}, P.Nodup -> P[i]? = some x -> vs[i]? = some v -> kindOf x = some .local ->
 bindL kindOf (P.zip vs) m x = some v
 | [], _, _, _, _, h, _, _ => by simp at h
 | _ :: _, [], _, _, _, _, h, _ => by simp at h
 | p :: P, w :: vs, 0, m, nd, h1, h2, hk => by
   simp at h1 h2; subst h1; subst h2
   show bindL kindOf ((p, w) :: P.zip vs) m p = _
   unfold bindL
   rw [uy fun v hv => (List.nodup_cons.mp nd).1 (List.of_mem_zip hv).1, if_pos hk]
   simp
 | p :: P, w :: vs, i + 1, m, nd, h1, h2, hk => by
   show bindL kindOf ((p, w) :: P.zip vs) m x = _
   unfold bindL
   exact um (i := i) (List.nodup_cons.mp nd).2 (by simpa using h1) (by simpa using h2) hk
theorem t4 {kindOf : Str -> Option NameKind} {x : Str} {v : Value} : ∀ {P : List Str} {vs : List Value} {i : Nat} {m : Str -> Option Value}, P.Nodup -> P[i]? = some x -> vs[i]? = some v -> kindOf x ≠ some .local ->
 bindC kindOf (P.zip vs) m x = some v
 | [], _, _, _, _, h, _, _ => by simp at h
 | _ :: _, [], _, _, _, _, h, _ => by simp at h
 | p :: P, w :: vs, 0, m, nd, h1, h2, hk => by
   simp at h1 h2; subst h1; subst h2
   show bindC kindOf ((p, w) :: P.zip vs) m p = _
   unfold bindC
   rw [ud fun v hv => (List.nodup_cons.mp nd).1 (List.of_mem_zip hv).1, if_neg hk]
   simp
 | p :: P, w :: vs, i + 1, m, nd, h1, h2, hk => by
   show bindC kindOf ((p, w) :: P.zip vs) m x = _
   unfold bindC
   exact t4 (i := i) (List.nodup_cons.mp nd).2 (by simpa using h1) (by simpa using h2) hk
def start (N : List Str) (vs : List V) : St := vs.map some ++ List.replicate (N.length - vs.length) none
def zI (CX : v9) (P : Program) (w : World) (K : PySem.W.Frag) (mg : Str -> Option Value) (base : Heap) (N : List Str) (qual : Str) (scope : Scope) (f : Addr) (cd : Value) (A : Around) (outer : List Env) (s : Shared) (H : Hp) (E : XK) : Cx where
 prog := P
 w := w
 K := K
 mg := mg
 base := base
 A := A.deeper (envOfC qual scope s.heap.objs.size f cd)
 N := N
 gL := s
 BM := H
 env := envOfC qual scope s.heap.objs.size f cd
 outer := outer
 stack := envOfC qual scope s.heap.objs.size f cd :: outer
 ex := []
 calm := true
 fn := fun _ => true
 pn := []
 xe := fun e s' => wpAny (model P w) (A.deeper (envOfC qual scope s.heap.objs.size f cd)) (leaving (envOfC qual scope s.heap.objs.size f cd) e) (fun _ Ky => CX outer H s E e Ky) (fun e' Ky => CX outer H s E e' Ky) s'
theorem wF {sc : Scope} {n : Nat} {x : Str} (h : sc.names.lookup x = some .cell) : ∃ c, (cellsFrom n sc.names []).lookup x = some c := by
 have q := PySem.W.cellsFrom_some sc.names n [] (.inl h)
 exact Option.isSome_iff_exists.mp q
theorem zG {CX : v9} {P : Program} {w : World} {K : PySem.W.Frag} {mg : Str -> Option Value} {base : Heap} {N ps : List Str} {qual : Str} {scope : Scope} {f : Addr} {cd : Value} {A : Around} {outer : List Env} {s s1 : Shared} {H : Hp} {E : XK} {us : List Value} {vs : List V}
 (S : aB N ps scope) (hd : A.handled = none) (e0 : xH P w K mg base A outer s H) (hl : vs.length = ps.length) (r : Vals vs us)
 (x : InCallC s s.heap.objs.size (bindL (envOfC qual scope s.heap.objs.size f cd).kindOf (ps.zip us) fun _ => none) (cellsFrom (s.heap.objs.size + 1) scope.names []) (bindC (envOfC qual scope s.heap.objs.size f cd).kindOf (ps.zip us) fun _ => none) s1) :
 Inv (zI CX P w K mg base N qual scope f cd A outer s H E) [] (start N vs) H s1 := by
 have pX : ps.length <= N.length := by have := congrArg List.length S.pre; rw [List.length_take] at this; omega
 obtain ⟨h1, tk, rfl, hk⟩ := x.done
 have G1 : ∀ b : Addr, b ∉ (zI CX P w K mg base N qual scope f cd A outer s H E).ex := fun b z => absurd (show b ∈ ([] : List Addr) from z) (by simp)
 refine ⟨⟨e0.mod, S.kind, rfl, rfl, Nat.le_refl _, fun y z c h1 h2 => ?_, fun y hy => ?_, fun y c _ h => ?_, fun _ => hd, Around.frames_deeper e0.frames, .inr ⟨rfl, rfl⟩, fun b z => absurd z (G1 b), e0.bs, e0.Af, fun b _ _ => G1 b, fun b z => absurd z (G1 b), e0.nY, e0.BQ⟩,
  rfl, e0.bare, Un.kept hk, ⟨_, x.toInCall.ns, fun i y v h1 h2 h3 => ?_⟩, fun y c h => ⟨_, x.cell y c h⟩, e0.dP.fresh (Nat.le_refl _), fun y c h => ?_, fun p hp => absurd (show p ∈ ([] : List (Addr × Obj)) from hp) (by simp), e0.dP.kept hk, ?_⟩
 . exact name_of_addr x.apart (PySem.mem_of_lookup h1) (PySem.mem_of_lookup h2)
 . have hy : scope.names.lookup y = some .cell \/ scope.names.lookup y = some .free := hy
   rcases hy with hy | hy
   . exact wF hy
   . exact absurd rfl (S.Fx _ (PySem.mem_of_lookup hy))
 . exact Nat.le_of_lt (x.above y c (PySem.mem_of_lookup h))
 . have hi : i < vs.length := by
    unfold start at h2
    by_cases hi : i < vs.length
    . exact hi
    . rw [List.getElem?_append_right (by simpa using hi)] at h2
      rw [List.getElem?_replicate] at h2
      split at h2 <;> cases h2
   have ha : vs[i]? = some v := by
    unfold start at h2
    rw [List.getElem?_append_left (by simpa using hi), List.getElem?_map] at h2
    cases e : vs[i]? with
    | none => rw [e] at h2; cases h2
    | some a => rw [e] at h2; cases h2; rfl
   obtain ⟨u, hu, rv⟩ := r.get ha
   have hp : ps[i]? = some y := by
    rw [<- S.pre, List.getElem?_take_of_lt (by omega)]; exact h1
   have La : ps.Nodup := by rw [<- S.pre]; exact S.nd.sublist (List.take_sublist _ _)
   refine ⟨u, rv, ?_⟩
   rcases S.par y (List.mem_of_getElem? hp) with k | k
   . exact .inl ⟨k, um La hp hu k⟩
   . obtain ⟨c, e⟩ := wF (n := s.heap.objs.size + 1) k
     refine .inr ⟨.inl k, c, e, ?_⟩
     have q := x.cell y c e
     rw [t4 La hp hu (by show scope.names.lookup y ≠ _; rw [k]; decide)] at q
     exact q
 . exact e0.dP.fresh (Nat.le_of_lt (x.above y c (PySem.mem_of_lookup h)))
 . unfold start
   show _ = N.length
   rw [List.length_append, List.length_map, List.length_replicate]
   omega
theorem GZ {CX : v9} {P : Program} {w : World} {K : PySem.W.Frag} {mg : Str -> Option Value} {base : Heap} {k : Nat} {f : Addr} {name qual : Str} {params : Arguments} {body : List Stmt} {scope : Scope} {dV kV doc pm dw ct oc : Value} {an od : Option Addr}
 {Bv : Array (Option Value)} {N ps : List Str} {sp : Sp} (lk : K.lookup f = some ⟨oc, od, .func (PySem.W.fnOf name qual params body scope dV kV doc pm an dw ct), Bv⟩) (Ac : PySem.W.codeIn K dw qual = true) (S : aB N ps scope)
 (len : ∀ vs H Q E, sp vs H Q E -> vs.length = ps.length)
 (Ao : ∀ (A : Around) (outer : List Env) (s : Shared) (H : Hp) (vs : List V) (Q : VK) (E : XK), de k (A.deeper (envOfC qual scope s.heap.objs.size f dw)) -> sp vs H Q E ->
  ∃ t, wN (zI CX P w K mg base N qual scope f dw A outer s H E) body t /\ t { nx := fun _ H' => Q .cf H', rt := Q } (start N vs) H) :
 aV P w K mg base CX (k + 1) f (PySem.W.fnOf name qual params body scope dV kV doc pm an dw ct) ps sp := by
 refine ⟨len, fun A outer s H args us vs Q E hr e0 hb r BR => ?_⟩
 have hl := len _ _ _ _ BR
 have KX : K.In s.heap := e0.mod.Fp.keeps fun b o e => (e0.bs b o e).1
 have lim : s.heap.NoLimit := e0.mod.nolimit.keeps fun b o e => (e0.bs b o e).1
 have IK : ∀ y ∈ ps.zip us, scope.names.lookup y.1 = some .local \/ (scope.names.lookup y.1 = some .cell /\ ((cellsFrom (s.heap.objs.size + 1) scope.names []).lookup y.1).isSome = true) := fun ⟨n, v⟩ hy => by
  rcases S.par n (List.of_mem_zip hy).1 with q | q
  . exact .inl q
  . exact .inr ⟨q, PySem.W.cellsFrom_some _ _ _ (.inl q)⟩
 refine codeAny_call_function hr.depth (KX _ _ lk) rfl S.co S.gen rfl (PySem.W.codeRec_of KX Ac) (hb _ _ _ _ ?_)
 refine wpAny_newFunctionEnv_cells S.kind IK fun env he s1 x => ?_
 subst he
 refine ⟨lim.keeps x.toInCall.keep, codeAny_func ?_⟩
 obtain ⟨t, ht, hq⟩ := Ao A outer s H vs Q E (hr.deeper _) BR
 have I : Inv (zI CX P w K mg base N qual scope f dw A outer s H E) [] (start N vs) H s1 := zG S hr.hd e0 hl r x
 refine wpAny_mono (ht [] s1 (start N vs) H _ I hq) (fun fl s' hs => ?_) fun e s' hs => hs
 have fin : ∀ {σ' : St} {H' : Hp} {v : V} {u : Value}, Inv (zI CX P w K mg base N qual scope f dw A outer s H E) [] σ' H' s' -> RelV v u -> Q v H' -> CE outer P w H s Q u s' :=
  fun {σ' H' v u} J rv q => ⟨v, H', J.os, J.bare, J.base, J.dP, rv, q⟩
 cases fl with
 | ret u =>
   obtain ⟨v, σ', H', J, rv, q⟩ := hs
   exact fin J rv q
 | next =>
   obtain ⟨σ', H', J, q⟩ := hs
   exact fin (v := V.cf) (u := Value.none) J rfl q
 | brk =>
   obtain ⟨_, _, _, q⟩ := hs
   exact False.elim q
 | cont =>
   obtain ⟨_, _, _, q⟩ := hs
   exact False.elim q
section
variable {X : Cx} {x : Str} {p pos : Pos} {e : Expr} {es : List Expr} {t : TA} {id T : String} {r : List V -> Hp -> VK -> Prop}
def Kb (r : List V -> Hp -> VK -> Prop) (t : TA) : TE := fun σ H Q => t σ H fun vs H1 => r vs H1 Q
theorem b7 (hc : gE X (.builtin id) r) (hg : Gl X x) (hm : X.mg x = none) (hv : bootBuiltins x = some (.builtin id)) (ha : PA X (e :: es) t) (hn : x ≠ "__name__" := by decide) (tP : (x == ("__debug__" : Str)) = false := by decide)
 (he : starEach (e :: es) X.env = (false, eval e X.env) :: starEach es X.env := by rfl) (pX : (backTo pos (starEach es X.env)).any (·.1) = false := by rfl) : PE X (.Call (.Name x p) (e :: es) [] pos) (Kb r t) := by
 intro pins s σ H Q I h
 refine wpAny_Call_Name_kw (vj I hg hm hv ?_ hn tP)
 exact PyProof.Rows.callWith_builtin1 (df (ha pos pins s σ H _ I h) fun us s1 ⟨vs, H1, I1, r1, q1⟩ => hc pins s1 σ H1 vs us Q I1 r1 q1) he pX
theorem bE (hc : gE X (.type T) r) (hg : Gl X x) (hm : X.mg x = none) (hv : bootBuiltins x = some (.type T)) (ha : PA X (e :: es) t) (hn : x ≠ "__name__" := by decide) (tP : (x == ("__debug__" : Str)) = false := by decide)
 (he : starEach (e :: es) X.env = (false, eval e X.env) :: starEach es X.env := by rfl) (pX : (backTo pos (starEach es X.env)).any (·.1) = false := by rfl) : PE X (.Call (.Name x p) (e :: es) [] pos) (Kb r t) := by
 intro pins s σ H Q I h
 refine wpAny_Call_Name_kw (vj I hg hm hv ?_ hn tP)
 exact PyProof.Rows.callWith_type1 (df (ha pos pins s σ H _ I h) fun us s1 ⟨vs, H1, I1, r1, q1⟩ => hc pins s1 σ H1 vs us Q I1 r1 q1) he pX
end
end L2
namespace HT
open PySem PyProof.Rows
section
open PySem.SeqAt
open PySem.AutoSeq1 (wpAny_loadPart')
open PySem.MeetsSeq PySem.MeetsSeq2 PySem.MeetsSeq3
end
section
variable {prog : Program} {w : World} {A : Around} {E : Value -> Shared -> Prop} {s : Shared}
def p0 (n d : Nat) : Option Int -> Nat
 | none => d
 | some v => if v < 0 then (v + (n : Int)).toNat else min v.toNat n
end
end HT
namespace L2
open PySem PySem.Spec PyProof.Rows
abbrev TO := St -> Hp -> (Option Int -> Hp -> Prop) -> Prop
def PO (X : Cx) (e : Option Expr) (t : TO) : Prop :=
 ∀ (pins : List (Addr × Obj)) (s : Shared) (σ : St) (H : Hp) (Q : Option Int -> Hp -> Prop), Inv X pins σ H s -> t σ H Q ->
   wpAny (model X.prog X.w) X.A (evalPart e X.env) (fun u s' => ∃ o H', Inv X pins σ H' s' /\ IsPart u o /\ Q o H') X.xe s
def yt : TO := fun _ H Q => Q none H
def Ek (t : TE) : TO := fun σ H Q => t σ H fun x H1 => ∃ i, x = .int i /\ Q (some i) H1
section
variable {X : Cx} {e : Expr} {te : TE} {lo hi : Option Expr} {tl th : TO} {pos p2 : Pos}
theorem yM : PO X none yt := by
 intro pins s σ H Q I h
 rw [evalPart_none]
 exact wpAny_pure ⟨none, H, I, .none, h⟩
theorem rL (h : PE X e te) : PO X (some e) (Ek te) := by
 intro pins s σ H Q I hw
 rw [evalPart_some]
 refine df (h pins s σ H _ I hw) fun u s1 ⟨x, H1, I1, r1, q1⟩ => ?_
 obtain ⟨i, rfl, q⟩ := q1
 obtain ⟨t, rfl⟩ := r1
 exact ⟨some i, H1, I1, .int i t, q⟩
def KN (X : Cx) (r : V -> Option Int -> Option Int -> Hp -> VK -> Prop) : Prop :=
 ∀ (pins : List (Addr × Obj)) (s : Shared) (σ : St) (H : Hp) (x : V) (v vl vu : Value) (lo hi : Option Int) (sl : Addr) (Q : VK), Inv X pins σ H s -> RelV x v -> s.heap.IsSliceOf sl vl vu .none -> IsPart vl lo -> IsPart vu hi -> r x lo hi H Q ->
   ∃ T id, typeLookup (.type T) "__getitem__" = pure (some (.builtin id)) /\ s.TypeIs v T /\ wpAny (model X.prog X.w) X.A (getItem v (.ref sl)) (EP X pins σ Q) X.xe s
def Ly (r : V -> Option Int -> Option Int -> Hp -> VK -> Prop) (te : TE) (tl th : TO) : TE := fun σ H Q => te σ H fun x H1 => tl σ H1 fun l H2 => th σ H2 fun u H3 => r x l u H3 Q
theorem sL {r : V -> Option Int -> Option Int -> Hp -> VK -> Prop} (hr : KN X r) (he : PE X e te) (hl : PO X lo tl) (hu : PO X hi th) : PE X (.Subscript e (.Slice lo hi none p2) pos) (Ly r te tl th) := by
 intro pins s σ H Q I h
 refine Subscript_ (df (he pins s σ H _ I h) fun v s1 ⟨x, H1, I1, r1, q1⟩ => ?_)
 refine wpAny_Slice (df (hl pins s1 σ H1 _ I1 q1) fun vl s2 ⟨l, H2, I2, pl, q2⟩ => df (hu pins s2 σ H2 _ I2 q2) fun vu s3 ⟨u, H3, I3, pu, q3⟩ => ?_)
 rw [evalPart_none]
 refine wpAny_pure ?_
 have I4 : Inv X pins σ H3 { s3 with heap := s3.heap.push { cls := .type "slice", data := .fields #[vl, vu, .none] } } := I3.kept (t' := s3.toks) fun b ob q => Heap.get?_push_of_some _ q
 obtain ⟨T, id, hT, ht, hg⟩ := hr pins { s3 with heap := s3.heap.push { cls := .type "slice", data := .fields #[vl, vu, .none] } } σ H3 x v vl vu l u s3.heap.objs.size Q I4 r1 (Heap.IsSliceOf.new ..) pl pu q3
 show wpAny (model X.prog X.w) X.A (subscriptTail e (.Slice lo hi none p2) v (.ref s3.heap.objs.size)) (EP X pins σ Q) X.xe { s3 with heap := s3.heap.push { cls := .type "slice", data := .fields #[vl, vu, .none] } }
 exact tail_any (ops := [.ref s3.heap.objs.size, v]) ht hT hg (by with_unfolding_all rfl)
def z9 (xs : List V) (lo hi : Option Int) : List V := (xs.drop (HT.p0 xs.length 0 lo)).take (HT.p0 xs.length xs.length hi - HT.p0 xs.length 0 lo)
theorem wo (xs : List V) (lo hi : Option Int) : (z9 xs lo hi).length <= xs.length := by
 unfold z9
 rw [List.length_take, List.length_drop]
 omega
end
def FG (n : Nat) (i : Int) : Option Nat := if 0 <= i then (if i < n then some i.toNat else none) else if -(n : Int) <= i then some (i + n).toNat else none
def vA {α : Type} (xs : List α) (i : Int) : Option α := (FG xs.length i).bind fun j => xs[j]?
theorem DG {n : Nat} {i : Int} {j : Nat} (h : FG n i = some j) : seqIndex? i n = some j /\ j < n /\ -(n : Int) <= i /\ i < n := by
 unfold FG at h
 by_cases h0 : 0 <= i
 . rw [if_pos h0] at h
   by_cases h1 : i < n
   . rw [if_pos h1] at h
     have e : i.toNat = j := Option.some.inj h
     exact ⟨by rw [seqIndex_of h0 h1, e], by omega, by omega, h1⟩
   . rw [if_neg h1] at h; cases h
 . rw [if_neg h0] at h
   by_cases h1 : -(n : Int) <= i
   . rw [if_pos h1] at h
     have e : (i + n).toNat = j := Option.some.inj h
     exact ⟨by rw [seqIndex_neg (by omega) h1, e], by omega, h1, by omega⟩
   . rw [if_neg h1] at h; cases h
theorem vk {α : Type} {xs : List α} {i : Int} {v : α} (h : vA xs i = some v) : ∃ j, seqIndex? i xs.length = some j /\ xs[j]? = some v /\ j < xs.length /\ -(xs.length : Int) <= i /\ i < xs.length := by
 unfold vA at h
 cases e : FG xs.length i with
 | none => rw [e] at h; cases h
 | some j =>
   rw [e] at h
   obtain ⟨h1, h2, h3, h4⟩ := DG e
   exact ⟨j, h1, h, h2, h3, h4⟩
theorem yH {α : Type} {xs : List α} {j : Nat} {v : α} (h : xs[j]? = some v) : vA xs (j : Int) = some v := by
 have hj : j < xs.length := (List.getElem?_eq_some_iff.mp h).1
 have e : FG xs.length (j : Int) = some j := by
  unfold FG
  rw [if_pos (by omega), if_pos (by omega)]; simp
 unfold vA; rw [e]; exact h
def C8 (b : Expr) : Prop := ∀ o i, subscripted b false o i = operate [o, i] (getItem o i)
def By (X : Cx) (r : R2) : Prop :=
 ∀ (value slice : Expr) (pins : List (Addr × Obj)) (s : Shared) (σ : St) (H : Hp) (x y : V) (v u : Value) (Q : VK), Inv X pins σ H s -> RelV x v -> RelV y u -> r x y H Q ->
   subscripted slice false v u = operate [v, u] (getItem v u) -> wpAny (model X.prog X.w) X.A (subscriptTail value slice v u) (EP X pins σ Q) X.xe s
def IC (X : Cx) (id : String) (r : V -> List V -> Hp -> VK -> Prop) : Prop :=
 ∀ (pins : List (Addr × Obj)) (s : Shared) (σ : St) (H : Hp) (x : V) (xs : List V) (v : Value) (us : List Value) (Q : VK), Inv X pins σ H s -> RelV x v -> Vals xs us -> r x xs H Q ->
   wpAny (model X.prog X.w) X.A (call (.builtin id) (v :: us)) (EP X pins σ Q) X.xe s
section
variable {X : Cx} {a b : Expr} {ta tb : TE} {pos : Pos}
theorem By.or {r r' : R2} (h : By X r) (h' : By X r') : By X (fun x y H Q => r x y H Q \/ r' x y H Q) := by
 intro value slice pins s σ H x y v u Q I rx ry q hs
 rcases q with q | q
 . exact h value slice pins s σ H x y v u Q I rx ry q hs
 . exact h' value slice pins s σ H x y v u Q I rx ry q hs
theorem dN {r : R2} (hr : By X r) (ha : PE X a ta) (hb : PE X b tb) (hs : C8 b) : PE X (.Subscript a b pos) (IY r ta tb) := by
 intro pins s σ H Q I h
 exact Subscript_ (FK ha hb I h fun v u s2 x y H2 I2 rx ry q => hr a b pins s2 σ H2 x y v u Q I2 rx ry q (hs _ _))
def Fo (K : PySem.W.Frag) : R2 := fun x y H Q => ∃ p xs i v, x = .ref p /\ y = .int i /\ i6 K H p xs /\ vA xs i = some v /\ Q v H
def IZ (K : PySem.W.Frag) : R2 := fun x y H Q => ∃ p xs i v, x = .ref p /\ y = .int i /\ y9 K H p xs /\ vA xs i = some v /\ Q v H
def Gv : R2 := fun x y H Q => ∃ z i c, x = .str z /\ y = .int i /\ z.length <= sizeLine /\ vA z.cps.toList i = some c /\ Q (.str ⟨#[c]⟩) H
theorem yX : By X (Fo X.K) := by
 intro value slice pins s σ H x y v u Q I rx ry h hs
 obtain ⟨p, xs, i, z, rfl, rfl, hq, he, q⟩ := h
 cases rx
 obtain ⟨t, rfl⟩ := ry
 obtain ⟨b5, r, pl, hz⟩ := I.list hq
 obtain ⟨j, h1, h2, h3, h4, h5⟩ := vk he
 obtain ⟨w, ew, GU⟩ := r.get h2
 have hl := r.length
 have hn := qm
 have fin : EP X pins σ Q w s := ⟨z, H, I, GU, q⟩
 by_cases h0 : 0 <= i
 . have hj : i.toNat = j := by
    rw [seqIndex_of h0 h5] at h1
    exact Option.some.inj h1
   exact item_listR pl.isList h0 (by omega) (by rw [hj]; simpa using ew) fin hs
 . have hj : (i + (b5.toArray.size : Int)).toNat = j := by
    rw [seqIndex_neg (by omega) h4] at h1
    rw [List.size_toArray, <- hl]
    exact Option.some.inj h1
   exact subscriptTail_builtinR (x := w) pl.isList.typeIs slot_list_getitem.lookup
    (wpAny_getItem_list_neg (Q := fun r s' => r = w /\ EP X pins σ Q r s') pl.isList (by omega) (by rw [List.size_toArray] <;> omega) (by omega) (by rw [hj]; simpa using ew) ⟨rfl, fin⟩) hs
theorem F0 : By X (IZ X.K) := by
 intro value slice pins s σ H x y v u Q I rx ry h hs
 obtain ⟨p, xs, i, z, rfl, rfl, hq, he, q⟩ := h
 cases rx
 obtain ⟨t, rfl⟩ := ry
 obtain ⟨b5, r, pl, hz⟩ := I.tuple hq
 obtain ⟨j, h1, h2, h3, h4, h5⟩ := vk he
 obtain ⟨w, ew, GU⟩ := r.get h2
 have hl := r.length
 have hn := qm
 have fin : EP X pins σ Q w s := ⟨z, H, I, GU, q⟩
 exact subscriptTail_builtinR (x := w) pl.typeIs slot_tuple_getitem.lookup
  (getItem_tuple (j := j) (Q := fun r s' => r = w /\ EP X pins σ Q r s') pl (by omega) (by omega) (by rw [List.size_toArray, <- hl]; exact h1) (by simpa using ew) ⟨rfl, fin⟩) hs
theorem FC : By X Gv := by
 intro value slice pins s σ H x y v u Q I rx ry h hs
 obtain ⟨z, i, c, rfl, rfl, hz, he, q⟩ := h
 obtain ⟨t, rfl⟩ := rx
 obtain ⟨t', rfl⟩ := ry
 obtain ⟨j, h1, h2, h3, h4, h5⟩ := vk he
 have hl : z.cps.toList.length = z.length := by simp [Str.length]
 rw [hl] at h1 h4 h5
 have hn := qm
 exact tail_any (typeIs_str s z t) slot_str_getitem.lookup (getItem_str (c := c) (by
  have e1 : decide (i < -(2 ^ 63 : Int)) = false := decide_eq_false (by omega)
  have e2 : decide (i ≥ 2 ^ 63) = false := decide_eq_false (by omega)
  rw [e1, e2, Bool.or_false]) (by rw [h1]; simpa using h2) ⟨.str ⟨#[c]⟩, H, I.tok _, ⟨_, rfl⟩, q⟩) hs
def Lj (K : PySem.W.Frag) : R2 := fun x y H Q => Fo K x y H Q \/ IZ K x y H Q \/ Gv x y H Q
theorem EX : By X (Lj X.K) := yX.or (F0.or FC)
theorem uW (lo hi : Option Int) (n : Nat) : (sliceBounds lo hi none n).1 = ((HT.p0 n 0 lo : Nat) : Int) /\ (sliceBounds lo hi none n).2.1 = ((HT.p0 n n hi : Nat) : Int) /\ (sliceBounds lo hi none n).2.2 = 1 := by
 refine ⟨?_, ?_, rfl⟩
 . cases lo with
   | none => simp [sliceBounds, HT.p0]
   | some i =>
     simp only [sliceBounds, HT.p0, Option.getD_none, show (1 : Int) > 0 by decide, if_true]
     by_cases h : i < 0
     . simp only [h, if_true] <;> omega
     . simp only [h, if_false] <;> omega
 . cases hi with
   | none => simp [sliceBounds, HT.p0]
   | some i =>
     simp only [sliceBounds, HT.p0, Option.getD_none, show (1 : Int) > 0 by decide, if_true]
     by_cases h : i < 0
     . simp only [h, if_true] <;> omega
     . simp only [h, if_false] <;> omega
theorem tS (b5 : List Value) (lo hi : Option Int) : slicePick b5.toArray lo hi none = ((b5.drop (HT.p0 b5.length 0 lo)).take (HT.p0 b5.length b5.length hi - HT.p0 b5.length 0 lo)).toArray := by
 obtain ⟨h1, h2, h3⟩ := uW lo hi b5.toArray.size
 unfold slicePick
 rw [h1, h2, h3]
 simp only [sliceRange_one, pick_run, List.size_toArray] <;> rfl
def FT (K : PySem.W.Frag) : V -> Option Int -> Option Int -> Hp -> VK -> Prop := fun x lo hi H Q => ∃ a xs, x = .ref a /\ i6 K H a xs /\ ∀ p, H p = none -> Q (.ref p) (upd H p (.lst (z9 xs lo hi)))
theorem yT : KN X (FT X.K) := by
 intro pins s σ H x v vl vu lo hi sl Q I rx hs pl pu h
 obtain ⟨a, xs, rfl, hx, q⟩ := h
 cases rx
 obtain ⟨b5, r, ht, hz⟩ := I.list hx
 have hlen := r.length
 refine ⟨"list", _, slot_list_getitem.lookup, ht.isList.typeIs, ?_⟩
 refine wpAny_getItem_list_slice ht.isList hs pl pu .none (by simp) ?_ (by rw [List.size_toArray] <;> omega)
 rw [tS, <- hlen]
 refine ⟨.ref s.heap.objs.size, _, I.laid (t' := s.toks) (o := .lst (z9 xs lo hi)) (fun b ob q => Heap.get?_push_of_some _ q) (Nat.le_refl _) ?_, rfl, q _ (I.dP.fresh (Nat.le_refl _))⟩
 exact ⟨Nat.le_trans (wo xs lo hi) hz, _, 0, (r.drop (HT.p0 xs.length 0 lo)).take (HT.p0 xs.length xs.length hi - HT.p0 xs.length 0 lo), Heap.get?_push_size _ rfl⟩
theorem jV : gE X (.builtin "len") (fun xs H Q => ∃ p ys, xs = [.ref p] /\ (i6 X.K H p ys \/ y9 X.K H p ys) /\ Q (.int ys.length) H) := by
 intro pins s σ H xs us Q I r h
 obtain ⟨p, ys, rfl, hq, q⟩ := h
 obtain ⟨u, rfl, rx⟩ := vals1 r
 cases rx
 have hn := qm
 rcases hq with hq | hq
 . obtain ⟨b5, r', pl, hz⟩ := I.list hq
   have hlen := r'.length
   exact Calls.call_len_list pl.isList (by simp only [List.size_toArray] <;> omega) ⟨.int ys.length, H, I.tok _, ⟨s.toks + 1, by rw [List.size_toArray, hlen]⟩, q⟩
 . obtain ⟨b5, r', pl, hz⟩ := I.tuple hq
   have hlen := r'.length
   exact len_tuple pl (by simp only [List.size_toArray] <;> omega) ⟨.int ys.length, H, I.tok _, ⟨s.toks + 1, by rw [List.size_toArray, hlen]⟩, q⟩
theorem vo : gE X (.builtin "len") (fun xs H Q => ∃ z, xs = [.str z] /\ z.length <= sizeLine /\ Q (.int z.length) H) := by
 intro pins s σ H xs us Q I r h
 obtain ⟨z, rfl, hz, q⟩ := h
 obtain ⟨u, rfl, t, rfl⟩ := vals1 r
 have hn := qm
 exact len_str (by omega) ⟨.int z.length, H, I.tok _, ⟨_, rfl⟩, q⟩
def FE (K : PySem.W.Frag) (T : String) (x : V) (H : Hp) : Prop := match x with
 | .str _ => T = "str"
 | .int _ => T = "int"
 | .ref p => (T = "list" /\ ∃ xs, i6 K H p xs) \/ (T = "tuple" /\ ∃ o, K.lookup p = some o /\ o.cls = .type "tuple" /\ o.dict = none) \/
  (T = "dict" /\ ((∃ e9, H p = some (.dK e9)) \/ ∃ e9, H p = some (.dT e9))) \/ (T = "set" /\ ∃ S n, H p = some (.set S n))
 | _ => False
theorem Bg {pins : List (Addr × Obj)} {σ : St} {H : Hp} {s : Shared} {T : String} {x : V} {v : Value} (I : Inv X pins σ H s) (r : RelV x v) (ty : FE X.K T x H) :
 s.TypeIs v T /\ ∀ a, v = .ref a -> ∃ ob, s.heap.get? a = some ob /\ ob.dict = none := by
 cases x with
 | str z =>
   obtain ⟨t, rfl⟩ := r
   cases (show T = "str" from ty)
   exact ⟨typeIs_str s z t, fun _ e => nomatch e⟩
 | int i =>
   obtain ⟨t, rfl⟩ := r
   cases (show T = "int" from ty)
   exact ⟨typeIs_int s i t, fun _ e => nomatch e⟩
 | ref p =>
   cases r
   rcases ty with ⟨rfl, xs, hq⟩ | ⟨rfl, o, hk, hc, hd⟩ | ⟨rfl, hk⟩ | ⟨rfl, S, n, hk⟩
   . obtain ⟨b5, _, pl, _⟩ := I.list hq
     refine ⟨pl.isList.typeIs, fun a e => ?_⟩
     cases e
     obtain ⟨o, n, e, c, hd, _⟩ := pl
     exact ⟨o, e, hd⟩
   . refine ⟨⟨o, I.pY p o hk, hc⟩, fun a e => ?_⟩
     cases e
     exact ⟨o, I.pY _ o hk, hd⟩
   . have z : ∃ o, s.heap.get? p = some o /\ o.ExactDict := by
      rcases hk with ⟨e9, hk⟩ | ⟨e9, hk⟩
      . obtain ⟨_, _, _, _, o, _, _, e, ex, _⟩ := I.dP p _ hk
        exact ⟨o, e, ex⟩
      . obtain ⟨_, _, _, _, o, _, _, e, ex, _⟩ := I.dP p _ hk
        exact ⟨o, e, ex⟩
     obtain ⟨o, e, ex⟩ := z
     refine ⟨⟨o, e, ex.1⟩, fun a e2 => ?_⟩
     cases e2
     exact ⟨o, e, ex.2.1⟩
   . obtain ⟨o, _, _, _, e, ex, _⟩ := I.dP p _ hk
     refine ⟨⟨o, e, ex.1⟩, fun a e2 => ?_⟩
     cases e2
     exact ⟨o, e, ex.2.1⟩
 | _ => exact False.elim ty
def Hx (K : PySem.W.Frag) (T : String) (r : V -> List V -> Hp -> VK -> Prop) (to : TE) : TE := fun σ H Q => to σ H fun x H1 => FE K T x H1 /\ r x [] H1 Q
def Ls (K : PySem.W.Frag) (T : String) (r : V -> List V -> Hp -> VK -> Prop) (to : TE) (t : TA) : TE := fun σ H Q => to σ H fun x H1 => FE K T x H1 /\ t σ H1 fun xs H2 => r x xs H2 Q
variable {o e : Expr} {es : List Expr} {to : TE} {t : TA} {name : Str} {apos jA : Pos} {T id : String} {r : V -> List V -> Hp -> VK -> Prop}
theorem GF (pa : PlainAttrs T) (slot : Slot T name id) (Kg : typeOf (.builtin id) = pure (.type "method_descriptor")) (hm : IC X id r) (ho : PE X o to)
 (BI : attributeBase o name X.env (eval o X.env) = eval o X.env := by rfl) (hline : (apos.endLine == jA.line) = true := by rfl) : PE X (.Call (.Attribute o name apos) [] [] jA) (Hx X.K T r to) := by
 intro pins s σ H Q I h
 refine wpAny_Call_method0_late BI hline (df (ho pins s σ H _ I h) fun v s1 ⟨x, H1, I1, r1, ty, q1⟩ => ?_)
 obtain ⟨h1, h2⟩ := Bg I1 r1 ty
 exact ⟨T, id, pa, slot, Kg, h1, h2, Calls.callWith_builtin rfl (PySem.evalArgs_none (hm pins s1 σ H1 x [] v [] Q I1 r1 .nil q1))⟩
theorem vU (pa : PlainAttrs T) (slot : Slot T name id) (Kg : typeOf (.builtin id) = pure (.type "method_descriptor")) (hm : IC X id r) (ho : PE X o to) (ha : PA X (e :: es) t)
 (BI : attributeBase o name X.env (eval o X.env) = eval o X.env := by rfl)
 (KL : ((backTo jA (starEach (e :: es) X.env)).all (fun x => !x.1) && (backToKw jA (keywordEach [] X.env)).all (fun x => x.1.isSome)
  && decide ((e :: es).length + ([] : List Keyword).length + (if ([] : List Keyword).isEmpty then 0 else 1) < 30)) = true := by rfl)
 (hline : (apos.endLine == jA.line) = true := by rfl) (hs : starEach (e :: es) X.env = (false, eval e X.env) :: starEach es X.env := by rfl) (E7 : (backTo jA (starEach es X.env)).any (·.1) = false := by rfl) :
 PE X (.Call (.Attribute o name apos) (e :: es) [] jA) (Ls X.K T r to t) := by
 intro pins s σ H Q I h
 refine wpAny_Call_method_late BI KL hline rfl (df (ho pins s σ H _ I h) fun v s1 ⟨x, H1, I1, r1, ty, q1⟩ => ?_)
 obtain ⟨h1, h2⟩ := Bg I1 r1 ty
 refine ⟨T, id, pa, slot, Kg, h1, h2, ?_⟩
 have hA := ha jA pins s1 σ H1 _ I1 q1
 rw [hs] at hA ⊢
 refine Calls.callWith_builtin (by show (false || (backTo jA (starEach es X.env)).any (·.1)) = false; rw [E7] <;> rfl) (Calls.evalArgs_plain ?_)
 exact df hA fun us s2 ⟨vs, H2, I2, r2, q2⟩ => hm pins s2 σ H2 x vs v us Q I2 r1 r2 q2
end
def Lb (X : Cx) (id : String) (r : V -> List V -> Hp -> VK -> Prop) : Prop :=
 ∀ (pins : List (Addr × Obj)) (s : Shared) (σ : St) (H : Hp) (x : V) (xs : List V) (v : Value) (us : List Value) (Q : VK), Inv X pins σ H s -> RelV x v -> Vals xs us -> r x xs H Q ->
   wpAny (model X.prog X.w) X.A (call (.builtin id) (v :: us)) (EP X pins σ Q) X.xe s
theorem Vals.one : ∀ {x : V} {us : List Value}, Vals [x] us -> ∃ u, us = [u] /\ RelV x u
 | _, _, .cons r .nil => ⟨_, rfl, r⟩
theorem Vals.zero : ∀ {us : List Value}, Vals [] us -> us = []
 | _, .nil => rfl
theorem Vals.reverse {xs : List V} {us : List Value} (h : Vals xs us) : Vals xs.reverse us.reverse := by
 induction h with
 | nil => exact .nil
 | cons r t ih => rw [List.reverse_cons, List.reverse_cons]; exact Vals.append ih (.cons r .nil)
section
variable {X : Cx} {pins : List (Addr × Obj)} {σ : St} {H : Hp} {s : Shared} {l b : Addr} {xs ys zs : List V}
theorem Inv.Jb {b5 its' : List Value} {n : Nat} {f : Array Value -> Array Value} {t' : Nat} (I : Inv X pins σ H s) (hH : H l = some (.lst xs))
 (e : s.heap.get? l = some { cls := .type "list", data := .seq b5.toArray n }) (hf : f b5.toArray = its'.toArray) (hv : Vals ys its') (hz : ys.length <= sizeLine) :
 Inv X pins σ (upd H l (.lst ys)) { s with heap := s.heap.update l (Obj.mapSeq f), toks := t' } := by
 have q := PySem.IsL.update e f
 rw [hf] at q
 refine I.write (x := l) (e := l) (by rw [hH]; exact trivial) (.inl rfl) (fun b' u hb hu => (Heap.get?_update_other s.heap (Obj.mapSeq f) (Ne.symm hb)).trans hu) ⟨_, q⟩ ?_
 exact ⟨hz, its', _, hv, q⟩
theorem Inv.Km {b5 : List Value} {t' : Nat} (I : Inv X pins σ H s) (hv : Vals ys b5) (hz : ys.length <= sizeLine) :
 Inv X pins σ (upd H s.heap.objs.size (.lst ys)) { s with heap := s.heap.push { cls := .type "list", data := .seq b5.toArray }, toks := t' } :=
 I.laid (fun _ _ q => Heap.get?_push_of_some _ q) (Nat.le_refl _) ⟨hz, b5, 0, hv, Heap.get?_push_size _ rfl⟩
theorem Inv.fresh (I : Inv X pins σ H s) : H s.heap.objs.size = none := I.dP.fresh (Nat.le_refl _)
theorem Inv.Cp (I : Inv X pins σ H s) (hH : H l = some (.lst xs)) : xs.length <= sizeLine /\ ∃ (b5 : List Value) (n : Nat), Vals xs b5 /\ xs.length = b5.length /\ s.heap.get? l = some { cls := .type "list", data := .seq b5.toArray n } := by
 obtain ⟨z, b5, n, r, e⟩ := I.dP l _ hH
 exact ⟨z, b5, n, r, r.length, e⟩
end
section
variable {X : Cx}
def yP : V -> List V -> Hp -> VK -> Prop := fun x vs H Q => ∃ l xs y, x = .ref l /\ vs = [y] /\ H l = some (.lst xs) /\ xs.length < sizeLine /\ Q .cf (upd H l (.lst (xs ++ [y])))
theorem z5 : Lb X "list.append" yP := by
 intro pins s σ H x vs v us Q I rx rv h
 obtain ⟨l, xs, y, rfl, rfl, hH, hz, q⟩ := h
 cases rx
 obtain ⟨u, rfl, ru⟩ := rv.one
 obtain ⟨z, b5, n, r, hl, e⟩ := I.Cp hH
 refine call_meets F.slot_list_append ⟨_, e, rfl⟩ F.entry_list_append (F.args_list_append_2 _ _) (PySem.list_append l b5.toArray n u (by rw [List.size_toArray]; omega)) ⟨e, ?_⟩
 refine ⟨.cf, _, I.Jb (its' := b5 ++ [u]) hH e (by simp) (r.append (.cons ru .nil)) ?_, rfl, q⟩
 rw [List.length_append, List.length_singleton]
 omega
def vW : V -> List V -> Hp -> VK -> Prop := fun x vs H Q => ∃ l xs, x = .ref l /\ vs = [] /\ H l = some (.lst xs) /\ Q .cf (upd H l (.lst xs.reverse))
theorem xR : Lb X "list.reverse" vW := by
 intro pins s σ H x vs v us Q I rx rv h
 obtain ⟨l, xs, rfl, rfl, hH, q⟩ := h
 cases rx
 have Ms := rv.zero
 subst Ms
 obtain ⟨z, b5, n, r, hl, e⟩ := I.Cp hH
 refine call_meets F.slot_list_reverse ⟨_, e, rfl⟩ F.entry_list_reverse (F.args_list_reverse_1 _) (AutoSeq1.list_reverse_list_0 l b5.toArray n (by rw [List.size_toArray]; omega)) ⟨e, ?_⟩
 refine ⟨.cf, _, I.Jb (its' := b5.reverse) hH e (by simp) r.reverse ?_, rfl, q⟩
 rw [List.length_reverse]
 omega
def Ha : R2 := fun x y H Q => ∃ l b xs zs, x = .ref l /\ y = .ref b /\ H l = some (.lst xs) /\ H b = some (.lst zs) /\ xs.length + zs.length <= sizeLine /\ ∀ p, H p = none -> Q (.ref p) (upd H p (.lst (xs ++ zs)))
theorem xV : nC X (binaryOp .Add) Ha := by
 intro pins s σ H x y v u Q I rx ry h
 obtain ⟨l, b, xs, zs, rfl, rfl, hH, hB, hz, q⟩ := h
 cases rx
 cases ry
 obtain ⟨z, b5, n, r, hl, e⟩ := I.Cp hH
 obtain ⟨z2, HM, n2, r2, Nb, e2⟩ := I.Cp hB
 refine PySem.P.add_list e e2 ?_ (by rw [List.size_toArray, List.size_toArray]; omega)
 have ea : b5.toArray ++ HM.toArray = (b5 ++ HM).toArray := by simp
 rw [ea]
 exact ⟨.ref _, _, I.Km (t' := s.toks) (r.append r2) (by rw [List.length_append]; omega), rfl, q _ I.fresh⟩
end
section
variable {prog : Program} {w : World} {A : Around} {E : Value -> Shared -> Prop} {s : Shared}
set_option maxRecDepth 100000 in
end
section
variable {X : Cx}
end
section
variable {κ : Type} [DecidableEq κ]
def vH (e9 : List (κ × V)) (k : κ) : Option V := (e9.find? fun kv => decide (kv.1 = k)).map (·.2)
theorem Bf {p : κ × V} {r : List (κ × V)} {k : κ} (e : p.1 = k) : vH (p :: r) k = some p.2 := by simp [vH, List.find?_cons, e]
theorem Bc {p : κ × V} {r : List (κ × V)} {k : κ} (e : ¬ p.1 = k) : vH (p :: r) k = vH r k := by simp [vH, List.find?_cons, e]
theorem pL.zl {o : Option V} {u : Option Value} (r : pL o u) : o.isSome = u.isSome := by
 cases o with
 | none => cases u with
   | none => rfl
   | some _ => exact (show False from r).elim
 | some _ => cases u with
   | none => exact (show False from r).elim
   | some _ => rfl
theorem KV.val {e9 : List (κ × V)} {vs : List (κ × Value)} (r : KV e9 vs) (k : κ) : pL (vH e9 k) (valueAt vs k) := by
 unfold KV at r
 induction r with
 | nil => exact True.intro
 | @cons p q ps qs h t ih =>
   obtain ⟨h1, h2⟩ := h
   by_cases e : p.1 = k
   . have e' : q.1 = k := h1.symm.trans e
     have b : valueAt (q :: qs) k = some q.2 := by simp [valueAt, List.find?_cons, e']
     rw [Bf e, b]; exact h2
   . have e' : ¬ q.1 = k := fun z => e (h1.trans z)
     have b : valueAt (q :: qs) k = valueAt qs k := by simp [valueAt, List.find?_cons, e']
     rw [Bc e, b]; exact ih
end
theorem Ej {P : Program} {w : World} {k : Key} {u : Value} (r : RelV (kV k) u) : (ft P w).is k u = true := by
 cases k with
 | inl i => obtain ⟨t, e⟩ := (show ∃ t, u = Value.int i t from r); subst e; exact v5 P w i t
 | inr x => obtain ⟨t, e⟩ := (show ∃ t, u = Value.str x t from r); subst e; exact wm P w x t
section
variable {P : Program} {w : World} {H : Hp} {h : Heap} {a : Addr}
end
section
variable {X : Cx} {pins : List (Addr × Obj)} {σ : St} {H : Hp} {s : Shared} {a : Addr} {y v : V} {u r : Value} {o : Option V} {A : Around} {E : Value -> Shared -> Prop}
end
section
variable {X : Cx} {pins : List (Addr × Obj)} {σ : St} {H : Hp} {s : Shared} {a : Addr} {e9 : List (Key × V)} {k : Key} {u : Value} {A : Around} {E : Value -> Shared -> Prop}
end
def Ic (i : Expr) : Prop := ∀ ov iv, subscripted i false ov iv = operate [ov, iv] (getItem ov iv)
theorem DI {prog : Program} {w : World} {A : Around} {E : Value -> Shared -> Prop} {s : Shared} {env : Env} {value slice : Expr} {pos : Pos} {T id : String} {Q : Value -> Shared -> Prop}
 (hl : typeLookup (.type T) "__getitem__" = pure (some (.builtin id))) (hs : Ic slice)
 (h : wpAny (model prog w) A (eval value env) (fun o s₁ => wpAny (model prog w) A (eval slice env) (fun i s₂ => s₂.TypeIs o T /\ wpAny (model prog w) A (getItem o i) Q E s₂) E s₁) E s) :
 wpAny (model prog w) A (eval (.Subscript value slice pos) env) Q E s := by
 refine Subscript_ (wpAny_mono h (fun o s₁ h₁ => wpAny_mono h₁ (fun i s₂ h₂ => ?_) fun _ _ x => x) fun _ _ x => x)
 obtain ⟨hT, h₂⟩ := h₂
 unfold subscriptTail
 refine wpAny_bind ?_
 rw [getitemInPython_of_ne hT.not_modules]
 refine wpAny_bind (wpAny_specialOf hT hl ?_)
 have fin : wpAny (model prog w) A (subscripted slice false o i) (fun r s₃ => wpAny (model prog w) A (letTemporaryGo value o r >>= fun _ => pure r) Q E s₃) E s₂ := by
  rw [hs o i]
  exact wpAny_operating (wpAny_mono h₂ (fun r s₃ h₃ => wpAny_bind (wpAny_letTemporaryGo (wpAny_pure h₃))) fun _ _ x => x)
 first
  | exact wpAny_pure (wpAny_bind fin)
  | exact wpAny_bind (wpAny_pure (wpAny_bind fin))
  | exact wpAny_bind fin
section
variable {X : Cx} {o i e value : Expr} {pos pos' J6 : Pos} {td ty tv : TE}
end
section
variable {X : Cx} {pos : Pos}
end
structure M1 (X : Cx) (o : Expr) (m : Str) (apos : Pos) (e : Expr) (jA : Pos) : Prop where
 base : attributeBase o m X.env (eval o X.env) = eval o X.env
 few : ((backTo jA (starEach [e] X.env)).all (fun x => !x.1) && (backToKw jA (keywordEach [] X.env)).all (fun x => x.1.isSome)
  && decide (([e] : List Expr).length + ([] : List Keyword).length + (if ([] : List Keyword).isEmpty then 0 else 1) < 30)) = true
 line : (apos.endLine == jA.line) = true
 trees : backTo jA (starEach [e] X.env) = [(false, eval e X.env)]
structure M2 (X : Cx) (o : Expr) (m : Str) (apos : Pos) (e f : Expr) (jA : Pos) : Prop where
 base : attributeBase o m X.env (eval o X.env) = eval o X.env
 few : ((backTo jA (starEach [e, f] X.env)).all (fun x => !x.1) && (backToKw jA (keywordEach [] X.env)).all (fun x => x.1.isSome)
  && decide (([e, f] : List Expr).length + ([] : List Keyword).length + (if ([] : List Keyword).isEmpty then 0 else 1) < 30)) = true
 line : (apos.endLine == jA.line) = true
 trees : backTo jA (starEach [e, f] X.env) = [(false, eval e X.env), (false, eval f X.env)]
section
variable {X : Cx} {pins : List (Addr × Obj)} {σ : St} {H : Hp} {s : Shared} {a : Addr} {y d : V} {u r : Value} {o : Option V} {A : Around} {E : Value -> Shared -> Prop}
end
section
variable {X : Cx} {o e f : Expr} {apos jA : Pos} {td ty tx : TE}
end
section
variable {X : Cx} {pins : List (Addr × Obj)} {σ : St} {H : Hp} {s : Shared} {a : Addr} {e9 : List (Key × V)} {A : Around} {E : Value -> Shared -> Prop}
end
section
variable {X : Cx} {pins : List (Addr × Obj)} {σ : St} {H : Hp} {s : Shared} {a : Addr} {y : V} {u : Value} {A : Around} {E : Value -> Shared -> Prop}
end
end L2
namespace Lp
open PySem PySem.W PySem.Calls PyProof.Rows
theorem rj {P : Params} {h : Heap} : ∀ (ns : List Int) (vs : List Value), WellAll P h vs (ns.map WData.int) -> IntsAre vs ns := by
 intro ns
 induction ns with
 | nil =>
   intro vs w
   rw [List.map_nil] at w
   cases w
   exact .nil
 | cons n ns ih =>
   intro vs w
   rw [List.map_cons] at w
   cases w with
   | cons a b =>
     cases a
     exact .cons _ _ (ih _ b)
theorem z3 {l : OpenLaw} {n : Nat} (hn : l.most = some n) {P : Params} {h : Heap} {args : List WData} {vals : List Value}
 (DL : l.row.toRowW.claim.pre args = true) (JX : WellAll P h vals args) :
 ∃ a vs ns, vals = [Value.ref a] /\ args = [WData.list (ns.map WData.int)] /\ h.get? a = some { cls := .type "list", data := .seq vs.toArray } /\ IntsAre vs ns /\ ns.length <= n := by
 have MJ : WShape.hasAll [] args [.list .int] = true := (pre_splitW DL).1
 have hc : l.pre.holds [] { args := args } = true := (pre_splitW DL).2
 obtain ⟨d, r, rfl, h1, h2⟩ := hasAllW_cons MJ
 obtain rfl := hasAllW_nil h2
 obtain ⟨xs, rfl, h3⟩ := hasW_list h1
 obtain ⟨ns, rfl⟩ := items_int h3
 have hlen : ns.length <= n := by
  unfold OpenLaw.pre at hc
  have h4 : (WTm.not (.lt (.lit (.int (n : Int))) (.len (.arg 0)))).holds [] { args := [.list (ns.map .int)] } = true := by
   have h4 := (holds_andW hc).1
   rw [hn] at h4
   exact h4
  have h5 := condW_of h4 (w_not (w_lt w_lit (w_len_list (w_arg rfl))))
  rw [List.length_map] at h5
  refine Nat.le_of_not_lt fun q => ?_
  have q' : (n : Int) < ((ns.length : Nat) : Int) := by omega
  first
   | (rw [decide_eq_true q'] at h5; exact absurd h5 (by decide))
   | (simp at h5; omega)
 cases JX with
 | cons w1 w2 =>
   cases w2
   cases w1 with
   | list ho wW => exact ⟨_, _, ns, rfl, rfl, ho, rj ns _ wW, hlen⟩
theorem zq (l : OpenLaw) (args : List WData) : l.row.toRowW.claim.post args (.bool true) args = true :=
 postW_of (r := l.row.toRowW) (X := (true == true))
  (show WShape.has [] (.bool true) .bool = true by first | rfl | decide | simp [WShape.has, WShape.arms, WShape.armsAll])
  (show (WTm.eq .res (.lit (.bool true))).value [] { args := args, res := some (.bool true), after := args } = some (.bool (true == true)) from w_eq_bool (w_res rfl) w_lit) rfl
theorem vC {l : OpenLaw} {n : Nat} {q : Program} {loose : List Str} {XP : (Str -> Option Value) -> Heap -> Prop} {YP : World -> Heap -> Prop} {d : DefRec}
 (hn : l.most = some n) (Iq : d.params.defaults = [])
 (call : ∀ (w : World) (gL s₁ : Shared) (mg mb : Str -> Option Value) (fa : Addr) (o : Obj) (pm cd doc : Value) (a : Addr) (vs : List Value) (ns : List Int),
  Ground q loose [] XP w gL mg mb s₁.heap -> YP w s₁.heap ->
  s₁.heap.get? fa = some o -> o.data = .func (docDef d.name d.params d.body d.scope pm cd doc) -> s₁.heap.CodeRec cd d.name -> mg d.name = some (.ref fa) ->
  s₁.heap.get? a = some { cls := .type "list", data := .seq vs.toArray } -> IntsAre vs ns -> ns.length <= n -> s₁.gens = #[] ->
  codeAny (model l.prog w) callerA (.call (.ref fa) ⟨[.ref a], []⟩) (fun r s' => r = .ok (.ret (.bool true)) /\ OldK s₁.heap s'.heap /\ s'.os = s₁.os /\ AllBare s'.gens) s₁) :
 WalkO q loose XP YP l.row.toRowW d [] (fun f vs => PySem.call f vs) := by
 intro w gL s₁ mg mb G Y fa o pm cd doc dV kV ho hd Ac hD HR hg args vals as DL LO MY JX M3
 obtain rfl : dV = .none := Dflts.none hD Iq
 obtain rfl : kV = .none := Dflts.noKw hD
 obtain ⟨a, vs, ns, rfl, rfl, Gx, hints, hlen⟩ := z3 hn DL JX
 refine enter_call (codeAny_mono (call w gL s₁ mg mb fa o pm cd doc a vs ns G Y ho (fd_plain hd) Ac HR Gx hints hlen hg) fun r s' hq => ?_)
 obtain ⟨rfl, h2, h3, h4⟩ := hq
 exact ⟨.inl ⟨.bool true, .bool true, [], rfl, fun _ => rfl, .bool true, zq l _, fun _ => ⟨List.Pairwise.nil, fun _ hm => (nomatch hm)⟩⟩, h2, h3, h4⟩
section
variable {prog : Program} {w : World} {A : Around} {E : Value -> Shared -> Prop} {s : Shared} {K : Frag}
end
end Lp
namespace L2
open PySem PySem.Spec PyProof.Rows
theorem ux : ∀ {vs : List Value} {ns : List Int}, IntsAre vs ns -> Vals (ns.map V.int) vs
 | _, _, .nil => .nil
 | _, _, .cons n t h => .cons ⟨t, rfl⟩ (ux h)
def Cu (H : Hp) : Prop := ∀ b, H b = none \/ ∃ o xs, H b = some (.xh o (.lst xs))
theorem Ar {P : Program} {w : World} {K : PySem.W.Frag} {mg mb : Str -> Option Value} {CX : v9} {k : Nat} {fa a : Addr} {fd : FuncData} {x : Str} {sp : Sp} {s₁ : Shared} {vs : List Value} {ns : List Int}
 (KX : K.In s₁.heap) (Le : s₁.heap.Ns mainGlobals mg) (hb : s₁.heap.Ns builtinsNs mb) (LR : ∀ x : Str, x ≠ "__name__" -> mb x = bootBuiltins x) (Kv : s₁.heap.NoLimit) (hg : s₁.gens = #[])
 (ha : s₁.heap.get? a = some { cls := .type "list", data := .seq vs.toArray }) (hi : IntsAre vs ns) (hl : ns.length <= sizeLine) (hr : de k callerA)
 (F : ∀ base : Heap, K.In base -> base.Ns mainGlobals mg -> aV P w K mg base CX k fa fd [x] sp) (HI : ∀ (s : Shared) (u : Value), BindsTo s fd ⟨[u], []⟩ [(x, u)])
 (BR : ∀ H : Hp, Cu H -> i6 K H a (ns.map V.int) -> sp [.ref a] H (fun v _ => v = .bl true) fun _ _ _ => False)
 (Ho : ∀ H e s', CX [] H s₁ (fun _ _ _ => False) e s' -> False) :
 codeAny (model P w) callerA (.call (.ref fa) ⟨[.ref a], []⟩) (fun r s' => r = .ok (.ret (.bool true)) /\ OldK s₁.heap s'.heap /\ s'.os = s₁.os /\ AllBare s'.gens) s₁ := by
 have rv := ux hi
 have JP := hi.length
 have core : ∀ H : Hp, Cu H -> i6 K H a (ns.map V.int) -> rh P w H s₁.heap -> (∀ b, H b ≠ none -> b = a) -> (H a ≠ none -> K.lookup a = none) ->
  codeAny (model P w) callerA (.call (.ref fa) ⟨[.ref a], []⟩) (fun r s' => r = .ok (.ret (.bool true)) /\ OldK s₁.heap s'.heap /\ s'.os = s₁.os /\ AllBare s'.gens) s₁ := by
  intro H hO hS dP hA hK
  have yB : ∀ {b : Addr} {o : Obj}, s₁.heap.get? b = some o -> H b = none -> (vn s₁.heap H).get? b = some o := fun e n => A6 e n
  have G1 : ∀ {b : Addr} {o : Obj} {es : Array DictEntry} {ep : Nat}, s₁.heap.get? b = some o -> o.data = .dict es ep -> H b = none := fun {b o es ep} e d => by
   cases q : H b with
   | none => rfl
   | some u =>
     have e' : b = a := hA b (by rw [q]; simp)
     subst e'
     rw [ha] at e; cases e
     have d' : Data.seq vs.toArray _ = Data.dict es ep := d
     cases d'
  have Jj : ∀ {b : Addr} {m : Str -> Option Value}, s₁.heap.Ns b m -> (vn s₁.heap H).Ns b m := fun {b m} ⟨o, es, ep, e, d, r⟩ => ⟨o, es, ep, yB e (G1 e d), d, r⟩
  have Lc : K.In (vn s₁.heap H) := fun b o e => yB (KX b o e) (by
   cases q : H b with
   | none => rfl
   | some u =>
     have e' : b = a := hA b (by rw [q]; simp)
     subst e'
     rw [hK (by rw [q]; simp)] at e; cases e)
  have hM : Mod K mg (vn s₁.heap H) := ⟨Lc, Jj Le, ⟨mb, Jj hb, LR⟩, let ⟨mc, h1, h2⟩ := Kv; ⟨mc, Jj h1, h2⟩⟩
  have e0 : xH P w K mg (vn s₁.heap H) callerA [] s₁ H := ⟨rfl, hM, fun b o e => CZ e, Nat.le_of_eq (zZ _ _), trivial, fun b hb => absurd (show b ∈ ([] : List Addr) from hb) (by simp), dP, .of_eq hg⟩
  refine codeAny_mono ((F _ Lc (Jj Le)).run callerA [] s₁ H ⟨[.ref a], []⟩ [.ref a] [.ref a] _ _ hr e0 (HI s₁ (.ref a)) (.cons rfl .nil) (BR H hO hS)) fun r s' h => ?_
  cases r with
  | error e => exact (Ho H e s' h).elim
  | ok fl =>
    cases fl with
    | next => exact False.elim h
    | brk => exact False.elim h
    | cont => exact False.elim h
    | ret u =>
      obtain ⟨v, H', os, bare, un, KI, r', q⟩ := h
      have q' : v = .bl true := q
      subst q'
      obtain rfl : u = Value.bool true := r'
      refine ⟨rfl, OldK.of_keep fun b o e => ?_, os, bare⟩
      cases q : H b with
      | none => exact un.keep b o e q (by intro z; exact absurd (show b ∈ ([] : List Addr) from z) (by simp)) (by simp)
      | some u =>
        rcases hO b with z | ⟨ob, xs, z⟩
        . rw [q] at z; cases z
        . have z2 := un.sr b ob _ z
          obtain ⟨e1, _⟩ := dP b _ z
          obtain ⟨e2, _⟩ := KI b _ z2
          rw [e] at e1; cases e1
          exact e2
 cases hk : K.lookup a with
 | some o =>
   have e := KX a o hk
   rw [ha] at e
   cases e
   refine core (fun _ => none) (fun _ => .inl rfl) (.inr ⟨_, vs.toArray, _, hk, rfl, rfl, rfl, by rw [List.size_toArray, JP]; exact hl, by simpa using rv⟩) (fun b u z => by have z' : (none : Option HO) = some u := z; cases z') (fun b z => absurd rfl z) fun z => absurd rfl z
 | none =>
   refine core (fun b => if b = a then some (.xh { cls := .type "list", data := .seq vs.toArray } (.lst (ns.map V.int))) else none) (fun b => ?_) (.inl (.inr ⟨{ cls := .type "list", data := .seq vs.toArray }, if_pos rfl⟩)) (fun b u z => ?_) (fun b z => ?_) fun _ => hk
   . by_cases hb : b = a
     . exact .inr ⟨_, _, if_pos hb⟩
     . exact .inl (if_neg hb)
   . by_cases hb : b = a
     . have z' := (if_pos hb).symm.trans z
       cases z'
       subst hb
       exact ⟨ha, by rw [List.length_map]; exact hl, vs, _, rv, ha⟩
     . have z' := (if_neg hb).symm.trans z
       cases z'
   . by_cases hb : b = a
     . exact hb
     . exact absurd (if_neg hb) z
abbrev Jp {K : PySem.W.Frag} {h : Heap} (_ : K.In h) : PySem.W.Frag := K
theorem CV {l : PySem.W.OpenLaw} {n k : Nat} {q : Program} {loose : List Str} {XP : (Str -> Option Value) -> Heap -> Prop} {YP : World -> Heap -> Prop} {d : DefRec} {K : Params -> PySem.W.Frag} {CX : World -> v9} {sp : World -> Sp} {x : Str}
 (hn : l.most = some n) (DT : n <= sizeLine) (Iq : d.params.defaults = []) (hr : de k callerA)
 (hY : ∀ (w : World) (h : Heap), YP w h -> (K w.params).In h)
 (F : ∀ (w : World) (mg : Str -> Option Value) (fa : Addr) (h : Heap), (K w.params).In h -> h.Ns mainGlobals mg -> mg d.name = some (.ref fa) ->
  ∃ fd : FuncData, (∀ (s : Shared) (u : Value), BindsTo s fd ⟨[u], []⟩ [(x, u)]) /\
    ∀ base : Heap, (K w.params).In base -> base.Ns mainGlobals mg -> aV l.prog w (K w.params) mg base (CX w) k fa fd [x] (sp w))
 (BR : ∀ (w : World) (H : Hp) (a : Addr) (ns : List Int), ns.length <= n -> Cu H -> i6 (K w.params) H a (ns.map V.int) -> sp w [.ref a] H (fun v _ => v = .bl true) fun _ _ _ => False)
 (Ho : ∀ (w : World) (H : Hp) (s : Shared) (e : Value) (s' : Shared), CX w [] H s (fun _ _ _ => False) e s' -> False) :
 PySem.W.WalkO q loose XP YP l.row.toRowW d [] (fun f vs => PySem.call f vs) := by
 refine Lp.vC hn Iq fun w gL s₁ mg mb fa o pm cd doc a vs ns G Y ho hd Ac HR Gx hints hlen hg => ?_
 have KX := hY w _ Y
 obtain ⟨fd, hb, hF⟩ := F w mg fa _ KX G.T.g HR
 exact Ar KX G.T.g G.T.b G.T.builtins G.T.nolimit hg Gx hints (Nat.le_trans hlen DT) hr hF hb (fun H hO hS => BR w H a ns hlen hO hS) fun H e s' => Ho w H s₁ e s'
theorem AF {l : PySem.W.OpenLaw} {n k : Nat} {q : Program} {loose : List Str} {XP : (Str -> Option Value) -> Heap -> Prop} {YP : World -> Heap -> Prop} {d : DefRec} {K : Params -> PySem.W.Frag} {CX : v9} {sp : PySem.W.Frag -> Sp} {x : Str}
 (hn : l.most = some n) (DT : n <= sizeLine) (Iq : d.params.defaults = []) (hr : de k callerA)
 (hY : ∀ (w : World) (h : Heap), YP w h -> (K w.params).In h)
 (F : ∀ (w : World) (mg : Str -> Option Value) (fa : Addr) (h : Heap), (K w.params).In h -> h.Ns mainGlobals mg -> mg d.name = some (.ref fa) ->
  ∃ fd : FuncData, (∀ (s : Shared) (u : Value), BindsTo s fd ⟨[u], []⟩ [(x, u)]) /\
    ∀ base : Heap, (K w.params).In base -> base.Ns mainGlobals mg -> aV l.prog w (K w.params) mg base CX k fa fd [x] (sp (K w.params)))
 (BR : ∀ (K : PySem.W.Frag) (H : Hp) (a : Addr) (ns : List Int), ns.length <= n -> Cu H -> i6 K H a (ns.map V.int) -> sp K [.ref a] H (fun v _ => v = .bl true) fun _ _ _ => False)
 (Ho : ∀ (H : Hp) (s : Shared) (e : Value) (s' : Shared), CX [] H s (fun _ _ _ => False) e s' -> False) :
 PySem.W.WalkO q loose XP YP l.row.toRowW d [] (fun f vs => PySem.call f vs) :=
 CV (K := K) (CX := fun _ => CX) (sp := fun w => sp (K w.params)) hn DT Iq hr hY F (fun w H a ns h1 h2 h3 => BR (K w.params) H a ns h1 h2 h3) fun _ H s e s' => Ho H s e s'
def inClass (s : Stmt) (j : Nat) : Stmt := match s with
 | .ClassDef _ _ _ body _ _ _ _ _ _ _ => body.getD j (.Pass ⟨0, 0, 0, 0⟩)
 | _ => .Pass ⟨0, 0, 0, 0⟩
def ot (s : Stmt) : Arguments := match s with
 | .FunctionDef _ a _ _ _ _ _ _ _ _ => a
 | _ => { posonlyargs := [], args := [], vararg := none, kwonlyargs := [], kw_defaults := [], kwarg := none, defaults := [] }
def lZ (s : Stmt) : List Stmt := match s with
 | .FunctionDef _ _ b _ _ _ _ _ _ _ => b
 | _ => []
def ao (s : Stmt) : Scope := match s with
 | .FunctionDef _ _ _ _ _ _ sc _ _ _ => sc
 | _ => { kind := .function, names := [], isGenerator := false, isCoroutine := false }
abbrev gs : v9 := fun _ _ _ _ _ _ => False
abbrev E0 : XK := fun _ _ _ => False
theorem wc {X : Cx} : Passes gs X E0 := fun _ _ _ _ _ _ _ h => h.elim
structure MT (K : PySem.W.Frag) (x qual : Str) (st : Stmt) (f : Addr) (fd : FuncData) : Prop where
 ex : ∃ (oc : Value) (od : Option Addr) (kV doc pm : Value) (an : Option Addr) (dw ct : Value) (Bv : Array (Option Value)),
  fd = PySem.W.fnOf x qual (ot st) (lZ st) (ao st) .none kV doc pm an dw ct /\ K.lookup f = some ⟨oc, od, .func fd, Bv⟩ /\ PySem.W.codeIn K dw qual = true
 kp : PySem.W.keepIn K (.ref f) = true
section
variable {P : Program} {w : World} {K : PySem.W.Frag} {mg : Str -> Option Value} {base : Heap}
end
section
variable {X : Cx}
theorem pv (i : Nat) {x : Str} {pos : Pos} (hN : X.N[i]? = some x := by rfl) (hv : GY X.env.scope x := by first | exact Or.inl rfl | exact Or.inr (Or.inl rfl) | exact Or.inr (Or.inr rfl)) (hd : (x == ("__debug__" : Str)) = false := by decide)
 (Ac : (x == ("__classdict__" : Str)) = false := by decide) : PE X (.Name x pos) (Fl i) := Gu hN hv hd Ac
end
theorem JV {A B : Prop} (h : B) : if false = true then A else B := by
 rw [if_neg Bool.false_ne_true]
 exact h
theorem Kf {A B : Prop} (h : A) : if true = true then A else B := by
 rw [if_pos rfl]
 exact h
def av (H H' : Hp) : Prop := ∀ b o, H b = some o -> H' b = some o
theorem av.refl (H : Hp) : av H H := fun _ _ h => h
theorem av.trans {H H1 H2 : Hp} (a : av H H1) (b : av H1 H2) : av H H2 := fun c o h => b c o (a c o h)
theorem av.seq {K : PySem.W.Frag} {H H' : Hp} {a : Addr} {xs : List V} (e : av H H') (h : i6 K H a xs) : i6 K H' a xs := by
 rcases h with (h | ⟨o, h⟩) | h
 . exact .inl (.inl (e _ _ h))
 . exact .inl (.inr ⟨o, e _ _ h⟩)
 . exact .inr h
section
variable {κ : Type} [DecidableEq κ]
end
section
variable {X : Cx}
def yo (i j : Int) : Prop := i.natAbs < 2 ^ 2000 /\ j.natAbs < 2 ^ 2000
theorem yo.ok {i j : Int} (h : yo i j) : IntMulOk i j := by
 have h1 : Builtin.Int.intBits i <= 2000 := PyProof.Rows.intBits_le h.1
 have h2 : Builtin.Int.intBits j <= 2000 := PyProof.Rows.intBits_le h.2
 have h3 : Builtin.Int.intTooBig ((Builtin.Int.intBits i + Builtin.Int.intBits j : Nat) : Int) = false := by
  unfold Builtin.Int.intTooBig
  have : (bitsLine : Nat) = 134217728 := rfl
  refine decide_eq_false ?_
  omega
 unfold IntMulOk
 have h4 : Builtin.Int.intTooBig (Builtin.Int.intBits i + Builtin.Int.intBits j) = false := by
  have e : ((Builtin.Int.intBits i : Int) + (Builtin.Int.intBits j : Int)) = ((Builtin.Int.intBits i + Builtin.Int.intBits j : Nat) : Int) := by omega
  rw [e]; exact h3
 rw [h4]
 simp
theorem rO : nC X (binaryOp .Mult) (rI yo fun i j => .int (i * j)) := Jq fun _ _ _ _ _ _ _ hc q => mul_int q hc.ok
def D6 (_ j : Int) : Prop := 0 < j /\ j.natAbs < 2 ^ 2000
theorem gZ : nC X (binaryOp .FloorDiv) (rI D6 fun i j => .int (i / j)) := Jq fun i j _ _ _ _ _ hc q => by
 have e : i.fdiv j = i / j := Int.fdiv_eq_ediv_of_nonneg _ (Int.le_of_lt hc.1)
 have hl : j.natAbs.log2 < 9000 := by
  have h0 : j.natAbs ≠ 0 := by have := hc.1; omega
  have h2 : j.natAbs.log2 < 2000 := (Nat.log2_lt h0).mpr hc.2
  omega
 refine floordiv_int (by have := hc.1; omega) ?_ (.inl (PyProof.noPylong_of_log2 hl))
 rw [e]; exact q
inductive F7 : V -> Value -> Prop where
 | ty (n : String) : F7 (.ty n) (.type n)
 | ref (C : Addr) : F7 (.ref C) (.ref C)
def wY (K : PySem.W.Frag) : List V -> Hp -> VK -> Prop := fun xs H Q => ∃ x c cv t b, xs = [x, c] /\ F7 c cv /\ oW K H x t /\ PySem.W.kitOne K t cv = some b /\ Q (.bl b) H
theorem fF : gE X (.builtin "isinstance") (wY X.K) := by
 intro pins s σ H xs us Q I r h
 obtain ⟨x, c, cv, t, b, rfl, hc, ty, e, q⟩ := h
 obtain ⟨u, w', rfl, r1, r2⟩ := vals2 r
 have ew : w' = cv := by cases hc <;> exact r2
 subst ew
 exact y7 I r1 ty e fun tk => ⟨.bl b, H, I.tok tk, rfl, q⟩
structure wB (K : PySem.W.Frag) (C : Addr) (m : Str) (f : Addr) : Prop where
 ga : PySem.W.specialIn K (.ref C) "__getattribute__" = some (some (.builtin "type.__getattribute__"))
 rd : PySem.W.readsIn K C (.type "type") = true
 fd : PySem.W.findCls K (.ref C) (.type "type") m = some (.val (.ref f))
 kp : PySem.W.keepIn K (.ref f) = true
theorem Cg {CX : v9} {k : Nat} {f C : Addr} {fd : FuncData} {ps : List Str} {sp : Sp} {dg : List V} {ds : List Value} {E : XK} {x m : Str} {p pos apos : Pos} {e : Expr} {es : List Expr} {t : TA} {pl : Sem Bool}
 (hg : Gl X x) (hm : X.mg x = some (.ref C)) (B : wB X.K C m f) (F : aV X.prog X.w X.K X.mg X.base CX k f fd ps sp) (hr : de k X.A) (hb : Binds X.K fd ps ds) (hd : Vals dg ds) (hx : Passes CX X E) (ha : PA X (e :: es) t)
 (tP : (x == ("__debug__" : Str)) = false := by decide)
 (zO : starEach (e :: es) X.env = (false, eval e X.env) :: starEach es X.env := by rfl) (pX : (backTo pos (starEach es X.env)).any (·.1) = false := by rfl)
 (ht : eval (.Call (.Attribute (.Name x p) m apos) (e :: es) [] pos) X.env = (do
  let ov <- eval (.Name x p) X.env
  standAt apos.atName
  let (f, first) <- holding [ov] (getMethod ov m pl)
  callWith pos f first (backTo pos (starEach (e :: es) X.env)) (backToKw pos (keywordEach [] X.env))) := by rfl) :
 PE X (.Call (.Attribute (.Name x p) m apos) (e :: es) [] pos) (ui sp dg E t) := by
 intro pins s σ H Q I h
 refine PySem.W.methodCall_KW (pl := pl) (rN I hg hm ?_ tP) ht
 refine PySem.W.method_cls I.pY B.ga ?_
 refine PySem.W.cls_value I.pY B.rd B.fd rfl ?_
 have I' : Inv X pins σ H { s with toks := s.toks + 1 } := I.tok _
 refine PySem.W.callWith_K (first := []) (h₀ := X.base) I.ok.mod.Fp B.kp (df (ha pos pins _ σ H _ I' h) fun us s2 ⟨vs, H2, I2, r, q2⟩ => ⟨I2.pY, ?_⟩) zO pX
 exact vv F hr hb hd hx I2 r q2
end
mutual
inductive ly (K : PySem.W.Frag) (H : Hp) : V -> PyData -> Prop where
 | cf : ly K H .cf .none
 | bl (b : Bool) : ly K H (.bl b) (.bool b)
 | int (i : Int) : ly K H (.int i) (.int i)
 | str (x : Str) : ly K H (.str x) (.str x)
 | tup {a : Addr} {xs : List V} {ds : List PyData} (h : y9 K H a xs) (r : fz K H xs ds) : ly K H (.ref a) (.tuple ds)
 | lst {a : Addr} {xs : List V} {ds : List PyData} (h : i6 K H a xs) (r : fz K H xs ds) : ly K H (.ref a) (.list ds)
inductive fz (K : PySem.W.Frag) (H : Hp) : List V -> List PyData -> Prop where
 | nil : fz K H [] []
 | cons {x : V} {d : PyData} {xs : List V} {ds : List PyData} (h : ly K H x d) (r : fz K H xs ds) : fz K H (x :: xs) (d :: ds)
end
theorem y9.keeps {K : PySem.W.Frag} {H H' : Hp} {a : Addr} {xs : List V} (e : av H H') (h : y9 K H a xs) : y9 K H' a xs := by
 rcases h with (h | ⟨o, h⟩) | h
 . exact .inl (.inl (e _ _ h))
 . exact .inl (.inr ⟨o, e _ _ h⟩)
 . exact .inr h
mutual
theorem ly.keeps {K : PySem.W.Frag} {H H' : Hp} (e : av H H') : ∀ {v : V} {d : PyData}, ly K H v d -> ly K H' v d
 | _, _, .cf => .cf
 | _, _, .bl b => .bl b
 | _, _, .int i => .int i
 | _, _, .str x => .str x
 | _, _, .tup h r => .tup (y9.keeps e h) (fz.keeps e r)
 | _, _, .lst h r => .lst (av.seq e h) (fz.keeps e r)
theorem fz.keeps {K : PySem.W.Frag} {H H' : Hp} (e : av H H') : ∀ {vs : List V} {ds : List PyData}, fz K H vs ds -> fz K H' vs ds
 | _, _, .nil => .nil
 | _, _, .cons h r => .cons (ly.keeps e h) (fz.keeps e r)
end
section
variable {X : Cx} {pins : List (Addr × Obj)} {σ : St} {H : Hp} {s : Shared}
mutual
theorem ly.reads (I : Inv X pins σ H s) : ∀ {v : V} {d : PyData} {u : Value}, ly X.K H v d -> RelV v u -> ∃ as, Reads s.heap u d as
 | _, _, _, .cf, r => by cases r; exact ⟨_, .none⟩
 | _, _, _, .bl b, r => by cases r; exact ⟨_, .bool b⟩
 | _, _, _, .int i, r => by obtain ⟨t, rfl⟩ := r; exact ⟨_, .int i t⟩
 | _, _, _, .str x, r => by obtain ⟨t, rfl⟩ := r; exact ⟨_, .str x t⟩
 | _, _, _, .tup h q, r => by
   cases r
   obtain ⟨b5, rv, ⟨o, h1, h2, n, h3⟩, _⟩ := I.tuple h
   obtain ⟨as, ra⟩ := fz.reads I q rv
   exact ⟨_, .tuple h1 h2 h3 (by simpa using ra)⟩
 | _, _, _, .lst h q, r => by
   cases r
   obtain ⟨b5, rv, ⟨o, n, h1, h2, _, h3⟩, _⟩ := I.list h
   obtain ⟨as, ra⟩ := fz.reads I q rv
   exact ⟨_, .list h1 h2 h3 (by simpa using ra)⟩
theorem fz.reads (I : Inv X pins σ H s) : ∀ {vs : List V} {ds : List PyData} {us : List Value}, fz X.K H vs ds -> Vals vs us -> ∃ as, ReadsAll s.heap us ds as
 | _, _, _, .nil, r => by cases r; exact ⟨_, .nil⟩
 | _, _, _, .cons h q, r => by
   cases r with
   | cons r1 r2 =>
     obtain ⟨as, ra⟩ := ly.reads I h r1
     obtain ⟨bs, rb⟩ := fz.reads I q r2
     exact ⟨_, .cons ra rb⟩
end
end
section
variable {X : Cx}
def HX (K : PySem.W.Frag) (f : Bool -> Bool) : R2 := fun x y H Q => ∃ d e, ly K H x d /\ ly K H y e /\ d.canLay0 = true /\ e.canLay0 = true /\ d.depth <= 8 /\ Q (.bl (f (PyData.eqv d e))) H
theorem FO (hu : X.A.units + 8 < cLine) : nC X (compareOp .Eq) (HX X.K id) := by
 intro pins s σ H x y v u Q I rx ry h
 obtain ⟨d, e, hd, he, c1, c2, hn, q⟩ := h
 obtain ⟨as, ra⟩ := hd.reads I rx
 obtain ⟨bs, rb⟩ := he.reads I ry
 exact SeqAt.compareEq_reads ra rb c1 c2 (by have := Nat.min_le_left d.depth e.depth; omega) ⟨.bl _, H, I, rfl, q⟩
theorem E4 (hu : X.A.units + 8 < cLine) : nC X (compareOp .NotEq) (HX X.K not) := by
 intro pins s σ H x y v u Q I rx ry h
 obtain ⟨d, e, hd, he, c1, c2, hn, q⟩ := h
 obtain ⟨as, ra⟩ := hd.reads I rx
 obtain ⟨bs, rb⟩ := he.reads I ry
 exact SeqAt.compareNe_reads ra rb c1 c2 (by have := Nat.min_le_left d.depth e.depth; omega) ⟨.bl _, H, I, rfl, q⟩
end
structure dt (P : Program) (w : World) (K : PySem.W.Frag) (mg : Str -> Option Value) (base : Heap) (k : Nat) (f : Addr) (ps : List Str) (dg : List V) (sp : Sp) : Prop where
 ex : ∃ (fd : FuncData) (ds : List Value), aV P w K mg base gs k f fd ps sp /\ Binds K fd ps ds /\ Vals dg ds
section
variable {X : Cx} {k : Nat} {f C : Addr} {ps : List Str} {sp : Sp} {dg : List V} {x m : Str} {p pos apos : Pos} {e o : Expr} {es : List Expr} {ta : TE} {t : TA}
theorem B8 (c : dt X.prog X.w X.K X.mg X.base k f ps dg sp) (hr : de k X.A) (hg : Gl X x) (hm : X.mg x = some (.ref f)) (hk : PySem.W.keepIn X.K (.ref f) = true)
 (ha : PA X (e :: es) t) (tP : (x == ("__debug__" : Str)) = false := by decide) (he : starEach (e :: es) X.env = (false, eval e X.env) :: starEach es X.env := by rfl) (pX : (backTo pos (starEach es X.env)).any (·.1) = false := by rfl) :
 PE X (.Call (.Name x p) (e :: es) [] pos) (ui sp dg E0 t) := by
 obtain ⟨fd, ds, F, hb, hd⟩ := c.ex
 exact Ct F hr hg hm hk hb hd wc ha tP he pX
theorem Dq {pl : Sem Bool} (he : PE X o ta) (c : lq X.K C) (hm : Meth X.K C m f) (F : dt X.prog X.w X.K X.mg X.base k f ps dg sp) (hr : de k X.A) (ha : PA X (e :: es) t)
 (zO : starEach (e :: es) X.env = (false, eval e X.env) :: starEach es X.env := by rfl) (pX : (backTo pos (starEach es X.env)).any (·.1) = false := by rfl)
 (ht : eval (.Call (.Attribute o m apos) (e :: es) [] pos) X.env = (do
  let ov <- eval o X.env
  standAt apos.atName
  let (f, first) <- holding [ov] (getMethod ov m pl)
  callWith pos f first (backTo pos (starEach (e :: es) X.env)) (backToKw pos (keywordEach [] X.env))) := by rfl) :
 PE X (.Call (.Attribute o m apos) (e :: es) [] pos) (uf C m sp dg E0 ta t) := by
 obtain ⟨fd, ds, F, hb, hd⟩ := F.ex
 exact CY he c hm F hr hb hd wc ha zO pX ht
theorem BH {pl : Sem Bool} (he : PE X o ta) (c : lq X.K C) (hm : Meth X.K C m f) (F : dt X.prog X.w X.K X.mg X.base k f ps dg sp) (hr : de k X.A)
 (ht : eval (.Call (.Attribute o m apos) [] [] pos) X.env = (do
  let ov <- eval o X.env
  standAt apos.atName
  let (f, first) <- holding [ov] (getMethod ov m pl)
  callWith pos f first (backTo pos (starEach [] X.env)) (backToKw pos (keywordEach [] X.env))) := by rfl) :
 PE X (.Call (.Attribute o m apos) [] [] pos) (uf C m sp dg E0 ta AW) := by
 obtain ⟨fd, ds, F, hb, hd⟩ := F.ex
 exact A9 he c hm F hr hb hd wc ht
theorem CM (M : Mk X.K C f) (F : dt X.prog X.w X.K X.mg X.base k f ps dg sp) (hr : de (k + 1) X.A) (hg : Gl X x) (hm : X.mg x = some (.ref C))
 (ha : PA X (e :: es) t) (tP : (x == ("__debug__" : Str)) = false := by decide) (he : starEach (e :: es) X.env = (false, eval e X.env) :: starEach es X.env := by rfl) (pX : (backTo pos (starEach es X.env)).any (·.1) = false := by rfl) :
 PE X (.Call (.Name x p) (e :: es) [] pos) (yE C sp dg E0 t) := by
 obtain ⟨fd, ds, F, hb, hd⟩ := F.ex
 exact DK M F hr hg hm hb hd wc ha tP he pX
theorem C2 {pl : Sem Bool} (hg : Gl X x) (hm : X.mg x = some (.ref C)) (B : wB X.K C m f) (F : dt X.prog X.w X.K X.mg X.base k f ps dg sp) (hr : de k X.A) (ha : PA X (e :: es) t)
 (tP : (x == ("__debug__" : Str)) = false := by decide)
 (zO : starEach (e :: es) X.env = (false, eval e X.env) :: starEach es X.env := by rfl) (pX : (backTo pos (starEach es X.env)).any (·.1) = false := by rfl)
 (ht : eval (.Call (.Attribute (.Name x p) m apos) (e :: es) [] pos) X.env = (do
  let ov <- eval (.Name x p) X.env
  standAt apos.atName
  let (f, first) <- holding [ov] (getMethod ov m pl)
  callWith pos f first (backTo pos (starEach (e :: es) X.env)) (backToKw pos (keywordEach [] X.env))) := by rfl) :
 PE X (.Call (.Attribute (.Name x p) m apos) (e :: es) [] pos) (ui sp dg E0 t) := by
 obtain ⟨fd, ds, F, hb, hd⟩ := F.ex
 exact Cg hg hm B F hr hb hd wc ha tP zO pX ht
end
structure bP (K : PySem.W.Frag) (x qual : Str) (st : Stmt) (f : Addr) (dV : Value) (fd : FuncData) : Prop where
 ex : ∃ (oc : Value) (od : Option Addr) (kV doc pm : Value) (an : Option Addr) (dw ct : Value) (Bv : Array (Option Value)),
  fd = PySem.W.fnOf x qual (ot st) (lZ st) (ao st) dV kV doc pm an dw ct /\ K.lookup f = some ⟨oc, od, .func fd, Bv⟩ /\ PySem.W.codeIn K dw qual = true
theorem yL {K : PySem.W.Frag} {x qual : Str} {st : Stmt} {f : Addr} {oc : Value} {od an : Option Addr} {Bv : Array (Option Value)} {dV kV doc pm dw ct : Value} (l : K.lookup f = some ⟨oc, od, .func (PySem.W.fnOf x qual (ot st) (lZ st) (ao st) dV kV doc pm an dw ct), Bv⟩)
 (c : PySem.W.codeIn K dw qual = true) : bP K x qual st f dV (PySem.W.fnOf x qual (ot st) (lZ st) (ao st) dV kV doc pm an dw ct) := ⟨⟨oc, od, kV, doc, pm, an, dw, ct, Bv, rfl, l, c⟩⟩
section
variable {P : Program} {w : World} {K : PySem.W.Frag} {mg : Str -> Option Value} {base : Heap}
theorem bP.ok {x qual : Str} {st : Stmt} {f : Addr} {dV : Value} {fd : FuncData} {N ps : List Str} {k : Nat} {sp : Sp} (F : bP K x qual st f dV fd) (S : aB N ps (ao st)) (len : ∀ vs H Q E, sp vs H Q E -> vs.length = ps.length)
 (Ao : ∀ (dw : Value) (A : Around) (outer : List Env) (s : Shared) (H : Hp) (vs : List V) (Q : VK) (E : XK), de k (A.deeper (envOfC qual (ao st) s.heap.objs.size f dw)) -> sp vs H Q E ->
  ∃ t, wN (zI gs P w K mg base N qual (ao st) f dw A outer s H E).Jt (lZ st) t /\ t { nx := fun _ H' => Q .cf H', rt := Q } (start N vs) H) : aV P w K mg base gs (k + 1) f fd ps sp := by
 obtain ⟨oc, od, kV, doc, pm, an, dw, ct, Bv, rfl, lk, Ac⟩ := F.ex
 refine GZ lk Ac S len fun A outer s H vs Q E hr BR => ?_
 obtain ⟨t, h, q⟩ := Ao dw A outer s H vs Q E hr BR
 exact ⟨t, h.Jt, q⟩
theorem bP.binds {x qual : Str} {st : Stmt} {f : Addr} {dV : Value} {fd : FuncData} {ps : List Str} {ds : List Value} (F : bP K x qual st f dV fd)
 (h : ∀ (kV doc pm : Value) (an : Option Addr) (dw ct : Value), Binds K (PySem.W.fnOf x qual (ot st) (lZ st) (ao st) dV kV doc pm an dw ct) ps ds) : Binds K fd ps ds := by
 obtain ⟨oc, od, kV, doc, pm, an, dw, ct, Bv, rfl, lk, Ac⟩ := F.ex
 exact h kV doc pm an dw ct
end
structure uV (K : PySem.W.Frag) (T : Addr) (items : Array Value) : Prop where
 ex : ∃ (o : Obj) (n : Nat), K.lookup T = some o /\ o.data = .seq items n
structure sG (K : PySem.W.Frag) (C : Addr) : Prop where
 ha : PySem.W.findIn K (.ref C) "__class__" = some (some (.builtin "object.__class__"))
 hn : PySem.W.specialIn K (.builtin "object.__class__") "__get__" = some (some (.builtin "getset_descriptor.__get__"))
 ht : PySem.W.takesIn K (.builtin "object.__class__") = some true
 hm : PySem.W.mroIn K C (.type "object") = some true
section
variable {σ : St} {H : Hp} {Q : VK} {D : Ends} {K : PySem.W.Frag}
theorem Fg (h : D.nx σ H) : El D σ H := h
theorem Ig {te : TE} (h : te σ H D.rt) : I9 te D σ H := h
theorem Gd {te : TE} (h : te σ H fun _ H1 => D.nx σ H1) : DR te D σ H := h
theorem Iv {c : TT} {t u : TS} (h : c σ H fun b H1 => if b = true then t D σ H1 else u D σ H1) : Ht c t u D σ H := h
theorem IP {te : TE} {i : Nat} (h : te σ H fun x H1 => D.nx (σ.set i (some x)) H1) : DP te (kA i) D σ H := h
theorem DY {i : Nat} {v : V} (e : σ[i]? = some (some v)) (h : Q v H) : Fl i σ H Q := ⟨v, e, h⟩
theorem L5 {v : V} (h : Q v H) : tC v σ H Q := h
theorem K5 {r : R2} {ta tb : TE} (h : ta σ H fun x H1 => tb σ H1 fun y H2 => r x y H2 Q) : IY r ta tb σ H Q := h
theorem JT {r : V -> Hp -> VK -> Prop} {ta : TE} (h : ta σ H fun x H1 => r x H1 Q) : LN r ta σ H Q := h
theorem JG {g : Int -> Int -> V} {i j : Int} (h : Q (g i j) H) : Cw g (.int i) (.int j) H Q := ⟨i, j, rfl, rfl, h⟩
theorem L1 {C : Int -> Int -> Prop} {g : Int -> Int -> V} {i j : Int} (c : C i j) (h : Q (g i j) H) : rI C g (.int i) (.int j) H Q := ⟨i, j, rfl, rfl, c, h⟩
theorem L9 {g : Int -> V} {i : Int} (h : Q (g i) H) : rU g (.int i) H Q := ⟨i, rfl, h⟩
theorem Fw {t : TE} {Q : Bool -> Hp -> Prop} (h : t σ H fun x H' => ∃ k, x = .bl k /\ Q k H') : Ap t σ H Q := h
theorem Jc {t u : TT} {Q : Bool -> Hp -> Prop} (h : t σ H fun c H1 => if c = true then u σ H1 Q else Q false H1) : He t u σ H Q := h
theorem JR {t u : TT} {Q : Bool -> Hp -> Prop} (h : t σ H fun c H1 => if c = true then Q true H1 else u σ H1 Q) : LJ t u σ H Q := h
theorem IB {t : TT} {Q : Bool -> Hp -> Prop} (h : t σ H fun c H1 => Q (!c) H1) : HU t σ H Q := h
theorem Fs {ta tb : TE} (h : ta σ H fun x H1 => ∃ c, x = .bl c /\ if c = true then tb σ H1 Q else Q (.bl false) H1) : DU ta tb σ H Q := h
theorem HL {ta tb : TE} (h : ta σ H fun x H1 => ∃ c, x = .bl c /\ if c = true then Q (.bl true) H1 else tb σ H1 Q) : IX ta tb σ H Q := h
theorem FH {ta : TE} (h : ta σ H fun x H1 => ∃ c, x = .bl c /\ Q (.bl (!c)) H1) : Ee ta σ H Q := h
theorem G2 {t : TT} {ta tb : TE} (h : t σ H fun c H1 => if c = true then ta σ H1 Q else tb σ H1 Q) : LI t ta tb σ H Q := h
theorem KC {b : Bool} {R : Bool -> Prop} (h : R b) : ∃ k, V.bl b = .bl k /\ R k := ⟨b, rfl, h⟩
theorem G9 {Q : List V -> Hp -> Prop} (h : Q [] H) : AW σ H Q := h
theorem F2 {ta : TE} {tr : TA} {Q : List V -> Hp -> Prop} (h : ta σ H fun x H1 => tr σ H1 fun xs H2 => Q (x :: xs) H2) : Ea ta tr σ H Q := h
theorem Kj {r : List V -> Hp -> VK -> Prop} {t : TA} (h : t σ H fun vs H1 => r vs H1 Q) : Kb r t σ H Q := h
theorem Hq {ta : TE} {f : Str} (h : ta σ H fun x H1 => ∃ a C dx fs v, x = .ref a /\ H1 a = some (.ins C dx fs) /\ lq K C /\ aJ K C f /\ fs.lookup f = some v /\ Q v H1) : Hv K ta f σ H Q := h
theorem Ag {A B : Prop} (h : A) : if true = true then A else B := by rw [if_pos rfl]; exact h
theorem zQ {A B : Prop} (h : B) : if false = true then A else B := by rw [if_neg Bool.false_ne_true]; exact h
end
section
variable {X : Cx} {e : Expr} {es : List Expr}
theorem PE.or {t u : TE} (h1 : PE X e t) (h2 : PE X e u) : PE X e (fun σ H Q => t σ H Q \/ u σ H Q) := fun pins s σ H Q I h => h.elim (h1 pins s σ H Q I) (h2 pins s σ H Q I)
theorem PE.weak {t u : TE} (h1 : PE X e t) (h : ∀ σ H Q, u σ H Q -> t σ H Q) : PE X e u := fun pins s σ H Q I q => h1 pins s σ H Q I (h σ H Q q)
def mA (t : TA) : TA := fun σ H Q => ∃ Q' : List V -> Hp -> Prop, t σ H Q' /\ ∀ v H', Q' v H' -> Q v H'
theorem PA.m {t : TA} (h : PA X es t) : PA X es (mA t) := fun pos pins s σ H Q I ⟨Q', q, m⟩ => df (h pos pins s σ H Q' I q) fun _ _ ⟨v, H', I', r, z⟩ => ⟨v, H', I', r, m v H' z⟩
end
def K3 : Key -> PyData
 | .inl i => .int i
 | .inr x => .str x
mutual
inductive Dv (H : Hp) : V -> PyData -> Prop where
 | cf : Dv H .cf .none
 | bl (b : Bool) : Dv H (.bl b) (.bool b)
 | int (i : Int) : Dv H (.int i) (.int i)
 | str (x : Str) : Dv H (.str x) (.str x)
 | tup {a : Addr} {xs : List V} {ds : List PyData} (h : H a = some (.tup xs)) (r : c7 H xs ds) : Dv H (.ref a) (.tuple ds)
 | lst {a : Addr} {xs : List V} {ds : List PyData} (h : Rd H a (.lst xs)) (r : c7 H xs ds) : Dv H (.ref a) (.list ds)
 | dct {a : Addr} {e9 : List (Key × V)} {ds : List (PyData × PyData)} (h : H a = some (.dK e9)) (r : Dz H e9 ds) : Dv H (.ref a) (.dict ds)
inductive Dz (H : Hp) : List (Key × V) -> List (PyData × PyData) -> Prop where
 | nil : Dz H [] []
 | cons {k : Key} {x : V} {d : PyData} {xs : List (Key × V)} {ds : List (PyData × PyData)} (h : Dv H x d) (r : Dz H xs ds) : Dz H ((k, x) :: xs) ((K3 k, d) :: ds)
inductive c7 (H : Hp) : List V -> List PyData -> Prop where
 | nil : c7 H [] []
 | cons {x : V} {d : PyData} {xs : List V} {ds : List PyData} (h : Dv H x d) (r : c7 H xs ds) : c7 H (x :: xs) (d :: ds)
end
mutual
theorem Dv.has {K : PySem.W.Frag} {H : Hp} : ∀ {v : V} {d : PyData}, Dv H v d -> d.canLay0 = true -> ly K H v d
 | _, _, .cf, _ => .cf
 | _, _, .bl b, _ => .bl b
 | _, _, .int i, _ => .int i
 | _, _, .str x, _ => .str x
 | _, _, .tup h r, c => .tup (.of h) (c7.has r (by simpa [PyData.canLay0] using c))
 | _, _, .lst h r, c => .lst (.inl h) (c7.has r (by simpa [PyData.canLay0] using c))
 | _, _, .dct h r, c => by simp [PyData.canLay0] at c
theorem c7.has {K : PySem.W.Frag} {H : Hp} : ∀ {v : List V} {d : List PyData}, c7 H v d -> PyData.canLayAll0 d = true -> fz K H v d
 | _, _, .nil, _ => .nil
 | _, _, .cons h r, c => by
   have c' := c
   simp only [PyData.canLayAll0, Bool.and_eq_true] at c'
   exact .cons (Dv.has h c'.1) (c7.has r c'.2)
end
theorem av.rd {H H' : Hp} {a : Addr} {u : HO} (e : av H H') (h : Rd H a u) : Rd H' a u := by
 rcases h with h | ⟨o, h⟩
 . exact .inl (e _ _ h)
 . exact .inr ⟨o, e _ _ h⟩
mutual
theorem Dv.keeps {H H' : Hp} (e : av H H') : ∀ {v : V} {d : PyData}, Dv H v d -> Dv H' v d
 | _, _, .cf => .cf
 | _, _, .bl b => .bl b
 | _, _, .int i => .int i
 | _, _, .str x => .str x
 | _, _, .tup h r => .tup (e _ _ h) (c7.keeps e r)
 | _, _, .lst h r => .lst (e.rd h) (c7.keeps e r)
 | _, _, .dct h r => .dct (e _ _ h) (Dz.keeps e r)
theorem Dz.keeps {H H' : Hp} (e : av H H') : ∀ {v : List (Key × V)} {d : List (PyData × PyData)}, Dz H v d -> Dz H' v d
 | _, _, .nil => .nil
 | _, _, .cons h r => .cons (Dv.keeps e h) (Dz.keeps e r)
theorem c7.keeps {H H' : Hp} (e : av H H') : ∀ {v : List V} {d : List PyData}, c7 H v d -> c7 H' v d
 | _, _, .nil => .nil
 | _, _, .cons h r => .cons (Dv.keeps e h) (c7.keeps e r)
end
theorem c7.length {H : Hp} : ∀ {xs : List V} {ds : List PyData}, c7 H xs ds -> xs.length = ds.length
 | _, _, .nil => rfl
 | _, _, .cons _ r => by simp [c7.length r]
theorem c7.get {H : Hp} : ∀ {xs : List V} {ds : List PyData} {i : Nat} {d : PyData}, c7 H xs ds -> ds[i]? = some d -> ∃ x, xs[i]? = some x /\ Dv H x d
 | _, _, _, _, .nil, e => by simp at e
 | _, _, 0, _, .cons h _, e => by simp at e; subst e; exact ⟨_, rfl, h⟩
 | _, _, i + 1, x, .cons _ r, e => by
   obtain ⟨d, h1, h2⟩ := c7.get (i := i) (d := x) r (by simpa using e)
   exact ⟨d, by simpa using h1, h2⟩
theorem c7.append {H : Hp} : ∀ {xs ys : List V} {ds es : List PyData}, c7 H xs ds -> c7 H ys es -> c7 H (xs ++ ys) (ds ++ es)
 | _, _, _, _, .nil, s => s
 | _, _, _, _, .cons r t, s => .cons r (c7.append t s)
def vq (H : Hp) (d : PyData) (Q : VK) : Prop := match d with
 | .none => Q .cf H
 | .bool b => Q (.bl b) H
 | .int i => Q (.int i) H
 | .str x => Q (.str x) H
 | d => ∀ v, Dv H v d -> Q v H
theorem vq.use {H : Hp} {d : PyData} {Q : VK} (g : vq H d Q) {v : V} (h : Dv H v d) : Q v H := by
 cases h with
 | cf => exact g
 | bl b => exact g
 | int i => exact g
 | str x => exact g
 | tup h r => exact g _ (.tup h r)
 | lst h r => exact g _ (.lst h r)
 | dct h r => exact g _ (.dct h r)
theorem yJ {H : Hp} {xs : List V} {ds : List PyData} {i : Int} {d : PyData} (r : c7 H xs ds) (h : vA ds i = some d) : ∃ x, vA xs i = some x /\ Dv H x d := by
 unfold vA at h ⊢
 rw [r.length]
 cases e : FG ds.length i with
 | none => rw [e] at h; simp at h
 | some j =>
   rw [e] at h
   have h' : ds[j]? = some d := by simpa using h
   obtain ⟨x, h1, h2⟩ := r.get h'
   exact ⟨x, by simpa using h1, h2⟩
def t9 (H : Hp) (v : V) (ds : List PyData) : Prop := Dv H v (.tuple ds) \/ Dv H v (.list ds)
def Ir : R2 := fun x y H Q => ∃ ds i d, y = .int i /\ t9 H x ds /\ vA ds i = some d /\ vq H d Q
theorem Cj {K : PySem.W.Frag} {x y : V} {H : Hp} {Q : VK} (h : Ir x y H Q) : Lj K x y H Q := by
 obtain ⟨ds, i, d, rfl, hs, hi, g⟩ := h
 rcases hs with hs | hs
 . cases hs with
   | tup h r =>
     obtain ⟨v, h1, h2⟩ := yJ r hi
     exact .inr (.inl ⟨_, _, i, v, rfl, rfl, .of h, h1, g.use h2⟩)
 . cases hs with
   | lst h r =>
     obtain ⟨v, h1, h2⟩ := yJ r hi
     exact .inl ⟨_, _, i, v, rfl, rfl, .inl h, h1, g.use h2⟩
section
variable {X : Cx}
def FU : R2 := fun x y H Q => Ir x y H Q \/ Gv x y H Q
theorem J8 : By X FU := fun value slice pins s σ H x y v u Q I r1 r2 h => EX value slice pins s σ H x y v u Q I r1 r2 (h.elim Cj fun z => .inr (.inr z))
def AZ : List V -> Hp -> VK -> Prop := fun xs H Q => (∃ v ds, xs = [v] /\ t9 H v ds /\ Q (.int (ds.length : Nat)) H) \/ ∃ z, xs = [.str z] /\ z.length <= sizeLine /\ Q (.int (z.length : Nat)) H
theorem zN : gE X (.builtin "len") AZ := fun pins s σ H xs us Q I r h => by
 rcases h with ⟨v, ds, rfl, hs, q⟩ | h
 . rcases hs with hs | hs
   . cases hs with
     | tup h t => exact jV pins s σ H _ us Q I r ⟨_, _, rfl, .inr (.of h), by rw [t.length]; exact q⟩
   . cases hs with
     | lst h t => exact jV pins s σ H _ us Q I r ⟨_, _, rfl, .inl (.inl h), by rw [t.length]; exact q⟩
 . exact vo pins s σ H _ us Q I r h
def Jn : PyData -> String
 | .none => "NoneType" | .bool _ => "bool" | .int _ => "int" | .str _ => "str" | .list _ => "list" | .tuple _ => "tuple" | .dict _ => "dict"
def Bd (t n : String) : Option Bool := if ((Value.type t) == (Value.type n)) = true then some true else if PySem.W.kitMeta n = true then (PySem.fastBuiltinMro t).map (·.contains (.type n)) else none
theorem BD {K : PySem.W.Frag} {t n : String} {b : Bool} (h : Bd t n = some b) : PySem.W.kitOne K (.type t) (.type n) = some b := h
def Gq (t n : String) : Bool := t == n || (t == "bool" && n == "int")
theorem zg : (["NoneType", "bool", "int", "str", "list", "tuple", "dict"].all fun t => ["int", "bool", "str", "list", "tuple", "dict"].all fun n => Bd t n == some (Gq t n)) = true := by decide +kernel
theorem A2 {t n : String} (ht : t ∈ ["NoneType", "bool", "int", "str", "list", "tuple", "dict"]) (hn : n ∈ ["int", "bool", "str", "list", "tuple", "dict"]) : Bd t n = some (Gq t n) := by
 have h := List.all_eq_true.mp (List.all_eq_true.mp zg t ht) n hn
 exact beq_iff_eq.mp h
theorem Dd (d : PyData) : Jn d ∈ ["NoneType", "bool", "int", "str", "list", "tuple", "dict"] := by
 cases d <;> simp [Jn]
theorem Dv.ty {K : PySem.W.Frag} {H : Hp} {v : V} {d : PyData} (h : Dv H v d) : oW K H v (.type (Jn d)) := by
 cases h with
 | cf => exact .cf
 | bl b => exact .bl b
 | int i => exact .int i
 | str x => exact .str x
 | tup h r => exact .tup h
 | lst h r =>
   rcases h with h | ⟨o, h⟩
   . exact .lst h
   . exact .xh h
 | dct h r => exact .dK h
theorem xE {K : PySem.W.Frag} {H : Hp} {v : V} {d : PyData} {n : String} {Q : VK} (h : Dv H v d) (hn : n ∈ ["int", "bool", "str", "list", "tuple", "dict"]) (q : Q (.bl (Gq (Jn d) n)) H) : wY K [v, .ty n] H Q :=
 ⟨v, .ty n, .type n, _, _, rfl, .ty n, h.ty, BD (A2 (Dd d) hn), q⟩
def DB (K : PySem.W.Frag) (f : Bool -> Bool) : R2 := fun x y H Q => (Dt x y = true /\ Q (.bl (f (decide (x = y)))) H) \/ ∃ d e, Dv H x d /\ Dv H y e /\ d.canLay0 = true /\ e.canLay0 = true /\ d.depth <= 8 /\ Q (.bl (f (PyData.eqv d e))) H
theorem cF (hu : X.A.units + 8 < cLine) : nC X (compareOp .Eq) (DB X.K id) := fun pins s σ H x y v u Q I rx ry h => by
 rcases h with h | ⟨d, e, h1, h2, h3, h4, h5, h6⟩
 . exact Iy pins s σ H x y v u Q I rx ry h
 . exact FO hu pins s σ H x y v u Q I rx ry ⟨d, e, h1.has h3, h2.has h4, h3, h4, h5, h6⟩
theorem qB (hu : X.A.units + 8 < cLine) : nC X (compareOp .NotEq) (DB X.K not) := fun pins s σ H x y v u Q I rx ry h => by
 rcases h with h | ⟨d, e, h1, h2, h3, h4, h5, h6⟩
 . exact HG pins s σ H x y v u Q I rx ry h
 . exact E4 hu pins s σ H x y v u Q I rx ry ⟨d, e, h1.has h3, h2.has h4, h3, h4, h5, h6⟩
variable {es : List Expr} {t : TA} {pos : Pos}
def EG (xs : List V) (H1 : Hp) (Q : VK) : Prop := xs.length <= sizeLine /\ ∃ ds, c7 H1 xs ds /\ ∀ p H2, av H1 H2 -> H1 p = none -> H2 p = some (.tup xs) -> Dv H2 (.ref p) (.tuple ds) -> Q (.ref p) H2
def Du (xs : List V) (H1 : Hp) (Q : VK) : Prop := xs.length <= sizeLine /\ ∃ ds, c7 H1 xs ds /\ ∀ p H2, av H1 H2 -> H1 p = none -> H2 p = some (.lst xs) -> c7 H2 xs ds -> Dv H2 (.ref p) (.list ds) -> Q (.ref p) H2
def D2 (t : TA) : TE := fun σ H Q => t σ H fun xs H1 => EG xs H1 Q
theorem fx {x1} (h : PA X es t) : PE X (.Tuple es x1 pos) (D2 t) := PE.weak (Ft h.m) fun σ H Q q => ⟨_, q, fun xs H1 ⟨hl, ds, hd, k⟩ => ⟨hl, fun p hp => by
 have sm : av H1 (upd H1 p (.tup xs)) := fun b u e => by rw [a8 (bF e hp)]; exact e
 exact k p _ sm hp bI (.tup bI (hd.keeps sm))⟩⟩
def D3 (t : TA) : TE := fun σ H Q => t σ H fun xs H1 => Du xs H1 Q
theorem fw (h : PA X es t) : PE X (.List es pos) (D3 t) := PE.weak (EE h.m) fun σ H Q q => ⟨_, q, fun xs H1 ⟨hl, ds, hd, k⟩ => ⟨hl, fun p hp => by
 have sm : av H1 (upd H1 p (.lst xs)) := fun b u e => by rw [a8 (bF e hp)]; exact e
 exact k p _ sm hp bI (hd.keeps sm) (.lst (.of bI) (hd.keeps sm))⟩⟩
variable {st : Stmt} {rest : List Stmt}
def EY (t u : TS) : TS := fun D σ H => ∃ R : St -> Hp -> Prop, t { D with nx := R } σ H /\ ∀ σ' H', R σ' H' -> u D σ' H'
theorem aj {t u : TS} (h1 : PS X st t) (h2 : wN X rest u) : wN X (st :: rest) (EY t u) := by
 intro pins s σ H D I ⟨R, h, k⟩
 refine wpAny_execs_cons (df (h1 pins s σ H { D with nx := R } I h) fun f s1 q => ?_)
 cases f with
 | next =>
   obtain ⟨σ', H', I', q⟩ := q
   exact h2 pins s1 σ' H' D I' (k _ _ q)
 | ret v => exact q
 | brk => exact q
 | cont => exact q
end
section
variable {σ : St} {H : Hp} {Q : VK} {D : Ends} {K : PySem.W.Frag}
theorem Gp {t u : TS} (h : t { D with nx := u D } σ H) : EY t u D σ H := ⟨u D, h, fun _ _ z => z⟩
theorem Fj {t : TA} (h : t σ H fun xs H1 => EG xs H1 Q) : D2 t σ H Q := h
theorem FN {xs : List V} {ds : List PyData} (hl : xs.length <= sizeLine) (hd : c7 H xs ds) (k : ∀ v H2, av H H2 -> Dv H2 v (.tuple ds) -> Q v H2) : EG xs H Q := ⟨hl, ds, hd, fun p H2 s _ _ d => k (.ref p) H2 s d⟩
theorem FA {t : TA} (h : t σ H fun xs H1 => Du xs H1 Q) : D3 t σ H Q := h
theorem Iz {f : Bool -> Bool} {x y : V} (e : Dt x y = true) (h : Q (.bl (f (decide (x = y)))) H) : DB K f x y H Q := .inl ⟨e, h⟩
theorem wk {f : Bool -> Bool} {x y : V} {d e : PyData} (h1 : Dv H x d) (h2 : Dv H y e) (h3 : d.canLay0 = true) (h4 : e.canLay0 = true) (h5 : d.depth <= 8) (h : Q (.bl (f (PyData.eqv d e))) H) : DB K f x y H Q := .inr ⟨d, e, h1, h2, h3, h4, h5, h⟩
theorem Ik {x : V} {ds : List PyData} {i : Int} {d : PyData} (hs : t9 H x ds) (hi : vA ds i = some d) (g : vq H d Q) : FU x (.int i) H Q := .inl ⟨ds, i, d, rfl, hs, hi, g⟩
theorem GH {v : V} {ds : List PyData} (hs : t9 H v ds) (h : Q (.int (ds.length : Nat)) H) : AZ [v] H Q := .inl ⟨v, ds, rfl, hs, h⟩
theorem DC {i : Int} (h : Q (.int i) H) : vq H (.int i) Q := h
theorem Dl (h : Q .cf H) : vq H .none Q := h
theorem CO {i : Str} (h : Q (.str i) H) : vq H (.str i) Q := h
theorem Hj {b : Bool} {A B : Prop} (h1 : b = true -> A) (h2 : b = false -> B) : if b = true then A else B := by
 cases b
 . exact JV (h2 rfl)
 . exact Kf (h1 rfl)
end
theorem de.qw {k : Nat} {A : Around} (r : de k A) : A.units + 8 < cLine := Nat.lt_of_le_of_lt (by omega) r.units
theorem eW {H : Hp} {t : Addr} {o : HO} (h : H t = none) : av H (upd H t o) := fun b u e => by rw [a8 (bF e h)]; exact e
section
variable {σ : St} {H : Hp} {Q : VK} {D : Ends} {K : PySem.W.Frag}
theorem HJ {v : V} {R : St -> Hp -> Prop} {rt : VK} {bk ct : St -> Hp -> Prop} (h : rt v H) : (Ends.mk R rt bk ct).rt v H := h
end
theorem xO {K : PySem.W.Frag} {C : Addr} {b : Value} {r : Bool} (h : PySem.W.mroIn K C b = some r) : (PySem.W.clsIn K C).isSome = true := by
 obtain ⟨cd, e, _⟩ := Option.bind_eq_some_iff.mp h
 rw [e]; rfl
theorem lX {K : PySem.W.Frag} {C D : Addr} {b : Bool} (h2 : PySem.W.mroIn K D (.type "object") = some true) (h3 : PySem.W.typeIn K (.ref D) = some (.type "type")) (h : PySem.W.mroIn K C (.ref D) = some b) (hb : C = D -> b = true := by intro _; rfl) : PySem.W.kitOne K (.ref C) (.ref D) = some b := by
 unfold PySem.W.kitOne
 split
 . rename_i e
   have : C = D := by
    have := beq_iff_eq.mp e
    cases this; rfl
   rw [hb this]
 . show (if ((PySem.W.clsIn K D).isSome && PySem.W.typeIn K (.ref D) == some (.type "type")) = true then PySem.W.subIn K (.ref C) (.ref D) else none) = some b
   rw [xO h2, h3]
   rw [if_pos (by decide +kernel)]
   exact h
def isInt : PyData -> Bool | .int _ => true | .bool _ => true | _ => false
def isBool : PyData -> Bool | .bool _ => true | _ => false
def isStr : PyData -> Bool | .str _ => true | _ => false
def Hg : PyData -> Bool | .list _ => true | _ => false
def isTup : PyData -> Bool | .tuple _ => true | _ => false
def Hb : PyData -> Bool | .dict _ => true | _ => false
section
variable {K : PySem.W.Frag} {H : Hp} {v : V} {d : PyData} {Q : VK}
theorem zV (h : Dv H v d) (q : Q (.bl (isInt d)) H) : wY K [v, .ty "int"] H Q := xE h (by decide) (by cases d <;> exact q)
theorem wO (h : Dv H v d) (q : Q (.bl (isBool d)) H) : wY K [v, .ty "bool"] H Q := xE h (by decide) (by cases d <;> exact q)
theorem zJ (h : Dv H v d) (q : Q (.bl (isStr d)) H) : wY K [v, .ty "str"] H Q := xE h (by decide) (by cases d <;> exact q)
theorem zB {p C D dx : Addr} {fs : List (Str × V)} {b : Bool} (hp : H p = some (.ins C dx fs)) (cl : lq K C) (t : sG K C) (k : PySem.W.kitOne K (.ref C) (.ref D) = some b) (q : Q (.bl b) H) : wY K [.ref p, .ref D] H Q :=
 ⟨_, _, _, _, _, rfl, .ref D, .ins hp cl t.ha t.hn t.ht t.hm, k, q⟩
def eZ (H : Hp) (v : V) (C : Addr) (fs : List (Str × V)) : Prop := ∃ p dx, v = .ref p /\ H p = some (.ins C dx fs)
theorem eZ.keeps {H H' : Hp} {C : Addr} {fs : List (Str × V)} (s : av H H') (h : eZ H v C fs) : eZ H' v C fs := by
 obtain ⟨p, dx, rfl, e⟩ := h; exact ⟨p, dx, rfl, s _ _ e⟩
theorem F6 {R : V -> Prop} {C : Addr} {fs : List (Str × V)} {f : Str} {x : V} (hp : eZ H v C fs) (c : lq K C) (n : aJ K C f) (l : fs.lookup f = some x) (h : R x) :
 ∃ a C dx fs x, v = .ref a /\ H a = some (.ins C dx fs) /\ lq K C /\ aJ K C f /\ fs.lookup f = some x /\ R x := by
 obtain ⟨p, dx, rfl, e⟩ := hp
 exact ⟨p, C, dx, fs, x, rfl, e, c, n, l, h⟩
theorem yx {C : Addr} {m : Str} {fs : List (Str × V)} {R : Prop} (hp : eZ H v C fs) (hl : fs.lookup m = none) (h : R) : ∃ a dx fs, v = .ref a /\ H a = some (.ins C dx fs) /\ fs.lookup m = none /\ R := by
 obtain ⟨p, dx, rfl, e⟩ := hp
 exact ⟨p, dx, fs, rfl, e, hl, h⟩
theorem Fz {C D : Addr} {fs : List (Str × V)} {b : Bool} (hp : eZ H v C fs) (cl : lq K C) (t : sG K C) (k : PySem.W.kitOne K (.ref C) (.ref D) = some b) (q : Q (.bl b) H) : wY K [v, .ref D] H Q := by
 obtain ⟨p, dx, rfl, e⟩ := hp
 exact zB e cl t k q
end
def look (f : Str) : List (Str × V) -> Option V
 | [] => none
 | (g, v) :: r => if f = g then some v else look f r
theorem qH (f : Str) : ∀ fs : List (Str × V), fs.lookup f = look f fs
 | [] => rfl
 | (g, v) :: r => by
   show (match f == g with | true => some v | false => r.lookup f) = if f = g then some v else look f r
   by_cases h : f = g
   . subst h; rw [if_pos rfl, beq_self_eq_true]
   . rw [if_neg h, beq_eq_false_iff_ne.mpr h]; exact qH f r
section
variable {X : Cx}
def CU (K : PySem.W.Frag) : R2 := fun x y H Q => FU x y H Q \/ Fo K x y H Q
theorem hJ : By X (CU X.K) := fun value slice pins s σ H x y v u Q I r1 r2 h => h.elim (J8 value slice pins s σ H x y v u Q I r1 r2) (yX value slice pins s σ H x y v u Q I r1 r2)
def vQ (K : PySem.W.Frag) : List V -> Hp -> VK -> Prop := fun xs H Q => AZ xs H Q \/ ∃ p ys, xs = [.ref p] /\ i6 K H p ys /\ Q (.int ys.length) H
theorem qv : gE X (.builtin "len") (vQ X.K) := fun pins s σ H xs us Q I r h => by
 rcases h with h | ⟨p, ys, e, hl, q⟩
 . exact zN pins s σ H xs us Q I r h
 . exact jV pins s σ H xs us Q I r ⟨p, ys, e, .inl hl, q⟩
end
section
variable {σ : St} {H : Hp} {Q : VK} {D : Ends} {K : PySem.W.Frag}
theorem D7 {x : V} {ds : List PyData} {i : Int} {d : PyData} (hs : t9 H x ds) (hi : vA ds i = some d) (g : vq H d Q) : CU K x (.int i) H Q := .inl (Ik hs hi g)
theorem Hl {p : Addr} {xs : List V} {i : Int} {v : V} (hs : i6 K H p xs) (hi : vA xs i = some v) (g : Q v H) : CU K (.ref p) (.int i) H Q := .inr ⟨p, xs, i, v, rfl, rfl, hs, hi, g⟩
theorem AG {v : V} {ds : List PyData} (hs : t9 H v ds) (h : Q (.int (ds.length : Nat)) H) : vQ K [v] H Q := .inl (GH hs h)
theorem EK {p : Addr} {xs : List V} (hs : i6 K H p xs) (h : Q (.int xs.length) H) : vQ K [.ref p] H Q := .inr ⟨p, xs, rfl, hs, h⟩
theorem Ge {ta tv : TE} {f : Str} (h : tv σ H fun y H1 => ta σ H1 fun x H2 => ∃ a C dx fs, x = .ref a /\ H2 a = some (.ins C dx fs) /\ lq K C /\ aJ K C f /\ fs.length < 1000 /\ D.nx σ (upd H2 a (.ins C dx (ji f y fs)))) : HK K ta tv f D σ H := h
theorem CF {p C dx : Addr} {fs Jf : List (Str × V)} {f : Str} {y : V} (hp : H p = some (.ins C dx fs)) (c : lq K C) (n : aJ K C f) (hl : fs.length < 1000) (e : ji f y fs = Jf) (h : D.nx σ (upd H p (.ins C dx Jf))) :
 ∃ a C dx fs, V.ref p = .ref a /\ H a = some (.ins C dx fs) /\ lq K C /\ aJ K C f /\ fs.length < 1000 /\ D.nx σ (upd H a (.ins C dx (ji f y fs))) := ⟨p, C, dx, fs, rfl, hp, c, n, hl, by rw [e]; exact h⟩
def fR (C : Addr) (pre : List V -> Prop) (fs : List V -> List (Str × V)) : Sp := fun vs H Q _ => ∃ p dx args, vs = .ref p :: args /\ pre args /\ H p = some (.ins C dx []) /\ Q .cf (upd H p (.ins C dx (fs args)))
theorem Cv {C : Addr} {pre : List V -> Prop} {fs : List V -> List (Str × V)} {args : List V} {E : XK} (hp : pre args) (k : ∀ v H2, av H H2 -> eZ H2 v C (fs args) -> Q v H2) :
 ∀ x dx, H x = none -> H dx = none -> dx ≠ x -> fR C pre fs (.ref x :: args) (upd (upd H dx (.own x)) x (.ins C dx [])) (fun v H2 => v = .cf /\ Q (.ref x) H2) E := by
 intro x dx hx hd ne
 refine ⟨x, dx, args, rfl, hp, bI, rfl, k _ _ (fun b u e => ?_) ⟨x, dx, rfl, bI⟩⟩
 rw [a8 (bF e hx), a8 (bF e hx), a8 (bF e hd)]
 exact e
theorem Kd {R : Prop} (h : R) : V.cf = V.cf /\ R := ⟨rfl, h⟩
end
theorem bg {i : Int} (h1 : -(10 ^ 200) < i) (h2 : i < 10 ^ 200) : i.natAbs < 2 ^ 2000 := by
 have : (10 : Nat) ^ 200 < 2 ^ 2000 := by decide +kernel
 have h3 : i.natAbs < 10 ^ 200 := by
  have e : ((10 : Nat) ^ 200 : Nat) = ((10 : Int) ^ 200).toNat := by decide +kernel
  rw [e]
  generalize (10 : Int) ^ 200 = m at h1 h2 ⊢
  omega
 exact Nat.lt_trans h3 this
theorem HC {i j : Int} (h1 : -(10 ^ 200) < i /\ i < 10 ^ 200) (h2 : -(10 ^ 200) < j /\ j < 10 ^ 200) : yo i j := ⟨bg h1.1 h1.2, bg h2.1 h2.2⟩
theorem G0 {i j : Int} (h1 : 0 < j) (h2 : j < 10 ^ 200) : D6 i j := ⟨h1, bg (Int.lt_trans (by decide) h1) h2⟩
def cell (ns : List Int) (k : Nat) : Int := ns.getD k 0
def xf (K : PySem.W.Frag) : Sp := fun vs H Q _ => ∃ l ns k, vs = [.ref l, .int k] /\ i6 K H l (ns.map V.int) /\ 0 <= k /\ Q (.int (cell ns k.toNat)) H
theorem Ga {K : PySem.W.Frag} {H : Hp} {Q : VK} {E : XK} {l : Addr} {ns : List Int} {k : Int} (h : i6 K H l (ns.map V.int)) (hk : 0 <= k) (q : Q (.int (cell ns k.toNat)) H) : xf K [.ref l, .int k] H Q E := ⟨l, ns, k, rfl, h, hk, q⟩
theorem B4 {ns : List Int} {k : Int} (h0 : 0 <= k) (h : k < (ns.map V.int).length) : vA (ns.map V.int) k = some (.int (cell ns k.toNat)) := by
 obtain ⟨n, rfl⟩ := Int.eq_ofNat_of_zero_le h0
 refine yH ?_
 have hn : n < ns.length := by simpa using h
 simp [cell, hn, List.getD_eq_getElem?_getD]
theorem CJ {ns : List Int} {k : Int} (h0 : 0 <= k) (h : ¬ k < (ns.map V.int).length) : cell ns k.toNat = 0 := by
 have : ns.length <= k.toNat := by simp at h; omega
 simp [cell, List.getD_eq_getElem?_getD, this]
def sE (sp : Sp) (vs : List V) (H : Hp) (Q : VK) (E : XK) : Prop := ∃ ws, vs = ws /\ sp ws H Q E
theorem vY (sp : Sp) (vs : List V) (H : Hp) (Q : VK) (E : XK) : sE sp vs H Q E = sp vs H Q E := propext ⟨fun ⟨_, e, h⟩ => e ▸ h, fun h => ⟨vs, rfl, h⟩⟩
def sJ (sp : Sp) (dg : List V) (E : XK) (t : TA) : TE := fun σ H Q => t σ H fun vs H1 => sE sp (vs ++ dg) H1 Q E
theorem uj (sp : Sp) (dg : List V) (E : XK) (t : TA) : sJ sp dg E t = ui sp dg E t := by
 funext σ H Q; unfold sJ ui; congr 1; funext vs H1; exact vY _ _ _ _ _
def tf (C : Addr) (m : Str) (sp : Sp) (dg : List V) (E : XK) (ta : TE) (t : TA) : TE := fun σ H Q => ta σ H fun x H1 => ∃ a dx fs, x = .ref a /\ H1 a = some (.ins C dx fs) /\ fs.lookup m = none /\
 t σ H1 fun vs H2 => sE sp (x :: (vs ++ dg)) H2 Q E
theorem uC (C : Addr) (m : Str) (sp : Sp) (dg : List V) (E : XK) (ta : TE) (t : TA) : tf C m sp dg E ta t = uf C m sp dg E ta t := by
 funext σ H Q; unfold tf uf; congr 1; funext x H1
 have : ∀ H2 : Hp, (fun vs H2 => sE sp (x :: (vs ++ dg)) H2 Q E) = fun vs H2 => sp (x :: (vs ++ dg)) H2 Q E := fun _ => by funext vs H2; exact vY _ _ _ _ _
 rw [this H1]
def yN (C : Addr) (sp : Sp) (vs : List V) (H1 : Hp) (Q : VK) (E : XK) : Prop := ∃ ws, vs = ws /\ ∀ x dx, H1 x = none -> H1 dx = none -> dx ≠ x ->
 sp (.ref x :: ws) (upd (upd H1 dx (.own x)) x (.ins C dx [])) (fun v H2 => v = .cf /\ Q (.ref x) H2) E
def uI (C : Addr) (sp : Sp) (dg : List V) (E : XK) (t : TA) : TE := fun σ H Q => t σ H fun vs H1 => yN C sp (vs ++ dg) H1 Q E
theorem zt (C : Addr) (sp : Sp) (dg : List V) (E : XK) (t : TA) : uI C sp dg E t = yE C sp dg E t := by
 funext σ H Q; unfold uI yE yN; congr 1; funext vs H1
 exact propext ⟨fun ⟨_, e, h⟩ => by subst e; exact h, fun h => ⟨_, rfl, h⟩⟩
section
variable {X : Cx} {k : Nat} {f C : Addr} {ps : List Str} {sp : Sp} {dg : List V} {x m : Str} {p pos apos : Pos} {e o : Expr} {es : List Expr} {ta : TE} {t : TA}
theorem aq (c : dt X.prog X.w X.K X.mg X.base k f ps dg sp) (hr : de k X.A) (hg : Gl X x) (hm : X.mg x = some (.ref f)) (hk : PySem.W.keepIn X.K (.ref f) = true)
 (ha : PA X (e :: es) t) (tP : (x == ("__debug__" : Str)) = false := by decide) (he : starEach (e :: es) X.env = (false, eval e X.env) :: starEach es X.env := by rfl) (pX : (backTo pos (starEach es X.env)).any (·.1) = false := by rfl) :
 PE X (.Call (.Name x p) (e :: es) [] pos) (sJ sp dg E0 t) := by rw [uj]; exact B8 c hr hg hm hk ha tP he pX
theorem aX {pl : Sem Bool} (he : PE X o ta) (c : lq X.K C) (hm : Meth X.K C m f) (F : dt X.prog X.w X.K X.mg X.base k f ps dg sp) (hr : de k X.A) (ha : PA X (e :: es) t)
 (zO : starEach (e :: es) X.env = (false, eval e X.env) :: starEach es X.env := by rfl) (pX : (backTo pos (starEach es X.env)).any (·.1) = false := by rfl)
 (ht : eval (.Call (.Attribute o m apos) (e :: es) [] pos) X.env = (do
  let ov <- eval o X.env
  standAt apos.atName
  let (f, first) <- holding [ov] (getMethod ov m pl)
  callWith pos f first (backTo pos (starEach (e :: es) X.env)) (backToKw pos (keywordEach [] X.env))) := by rfl) :
 PE X (.Call (.Attribute o m apos) (e :: es) [] pos) (tf C m sp dg E0 ta t) := by rw [uC]; exact Dq he c hm F hr ha zO pX ht
theorem bU {pl : Sem Bool} (he : PE X o ta) (c : lq X.K C) (hm : Meth X.K C m f) (F : dt X.prog X.w X.K X.mg X.base k f ps dg sp) (hr : de k X.A)
 (ht : eval (.Call (.Attribute o m apos) [] [] pos) X.env = (do
  let ov <- eval o X.env
  standAt apos.atName
  let (f, first) <- holding [ov] (getMethod ov m pl)
  callWith pos f first (backTo pos (starEach [] X.env)) (backToKw pos (keywordEach [] X.env))) := by rfl) :
 PE X (.Call (.Attribute o m apos) [] [] pos) (tf C m sp dg E0 ta AW) := by rw [uC]; exact BH he c hm F hr ht
theorem iy (M : Mk X.K C f) (F : dt X.prog X.w X.K X.mg X.base k f ps dg sp) (hr : de (k + 1) X.A) (hg : Gl X x) (hm : X.mg x = some (.ref C))
 (ha : PA X (e :: es) t) (tP : (x == ("__debug__" : Str)) = false := by decide) (he : starEach (e :: es) X.env = (false, eval e X.env) :: starEach es X.env := by rfl) (pX : (backTo pos (starEach es X.env)).any (·.1) = false := by rfl) :
 PE X (.Call (.Name x p) (e :: es) [] pos) (uI C sp dg E0 t) := by rw [zt]; exact CM M F hr hg hm ha tP he pX
theorem rA {pl : Sem Bool} (hg : Gl X x) (hm : X.mg x = some (.ref C)) (B : wB X.K C m f) (F : dt X.prog X.w X.K X.mg X.base k f ps dg sp) (hr : de k X.A) (ha : PA X (e :: es) t)
 (tP : (x == ("__debug__" : Str)) = false := by decide)
 (zO : starEach (e :: es) X.env = (false, eval e X.env) :: starEach es X.env := by rfl) (pX : (backTo pos (starEach es X.env)).any (·.1) = false := by rfl)
 (ht : eval (.Call (.Attribute (.Name x p) m apos) (e :: es) [] pos) X.env = (do
  let ov <- eval (.Name x p) X.env
  standAt apos.atName
  let (f, first) <- holding [ov] (getMethod ov m pl)
  callWith pos f first (backTo pos (starEach (e :: es) X.env)) (backToKw pos (keywordEach [] X.env))) := by rfl) :
 PE X (.Call (.Attribute (.Name x p) m apos) (e :: es) [] pos) (sJ sp dg E0 t) := by rw [uj]; exact C2 hg hm B F hr ha tP zO pX ht
end
section
variable {σ : St} {H : Hp} {Q : VK} {D : Ends} {K : PySem.W.Frag}
theorem Dr {sp : Sp} {dg : List V} {E : XK} {t : TA} (h : t σ H fun vs H1 => sE sp (vs ++ dg) H1 Q E) : sJ sp dg E t σ H Q := h
theorem xl {sp : Sp} {vs ws : List V} {E : XK} (e : vs = ws) (h : sp ws H Q E) : sE sp vs H Q E := ⟨ws, e, h⟩
theorem yh {C : Addr} {m : Str} {sp : Sp} {dg : List V} {E : XK} {ta : TE} {t : TA} (h : ta σ H fun x H1 => ∃ a dx fs, x = .ref a /\ H1 a = some (.ins C dx fs) /\ fs.lookup m = none /\ t σ H1 fun vs H2 => sE sp (x :: (vs ++ dg)) H2 Q E) : tf C m sp dg E ta t σ H Q := h
theorem Dx {C : Addr} {sp : Sp} {dg : List V} {E : XK} {t : TA} (h : t σ H fun vs H1 => yN C sp (vs ++ dg) H1 Q E) : uI C sp dg E t σ H Q := h
theorem o7 {C : Addr} {pre : List V -> Prop} {fs : List V -> List (Str × V)} {us args : List V} {E : XK} (e : us = args) (hp : pre args) (k : ∀ v H2, av H H2 -> eZ H2 v C (fs args) -> Q v H2) : yN C (fR C pre fs) us H Q E := ⟨args, e, Cv hp k⟩
theorem Gs {b : Bool} {R : Bool -> Prop} (h : R b) : ∃ k, Br K (.bl b) H k /\ R k := ⟨b, rfl, h⟩
end
theorem yU {n : Nat} (h : Nat.ble n 64 = true) : n <= sizeLine := Nat.le_trans (Nat.le_of_ble_eq_true h) (by decide)
theorem B3 {H : Hp} {d : PyData} {Q : VK} (h : ∀ v, Dv H v d -> Q v H) : vq H d Q := by
 cases d with
 | none => exact h _ .cf
 | bool b => exact h _ (.bl b)
 | int i => exact h _ (.int i)
 | str x => exact h _ (.str x)
 | list l => exact h
 | tuple l => exact h
 | dict l => exact h
section
variable {X : Cx} {st : Stmt} {rest : List Stmt}
def Eb (t u : TS) : TS := EY t u
theorem eV {t u : TS} (h1 : PS X st t) (h2 : wN X rest u) : wN X (st :: rest) (Eb t u) := aj h1 h2
end
section
variable {σ : St} {H : Hp} {Q : VK} {D : Ends} {K : PySem.W.Frag}
theorem j5 {t u : TS} (R : St -> Hp -> Prop) (h : t { D with nx := R } σ H) (k : ∀ σ' H', R σ' H' -> u D σ' H') : Eb t u D σ H := ⟨R, h, k⟩
theorem FD {xs : List V} {ds : List PyData} (hl : xs.length <= sizeLine) (hd : c7 H xs ds) (k : ∀ p H2, av H H2 -> H p = none -> H2 p = some (.lst xs) -> c7 H2 xs ds -> Dv H2 (.ref p) (.list ds) -> Q (.ref p) H2) : Du xs H Q := ⟨hl, ds, hd, k⟩
def Hu (lo : Int) (n : Nat) (g : TG) (tb : TS) (D : Ends) (σ : St) (H1 : Hp) : Prop := ∃ W : Nat -> Nat -> St -> Hp -> Prop, (∃ m, W 0 m σ H1) /\ ∀ i m σ H, W i m σ H ->
 ((CQ lo n).stop i H /\ D.nx σ H) \/ ((CQ lo n).go i H /\ ∃ N : St -> Hp -> Prop, (∀ σ' H', N σ' H' -> ∃ m', m' < m /\ W (i + 1) m' σ' H') /\ ∀ x H', (CQ lo n).GR i H x H' -> g x σ H' fun σ2 H2 => tb { D with nx := N, ct := N, bk := D.nx } σ2 H2)
theorem CL {ta : TA} {g : TG} {tb : TS} (h : ta σ H fun vs H1 => ∃ j : Int, vs = [.int j] /\ -(2 ^ 62) <= j /\ j < 2 ^ 62 /\ Hu 0 j.toNat g tb D σ H1) : IJ (Eh ta) g tb D σ H := h
theorem F8 {j : Int} {R : Int -> Prop} (h1 : -(2 ^ 62) <= j) (h2 : j < 2 ^ 62) (h : R j) : ∃ i : Int, [V.int j] = [.int i] /\ -(2 ^ 62) <= i /\ i < 2 ^ 62 /\ R i := ⟨j, rfl, h1, h2, h⟩
theorem zu {lo : Int} {n i : Nat} {tb : TS} (S : Nat -> St -> Prop) (h0 : S 0 σ)
 (hs : ∀ j σ' H', j < n -> S j σ' -> av H H' -> tb { D with nx := fun s h => S (j + 1) s /\ av H h, ct := fun s h => S (j + 1) s /\ av H h, bk := D.nx } (σ'.set i (some (.int (lo + j)))) H') (hd : ∀ σ' H', S n σ' -> av H H' -> D.nx σ' H') : Hu lo n (kA i) tb D σ H :=
 zS (fun j s h => S j s /\ av H h) ⟨h0, av.refl _⟩ (fun j σ' H' hj p => hs j σ' H' hj p.1 p.2) fun σ' H' p => hd σ' H' p.1 p.2
end
section
variable {X : Cx}
def Eg : List V -> Hp -> VK -> Prop := fun xs H Q => ∃ i j, xs = [.int i, .int j] /\ ∀ k, (k = i \/ k = j) -> k <= i -> k <= j -> Q (.int k) H
theorem uv (hc : X.calm = true) : gE X (.builtin "min") Eg := fun pins s σ H xs us Q I r ⟨i, j, e, h⟩ => zp hc pins s σ H xs us Q I r ⟨i, j, e, by
 split
 . exact h _ (.inr rfl) (by omega) (by omega)
 . exact h _ (.inl rfl) (by omega) (by omega)⟩
def Es : List V -> Hp -> VK -> Prop := fun xs H Q => ∃ i j, xs = [.int i, .int j] /\ ∀ k, (k = i \/ k = j) -> i <= k -> j <= k -> Q (.int k) H
theorem zD (hc : X.calm = true) : gE X (.builtin "max") Es := fun pins s σ H xs us Q I r ⟨i, j, e, h⟩ => zF hc pins s σ H xs us Q I r ⟨i, j, e, by
 split
 . exact h _ (.inr rfl) (by omega) (by omega)
 . exact h _ (.inl rfl) (by omega) (by omega)⟩
def Ef : R2 := fun x y H Q => ∃ i j, x = .int i /\ y = .int j /\ 0 < j /\ (0 <= i % j -> i % j < j -> Q (.int (i % j)) H)
theorem eK : nC X (binaryOp .Mod) Ef := fun pins s σ H x y v u Q I rx ry ⟨i, j, e1, e2, hj, h⟩ => FR pins s σ H x y v u Q I rx ry ⟨i, j, e1, e2, hj, h (Int.emod_nonneg _ (by omega)) (Int.emod_lt_of_pos _ hj)⟩
end
section
variable {σ : St} {H : Hp} {Q : VK} {D : Ends} {K : PySem.W.Frag}
theorem EH {i j : Int} (h : ∀ k, (k = i \/ k = j) -> k <= i -> k <= j -> Q (.int k) H) : Eg [.int i, .int j] H Q := ⟨i, j, rfl, h⟩
theorem GB {i j : Int} (h : ∀ k, (k = i \/ k = j) -> i <= k -> j <= k -> Q (.int k) H) : Es [.int i, .int j] H Q := ⟨i, j, rfl, h⟩
theorem Ez {i j : Int} (hj : 0 < j) (h : 0 <= i % j -> i % j < j -> Q (.int (i % j)) H) : Ef (.int i) (.int j) H Q := ⟨i, j, rfl, rfl, hj, h⟩
end
theorem aV.ex {ι : Type} {P : Program} {w : World} {K : PySem.W.Frag} {mg : Str -> Option Value} {base : Heap} {CX : v9} {k : Nat} {f : Addr} {fd : FuncData} {ps : List Str} {sp : ι -> Sp} (h : ∀ i, aV P w K mg base CX k f fd ps (sp i)) :
 aV P w K mg base CX k f fd ps (fun vs H Q E => ∃ i, sp i vs H Q E) :=
 ⟨fun vs H Q E ⟨i, q⟩ => (h i).len vs H Q E q, fun A outer s H args us vs Q E hr he hb hv ⟨i, q⟩ => (h i).run A outer s H args us vs Q E hr he hb hv q⟩
section
variable {σ : St} {H : Hp} {Q : VK} {D : Ends} {K : PySem.W.Frag}
def Ei (Pv : Nat -> St -> Hp -> Prop) (m : Nat) (tb : TS) (D : Ends) (σ : St) (H1 : Hp) : Prop := ∃ N : St -> Hp -> Prop, (∀ σ' H', N σ' H' -> ∃ m', m' < m /\ Pv m' σ' H') /\ tb { D with nx := N, ct := N, bk := D.nx } σ H1
theorem Gh {Pv : Nat -> St -> Hp -> Prop} {m : Nat} {tb : TS} (h : tb { D with nx := fun σ' H' => ∃ m', m' < m /\ Pv m' σ' H', ct := fun σ' H' => ∃ m', m' < m /\ Pv m' σ' H', bk := D.nx } σ H) : Ei Pv m tb D σ H := ⟨_, fun _ _ h => h, h⟩
theorem uD {c : TT} {tb : TS} (Pv : Nat -> St -> Hp -> Prop) (h0 : ∃ m, Pv m σ H) (hs : ∀ m σ H, Pv m σ H -> c σ H fun b H1 => if b = true then Ei Pv m tb D σ H1 else D.nx σ H1) : AI c tb D σ H := ⟨Pv, h0, hs⟩
theorem EZ {C p dx : Addr} {pre : List V -> Prop} {fs : List V -> List (Str × V)} {args : List V} {E : XK} (h : pre args) (hp : H p = some (.ins C dx [])) (q : Q .cf (upd H p (.ins C dx (fs args)))) : fR C pre fs (.ref p :: args) H Q E := ⟨p, dx, args, rfl, h, hp, q⟩
end
theorem ug {l : Int} (h : 0 < l) : (2 : Int) ^ l.toNat = 2 * 2 ^ (l - 1).toNat := by
 have e : l.toNat = (l - 1).toNat + 1 := by omega
 rw [e, Int.pow_succ, Int.mul_comm]
theorem vT (n : Nat) : (1 : Int) <= 2 ^ n := by
 induction n with
 | zero => decide
 | succ n ih => rw [Int.pow_succ]; omega
end L2
namespace L2
theorem CW {n : Nat} (h : Nat.blt n 1000 = true) : n < 1000 := by
 unfold Nat.blt at h
 exact Nat.le_of_ble_eq_true h
end L2
namespace L2
open PySem PySem.Spec PyProof.Rows
section
variable {X : Cx}
def Ed : List V -> Hp -> VK -> Prop := fun xs H Q => ∃ i, xs = [.int i] /\ i.natAbs.log2 < 1920 /\ Q (.str (toString i)) H
theorem bL : gE X (.type "str") Ed := fun pins s σ H xs us Q I r h => u6 pins s σ H xs us Q I r h
end
theorem Dg {i : Int} (h1 : -(10 ^ 200) < i) (h2 : i < 10 ^ 200) : i.natAbs.log2 < 1920 := by
 by_cases h0 : i.natAbs = 0
 . rw [h0]; decide
 . refine (Nat.log2_lt h0).mpr ?_
   have h3 : i.natAbs < 10 ^ 200 := by
    have e : ((10 : Nat) ^ 200 : Nat) = ((10 : Int) ^ 200).toNat := by decide +kernel
    rw [e]
    generalize (10 : Int) ^ 200 = m at h1 h2 ⊢
    omega
   exact Nat.lt_trans h3 (by decide +kernel)
section
variable {σ : St} {H : Hp} {Q : VK} {D : Ends} {K : PySem.W.Frag}
theorem FL {i : Int} (h1 : -(10 ^ 200) < i) (h2 : i < 10 ^ 200) (h : Q (.str (toString i)) H) : Ed [.int i] H Q := ⟨i, rfl, Dg h1 h2, h⟩
end
theorem F1 {H : Hp} {Q : VK} {i j p : Int} (c : E6 i j) (e : i ^ j.toNat = p) (h : Q (.int p) H) : rI E6 (fun i j => .int (i ^ j.toNat)) (.int i) (.int j) H Q := ⟨i, j, rfl, rfl, c, by show Q (.int (i ^ j.toNat)) H; rw [e]; exact h⟩
section
variable {X : Cx} {e : Expr}
def GD (t u : TE) : TE := fun σ H Q => t σ H Q \/ u σ H Q
theorem bW {t u : TE} (h1 : PE X e t) (h2 : PE X e u) : PE X e (GD t u) := PE.or h1 h2
end
section
variable {σ : St} {H : Hp} {Q : VK} {D : Ends} {K : PySem.W.Frag}
theorem G5 {t u : TE} (h : t σ H Q) : GD t u σ H Q := .inl h
theorem HQ {t u : TE} (h : u σ H Q) : GD t u σ H Q := .inr h
def Ks (K : PySem.W.Frag) (x : V) (i j : Nat) (D : Ends) (σ : St) (H : Hp) : Prop := CN K 2 (sZ (kA i) (sZ (kA j) B1)) x σ H D.nx
theorem Eu {te : TE} {i j : Nat} (h : te σ H fun x H1 => Ks K x i j D σ H1) : DP te (CN K 2 (sZ (kA i) (sZ (kA j) B1))) D σ H := h
end
end L2
namespace L2
end L2
namespace L2
open PySem PySem.Spec PyProof.Rows PySem.W
structure L3 (lt : Nat -> Nat -> Bool) : Prop where
 Ng : ∀ a, lt a a = false
 MU : ∀ a b, lt a b = true -> lt b a = false
 Nh : ∀ a b c, lt a b = false -> lt b c = false -> lt a c = false
section
variable {lt : Nat -> Nat -> Bool} {n : Nat} {S : Shared -> Prop} {cmp : Nat -> Nat -> (Bool -> Shared -> Prop) -> Shared -> Prop}
structure Ix (n : Nat) (p : Array Nat) : Prop where
 sz : p.size = n
 pm : p.toList.Perm (List.range n)
def Ka (n : Nat) (lt : Nat -> Nat -> Bool) (S : Shared -> Prop) (cmp : Nat -> Nat -> (Bool -> Shared -> Prop) -> Shared -> Prop) : Prop :=
 ∀ i j C s, i < n -> j < n -> S s -> (∀ s', S s' -> C (lt i j) s') -> cmp i j C s
variable (w : L3 lt) (ha : Ka n lt S cmp)
include w ha
end
section
variable {X : Cx} {pins : List (Addr × Obj)} {σ : St} {H H' : Hp} {s : Shared} {a : Addr}
end
theorem o1 {a b : Str} (h : a.cps.toList = b.cps.toList) : a = b := by
 cases a; cases b
 simp only at h
 rw [Array.toList_inj.mp h]
section
variable {prog : Program} {w : World} {A : Around} {E : Value -> Shared -> Prop} {s : Shared}
end
section
variable {X : Cx} {pins : List (Addr × Obj)} {σ : St} {H : Hp} {s : Shared} {k : Nat} {f : Addr} {fd : FuncData} {ps : List Str} {sp : Sp} {kf : V -> Int × Str} {A : Around}
structure LV (X : Cx) (pins : List (Addr × Obj)) (σ : St) (H : Hp) (kf : V -> Int × Str) (a kS : Addr) (oa : Obj) (xs : List V) (s' : Shared) : Prop where
 mk ::
 ex : ∃ H' us e ys, Inv X pins σ H' s' /\ av H H' /\ H' a = none /\ H' kS = none /\ s'.heap.get? a = some oa /\ s'.heap.get? kS = some (seqObj "list" (List.toArray us) e) /\ Vals ys us /\ c7 H' ys (xs.map fun v => .tuple [.int (kf v).1, .str (kf v).2])
end
section
variable {X : Cx} {pins : List (Addr × Obj)} {σ : St} {H : Hp} {s : Shared} {k : Nat} {f : Addr} {fd : FuncData} {ps : List Str} {sp : Sp} {kf : V -> Int × Str} {A : Around}
end
section
variable {X : Cx} {k : Nat} {f : Addr} {ps : List Str} {sp : Sp} {e : Expr} {t : TA} {x : Str} {p p2 pos JU : Pos}
end
end L2
namespace L2
open PySem PySem.Spec PyProof.Rows
theorem xI {scope : Scope} {env : Env} (h : ∀ x ∈ scope.names, x.2 = .free -> ∃ c, env.cells.lookup x.1 = some c) :
 ∃ cl, closureFor scope env = pure cl /\ (∀ x c, cl.lookup x = some c -> env.cells.lookup x = some c) /\ ∀ x ∈ scope.names, x.2 = .free -> ∃ c, cl.lookup x.1 = some c := by
 have key : ∀ (l : List (Str × NameKind)) (acc : List (Str × Addr)), (∀ x ∈ l, x.2 = .free -> ∃ c, env.cells.lookup x.1 = some c) -> (∀ x c, acc.lookup x = some c -> env.cells.lookup x = some c) ->
  ∃ cl, (forIn l acc (fun (x : Str × NameKind) (r : List (Str × Addr)) => (match x with
    | (name, kind) => if (kind == NameKind.free) = true then (do let c <- cellOf env name; pure (ForInStep.yield ((name, c) :: r))) else pure (ForInStep.yield r) : Sem (ForInStep (List (Str × Addr))))) : Sem _) = pure cl /\
    (∀ x c, cl.lookup x = some c -> env.cells.lookup x = some c) /\ (∀ x ∈ l, x.2 = .free -> ∃ c, cl.lookup x.1 = some c) /\ ∀ x, (∃ c, acc.lookup x = some c) -> ∃ c, cl.lookup x = some c := by
  intro l
  induction l with
  | nil => intro acc _ ha; exact ⟨acc, rfl, ha, fun _ z => (nomatch z), fun _ z => z⟩
  | cons p r ih =>
    intro acc hl ha
    obtain ⟨n, k⟩ := p
    rw [List.forIn_cons]
    by_cases hk : k = .free
    . subst hk
      obtain ⟨c, hc⟩ := hl (n, .free) List.mem_cons_self rfl
      have ub : cellOf env n = pure c := by unfold cellOf; rw [hc]
      obtain ⟨cl, e, h1, h2, h3⟩ := ih ((n, c) :: acc) (fun x hx => hl x (List.mem_cons_of_mem _ hx)) (fun x d hd => by
       rw [List.lookup_cons] at hd
       by_cases hx : x = n
       . subst hx; rw [beq_self_eq_true] at hd; cases hd; exact hc
       . rw [beq_eq_false_iff_ne.mpr hx] at hd; exact ha x d hd)
      refine ⟨cl, ?_, h1, fun x hx hf => ?_, fun x ⟨d, hd⟩ => h3 x ?_⟩
      . simp only [beq_self_eq_true, if_true, ub]
        exact e
      . rcases List.mem_cons.mp hx with rfl | hx
        . exact h3 n ⟨c, by rw [List.lookup_cons, beq_self_eq_true]⟩
        . exact h2 x hx hf
      . rw [List.lookup_cons]
        by_cases hx : x = n
        . subst hx; rw [beq_self_eq_true]; exact ⟨c, rfl⟩
        . rw [beq_eq_false_iff_ne.mpr hx]; exact ⟨d, hd⟩
    . obtain ⟨cl, e, h1, h2, h3⟩ := ih acc (fun x hx => hl x (List.mem_cons_of_mem _ hx)) ha
      refine ⟨cl, ?_, h1, fun x hx hf => ?_, h3⟩
      . have : (k == NameKind.free) = false := by simpa using hk
        simp only [this, Bool.false_eq_true, if_false]
        exact e
      . rcases List.mem_cons.mp hx with rfl | hx
        . exact absurd hf hk
        . exact h2 x hx hf
 obtain ⟨cl, e, h1, h2, _⟩ := key scope.names [] h (fun _ _ z => by simp at z)
 refine ⟨cl, ?_, h1, h2⟩
 unfold closureFor
 show (forIn scope.names [] _ >>= fun cs => pure cs) = _
 refine Eq.trans (congrArg (· >>= _) e) rfl
theorem jO {env : Env} {scope : Scope} {x : Str} : (relabel scope env).names.lookup x = (scope.names.lookup x).map fun k => if (k == NameKind.free && env.scope.kind == .function && env.kindOf x == some .cell) = true then .cell else k := by
 unfold relabel
 show List.lookup x (List.map _ scope.names) = _
 generalize scope.names = l
 induction l with
 | nil => rfl
 | cons p r ih =>
   obtain ⟨n, k⟩ := p
   rw [List.map_cons]
   dsimp only
   by_cases hx : x = n
   . subst hx
     by_cases hc : (k == NameKind.free && env.scope.kind == .function && env.kindOf x == some .cell) = true
     . rw [if_pos hc, List.lookup_cons, List.lookup_cons, beq_self_eq_true]; simp only [Option.map_some, if_pos hc]
     . rw [if_neg hc, List.lookup_cons, List.lookup_cons, beq_self_eq_true]; simp only [Option.map_some, if_neg hc]
   . have hb : (x == n) = false := beq_eq_false_iff_ne.mpr hx
     by_cases hc : (k == NameKind.free && env.scope.kind == .function && env.kindOf n == some .cell) = true
     . rw [if_pos hc, List.lookup_cons, List.lookup_cons, hb]; exact ih
     . rw [if_neg hc, List.lookup_cons, List.lookup_cons, hb]; exact ih
theorem mem_lookup {α : Type} {x : Str} {k : α} : ∀ {l : List (Str × α)}, l.lookup x = some k -> (x, k) ∈ l
 | [], h => by simp at h
 | (n, j) :: r, h => by
   rw [List.lookup_cons] at h
   by_cases hx : x = n
   . subst hx; rw [beq_self_eq_true] at h; cases h; exact List.mem_cons_self
   . rw [beq_eq_false_iff_ne.mpr hx] at h; exact List.mem_cons_of_mem _ (mem_lookup h)
def jF (X : Cx) (N : List Str) (scope : Scope) (cl : List (Str × Addr)) (C : Addr) (s : Shared) (H : Hp) (fp : List Addr) : Cx :=
 { X with N := N, gL := s, BM := H, env := compEnvC scope cl C X.env, outer := X.stack, stack := X.stack, ex := fp, fn := fun _ => false, pn := [], xe := fun _ _ => False }
structure oF (X : Cx) (T M : List Str) (scope : Scope) : Prop where
 kind : scope.kind = .function
 cell : ∀ y ∈ scope.names, y.2 ≠ .cell
 names : ∀ y ∈ scope.names, y.2 = .local -> scope.names.lookup y.1 = some .local
 free : ∀ y ∈ scope.names, y.2 = .free -> X.env.scope.names.lookup y.1 = some .cell \/ X.env.scope.names.lookup y.1 = some .free
 len : M.length = X.N.length
 old : ∀ (i : Nat) x, M[i]? = some x -> X.N[i]? = some x /\ scope.names.lookup x = some .free \/ scope.names.lookup x = none
section
variable {X : Cx} {pins : List (Addr × Obj)} {σ : St} {H : Hp} {s : Shared} {T M : List Str} {scope : Scope} {cl : List (Str × Addr)} {fp : List Addr}
theorem HB {C : Addr} (I : Inv X pins σ H s) (hN : oF X T M scope) (h1 : ∀ x c, cl.lookup x = some c -> X.env.cells.lookup x = some c) (h2 : ∀ x ∈ scope.names, x.2 = .free -> ∃ c, cl.lookup x.1 = some c)
 (hC : s.heap.objs.size <= C) (hf : ∀ b ∈ fp, rz X pins H b) (GO : ∀ b ∈ fp, b < s.heap.objs.size) : (jF X (T ++ M) scope cl C s H fp).Ok where
 mod := I.ok.mod
 kind := hN.kind
 glob := I.ok.glob
 blt := I.ok.blt
 above := hC
 inj := fun x y c e1 e2 => I.ok.inj x y c (h1 x c e1) (h1 y c e2)
 has := fun x hx => by
  have yl : (relabel scope X.env).names.lookup x = some .cell \/ (relabel scope X.env).names.lookup x = some .free := hx
  rw [jO] at yl
  cases e : scope.names.lookup x with
  | none => rw [e] at yl; simp at yl
  | some k =>
    have hm := mem_lookup e
    have hk : k = .free := by
     rw [e] at yl
     simp only [Option.map_some, Option.some.injEq] at yl
     by_cases hf : k = .free
     . exact hf
     . have : (k == NameKind.free) = false := by simpa using hf
       simp only [this, Bool.false_and, Bool.false_eq_true, if_false] at yl
       rcases yl with yl | yl
       . exact absurd yl (hN.cell _ hm)
       . exact yl
    exact h2 (x, k) hm hk
 Ec := fun _ _ z => by cases z
 hd := I.ok.hd
 frames := I.ok.frames
 FJ := .inl rfl
 FZ := fun b hb => ⟨Nat.ne_of_lt (Nat.lt_of_lt_of_le (GO b hb) hC), fun x c e => (hf b hb).2.2.2.2.1 x c (h1 x c e)⟩
 bs := I.bs
 Af := Nat.le_trans I.ok.Af I.sz
 vI := fun b o e hb => by
  rcases (hf b hb).2.2.2.1 with z | z
  . exact I.ok.vI b o e z
  . exact absurd (Nat.lt_of_lt_of_le (Heap.lt_size e) (Nat.le_trans I.ok.Af z)) (Nat.lt_irrefl _)
 wy := fun b hb z => by
  rcases List.mem_cons.mp (I.wQ b z) with e | e
  . exact (hf b hb).2.1 e
  . exact (hf b hb).2.2.1 e
 nY := I.stack
 BQ := I.yw
theorem Bz {C : Addr} {h₁ : Heap} {tk : Nat} (I : Inv X pins σ H s) (hN : oF X T M scope) (h1 : ∀ x c, cl.lookup x = some c -> X.env.cells.lookup x = some c) (h2 : ∀ x ∈ scope.names, x.2 = .free -> ∃ c, cl.lookup x.1 = some c)
 (hC : s.heap.objs.size <= C) (hf : ∀ b ∈ fp, rz X pins H b) (GO : ∀ b ∈ fp, b < s.heap.objs.size)
 {m : Str -> Option Value} (hn : h₁.Ns C m) (old : ∀ b o, s.heap.get? b = some o -> h₁.get? b = some o) :
 Inv (jF X (T ++ M) scope cl C s H fp) [] (List.replicate T.length none ++ σ) H { s with heap := h₁, toks := tk } where
 ok := HB I hN h1 h2 hC hf GO
 os := rfl
 bare := I.bare
 base := Un.kept old
 loc := by
  refine ⟨m, hn, fun i x v e1 e2 e3 => ?_⟩
  have LA : (T ++ M)[i]? = some x := e1
  by_cases hi : i < T.length
  . rw [List.getElem?_append_left (by simpa using hi), List.getElem?_replicate, if_pos hi] at e2
    cases e2
  . have Lg : T.length <= i := Nat.le_of_not_lt hi
    rw [List.getElem?_append_right Lg] at LA
    rw [List.getElem?_append_right (by simpa using Lg), List.length_replicate] at e2
    have JW : GY (relabel scope X.env) x := e3
    rcases hN.old _ x LA with ⟨hx, KQ⟩ | MM
    . obtain ⟨m0, M4, JC⟩ := I.loc
      have hk := hN.free _ (mem_lookup KQ) rfl
      have KG : X.env.scope.names.lookup x = some .cell \/ X.env.scope.names.lookup x = some .free := hk
      obtain ⟨u, r, l⟩ := JC _ x v hx e2 (.inr KG)
      refine ⟨u, r, .inr ?_⟩
      rcases l with ⟨z, _⟩ | ⟨_, c, hc, ub⟩
      . have z' : X.env.scope.names.lookup x = some .local := z
        rw [z'] at KG; rcases KG with q | q <;> cases q
      . obtain ⟨c', Hz⟩ := h2 _ (mem_lookup KQ) rfl
        have : c' = c := by have := h1 _ _ Hz; rw [hc] at this; exact (Option.some.inj this).symm
        subst this
        refine ⟨?_, c', Hz, ?_⟩
        . show (relabel scope X.env).names.lookup x = some .cell \/ (relabel scope X.env).names.lookup x = some .free
          rw [jO, KQ]
          simp only [Option.map_some, Option.some.injEq]
          by_cases hc : (NameKind.free == NameKind.free && X.env.scope.kind == .function && X.env.kindOf x == some .cell) = true
          . left; rw [if_pos hc]
          . right; rw [if_neg hc]
        . obtain ⟨o, ho, hd⟩ := ub
          exact ⟨o, old _ _ ho, hd⟩
    . unfold GY at JW
      rw [jO, MM] at JW
      simp at JW
 cell := fun x c e => by
  obtain ⟨v, o, ho, hd⟩ := I.cell x c (h1 x c e)
  exact ⟨v, o, old _ _ ho, hd⟩
 free := I.dP.fresh hC
 iu := fun x c e => I.iu x c (h1 x c e)
 pin := fun p hp => nomatch hp
 dP := I.dP.kept old
 len := by
  show (List.replicate T.length none ++ σ).length = (T ++ M).length
  rw [List.length_append, List.length_append, List.length_replicate, hN.len, I.len]
theorem C9 {C D : Addr} {s' : Shared} {σ' : St} {H' : Hp} {acc : List V} {b5 : List Value} {n : Nat} (I : Inv X pins σ H s) (I' : Inv (jF X (T ++ M) scope cl C s H fp) [] σ' H' s')
 (hf : ∀ b ∈ fp, rz X pins H b) (hD : s.heap.objs.size <= D) (hn : H' D = none) (hl : acc.length <= sizeLine) (r : Vals acc b5) (hd : s'.heap.get? D = some { cls := .type "list", data := .seq b5.toArray n }) :
 Inv X pins σ (upd H' D (.lst acc)) s' := by
 have U : Un (wM X.stack) fp H H' s.heap s'.heap := I'.base
 have MD : ∀ b o, s.heap.get? b = some o -> b ≠ D := fun b o e => Nat.ne_of_lt (Nat.lt_of_lt_of_le (Heap.lt_size e) hD)
 have neT : ∀ b u, H' b = some u -> b ≠ D := fun b u e => bF e hn
 refine I.IM (ch := fp) I'.os ⟨U.keep, U.slot, fun b o e1 e2 e3 => ?_, U.there, fun b xs e => ?_, fun b o u e => ?_, fun b ps e => ?_⟩ (fun b u e => ?_) I'.bare (fun b hb => ⟨(hf b hb).2.2.2.1, (hf b hb).2.1, (hf b hb).2.2.2.2.1, (hf b hb).2.2.2.2.2⟩)
 . rw [a8 (MD b o e1)]; exact U.free b o e1 e2 e3
 . rw [a8 (neT b _ (U.tV b xs e))]; exact U.tV b xs e
 . rw [a8 (neT b _ (U.sr b o u e))]; exact U.sr b o u e
 . obtain ⟨more, q⟩ := U.uZ b ps e
   exact ⟨more, by rw [a8 (neT b _ q)]; exact q⟩
 . by_cases hb : b = D
   . subst hb
     rw [bI] at e
     cases e
     exact ⟨hl, b5, n, r, hd⟩
   . rw [a8 hb] at e
     exact (I'.dP b u e).zH (fun c v _ q => q) (fun c q => by rw [a8 (neT c _ q)]; exact q) fun c xs q => by rw [a8 (neT c _ q)]; exact q
end
theorem x9 {prog : Program} {w : World} {A : Around} {R : Result -> Shared -> Prop} {s : Shared} {elt target iter : Expr} {ifs : List Expr} {scope : Scope} {pos : Pos} {it acc : Value} {env : Env} (I : Nat -> Shared -> Prop)
 (turn : ∀ n s, I n s -> wpAny (model prog w) A (pyNext it) (fun r s₁ => match r with
  | none => R (.ok .next) s₁
  | some v => wpAny (model prog w) A (letOwnedTupleGo target it v) (fun _ DS => wpAny (model prog w) A (assign target env v) (fun _ s₂ =>
   wpAny (model prog w) A (forIn ifs true fun c r => if r = true then do let ok <- isTrue c env (eval c env); pure (ForInStep.yield ok) else pure (ForInStep.yield r)) (fun ok s₃ =>
    if ok = true then wpAny (model prog w) A (eval elt env) (fun x s₄ =>
     wpAny (model prog w) A (call (.builtin "list.append") [acc, x]) (fun _ s₅ => ∃ m, m < n /\ I m s₅) (fun _ _ => False) s₄) (fun _ _ => False) s₃
    else ∃ m, m < n /\ I m s₃) (fun _ _ => False) s₂) (fun _ _ => False) DS) (fun _ _ => False) s₁) (fun _ _ => False) s)
 (n : Nat) (h : I n s) :
 codeAny (model prog w) A (.compLoop (.ListComp elt [⟨target, iter, ifs, 0⟩] scope pos) 0 it acc env) R s := by
 refine codeAny_loop rfl I (fun n s hI => ?_) n h
 show wpAny _ A ((compTurn (.ListComp elt [⟨target, iter, ifs, 0⟩] scope pos) 0 it acc env).onRaise (fun x => do noteFrame x env; theTreesLotGoes x)) _ _ s
 refine wpAny_noted ?_
 rw [compTurn_list]
 refine wpAny_bind (wpAny_standAt (wpAny_bind (wpAny_mono (turn n s hI) (fun r s₁ h₁ => ?_) fun _ _ h' => h'.elim)))
 cases r with
 | none => exact wpAny_pure h₁
 | some v =>
   refine wpAny_bind (wpAny_mono h₁ (fun _ DS Iu => ?_) fun _ _ h' => h'.elim)
   refine wpAny_bind (wpAny_mono Iu (fun _ s₂ h₂ => wpAny_bind (wpAny_mono h₂ (fun ok s₃ h₃ => ?_) fun _ _ h' => h'.elim)) fun _ _ h' => h'.elim)
   cases ok with
   | false => exact wpAny_pure ⟨rfl, h₃⟩
   | true =>
     exact wpAny_bind (wpAny_bind (wpAny_mono h₃ (fun x s₄ h₄ => wpAny_bind (wpAny_mono h₄ (fun _ s₅ h₅ => wpAny_pure (wpAny_pure ⟨rfl, h₅⟩)) fun _ _ h' => h'.elim)) fun _ _ h' => h'.elim))
def Kw (X : Cx) (ifs : List Expr) (t : TT) : Prop :=
 ∀ (pins : List (Addr × Obj)) (s : Shared) (σ : St) (H : Hp) (Q : Bool -> Hp -> Prop), Inv X pins σ H s -> t σ H Q ->
   wpAny (model X.prog X.w) X.A (forIn ifs true fun c r => if r = true then do let ok <- isTrue c X.env (eval c X.env); pure (ForInStep.yield ok) else pure (ForInStep.yield r)) (TP X pins σ Q) X.xe s
def JZ : TT := fun _ H Q => Q true H
theorem rC {X : Cx} : Kw X [] JZ := fun _ _ _ H _ I h => wpAny_tests_nil ⟨H, I, h⟩
def GN (k : Nat) (g : TG) (tc : TT) (te : TE) (Fin : List V -> Hp -> Prop) (σ : St) (J : It) (H1 : Hp) : Prop :=
 ∃ W : Nat -> Nat -> List V -> Hp -> Prop, (∃ m, W 0 m [] H1) /\ ∀ i m acc H, W i m acc H ->
   (J.stop i H /\ Fin acc H) \/ (J.go i H /\ acc.length < sizeLine /\ ∀ x H', J.GR i H x H' -> g x (List.replicate k none ++ σ) H' fun σ2 H2 => tc σ2 H2 fun b H3 =>
    if b = true then te σ2 H3 fun y H4 => ∃ m', m' < m /\ W (i + 1) m' (acc ++ [y]) H4 else ∃ m', m' < m /\ W (i + 1) m' acc H3)
section
variable {X : Cx} {pins : List (Addr × Obj)} {σ : St} {H : Hp} {s : Shared} {T M : List Str} {scope : Scope} {cl : List (Str × Addr)} {fp : List Addr} {g : TG} {tc : TT} {te : TE} {tg elt iter : Expr} {ifs : List Expr} {pos : Pos}
theorem Inv.forget {X : Cx} {pins : List (Addr × Obj)} {σ σ' : St} {H : Hp} {s : Shared} (I : Inv X pins σ' H s) (k : Nat) (hk : k + σ.length = σ'.length) (h : σ'.drop k = σ) : Inv X pins (List.replicate k none ++ σ) H s := by
 refine I.weak (by simp [hk]) (fun i v e => ?_)
 by_cases hi : i < k
 . rw [List.getElem?_append_left (by simpa using hi), List.getElem?_replicate, if_pos hi] at e; cases e
 . rw [List.getElem?_append_right (by simpa using hi), List.length_replicate, <- h, List.getElem?_drop] at e
   have : k + (i - k) = i := by omega
   rw [this] at e; exact e
theorem Gk {it : Addr} {tn : Nat -> Heap -> Prop} {J : It} {RR : Value -> Addr -> Result -> Shared -> Prop} {Fin : List V -> Hp -> Prop} {E : Value -> Shared -> Prop}
 (hN : oF X T M scope) (yn : X.calm = true) (h1 : ∀ x c, cl.lookup x = some c -> X.env.cells.lookup x = some c) (h2 : ∀ x ∈ scope.names, x.2 = .free -> ∃ c, cl.lookup x.1 = some c)
 (hg : ∀ cl C s H fp, PG (jF X (T ++ M) scope cl C s H fp) tg g) (Mi : ∀ v H Q, g v (List.replicate T.length none ++ σ) H Q -> g v (List.replicate T.length none ++ σ) H fun σ2 H2 => Q σ2 H2 /\ T.length + σ.length = σ2.length /\ σ2.drop T.length = σ)
 (hc : ∀ cl C s H fp, Kw (jF X (T ++ M) scope cl C s H fp) ifs tc) (he : ∀ cl C s H fp, PE (jF X (T ++ M) scope cl C s H fp) elt te)
 (I : Inv X pins σ H s) (Tn : Turn X.prog X.w X.K tg J fp it tn) (st : tn 0 s.heap) (hf : ∀ b ∈ fp, rz X pins H b) (hW : GN T.length g tc te Fin σ J H)
 (hR : ∀ D C s' H' acc m, s.heap.objs.size <= D -> s.heap.objs.size <= C -> C ≠ D -> s'.heap.Ns C m -> H' C = none -> H' D = none -> Inv X pins σ (upd H' D (.lst acc)) s' -> Fin acc H' -> RR (.ref D) C (.ok .next) s') :
 wpAny (model X.prog X.w) X.A (newList []) (fun acc s₃ => wpAny (model X.prog X.w) X.A (newFunctionEnv scope X.env.globals cl [] X.env.qual none .none (some X.env)) (fun HE s₄ =>
  codeAny (model X.prog X.w) X.A (.compStart (.ListComp elt [⟨tg, iter, ifs, 0⟩] scope pos) 0 (.ref it) acc { HE with scope := relabel scope X.env }) (RR acc HE.locals) s₄) E s₃) E s := by
 refine wpAny_newObj_type (wpAny_newFunctionEnv hN.cell (by intro y hy; simp at hy) (fun h₁ w5 uO => ?_) hN.kind)
 dsimp only at w5 uO ⊢
 generalize JH : s.heap.push { cls := .type "list", dict := none, data := .seq ([] : List Value).toArray } = H2 at w5 uO ⊢
 have hC : H2.objs.size = s.heap.objs.size + 1 := by rw [<- JH, Heap.size_push]
 have Jy : s.heap.objs.size ≠ H2.objs.size := by rw [hC]; exact Nat.ne_of_lt (Nat.lt_succ_self _)
 have Ew : s.heap.objs.size <= H2.objs.size := by rw [hC]; exact Nat.le_succ _
 have GO : ∀ b ∈ fp, b < s.heap.objs.size := fun b hb => by obtain ⟨o, ho, _⟩ := Tn.obj _ _ st b hb; exact Heap.lt_size ho
 have old : ∀ b o, s.heap.get? b = some o -> h₁.get? b = some o := fun b o e => uO.extBut b o (Nat.ne_of_lt (Nat.lt_of_lt_of_le (Heap.lt_size e) Ew)) (Heap.get?_push_of_some _ (JH ▸ Heap.get?_push_of_some _ e))
 have p7 : h₁.PlainList s.heap.objs.size #[] := ⟨_, uO.extBut _ _ Jy (Heap.get?_push_of_some _ (JH ▸ Heap.get?_push_size _ rfl))⟩
 generalize EF : s.heap.objs.size = D at *
 generalize M5 : H2.objs.size = C at *
 have I0 : Inv (jF X (T ++ M) scope cl C s H fp) [] (List.replicate T.length none ++ σ) H { s with heap := h₁, toks := s.toks + ([] : List (Str × Value)).length } :=
  Bz I hN h1 h2 (by rw [EF]; exact Ew) hf (by rw [EF]; exact GO) w5 old
 have K8 : tn 0 h₁ := Tn.keep _ _ _ st fun b _ o e => old b o e
 obtain ⟨W, ⟨m0, w0⟩, turn⟩ := hW
 have Lw : ∀ b ∈ fp, b ≠ D := fun b hb => Nat.ne_of_lt (GO b hb)
 have stat : ∀ {H' : Hp} {pl : List (Addr × Obj)}, (∀ b ∈ fp, H' b = none) -> (∀ p ∈ pl, p.1 = D) -> ∀ b ∈ fp, rz (jF X (T ++ M) scope cl C s H fp) pl H' b := fun {H' pl} hn hp b hb => by
  have ok := I0.ok
  refine ⟨hn b hb, (ok.FZ b hb).1, ok.wy b hb, .inl hb, (ok.FZ b hb).2, fun p hq => ?_⟩
  have F9 : p ∈ pl := hq
  rw [hp p F9]; exact Ne.symm (Lw b hb)
 have loop : codeAny (model X.prog X.w) X.A (.compLoop (.ListComp elt [⟨tg, iter, ifs, 0⟩] scope pos) 0 (.ref it) (.ref D) (compEnvC scope cl C X.env)) (RR (.ref D) C) { s with heap := h₁, toks := s.toks + ([] : List (Str × Value)).length } := by
  refine x9 (fun n s' => ∃ i acc H' b5, Inv (jF X (T ++ M) scope cl C s H fp) [] (List.replicate T.length none ++ σ) H' s' /\ tn i s'.heap /\ (∀ b ∈ fp, H' b = none) /\ s'.heap.PlainList D b5 /\ H' D = none /\ Vals acc b5.toList /\ acc.length <= sizeLine /\ W i n acc H') ?_ m0
   ⟨0, [], H, #[], I0, K8, fun b hb => (hf b hb).1, p7, I.dP.fresh (by rw [EF]; exact Nat.le_refl _), .nil, Nat.zero_le _, w0⟩
  rintro n s3 ⟨i, acc, H3, b5, I3, Hk, Ja, ⟨nn, ho⟩, K1, hv, hlen, w3⟩
  have J9 : ∀ {H'} {s'} {σ'} {o : Obj}, Inv (jF X (T ++ M) scope cl C s H fp) [] σ' H' s' -> s'.heap.get? D = some o -> (∀ v, o.data ≠ .cell v) -> H' D = none -> Inv (jF X (T ++ M) scope cl C s H fp) [(D, o)] σ' H' s' := fun {H' s' σ' o} I' e d hn => by
   refine I'.oZ fun p hp => ?_
   have e' : p = (D, o) := by simpa using hp
   subst e'
   refine ⟨e, hn, Jy, fun z => ?_, d⟩
   have z' : D ∈ wM X.stack := z
   obtain ⟨_, o', zh, _⟩ := I.stack.mem z'
   exact absurd (Heap.lt_size zh) (by rw [EF]; exact Nat.lt_irrefl _)
  have Lq := J9 I3 ho (fun v z => by cases z) K1
  rcases turn i n acc H3 w3 with ⟨stop, fin⟩ | ⟨go, hl, step⟩
  . refine df (Tn.done (jF X (T ++ M) scope cl C s H fp) rfl rfl rfl yn i _ s3 _ H3 _ Lq (stat Ja (by simp)) Hk stop) fun r s4 ⟨hr, I4⟩ => ?_
    subst hr
    have e4 := (I4.pin (D, _) (List.mem_append_right _ List.mem_cons_self)).1
    have K2 : Inv (jF X (T ++ M) scope cl C s H fp) [] (List.replicate T.length none ++ σ) H3 s4 := I4.oZ fun p hp => nomatch hp
    obtain ⟨m4, n4, _⟩ := K2.loc
    exact hR D C s4 H3 acc m4 (Nat.le_refl _) Ew (Ne.symm Jy) n4 K2.free K1 (C9 I K2 hf (by rw [EF]; exact Nat.le_refl _) K1 hlen hv (by simpa using e4)) fin
  . refine df (Tn.item (jF X (T ++ M) scope cl C s H fp) rfl rfl rfl yn i _ s3 _ H3 _ Lq (stat Ja (by simp)) Hk go) fun r s4 ⟨u, hr, h4⟩ => ?_
    subst hr
    refine df h4 fun _ s5 ⟨x, H5, I5, r5, y5, ED, JQ⟩ => ?_
    have K4 := I5.pinned (stat JQ (by simp)) (Tn.obj _ _ ED)
    refine df (hg _ _ _ _ _ _ s5 _ H5 x u _ K4 r5 (Mi _ _ _ (step x H5 y5))) fun _ s6 ⟨σ6, H6, I6, q6, L8, LZ⟩ => ?_
    refine df (hc _ _ _ _ _ _ s6 σ6 H6 _ I6 q6) fun b s7 ⟨H7, I7, q7⟩ => ?_
    have rest : ∀ {s8 : Shared} {H8 : Hp}, Inv (jF X (T ++ M) scope cl C s H fp) ([(D, _)] ++ rS fp s5.heap) σ6 H8 s8 -> tn (i + 1) s8.heap /\ (∀ b ∈ fp, H8 b = none) /\ s8.heap.PlainList D b5 /\ H8 D = none /\ Inv (jF X (T ++ M) scope cl C s H fp) [] (List.replicate T.length none ++ σ) H8 s8 := fun {s8 H8} I8 => by
     refine ⟨Tn.keep _ _ _ ED fun b hb o e => (I8.pin (b, o) (List.mem_append_right _ (List.mem_append_right _ (kn hb e)))).1, fun b hb => ?_, ⟨nn, (I8.pin (D, _) (List.mem_append_right _ (List.mem_append_left _ List.mem_cons_self))).1⟩, (I8.pin (D, _) (List.mem_append_right _ (List.mem_append_left _ List.mem_cons_self))).2.1, (I8.forget T.length L8 LZ).oZ fun p hp => nomatch hp⟩
     obtain ⟨o, e, d⟩ := Tn.obj _ _ ED b hb
     exact (I8.pin (b, o) (List.mem_append_right _ (List.mem_append_right _ (kn hb e)))).2.1
    cases b with
    | false =>
      obtain ⟨m', hm, w7⟩ := q7
      obtain ⟨a1, a2, a3, a4, a5⟩ := rest I7
      exact ⟨m', hm, i + 1, acc, H7, b5, a5, a1, a2, a3, a4, hv, hlen, w7⟩
    | true =>
      refine df (he _ _ _ _ _ _ s7 σ6 H7 _ I7 q7) fun y s8 ⟨yv, H8, I8, r8, m', hm, w8⟩ => ?_
      obtain ⟨a1, a2, a3, a4, a5⟩ := rest I8
      have hsz : b5.size <= sizeLine := by have := hv.length; simp at this; omega
      refine wpAny_list_append_plain (hsz := hsz) a3 fun h9 L7 Lx => ?_
      refine ⟨m', hm, i + 1, acc ++ [yv], H8, b5.push y, ?_, ?_, a2, L7, a4, ?_, by simp; omega, w8⟩
      . exact a5.turned (t' := s8.toks) (it := D) (fun b o hb e => (Lx.2 b hb).trans e) a4 Jy (.inr (by show s.heap.objs.size <= D; rw [EF]; exact Nat.le_refl _)) (fun x c e z => by
         obtain ⟨v, o, ho, _⟩ := I.cell x c (h1 x c e)
         exact absurd (Heap.lt_size ho) (by rw [EF, z]; exact Nat.lt_irrefl _)) (fun p hp => nomatch hp)
      . exact Tn.keep _ _ _ a1 fun b hb o e => (Lx.2 b (Lw b hb)).trans e
      . simpa using Vals.append hv (.cons r8 .nil)
 exact codeAny_compStart_list loop (Tn.self _ _ _ _ _ K8 loop)
end
def Hr (k : Nat) (g : TG) : Prop := ∀ v (τ σ : St) H Q, τ.length = k -> g v (τ ++ σ) H Q -> g v (τ ++ σ) H fun σ2 H2 => Q σ2 H2 /\ ∃ τ', τ'.length = k /\ σ2 = τ' ++ σ
theorem mh {k i : Nat} (h : i < k) : Hr k (kA i) := fun v τ σ H Q hl q => by
 have e : (τ ++ σ).set i (some v) = τ.set i (some v) ++ σ := List.set_append_left _ _ (by omega)
 exact ⟨q, τ.set i (some v), by simp [hl], e⟩
def wC (Q : VK) (acc : List V) (H : Hp) : Prop := ∀ p, H p = none -> Q (.ref p) (upd H p (.lst acc))
def JF (k : Nat) (wi : TI) (g : TG) (tc : TT) (te : TE) : TE := fun σ H Q => wi σ H fun J H1 => GN k g tc te (wC Q) σ J H1
section
variable {X : Cx} {T M : List Str} {scope : Scope} {g : TG} {tc : TT} {te : TE} {wi : TI} {tg elt iter : Expr} {ifs : List Expr} {pos : Pos}
theorem yi (hN : oF X T M scope) (yn : X.calm = true) (hi : PI X tg iter wi) (hg : ∀ cl C s H fp, PG (jF X (T ++ M) scope cl C s H fp) tg g) (Md : Hr T.length g)
 (hc : ∀ cl C s H fp, Kw (jF X (T ++ M) scope cl C s H fp) ifs tc) (he : ∀ cl C s H fp, PE (jF X (T ++ M) scope cl C s H fp) elt te)
 (hs : ∀ x, foldedSetIterable iter X.env x = pure x := by intro _; rfl) : PE X (.ListComp elt [⟨tg, iter, ifs, 0⟩] scope pos) (JF T.length wi g tc te) := by
 intro pins s σ H Q I h
 obtain ⟨cl, Jg, h1, h2⟩ := xI (scope := scope) (env := X.env) fun x hx hf => I.ok.has x.1 (hN.free x hx hf)
 rw [eval_ListComp]
 refine wpAny_comprehension_free (use := none) rfl hs Jg hN.kind hN.names (df (hi pins s σ H _ I h) fun xv s1 Mu => df Mu fun J4 s2 Ml => ?_)
 obtain ⟨it, fp, tn, J, H2, e, I2, Tn, st, hf, hW⟩ := Ml
 subst e
 refine Gk (RR := fun acc C => compPost (model X.prog X.w) X.A X.xe none (EP X pins σ Q) acc C) hN yn h1 h2 hg (fun v H Q q => ?_) hc he I2 Tn st hf hW ?_
 . have := Md v (List.replicate T.length none) σ H Q (by simp) q
   refine (by
    have e : (fun (σ2 : St) (H2 : Hp) => Q σ2 H2 /\ T.length + σ.length = σ2.length /\ σ2.drop T.length = σ) = fun σ2 H2 => Q σ2 H2 /\ ∃ τ' : St, τ'.length = T.length /\ σ2 = τ' ++ σ := by
     funext σ2 H2
     refine propext ⟨fun ⟨a, b, c⟩ => ⟨a, σ2.take T.length, by rw [List.length_take]; omega, by rw [<- c, List.take_append_drop]⟩, fun ⟨a, τ', b, c⟩ => ⟨a, by rw [c, List.length_append, b], by rw [c, <- b, List.drop_left]⟩⟩
    rw [e]; exact this)
 . intro D C s' H' acc m hD hC F3 hn LW Mr Ib fin
   refine ⟨m, hn, fun h' LY => ⟨.ref D, _, ?_, rfl, fin D Mr⟩⟩
   exact Ib.turned (t' := s'.toks) (it := C) (fun b o hb e => (LY.2 b hb).trans e) (by rw [a8 F3]; exact LW) (Nat.ne_of_gt (Nat.lt_of_lt_of_le I2.lt hC)) (.inr (Nat.le_trans I2.sz hC)) (fun x c e z => by
    obtain ⟨v, q⟩ := I2.cell x c e
    exact absurd (Nat.lt_of_lt_of_le q.lt (by rw [z]; exact hC)) (Nat.lt_irrefl _)) (fun p hp z => absurd (Nat.lt_of_lt_of_le (Heap.lt_size (I2.pin p hp).1) (by rw [z]; exact hC)) (Nat.lt_irrefl _))
end
end L2
namespace L2
open PySem PySem.Spec PyProof.Rows PySem.W
mutual
def wK : PyData -> Bool
 | .none => true
 | .bool _ => true
 | .int _ => true
 | .str _ => true
 | .tuple ds => a7 ds
 | .list _ => false
 | .dict _ => false
def a7 : List PyData -> Bool
 | [] => true
 | d :: ds => wK d && a7 ds
end
theorem fj : ∀ {ds : List PyData}, a7 ds = true ↔ ∀ d ∈ ds, wK d = true
 | [] => by simp [a7]
 | d :: ds => by simp [a7, fj (ds := ds)]
theorem iW {ds es : List PyData} (h1 : a7 ds = true) (h2 : a7 es = true) : a7 (ds ++ es) = true := by
 rw [fj] at *
 intro d hd
 rcases List.mem_append.mp hd with h | h
 . exact h1 d h
 . exact h2 d h
theorem nR {α : Type} {f : α -> PyData} (h : ∀ x, wK (f x) = true) (xs : List α) : a7 (xs.map f) = true := by
 rw [fj]
 intro d hd
 obtain ⟨x, _, rfl⟩ := List.mem_map.mp hd
 exact h x
structure Mv (S : List Addr) (H H' : Hp) : Prop where
 kp : ∀ a o, a ∉ S -> H a = some o -> H' a = some o
 tp : ∀ a xs, H a = some (.tup xs) -> H' a = some (.tup xs)
 dm : ∀ a, H' a = none -> H a = none
theorem av.mv {S : List Addr} {H H' : Hp} (s : av H H') : Mv S H H' := ⟨fun a o _ h => s a o h, fun a xs h => s a _ h, fun a h => by
 cases e : H a with
 | none => rfl
 | some o => rw [s a o e] at h; cases h⟩
theorem av.none {H H' : Hp} {a : Addr} (m : av H H') (h : H' a = none) : H a = none := (m.mv (S := [])).dm a h
theorem Mv.BL {H : Hp} {p : Addr} {o u : HO} (h : H p = some u) (nt : ∀ xs, u ≠ .tup xs) : Mv [p] H (upd H p o) := ⟨fun a v n e => by
 rw [a8 (fun z => n (by simp [z]))]; exact e, fun a xs e => by
 rw [a8 (fun z => by subst z; rw [h] at e; exact nt xs (Option.some.inj e))]; exact e, fun a e => by
 by_cases z : a = p
 . subst z; rw [bI] at e; cases e
 . rw [a8 z] at e; exact e⟩
mutual
theorem Dv.GL {H H' : Hp} (t : ∀ a xs, H a = some (.tup xs) -> H' a = some (.tup xs)) : ∀ {v : V} {d : PyData}, Dv H v d -> wK d = true -> Dv H' v d
 | _, _, .cf, _ => .cf
 | _, _, .bl b, _ => .bl b
 | _, _, .int i, _ => .int i
 | _, _, .str x, _ => .str x
 | _, _, .tup h r, c => .tup (t _ _ h) (c7.GL t r (by simpa [wK] using c))
 | _, _, .lst h r, c => by simp [wK] at c
 | _, _, .dct h r, c => by simp [wK] at c
theorem c7.GL {H H' : Hp} (t : ∀ a xs, H a = some (.tup xs) -> H' a = some (.tup xs)) : ∀ {v : List V} {d : List PyData}, c7 H v d -> a7 d = true -> c7 H' v d
 | _, _, .nil, _ => .nil
 | _, _, .cons h r, c => by
   have c' := c
   simp only [a7, Bool.and_eq_true] at c'
   exact .cons (Dv.GL t h c'.1) (c7.GL t r c'.2)
end
theorem Mv.Fc {S : List Addr} {H H' : Hp} {v : List V} {d : List PyData} (m : Mv S H H') (i : a7 d = true) (h : c7 H v d) : c7 H' v d := h.GL m.tp i
def kQ (H : Hp) (p : Addr) (ds : List PyData) : Prop := ∃ xs, H p = some (.lst xs) /\ c7 H xs ds /\ a7 ds = true
theorem kQ.dv {H : Hp} {p : Addr} {ds : List PyData} (h : kQ H p ds) : Dv H (.ref p) (.list ds) := let ⟨_, e, d, _⟩ := h; .lst (.of e) d
theorem kQ.keeps {H H' : Hp} {p : Addr} {ds : List PyData} (s : av H H') (h : kQ H p ds) : kQ H' p ds := let ⟨xs, e, d, i⟩ := h; ⟨xs, s _ _ e, d.keeps s, i⟩
theorem rF {H : Hp} {p : Addr} {xs : List V} {ds : List PyData} (hn : H p = none) (d : c7 H xs ds) (i : a7 ds = true) : kQ (upd H p (.lst xs)) p ds := ⟨xs, bI, d.keeps (eW hn), i⟩
theorem Bs {p q : Addr} (h : p ≠ q) : p ∉ [q] := by simpa using h
theorem small {n m : Nat} (h : n <= m) (hm : m <= 4000 := by decide) : n <= sizeLine := Nat.le_trans h (Nat.le_trans hm (by decide))
theorem rH {n : Nat} (h : n <= 4000) : n < sizeLine := Nat.lt_of_le_of_lt h (by decide)
section
variable {σ : St} {H : Hp} {Q : VK} {D : Ends} {K : PySem.W.Frag} {p : Addr} {ds : List PyData}
theorem KH {T : String} {r : V -> List V -> Hp -> VK -> Prop} {to : TE} {t : TA} (h : to σ H fun x H1 => FE K T x H1 /\ t σ H1 fun xs H2 => r x xs H2 Q) : Ls K T r to t σ H Q := h
theorem GW {T : String} {r : V -> List V -> Hp -> VK -> Prop} {to : TE} (h : to σ H fun x H1 => FE K T x H1 /\ r x [] H1 Q) : Hx K T r to σ H Q := h
theorem Il {R : Prop} (hp : kQ H p ds) (h : R) : FE K "list" (.ref p) H /\ R := let ⟨xs, e, _, _⟩ := hp; ⟨.inl ⟨rfl, xs, i6.of e⟩, h⟩
theorem HV {y : V} {d : PyData} (hp : kQ H p ds) (hl : ds.length <= 4000) (hy : Dv H y d) (hi : wK d = true) (h : ∀ H2, Mv [p] H H2 -> kQ H2 p (ds ++ [d]) -> Q .cf H2) : yP (.ref p) [y] H Q := by
 obtain ⟨xs, e, dv, i⟩ := hp
 have m : Mv [p] H (upd H p (.lst (xs ++ [y]))) := .BL e (by intro _ z; cases z)
 refine ⟨p, xs, y, rfl, rfl, e, by rw [dv.length]; exact rH hl, h _ m ⟨_, bI, m.Fc (iW i (by simp [a7, hi])) (dv.append (.cons hy .nil)), iW i (by simp [a7, hi])⟩⟩
theorem A0 {xs : List V} (hl : xs.length <= sizeLine) (hd : c7 H xs ds) (hi : a7 ds = true) (k : ∀ p H2, av H H2 -> H p = none -> kQ H2 p ds -> Q (.ref p) H2) : Du xs H Q :=
 ⟨hl, ds, hd, fun p H2 s n e d _ => k p H2 s n ⟨xs, e, d, hi⟩⟩
end
mutual
theorem Dv.fn {H : Hp} : ∀ {v : V} {d e : PyData}, Dv H v d -> Dv H v e -> wK d = true -> d = e
 | _, _, _, .cf, h, _ => by cases h; rfl
 | _, _, _, .bl b, h, _ => by cases h; rfl
 | _, _, _, .int i, h, _ => by cases h; rfl
 | _, _, _, .str x, h, _ => by cases h; rfl
 | _, _, _, .tup h r, h2, c => by
   cases h2 with
   | tup h' r' =>
     have c' := (by simpa [wK] using c : a7 _ = true)
     rw [h] at h'
     cases h'
     rw [c7.fn r r' c']
   | lst h' r' =>
     rcases h' with h' | ⟨o, h'⟩ <;> rw [h] at h' <;> cases h'
   | dct h' r' => rw [h] at h'; cases h'
 | _, _, _, .lst h r, _, c => by simp [wK] at c
 | _, _, _, .dct h r, _, c => by simp [wK] at c
theorem c7.fn {H : Hp} : ∀ {v : List V} {d e : List PyData}, c7 H v d -> c7 H v e -> a7 d = true -> d = e
 | _, _, _, .nil, h, _ => by cases h; rfl
 | _, _, _, .cons h r, h2, c => by
   have c' := c
   simp only [a7, Bool.and_eq_true] at c'
   cases h2 with
   | cons h' r' => rw [Dv.fn h h' c'.1, c7.fn r r' c'.2]
end
theorem Dv.lst_inv {H : Hp} {v : V} {ds : List PyData} (h : Dv H v (.list ds)) : ∃ a xs, v = .ref a /\ (∀ K : PySem.W.Frag, i6 K H a xs) /\ c7 H xs ds := by
 cases h with
 | lst h r => exact ⟨_, _, rfl, fun _ => .inl h, r⟩
section
variable {σ : St} {H : Hp} {Q : VK} {D : Ends} {K : PySem.W.Frag} {p : Addr} {v : V} {ds : List PyData}
def Hy (te : TE) (N : Option V -> Hp -> Prop) (σ2 : St) (b : Bool) (H3 : Hp) : Prop := if b = true then te σ2 H3 (fun y H4 => N (some y) H4) else N none H3
theorem IE {k : Nat} {tl : TE} {g : TG} {tc : TT} {te : TE} (h : tl σ H fun x H1 => ∃ a, x = .ref a /\ (∃ xs, i6 K H1 a xs) /\ GN k g tc te (wC Q) σ (JB K a) H1) : JF k (Eo K tl) g tc te σ H Q := h
theorem A1 {k : Nat} {g : TG} {tc : TT} {te : TE} {α : Type} {cs : List α} {gd : α -> PyData} (pf : α -> Bool) (fd : α -> PyData) (hl : Dv H v (.list (cs.map gd))) (hlen : cs.length <= 4000) (hi : ∀ c, wK (fd c) = true)
 (turn : ∀ x c H' (N : Option V -> Hp -> Prop), c ∈ cs -> av H H' -> Dv H' x (gd c) -> (pf c = true -> ∀ y H4, av H' H4 -> Dv H4 y (fd c) -> N (some y) H4) -> (pf c = false -> ∀ H3, av H' H3 -> N none H3) ->
  g x (List.replicate k none ++ σ) H' fun σ2 H2 => tc σ2 H2 fun b H3 => Hy te N σ2 b H3)
 (kk : ∀ q H', av H H' -> H q = none -> kQ H' q ((cs.filter pf).map fd) -> Q (.ref q) H') : ∃ a, v = .ref a /\ (∃ xs, i6 K H a xs) /\ GN k g tc te (wC Q) σ (JB K a) H := by
 obtain ⟨p, xs, rfl, e, dv⟩ := hl.lst_inv
 have JC : i6 K H p xs := e K
 have Mq : xs.length = cs.length := by rw [dv.length, List.length_map]
 refine ⟨p, rfl, ⟨xs, JC⟩, fun i m acc H' => i <= cs.length /\ m = cs.length - i /\ av H H' /\ c7 H' acc (((cs.take i).filter pf).map fd), ⟨cs.length, Nat.zero_le _, rfl, av.refl _, by simpa using c7.nil⟩, ?_⟩
 rintro i m acc H' ⟨LQ, hm, sm, p7⟩
 have IL : i6 K H' p xs := av.seq sm JC
 have Ki : acc.length <= cs.length := by
  rw [p7.length, List.length_map]
  exact Nat.le_trans (List.length_filter_le _ _) (by rw [List.length_take]; omega)
 by_cases hc : i = cs.length
 . left
   refine ⟨⟨xs, IL, by omega⟩, fun q hq => ?_⟩
   rw [hc, List.take_length] at p7
   have MN : av H (upd H' q (.lst acc)) := sm.trans (eW hq)
   exact kk q _ MN (sm.none hq) ⟨acc, bI, p7.keeps (eW hq), nR hi _⟩
 . right
   have wL : i < cs.length := by omega
   have Mm : i < xs.length := by omega
   refine ⟨⟨xs, xs[i], IL, List.getElem?_eq_getElem Mm⟩, rH (by omega), fun x H2 hy => ?_⟩
   obtain ⟨rfl, hy⟩ := hy
   have hx := hy xs IL
   have Lz : cs[i]? = some cs[i] := List.getElem?_eq_getElem wL
   obtain ⟨x', yl, hd⟩ := dv.get (i := i) (d := gd cs[i]) (by rw [List.getElem?_map, Lz]; rfl)
   rw [hx] at yl
   cases yl
   have DZ : cs.take (i + 1) = cs.take i ++ [cs[i]] := by rw [List.take_add_one, Lz]; rfl
   exact turn x cs[i] H2 (fun o H4 => match o with | some y => ∃ m', m' < m /\ i + 1 <= cs.length /\ m' = cs.length - (i + 1) /\ av H H4 /\ c7 H4 (acc ++ [y]) (((cs.take (i + 1)).filter pf).map fd) | none => ∃ m', m' < m /\ i + 1 <= cs.length /\ m' = cs.length - (i + 1) /\ av H H4 /\ c7 H4 acc (((cs.take (i + 1)).filter pf).map fd))
    (List.getElem_mem wL) sm (hd.keeps sm)
    (fun hp y H4 s4 d4 => ⟨cs.length - (i + 1), by omega, wL, rfl, sm.trans s4, by
     rw [DZ, List.filter_append, List.map_append]
     simp only [List.filter_cons, hp, if_true, List.filter_nil, List.map_cons, List.map_nil]
     exact c7.append (p7.keeps s4) (.cons d4 .nil)⟩)
    (fun hp H3 s3 => ⟨cs.length - (i + 1), by omega, wL, rfl, sm.trans s3, by
     rw [DZ, List.filter_append, List.map_append]
     simp only [List.filter_cons, hp, Bool.false_eq_true, if_false, List.filter_nil, List.map_nil, List.append_nil]
     exact p7.keeps s3⟩)
end
def yS (scope sc : Scope) (N M : List Str) : Bool :=
 (scope.kind == .function) && scope.names.all (fun y => y.2 != .cell) && scope.names.all (fun y => y.2 != .local || scope.names.lookup y.1 == some .local) &&
  scope.names.all (fun y => y.2 != .free || (sc.names.lookup y.1 == some .cell || sc.names.lookup y.1 == some .free)) && (M.length == N.length) &&
  (M.zip N).all fun p => (p.1 == p.2 && scope.names.lookup p.1 == some .free) || scope.names.lookup p.1 == none
theorem Jw {X : Cx} {T M : List Str} {scope : Scope} (sc : Scope) (N : List Str) (hs : X.env.scope = sc) (hN : X.N = N) (h : yS scope sc N M = true) : oF X T M scope := by
 unfold yS at h
 simp only [Bool.and_eq_true, List.all_eq_true, Bool.or_eq_true, bne_iff_ne, beq_iff_eq, ne_eq] at h
 obtain ⟨⟨⟨⟨⟨h1, h2⟩, h3⟩, h4⟩, h5⟩, h6⟩ := h
 refine ⟨h1, h2, fun y hy e => ?_, fun y hy e => ?_, by rw [hN]; exact h5, fun i x hx => ?_⟩
 . rcases h3 y hy with z | z
   . exact absurd e z
   . exact z
 . rw [hs]
   rcases h4 y hy with z | z
   . exact absurd e z
   . exact z
 . have hi : i < M.length := (List.getElem?_eq_some_iff.mp hx).1
   have Lk : i < N.length := by omega
   have hz : (M.zip N)[i]? = some (x, N[i]) := by
    rw [List.getElem?_zip_eq_some]
    exact ⟨hx, List.getElem?_eq_getElem Lk⟩
   rcases h6 _ (List.mem_of_getElem? hz) with ⟨a, b⟩ | a
   . left
     refine ⟨?_, b⟩
     rw [hN, List.getElem?_eq_getElem Lk]
     have a' : x = N[i] := a
     rw [a']
   . exact .inr a
section
variable {σ : St} {H : Hp} {Q : VK} {D : Ends} {K : PySem.W.Frag} {p : Addr} {v : V} {ds : List PyData}
theorem GC {z : Str} {i : Int} {c : Nat} (hl : z.length <= sizeLine) (hi : vA z.cps.toList i = some c) (h : Q (.str ⟨#[c]⟩) H) : CU K (.str z) (.int i) H Q := .inl (.inr ⟨z, i, c, rfl, rfl, hl, hi, h⟩)
def Bh : R2 := fun x y H Q => ∃ i j, x = .str i /\ y = .str j /\ i.length + j.length <= sizeLine /\ Q (.str (i ++ j)) H
theorem bf {X : Cx} : nC X (binaryOp .Add) Bh := ya
theorem Al {i j : Str} (hl : i.length + j.length <= 4000) (h : Q (.str (i ++ j)) H) : Bh (.str i) (.str j) H Q := ⟨i, j, rfl, rfl, small hl, h⟩
theorem Bu {R : Bool -> Prop} (hp : Dv H v (.list ds)) (h : R (!ds.isEmpty)) : ∃ k, Br K v H k /\ R k := by
 obtain ⟨p, xs, rfl, e, dv⟩ := hp.lst_inv
 refine ⟨_, .inl ⟨xs, e K, rfl⟩, ?_⟩
 have : xs.isEmpty = ds.isEmpty := by cases dv <;> rfl
 rw [this]; exact h
theorem KY {te : TE} {tl th : TO} {r : V -> Option Int -> Option Int -> Hp -> VK -> Prop} (h : te σ H fun x H1 => tl σ H1 fun l H2 => th σ H2 fun u H3 => r x l u H3 Q) : Ly r te tl th σ H Q := h
theorem FQ {t : TE} {R : Option Int -> Hp -> Prop} (h : t σ H fun x H1 => ∃ i, x = .int i /\ R (some i) H1) : Ek t σ H R := h
theorem Aq {R : Option Int -> Hp -> Prop} (h : R none H) : yt σ H R := h
theorem Ds {i : Int} {R : Int -> Prop} (h : R i) : ∃ j, V.int i = .int j /\ R j := ⟨i, rfl, h⟩
end
end L2
namespace L2
end L2
namespace L2
open PySem
theorem E2 {α : Type} {g : α -> PyData} {xs : List α} {K : PySem.W.Frag} {H : Hp} {Q : VK} {v : V} (hs : Dv H v (.list (xs.map g))) (h : Q (.int (xs.length : Nat)) H) : vQ K [v] H Q := AG (.inr hs) (by rw [List.length_map]; exact h)
theorem CA {i : Nat} {v : V} {σ : St} {H : Hp} {R : St -> Hp -> Prop} (h : R (σ.set i (some v)) H) : kA i v σ H R := h
theorem Mv.Iw {p : Addr} {H H1 H2 : Hp} (s : av H H1) (m : Mv [p] H1 H2) (n : H p = Option.none) : av H H2 := fun a o e => m.kp a o (Bs (bF e n)) (s a o e)
theorem EC {K : PySem.W.Frag} {H : Hp} {v : V} {ds : List PyData} {R : Bool -> Prop} (hp : Dv H v (.list ds)) (hn : ds ≠ []) (h : R true) : ∃ k, Br K v H k /\ R k := Bu hp (by
 cases ds with
 | nil => exact absurd rfl hn
 | cons d ds => exact h)
theorem uo {te : TE} {N : Option V -> Hp -> Prop} {σ2 : St} {b : Bool} {H3 : Hp} (h1 : b = true -> te σ2 H3 (fun y H4 => N (some y) H4)) (h2 : b = false -> N none H3) : Hy te N σ2 b H3 := by
 unfold Hy
 cases b with
 | true => rw [if_pos rfl]; exact h1 rfl
 | false => rw [if_neg (by simp)]; exact h2 rfl
end L2
namespace L2
open PySem PySem.Spec PyProof.Rows
section
variable {X : Cx} {K : PySem.W.Frag} {a b e : Expr} {es : List Expr} {ta : TE} {pos : Pos}
end
end L2
namespace L2
open PySem PySem.Spec PyProof.Rows PySem.W
inductive JD (H : Hp) : List (Key × V) -> List (Str × PyData) -> Prop where
 | nil : JD H [] []
 | cons {k : Str} {v : V} {d : PyData} {e9 : List (Key × V)} {m : List (Str × PyData)} (h : Dv H v d) (i : wK d = true) (r : JD H e9 m) : JD H ((.inr k, v) :: e9) ((k, d) :: m)
def Js (H : Hp) (p : Addr) (m : List (Str × PyData)) : Prop := ∃ e9, H p = some (.dK e9) /\ JD H e9 m
section
variable {σ : St} {H : Hp} {Q : VK} {D : Ends} {K : PySem.W.Frag} {p : Addr} {m : List (Str × PyData)} {k : Str}
theorem Cm {r r' : R2} {ta tb tc : TE} (h : ta σ H fun x H1 => tb σ H1 fun y H2 => r x y H2 fun z H3 => ∃ k, z = .bl k /\ if k = true then tc σ H3 fun u H4 => r' y u H4 Q else Q (.bl false) H3) : Bb r r' ta tb tc σ H Q := h
end
end L2
namespace L2
end L2
namespace L2
open PySem
end L2
namespace L2
open PySem PySem.Spec PyProof.Rows PySem.W
def JA (x : Str) : It := ⟨fun i _ => i < x.cps.size, fun i H v H' => H' = H /\ ∃ c, x.cps[i]? = some c /\ v = .str ⟨#[c]⟩, fun i _ => i = x.cps.size⟩
theorem we {P : Program} {w : World} {K : PySem.W.Frag} {tg : Expr} {it : Addr} {x : Str} {t : Tok} {T : String} (hT : ["enumerate", "zip", "dict_itemiterator", "dict_reverseitemiterator", "odict_iterator", "itertools.zip_longest", "itertools.pairwise"].contains T = false)
 (W : ∀ A : Around, A.handled = none -> Walks P w A it [it] [it] x.cps.size (SignAt x) (fun i h => h.IsStrIter it T x t i))
 (self : ∀ (A : Around) (i : Nat) (s : Shared) (Q : Value -> Shared -> Prop) (E : Value -> Shared -> Prop), s.heap.IsStrIter it T x t i -> Q (.ref it) s -> wpAny (model P w) A (pyIter (.ref it)) Q E s) :
 Turn P w K tg (JA x) [it] it (fun i h => h.IsStrIter it T x t i) where
 mem := by simp
 obj := fun i h st b hb => by
  have e : b = it := by simpa using hb
  subst e
  obtain ⟨o, e, c, d⟩ := st
  exact ⟨o, e, fun v z => by rw [d] at z; cases z⟩
 keep := fun i h h' st k => let ⟨o, e, r⟩ := st; ⟨o, k it (by simp) o e, r⟩
 item := by
  intro X hP hw hK hc i pins s σ H E I hf st hg
  subst hP hw hK
  obtain ⟨f0, f1, f2, f3, f4, f5⟩ := hf it (by simp)
  refine (W X.A (I.ok.hd hc)).item i s _ _ hg st fun v h' tk hv Er kk => ?_
  obtain ⟨c, u, MC, rfl⟩ := hv
  have I1 : Inv X pins σ H { s with heap := h', toks := tk } := I.turned (fun b o hb e => kk b o (by simpa using hb) e) f0 f1 f3 f4 f5
  obtain ⟨o, e, cl, d⟩ := id Er
  exact ⟨_, rfl, Be (s := { s with heap := h', toks := tk }) e cl d hT ⟨.str ⟨#[c]⟩, H, I1, ⟨u, rfl⟩, ⟨rfl, c, MC, rfl⟩, Er, fun b hb => (hf b hb).1⟩⟩
 done := by
  intro X hP hw hK hc i pins s σ H E I hf st hg
  subst hP hw hK
  obtain ⟨f0, f1, f2, f3, f4, f5⟩ := hf it (by simp)
  have Mw : i = x.cps.size := hg
  subst Mw
  exact (W X.A (I.ok.hd hc)).done s _ _ st fun h' tk kk => ⟨rfl, I.turned (fun b o hb e => kk b o (by simpa using hb) e) f0 f1 f3 f4 f5⟩
 self := self
def G8 (tl : TE) : TI := fun σ H R => tl σ H fun v H1 => ∃ x, v = .str x /\ R (JA x) H1
section
variable {X : Cx} {tg : Expr}
theorem FX {l : Expr} {tl : TE} (hl : PE X l tl) : PI X tg l (G8 tl) := by
 intro pins s σ H R I h
 refine df (hl pins s σ H _ I h) fun v s1 ⟨y, H1, I1, r1, q1⟩ => ?_
 obtain ⟨x, e, q⟩ := q1
 subst e
 obtain ⟨t, rfl⟩ := r1
 have fin : ∀ b, b ∈ [s1.heap.objs.size] -> rz X pins H1 b := fun b hb => by
  have e : b = s1.heap.objs.size := by simpa using hb
  subst e
  exact I1.Df (Nat.le_refl _) (I1.dP.fresh (Nat.le_refl _))
 cases ha : x.cps.all (· < 128)
 . refine wpAny_pyIter_wide ha ?_
   exact ⟨s1.heap.objs.size, [s1.heap.objs.size], _, _, H1, rfl, I1.kept (t' := s1.toks) fun b o e => Heap.get?_push_of_some _ e, we (t := t) (by decide) (fun A hA => Walks.strWide hA _ x t) (fun A i s Q E st q => wpAny_pyIter_striter_wide st q), ⟨_, Heap.get?_push_size _ rfl, rfl, rfl⟩, fin, q⟩
 . refine wpAny_pyIter_ascii ha ?_
   exact ⟨s1.heap.objs.size, [s1.heap.objs.size], _, _, H1, rfl, I1.kept (t' := s1.toks) fun b o e => Heap.get?_push_of_some _ e, we (t := t) (by decide) (fun A hA => Walks.strAscii hA _ x t) (fun A i s Q E st q => wpAny_pyIter_striter_ascii st q), ⟨_, Heap.get?_push_size _ rfl, rfl, rfl⟩, fin, q⟩
def Ia : List V -> Hp -> VK -> Prop := fun xs H Q => ∃ (v : V) (bs : List Bool), xs = [v] /\ Dv H v (.list (bs.map PyData.bool)) /\ Q (.bl (bs.all id)) H
theorem wJ {H : Hp} : ∀ {xs : List V} {bs : List Bool} {us : List Value}, c7 H xs (bs.map PyData.bool) -> Vals xs us -> us = bs.map Value.bool
 | _, [], _, .nil, .nil => rfl
 | _, b :: bs, _, .cons h r, .cons q t => by
   cases h
   cases q
   rw [wJ r t]; rfl
theorem xC {H : Hp} {pins : List (Addr × Obj)} {σ : St} {s : Shared} {v : V} {u : Value} {bs : List Bool} {A : Around} {E : Value -> Shared -> Prop} {Q : (Nat -> Bool) -> Shared -> Prop} (hA : A.handled = none) (I : Inv X pins σ H s) (rv : RelV v u) (hd : Dv H v (.list (bs.map PyData.bool)))
 (fin : ∀ h' tk, Inv X pins σ H { s with heap := h', toks := tk } -> Q (fun i => bs.getD i false) { s with heap := h', toks := tk }) :
 wpAny (model X.prog X.w) A (pyIter u) (fun it s2 => ∃ J fp wr n P St tr, it = .ref J /\ Walks X.prog X.w A J fp wr n P St /\ St 0 s2.heap /\ TruthOf X.prog X.w A P tr /\ n = bs.length /\ (tr = fun i => bs.getD i false) /\
  ∀ h' tk, (∀ b o, b ∉ wr -> s2.heap.get? b = some o -> h'.get? b = some o) -> Q tr { s2 with heap := h', toks := tk }) E s := by
 obtain ⟨p, xs, rfl, e, dv⟩ := hd.lst_inv
 obtain ⟨b5, J2, pl, _⟩ := I.list (e X.K)
 have hits := wJ dv J2
 have hu : u = .ref p := rv
 subst hu
 refine wpAny_pyIter_list pl.isList ?_
 have wL : p < s.heap.objs.size := by obtain ⟨o, n, e1, _⟩ := pl; exact Heap.lt_size e1
 refine ⟨s.heap.objs.size, _, _, _, _, _, fun i => bs.getD i false, rfl, Walks.list hA _ p (Nat.ne_of_lt wL) b5.toArray, ⟨⟨_, Heap.get?_push_size _ rfl, rfl, rfl⟩, pl.isList.at fun o e => Heap.get?_push_of_some _ e⟩, ?_, ?_, rfl, fun h' tk kk => ?_⟩
 . intro i w' s3 Q3 E3 hP q
   subst hits
   have hi : (bs.map Value.bool)[i]? = some w' := by simpa using hP
   rw [List.getElem?_map] at hi
   cases hb : bs[i]? with
   | none => rw [hb] at hi; cases hi
   | some b =>
     rw [hb] at hi
     have : w' = .bool b := (Option.some.inj hi).symm
     subst this
     refine wpAny_truthy_bool ?_
     have : bs.getD i false = b := by simp [hb]
     have q' : Q3 (bs.getD i false) s3 := q
     rw [this] at q'
     exact q'
 . subst hits; simp
 . have I1 := I.kept (t' := s.toks) (h' := s.heap.push { cls := Value.type "list_iterator", data := Data.fields #[Value.ref p, Value.int 0 0] }) fun b o e => Heap.get?_push_of_some _ e
   have fp := I.Df (H' := H) (Nat.le_refl _) (I.dP.fresh (Nat.le_refl _))
   have I2 := I1.turned (t' := tk) (h' := h') (it := s.heap.objs.size) (fun b o hb e => kk b o (by simpa using hb) e) fp.1 fp.2.1 fp.2.2.2.1 fp.2.2.2.2.1 fp.2.2.2.2.2
   exact fin h' tk I2
theorem range_all (bs : List Bool) : (List.range bs.length).all (fun i => bs.getD i false) = bs.all id := by
 rw [Bool.eq_iff_iff]
 simp only [List.all_eq_true, List.mem_range, id]
 constructor
 . intro h b hb
   obtain ⟨i, hi, e⟩ := List.getElem_of_mem hb
   have := h i hi
   simp [hi] at this
   rw [<- e]; exact this
 . intro h i hi
   simp [hi]
   exact h _ (List.getElem_mem hi)
theorem y8 (hc : X.calm = true) : gE X (.builtin "all") Ia := by
 intro pins s σ H xs us Q I r h
 obtain ⟨v, bs, rfl, hd, q⟩ := h
 obtain ⟨u, rfl, ru⟩ := vals1 r
 refine call_all_walk (df (xC (Q := fun g s' => EP X pins σ Q (.bool ((List.range bs.length).all g)) s') (show X.A.in1.handled = none from I.ok.hd hc) I ru hd (fun h' tk I' => ⟨.bl _, H, I', rfl, ?_⟩)) fun it s2 hq => ?_)
 . rw [range_all]; exact q
 . obtain ⟨J, fp, wr, n, P, St, tr, e1, W, st, tt, hn, M0, k⟩ := hq
   subst hn
   exact ⟨J, fp, wr, _, P, St, tr, e1, W, st, tt, k⟩
section
variable {σ : St} {H : Hp} {Q : VK} {D : Ends} {K : PySem.W.Frag}
theorem Hd {v : V} {bs : List Bool} (hd : Dv H v (.list (bs.map PyData.bool))) (h : Q (.bl (bs.all id)) H) : Ia [v] H Q := ⟨v, bs, rfl, hd, h⟩
theorem Gz {k : Nat} {tl : TE} {g : TG} {tc : TT} {te : TE} (h : tl σ H fun x H1 => ∃ z, x = .str z /\ GN k g tc te (wC Q) σ (JA z) H1) : JF k (G8 tl) g tc te σ H Q := h
theorem Hm {k : Nat} {g : TG} {tc : TT} {te : TE} {z : Str} (pf : Nat -> Bool) (fd : Nat -> PyData) (hlen : z.cps.size <= 4000) (hi : ∀ c, wK (fd c) = true)
 (turn : ∀ c H' (N : Option V -> Hp -> Prop), c ∈ z.cps.toList -> av H H' -> (pf c = true -> ∀ y H4, av H' H4 -> Dv H4 y (fd c) -> N (some y) H4) -> (pf c = false -> ∀ H3, av H' H3 -> N none H3) ->
  g (.str ⟨#[c]⟩) (List.replicate k none ++ σ) H' fun σ2 H2 => tc σ2 H2 fun b H3 => Hy te N σ2 b H3)
 (kk : ∀ q H', av H H' -> H q = none -> kQ H' q ((z.cps.toList.filter pf).map fd) -> Q (.ref q) H') : ∃ w, V.str z = .str w /\ GN k g tc te (wC Q) σ (JA w) H := by
 refine ⟨z, rfl, fun i m acc H' => i <= z.cps.size /\ m = z.cps.size - i /\ av H H' /\ c7 H' acc (((z.cps.toList.take i).filter pf).map fd), ⟨_, Nat.zero_le _, rfl, av.refl _, by simpa using c7.nil⟩, ?_⟩
 rintro i m acc H' ⟨LQ, hm, sm, p7⟩
 have Ki : acc.length <= z.cps.size := by
  rw [p7.length, List.length_map]
  exact Nat.le_trans (List.length_filter_le _ _) (by rw [List.length_take]; simp; omega)
 by_cases hc : i = z.cps.size
 . left
   refine ⟨hc, fun q hq => ?_⟩
   have e : z.cps.toList.take i = z.cps.toList := List.take_of_length_le (by rw [hc]; simp)
   rw [e] at p7
   exact kk q _ (sm.trans (eW hq)) (sm.none hq) ⟨acc, bI, p7.keeps (eW hq), nR hi _⟩
 . right
   have wL : i < z.cps.size := by omega
   refine ⟨wL, rH (by omega), fun x H2 hy => ?_⟩
   obtain ⟨rfl, c, Jm, rfl⟩ := hy
   have Jg : z.cps.toList[i]? = some c := by rw [Array.getElem?_toList]; exact Jm
   have DZ : z.cps.toList.take (i + 1) = z.cps.toList.take i ++ [c] := by rw [List.take_add_one, Jg]; rfl
   exact turn c H2 (fun o H4 => match o with | some y => ∃ m', m' < m /\ i + 1 <= z.cps.size /\ m' = z.cps.size - (i + 1) /\ av H H4 /\ c7 H4 (acc ++ [y]) (((z.cps.toList.take (i + 1)).filter pf).map fd) | none => ∃ m', m' < m /\ i + 1 <= z.cps.size /\ m' = z.cps.size - (i + 1) /\ av H H4 /\ c7 H4 acc (((z.cps.toList.take (i + 1)).filter pf).map fd))
    (List.mem_of_getElem? Jg) sm
    (fun hp y H4 s4 d4 => ⟨z.cps.size - (i + 1), by omega, wL, rfl, sm.trans s4, by
     rw [DZ, List.filter_append, List.map_append]
     simp only [List.filter_cons, hp, if_true, List.filter_nil, List.map_cons, List.map_nil]
     exact c7.append (p7.keeps s4) (.cons d4 .nil)⟩)
    (fun hp H3 s3 => ⟨z.cps.size - (i + 1), by omega, wL, rfl, sm.trans s3, by
     rw [DZ, List.filter_append, List.map_append]
     simp only [List.filter_cons, hp, Bool.false_eq_true, if_false, List.filter_nil, List.map_nil, List.append_nil]
     exact p7.keeps s3⟩)
end
end
end L2
namespace L2
open PySem
section
variable {H : Hp} {Q : VK} {K : PySem.W.Frag}
theorem Cr {z : Str} (hl : z.length <= 4000) (h : Q (.int (z.length : Nat)) H) : vQ K [.str z] H Q := .inl (.inr ⟨z, rfl, small hl, h⟩)
def Em : R2 := fun x y H Q => ∃ i j, x = .str i /\ y = .str j /\ Q (.bl (!(Builtin.Str.occurrences j i 0 j.length 1).isEmpty)) H
theorem B2 {X : Cx} : nC X (compareOp .In) Em := za
theorem Gj {i j : Str} (h : Q (.bl (!(Builtin.Str.occurrences j i 0 j.length 1).isEmpty)) H) : Em (.str i) (.str j) H Q := ⟨i, j, rfl, rfl, h⟩
end
end L2
namespace L2
open PySem PySem.Spec PyProof.Rows PySem.W
section
variable {X : Cx}
theorem ym {H : Hp} : ∀ {xs : List V} {ss : List Str} {us : List Value}, c7 H xs (ss.map PyData.str) -> Vals xs us -> StrsAre us ss
 | _, [], _, .nil, .nil => .nil
 | _, b :: bs, _, .cons h r, .cons q t => by
   cases h
   obtain ⟨tk, rfl⟩ := q
   exact .cons _ _ (ym r t)
def rJoin : V -> List V -> Hp -> VK -> Prop := fun x vs H Q => ∃ (sep : Str) (v : V) (ss : List Str), x = .str sep /\ vs = [v] /\ Dv H v (.list (ss.map PyData.str)) /\ (ss.map (·.length)).sum + ss.length * sep.length <= 16777216 /\ Q (.str (Txt.join sep ss)) H
theorem yR : IC X "str.join" rJoin := by
 intro pins s σ H x vs v us Q I rx rv h
 obtain ⟨sep, y, ss, rfl, rfl, hd, hz, q⟩ := h
 obtain ⟨t, rfl⟩ := rx
 obtain ⟨u, rfl, ru⟩ := rv.one
 obtain ⟨p, xs, rfl, e, dv⟩ := hd.lst_inv
 obtain ⟨b5, J2, pl, _⟩ := I.list (e X.K)
 have hu : u = .ref p := ru
 subst hu
 have hs := ym dv J2
 refine join_list pl.isList (by simpa using hs) hz fun t' k => ?_
 exact ⟨.str _, H, I.tok _, ⟨_, rfl⟩, q⟩
end
section
variable {σ : St} {H : Hp} {Q : VK} {D : Ends} {K : PySem.W.Frag} {p : Addr} {ds : List PyData}
theorem wZ {sep : Str} {v : V} {ss : List Str} (hd : Dv H v (.list (ss.map PyData.str))) (hz : (ss.map (·.length)).sum + ss.length * sep.length <= 16777216) (h : Q (.str (Txt.join sep ss)) H) : rJoin (.str sep) [v] H Q := ⟨sep, v, ss, rfl, rfl, hd, hz, h⟩
theorem IV {z : Str} {R : Prop} (h : R) : FE K "str" (.str z) H /\ R := ⟨rfl, h⟩
theorem c7.rev {H : Hp} {xs : List V} {ds : List PyData} (h : c7 H xs ds) : c7 H xs.reverse ds.reverse := by
 induction xs generalizing ds with
 | nil => cases h; exact .nil
 | cons x xs ih =>
   cases h with
   | cons h r => rw [List.reverse_cons, List.reverse_cons]; exact (ih r).append (.cons h .nil)
theorem sx {ds : List PyData} (h : a7 ds = true) : a7 ds.reverse = true := by
 rw [fj] at *
 intro d hd
 exact h d (List.mem_reverse.mp hd)
theorem G4 (hp : kQ H p ds) (h : ∀ H2, Mv [p] H H2 -> kQ H2 p ds.reverse -> Q .cf H2) : vW (.ref p) [] H Q := by
 obtain ⟨xs, e, dv, i⟩ := hp
 have m : Mv [p] H (upd H p (.lst xs.reverse)) := .BL e (by intro _ z; cases z)
 exact ⟨p, xs, rfl, rfl, e, h _ m ⟨_, bI, m.Fc (sx i) dv.rev, sx i⟩⟩
theorem c7.drop {H : Hp} : ∀ {xs : List V} {ds : List PyData} (n : Nat), c7 H xs ds -> c7 H (xs.drop n) (ds.drop n)
 | _, _, 0, h => h
 | _, _, _ + 1, .nil => .nil
 | _, _, n + 1, .cons _ r => c7.drop n r
theorem c7.take {H : Hp} : ∀ {xs : List V} {ds : List PyData} (n : Nat), c7 H xs ds -> c7 H (xs.take n) (ds.take n)
 | _, _, 0, _ => .nil
 | _, _, _ + 1, .nil => .nil
 | _, _, n + 1, .cons h r => .cons h (c7.take n r)
theorem qX {ds : List PyData} (n : Nat) (h : a7 ds = true) : a7 (ds.drop n) = true := by
 rw [fj] at *
 exact fun d hd => h d (List.mem_of_mem_drop hd)
theorem vL {ds : List PyData} (n : Nat) (h : a7 ds = true) : a7 (ds.take n) = true := by
 rw [fj] at *
 exact fun d hd => h d (List.mem_of_mem_take hd)
theorem AQ (xs : List V) (i : Nat) : z9 xs (some (i : Int)) none = xs.drop i := by
 have h1 : HT.p0 xs.length 0 (some (i : Int)) = min i xs.length := by
  simp only [HT.p0]
  rw [if_neg (by omega)]
  omega
 have h2 : HT.p0 xs.length xs.length none = xs.length := rfl
 show (xs.drop (HT.p0 xs.length 0 (some (i : Int)))).take (HT.p0 xs.length xs.length none - HT.p0 xs.length 0 (some (i : Int))) = _
 rw [h1, h2]
 by_cases h : i <= xs.length
 . rw [Nat.min_eq_left h, List.take_of_length_le (by rw [List.length_drop]; omega)]
 . rw [List.drop_of_length_le (show xs.length <= min i xs.length by omega), List.drop_of_length_le (show xs.length <= i by omega), List.take_nil]
theorem Bl (i : Nat) (hp : kQ H p ds) (k : ∀ q H', av H H' -> H q = none -> kQ H' q (ds.drop i) -> Q (.ref q) H') : FT K (.ref p) (some (i : Int)) none H Q := by
 obtain ⟨xs, e, dv, im⟩ := hp
 refine ⟨p, xs, rfl, i6.of e, fun q hq => ?_⟩
 rw [AQ]
 exact k q _ (eW hq) hq (rF hq (dv.drop i) (qX i im))
theorem EL {q : Addr} {es : List PyData} (hp : kQ H p ds) (hq : kQ H q es) (hl : ds.length + es.length <= 4000) (k : ∀ r H', av H H' -> H r = none -> kQ H' r (ds ++ es) -> Q (.ref r) H') : Ha (.ref p) (.ref q) H Q := by
 obtain ⟨xs, e, dv, im⟩ := hp
 obtain ⟨zs, e2, LD, Mt⟩ := hq
 refine ⟨p, q, xs, zs, rfl, rfl, e, e2, by rw [dv.length, LD.length]; exact small hl, fun r hr => ?_⟩
 exact k r _ (eW hr) hr (rF hr (dv.append LD) (iW im Mt))
end
end L2
namespace L2
open PySem PySem.Calls PyProof.Rows
section
variable {X : Cx} {e k : Expr} {te tk : TE} {pos p2 : Pos}
end
section
variable {X : Cx}
end
section
variable {K : PySem.W.Frag} {σ : St} {H : Hp} {Q : VK} {p : Addr} {ds : List PyData}
end
end L2
namespace L2
open PySem PySem.Spec PyProof.Rows PySem.W
theorem DM (lo hi : Option Int) (n : Nat) : (Builtin.Str.strSliceIndices lo hi 1 n).length <= n := by
 unfold Builtin.Str.strSliceIndices sliceRange
 simp only [List.length_map, List.length_range, Int.ediv_one, show (1 : Int) > 0 by decide, if_true]
 cases lo <;> cases hi <;> simp only [] <;> (repeat' split) <;> omega
section
variable {X : Cx}
theorem ua : ∀ {us : List Value} {ss : List Str}, StrsAre us ss -> Vals (ss.map V.str) us
 | _, _, .nil => .nil
 | _, _, .cons _ t r => .cons ⟨t, rfl⟩ (ua r)
theorem wz {H : Hp} : ∀ (ss : List Str), c7 H (ss.map V.str) (ss.map PyData.str)
 | [] => .nil
 | x :: r => .cons (.str x) (wz r)
end
section
variable {prog : Program} {w : World} {A : Around} {E : Value -> Shared -> Prop} {s : Shared} {it l : Addr} {b5 : Array Value}
end
section
variable {X : Cx} {e : Expr} {te : TE} {p p2 pos MH : Pos}
end
section
variable {K : PySem.W.Frag} {σ : St} {H : Hp} {Q : VK} {p : Addr} {ds : List PyData} {v : V}
end
section
variable {P : Program} {w : World} {H : Hp} {h : Heap} {d : Addr} {o : Obj} {e9 : List (Key × V)}
end
section
variable {X : Cx} {pins : List (Addr × Obj)} {σ : St} {H : Hp} {s : Shared} {d : Addr} {o : Obj} {e9 : List (Key × V)}
end
section
variable {σ : St} {H : Hp} {Q : VK} {K : PySem.W.Frag} {p : Addr} {m : List (Str × PyData)} {k : Str}
end
section
variable {X : Cx}
end
section
variable {σ : St} {H : Hp} {Q : VK} {K : PySem.W.Frag} {p : Addr} {m : List (Str × PyData)} {k : Str}
end
section
variable {σ : St} {H : Hp} {Q : VK} {K : PySem.W.Frag} {p : Addr}
end
section
variable {X : Cx}
end
section
variable {prog : Program} {w : World} {K : Type} [DecidableEq K] {knd : KeyKind prog w K} {A : Around} {E : Value -> Shared -> Prop} {s : Shared} {d : Addr} {e9 : List (K × Value)} {ep : Nat}
end
section
variable {X : Cx}
end
section
variable {σ : St} {H : Hp} {Q : VK} {p : Addr} {m : List (Str × PyData)}
theorem qR : ∀ ss : List Str, a7 (ss.map PyData.str) = true
 | [] => rfl
 | _ :: r => by rw [List.map_cons, a7, qR r]; rfl
end
section
variable {σ : St} {H : Hp} {D : Ends} {p : Addr} {m : List (Str × PyData)} {g : TG} {tb : TS}
end
section
variable {σ : St} {H : Hp} {K : PySem.W.Frag}
theorem Gg {x : V} {i j : Nat} {d1 d2 : PyData} {R : St -> Hp -> Prop} (hd : Dv H x (.tuple [d1, d2])) (h : ∀ v1 v2, Dv H v1 d1 -> Dv H v2 d2 -> R ((σ.set i (some v1)).set j (some v2)) H) :
 CN K 2 (sZ (kA i) (sZ (kA j) B1)) x σ H R := by
 cases hd with
 | tup ha r =>
   cases r with
   | cons h1 r =>
     cases r with
     | cons h2 r =>
       cases r
       exact ⟨_, _, rfl, .of ha, rfl, _, _, rfl, _, _, rfl, rfl, h _ _ h1 h2⟩
end
def Tr (h : Heap) (a T : Addr) (c : Value) : Prop := ∃ oe vs oT ts, h.get? a = some oe /\ oe.cls = c /\ oe.dict = none /\ oe.data = .fields vs /\ vs[1]? = some (.ref T) /\ T ≠ a /\ h.get? T = some oT /\ oT.data = .fields ts /\ ts[3]? = some .none /\ vs[2]? = some .none
structure Lv (l : List Env) (S : List Addr) (h h' : Heap) : Prop where
 keep : ∀ b o, b ∉ wM l -> b ∉ S -> h.get? b = some o -> h'.get? b = some o
 slot : ∀ b o, b ∈ wM l -> h.get? b = some o -> ∃ sl, h'.get? b = some { o with slots := sl }
section
variable {M : Model} {A : Around} {E : Value -> Shared -> Prop} {s : Shared} {env : Env} {outer : List Env} {L a T : Addr} {c : Value} {base : Heap} {Q : Unit -> Shared -> Prop}
end
def LX (P : Program) (w : World) : v9 := fun outer H s E e s' => ∃ a T C H', e = .ref a /\ s'.os = s.os /\ AllBare s'.gens /\ Un (wM outer) [] H H' s.heap s'.heap /\ rh P w H' s'.heap /\ Tr s'.heap a T (.ref C) /\ s.heap.get? a = none /\ s.heap.get? T = none /\ H' a = none /\ H' T = none /\ E (.ref C) none H'
section
variable {P : Program} {w : World} {K : PySem.W.Frag} {mg : Str -> Option Value} {base : Heap} {N : List Str} {qual : Str} {scope : Scope} {f : Addr} {cd : Value} {A : Around} {outer : List Env} {s0 : Shared} {H0 : Hp} {E : XK} {CX : v9} {pins : List (Addr × Obj)} {σ : St} {H : Hp} {s : Shared}
end
section
variable {K : PySem.W.Frag} {h : Heap} {C : Addr} {Ni : List Value} {newId : String}
end
section
variable {X : Cx} {pins : List (Addr × Obj)} {σ : St} {H : Hp} {s : Shared}
abbrev Cx.Gi (X : Cx) (f : Value -> Shared -> Prop) (pn : List (Addr × Obj)) : Cx := { X with xe := f, pn := pn }
theorem Inv.HZ {f : Value -> Shared -> Prop} (I : Inv X pins σ H s) : Inv (X.Gi f (X.pn ++ pins)) [] σ H s :=
 ⟨⟨I.ok.mod, I.ok.kind, I.ok.glob, I.ok.blt, I.ok.above, I.ok.inj, I.ok.has, I.ok.Ec, I.ok.hd, I.ok.frames, I.ok.FJ, I.ok.FZ, I.ok.bs, I.ok.Af, I.ok.vI, I.ok.wy, I.ok.nY, I.ok.BQ⟩, I.os, I.bare, I.base, I.loc, I.cell, I.free, I.iu, fun p hp => I.pin p (by simpa using hp), I.dP, I.len⟩
theorem Inv.yg {f : Value -> Shared -> Prop} {yz : List (Addr × Obj)} (I : Inv (X.Gi f (X.pn ++ pins)) yz σ H s) : Inv X pins σ H s :=
 ⟨⟨I.ok.mod, I.ok.kind, I.ok.glob, I.ok.blt, I.ok.above, I.ok.inj, I.ok.has, I.ok.Ec, I.ok.hd, I.ok.frames, I.ok.FJ, I.ok.FZ, I.ok.bs, I.ok.Af, I.ok.vI, I.ok.wy, I.ok.nY, I.ok.BQ⟩, I.os, I.bare, I.base, I.loc, I.cell, I.free, I.iu, fun p hp => I.pin p (List.mem_append_left _ hp), I.dP, I.len⟩
end
section
variable {M : Model} {A : Around} {E : Value -> Shared -> Prop}
end
structure MS (K : PySem.W.Frag) (C : Addr) : Prop where
 ga : PySem.W.findIn K (.ref C) "__getattribute__" = some (some (.builtin "BaseException.__getattribute__"))
 gn : PySem.W.findIn K (.ref C) "__getattr__" = some none
 mb : PySem.W.mroIn K C (.type "BaseException") = some true
 hd : PySem.W.hasDictIn K C = true
 ty : sG K C
section
variable {X : Cx}
end
section
variable {P : Program} {w : World} {K : PySem.W.Frag} {mg : Str -> Option Value} {base : Heap}
structure Mb (P : Program) (w : World) (K : PySem.W.Frag) (mg : Str -> Option Value) (base : Heap) (k : Nat) (f : Addr) (ps : List Str) (dg : List V) (sp : Sp) : Prop where
 ex : ∃ (fd : FuncData) (ds : List Value), aV P w K mg base (LX P w) k f fd ps sp /\ Binds K fd ps ds /\ Vals dg ds
end
section
variable {X : Cx} {k : Nat} {f : Addr} {ps : List Str} {sp : Sp} {dg : List V} {E : XK} {x : Str} {p pos : Pos} {e : Expr} {es : List Expr} {t : TA}
end
section
variable {σ : St} {H : Hp} {Q : VK} {D : Ends} {K : PySem.W.Frag} {E : XK} {C : Addr} {ta : TA}
end
def n9 (z : Str) (lo hi : Option Int) : Str := ⟨((Builtin.Str.strSliceIndices lo hi 1 z.length).filterMap (z.cps[·]?)).toArray⟩
def Ih : V -> Option Int -> Option Int -> Hp -> VK -> Prop := fun x lo hi H Q => ∃ z : Str, x = .str z /\ z.length <= 4000 /\ Q (.str (n9 z lo hi)) H
theorem C6 {lo hi : Option Int} {n : Nat} (h : (Builtin.Str.strSliceIndices lo hi 1 n).length = n) : Builtin.Str.strSliceIndices lo hi 1 n = List.range n := by
 have key : ∀ a b : Int, 0 <= a -> b <= n -> (sliceRange a b 1).length = n -> sliceRange a b 1 = List.range n := by
  intro a b ha hb hl
  unfold sliceRange at hl ⊢
  simp only [List.length_map, List.length_range, Int.ediv_one, show (1 : Int) > 0 by decide, if_true] at hl ⊢
  rw [hl]
  by_cases hn : n = 0
  . subst hn; rfl
  . have : a = 0 := by
     split at hl <;> omega
    subst this
    rw [show (fun k : Nat => ((0 : Int) + 1 * (k : Int)).toNat) = id from funext fun k => by simp, List.map_id]
 unfold Builtin.Str.strSliceIndices at h ⊢
 simp only [show (1 : Int) > 0 by decide, if_true] at h ⊢
 refine key _ _ ?_ ?_ h
 . cases lo <;> simp only [] <;> omega
 . cases hi <;> simp only [] <;> omega
theorem nV : ∀ (l : List Nat), (List.range l.length).filterMap (fun i => l[i]?) = l
 | [] => rfl
 | c :: r => by
   rw [List.length_cons, List.range_succ_eq_map, List.filterMap_cons]
   simp only [List.getElem?_cons_zero, List.filterMap_map]
   have : ((fun i => (c :: r)[i]?) ∘ Nat.succ) = fun i => r[i]? := funext fun i => by simp
   rw [this, nV r]
theorem y6 {z : Str} {lo hi : Option Int} (h : (Builtin.Str.strSliceIndices lo hi 1 z.length).length = z.length) : n9 z lo hi = z := by
 unfold n9
 rw [C6 h]
 obtain ⟨⟨l⟩⟩ := z
 show (⟨((List.range l.length).filterMap fun i => (⟨l⟩ : Array Nat)[i]?).toArray⟩ : Str) = _
 have : (fun i => (⟨l⟩ : Array Nat)[i]?) = fun i => l[i]? := funext fun i => (Array.getElem?_toList (xs := ⟨l⟩)).symm
 rw [this, nV l]
theorem xr (z : Str) : n9 z (some 1) none = ⟨(z.cps.toList.drop 1).toArray⟩ := by
 obtain ⟨⟨l⟩⟩ := z
 unfold n9 Builtin.Str.strSliceIndices
 have e0 : (fun i => (⟨l⟩ : Array Nat)[i]?) = fun i => l[i]? := funext fun i => (Array.getElem?_toList (xs := ⟨l⟩)).symm
 show (⟨(List.filterMap (fun i => (⟨l⟩ : Array Nat)[i]?) _).toArray⟩ : Str) = ⟨(l.drop 1).toArray⟩
 rw [e0]
 have el : Str.length ⟨⟨l⟩⟩ = l.length := rfl
 rw [el]
 cases l with
 | nil => rfl
 | cons c r =>
   have e1 : sliceRange (max 0 (min 1 ((r.length + 1 : Nat) : Int))) ((r.length + 1 : Nat) : Int) 1 = (List.range r.length).map (· + 1) := by
    unfold sliceRange
    simp only [Int.ediv_one, show (1 : Int) > 0 by decide, if_true]
    rw [show max (0 : Int) (min 1 ((r.length + 1 : Nat) : Int)) = 1 by omega]
    have e2 : (if (1 : Int) < ((r.length + 1 : Nat) : Int) then ((r.length + 1 : Nat) : Int) - 1 + 1 - 1 else 0).toNat = r.length := by split <;> omega
    rw [e2]
    exact List.map_congr_left fun k _ => by omega
   have e3 : (Builtin.Str.strSliceIndices (some 1) none 1 (c :: r).length) = (List.range r.length).map (· + 1) := e1
   show (⟨(List.filterMap (fun i => (c :: r)[i]?) (Builtin.Str.strSliceIndices (some 1) none 1 (c :: r).length)).toArray⟩ : Str) = _
   rw [e3, List.filterMap_map]
   have : ((fun i => (c :: r)[i]?) ∘ (· + 1)) = fun i => r[i]? := funext fun i => by simp
   rw [this, nV r]
   rfl
section
variable {X : Cx}
theorem B7 : KN X Ih := by
 intro pins s σ H x v vl vu lo hi sl Q I rx hs pl pu h
 obtain ⟨z, rfl, hz, q⟩ := h
 obtain ⟨t, rfl⟩ := rx
 obtain ⟨l, rfl, e1⟩ : ∃ l : Option (Int × Tok), vl = partValue l /\ l.map (·.1) = lo := by
  cases pl with
  | none => exact ⟨none, rfl, rfl⟩
  | int i t => exact ⟨some (i, t), rfl, rfl⟩
 obtain ⟨u, rfl, e2⟩ : ∃ u : Option (Int × Tok), vu = partValue u /\ u.map (·.1) = hi := by
  cases pu with
  | none => exact ⟨none, rfl, rfl⟩
  | int i t => exact ⟨some (i, t), rfl, rfl⟩
 refine ⟨"str", _, F.slot_str_getitem.lookup, typeIs_str _ _ _, ?_⟩
 refine wpAny_getItem_str_slice (l := l) (u := u) (st := none) hs rfl ?_
 have ep : slicePicked z l u none = Builtin.Str.strSliceIndices lo hi 1 z.length := by unfold slicePicked; rw [e1, e2]; rfl
 unfold sliceMade
 rw [ep]
 split
 . rename_i c
   rw [Bool.and_eq_true] at c
   have := y6 (z := z) (lo := lo) (hi := hi) (by simpa using c.2)
   rw [this] at q
   exact ⟨.str z, H, I, ⟨t, rfl⟩, q⟩
 . have hn : (List.filterMap (fun i => z.cps[i]?) (Builtin.Str.strSliceIndices lo hi 1 z.length)).length <= z.length := by
    refine Nat.le_trans (List.length_filterMap_le _ _) ?_
    exact DM _ _ _
   have hl : (Str.mk (List.filterMap (fun i => z.cps[i]?) (Builtin.Str.strSliceIndices lo hi 1 z.length)).toArray).length <= z.length := by
    show (List.filterMap (fun i => z.cps[i]?) (Builtin.Str.strSliceIndices lo hi 1 z.length)).toArray.size <= _
    rw [List.size_toArray]; exact hn
   exact ⟨Nat.le_trans hl (Nat.le_of_lt (rH hz)), .str _, H, I.tok _, ⟨_, rfl⟩, q⟩
def yW : V -> List V -> Hp -> VK -> Prop := fun x vs H Q => ∃ z y : Str, x = .str z /\ vs = [.str y] /\ Q (.bl (Txt.startswith z y)) H
theorem zY : IC X "str.startswith" yW := by
 intro pins s σ H x vs v us Q I rx rv h
 obtain ⟨z, y, rfl, rfl, q⟩ := h
 obtain ⟨t, rfl⟩ := rx
 obtain ⟨u, rfl, ru⟩ := rv.one
 obtain ⟨t', rfl⟩ := ru
 exact call_gives F.slot_str_startswith (typeIs_str _ _ _) F.entry_str_startswith (F.args_str_startswith_2 _ _) (gives_str_startswith z y t t') ⟨.bl _, H, I, rfl, q⟩
theorem sW (z : Str) (c : Nat) : Txt.startswith z ⟨#[c]⟩ = (z.cps.toList.head? == some c) := by
 obtain ⟨⟨l⟩⟩ := z
 unfold Txt.startswith Builtin.Str.subAt
 cases l with
 | nil => rfl
 | cons d r =>
   have e : (⟨⟨d :: r⟩⟩ : Str).cps.extract 0 (0 + (⟨#[c]⟩ : Str).length) = #[d] := by
    show (⟨d :: r⟩ : Array Nat).extract 0 1 = #[d]
    rw [List.extract_toArray]
    rfl
   rw [e]
   show (decide (0 + 1 <= r.length + 1) && ((#[d] : Array Nat) == #[c])) = (some d == some c)
   rw [decide_eq_true (by omega), Bool.true_and]
   rw [Bool.eq_iff_iff]
   simp
def DX : List V -> Hp -> VK -> Prop := fun xs H Q => ∃ (x : Str) (n : Int), xs = [.str x] /\ PySem.intText? x = some n /\ x.length <= 640 /\ Q (.int n) H
theorem zX : gE X (.type "int") DX := by
 intro pins s σ H xs us Q I r h
 obtain ⟨x, n, rfl, hn, hl, q⟩ := h
 obtain ⟨u, rfl, ru⟩ := vals1 r
 obtain ⟨t, rfl⟩ := ru
 exact KIN.call_text hn hl ⟨.int n, H, I.tok _, ⟨_, rfl⟩, q⟩
end
theorem eL {K : PySem.W.Frag} {C D : Addr} (h2 : PySem.W.mroIn K D (.type "object") = some true) (h3 : PySem.W.typeIn K (.ref D) = some (.type "type")) (h : PySem.W.mroIn K C (.ref D) = some false) (hb : (C == D) = false) : PySem.W.kitOne K (.ref C) (.ref D) = some false :=
 lX h2 h3 h fun e => by rw [e] at hb; simp at hb
section
variable {σ : St} {H : Hp} {Q : VK} {D : Ends} {K : PySem.W.Frag}
theorem Hc {z : Str} {lo hi : Option Int} (hl : z.length <= 4000) (h : Q (.str (n9 z lo hi)) H) : Ih (.str z) lo hi H Q := ⟨z, rfl, hl, h⟩
theorem A4 {z y : Str} (h : Q (.bl (Txt.startswith z y)) H) : yW (.str z) [.str y] H Q := ⟨z, y, rfl, rfl, h⟩
theorem EJ {x : Str} {n : Int} (hn : PySem.intText? x = some n) (hl : x.length <= 640) (h : Q (.int n) H) : DX [.str x] H Q := ⟨x, n, rfl, hn, hl, h⟩
end
theorem pM : ∀ (ss : List Str) (n : Nat), StrsAre (strsFrom n ss) ss
 | [], _ => .nil
 | _ :: r, n => .cons _ _ (pM r (n + 1))
def Ak : V -> List V -> Hp -> VK -> Prop := fun x vs H Q => ∃ z y : Str, x = .str z /\ vs = [.str y] /\ y.length ≠ 0 /\ z.length <= 3990 /\ ∀ p, H p = none -> Q (.ref p) (upd H p (.lst ((Txt.split z y).map V.str)))
theorem uP (z y : Str) (h : 1 <= y.length) : (Txt.split z y).length <= z.length + 1 := by
 have := split_weight z y h
 omega
section
variable {X : Cx}
theorem An : IC X "str.split" Ak := by
 intro pins s σ H x vs v us Q I rx rv h
 obtain ⟨z, y, rfl, rfl, hy, hz, q⟩ := h
 obtain ⟨t, rfl⟩ := rx
 obtain ⟨u, rfl, ru⟩ := rv.one
 obtain ⟨t', rfl⟩ := ru
 have hl := uP z y (by omega)
 have hb : (Txt.split z y).length <= sizeLine := Nat.le_trans hl (Nat.le_trans (show z.length + 1 <= 4000 by omega) (by decide))
 have fin : ∀ (us : List Value) (tk : Nat), StrsAre us (Txt.split z y) -> EP X pins σ Q (.ref s.heap.objs.size) { s with heap := s.heap.push { cls := .type "list", data := .seq us.toArray }, toks := tk } := fun us tk hs =>
  ⟨.ref s.heap.objs.size, _, I.laid (t' := tk) (o := .lst ((Txt.split z y).map V.str)) (fun b u e => Heap.get?_push_of_some _ e) (Nat.le_refl _)
   ⟨by rw [List.length_map]; exact hb, us, _, ua hs, Heap.get?_push_size _ rfl⟩, rfl, q _ (I.dP.fresh (Nat.le_refl _))⟩
 unfold Txt.split at fin hb
 split at fin
 . rename_i c
   exact call_meets F.slot_str_split (typeIs_str _ _ _) F.entry_str_split (F.args_str_split_2 _ _) (meets_str_split_cannot_occur z y t t' c) (fin [.str z t] s.toks (.cons _ _ .nil))
 . rename_i c
   rw [if_neg c] at hb
   split at fin
   . rename_i c2
     exact call_meets F.slot_str_split (typeIs_str _ _ _) F.entry_str_split (F.args_str_split_2 _ _) (meets_str_split_not_found z y t t' (by simpa using c) (by simpa using hy) c2) (fin [.str z t] s.toks (.cons _ _ .nil))
   . rename_i c2
     rw [if_neg c2] at hb
     exact call_meets F.slot_str_split (typeIs_str _ _ _) F.entry_str_split (F.args_str_split_2 _ _) (meets_str_split_sep z y t t' (by simpa using c) (by simpa using hy) (by simpa using c2) (Nat.le_trans hz (by decide)) hb) (fin _ _ (pM _ _))
end
section
variable {σ : St} {H : Hp} {Q : VK}
theorem Dp {z y : Str} (hy : y.length ≠ 0) (hz : z.length <= 3990) (k : ∀ p H', av H H' -> H p = none -> kQ H' p ((Txt.split z y).map PyData.str) -> Q (.ref p) H') : Ak (.str z) [.str y] H Q :=
 ⟨z, y, rfl, rfl, hy, hz, fun p hp => k p _ (eW hp) hp (rF hp (wz _) (qR _))⟩
end
theorem gY (sep : Str) : ∀ (x : Str) (r : List Str), (Txt.join sep (x :: r)).cps.toList = x.cps.toList ++ r.flatMap fun p => sep.cps.toList ++ p.cps.toList
 | x, [] => by show x.cps.toList = _; simp
 | x, y :: r => by
   have e : (Txt.join sep (x :: y :: r)) = Txt.join sep ((⟨x.cps ++ sep.cps ++ y.cps⟩ : Str) :: r) := rfl
   rw [e, gY sep _ r]
   show (x.cps ++ sep.cps ++ y.cps).toList ++ _ = _
   simp
theorem vZ {c : Nat} : ∀ {x y : List Nat} {r t : List (List Nat)}, c ∉ x -> c ∉ y -> (∀ p ∈ r, c ∉ p) -> (∀ p ∈ t, c ∉ p) -> (x ++ r.flatMap fun p => c :: p) = (y ++ t.flatMap fun p => c :: p) -> x = y /\ r = t := by
 intro x y r t hx hy hr ht h
 have key : ∀ {x y : List Nat} {u v : List Nat}, c ∉ x -> c ∉ y -> (u = [] \/ ∃ u', u = c :: u') -> (v = [] \/ ∃ v', v = c :: v') -> x ++ u = y ++ v -> x = y /\ u = v := by
  intro x
  induction x with
  | nil =>
    intro y u v hx hy hu hv h
    cases y with
    | nil => exact ⟨rfl, h⟩
    | cons d y =>
      exfalso
      rcases hu with rfl | ⟨u', rfl⟩
      . simp at h
      . have : c = d := by injection h
        exact hy (this ▸ List.mem_cons_self)
  | cons d x ih =>
    intro y u v hx hy hu hv h
    cases y with
    | nil =>
      exfalso
      rcases hv with rfl | ⟨v', rfl⟩
      . simp at h
      . have : d = c := by injection h
        exact hx (this ▸ List.mem_cons_self)
    | cons e y =>
      injection h with h1 h2
      subst h1
      obtain ⟨rfl, rfl⟩ := ih (fun z => hx (List.mem_cons_of_mem _ z)) (fun z => hy (List.mem_cons_of_mem _ z)) hu hv h2
      exact ⟨rfl, rfl⟩
 have sh : ∀ l : List (List Nat), (l.flatMap fun p => c :: p) = [] \/ ∃ u', (l.flatMap fun p => c :: p) = c :: u' := fun l => by
  cases l with
  | nil => exact .inl rfl
  | cons p l => exact .inr ⟨_, rfl⟩
 induction r generalizing x y t with
 | nil =>
   obtain ⟨rfl, h2⟩ := key hx hy (sh _) (sh _) h
   cases t with
   | nil => exact ⟨rfl, rfl⟩
   | cons p t => cases h2
 | cons p r ih =>
   obtain ⟨rfl, h2⟩ := key hx hy (sh _) (sh _) h
   cases t with
   | nil => cases h2
   | cons q t =>
     have h3 : p ++ (r.flatMap fun p => c :: p) = q ++ (t.flatMap fun p => c :: p) := by
      have z : c :: (p ++ (r.flatMap fun p => c :: p)) = c :: (q ++ (t.flatMap fun p => c :: p)) := by simpa using h2
      injection z
     obtain ⟨rfl, rfl⟩ := ih (hr p List.mem_cons_self) (ht q List.mem_cons_self) (fun z hz => hr z (List.mem_cons_of_mem _ hz)) (fun z hz => ht z (List.mem_cons_of_mem _ hz)) h3
     exact ⟨rfl, rfl⟩
theorem xk {c : Nat} {ws : List Str} (F3 : ws ≠ []) (hw : ∀ x ∈ ws, c ∉ x.cps.toList) : Txt.split (Txt.join ⟨#[c]⟩ ws) ⟨#[c]⟩ = ws := by
 have h1 := StrLaws.join_split (Txt.join ⟨#[c]⟩ ws) ⟨#[c]⟩
 have h2 := StrLaws.split_free (Txt.join ⟨#[c]⟩ ws) c
 have h3 := split_pos (Txt.join ⟨#[c]⟩ ws) ⟨#[c]⟩
 rw [<- StrLaws.glued_eq_join] at h1
 change Txt.join ⟨#[c]⟩ _ = _ at h1
 generalize Txt.split (Txt.join ⟨#[c]⟩ ws) ⟨#[c]⟩ = ps at *
 cases ps with
 | nil => simp at h3
 | cons p ps =>
   cases ws with
   | nil => exact absurd rfl F3
   | cons x ws =>
     have h4 := congrArg (fun z : Str => z.cps.toList) h1
     rw [gY, gY] at h4
     have e : ∀ l : List Str, (l.flatMap fun p => (⟨#[c]⟩ : Str).cps.toList ++ p.cps.toList) = (l.map fun p => p.cps.toList).flatMap fun p => c :: p := fun l => by
      rw [List.flatMap_map]; rfl
     rw [e, e] at h4
     obtain ⟨a1, a2⟩ := vZ (h2 p List.mem_cons_self) (hw x List.mem_cons_self) (fun q hq => by
      obtain ⟨z, hz, rfl⟩ := List.mem_map.mp hq
      exact h2 z (List.mem_cons_of_mem _ hz)) (fun q hq => by
      obtain ⟨z, hz, rfl⟩ := List.mem_map.mp hq
      exact hw z (List.mem_cons_of_mem _ hz)) h4
     have inj : ∀ {l m : List Str}, l.map (fun p => p.cps.toList) = m.map (fun p => p.cps.toList) -> l = m := by
      intro l
      induction l with
      | nil => intro m h; cases m with | nil => rfl | cons _ _ => cases h
      | cons a l ih =>
        intro m h
        cases m with
        | nil => cases h
        | cons b m =>
          injection h with g1 g2
          rw [o1 g1, ih g2]
     rw [o1 a1, inj a2]
theorem CB {X : Cx} {body : List Stmt} {hs : List ExceptHandler} {h0 : ExceptHandler} {pos : Pos} {ts : TS} (hb : ∀ (f : Value -> Shared -> Prop) (pn : List (Addr × Obj)), wN (X.Gi f pn) body ts) : PS X (.Try body (h0 :: hs) [] [] pos) ts := by
 intro pins s σ H Dn I h
 refine wpAny_Try_except ?_
 refine wpAny_mono (hb (fun e s1 => wpAny (model X.prog X.w) X.A (noteFrame e X.env) (fun _ s2 => wpAny (model X.prog X.w) X.A (setFlight e none) (fun _ s3 => wpAny (model X.prog X.w) X.A (handleBy e X.env (h0 :: hs)) (SP X pins Dn) X.xe s3) X.xe s2) X.xe s1) (X.pn ++ pins) [] s σ H Dn I.HZ h) ?_ (fun e s1 z => z)
 intro f s1 q
 cases f with
 | next => obtain ⟨σ7, H7, J7, q8⟩ := q; exact wpAny_execs_nil ⟨σ7, H7, J7.yg, q8⟩
 | brk => obtain ⟨σ7, H7, J7, q8⟩ := q; exact ⟨σ7, H7, J7.yg, q8⟩
 | cont => obtain ⟨σ7, H7, J7, q8⟩ := q; exact ⟨σ7, H7, J7.yg, q8⟩
 | ret u => obtain ⟨v, σ7, H7, J7, r7, q8⟩ := q; exact ⟨v, σ7, H7, J7.yg, r7, q8⟩
inductive pE (w : World) : List DictEntry -> List (Str × Int) -> Prop
 | nil : pE w [] []
 | cons {es : List DictEntry} {m : List (Str × Int)} (k : Str) (t : Tok) (n : Int) (u : Tok) (r : pE w es m) : pE w (⟨PyData.keyHash w.params k, .str k t, .int n u⟩ :: es) ((k, n) :: m)
def k9 (w : World) (K : PySem.W.Frag) (A : Addr) (m : List (Str × Int)) : Prop := ∃ es ep, List.lookup A K = some ⟨.type "dict", none, .dict es ep, #[]⟩ /\ (A == sysModules) = false /\ pE w es.toList m /\ (m.map (·.1)).Nodup
def BP (m : List (Str × Int)) (k : Str) : Option Int := (m.find? fun p => decide (p.1 = k)).map (·.2)
theorem pE.keys {P : Program} {w : World} : ∀ {es : List DictEntry} {m : List (Str × Int)}, pE w es m -> ∀ e ∈ es, ∃ k, (ft P w).is k e.key = true /\ e.hash = (ft P w).hash k
 | _, _, .cons k t n u r, e, he => by
   rcases List.mem_cons.mp he with rfl | he
   . exact ⟨.inr k, by show mz (.inr k) (.str k t) = true; simp [mz, Value.isStrOf], rfl⟩
   . exact r.keys e he
theorem pE.pairs {P : Program} {w : World} : ∀ {es : List DictEntry} {m : List (Str × Int)}, pE w es m -> ∃ vs : List (Key × Value), Pairs (ft P w) es vs /\ vs.map (·.1) = m.map (fun p => Sum.inr p.1) /\ KV (m.map fun p => ((Sum.inr p.1 : Key), V.int p.2)) vs
 | _, _, .nil => ⟨[], .nil, rfl, .nil⟩
 | _, _, .cons k t n u r => by
   obtain ⟨vs, a, b, c⟩ := r.pairs (P := P)
   exact ⟨(.inr k, .int n u) :: vs, .cons (by show mz (.inr k) (.str k t) = true; simp [mz, Value.isStrOf]) rfl a, by simp [b], .cons ⟨rfl, u, rfl⟩ c⟩
theorem vF (m : List (Str × Int)) (k : Str) : vH (m.map fun p => ((Sum.inr p.1 : Key), V.int p.2)) (.inr k) = (BP m k).map V.int := by
 induction m with
 | nil => rfl
 | cons p m ih =>
   unfold BP vH at *
   rw [List.map_cons, List.find?_cons, List.find?_cons]
   by_cases e : p.1 = k
   . simp [e]
   . have e2 : ¬ (Sum.inr p.1 : Key) = Sum.inr k := fun z => e (by injection z)
     rw [decide_eq_false e, decide_eq_false e2]
     exact ih
theorem k9.at {X : Cx} {pins : List (Addr × Obj)} {σ : St} {H : Hp} {s : Shared} {A : Addr} {m : List (Str × Int)} (g : k9 X.w X.K A m) (I : Inv X pins σ H s) : (A == sysModules) = false /\ ∃ vs, KV (m.map fun p => ((Sum.inr p.1 : Key), V.int p.2)) vs /\ s.heap.DictOf (ft X.prog X.w) A vs := by
 obtain ⟨es, ep, e1, e2, e3, e4⟩ := g
 obtain ⟨vs, a, b, c⟩ := e3.pairs (P := X.prog)
 refine ⟨e2, vs, c, _, es, ep, I.bk _ _ (I.mod.Fp _ _ e1), ⟨rfl, rfl, rfl⟩, rfl, fun e he => e3.keys e (by simpa using he), a, ?_⟩
 have : vs.map (fun x => x.1) = (m.map (·.1)).map Sum.inr := by rw [b, List.map_map]; rfl
 rw [this]
 exact List.Pairwise.map _ (fun _ _ z y => z (by injection y)) e4
def Fi (A : Addr) (m : List (Str × Int)) (x y : V) (H : Hp) (Q : VK) : Prop := ∃ k, x = .ref A /\ y = .str k /\ Q (.bl (BP m k).isSome) H
def BG (A : Addr) (m : List (Str × Int)) (x y : V) (H : Hp) (Q : VK) : Prop := ∃ k n, x = .ref A /\ y = .str k /\ BP m k = some n /\ Q (.int n) H
def IA (A : Addr) (m : List (Str × Int)) (ty td : TE) : TE := fun σ H Q => ty σ H fun y H1 => td σ H1 fun x H2 => Fi A m x y H2 Q
def D5 (A : Addr) (m : List (Str × Int)) (td ty : TE) : TE := fun σ H Q => td σ H fun x H1 => ty σ H1 fun y H2 => BG A m x y H2 Q
section
variable {X : Cx} {o i : Expr} {pos : Pos} {td ty : TE} {A : Addr} {m : List (Str × Int)}
theorem EW (hG : k9 X.w X.K A m) (hi : PE X i ty) (ho : PE X o td) : PC X .In i o (IA A m ty td) := by
 intro pins s σ H Q I h
 refine df (hi pins s σ H _ I h) fun iv s1 ⟨y, H1, I1, ry, q1⟩ => df (ho pins s1 σ H1 _ I1 q1) fun u s2 ⟨x, H2, I2, rx, k, ex, ey, q2⟩ => ?_
 subst ex
 subst ey
 obtain rfl : u = Value.ref A := rx
 obtain ⟨hd, vs, rel, dd⟩ := hG.at I2
 refine wpAny_in_of (Ej (k := .inr k) ry) hd dd.mapOf ?_
 rw [<- (rel.val (.inr k)).zl, vF, Option.isSome_map]
 exact ⟨.bl _, H2, I2.tok _, rfl, q2⟩
theorem CI (hG : k9 X.w X.K A m) (ho : PE X o td) (hi : PE X i ty) (hs : Ic i) : PE X (.Subscript o i pos) (D5 A m td ty) := by
 intro pins s σ H Q I h
 refine DI PySem.F.slot_dict_getitem.lookup hs (df (ho pins s σ H _ I h) fun u s1 ⟨x, H1, I1, rx, q1⟩ => df (hi pins s1 σ H1 _ I1 q1) fun iv s2 ⟨y, H2, I2, ry, k, n, ex, ey, l, q2⟩ => ?_)
 subst ex
 subst ey
 obtain rfl : u = Value.ref A := rx
 obtain ⟨hd, vs, rel, dd⟩ := hG.at I2
 obtain ⟨w', hw, GU⟩ := pL.some_of (v := .int n) (o := valueAt vs (.inr k)) (by
  have z := rel.val (.inr k)
  rw [vF, l] at z
  exact z)
 exact ⟨dd.typeIs, wpAny_getItem_of (Ej (k := .inr k) ry) dd.mapOf hw ⟨.int n, H2, I2.tok _, GU, q2⟩⟩
end
section
variable {σ : St} {H : Hp} {Q : VK} {A : Addr} {m : List (Str × Int)}
theorem Gy {ty td : TE} (h : ty σ H fun y H1 => td σ H1 fun x H2 => Fi A m x y H2 Q) : IA A m ty td σ H Q := h
theorem CK {ty td : TE} (h : td σ H fun x H1 => ty σ H1 fun y H2 => BG A m x y H2 Q) : D5 A m td ty σ H Q := h
theorem G3 {k : Str} {n : Int} (hk : BP m k = some n) (h : Q (.bl true) H) : Fi A m (.ref A) (.str k) H Q := ⟨k, rfl, rfl, by rw [hk]; exact h⟩
theorem Fu {k : Str} {n : Int} (hk : BP m k = some n) (h : Q (.int n) H) : BG A m (.ref A) (.str k) H Q := ⟨k, n, rfl, rfl, hk, h⟩
end
theorem IG {w : World} {K : PySem.W.Frag} {h : Heap} {mg : Str -> Option Value} {A : Addr} {es : Array DictEntry} {ep : Nat} {m : List (Str × Int)} {x : Str} (X : K.In h) (G : h.Ns mainGlobals mg) (h0 : PySem.W.nsIn K mainGlobals x = some (some (.ref A)))
 (h1 : List.lookup A K = some ⟨.type "dict", none, .dict es ep, #[]⟩) (h2 : (A == sysModules) = false) (h3 : pE w es.toList m) (h4 : (m.map (·.1)).Nodup) : ∃ A, mg x = some (.ref A) /\ k9 w K A m := ⟨A, PySem.W.mg_of X G h0, es, ep, h1, h2, h3, h4⟩
section
variable {H : Hp} {Q : VK} {K : PySem.W.Frag} {p : Addr} {ds : List PyData}
theorem Gm (xs : List V) (h : 1 <= xs.length) : z9 xs (some 1) (some (-1)) = (xs.drop 1).take (xs.length - 2) := by
 have h1 : HT.p0 xs.length 0 (some 1) = 1 := by
  simp only [HT.p0]
  rw [if_neg (by omega)]
  omega
 have h2 : HT.p0 xs.length xs.length (some (-1)) = xs.length - 1 := by
  simp only [HT.p0]
  rw [if_pos (by omega)]
  omega
 show (xs.drop (HT.p0 xs.length 0 (some 1))).take (HT.p0 xs.length xs.length (some (-1)) - HT.p0 xs.length 0 (some 1)) = _
 rw [h1, h2]
 congr 1
theorem x4 (hp : kQ H p ds) (h1 : 1 <= ds.length) (k : ∀ q H', av H H' -> H q = none -> kQ H' q ((ds.drop 1).take (ds.length - 2)) -> Q (.ref q) H') : FT K (.ref p) (some 1) (some (-1)) H Q := by
 obtain ⟨xs, e, dv, im⟩ := hp
 refine ⟨p, xs, rfl, i6.of e, fun q hq => ?_⟩
 have hl := dv.length
 rw [Gm xs (by omega), hl]
 exact k q _ (eW hq) hq (rF hq ((dv.drop 1).take _) (vL _ (qX 1 im)))
theorem Fb {i j : Str} {n m : Nat} (h1 : i.length <= n) (h2 : j.length <= m) (hn : n + m <= 4000) (h : (i ++ j).length <= n + m -> Q (.str (i ++ j)) H) : Bh (.str i) (.str j) H Q := by
 have e : (i ++ j).length = i.length + j.length := by show (i.cps ++ j.cps).size = _; rw [Array.size_append]; rfl
 exact Al (by omega) (h (by omega))
end
theorem nP (x y : Str) : (x ++ y).cps.toList = x.cps.toList ++ y.cps.toList := by show (x.cps ++ y.cps).toList = _; simp
end L2
set_option maxHeartbeats 4000000
namespace My
open PySem L2
def num (c : Int) : Int := if c % 3 = 0 then c / 3 % 7 else if c % 3 = 1 then c / 3 % 1000 else c / 3 % 10 ^ 39
theorem qk (c : Int) : 0 <= num c := by
 unfold num
 split
 . omega
 . split
   . omega
   . exact Int.emod_nonneg _ (by decide)
theorem qo (c : Int) : num c < 10 ^ 39 := by
 unfold num
 split
 . omega
 . split
   . omega
   . exact Int.emod_lt_of_pos _ (by decide)
def uq (m : V) : Prop := m = .cf \/ ∃ i, m = .int i /\ 1 <= i
def oy (m : V) (n : Int) : Int := match m with
 | .int i => if i <= n then i else n
 | _ => n
def gi (m : V) (n : Int) (d : PyData) : PyData := match m with
 | .int i => if i <= n then .none else d
 | _ => d
theorem Cb {i n : Int} {d : PyData} (h : i <= n) : gi (.int i) n d = .none := if_pos h
theorem De {i n : Int} {d : PyData} (h : ¬ i <= n) : gi (.int i) n d = d := if_neg h
theorem CD {i n : Int} (h : i <= n) : oy (.int i) n = i := if_pos h
theorem Dk {i n : Int} (h : ¬ i <= n) : oy (.int i) n = n := if_neg h
def yr : List V -> List (Str × V)
 | [f, .cf] => [("many", .int 1), ("first", f), ("last", f)]
 | [f, l] => [("many", .int 1), ("first", f), ("last", l)]
 | _ => []
def yY : List V -> List (Str × V)
 | [st, sp, wd, m] => [("many", m), ("start", st), ("step", sp), ("wide", wd)]
 | _ => []
def pN : List V -> List (Str × V)
 | [st, gp, wd, m] => [("many", m), ("start", st), ("gap", gp), ("wide", wd)]
 | _ => []
def o4 : List V -> List (Str × V)
 | [st, gp, mo, wd, m] => [("many", m), ("start", st), ("gap", gp), ("wide", wd), ("most", mo)]
 | _ => []
inductive Wk (R : Int -> Int -> Int × Int) (now : Int) : Int -> Int -> Int -> Int -> Int -> Int -> Prop where
 | here {num x y : Int} (h : now < y) : Wk R now num x y num x y
 | next {num x y k x' y' : Int} (h : y <= now) (w : Wk R now (num + 1) (R num y).1 (R num y).2 k x' y') : Wk R now num x y k x' y'
theorem Wk.inj {R : Int -> Int -> Int × Int} {now num x y k x' y' k2 x2 y2 : Int} (h : Wk R now num x y k x' y') (g : Wk R now num x y k2 x2 y2) : k = k2 /\ x' = x2 /\ y' = y2 := by
 induction h with
 | here h =>
   cases g with
   | here _ => exact ⟨rfl, rfl, rfl⟩
   | next h2 _ => omega
 | next h _ ih =>
   cases g with
   | here h2 => omega
   | next _ w => exact ih w
def steps (e span now : Int) : Int := max 0 ((now - e) / span + 1)
theorem rW {e span now : Int} (hs : 0 < span) (h : now < e) : steps e span now = 0 := by
 unfold steps
 have : (now - e) / span < 0 := Int.ediv_neg_of_neg_of_pos (by omega) hs
 omega
theorem ti {e span now : Int} (hs : 0 < span) (h : e <= now) : steps e span now = steps (e + span) span now + 1 := by
 unfold steps
 have h1 : 0 <= (now - e) / span := Int.ediv_nonneg (by omega) (by omega)
 have h2 : (now - (e + span)) / span = (now - e) / span - 1 := by
  have : now - (e + span) = (now - e) + span * (-1) := by omega
  rw [this, Int.add_mul_ediv_left _ _ (by omega)]
  omega
 rw [h2]
 omega
theorem oO {e span now : Int} : 0 <= steps e span now := by unfold steps; omega
theorem wt {e span now b : Int} (hs : 0 < span) (h : now - e <= b) (hb : 0 <= b) : steps e span now <= b + 1 := by
 unfold steps
 have : (now - e) / span <= b := by
  by_cases h0 : 0 <= now - e
  . exact Int.le_trans (Int.ediv_le_self _ h0) h
  . have := Int.ediv_neg_of_neg_of_pos (show now - e < 0 by omega) hs
    omega
 omega
theorem uR {R : Int -> Int -> Int × Int} {now span wd : Int} (hs : 0 < span) : ∀ (j : Nat) {num e : Int}, (steps e span now).toNat = j -> (∀ i : Nat, R (num + i) (e + i * span) = (e + (i + 1) * span - wd, e + (i + 1) * span)) ->
 Wk R now num (e - wd) e (num + steps e span now) (e + steps e span now * span - wd) (e + steps e span now * span) := by
 intro j
 induction j with
 | zero =>
   intro num e hj hR
   have h0 : steps e span now = 0 := by have := oO (e := e) (span := span) (now := now); omega
   have wL : now < e := by
    by_cases h : now < e
    . exact h
    . have := ti hs (show e <= now by omega)
      have := oO (e := e + span) (span := span) (now := now)
      omega
   rw [h0, Int.zero_mul, Int.add_zero, Int.add_zero]
   exact .here wL
 | succ j ih =>
   intro num e hj hR
   have hle : e <= now := by
    by_cases h : e <= now
    . exact h
    . have := rW hs (show now < e by omega); omega
   have hn := ti hs hle
   have r0 := hR 0
   simp only [Int.natCast_zero, Int.zero_mul, Int.add_zero, Int.zero_add, Int.one_mul] at r0
   refine .next hle ?_
   rw [r0]
   have w := ih (num := num + 1) (e := e + span) (by omega) (fun i => by
    have r := hR (i + 1)
    have c1 : num + 1 + (i : Int) = num + ((i + 1 : Nat) : Int) := by omega
    have c2 : e + span + (i : Int) * span = e + ((i + 1 : Nat) : Int) * span := by rw [show ((i + 1 : Nat) : Int) = (i : Int) + 1 by omega, Int.add_mul]; omega
    have c3 : e + span + ((i : Int) + 1) * span = e + (((i + 1 : Nat) : Int) + 1) * span := by
     rw [show (((i + 1 : Nat) : Int) + 1) = ((i : Int) + 1) + 1 by omega, Int.add_mul ((i : Int) + 1) 1, Int.one_mul]; omega
    rw [c1, c2, c3]; exact r)
   have e1 : num + steps e span now = num + 1 + steps (e + span) span now := by omega
   have e2 : e + steps e span now * span = e + span + steps (e + span) span now * span := by rw [hn, Int.add_mul]; omega
   rw [e1, e2]
   exact w
local macro_rules | `(tactic| walk_at "same") => `(tactic| first
 | exact av.refl _
 | assumption
 | (refine' av.trans ?m ?s; (case s => assumption); (case m => walk_at "same")))
local macro_rules | `(tactic| walk_at "at") => `(tactic| first
 | assumption
 | exact bI
 | (refine' av.at ?s ?m; (case s => assumption); (case m => walk_at "at")))
local macro_rules | `(tactic| walk_at "dat") => `(tactic| first
 | exact Dv.int _
 | exact Dv.cf
 | exact Dv.bl _
 | exact Dv.str _
 | assumption
 | (refine' Dv.keeps ?s ?m; (case s => assumption); (case m => walk_at "dat")))
local macro_rules | `(tactic| walk_at "ins") => `(tactic| first
 | assumption
 | (refine' eZ.keeps ?s ?m; (case s => assumption); (case m => walk_at "ins")))
local macro_rules | `(tactic| walk_at "dats") => `(tactic| first
 | exact c7.nil
 | (refine' c7.cons ?m ?s; (case m => walk_at "dat"); (case s => walk_at "dats"))
 | assumption
 | (refine' c7.keeps ?s ?m; (case s => assumption); (case m => walk_at "dats")))
local macro_rules | `(tactic| walk_at "sql") => `(tactic| first
 | assumption
 | (refine' av.seq ?s ?m; (case s => assumption); (case m => walk_at "sql")))
local macro_rules | `(tactic| walk_at "isq") => `(tactic| first
 | (refine' Or.inl ?m; case m => walk_at "dat")
 | (refine' Or.inr ?m; case m => walk_at "dat"))
set_option hygiene false in
local macro_rules | `(tactic| walk_at "side") => `(tactic| first
 | omega
 | assumption
 | exact (by decide)
 | exact G0 (by omega) (by omega)
 | exact HC ⟨by omega, by omega⟩ ⟨by omega, by omega⟩
 | exact ⟨by decide, by decide, by decide⟩)
set_option hygiene false in
local macro_rules | `(tactic| walk_at "use") => `(tactic| fail)
set_option hygiene false in
local macro_rules | `(tactic| walk_at "lk") => `(tactic| fail)
set_option hygiene false in
local macro_rules | `(tactic| walk_at "put") => `(tactic| fail)
set_option hygiene false in
local macro_rules | `(tactic| walk_at "fin") => `(tactic| fail)
set_option hygiene false in
local macro_rules | `(tactic| walk_at "wds") => `(tactic| first
 | with_reducible refine xl (ws := [_]) rfl ?_
 | with_reducible refine xl (ws := [_, _]) rfl ?_
 | with_reducible refine xl (ws := [_, _, _]) rfl ?_
 | with_reducible refine xl (ws := [_, _, _, _]) rfl ?_
 | with_reducible refine xl (ws := [_, _, _, _, _]) rfl ?_
 | with_reducible refine xl (ws := [_, _, _, _, _, _]) rfl ?_
 | with_reducible refine xl (ws := []) rfl ?_)
set_option hygiene false in
local macro_rules | `(tactic| walk_at "mks") => `(tactic| first
 | refine o7 (args := [_]) rfl ?_ (fun _ _ _ _ => ?_)
 | refine o7 (args := [_, _]) rfl ?_ (fun _ _ _ _ => ?_)
 | refine o7 (args := [_, _, _]) rfl ?_ (fun _ _ _ _ => ?_)
 | refine o7 (args := [_, _, _, _]) rfl ?_ (fun _ _ _ _ => ?_)
 | refine o7 (args := [_, _, _, _, _]) rfl ?_ (fun _ _ _ _ => ?_))
local macro_rules | `(tactic| walk_at "br") => `(tactic| ((with_reducible refine Hj (fun hb => ?_) (fun hb => ?_)) <;> (try simp only [id, decide_eq_true_eq, decide_eq_false_iff_not, Bool.not_eq_true', Bool.not_eq_false', Bool.not_true, Bool.not_false, V.int.injEq, Bool.true_eq_false, Bool.false_eq_true, reduceCtorEq, decide_true, decide_false, not_true, not_false_iff, PyData.eqv, PyData.eqvAll, Bool.and_eq_true, Bool.and_eq_false_iff, Bool.or_eq_true, Bool.or_eq_false_iff, beq_iff_eq, beq_eq_false_iff_ne, ne_eq, bne_iff_ne, Bool.and_true, Bool.and_false, Bool.and_self, beq_self_eq_true, isInt, isBool, isStr, Hg, isTup, Hb, List.length_cons, List.length_nil] at hb) <;> (try (exfalso; omega)) <;> (try (exfalso; (refine' KD hb ?d); (case d => walk_at "dat")))))
local macro_rules | `(tactic| walk_at "rd1") => `(tactic| first
 | with_reducible refine Gp ?_
 | with_reducible refine IP ?_
 | with_reducible refine Ig ?_
 | with_reducible refine Gd ?_
 | with_reducible refine Iv ?_
 | ((with_reducible refine' DY ?e ?_); case e => exact rfl)
 | with_reducible refine L5 ?_
 | with_reducible refine K5 ?_
 | with_reducible refine JT ?_
 | with_reducible refine JG ?_
 | ((with_reducible refine' F1 ?e1 ?e2 ?_); (case e1 => exact ⟨by decide, by decide, by decide⟩); (case e2 => ((conv => lhs; simp only [Int.reduceToNat]) <;> exact rfl)))
 | ((with_reducible refine' L1 ?e ?_); case e => walk_at "side")
 | with_reducible refine L9 ?_
 | with_reducible refine F2 ?_
 | with_reducible refine G9 ?_
 | with_reducible refine Dr ?_
 | with_reducible refine Kj ?_
 | with_reducible refine Fw ?_
 | with_reducible refine Jc ?_
 | with_reducible refine JR ?_
 | with_reducible refine IB ?_
 | with_reducible refine Fs ?_
 | with_reducible refine HL ?_
 | with_reducible refine FH ?_
 | with_reducible refine G2 ?_
 | with_reducible refine KC ?_
 | with_reducible refine Gs ?_
 | with_reducible refine Ag ?_
 | with_reducible refine zQ ?_
 | walk_at "br"
 | with_reducible refine Fg ?_
 | ((with_reducible refine' Iz ?e ?_); case e => exact rfl)
 | ((with_reducible refine' wk ?e1 ?e2 ?e3 ?e4 ?e5 ?_); (case e1 => walk_at "dat"); (case e2 => walk_at "dat"); (case e3 => first | rfl | assumption); (case e4 => first | rfl | assumption); (case e5 => first | exact Nat.le_of_ble_eq_true rfl | assumption))
 | ((with_reducible refine' D7 ?e1 ?e2 ?_); (case e1 => walk_at "isq"); (case e2 => exact rfl))
 | ((with_reducible refine' AG ?e ?_); case e => walk_at "isq")
 | ((with_reducible refine' EK ?e ?_); case e => walk_at "sql")
 | ((with_reducible refine' FL ?e1 ?e2 ?_); (case e1 => omega); (case e2 => omega))
 | with_reducible refine EH (fun _ _ _ _ => ?_)
 | with_reducible refine GB (fun _ _ _ _ => ?_)
 | ((with_reducible refine' Ez ?e (fun _ _ => ?_)); case e => walk_at "side")
 | with_reducible refine Kd ?_
 | with_reducible refine Ge ?_
 | ((with_reducible refine' CF ?e1 ?e2 ?e3 ?e4 ?e5 ?_); (case e1 => walk_at "at"); (case e2 => assumption); (case e3 => assumption); (case e4 => exact CW rfl); (case e5 => walk_at "put"))
 | ((with_reducible refine' F6 ?e1 ?e2 ?e3 ?e4 ?_); (case e1 => walk_at "ins"); (case e2 => assumption); (case e3 => assumption); (case e4 => walk_at "lk"))
 | ((with_reducible refine' yx ?e1 ?e2 ?_); (case e1 => walk_at "ins"); (case e2 => walk_at "lk"))
 | ((with_reducible refine' zV ?e ?_); case e => walk_at "dat")
 | ((with_reducible refine' wO ?e ?_); case e => walk_at "dat")
 | ((with_reducible refine' zJ ?e ?_); case e => walk_at "dat")
 | ((with_reducible refine' Fz ?e1 ?e2 ?e3 ?e4 ?_); (case e1 => walk_at "ins"); (case e2 => assumption); (case e3 => assumption); (case e4 => assumption))
 | with_reducible refine DC ?_
 | with_reducible refine Dl ?_
 | with_reducible refine CO ?_
 | with_reducible refine Fj ?_
 | ((with_reducible refine' FN ?e1 ?e2 (fun _ _ _ _ => ?_)); (case e1 => exact yU rfl); (case e2 => walk_at "dats"))
 | with_reducible refine FA ?_
 | ((with_reducible refine' FD ?e1 ?e2 (fun _ _ _ _ _ _ _ => ?_)); (case e1 => exact yU rfl); (case e2 => walk_at "dats"))
 | with_reducible refine Gh ?_
 | with_reducible refine CL ?_
 | ((with_reducible refine' F8 ?e1 ?e2 ?_); (case e1 => omega); (case e2 => omega))
 | with_reducible refine Hq ?_
 | with_reducible refine yh ?_
 | with_reducible refine Dx ?_
 | ((with_reducible refine G5 ?_); (with_reducible refine yh ?_); ((with_reducible refine' DY ?e ?_); case e => exact rfl); ((with_reducible refine' yx ?e1 ?e2 ?_); (case e1 => walk_at "ins"); (case e2 => walk_at "lk")))
 | with_reducible refine HQ ?_
 | with_reducible refine Eu ?_
 | with_reducible refine B3 (fun _ _ => ?_)
 | walk_at "wds"
 | walk_at "mks"
 | walk_at "use"
 | walk_at "fin")
local macro_rules | `(tactic| walk_at "lat") => `(tactic| first
 | assumption
 | (refine' kQ.keeps ?s ?m; (case s => assumption); (case m => walk_at "lat"))
 | (refine' kQ.mv ?s ?n ?m; (case s => assumption); (case n => walk_at "nin"); (case m => walk_at "lat"))
 | fail)
local macro_rules | `(tactic| walk_at "nin") => `(tactic| first
 | (refine' Bs ?n1; (case n1 => walk_at "ne"))
 | fail)
local macro_rules | `(tactic| walk_at "ne") => `(tactic| first
 | assumption
 | (refine Ne.symm ?_; assumption)
 | (refine' kQ.ne ?h ?n; (case n => assumption); (case h => walk_at "lat"))
 | (refine' Ne.symm (kQ.ne ?h ?n); (case n => assumption); (case h => walk_at "lat"))
 | fail)
local macro_rules | `(tactic| walk_at "dla") => `(tactic| first
 | assumption
 | (refine' Js.keeps ?s ?m; (case s => assumption); (case m => walk_at "dla"))
 | (refine' Js.mv ?s ?n ?m; (case s => assumption); (case n => walk_at "nin"); (case m => walk_at "dla"))
 | fail)
local macro_rules | `(tactic| walk_at "ne") => `(tactic| first
 | (refine' Js.ne ?h ?n; (case n => assumption); (case h => walk_at "dla"))
 | (refine' Ne.symm (Js.ne ?h ?n); (case n => assumption); (case h => walk_at "dla"))
 | fail)
local macro_rules | `(tactic| walk_at "imm") => `(tactic| first
 | rfl
 | assumption
 | exact nR (fun _ => rfl) _
 | (refine' kQ.GL ?h; (case h => assumption))
 | fail)
set_option hygiene false in
local macro_rules | `(tactic| walk_at "dm") => `(tactic| first
 | exact fun _ h => h
 | fail)
set_option hygiene false in
local macro_rules | `(tactic| walk_at "none") => `(tactic| first
 | assumption
 | fail)
local macro_rules | `(tactic| walk_at "same") => `(tactic| first
 | (refine' Mv.Iw ?s ?m ?n; (case m => assumption); (case s => walk_at "same"); (case n => walk_at "none"))
 | fail)
local macro_rules | `(tactic| walk_at "mv") => `(tactic| first
 | exact Mv.refl
 | assumption
 | (refine' Mv.step ?m ?s ?h; (case s => assumption); (case m => walk_at "mv"); (case h => walk_at "ours"))
 | fail)
set_option hygiene false in
local macro_rules | `(tactic| walk_at "ours") => `(tactic| first
 | fail)
local macro_rules | `(tactic| walk_at "dat") => `(tactic| first
 | (refine' kQ.dv ?m; (case m => walk_at "lat"))
 | fail)
local macro_rules | `(tactic| walk_at "dats") => `(tactic| first
 | (refine' Mv.Fc ?s ?i ?m; (case s => assumption); (case i => walk_at "imm"); (case m => walk_at "dats"))
 | fail)
set_option hygiene false in
local macro_rules | `(tactic| walk_at "len") => `(tactic| first
 | (simp only [List.length_map, List.length_append, List.length_cons, List.length_nil]; omega)
 | omega
 | fail)
local macro_rules | `(tactic| walk_at "rd1") => `(tactic| first
 | with_reducible refine Gj ?_
 | with_reducible refine Gz ?_
 | ((with_reducible refine' Hd ?e ?_); case e => walk_at "dat")
 | ((with_reducible refine' Cr ?e ?_); case e => walk_at "len")
 | with_reducible refine Cm ?_
 | with_reducible refine CA ?_
 | with_reducible refine KH ?_
 | with_reducible refine GW ?_
 | ((with_reducible refine' Il ?e ?_); case e => walk_at "lat")
 | ((with_reducible refine' HV ?e1 ?e2 ?e3 ?e4 (fun _ _ _ => ?_)); (case e1 => walk_at "lat"); (case e3 => walk_at "dat"); (case e2 => walk_at "len"); (case e4 => walk_at "imm"))
 | ((with_reducible refine' A0 ?e1 ?e2 ?e3 (fun _ _ _ _ _ => ?_)); (case e1 => exact yU rfl); (case e2 => walk_at "dats"); (case e3 => exact rfl))
 | with_reducible refine KY ?_
 | with_reducible refine FQ ?_
 | with_reducible refine Aq ?_
 | with_reducible refine Ds ?_
 | with_reducible refine IE ?_
 | ((with_reducible refine' EC ?e ?e2 ?_); (case e => walk_at "dat"); (case e2 => simp))
 | ((with_reducible refine' Bu ?e ?_); case e => walk_at "dat")
 | ((with_reducible refine' Al ?e ?_); case e => walk_at "len")
 | ((with_reducible refine' E2 ?e ?_); case e => walk_at "dat")
 | ((with_reducible refine' D7 ?e1 ?e2 ?_); (case e1 => walk_at "isq"); (case e2 => first | exact GQ | (refine' GV ?a ?b; (case a => omega); (case b => walk_at "len")) | fail))
 | fail)
local macro_rules | `(tactic| walk_at "rd1") => `(tactic| first
 | with_reducible refine IV ?_
 | ((with_reducible refine' wZ ?e1 ?e2 ?_); (case e1 => walk_at "dat"); (case e2 => walk_at "jn"))
 | ((with_reducible refine' G4 ?e1 (fun _ _ _ => ?_)); (case e1 => walk_at "lat"))
 | ((with_reducible refine' Bl _ ?e1 (fun _ _ _ _ _ => ?_)); (case e1 => walk_at "lat"))
 | ((with_reducible refine' EL ?e1 ?e2 ?e3 (fun _ _ _ _ _ => ?_)); (case e1 => walk_at "lat"); (case e2 => walk_at "lat"); (case e3 => walk_at "len"))
 | fail)
set_option hygiene false in
local macro_rules | `(tactic| walk_at "rd1") => `(tactic| first
 | fail)
local macro_rules | `(tactic| walk_at "rd1") => `(tactic| first
 | with_reducible refine A4 ?_
 | ((with_reducible refine' Hc ?e1 ?_); (case e1 => walk_at "len"))
 | ((with_reducible refine' EJ ?e1 ?e2 ?_); (case e1 => assumption); (case e2 => walk_at "len"))
 | fail)
def top (i : Nat) : Stmt := PySem.Challenge.pw_wakefew_k73_rules_read_again.main.body.getD i (.Pass ⟨0, 0, 0, 0⟩)
set_option hygiene false in
local macro_rules | `(tactic| walk_at "scp") => `(tactic| exact ⟨rfl, rfl, rfl, by decide +kernel, rfl, by decide +kernel, by decide +kernel⟩)
abbrev nS : Stmt := top 6
theorem vG : aB ["thing"] ["thing"] (ao nS) := by walk_at "scp"
abbrev qi : Stmt := top 7
theorem jZ : aB ["number", "piece", "parts"] ["number"] (ao qi) := by walk_at "scp"
abbrev j6 : Stmt := top 9
theorem tW : aB ["number", "least", "what"] ["number", "least", "what"] (ao j6) := by walk_at "scp"
abbrev jT : Stmt := top 10
theorem tU : aB ["end", "span", "now"] ["end", "span", "now"] (ao jT) := by walk_at "scp"
abbrev qt : Stmt := top 11
theorem xq : aB ["number"] ["number"] (ao qt) := by walk_at "scp"
abbrev oI : Stmt := top 12
theorem zT : aB ["kind", "numbers"] ["kind", "numbers"] (ao oI) := by walk_at "scp"
abbrev fP : Stmt := inClass (top 13) 0
theorem qf : aB ["self", "many"] ["self", "many"] (ao fP) := by walk_at "scp"
abbrev fY : Stmt := inClass (top 13) 6
theorem qq : aB ["self", "number", "stretch"] ["self", "number", "stretch"] (ao fY) := by walk_at "scp"
abbrev fX : Stmt := inClass (top 14) 0
theorem jf : aB ["self", "first", "last"] ["self", "first", "last"] (ao fX) := by walk_at "scp"
abbrev ke : Stmt := inClass (top 14) 1
theorem tM : aB ["self"] ["self"] (ao ke) := by walk_at "scp"
abbrev i7 : Stmt := inClass (top 14) 2
theorem tD : aB ["self", "number", "settled"] ["self", "number", "settled"] (ao i7) := by walk_at "scp"
abbrev iQ : Stmt := inClass (top 14) 3
theorem sS : aB ["self", "number", "last", "now"] ["self", "number", "last", "now"] (ao iQ) := by walk_at "scp"
abbrev jI : Stmt := inClass (top 14) 4
theorem tT : aB ["self"] ["self"] (ao jI) := by walk_at "scp"
abbrev fU : Stmt := inClass (top 15) 0
theorem p8 : aB ["self", "start", "step", "wide", "many"] ["self", "start", "step", "wide", "many"] (ao fU) := by walk_at "scp"
abbrev eT : Stmt := inClass (top 15) 1
theorem hE : aB ["self", "number", "first"] ["self", "number"] (ao eT) := by walk_at "scp"
abbrev jX : Stmt := inClass (top 15) 2
theorem tO : aB ["self"] ["self"] (ao jX) := by walk_at "scp"
abbrev iH : Stmt := inClass (top 15) 3
theorem rX : aB ["self", "number", "settled"] ["self", "number", "settled"] (ao iH) := by walk_at "scp"
abbrev iN : Stmt := inClass (top 15) 4
theorem gI : aB ["self", "number", "last", "now", "end", "found"] ["self", "number", "last", "now"] (ao iN) := by walk_at "scp"
abbrev jQ : Stmt := inClass (top 15) 5
theorem tJ : aB ["self"] ["self"] (ao jQ) := by walk_at "scp"
abbrev eI : Stmt := inClass (top 16) 0
theorem nX : aB ["self", "start", "gap", "wide", "many"] ["self", "start", "gap", "wide", "many"] (ao eI) := by walk_at "scp"
abbrev eo : Stmt := inClass (top 16) 1
theorem ml : aB ["self", "number"] ["self", "number"] (ao eo) := by walk_at "scp"
abbrev gO : Stmt := inClass (top 16) 2
theorem q0 : aB ["self"] ["self"] (ao gO) := by walk_at "scp"
abbrev fL : Stmt := inClass (top 16) 3
theorem jz : aB ["self", "number", "settled", "first"] ["self", "number", "settled"] (ao fL) := by walk_at "scp"
abbrev fJ : Stmt := inClass (top 16) 4
theorem p3 : aB ["self", "number", "last", "now"] ["self", "number", "last", "now"] (ao fJ) := by walk_at "scp"
abbrev iJ : Stmt := inClass (top 16) 5
theorem eD : aB ["self", "number", "end", "gap", "now", "span", "steps"] ["self", "number", "end", "gap", "now"] (ao iJ) := by walk_at "scp"
abbrev g8 : Stmt := inClass (top 16) 6
theorem rm : aB ["self"] ["self"] (ao g8) := by walk_at "scp"
abbrev et : Stmt := inClass (top 17) 0
theorem mm : aB ["self", "start", "gap", "most", "wide", "many"] ["self", "start", "gap", "most", "wide", "many"] (ao et) := by walk_at "scp"
abbrev dQ : Stmt := inClass (top 17) 1
theorem bJ : aB ["self", "number", "gap", "left"] ["self", "number"] (ao dQ) := by walk_at "scp"
abbrev fk : Stmt := inClass (top 17) 2
theorem bx : aB ["self", "number", "last", "now", "gap", "end"] ["self", "number", "last", "now"] (ao fk) := by walk_at "scp"
abbrev fW : Stmt := inClass (top 17) 3
theorem ql : aB ["self"] ["self"] (ao fW) := by walk_at "scp"
abbrev tj : Stmt := top 22
theorem zR : aB ["good"] ["good"] (ao tj) := by walk_at "scp"
abbrev iq : Stmt := top 23
theorem oQ : aB ["text", "row"] ["text"] (ao iq) := by walk_at "scp"
abbrev jE : Stmt := top 24
theorem tN : aB ["text"] ["text"] (ao jE) := by walk_at "scp"
abbrev lG : Stmt := top 25
theorem uS : aB ["word"] ["word"] (ao lG) := by walk_at "scp"
abbrev eC : Stmt := top 26
theorem nr : aB ["words", "kind"] ["words"] (ao eC) := by walk_at "scp"
abbrev lh : Stmt := top 27
theorem vp : aB ["kind", "numbers"] ["kind", "numbers"] (ao lh) := by walk_at "scp"
abbrev kZ : Stmt := top 28
theorem jN : aB ["text", "kind", "numbers"] ["text"] (ao kZ) := by walk_at "scp"
abbrev gR : Stmt := top 30
theorem ro : aB ["_law_script", "_law_k"] ["_law_script", "_law_k"] (ao gR) := by walk_at "scp"
abbrev iP : Stmt := top 31
theorem sI : aB ["_law_cell"] ["_law_cell"] (ao iP) := by walk_at "scp"
abbrev lI : Stmt := top 32
theorem dD : aB ["_law_script", "_law_kind", "_law_many", "_law_start", "_law_gap", "_law_wide"] ["_law_script", "_law_kind"] (ao lI) := by walk_at "scp"
abbrev kh : Stmt := top 33
theorem cJ : aB ["_law_script", "_law_kind", "_law_start", "_law_gap", "_law_wide", "_law_many", "_law_most"] ["_law_script", "_law_kind"] (ao kh) := by walk_at "scp"
abbrev kl : Stmt := top 34
theorem nk : aB ["_law_rule_here", "_law_some"] ["_law_rule_here"] (ao kl) := by walk_at "scp"
abbrev ki : Stmt := top 35
theorem dU : aB ["_law_rule_here", "_law_other", "_law_script", "_law_number_here", "_law_last", "_law_now"] ["_law_rule_here", "_law_other", "_law_script"] (ao ki) := by walk_at "scp"
abbrev Bx : Stmt := top 36
theorem nQ : aB ["_law_script", "_law_kind", "_law_rule_here", "_law_text", "_law_k", "_law_found"] ["_law_script"] (ao Bx) := by walk_at "scp"
abbrev cG : List (Str × Int) := [("once", 2), ("each", 4), ("behind", 4), ("slowing", 5)]
theorem mC : ¬ (("many" : Str) = "first") := by decide +kernel
theorem pk : ¬ (("many" : Str) = "last") := by decide +kernel
theorem mV : ¬ (("first" : Str) = "many") := by decide +kernel
theorem nF : ¬ (("first" : Str) = "last") := by decide +kernel
theorem pK : ¬ (("last" : Str) = "many") := by decide +kernel
theorem mX : ¬ (("last" : Str) = "first") := by decide +kernel
theorem jb : ¬ (("__init__" : Str) = "many") := by decide +kernel
theorem hZ : ¬ (("__init__" : Str) = "first") := by decide +kernel
theorem jk : ¬ (("__init__" : Str) = "last") := by decide +kernel
theorem mr : ¬ (("begin" : Str) = "many") := by decide +kernel
theorem lF : ¬ (("begin" : Str) = "first") := by decide +kernel
theorem nD : ¬ (("begin" : Str) = "last") := by decide +kernel
theorem la : ¬ (("follow" : Str) = "many") := by decide +kernel
theorem kP : ¬ (("follow" : Str) = "first") := by decide +kernel
theorem lN : ¬ (("follow" : Str) = "last") := by decide +kernel
theorem lC : ¬ (("let_by" : Str) = "many") := by decide +kernel
theorem kH : ¬ (("let_by" : Str) = "first") := by decide +kernel
theorem lE : ¬ (("let_by" : Str) = "last") := by decide +kernel
theorem nL : ¬ (("words" : Str) = "many") := by decide +kernel
theorem lz : ¬ (("words" : Str) = "first") := by decide +kernel
theorem nz : ¬ (("words" : Str) = "last") := by decide +kernel
theorem oX : ¬ (("twin" : Str) = "many") := by decide +kernel
theorem nE : ¬ (("twin" : Str) = "first") := by decide +kernel
theorem pO : ¬ (("twin" : Str) = "last") := by decide +kernel
theorem jn : ¬ (("place_of" : Str) = "many") := by decide +kernel
theorem iw : ¬ (("place_of" : Str) = "first") := by decide +kernel
theorem jx : ¬ (("place_of" : Str) = "last") := by decide +kernel
theorem mB : ¬ (("many" : Str) = "start") := by decide +kernel
theorem o3 : ¬ (("many" : Str) = "step") := by decide +kernel
theorem ou : ¬ (("many" : Str) = "wide") := by decide +kernel
theorem mU : ¬ (("start" : Str) = "many") := by decide +kernel
theorem mS : ¬ (("start" : Str) = "step") := by decide +kernel
theorem mM : ¬ (("start" : Str) = "wide") := by decide +kernel
theorem oC : ¬ (("step" : Str) = "many") := by decide +kernel
theorem mR : ¬ (("step" : Str) = "start") := by decide +kernel
theorem o5 : ¬ (("step" : Str) = "wide") := by decide +kernel
theorem pP : ¬ (("wide" : Str) = "many") := by decide +kernel
theorem mP : ¬ (("wide" : Str) = "start") := by decide +kernel
theorem pj : ¬ (("wide" : Str) = "step") := by decide +kernel
theorem ix : ¬ (("__init__" : Str) = "start") := by decide +kernel
theorem jy : ¬ (("__init__" : Str) = "step") := by decide +kernel
theorem ju : ¬ (("__init__" : Str) = "wide") := by decide +kernel
theorem gX : ¬ (("stretch_of" : Str) = "many") := by decide +kernel
theorem gb : ¬ (("stretch_of" : Str) = "start") := by decide +kernel
theorem gF : ¬ (("stretch_of" : Str) = "step") := by decide +kernel
theorem gP : ¬ (("stretch_of" : Str) = "wide") := by decide +kernel
theorem lb : ¬ (("begin" : Str) = "start") := by decide +kernel
theorem ny : ¬ (("begin" : Str) = "step") := by decide +kernel
theorem nA : ¬ (("begin" : Str) = "wide") := by decide +kernel
theorem kO : ¬ (("follow" : Str) = "start") := by decide +kernel
theorem kT : ¬ (("follow" : Str) = "step") := by decide +kernel
theorem lU : ¬ (("follow" : Str) = "wide") := by decide +kernel
theorem kJ : ¬ (("let_by" : Str) = "start") := by decide +kernel
theorem lA : ¬ (("let_by" : Str) = "step") := by decide +kernel
theorem lS : ¬ (("let_by" : Str) = "wide") := by decide +kernel
theorem kU : ¬ (("words" : Str) = "start") := by decide +kernel
theorem mF : ¬ (("words" : Str) = "step") := by decide +kernel
theorem mY : ¬ (("words" : Str) = "wide") := by decide +kernel
theorem m6 : ¬ (("twin" : Str) = "start") := by decide +kernel
theorem pG : ¬ (("twin" : Str) = "step") := by decide +kernel
theorem pU : ¬ (("twin" : Str) = "wide") := by decide +kernel
theorem il : ¬ (("place_of" : Str) = "start") := by decide +kernel
theorem jj : ¬ (("place_of" : Str) = "step") := by decide +kernel
theorem jB : ¬ (("place_of" : Str) = "wide") := by decide +kernel
theorem qP : ¬ (("many" : Str) = "gap") := by decide +kernel
theorem pd : ¬ (("start" : Str) = "gap") := by decide +kernel
theorem qK : ¬ (("gap" : Str) = "many") := by decide +kernel
theorem oU : ¬ (("gap" : Str) = "start") := by decide +kernel
theorem qN : ¬ (("gap" : Str) = "wide") := by decide +kernel
theorem qS : ¬ (("wide" : Str) = "gap") := by decide +kernel
theorem kK : ¬ (("__init__" : Str) = "gap") := by decide +kernel
theorem iF : ¬ (("gap_ahead" : Str) = "many") := by decide +kernel
theorem gU : ¬ (("gap_ahead" : Str) = "start") := by decide +kernel
theorem jh : ¬ (("gap_ahead" : Str) = "gap") := by decide +kernel
theorem iz : ¬ (("gap_ahead" : Str) = "wide") := by decide +kernel
theorem o6 : ¬ (("begin" : Str) = "gap") := by decide +kernel
theorem nH : ¬ (("follow" : Str) = "gap") := by decide +kernel
theorem m7 : ¬ (("let_by" : Str) = "gap") := by decide +kernel
theorem oS : ¬ (("leap" : Str) = "many") := by decide +kernel
theorem mq : ¬ (("leap" : Str) = "start") := by decide +kernel
theorem qU : ¬ (("leap" : Str) = "gap") := by decide +kernel
theorem oN : ¬ (("leap" : Str) = "wide") := by decide +kernel
theorem oJ : ¬ (("words" : Str) = "gap") := by decide +kernel
theorem qM : ¬ (("twin" : Str) = "gap") := by decide +kernel
theorem kD : ¬ (("place_of" : Str) = "gap") := by decide +kernel
theorem pH : ¬ (("many" : Str) = "most") := by decide +kernel
theorem ng : ¬ (("start" : Str) = "most") := by decide +kernel
theorem qG : ¬ (("gap" : Str) = "most") := by decide +kernel
theorem oB : ¬ (("wide" : Str) = "most") := by decide +kernel
theorem oM : ¬ (("most" : Str) = "many") := by decide +kernel
theorem m9 : ¬ (("most" : Str) = "start") := by decide +kernel
theorem qF : ¬ (("most" : Str) = "gap") := by decide +kernel
theorem pI : ¬ (("most" : Str) = "wide") := by decide +kernel
theorem jq : ¬ (("__init__" : Str) = "most") := by decide +kernel
theorem hU : ¬ (("gap_ahead" : Str) = "most") := by decide +kernel
theorem lM : ¬ (("let_by" : Str) = "most") := by decide +kernel
theorem mH : ¬ (("words" : Str) = "most") := by decide +kernel
theorem pC : ¬ (("twin" : Str) = "most") := by decide +kernel
theorem nG : ¬ (("begin" : Str) = "most") := by decide +kernel
theorem kY : ¬ (("follow" : Str) = "most") := by decide +kernel
theorem ox : ¬ (("leap" : Str) = "most") := by decide +kernel
theorem jd : ¬ (("place_of" : Str) = "most") := by decide +kernel
set_option hygiene false in
local macro_rules | `(tactic| walk_at "lk") => `(tactic| first
 | assumption
 | (rw [qH]; ((conv => lhs; simp only [look, reduceIte, yr, yY, pN, o4, mC, pk, mV, nF, pK, mX, jb, hZ, jk, mr, lF, nD, la, kP, lN, lC, kH, lE, nL, lz, nz, oX, nE, pO, jn, iw, jx, mB, o3, ou, mU, mS, mM, oC, mR, o5, pP, mP, pj, ix, jy, ju, gX, gb, gF, gP, lb, ny, nA, kO, kT, lU, kJ, lA, lS, kU, mF, mY, m6, pG, pU, il, jj, jB, qP, pd, qK, oU, qN, qS, kK, iF, gU, jh, iz, o6, nH, m7, oS, mq, qU, oN, oJ, qM, kD, pH, ng, qG, oB, oM, m9, qF, pI, jq, hU, lM, mH, pC, nG, kY, ox, jd]) <;> exact rfl)))
set_option hygiene false in
local macro_rules | `(tactic| walk_at "put") => `(tactic| ((conv => lhs; simp only [ji, reduceIte, yr, yY, pN, o4, mC, pk, mV, nF, pK, mX, jb, hZ, jk, mr, lF, nD, la, kP, lN, lC, kH, lE, nL, lz, nz, oX, nE, pO, jn, iw, jx, mB, o3, ou, mU, mS, mM, oC, mR, o5, pP, mP, pj, ix, jy, ju, gX, gb, gF, gP, lb, ny, nA, kO, kT, lU, kJ, lA, lS, kU, mF, mY, m6, pG, pU, il, jj, jB, qP, pd, qK, oU, qN, qS, kK, iF, gU, jh, iz, o6, nH, m7, oS, mq, qU, oN, oJ, qM, kD, pH, ng, qG, oB, oM, m9, qF, pI, jq, hU, lM, mH, pC, nG, kY, ox, jd]) <;> exact rfl))
structure jt (K : PySem.W.Frag) (x q : Str) (s : Stmt) (d : Value) (f : Addr) : Prop where
 a : PySem.W.nsIn K mainGlobals x = some (some (.ref f))
 l : ∃ fd, bP K x q s f d fd
 k : PySem.W.keepIn K (.ref f) = true
structure gq (K : PySem.W.Frag) (C : Addr) (x q : Str) (s : Stmt) (d : Value) (f : Addr) : Prop where
 a : PySem.W.findIn K (.ref C) x = some (some (.ref f))
 l : ∃ fd, bP K x q s f d fd
 k : PySem.W.keepIn K (.ref f) = true
 i : PySem.W.isFn K (.ref f) = true
structure C4 (K : PySem.W.Frag) (C : Addr) : Prop where
 pg : PySem.W.plainGet K C Str.empty = true
 hd : PySem.W.hasDictIn K C = true
 po : PySem.W.plainOver K C = true
 sa : PySem.W.findIn K (.ref C) "__setattr__" = some (some (.builtin "object.__setattr__"))
 t1 : PySem.W.findIn K (.ref C) "__class__" = some (some (.builtin "object.__class__"))
 t2 : PySem.W.mroIn K C (.type "object") = some true
 t3 : PySem.W.typeIn K (.ref C) = some (.type "type")
theorem Cq {K : PySem.W.Frag} {t : Addr} {xs : Array Value} {n : Nat} {d : Option Addr} {z : Array (Option Value)} {c : Value} (l : K.lookup t = some ⟨c, d, .seq xs n, z⟩) : uV K t xs := ⟨⟨_, _, l, rfl⟩⟩
set_option genSizeOf false in
set_option genInjectivity false in
structure Ad where
 c5 : Addr
 qT : FuncData
 eB : Addr
 sN : FuncData
 a6 : Addr
 mn : FuncData
 cj : Addr
 ni : FuncData
 ez : Addr
 tF : FuncData
 fA : Addr
 tZ : FuncData
 aT : Addr
 jm : FuncData
 az : Addr
 js : FuncData
 bN : Addr
 fi : FuncData
 bZ : Addr
 cU : Addr
 nJ : FuncData
 cH : Addr
 ll : FuncData
 cC : Addr
 lK : FuncData
 cX : Addr
 nM : FuncData
 bO : Addr
 fc : FuncData
 b4 : Addr
 c4 : Tok
 aR : Addr
 gW : FuncData
 c6 : Addr
 nu : FuncData
 cI : Addr
 lx : FuncData
 cB : Addr
 lJ : FuncData
 c0 : Addr
 nq : FuncData
 aQ : Addr
 ek : FuncData
 bC : Addr
 cm : Tok
 bt : Addr
 f9 : FuncData
 bj : Addr
 kM : FuncData
 aZ : Addr
 jC : FuncData
 bM : Addr
 jo : FuncData
 bG : Addr
 lL : FuncData
 b9 : Addr
 kF : FuncData
 bu : Addr
 dR : FuncData
 bz : Addr
 cb : Tok
 bb : Addr
 fD : FuncData
 bD : Addr
 iB : FuncData
 bS : Addr
 jv : FuncData
 fC : Addr
 t7 : FuncData
 cO : Addr
 o9 : FuncData
 cA : Addr
 mJ : FuncData
 cQ : Addr
 pW : FuncData
 ck : Addr
 mE : FuncData
 cR : Addr
 oP : FuncData
 cP : Addr
 oE : FuncData
 bH : Addr
 kG : FuncData
 bX : Addr
 lQ : FuncData
 cS : Addr
 pT : FuncData
 cq : Addr
 m8 : FuncData
 cn : Addr
 mw : FuncData
 cx : Addr
 mL : FuncData
 mZ : Addr
 va : FuncData
 iT : Addr
 ay : Addr
 au : Addr
 ah : Addr
 ag : Addr
 ib : Tok
 dG : Tok
 cL : Addr
structure Txt (K : PySem.W.Frag) (mg : Str -> Option Value) (a : Ad) : Prop where
 n6 : bP K "is_whole" "is_whole" nS a.c5 (.none) a.qT
 qQ : PySem.W.keepIn K (.ref a.c5) = true
 qY : mg "is_whole" = some (.ref a.c5)
 qj : bP K "figures" "figures" qi a.eB (.none) a.sN
 sR : PySem.W.keepIn K (.ref a.eB) = true
 sk : mg "figures" = some (.ref a.eB)
 km : bP K "check_from" "check_from" j6 a.a6 (.none) a.mn
 bp : PySem.W.keepIn K (.ref a.a6) = true
 bo : mg "check_from" = some (.ref a.a6)
 jY : bP K "spans_over" "spans_over" jT a.cj (.none) a.ni
 iV : PySem.W.keepIn K (.ref a.cj) = true
 iM : mg "spans_over" = some (.ref a.cj)
 qD : bP K "word_of" "word_of" qt a.ez (.none) a.tF
 sD : PySem.W.keepIn K (.ref a.ez) = true
 r9 : mg "word_of" = some (.ref a.ez)
 sy : bP K "row_of" "row_of" oI a.fA (.none) a.tZ
 ja : PySem.W.keepIn K (.ref a.fA) = true
 jw : mg "row_of" = some (.ref a.fA)
 fH : bP K "__init__" "Rule.__init__" fP a.aT (.none) a.jm
 fV : bP K "place_of" "Rule.place_of" fY a.az (.none) a.js
 fK : bP K "__init__" "Once.__init__" fX a.bN (.ref a.bZ) a.fi
 kB : uV K a.bZ #[.none]
 jJ : bP K "begin" "Once.begin" ke a.cU (.none) a.nJ
 iL : bP K "follow" "Once.follow" i7 a.cH (.none) a.ll
 iX : bP K "let_by" "Once.let_by" iQ a.cC (.none) a.lK
 ky : bP K "words" "Once.words" jI a.cX (.none) a.nM
 fN : bP K "__init__" "Each.__init__" fU a.bO (.ref a.b4) a.fc
 kE : uV K a.b4 #[(.int 0 a.c4), .none]
 eP : bP K "stretch_of" "Each.stretch_of" eT a.aR (.none) a.gW
 ko : bP K "begin" "Each.begin" jX a.c6 (.none) a.nu
 i9 : bP K "follow" "Each.follow" iH a.cI (.none) a.lx
 iZ : bP K "let_by" "Each.let_by" iN a.cB (.none) a.lJ
 jK : bP K "words" "Each.words" jQ a.c0 (.none) a.nq
 eN : bP K "__init__" "Behind.__init__" eI a.aQ (.ref a.bC) a.ek
 iD : uV K a.bC #[(.int 0 a.cm), .none]
 eh : bP K "gap_ahead" "Behind.gap_ahead" eo a.bt (.none) a.f9
 eS : bP K "begin" "Behind.begin" gO a.bj (.none) a.kM
 ec : bP K "follow" "Behind.follow" fL a.aZ (.none) a.jC
 fQ : bP K "let_by" "Behind.let_by" fJ a.bM (.none) a.jo
 iY : bP K "leap" "Behind.leap" iJ a.bG (.none) a.lL
 gH : bP K "words" "Behind.words" g8 a.b9 (.none) a.kF
 ej : bP K "__init__" "Slowing.__init__" et a.bu (.ref a.bz) a.dR
 gJ : uV K a.bz #[(.int 0 a.cb), .none]
 dO : bP K "gap_ahead" "Slowing.gap_ahead" dQ a.bb (.none) a.fD
 fe : bP K "let_by" "Slowing.let_by" fk a.bD (.none) a.iB
 fO : bP K "words" "Slowing.words" fW a.bS (.none) a.jv
 se : bP K "demand" "demand" tj a.fC (.none) a.t7
 lW : PySem.W.keepIn K (.ref a.fC) = true
 l0 : mg "demand" = some (.ref a.fC)
 lT : bP K "is_number" "is_number" iq a.cO (.none) a.o9
 ph : PySem.W.keepIn K (.ref a.cO) = true
 pJ : mg "is_number" = some (.ref a.cO)
 jD : bP K "read_whole" "read_whole" jE a.cA (.none) a.mJ
 fy : PySem.W.keepIn K (.ref a.cA) = true
 fu : mg "read_whole" = some (.ref a.cA)
 lB : bP K "read_many" "read_many" lG a.cQ (.none) a.pW
 o8 : PySem.W.keepIn K (.ref a.cQ) = true
 pe : mg "read_many" = some (.ref a.cQ)
 kr : bP K "split_rule" "split_rule" eC a.ck (.none) a.mE
 mW : PySem.W.keepIn K (.ref a.ck) = true
 mN : mg "split_rule" = some (.ref a.ck)
 lR : bP K "make_rule" "make_rule" lh a.cR (.none) a.oP
 pV : PySem.W.keepIn K (.ref a.cR) = true
 pw : mg "make_rule" = some (.ref a.cR)
 lg : bP K "read_rule" "read_rule" kZ a.cP (.none) a.oE
 oj : PySem.W.keepIn K (.ref a.cP) = true
 oY : mg "read_rule" = some (.ref a.cP)
 gK : bP K "_law_cell_at" "_law_cell_at" gR a.bH (.none) a.kG
 aE : PySem.W.keepIn K (.ref a.bH) = true
 aD : mg "_law_cell_at" = some (.ref a.bH)
 iR : bP K "_law_number" "_law_number" iP a.bX (.none) a.lQ
 aL : PySem.W.keepIn K (.ref a.bX) = true
 aI : mg "_law_number" = some (.ref a.bX)
 lH : bP K "_law_rule" "_law_rule" lI a.cS (.none) a.pT
 px : PySem.W.keepIn K (.ref a.cS) = true
 pF : mg "_law_rule" = some (.ref a.cS)
 jH : bP K "_law_words" "_law_words" kh a.cq (.none) a.m8
 my : PySem.W.keepIn K (.ref a.cq) = true
 mx : mg "_law_words" = some (.ref a.cq)
 j9 : bP K "_law_kinds" "_law_kinds" kl a.cn (.none) a.mw
 mO : PySem.W.keepIn K (.ref a.cn) = true
 nh : mg "_law_kinds" = some (.ref a.cn)
 j0 : bP K "_law_alike" "_law_alike" ki a.cx (.none) a.mL
 nB : PySem.W.keepIn K (.ref a.cx) = true
 mI : mg "_law_alike" = some (.ref a.cx)
 AK : bP K "law" "law" Bx a.mZ (.none) a.va
 BA : mg "law" = some (.ref a.mZ)
 rG : mg "Rule" = some (.ref a.iT)
 rB : mg "Once" = some (.ref a.ay)
 aS : lq K a.ay
 eQ : aJ K a.ay "many"
 dh : aJ K a.ay "first"
 dI : aJ K a.ay "last"
 xx : Mk K a.ay a.bN
 jS : Meth K a.ay "begin" a.cU
 iU : Meth K a.ay "follow" a.cH
 iG : Meth K a.ay "let_by" a.cC
 kc : Meth K a.ay "words" a.cX
 yq : sG K a.ay
 eU : PySem.W.kitOne K (.ref a.ay) (.ref a.ah) = some false
 gv : PySem.W.kitOne K (.ref a.ay) (.ref a.au) = some false
 gy : PySem.W.kitOne K (.ref a.ay) (.ref a.ay) = some true
 d5 : PySem.W.kitOne K (.ref a.ay) (.ref a.ag) = some false
 rJ : mg "Each" = some (.ref a.au)
 aG : lq K a.au
 cu : aJ K a.au "many"
 dj : aJ K a.au "start"
 cY : aJ K a.au "step"
 dJ : aJ K a.au "wide"
 wV : Mk K a.au a.bO
 dk : Meth K a.au "stretch_of" a.aR
 jP : Meth K a.au "begin" a.c6
 i5 : Meth K a.au "follow" a.cI
 iK : Meth K a.au "let_by" a.cB
 ka : Meth K a.au "words" a.c0
 fT : Meth K a.au "place_of" a.az
 yp : sG K a.au
 eG : PySem.W.kitOne K (.ref a.au) (.ref a.ah) = some false
 gk : PySem.W.kitOne K (.ref a.au) (.ref a.au) = some true
 gg : PySem.W.kitOne K (.ref a.au) (.ref a.ay) = some false
 d3 : PySem.W.kitOne K (.ref a.au) (.ref a.ag) = some false
 jr : mg "Behind" = some (.ref a.ah)
 aA : lq K a.ah
 bK : aJ K a.ah "many"
 cg : aJ K a.ah "start"
 cE : aJ K a.ah "gap"
 bw : aJ K a.ah "wide"
 tq : Mk K a.ah a.aQ
 gG : Meth K a.ah "gap_ahead" a.bt
 gQ : Meth K a.ah "begin" a.bj
 fM : Meth K a.ah "follow" a.aZ
 fG : Meth K a.ah "let_by" a.bM
 nK : Meth K a.ah "leap" a.bG
 gT : Meth K a.ah "words" a.b9
 eY : Meth K a.ah "place_of" a.az
 uc : sG K a.ah
 dE : PySem.W.kitOne K (.ref a.ah) (.ref a.ah) = some true
 eO : PySem.W.kitOne K (.ref a.ah) (.ref a.au) = some false
 eX : PySem.W.kitOne K (.ref a.ah) (.ref a.ay) = some false
 dq : PySem.W.kitOne K (.ref a.ah) (.ref a.ag) = some false
 jU : mg "Slowing" = some (.ref a.ag)
 aw : lq K a.ag
 bB : aJ K a.ag "many"
 bY : aJ K a.ag "start"
 cM : aJ K a.ag "gap"
 bq : aJ K a.ag "wide"
 bQ : aJ K a.ag "most"
 qA : Mk K a.ag a.bu
 dS : Meth K a.ag "gap_ahead" a.bb
 fh : Meth K a.ag "let_by" a.bD
 fI : Meth K a.ag "words" a.bS
 f6 : Meth K a.ag "begin" a.bj
 fm : Meth K a.ag "follow" a.aZ
 k7 : Meth K a.ag "leap" a.bG
 eu : Meth K a.ag "place_of" a.az
 rZ : sG K a.ag
 dn : PySem.W.kitOne K (.ref a.ag) (.ref a.ah) = some true
 d9 : PySem.W.kitOne K (.ref a.ag) (.ref a.au) = some false
 d8 : PySem.W.kitOne K (.ref a.ag) (.ref a.ay) = some false
 cT : PySem.W.kitOne K (.ref a.ag) (.ref a.ag) = some true
 iC : wB K a.ah "__init__" a.aQ
 ef : wB K a.iT "__init__" a.aT
 sq : mg "FIGURES" = some (.str "0123456789" a.ib)
 kN : mg "MOST_FIGURES" = some (.int 60 a.dG)
 ku : mg "LENGTHS" = some (.ref a.cL)
 uY : mg "all" = none
 rD : mg "bool" = none
 sf : mg "int" = none
 bh : mg "isinstance" = none
 qy : mg "len" = none
 uJ : mg "max" = none
 rV : mg "min" = none
 pz : mg "range" = none
 cZ : mg "str" = none
theorem E1 {K : PySem.W.Frag} {h : Heap} {mg : Str -> Option Value} {c5 eB a6 cj ez fA aT az bN bZ cU cH cC cX bO b4 aR c6 cI cB c0 aQ bC bt bj aZ bM bG b9 bu bz bb bD bS fC cO cA cQ ck cR cP bH bX cS cq cn cx mZ iT ay au ah ag cL : Addr} {c4 cm cb ib dG : Tok}  (X : K.In h) (G : h.Ns mainGlobals mg)
 (DJ : PySem.W.nsIn K mainGlobals "Rule" = some (some (.ref iT)))
 (C1 : PySem.W.nsIn K mainGlobals "Once" = some (some (.ref ay)))
 (CG : PySem.W.nsIn K mainGlobals "Each" = some (some (.ref au)))
 (z8 : PySem.W.nsIn K mainGlobals "Behind" = some (some (.ref ah)))
 (xa : PySem.W.nsIn K mainGlobals "Slowing" = some (some (.ref ag)))
 (JE : PySem.W.specialIn K (.builtin "object.__class__") "__get__" = some (some (.builtin "getset_descriptor.__get__")))
 (Ji : PySem.W.takesIn K (.builtin "object.__class__") = some true)
 (kg : jt K "is_whole" "is_whole" nS (.none) c5)
 (me : jt K "figures" "figures" qi (.none) eB)
 (gj : jt K "check_from" "check_from" j6 (.none) a6)
 (gD : jt K "spans_over" "spans_over" jT (.none) cj)
 (lV : jt K "word_of" "word_of" qt (.none) ez)
 (oH : jt K "row_of" "row_of" oI (.none) fA)
 (fZ : gq K iT "__init__" "Rule.__init__" fP (.none) aT)
 (bA : gq K iT "place_of" "Rule.place_of" fY (.none) az)
 (d6 : gq K ay "__init__" "Once.__init__" fX (.ref bZ) bN)
 (rg : uV K bZ #[.none])
 (eM : gq K ay "begin" "Once.begin" ke (.none) cU)
 (dX : gq K ay "follow" "Once.follow" i7 (.none) cH)
 (d0 : gq K ay "let_by" "Once.let_by" iQ (.none) cC)
 (eR : gq K ay "words" "Once.words" jI (.none) cX)
 (d7 : gq K au "__init__" "Each.__init__" fU (.ref b4) bO)
 (rk : uV K b4 #[(.int 0 c4), .none])
 (cy : gq K au "stretch_of" "Each.stretch_of" eT (.none) aR)
 (eF : gq K au "begin" "Each.begin" jX (.none) c6)
 (dW : gq K au "follow" "Each.follow" iH (.none) cI)
 (dY : gq K au "let_by" "Each.let_by" iN (.none) cB)
 (eJ : gq K au "words" "Each.words" jQ (.none) c0)
 (cw : gq K ah "__init__" "Behind.__init__" eI (.ref bC) aQ)
 (oo : uV K bC #[(.int 0 cm), .none])
 (b6 : gq K ah "gap_ahead" "Behind.gap_ahead" eo (.none) bt)
 (b8 : gq K ah "begin" "Behind.begin" gO (.none) bj)
 (bR : gq K ah "follow" "Behind.follow" fL (.none) aZ)
 (da : gq K ah "let_by" "Behind.let_by" fJ (.none) bM)
 (cD : gq K ah "leap" "Behind.leap" iJ (.none) bG)
 (dA : gq K ah "words" "Behind.words" g8 (.none) b9)
 (cW : gq K ag "__init__" "Slowing.__init__" et (.ref bz) bu)
 (n5 : uV K bz #[(.int 0 cb), .none])
 (bT : gq K ag "gap_ahead" "Slowing.gap_ahead" dQ (.none) bb)
 (cN : gq K ag "let_by" "Slowing.let_by" fk (.none) bD)
 (c9 : gq K ag "words" "Slowing.words" fW (.none) bS)
 (pS : jt K "demand" "demand" tj (.none) fC)
 (ic : jt K "is_number" "is_number" iq (.none) cO)
 (gm : jt K "read_whole" "read_whole" jE (.none) cA)
 (ia : jt K "read_many" "read_many" lG (.none) cQ)
 (gB : jt K "split_rule" "split_rule" eC (.none) ck)
 (ie : jt K "make_rule" "make_rule" lh (.none) cR)
 (iE : jt K "read_rule" "read_rule" kZ (.none) cP)
 (eE : jt K "_law_cell_at" "_law_cell_at" gR (.none) bH)
 (fv : jt K "_law_number" "_law_number" iP (.none) bX)
 (ik : jt K "_law_rule" "_law_rule" lI (.none) cS)
 (gw : jt K "_law_words" "_law_words" kh (.none) cq)
 (gf : jt K "_law_kinds" "_law_kinds" kl (.none) cn)
 (gC : jt K "_law_alike" "_law_alike" ki (.none) cx)
 (Bk : jt K "law" "law" Bx (.none) mZ)
 (aS : C4 K ay)
 (eQ : PySem.W.findIn K (.ref ay) "many" = some none)
 (dh : PySem.W.findIn K (.ref ay) "first" = some none)
 (dI : PySem.W.findIn K (.ref ay) "last" = some none)
 (DF : PySem.W.makesIn K ay = true)
 (Cz : PySem.W.keepIn K (.ref ay) = true)
 (eU : PySem.W.mroIn K ay (.ref ah) = some false)
 (sC : (ay == ah) = false)
 (gv : PySem.W.mroIn K ay (.ref au) = some false)
 (ve : (ay == au) = false)
 (gy : PySem.W.mroIn K ay (.ref ay) = some true)
 (d5 : PySem.W.mroIn K ay (.ref ag) = some false)
 (qZ : (ay == ag) = false)
 (aG : C4 K au)
 (cu : PySem.W.findIn K (.ref au) "many" = some none)
 (dj : PySem.W.findIn K (.ref au) "start" = some none)
 (cY : PySem.W.findIn K (.ref au) "step" = some none)
 (dJ : PySem.W.findIn K (.ref au) "wide" = some none)
 (Ce : PySem.W.makesIn K au = true)
 (Cy : PySem.W.keepIn K (.ref au) = true)
 (qh : PySem.W.findIn K (.ref au) "place_of" = some (some (.ref az)))
 (eG : PySem.W.mroIn K au (.ref ah) = some false)
 (sP : (au == ah) = false)
 (gk : PySem.W.mroIn K au (.ref au) = some true)
 (gg : PySem.W.mroIn K au (.ref ay) = some false)
 (vi : (au == ay) = false)
 (d3 : PySem.W.mroIn K au (.ref ag) = some false)
 (q9 : (au == ag) = false)
 (aA : C4 K ah)
 (bK : PySem.W.findIn K (.ref ah) "many" = some none)
 (cg : PySem.W.findIn K (.ref ah) "start" = some none)
 (cE : PySem.W.findIn K (.ref ah) "gap" = some none)
 (bw : PySem.W.findIn K (.ref ah) "wide" = some none)
 (zo : PySem.W.makesIn K ah = true)
 (zr : PySem.W.keepIn K (.ref ah) = true)
 (nZ : PySem.W.findIn K (.ref ah) "place_of" = some (some (.ref az)))
 (dE : PySem.W.mroIn K ah (.ref ah) = some true)
 (eO : PySem.W.mroIn K ah (.ref au) = some false)
 (sj : (ah == au) = false)
 (eX : PySem.W.mroIn K ah (.ref ay) = some false)
 (sO : (ah == ay) = false)
 (dq : PySem.W.mroIn K ah (.ref ag) = some false)
 (oi : (ah == ag) = false)
 (aw : C4 K ag)
 (bB : PySem.W.findIn K (.ref ag) "many" = some none)
 (bY : PySem.W.findIn K (.ref ag) "start" = some none)
 (cM : PySem.W.findIn K (.ref ag) "gap" = some none)
 (bq : PySem.W.findIn K (.ref ag) "wide" = some none)
 (bQ : PySem.W.findIn K (.ref ag) "most" = some none)
 (xD : PySem.W.makesIn K ag = true)
 (yd : PySem.W.keepIn K (.ref ag) = true)
 (qx : PySem.W.findIn K (.ref ag) "begin" = some (some (.ref bj)))
 (pQ : PySem.W.findIn K (.ref ag) "follow" = some (some (.ref aZ)))
 (ri : PySem.W.findIn K (.ref ag) "leap" = some (some (.ref bG)))
 (mj : PySem.W.findIn K (.ref ag) "place_of" = some (some (.ref az)))
 (dn : PySem.W.mroIn K ag (.ref ah) = some true)
 (d9 : PySem.W.mroIn K ag (.ref au) = some false)
 (rq : (ag == au) = false)
 (d8 : PySem.W.mroIn K ag (.ref ay) = some false)
 (rp : (ag == ay) = false)
 (cT : PySem.W.mroIn K ag (.ref ag) = some true)
 (n8 : PySem.W.specialIn K (.ref ah) "__getattribute__" = some (some (.builtin "type.__getattribute__")))
 (nO : PySem.W.readsIn K ah (.type "type") = true)
 (nN : PySem.W.findCls K (.ref ah) (.type "type") "__init__" = some (.val (.ref aQ)))
 (qe : PySem.W.specialIn K (.ref iT) "__getattribute__" = some (some (.builtin "type.__getattribute__")))
 (p5 : PySem.W.readsIn K iT (.type "type") = true)
 (qC : PySem.W.findCls K (.ref iT) (.type "type") "__init__" = some (.val (.ref aT)))
 (xQ : PySem.W.nsIn K mainGlobals "FIGURES" = some (some (.str "0123456789" ib)))
 (rn : PySem.W.nsIn K mainGlobals "MOST_FIGURES" = some (some (.int 60 dG)))
 (xS : PySem.W.nsIn K mainGlobals "LENGTHS" = some (some (.ref cL)))
 (uY : PySem.W.nsIn K mainGlobals "all" = some none)
 (rD : PySem.W.nsIn K mainGlobals "bool" = some none)
 (sf : PySem.W.nsIn K mainGlobals "int" = some none)
 (bh : PySem.W.nsIn K mainGlobals "isinstance" = some none)
 (qy : PySem.W.nsIn K mainGlobals "len" = some none)
 (uJ : PySem.W.nsIn K mainGlobals "max" = some none)
 (rV : PySem.W.nsIn K mainGlobals "min" = some none)
 (pz : PySem.W.nsIn K mainGlobals "range" = some none)
 (cZ : PySem.W.nsIn K mainGlobals "str" = some none)
 : ∃ a : Ad, a.mZ = a.mZ /\ Txt K mg a :=
 ⟨⟨c5, kg.l.choose, eB, me.l.choose, a6, gj.l.choose, cj, gD.l.choose, ez, lV.l.choose, fA, oH.l.choose, aT, fZ.l.choose, az, bA.l.choose, bN, d6.l.choose, bZ, cU, eM.l.choose, cH, dX.l.choose, cC, d0.l.choose, cX, eR.l.choose, bO, d7.l.choose, b4, c4, aR, cy.l.choose, c6, eF.l.choose, cI, dW.l.choose, cB, dY.l.choose, c0, eJ.l.choose, aQ, cw.l.choose, bC, cm, bt, b6.l.choose, bj, b8.l.choose, aZ, bR.l.choose, bM, da.l.choose, bG, cD.l.choose, b9, dA.l.choose, bu, cW.l.choose, bz, cb, bb, bT.l.choose, bD, cN.l.choose, bS, c9.l.choose, fC, pS.l.choose, cO, ic.l.choose, cA, gm.l.choose, cQ, ia.l.choose, ck, gB.l.choose, cR, ie.l.choose, cP, iE.l.choose, bH, eE.l.choose, bX, fv.l.choose, cS, ik.l.choose, cq, gw.l.choose, cn, gf.l.choose, cx, gC.l.choose, mZ, Bk.l.choose, iT, ay, au, ah, ag, ib, dG, cL⟩, rfl, {
   n6 := kg.l.choose_spec,
   qQ := kg.k,
   qY := PySem.W.mg_of X G kg.a,
   qj := me.l.choose_spec,
   sR := me.k,
   sk := PySem.W.mg_of X G me.a,
   km := gj.l.choose_spec,
   bp := gj.k,
   bo := PySem.W.mg_of X G gj.a,
   jY := gD.l.choose_spec,
   iV := gD.k,
   iM := PySem.W.mg_of X G gD.a,
   qD := lV.l.choose_spec,
   sD := lV.k,
   r9 := PySem.W.mg_of X G lV.a,
   sy := oH.l.choose_spec,
   ja := oH.k,
   jw := PySem.W.mg_of X G oH.a,
   fH := fZ.l.choose_spec,
   fV := bA.l.choose_spec,
   fK := d6.l.choose_spec,
   kB := rg,
   jJ := eM.l.choose_spec,
   iL := dX.l.choose_spec,
   iX := d0.l.choose_spec,
   ky := eR.l.choose_spec,
   fN := d7.l.choose_spec,
   kE := rk,
   eP := cy.l.choose_spec,
   ko := eF.l.choose_spec,
   i9 := dW.l.choose_spec,
   iZ := dY.l.choose_spec,
   jK := eJ.l.choose_spec,
   eN := cw.l.choose_spec,
   iD := oo,
   eh := b6.l.choose_spec,
   eS := b8.l.choose_spec,
   ec := bR.l.choose_spec,
   fQ := da.l.choose_spec,
   iY := cD.l.choose_spec,
   gH := dA.l.choose_spec,
   ej := cW.l.choose_spec,
   gJ := n5,
   dO := bT.l.choose_spec,
   fe := cN.l.choose_spec,
   fO := c9.l.choose_spec,
   se := pS.l.choose_spec,
   lW := pS.k,
   l0 := PySem.W.mg_of X G pS.a,
   lT := ic.l.choose_spec,
   ph := ic.k,
   pJ := PySem.W.mg_of X G ic.a,
   jD := gm.l.choose_spec,
   fy := gm.k,
   fu := PySem.W.mg_of X G gm.a,
   lB := ia.l.choose_spec,
   o8 := ia.k,
   pe := PySem.W.mg_of X G ia.a,
   kr := gB.l.choose_spec,
   mW := gB.k,
   mN := PySem.W.mg_of X G gB.a,
   lR := ie.l.choose_spec,
   pV := ie.k,
   pw := PySem.W.mg_of X G ie.a,
   lg := iE.l.choose_spec,
   oj := iE.k,
   oY := PySem.W.mg_of X G iE.a,
   gK := eE.l.choose_spec,
   aE := eE.k,
   aD := PySem.W.mg_of X G eE.a,
   iR := fv.l.choose_spec,
   aL := fv.k,
   aI := PySem.W.mg_of X G fv.a,
   lH := ik.l.choose_spec,
   px := ik.k,
   pF := PySem.W.mg_of X G ik.a,
   jH := gw.l.choose_spec,
   my := gw.k,
   mx := PySem.W.mg_of X G gw.a,
   j9 := gf.l.choose_spec,
   mO := gf.k,
   nh := PySem.W.mg_of X G gf.a,
   j0 := gC.l.choose_spec,
   nB := gC.k,
   mI := PySem.W.mg_of X G gC.a,
   AK := Bk.l.choose_spec,
   BA := PySem.W.mg_of X G Bk.a,
   rG := PySem.W.mg_of X G DJ,
   rB := PySem.W.mg_of X G C1,
   aS := ⟨aS.pg, aS.hd, aS.po, aS.sa⟩,
   eQ := eQ,
   dh := dh,
   dI := dI,
   xx := ⟨DF, d6.a, d6.i, Cz⟩,
   jS := ⟨eM.a, eM.i, eM.k⟩,
   iU := ⟨dX.a, dX.i, dX.k⟩,
   iG := ⟨d0.a, d0.i, d0.k⟩,
   kc := ⟨eR.a, eR.i, eR.k⟩,
   yq := ⟨aS.t1, JE, Ji, aS.t2⟩,
   eU := eL aA.t2 aA.t3 eU sC,
   gv := eL aG.t2 aG.t3 gv ve,
   gy := lX aS.t2 aS.t3 gy,
   d5 := eL aw.t2 aw.t3 d5 qZ,
   rJ := PySem.W.mg_of X G CG,
   aG := ⟨aG.pg, aG.hd, aG.po, aG.sa⟩,
   cu := cu,
   dj := dj,
   cY := cY,
   dJ := dJ,
   wV := ⟨Ce, d7.a, d7.i, Cy⟩,
   dk := ⟨cy.a, cy.i, cy.k⟩,
   jP := ⟨eF.a, eF.i, eF.k⟩,
   i5 := ⟨dW.a, dW.i, dW.k⟩,
   iK := ⟨dY.a, dY.i, dY.k⟩,
   ka := ⟨eJ.a, eJ.i, eJ.k⟩,
   fT := ⟨qh, bA.i, bA.k⟩,
   yp := ⟨aG.t1, JE, Ji, aG.t2⟩,
   eG := eL aA.t2 aA.t3 eG sP,
   gk := lX aG.t2 aG.t3 gk,
   gg := eL aS.t2 aS.t3 gg vi,
   d3 := eL aw.t2 aw.t3 d3 q9,
   jr := PySem.W.mg_of X G z8,
   aA := ⟨aA.pg, aA.hd, aA.po, aA.sa⟩,
   bK := bK,
   cg := cg,
   cE := cE,
   bw := bw,
   tq := ⟨zo, cw.a, cw.i, zr⟩,
   gG := ⟨b6.a, b6.i, b6.k⟩,
   gQ := ⟨b8.a, b8.i, b8.k⟩,
   fM := ⟨bR.a, bR.i, bR.k⟩,
   fG := ⟨da.a, da.i, da.k⟩,
   nK := ⟨cD.a, cD.i, cD.k⟩,
   gT := ⟨dA.a, dA.i, dA.k⟩,
   eY := ⟨nZ, bA.i, bA.k⟩,
   uc := ⟨aA.t1, JE, Ji, aA.t2⟩,
   dE := lX aA.t2 aA.t3 dE,
   eO := eL aG.t2 aG.t3 eO sj,
   eX := eL aS.t2 aS.t3 eX sO,
   dq := eL aw.t2 aw.t3 dq oi,
   jU := PySem.W.mg_of X G xa,
   aw := ⟨aw.pg, aw.hd, aw.po, aw.sa⟩,
   bB := bB,
   bY := bY,
   cM := cM,
   bq := bq,
   bQ := bQ,
   qA := ⟨xD, cW.a, cW.i, yd⟩,
   dS := ⟨bT.a, bT.i, bT.k⟩,
   fh := ⟨cN.a, cN.i, cN.k⟩,
   fI := ⟨c9.a, c9.i, c9.k⟩,
   f6 := ⟨qx, b8.i, b8.k⟩,
   fm := ⟨pQ, bR.i, bR.k⟩,
   k7 := ⟨ri, cD.i, cD.k⟩,
   eu := ⟨mj, bA.i, bA.k⟩,
   rZ := ⟨aw.t1, JE, Ji, aw.t2⟩,
   dn := lX aA.t2 aA.t3 dn,
   d9 := eL aG.t2 aG.t3 d9 rq,
   d8 := eL aS.t2 aS.t3 d8 rp,
   cT := lX aw.t2 aw.t3 cT,
   iC := ⟨n8, nO, nN, cw.k⟩,
   ef := ⟨qe, p5, qC, fZ.k⟩,
   sq := PySem.W.mg_of X G xQ,
   kN := PySem.W.mg_of X G rn,
   ku := PySem.W.mg_of X G xS,
   uY := PySem.W.mg_none_of X G uY,
   rD := PySem.W.mg_none_of X G rD,
   sf := PySem.W.mg_none_of X G sf,
   bh := PySem.W.mg_none_of X G bh,
   qy := PySem.W.mg_none_of X G qy,
   uJ := PySem.W.mg_none_of X G uJ,
   rV := PySem.W.mg_none_of X G rV,
   pz := PySem.W.mg_none_of X G pz,
   cZ := PySem.W.mg_none_of X G cZ
 }⟩
def oG : Sp := fun vs H Q _ => ∃ v d, vs = [v] /\ Dv H v d /\ Q (.bl (isInt d && !isBool d)) H
theorem B9 {H : Hp} {Q : VK} {E : XK} {v : V} {d : PyData} (h : Dv H v d) (q : Q (.bl (isInt d && !isBool d)) H) : oG [v] H Q E := ⟨v, d, rfl, h, q⟩
def fE : Sp := fun vs H Q _ => ∃ n l x, vs = [.int n, .int l, .str x] /\ l <= n /\ Q .cf H
theorem Ck {H : Hp} {Q : VK} {E : XK} {n l : Int} {x : Str} (h : l <= n) (q : Q .cf H) : fE [.int n, .int l, .str x] H Q E := ⟨n, l, x, rfl, h, q⟩
def dM (C : Addr) : Sp := fun vs H Q _ => ∃ p dx m, vs = [.ref p, m] /\ uq m /\ H p = some (.ins C dx []) /\ Q .cf (upd H p (.ins C dx [("many", m)]))
theorem wH {C p dx : Addr} {H : Hp} {Q : VK} {E : XK} {m : V} (hm : uq m) (hp : H p = some (.ins C dx [])) (q : Q .cf (upd H p (.ins C dx [("many", m)]))) : dM C [.ref p, m] H Q E := ⟨p, dx, m, rfl, hm, hp, q⟩
def xn : Sp := fun vs H Q _ => ∃ i, vs = [.int i] /\ ∀ n, n = num i -> 0 <= n -> n < 10 ^ 39 -> Q (.int n) H
theorem IQ {H : Hp} {Q : VK} {E : XK} {i : Int} (q : ∀ n, n = num i -> 0 <= n -> n < 10 ^ 39 -> Q (.int n) H) : xn [.int i] H Q E := ⟨i, rfl, q⟩
def dB (C : Addr) : Sp := fun vs H Q _ => ∃ v fs m n x d, vs = [v, .int n, x] /\ uq m /\ eZ H v C fs /\ fs.lookup ("many" : Str) = some m /\ Dv H x d /\ ∀ v' H', av H H' -> Dv H' v' (.tuple [.int (oy m n), gi m n d]) -> Q v' H'
theorem xU {C : Addr} {H : Hp} {Q : VK} {E : XK} {v x : V} {fs : List (Str × V)} {d : PyData} {m : V} {n : Int} (ho : uq m) (hp : eZ H v C fs) (hm : fs.lookup ("many" : Str) = some m) (hd : Dv H x d) (q : ∀ v' H', av H H' -> Dv H' v' (.tuple [.int (oy m n), gi m n d]) -> Q v' H') : dB C [v, .int n, x] H Q E := ⟨v, fs, m, n, x, d, rfl, ho, hp, hm, hd, q⟩
def AU (K : PySem.W.Frag) : Sp := fun vs H Q _ => ∃ (l : Addr) (ns : List Int), vs = [.ref l] /\ i6 K H l (ns.map V.int) /\ ns.length <= 63 /\ ∀ H', Q (.bl true) H'
set_option hygiene false in
local macro_rules | `(tactic| walk_at "bd") => `(tactic| first
 | assumption
 | exact ⟨by omega, by omega⟩)
set_option hygiene false in
local macro_rules | `(tactic| walk_at "mok") => `(tactic| first
 | assumption
 | exact Or.inl rfl
 | exact Or.inr ⟨_, rfl, by omega⟩)
local macro_rules | `(tactic| walk_at "use") => `(tactic| first
 | ((with_reducible refine' B9 ?e ?_); case e => walk_at "dat")
 | ((with_reducible refine' Ck ?e ?_); case e => walk_at "side")
 | ((with_reducible refine' wH ?e1 ?e2 ?_); (case e1 => walk_at "mok"); (case e2 => walk_at "at"))
 | ((with_reducible refine' Ga ?e1 ?e2 ?_); (case e1 => walk_at "sql"); (case e2 => omega))
 | with_reducible refine IQ (fun _ _ _ _ => ?_)
 | ((with_reducible refine' xU ?e0 ?e1 ?e2 ?e3 (fun _ _ _ _ => ?_)); (case e1 => walk_at "ins"); (case e2 => walk_at "lk"); (case e0 => walk_at "mok"); (case e3 => walk_at "dat")))
section
variable {P : Program} {w : World} {K : PySem.W.Frag} {mg : Str -> Option Value} {base : Heap} {a : Ad}
theorem wA (T : Txt K mg a) : aV P w K mg base gs 1 a.c5 a.qT ["thing"] oG := by
 refine T.n6.ok vG (fun vs H Q E h => ?_) (fun dw A outer s H vs Q E hr h => ?_)
 . obtain ⟨_, _, rfl, _⟩ := h; rfl
 . obtain ⟨v, d, rfl, hd, k⟩ := h
   refine ⟨_, (ak (aF (ye (b7 fF rfl T.bh PyProof.Rows.boot_isinstance (ae (pv 0) (ae (rM (v := .ty "int") rfl T.sf PyProof.Rows.boot_int rfl) af))) (vb (FV (b7 fF rfl T.bh PyProof.Rows.boot_isinstance (ae (pv 0) (ae (rM (v := .ty "bool") rfl T.rD PyProof.Rows.boot_bool rfl) af)))))))), ?_⟩
   repeat' (walk_at "rd1")
   . refine HJ ?_; cases d <;> simp_all [isInt, isBool]
   . refine HJ ?_; cases d <;> simp_all [isInt, isBool]
theorem u9 (T : Txt K mg a) : dt P w K mg base 1 a.c5 ["thing"] [] oG :=
 ⟨⟨_, _, wA T, T.n6.binds fun _ _ _ _ _ _ => .all fun us hl => match us, hl with | [_], _ => rfl, .nil⟩⟩
theorem tI (T : Txt K mg a) : aV P w K mg base gs 2 a.a6 a.mn ["number", "least", "what"] fE := by
 have yb : dt P w K mg base 1 a.c5 ["thing"] [] oG := u9 T
 refine T.km.ok tW (fun vs H Q E h => ?_) (fun dw A outer s H vs Q E hr h => ?_)
 . obtain ⟨_, _, _, rfl, _⟩ := h; rfl
 . obtain ⟨n, l, x, rfl, hl, k⟩ := h
   refine ⟨_, (ak (cK (PW.pt (yG (rT (je (aq yb (hr.mono (by decide)) rfl T.qY T.qQ (ae (pv 0) af)) (fun _ => rfl))) (uU (aK vO (pv 0) (pv 1) (aO _)))))
    (ak lu)
    aW)), ?_⟩
   repeat' (walk_at "rd1")
   exact k
theorem dz (T : Txt K mg a) : dt P w K mg base 2 a.a6 ["number", "least", "what"] [] fE :=
 ⟨⟨_, _, tI T, T.km.binds fun _ _ _ _ _ _ => .all fun us hl => match us, hl with | [_, _, _], _ => rfl, .nil⟩⟩
theorem uH {C : Addr} (T : Txt K mg a) (cl : lq K C) (na : aJ K C "many") : aV P w K mg base gs 3 a.aT a.jm ["self", "many"] (dM C) := by
 have aU : dt P w K mg base 2 a.a6 ["number", "least", "what"] [] fE := dz T
 refine T.fH.ok qf (fun vs H Q E h => ?_) (fun dw A outer s H vs Q E hr h => ?_)
 . obtain ⟨_, _, _, rfl, _⟩ := h; rfl
 . obtain ⟨p, dx, m, rfl, hm, hp, k⟩ := h
   refine ⟨_, (aj (cK (aK vd (pv 1) iS (aO _))
    (ak (bV (aq aU (hr.mono (by decide)) rfl T.bo T.bp (ae (pv 1) (ae ai (ae aP af))))))
    aW)
    (ak (iI (pv 0) (pv 1) rfl))), ?_⟩
   rcases hm with rfl | ⟨i, rfl, hi⟩
   . repeat' (walk_at "rd1")
     exact k
   . repeat' (walk_at "rd1")
     exact k
theorem iO {C : Addr} (T : Txt K mg a) (cl : lq K C) (na : aJ K C "many") : dt P w K mg base 3 a.aT ["self", "many"] [] (dM C) :=
 ⟨⟨_, _, uH T cl na, T.fH.binds fun _ _ _ _ _ _ => .all fun us hl => match us, hl with | [_, _], _ => rfl, .nil⟩⟩
theorem sv (T : Txt K mg a) : aV P w K mg base gs 1 a.bH a.kG ["_law_script", "_law_k"] (xf K) := by
 refine T.gK.ok ro (fun vs H Q E h => ?_) (fun dw A outer s H vs Q E hr h => ?_)
 . obtain ⟨_, _, _, rfl, _⟩ := h; rfl
 . obtain ⟨l, ns, i, rfl, hl, h0, k⟩ := h
   refine ⟨_, (aj (cK (aK vO (pv 1) (b7 qv rfl T.qy PySem.boot_len (ae (pv 0) af)) (aO _))
    (ak (aF (dN hJ (pv 0) (pv 1) (fun _ _ => rfl))))
    aW)
    (ak (aF ai))), ?_⟩
   repeat' (walk_at "rd1")
   . exact Hl hl (B4 h0 (by assumption)) k
   . rw [CJ h0 (by assumption)] at k; exact k
theorem eg (T : Txt K mg a) : dt P w K mg base 1 a.bH ["_law_script", "_law_k"] [] (xf K) :=
 ⟨⟨_, _, sv T, T.gK.binds fun _ _ _ _ _ _ => .all fun us hl => match us, hl with | [_, _], _ => rfl, .nil⟩⟩
theorem tY (T : Txt K mg a) : aV P w K mg base gs 1 a.bX a.lQ ["_law_cell"] xn := by
 refine T.iR.ok sI (fun vs H Q E h => ?_) (fun dw A outer s H vs Q E hr h => ?_)
 . obtain ⟨i, rfl, _⟩ := h; rfl
 . obtain ⟨i, rfl, k⟩ := h
   refine ⟨_, (aj (cK (aK (cF hr.qw) (ax eK (pv 0) ai) ai (aO _))
    (ak (aF (ax eK (ax gZ (pv 0) ai) ai)))
    aW)
    (aj (cK (aK (cF hr.qw) (ax eK (pv 0) ai) ai (aO _))
     (ak (aF (ax eK (ax gZ (pv 0) ai) ai)))
     aW)
    (ak (aF (ax eK (ax gZ (pv 0) ai) (ax Aj ai ai)))))), ?_⟩
   repeat' (walk_at "rd1")
   all_goals (refine k _ ?_ ?_ ?_)
   all_goals (first | omega | (simp only [num]; split <;> first | rfl | omega) | exact Int.emod_nonneg _ (by decide) | exact Int.emod_lt_of_pos _ (by decide) | (simp only [num]; split; omega; split; omega; rfl))
theorem g7 (T : Txt K mg a) : dt P w K mg base 1 a.bX ["_law_cell"] [] xn :=
 ⟨⟨_, _, tY T, T.iR.binds fun _ _ _ _ _ _ => .all fun us hl => match us, hl with | [_], _ => rfl, .nil⟩⟩
theorem yZ (T : Txt K mg a) (s : Shared) (u : Value) : BindsTo s a.va ⟨[u], []⟩ [("_law_script", u)] := by
 obtain ⟨oc, od, kV, doc, pm, an, dw, ct, Bv, e, lk, Ac⟩ := T.AK.ex
 rw [e]
 exact .of_eq rfl
theorem wD {C : Addr} (T : Txt K mg a) (cl : lq K C) (na : aJ K C "many") : aV P w K mg base gs 1 a.az a.js ["self", "number", "stretch"] (dB C) := by
 refine T.fV.ok qq (fun vs H Q E h => ?_) (fun dw A outer s H vs Q E hr h => ?_)
 . obtain ⟨_, _, _, _, _, _, rfl, _⟩ := h; rfl
 . obtain ⟨v, fs, m, n, x, d, rfl, ho, hp, hm, hd, k⟩ := h
   refine ⟨_, (aj (cK (PW.pt (xJ (aK vd (aH (pv 0) rfl) iS (aO _)) (vt (aK yk (pv 1) (aH (pv 0) rfl) (aO _)))))
    (ak (aF (fx (ae (aH (pv 0) rfl) (ae iS af)))))
    aW)
    (ak (aF (fx (ae (pv 1) (ae (pv 2) af)))))), ?_⟩
   rcases ho with rfl | ⟨i, rfl, hi⟩
   . repeat' (walk_at "rd1")
     (refine k _ _ ?_ ?_; walk_at "same"; walk_at "dat")
   . repeat' (walk_at "rd1")
     . rename_i hb _ _ _ _
       rw [CD hb, Cb hb] at k
       (refine k _ _ ?_ ?_; walk_at "same"; walk_at "dat")
     . rename_i hb _ _ _ _
       rw [Dk hb, De hb] at k
       (refine k _ _ ?_ ?_; walk_at "same"; walk_at "dat")
theorem gu {C : Addr} (T : Txt K mg a) (cl : lq K C) (na : aJ K C "many") : dt P w K mg base 1 a.az ["self", "number", "stretch"] [] (dB C) :=
 ⟨⟨_, _, wD T cl na, T.fV.binds fun _ _ _ _ _ _ => .all fun us hl => match us, hl with | [_, _, _], _ => rfl, .nil⟩⟩
def dr (n : Int) : Str := (toString n : String)
theorem lP {n : Int} (h0 : 0 <= n) (h : n < 10 ^ 64) : (dr n).length <= 65 := by
 have e : (toString n).length <= 64 + 1 := PySem.int_text_length_le10 (by decide) (by omega)
 have : (dr n).length = (toString n).length := PySem.ofString_length _
 omega
def w6 : Sp := fun vs H Q _ => ∃ n, vs = [.int n] /\ 0 <= n /\ n < 10 ^ 64 /\ ∀ H', av H H' -> Q (.str (dr n)) H'
theorem Ip {H : Hp} {Q : VK} {E : XK} {n : Int} (h0 : 0 <= n) (h1 : n < 10 ^ 64) (q : ∀ H', av H H' -> Q (.str (dr n)) H') : w6 [.int n] H Q E := ⟨n, rfl, h0, h1, q⟩
theorem w9 (T : Txt K mg a) : aV P w K mg base gs 1 a.eB a.sN ["number"] w6 := by
 refine T.qj.ok jZ (fun vs H Q E h => ?_) (fun dw A outer s H vs Q E hr h => ?_)
 . obtain ⟨_, rfl, _⟩ := h; rfl
 . obtain ⟨n, rfl, h0, h1, q⟩ := h
   have MX := lP h0 h1
   refine ⟨_, (aj (cK (aK vO (pv 0) ai (aO _))
    (ak lu)
    aW)
    (aj (aM (i := 1) jZ.nd rfl (Or.inl rfl) (ax Aj ai ai))
    (aj (aM (i := 2) jZ.nd rfl (Or.inl rfl) (fw af))
    (aj (rY PassesOwn.never (aK yk (pv 0) (pv 1) (aO _))
     (aj lu
     (ak (aM (i := 0) jZ.nd rfl (Or.inl rfl) (ax gZ (pv 0) (pv 1))))))
    (aj (bV (vU PySem.F.plainAttrs_list PySem.F.slot_list_append PySem.F.type_list_append z5 (pv 2) (ae (bE bL rfl T.cZ PyProof.Rows.boot_str (ae (pv 0) af)) af)))
    (aj (bV (GF PySem.F.plainAttrs_list PySem.F.slot_list_reverse PySem.F.type_list_reverse xR (pv 2)))
    (ak (aF (vU PySem.F.plainAttrs_str PySem.F.slot_str_join PySem.F.type_str_join yR aP (ae (pv 2) af)))))))))), ?_⟩
   repeat' (walk_at "rd1")
   rename_i p H1 MG MB LC
   refine uD (fun m σ' H' => σ' = [some (.int n), some (.int (10 ^ 64)), some (.ref p)] /\ H' = H1) ⟨0, rfl, rfl⟩ ?_
   rintro m σ' H' ⟨rfl, rfl⟩
   repeat' (walk_at "rd1")
   rename_i H4 m4 l4 H5 m5 l5
   refine wZ (ss := [dr n]) (kQ.dv l5) ?_ ?_
   . have e0 : (Str.ofString "").length = 0 := by decide
     simp only [List.map_cons, List.map_nil, List.sum_cons, List.sum_nil, List.length_cons, List.length_nil, e0]
     omega
   . have e : Txt.join (Str.ofString "") [dr n] = dr n := rfl
     rw [e]
     exact q _ (by walk_at "same")
theorem vV (T : Txt K mg a) : dt P w K mg base 1 a.eB ["number"] [] w6 :=
 ⟨⟨_, _, w9 T, T.qj.binds fun _ _ _ _ _ _ => .all fun us hl => match us, hl with | [_], _ => rfl, .nil⟩⟩
def dy : PyData -> Str
 | .int n => dr n
 | _ => "ever"
def f7 (d : PyData) : Prop := d = .none \/ ∃ n, d = .int n /\ 0 <= n /\ n < 10 ^ 64
def uN : Sp := fun vs H Q _ => ∃ v d, vs = [v] /\ Dv H v d /\ f7 d /\ ∀ H', av H H' -> Q (.str (dy d)) H'
theorem F4 {H : Hp} {Q : VK} {E : XK} {v : V} {d : PyData} (h : Dv H v d) (hn : f7 d) (q : ∀ H', av H H' -> Q (.str (dy d)) H') : uN [v] H Q E := ⟨v, d, rfl, h, hn, q⟩
local macro_rules | `(tactic| walk_at "use") => `(tactic| first
 | ((with_reducible refine' Ip ?e1 ?e2 (fun _ _ => ?_)); (case e1 => omega); (case e2 => omega))
 | ((with_reducible refine' F4 ?e1 ?e2 (fun _ _ => ?_)); (case e1 => walk_at "dat"); (case e2 => assumption))
 | fail)
theorem xP (T : Txt K mg a) : aV P w K mg base gs 2 a.ez a.tF ["number"] uN := by
 have zC := vV (P := P) (w := w) (base := base) T
 refine T.qD.ok xq (fun vs H Q E h => ?_) (fun dw A outer s H vs Q E hr h => ?_)
 . obtain ⟨_, _, rfl, _⟩ := h; rfl
 . obtain ⟨v, d, rfl, hd, hn, q⟩ := h
   refine ⟨_, (ak (aF (oK (aK Bp (pv 0) iS (aO _)) aP (aq zC (hr.mono (by decide)) rfl T.sk T.sR (ae (pv 0) af))))), ?_⟩
   rcases hn with rfl | ⟨n, rfl, h0, h1⟩
   . cases hd
     repeat' (walk_at "rd1")
     exact q _ (by walk_at "same")
   . cases hd
     repeat' (walk_at "rd1")
     exact q _ (by walk_at "same")
theorem vK (T : Txt K mg a) : dt P w K mg base 2 a.ez ["number"] [] uN :=
 ⟨⟨_, _, xP T, T.qD.binds fun _ _ _ _ _ _ => .all fun us hl => match us, hl with | [_], _ => rfl, .nil⟩⟩
theorem uw {d : PyData} (h : f7 d) : (dy d).length <= 65 := by
 rcases h with rfl | ⟨n, rfl, h0, h1⟩
 . show (Str.ofString "ever").length <= 65
   decide
 . exact lP h0 h1
theorem uk : ∀ {ds : List PyData}, (∀ d ∈ ds, f7 d) -> ((ds.map dy).map (·.length)).sum <= 65 * ds.length
 | [], _ => Nat.zero_le _
 | d :: ds, h => by
   have h1 := uw (h d List.mem_cons_self)
   have h2 := uk fun x hx => h x (List.mem_cons_of_mem _ hx)
   simp only [List.map_cons, List.sum_cons, List.length_cons]
   omega
def jc (kd : Str) (ds : List PyData) : Str := Txt.join (Str.ofString " ") (kd :: ds.map dy)
def wR : Sp := fun vs H Q _ => ∃ kd v ds, vs = [.str kd, v] /\ Dv H v (.list ds) /\ ds.length <= 10 /\ kd.length <= 20 /\ (∀ d ∈ ds, f7 d) /\ ∀ H', av H H' -> Q (.str (jc kd ds)) H'
theorem HH {H : Hp} {Q : VK} {E : XK} {kd : Str} {v : V} {ds : List PyData} (h : Dv H v (.list ds)) (h1 : ds.length <= 10) (h2 : kd.length <= 20) (h3 : ∀ d ∈ ds, f7 d) (q : ∀ H', av H H' -> Q (.str (jc kd ds)) H') : wR [.str kd, v] H Q E := ⟨kd, v, ds, rfl, h, h1, h2, h3, q⟩
theorem zM (T : Txt K mg a) : aV P w K mg base gs 3 a.fA a.tZ ["kind", "numbers"] wR := by
 have zL := vK (P := P) (w := w) (base := base) T
 refine T.sy.ok zT (fun vs H Q E h => ?_) (fun dw A outer s H vs Q E hr h => ?_)
 . obtain ⟨_, _, _, rfl, _⟩ := h; rfl
 . obtain ⟨kd, v, ds, rfl, hd, hl, hk, wW, q⟩ := h
   refine ⟨_, (ak (aF (vU PySem.F.plainAttrs_str PySem.F.slot_str_join PySem.F.type_str_join yR aP (ae (ax xV (fw (ae (pv 0) af)) (yi (T := ["number"]) (M := ["kind", "numbers"]) (Jw (ao oI) ["kind", "numbers"] rfl rfl (by decide +kernel)) rfl (uT (pv 1)) (fun _ _ _ _ _ => (jM (i := 0) (show List.Nodup (["number", "kind", "numbers"] : List Str) by decide +kernel) rfl (Or.inl rfl))) (mh (by decide)) (fun _ _ _ _ _ => rC) (fun _ _ _ _ _ => (aq zL (hr.mono (by decide)) rfl T.r9 T.sD (ae (pv 0) af))))) af)))), ?_⟩
   repeat' (walk_at "rd1")
   rename_i p1 H1 MG MB LC
   refine A1 (cs := ds) (gd := fun d => d) (fun _ => true) (fun d => .str (dy d)) (by rw [List.map_id']; walk_at "dat") (by omega) (fun _ => rfl) (fun x c H' N hc Jx Ae yes no => ?_) (fun pq H5 Jl Jr Ab => ?_)
   . have MQ := wW c hc
     repeat' (walk_at "rd1")
     show Hy _ N _ true _
     refine uo (fun _ => ?_) (fun hb => by cases hb)
     repeat' (walk_at "rd1")
     exact yes rfl _ _ (by walk_at "same") (by walk_at "dat")
   . have e : ds.filter (fun _ => true) = ds := List.filter_eq_self.mpr (by simp)
     rw [e] at Ab
     repeat' (walk_at "rd1")
     rename_i p6 H6 M9 MR MI
     have Mp : Dv H6 (.ref p6) (.list ((kd :: ds.map dy).map PyData.str)) := by
      have z := kQ.dv MI
      rw [List.map_cons, List.map_map]
      exact z
     refine wZ Mp ?_ ?_
     . have hs := uk wW
       have e1 : (Str.ofString " ").length = 1 := by decide
       rw [e1]
       simp only [List.map_cons, List.sum_cons, List.length_cons, List.length_map]
       omega
     . exact q _ (by walk_at "same")
theorem jG (T : Txt K mg a) : dt P w K mg base 3 a.fA ["kind", "numbers"] [] wR :=
 ⟨⟨_, _, zM T, T.sy.binds fun _ _ _ _ _ _ => .all fun us hl => match us, hl with | [_, _], _ => rfl, .nil⟩⟩
theorem f7.int {n : Int} (h0 : 0 <= n) (h1 : n < 10 ^ 64) : f7 (.int n) := .inr ⟨n, rfl, h0, h1⟩
def eH (C : Addr) (kd : Str) (fs : List (Str × V)) (ds : List PyData) : Sp := fun vs H Q _ => ∃ v, vs = [v] /\ eZ H v C fs /\ ∀ H', av H H' -> Q (.str (jc kd ds)) H'
theorem rP {C : Addr} {kd : Str} {fs : List (Str × V)} {ds : List PyData} {H : Hp} {Q : VK} {E : XK} {v : V} (hp : eZ H v C fs) (q : ∀ H', av H H' -> Q (.str (jc kd ds)) H') : eH C kd fs ds [v] H Q E := ⟨v, rfl, hp, q⟩
local macro_rules | `(tactic| walk_at "use") => `(tactic| first
 | ((with_reducible refine' HH ?e1 ?e2 ?e3 ?e4 (fun _ _ => ?_)); (case e1 => walk_at "dat"); (case e2 => exact Nat.le_of_ble_eq_true rfl); (case e3 => exact Nat.le_of_ble_eq_true rfl); (case e4 => assumption))
 | fail)
theorem xB {f l : Int} (T : Txt K mg a) (h1 : 0 <= f) (h2 : f < 10 ^ 64) (h3 : 0 <= l) (h4 : l < 10 ^ 64) : aV P w K mg base gs 4 a.cX a.nM ["self"] (eH a.ay "once" [("many", .int 1), ("first", .int f), ("last", .int l)] [.int f, .int l]) := by
 have g9 := jG (P := P) (w := w) (base := base) T
 have n1 := T.dh; have n2 := T.dI; have cl := T.aS
 refine T.ky.ok tT (fun vs H Q E h => ?_) (fun dw A outer s H vs Q E hr h => ?_)
 . obtain ⟨_, rfl, _⟩ := h; rfl
 . obtain ⟨v, rfl, hp, q⟩ := h
   have hn : ∀ d ∈ [PyData.int f, .int l], f7 d := by
    intro d hd
    simp only [List.mem_cons, List.not_mem_nil, or_false] at hd
    rcases hd with rfl | rfl
    . exact .int h1 h2
    . exact .int h3 h4
   refine ⟨_, (ak (aF (aq g9 (hr.mono (by decide)) rfl T.jw T.ja (ae aP (ae (fw (ae (aH (pv 0) rfl) (ae (aH (pv 0) rfl) af))) af))))), ?_⟩
   repeat' (walk_at "rd1")
   exact q _ (by walk_at "same")
def pB (m : V) (d : PyData) : Prop := (m = .cf /\ d = .none) \/ ∃ i, m = .int i /\ d = .int i /\ 0 <= i /\ i < 10 ^ 64
theorem pB.ok {m : V} {d : PyData} (h : pB m d) : f7 d := by
 rcases h with ⟨_, e⟩ | ⟨i, _, e, h0, h1⟩
 . exact .inl e
 . exact .inr ⟨i, e, h0, h1⟩
theorem pB.dv {m : V} {d : PyData} {H : Hp} (h : pB m d) : Dv H m d := by
 rcases h with ⟨rfl, rfl⟩ | ⟨i, rfl, rfl, _⟩
 . exact .cf
 . exact .int i
local macro_rules | `(tactic| walk_at "dat") => `(tactic| first
 | ((refine' pB.dv ?m); (case m => assumption))
 | fail)
theorem xK {st sp wd : Int} {m : V} {d : PyData} (T : Txt K mg a) (a0 : 0 <= st) (b0 : st < 10 ^ 64) (a1 : 0 <= sp) (b1 : sp < 10 ^ 64) (a2 : 0 <= wd) (b2 : wd < 10 ^ 64) (hm : pB m d) : aV P w K mg base gs 4 a.c0 a.nq ["self"] (eH a.au "each" [("many", m), ("start", .int st), ("step", .int sp), ("wide", .int wd)] [.int st, .int sp, .int wd, d]) := by
 have g9 := jG (P := P) (w := w) (base := base) T
 have n0 := T.cu; have n1 := T.dj; have n2 := T.cY; have n3 := T.dJ; have cl := T.aG
 refine T.jK.ok tJ (fun vs H Q E h => ?_) (fun dw A outer s H vs Q E hr h => ?_)
 . obtain ⟨_, rfl, _⟩ := h; rfl
 . obtain ⟨v, rfl, hp, q⟩ := h
   have hn : ∀ x ∈ ([.int st, .int sp, .int wd, d] : List PyData), f7 x := by
    intro x hx
    simp only [List.mem_cons, List.not_mem_nil, or_false] at hx
    rcases hx with rfl | rfl | rfl | rfl
    . exact .int a0 b0
    . exact .int a1 b1
    . exact .int a2 b2
    . exact hm.ok
   refine ⟨_, (ak (aF (aq g9 (hr.mono (by decide)) rfl T.jw T.ja (ae aP (ae (fw (ae (aH (pv 0) rfl) (ae (aH (pv 0) rfl) (ae (aH (pv 0) rfl) (ae (aH (pv 0) rfl) af))))) af))))), ?_⟩
   repeat' (walk_at "rd1")
   exact q _ (by walk_at "same")
theorem xF {st gp wd : Int} {m : V} {d : PyData} (T : Txt K mg a) (a0 : 0 <= st) (b0 : st < 10 ^ 64) (a1 : 0 <= gp) (b1 : gp < 10 ^ 64) (a2 : 0 <= wd) (b2 : wd < 10 ^ 64) (hm : pB m d) : aV P w K mg base gs 4 a.b9 a.kF ["self"] (eH a.ah "behind" [("many", m), ("start", .int st), ("gap", .int gp), ("wide", .int wd)] [.int st, .int gp, .int wd, d]) := by
 have g9 := jG (P := P) (w := w) (base := base) T
 have n0 := T.bK; have n1 := T.cg; have n2 := T.cE; have n3 := T.bw; have cl := T.aA
 refine T.gH.ok rm (fun vs H Q E h => ?_) (fun dw A outer s H vs Q E hr h => ?_)
 . obtain ⟨_, rfl, _⟩ := h; rfl
 . obtain ⟨v, rfl, hp, q⟩ := h
   have hn : ∀ x ∈ ([.int st, .int gp, .int wd, d] : List PyData), f7 x := by
    intro x hx
    simp only [List.mem_cons, List.not_mem_nil, or_false] at hx
    rcases hx with rfl | rfl | rfl | rfl
    . exact .int a0 b0
    . exact .int a1 b1
    . exact .int a2 b2
    . exact hm.ok
   refine ⟨_, (ak (aF (aq g9 (hr.mono (by decide)) rfl T.jw T.ja (ae aP (ae (fw (ae (aH (pv 0) rfl) (ae (aH (pv 0) rfl) (ae (aH (pv 0) rfl) (ae (aH (pv 0) rfl) af))))) af))))), ?_⟩
   repeat' (walk_at "rd1")
   exact q _ (by walk_at "same")
theorem xM {st gp mo wd : Int} {m : V} {d : PyData} (T : Txt K mg a) (a0 : 0 <= st) (b0 : st < 10 ^ 64) (a1 : 0 <= gp) (b1 : gp < 10 ^ 64) (a2 : 0 <= mo) (b2 : mo < 10 ^ 64) (a3 : 0 <= wd) (b3 : wd < 10 ^ 64) (hm : pB m d) : aV P w K mg base gs 4 a.bS a.jv ["self"] (eH a.ag "slowing" [("many", m), ("start", .int st), ("gap", .int gp), ("wide", .int wd), ("most", .int mo)] [.int st, .int gp, .int mo, .int wd, d]) := by
 have g9 := jG (P := P) (w := w) (base := base) T
 have n0 := T.bB; have n1 := T.bY; have n2 := T.cM; have n3 := T.bq; have n4 := T.bQ; have cl := T.aw
 refine T.fO.ok ql (fun vs H Q E h => ?_) (fun dw A outer s H vs Q E hr h => ?_)
 . obtain ⟨_, rfl, _⟩ := h; rfl
 . obtain ⟨v, rfl, hp, q⟩ := h
   have hn : ∀ x ∈ ([.int st, .int gp, .int mo, .int wd, d] : List PyData), f7 x := by
    intro x hx
    simp only [List.mem_cons, List.not_mem_nil, or_false] at hx
    rcases hx with rfl | rfl | rfl | rfl | rfl
    . exact .int a0 b0
    . exact .int a1 b1
    . exact .int a2 b2
    . exact .int a3 b3
    . exact hm.ok
   refine ⟨_, (ak (aF (aq g9 (hr.mono (by decide)) rfl T.jw T.ja (ae aP (ae (fw (ae (aH (pv 0) rfl) (ae (aH (pv 0) rfl) (ae (aH (pv 0) rfl) (ae (aH (pv 0) rfl) (ae (aH (pv 0) rfl) af)))))) af))))), ?_⟩
   repeat' (walk_at "rd1")
   exact q _ (by walk_at "same")
def yO (args : List V) : Prop := ∃ st sp wd m, args = [.int st, .int sp, .int wd, m] /\ 0 <= st /\ 1 <= sp /\ 0 <= wd /\ wd < sp /\ uq m
theorem vx (T : Txt K mg a) : aV P w K mg base gs 4 a.bO a.fc ["self", "start", "step", "wide", "many"] (fR a.au yO yY) := by
 have aU : dt P w K mg base 2 a.a6 ["number", "least", "what"] [] fE := dz T
 have dc : dt P w K mg base 3 a.aT ["self", "many"] [] (dM a.au) := iO T T.aG T.cu
 have cl := T.aG
 have n1 := T.dj; have n2 := T.cY; have n3 := T.dJ
 refine T.fN.ok p8 (fun vs H Q E h => ?_) (fun dw A outer s H vs Q E hr h => ?_)
 . obtain ⟨_, _, _, rfl, ⟨_, _, _, _, rfl, _⟩, _⟩ := h; rfl
 . obtain ⟨p, dx, args, rfl, ⟨st, sp, wd, m, rfl, h0, h1, h2, h3, hm⟩, hp, k⟩ := h
   refine ⟨_, (aj (bV (aq aU (hr.mono (by decide)) rfl T.bo T.bp (ae (pv 1) (ae ai (ae aP af)))))
    (aj (bV (aq aU (hr.mono (by decide)) rfl T.bo T.bp (ae (pv 2) (ae ai (ae aP af)))))
    (aj (bV (aq aU (hr.mono (by decide)) rfl T.bo T.bp (ae (pv 3) (ae ai (ae aP af)))))
    (aj (cK (aK yk (pv 3) (pv 2) (aO _))
     (ak lu)
     aW)
    (aj (bV (rA rfl T.rG T.ef dc (hr.mono (by decide)) (ae (pv 0) (ae (pv 4) af))))
    (aj (iI (pv 0) (pv 1) rfl)
    (aj (iI (pv 0) (pv 2) rfl)
    (ak (iI (pv 0) (pv 3) rfl))))))))), ?_⟩
   repeat' (walk_at "rd1")
   simp only [oz]
   exact k
theorem AO (T : Txt K mg a) : Binds K a.fc ["self", "start", "step", "wide", "many"] [] := T.fN.binds fun _ _ _ _ _ _ s us kx hl => by
 obtain ⟨o, n, h1, h2⟩ := T.kE.ex
 have hl : us.length = 5 := by simp at hl; omega
 match us, hl with
 | [_, _, _, _, _], _ => exact PySem.W.binds_K kx rfl h1 h2 rfl rfl
theorem tB (T : Txt K mg a) : dt P w K mg base 4 a.bO ["self", "start", "step", "wide", "many"] [] (fR a.au yO yY) := ⟨⟨_, _, vx T, AO T, .nil⟩⟩
def qp (st sp wd n _s : Int) : Int × Int := (st + (n + 1) * sp, st + (n + 1) * sp + wd)
def di (C : Addr) : Sp := fun vs H Q _ => ∃ v st sp wd m n, vs = [v, .int n] /\ eZ H v C [("many", m), ("start", .int st), ("step", .int sp), ("wide", .int wd)] /\ (-(10 ^ 200) < n /\ n < 10 ^ 200) /\ (-(10 ^ 200) < sp /\ sp < 10 ^ 200) /\ ∀ v' H', av H H' -> Dv H' v' (.tuple [.int (st + n * sp), .int (st + n * sp + wd)]) -> Q v' H'
theorem vm {C : Addr} {H : Hp} {Q : VK} {E : XK} {v : V} {st sp wd n : Int} {m : V} (hp : eZ H v C [("many", m), ("start", .int st), ("step", .int sp), ("wide", .int wd)]) (h1 : -(10 ^ 200) < n /\ n < 10 ^ 200) (h2 : -(10 ^ 200) < sp /\ sp < 10 ^ 200)
 (q : ∀ v' H', av H H' -> Dv H' v' (.tuple [.int (st + n * sp), .int (st + n * sp + wd)]) -> Q v' H') : di C [v, .int n] H Q E := ⟨v, st, sp, wd, m, n, rfl, hp, h1, h2, q⟩
def ig (C : Addr) : Sp := fun vs H Q _ => ∃ v st sp wd m n s, vs = [v, .int n, .int s] /\ uq m /\ eZ H v C [("many", m), ("start", .int st), ("step", .int sp), ("wide", .int wd)] /\ (-(10 ^ 200) < n + 1 /\ n + 1 < 10 ^ 200) /\ (-(10 ^ 200) < sp /\ sp < 10 ^ 200) /\ ∀ v' H', av H H' -> Dv H' v' (gi m (n + 1) (.tuple [.int (qp st sp wd n s).1, .int (qp st sp wd n s).2])) -> Q v' H'
theorem si {C : Addr} {H : Hp} {Q : VK} {E : XK} {v : V} {st sp wd n s : Int} {m : V} (ho : uq m) (hp : eZ H v C [("many", m), ("start", .int st), ("step", .int sp), ("wide", .int wd)]) (h1 : -(10 ^ 200) < n + 1 /\ n + 1 < 10 ^ 200) (h2 : -(10 ^ 200) < sp /\ sp < 10 ^ 200)
 (q : ∀ v' H', av H H' -> Dv H' v' (gi m (n + 1) (.tuple [.int (qp st sp wd n s).1, .int (qp st sp wd n s).2])) -> Q v' H') : ig C [v, .int n, .int s] H Q E := ⟨v, st, sp, wd, m, n, s, rfl, ho, hp, h1, h2, q⟩
local macro_rules | `(tactic| walk_at "use") => `(tactic| first
 | ((with_reducible refine' vm ?e1 ?e2 ?e3 (fun _ _ _ _ => ?_)); (case e1 => walk_at "ins"); (case e2 => walk_at "bd"); (case e3 => walk_at "bd"))
 | ((with_reducible refine' si ?e0 ?e1 ?e2 ?e3 (fun _ _ _ _ => ?_)); (case e1 => walk_at "ins"); (case e0 => walk_at "mok"); (case e2 => walk_at "bd"); (case e3 => walk_at "bd")))
theorem tR (T : Txt K mg a) : aV P w K mg base gs 1 a.aR a.gW ["self", "number"] (di a.au) := by
 have cl := T.aG
 have n1 := T.dj; have n2 := T.cY; have n3 := T.dJ
 refine T.eP.ok hE (fun vs H Q E h => ?_) (fun dw A outer s H vs Q E hr h => ?_)
 . obtain ⟨_, _, _, _, _, _, rfl, _⟩ := h; rfl
 . obtain ⟨v, st, sp, wd, m, n, rfl, hp, b1, b2, k⟩ := h
   refine ⟨_, (aj (aM (i := 2) hE.nd rfl (Or.inl rfl) (ax aY (aH (pv 0) rfl) (ax rO (pv 1) (aH (pv 0) rfl))))
    (ak (aF (fx (ae (pv 2) (ae (ax aY (pv 2) (aH (pv 0) rfl)) af)))))), ?_⟩
   repeat' (walk_at "rd1")
   (refine k _ _ ?_ ?_; walk_at "same"; walk_at "dat")
theorem gM (T : Txt K mg a) : dt P w K mg base 1 a.aR ["self", "number"] [] (di a.au) :=
 ⟨⟨_, _, tR T, T.eP.binds fun _ _ _ _ _ _ => .all fun us hl => match us, hl with | [_, _], _ => rfl, .nil⟩⟩
theorem wu (T : Txt K mg a) : aV P w K mg base gs 2 a.cI a.lx ["self", "number", "settled"] (ig a.au) := by
 have dF : dt P w K mg base 1 a.aR ["self", "number"] [] (di a.au) := gM T
 have en : dt P w K mg base 1 a.az ["self", "number", "stretch"] [] (dB a.au) := gu T T.aG T.cu
 have cl := T.aG
 have dH := T.dk
 have cV := T.fT
 refine T.i9.ok rX (fun vs H Q E h => ?_) (fun dw A outer s H vs Q E hr h => ?_)
 . obtain ⟨_, _, _, _, _, _, _, rfl, _⟩ := h; rfl
 . obtain ⟨v, st, sp, wd, m, n, sd, rfl, ho, hp, b1, b2, k⟩ := h
   refine ⟨_, (ak (aF (dN hJ (aX (pv 0) cl cV en (hr.mono (by decide)) (ae (ax aY (pv 1) ai) (ae (aX (pv 0) cl dH dF (hr.mono (by decide)) (ae (ax aY (pv 1) ai) af)) af))) ai (fun _ _ => rfl)))), ?_⟩
   repeat' (walk_at "rd1")
   (refine k _ _ ?_ ?_; walk_at "same"; walk_at "dat")
theorem u5 (T : Txt K mg a) : dt P w K mg base 2 a.cI ["self", "number", "settled"] [] (ig a.au) :=
 ⟨⟨_, _, wu T, T.i9.binds fun _ _ _ _ _ _ => .all fun us hl => match us, hl with | [_, _, _], _ => rfl, .nil⟩⟩
def qb (args : List V) : Prop := ∃ st gp wd m, args = [.int st, .int gp, .int wd, m] /\ 0 <= st /\ 1 <= gp /\ 0 <= wd /\ uq m
theorem lO {C : Addr} (T : Txt K mg a) (cl : lq K C) (n0 : aJ K C "many") (n1 : aJ K C "start") (n2 : aJ K C "gap") (n3 : aJ K C "wide") : aV P w K mg base gs 4 a.aQ a.ek ["self", "start", "gap", "wide", "many"] (fR C qb pN) := by
 have aU : dt P w K mg base 2 a.a6 ["number", "least", "what"] [] fE := dz T
 have dc : dt P w K mg base 3 a.aT ["self", "many"] [] (dM C) := iO T cl n0
 refine T.eN.ok nX (fun vs H Q E h => ?_) (fun dw A outer s H vs Q E hr h => ?_)
 . obtain ⟨_, _, _, rfl, ⟨_, _, _, _, rfl, _⟩, _⟩ := h; rfl
 . obtain ⟨p, dx, args, rfl, ⟨st, gp, wd, m, rfl, h0, h1, h2, hm⟩, hp, k⟩ := h
   refine ⟨_, (aj (bV (aq aU (hr.mono (by decide)) rfl T.bo T.bp (ae (pv 1) (ae ai (ae aP af)))))
    (aj (bV (aq aU (hr.mono (by decide)) rfl T.bo T.bp (ae (pv 2) (ae ai (ae aP af)))))
    (aj (bV (aq aU (hr.mono (by decide)) rfl T.bo T.bp (ae (pv 3) (ae ai (ae aP af)))))
    (aj (bV (rA rfl T.rG T.ef dc (hr.mono (by decide)) (ae (pv 0) (ae (pv 4) af))))
    (aj (iI (pv 0) (pv 1) rfl)
    (aj (iI (pv 0) (pv 2) rfl)
    (ak (iI (pv 0) (pv 3) rfl)))))))), ?_⟩
   repeat' (walk_at "rd1")
   simp only [oz]
   exact k
theorem sg (T : Txt K mg a) : Binds K a.ek ["self", "start", "gap", "wide", "many"] [] := T.eN.binds fun _ _ _ _ _ _ s us kx hl => by
 obtain ⟨o, n, h1, h2⟩ := T.iD.ex
 have hl : us.length = 5 := by simp at hl; omega
 match us, hl with
 | [_, _, _, _, _], _ => exact PySem.W.binds_K kx rfl h1 h2 rfl rfl
theorem o2 (T : Txt K mg a) : dt P w K mg base 4 a.aQ ["self", "start", "gap", "wide", "many"] [] (fR a.ah qb pN) := ⟨⟨_, _, lO T T.aA T.bK T.cg T.cE T.bw, sg T, .nil⟩⟩
def qu (C : Addr) (fs : List (Str × V)) (g : Int -> Int) : Sp := fun vs H Q _ => ∃ v n, vs = [v, .int n] /\ eZ H v C fs /\ 1 <= n /\ n < 10 ^ 200 /\ Q (.int (g n)) H
theorem Hh {C : Addr} {fs : List (Str × V)} {g : Int -> Int} {H : Hp} {Q : VK} {E : XK} {v : V} {n : Int} (hp : eZ H v C fs) (hn : 1 <= n) (hb : n < 10 ^ 200) (q : Q (.int (g n)) H) : qu C fs g [v, .int n] H Q E := ⟨v, n, rfl, hp, hn, hb, q⟩
def iA (C : Addr) (fs : List (Str × V)) (g : Int -> Int) (wd : Int) (m : V) : Sp := fun vs H Q _ => ∃ v n s, vs = [v, .int n, .int s] /\ eZ H v C fs /\ 0 <= n /\ n < 10 ^ 100 /\ ∀ v' H', av H H' -> Dv H' v' (gi m (n + 1) (.tuple [.int (s + g (n + 1)), .int (s + g (n + 1) + wd)])) -> Q v' H'
theorem nU {C : Addr} {fs : List (Str × V)} {g : Int -> Int} {wd : Int} {m : V} {H : Hp} {Q : VK} {E : XK} {v : V} {n s : Int} (hp : eZ H v C fs) (hn : 0 <= n) (hb : n < 10 ^ 100) (q : ∀ v' H', av H H' -> Dv H' v' (gi m (n + 1) (.tuple [.int (s + g (n + 1)), .int (s + g (n + 1) + wd)])) -> Q v' H') : iA C fs g wd m [v, .int n, .int s] H Q E := ⟨v, n, s, rfl, hp, hn, hb, q⟩
def j7 (C : Addr) (fs : List (Str × V)) (st wd : Int) : Sp := fun vs H Q _ => ∃ v, vs = [v] /\ eZ H v C fs /\ ∀ v' H', av H H' -> Dv H' v' (.tuple [.int st, .int (st + wd)]) -> Q v' H'
theorem qd {C : Addr} {fs : List (Str × V)} {st wd : Int} {H : Hp} {Q : VK} {E : XK} {v : V} (hp : eZ H v C fs) (q : ∀ v' H', av H H' -> Dv H' v' (.tuple [.int st, .int (st + wd)]) -> Q v' H') : j7 C fs st wd [v] H Q E := ⟨v, rfl, hp, q⟩
local macro_rules | `(tactic| walk_at "use") => `(tactic| first
 | ((with_reducible refine' Hh ?e ?e2 ?e3 ?_); (case e => walk_at "ins"); (case e2 => omega); (case e3 => omega))
 | ((with_reducible refine' nU ?e ?e2 ?e3 (fun _ _ _ _ => ?_)); (case e => walk_at "ins"); (case e2 => omega); (case e3 => omega))
 | ((with_reducible refine' qd ?e (fun _ _ _ _ => ?_)); (case e => walk_at "ins")))
theorem qO {C fg : Addr} {fs : List (Str × V)} {g : Int -> Int} {wd : Int} {m : V} (T : Txt K mg a) (cl : lq K C) (n0 : aJ K C "many") (n3 : aJ K C "wide") (lj : Meth K C "gap_ahead" fg) (cV : Meth K C "place_of" a.az)
 (hV : dt P w K mg base 1 fg ["self", "number"] [] (qu C fs g)) (ho : uq m) (l1 : fs.lookup ("many" : Str) = some m) (l2 : fs.lookup ("wide" : Str) = some (.int wd)) (l3 : fs.lookup ("gap_ahead" : Str) = none) (l4 : fs.lookup ("place_of" : Str) = none) :
 aV P w K mg base gs 2 a.aZ a.jC ["self", "number", "settled"] (iA C fs g wd m) := by
 have en : dt P w K mg base 1 a.az ["self", "number", "stretch"] [] (dB C) := gu T cl n0
 refine T.ec.ok jz (fun vs H Q E h => ?_) (fun dw A outer s H vs Q E hr h => ?_)
 . obtain ⟨_, _, _, rfl, _⟩ := h; rfl
 . obtain ⟨v, n, sd, rfl, hp, hn, hb, k⟩ := h
   refine ⟨_, (aj (aM (i := 3) jz.nd rfl (Or.inl rfl) (ax aY (pv 2) (aX (pv 0) cl lj hV (hr.mono (by decide)) (ae (ax aY (pv 1) ai) af))))
    (ak (aF (dN hJ (aX (pv 0) cl cV en (hr.mono (by decide)) (ae (ax aY (pv 1) ai) (ae (fx (ae (pv 3) (ae (ax aY (pv 3) (aH (pv 0) rfl)) af))) af))) ai (fun _ _ => rfl))))), ?_⟩
   repeat' (walk_at "rd1")
   (refine k _ _ ?_ ?_; walk_at "same"; walk_at "dat")
theorem su {C : Addr} {fs : List (Str × V)} {st wd : Int} (T : Txt K mg a) (cl : lq K C) (n1 : aJ K C "start") (n3 : aJ K C "wide") (l1 : fs.lookup ("start" : Str) = some (.int st)) (l2 : fs.lookup ("wide" : Str) = some (.int wd)) :
 aV P w K mg base gs 1 a.bj a.kM ["self"] (j7 C fs st wd) := by
 refine T.eS.ok q0 (fun vs H Q E h => ?_) (fun dw A outer s H vs Q E hr h => ?_)
 . obtain ⟨_, rfl, _⟩ := h; rfl
 . obtain ⟨v, rfl, hp, k⟩ := h
   refine ⟨_, (ak (aF (fx (ae (aH (pv 0) rfl) (ae (ax aY (aH (pv 0) rfl) (aH (pv 0) rfl)) af))))), ?_⟩
   repeat' (walk_at "rd1")
   (refine k _ _ ?_ ?_; walk_at "same"; walk_at "dat")
theorem Au {st gp wd : Int} {m : V} (T : Txt K mg a) : aV P w K mg base gs 1 a.bt a.f9 ["self", "number"] (qu a.ah [("many", m), ("start", .int st), ("gap", .int gp), ("wide", .int wd)] (fun _ => gp)) := by
 have cl := T.aA
 have n1 := T.cE
 refine T.eh.ok ml (fun vs H Q E h => ?_) (fun dw A outer s H vs Q E hr h => ?_)
 . obtain ⟨_, _, rfl, _⟩ := h; rfl
 . obtain ⟨v, n, rfl, hp, hn, hb, k⟩ := h
   refine ⟨_, (ak (aF (aH (pv 0) rfl))), ?_⟩
   repeat' (walk_at "rd1")
   exact k
theorem zW {st gp wd : Int} {m : V} (T : Txt K mg a) : dt P w K mg base 1 a.bt ["self", "number"] [] (qu a.ah [("many", m), ("start", .int st), ("gap", .int gp), ("wide", .int wd)] (fun _ => gp)) :=
 ⟨⟨_, _, Au T, T.eh.binds fun _ _ _ _ _ _ => .all fun us hl => match us, hl with | [_, _], _ => rfl, .nil⟩⟩
def sV : Sp := fun vs H Q _ => ∃ e s t, vs = [.int e, .int s, .int t] /\ 0 < s /\ s < 10 ^ 200 /\ Q (.int (steps e s t)) H
theorem B5 {H : Hp} {Q : VK} {E : XK} {e s t : Int} (h1 : 0 < s) (h2 : s < 10 ^ 200) (q : Q (.int (steps e s t)) H) : sV [.int e, .int s, .int t] H Q E := ⟨e, s, t, rfl, h1, h2, q⟩
theorem BE (T : Txt K mg a) : aV P w K mg base gs 1 a.cj a.ni ["end", "span", "now"] sV := by
 refine T.jY.ok tU (fun vs H Q E h => ?_) (fun dw A outer s H vs Q E hr h => ?_)
 . obtain ⟨_, _, _, rfl, _⟩ := h; rfl
 . obtain ⟨e, s, t, rfl, h1, h2, k⟩ := h
   refine ⟨_, (ak (aF (b7 (zD rfl) rfl T.uJ PyProof.Rows.boot_max (ae ai (ae (ax aY (ax gZ (ax vg (pv 2) (pv 0)) (pv 1)) ai) af))))), ?_⟩
   repeat' (walk_at "rd1")
   rename_i x hx Kt Kl
   have e0 : x = steps e s t := by unfold steps; omega
   subst e0
   exact k
theorem ur (T : Txt K mg a) : dt P w K mg base 1 a.cj ["end", "span", "now"] [] sV :=
 ⟨⟨_, _, BE T, T.jY.binds fun _ _ _ _ _ _ => .all fun us hl => match us, hl with | [_, _, _], _ => rfl, .nil⟩⟩
def jW (C : Addr) : Sp := fun vs H Q _ => ∃ v st sp wd m n s t, vs = [v, .int n, .int s, .int t] /\ uq m /\ eZ H v C [("many", m), ("start", .int st), ("step", .int sp), ("wide", .int wd)] /\ 0 <= st /\ 1 <= sp /\ sp < 10 ^ 100 /\ 0 <= wd /\ 0 <= n /\ n < 10 ^ 100 /\ t < 10 ^ 100
 /\ ∀ k x y v' H', Wk (qp st sp wd) t (n + 1) (qp st sp wd n s).1 (qp st sp wd n s).2 k x y -> av H H' -> Dv H' v' (.tuple [.int (oy m k), gi m k (.tuple [.int x, .int y])]) -> Q v' H'
theorem uh {C : Addr} {H : Hp} {Q : VK} {E : XK} {v : V} {st sp wd n s t : Int} {m : V} (ho : uq m) (hp : eZ H v C [("many", m), ("start", .int st), ("step", .int sp), ("wide", .int wd)]) (h0 : 0 <= st) (h1 : 1 <= sp) (h2 : sp < 10 ^ 100) (h3 : 0 <= wd) (h4 : 0 <= n) (h5 : n < 10 ^ 100) (h6 : t < 10 ^ 100)
 (q : ∀ k x y v' H', Wk (qp st sp wd) t (n + 1) (qp st sp wd n s).1 (qp st sp wd n s).2 k x y -> av H H' -> Dv H' v' (.tuple [.int (oy m k), gi m k (.tuple [.int x, .int y])]) -> Q v' H') : jW C [v, .int n, .int s, .int t] H Q E := ⟨v, st, sp, wd, m, n, s, t, rfl, ho, hp, h0, h1, h2, h3, h4, h5, h6, q⟩
local macro_rules | `(tactic| walk_at "use") => `(tactic| first
 | ((with_reducible refine' B5 ?e1 ?e2 ?_); (case e1 => omega); (case e2 => omega))
 | ((with_reducible refine' uh ?e0 ?e1 ?e2 ?e3 ?e4 ?e5 ?e6 ?e7 ?e8 (fun _ _ _ _ _ _ _ _ => ?_)); (case e1 => walk_at "ins"); (case e0 => walk_at "mok"); (case e2 => omega); (case e3 => omega); (case e4 => omega); (case e5 => omega); (case e6 => omega); (case e7 => omega); (case e8 => omega)))
theorem xY (T : Txt K mg a) : aV P w K mg base gs 2 a.cB a.lJ ["self", "number", "last", "now"] (jW a.au) := by
 have dF : dt P w K mg base 1 a.aR ["self", "number"] [] (di a.au) := gM T
 have en : dt P w K mg base 1 a.az ["self", "number", "stretch"] [] (dB a.au) := gu T T.aG T.cu
 have jR := ur (P := P) (w := w) (base := base) T
 have cl := T.aG
 have n2 := T.cY
 have dH := T.dk
 have cV := T.fT
 refine T.iZ.ok gI (fun vs H Q E h => ?_) (fun dw A outer s H vs Q E hr h => ?_)
 . obtain ⟨_, _, _, _, _, _, _, _, rfl, _⟩ := h; rfl
 . obtain ⟨v, st, sp, wd, m, n, sd, t, rfl, ho, hp, h0, h1, h2, h3, h4, h5, h6, k⟩ := h
   have hm : 0 <= (n + 1) * sp := Int.mul_nonneg (by omega) (by omega)
   have Mh := oO (e := st + (n + 1) * sp + wd) (span := sp) (now := t)
   have MF : steps (st + (n + 1) * sp + wd) sp t <= 10 ^ 100 + 1 := wt (by omega) (by omega) (by decide)
   refine ⟨_, (aj (aM (i := 4) gI.nd rfl (Or.inl rfl) (dN hJ (aX (pv 0) cl dH dF (hr.mono (by decide)) (ae (ax aY (pv 1) ai) af)) ai (fun _ _ => rfl)))
    (aj (aM (i := 5) gI.nd rfl (Or.inl rfl) (ax aY (ax aY (pv 1) ai) (aq jR (hr.mono (by decide)) rfl T.iM T.iV (ae (pv 4) (ae (aH (pv 0) rfl) (ae (pv 3) af))))))
    (ak (aF (aX (pv 0) cl cV en (hr.mono (by decide)) (ae (pv 5) (ae (aX (pv 0) cl dH dF (hr.mono (by decide)) (ae (pv 5) af)) af))))))), ?_⟩
   repeat' (walk_at "rd1")
   rename_i hx
   have hw := uR (R := qp st sp wd) (now := t) (span := sp) (wd := wd) (by omega) _ (num := n + 1) (e := st + (n + 1) * sp + wd) rfl (fun i => by
    unfold qp
    have e1 : (n + 1 + (i : Int) + 1) * sp = (n + 1) * sp + ((i : Int) + 1) * sp := by rw [<- Int.add_mul]; congr 1; omega
    rw [e1]
    refine Prod.ext ?_ ?_ <;> omega)
   have e2 : (n + 1 + steps (st + (n + 1) * sp + wd) sp t) * sp = (n + 1) * sp + steps (st + (n + 1) * sp + wd) sp t * sp := Int.add_mul _ _ _
   have e3 : st + (n + 1) * sp + wd + steps (st + (n + 1) * sp + wd) sp t * sp = st + (n + 1 + steps (st + (n + 1) * sp + wd) sp t) * sp + wd := by rw [e2]; omega
   rw [e3, show st + (n + 1) * sp + wd - wd = st + (n + 1) * sp by omega, show st + (n + 1 + steps (st + (n + 1) * sp + wd) sp t) * sp + wd - wd = st + (n + 1 + steps (st + (n + 1) * sp + wd) sp t) * sp by omega] at hw
   refine k _ _ _ _ _ hw ?_ hx
   walk_at "same"
theorem vN (T : Txt K mg a) : dt P w K mg base 2 a.cB ["self", "number", "last", "now"] [] (jW a.au) :=
 ⟨⟨_, _, xY T, T.iZ.binds fun _ _ _ _ _ _ => .all fun us hl => match us, hl with | [_, _, _, _], _ => rfl, .nil⟩⟩
def u0 (C : Addr) (fs : List (Str × V)) (wd : Int) (m : V) : Sp := fun vs H Q _ => ∃ v n e g t, vs = [v, .int n, .int e, .int g, .int t] /\ eZ H v C fs /\ 1 <= g /\ g < 10 ^ 101 /\ 0 <= wd /\ wd < 10 ^ 101 /\ t - e < 10 ^ 110
 /\ ∀ v' H', av H H' -> Dv H' v' (.tuple [.int (oy m (n + steps e (g + wd) t)), gi m (n + steps e (g + wd) t) (.tuple [.int (e + steps e (g + wd) t * (g + wd) - wd), .int (e + steps e (g + wd) t * (g + wd))])]) -> Q v' H'
theorem Gb {C : Addr} {fs : List (Str × V)} {wd : Int} {m : V} {H : Hp} {Q : VK} {E : XK} {v : V} {n e g t : Int} (hp : eZ H v C fs) (h1 : 1 <= g) (h2 : g < 10 ^ 101) (h3 : 0 <= wd) (h4 : wd < 10 ^ 101) (h5 : t - e < 10 ^ 110)
 (q : ∀ v' H', av H H' -> Dv H' v' (.tuple [.int (oy m (n + steps e (g + wd) t)), gi m (n + steps e (g + wd) t) (.tuple [.int (e + steps e (g + wd) t * (g + wd) - wd), .int (e + steps e (g + wd) t * (g + wd))])]) -> Q v' H') : u0 C fs wd m [v, .int n, .int e, .int g, .int t] H Q E := ⟨v, n, e, g, t, rfl, hp, h1, h2, h3, h4, h5, q⟩
local macro_rules | `(tactic| walk_at "use") => `(tactic| ((with_reducible refine' Gb ?e1 ?e2 ?e3 ?e4 ?e5 ?e6 (fun _ _ _ _ => ?_)); (case e1 => walk_at "ins"); (case e2 => omega); (case e3 => omega); (case e4 => omega); (case e5 => omega); (case e6 => omega)))
theorem Ci {C : Addr} {fs : List (Str × V)} {wd : Int} {m : V} (T : Txt K mg a) (cl : lq K C) (n0 : aJ K C "many") (n3 : aJ K C "wide") (cV : Meth K C "place_of" a.az) (ho : uq m) (l1 : fs.lookup ("many" : Str) = some m) (l2 : fs.lookup ("wide" : Str) = some (.int wd)) (l4 : fs.lookup ("place_of" : Str) = none) :
 aV P w K mg base gs 2 a.bG a.lL ["self", "number", "end", "gap", "now"] (u0 C fs wd m) := by
 have en : dt P w K mg base 1 a.az ["self", "number", "stretch"] [] (dB C) := gu T cl n0
 have jR := ur (P := P) (w := w) (base := base) T
 refine T.iY.ok eD (fun vs H Q E h => ?_) (fun dw A outer s H vs Q E hr h => ?_)
 . obtain ⟨_, _, _, _, _, rfl, _⟩ := h; rfl
 . obtain ⟨v, n, e, g, t, rfl, hp, h1, h2, h3, h4, h5, k⟩ := h
   have Mh := oO (e := e) (span := g + wd) (now := t)
   have MF : steps e (g + wd) t <= 10 ^ 110 + 1 := wt (by omega) (by omega) (by decide)
   refine ⟨_, (aj (aM (i := 5) eD.nd rfl (Or.inl rfl) (ax aY (pv 3) (aH (pv 0) rfl)))
    (aj (aM (i := 6) eD.nd rfl (Or.inl rfl) (aq jR (hr.mono (by decide)) rfl T.iM T.iV (ae (pv 2) (ae (pv 5) (ae (pv 4) af)))))
    (aj (aM (i := 2) eD.nd rfl (Or.inl rfl) (ax aY (pv 2) (ax rO (pv 6) (pv 5))))
    (ak (aF (aX (pv 0) cl cV en (hr.mono (by decide)) (ae (ax aY (pv 1) (pv 6)) (ae (fx (ae (ax vg (pv 2) (aH (pv 0) rfl)) (ae (pv 2) af))) af)))))))), ?_⟩
   repeat' (walk_at "rd1")
   (refine k _ _ ?_ ?_; walk_at "same"; walk_at "dat")
theorem wx {C : Addr} {fs : List (Str × V)} {wd : Int} {m : V} (T : Txt K mg a) (cl : lq K C) (n0 : aJ K C "many") (n3 : aJ K C "wide") (cV : Meth K C "place_of" a.az) (ho : uq m) (l1 : fs.lookup ("many" : Str) = some m) (l2 : fs.lookup ("wide" : Str) = some (.int wd)) (l4 : fs.lookup ("place_of" : Str) = none) :
 dt P w K mg base 2 a.bG ["self", "number", "end", "gap", "now"] [] (u0 C fs wd m) :=
 ⟨⟨_, _, Ci T cl n0 n3 cV ho l1 l2 l4, T.iY.binds fun _ _ _ _ _ _ => .all fun us hl => match us, hl with | [_, _, _, _, _], _ => rfl, .nil⟩⟩
def Bq (gp wd _n s : Int) : Int × Int := (s + gp, s + gp + wd)
structure D1 where
 st : Int
 gp : Int
 wd : Int
 m : V
 ho : uq m
 h1 : 1 <= gp
 h2 : gp < 10 ^ 100
 h3 : 0 <= wd
 h4 : wd < 10 ^ 100
abbrev fB (i : D1) : List (Str × V) := [("many", i.m), ("start", .int i.st), ("gap", .int i.gp), ("wide", .int i.wd)]
def gN (C : Addr) (fs : List (Str × V)) (R : Int -> Int -> Int × Int) (m : V) : Sp := fun vs H Q _ => ∃ v n s t, vs = [v, .int n, .int s, .int t] /\ eZ H v C fs /\ 0 <= n /\ n < 10 ^ 100 /\ t - s < 10 ^ 100
 /\ ∀ k x y v' H', Wk R t (n + 1) (R n s).1 (R n s).2 k x y -> av H H' -> Dv H' v' (.tuple [.int (oy m k), gi m k (.tuple [.int x, .int y])]) -> Q v' H'
theorem uA {C : Addr} {fs : List (Str × V)} {R : Int -> Int -> Int × Int} {m : V} {H : Hp} {Q : VK} {E : XK} {v : V} {n s t : Int} (hp : eZ H v C fs) (h1 : 0 <= n) (h2 : n < 10 ^ 100) (h3 : t - s < 10 ^ 100)
 (q : ∀ k x y v' H', Wk R t (n + 1) (R n s).1 (R n s).2 k x y -> av H H' -> Dv H' v' (.tuple [.int (oy m k), gi m k (.tuple [.int x, .int y])]) -> Q v' H') : gN C fs R m [v, .int n, .int s, .int t] H Q E := ⟨v, n, s, t, rfl, hp, h1, h2, h3, q⟩
theorem xA (i : D1) (T : Txt K mg a) : aV P w K mg base gs 3 a.bM a.jo ["self", "number", "last", "now"] (gN a.ah (fB i) (Bq i.gp i.wd) i.m) := by
 obtain ⟨st, gp, wd, m, ho, h1, h2, h3, h4⟩ := i
 have yc := wx (P := P) (w := w) (base := base) (C := a.ah) (fs := [("many", m), ("start", .int st), ("gap", .int gp), ("wide", .int wd)]) (wd := wd) (m := m) T T.aA T.bK T.bw T.eY ho (by walk_at "lk") (by walk_at "lk") (by walk_at "lk")
 have cl := T.aA
 have n2 := T.cE
 have n3 := T.bw
 have xT := T.nK
 refine T.fQ.ok p3 (fun vs H Q E h => ?_) (fun dw A outer s H vs Q E hr h => ?_)
 . obtain ⟨_, _, _, _, rfl, _⟩ := h; rfl
 . obtain ⟨v, n, sd, t, rfl, hp, hn, DT, ht, k⟩ := h
   refine ⟨_, (ak (aF (aX (pv 0) cl xT yc (hr.mono (by decide)) (ae (ax aY (pv 1) ai) (ae (ax aY (ax aY (pv 2) (aH (pv 0) rfl)) (aH (pv 0) rfl)) (ae (aH (pv 0) rfl) (ae (pv 3) af))))))), ?_⟩
   repeat' (walk_at "rd1")
   rename_i hx
   have hw := uR (R := Bq gp wd) (now := t) (span := gp + wd) (wd := wd) (by omega) _ (num := n + 1) (e := sd + gp + wd) rfl (fun i => by
    unfold Bq
    rw [Int.add_mul (i : Int) 1, Int.one_mul]
    refine Prod.ext ?_ ?_ <;> simp only <;> omega)
   rw [show sd + gp + wd - wd = sd + gp by omega] at hw
   refine k _ _ _ _ _ hw ?_ hx
   walk_at "same"
def gS (gp mo n : Int) : Int := min (gp * 2 ^ (n - 1).toNat) mo
theorem yF {gp mo n : Int} (hn : 1 <= n) (h : 0 <= mo) : gS gp mo (n + 1) = min (2 * gS gp mo n) mo := by
 unfold gS
 rw [show n + 1 - 1 = n by omega, ug (show 0 < n by omega)]
 rw [<- Int.mul_assoc, Int.mul_comm gp 2, Int.mul_assoc]
 generalize gp * 2 ^ (n - 1).toNat = x
 omega
theorem uF {gp mo n : Int} (h : 1 <= gp) (h2 : gp <= mo) : 1 <= gS gp mo n := by
 unfold gS
 have h3 := vT (n - 1).toNat
 have h4 : 1 * 1 <= gp * 2 ^ (n - 1).toNat := Int.mul_le_mul h h3 (by decide) (by omega)
 omega
theorem Bw {gp mo n : Int} : gS gp mo n <= mo := by unfold gS; omega
def sH (args : List V) : Prop := ∃ st gp mo wd m, args = [.int st, .int gp, .int mo, .int wd, m] /\ 0 <= st /\ 1 <= gp /\ gp <= mo /\ 0 <= wd /\ uq m
local macro_rules | `(tactic| walk_at "use") => `(tactic| ((with_reducible refine' EZ ?e1 ?e2 ?_); (case e2 => walk_at "at"); (case e1 => exact ⟨_, _, _, _, rfl, by omega, by omega, by omega, by walk_at "mok"⟩)))
theorem rl (T : Txt K mg a) : aV P w K mg base gs 5 a.bu a.dR ["self", "start", "gap", "most", "wide", "many"] (fR a.ag sH o4) := by
 have aU : dt P w K mg base 2 a.a6 ["number", "least", "what"] [] fE := dz T
 have oq : dt P w K mg base 4 a.aQ ["self", "start", "gap", "wide", "many"] [] (fR a.ag qb pN) := ⟨⟨_, _, lO T T.aw T.bB T.bY T.cM T.bq, sg T, .nil⟩⟩
 have cl := T.aw
 have n1 := T.bQ
 refine T.ej.ok mm (fun vs H Q E h => ?_) (fun dw A outer s H vs Q E hr h => ?_)
 . obtain ⟨_, _, _, rfl, ⟨_, _, _, _, _, rfl, _⟩, _⟩ := h; rfl
 . obtain ⟨p, dx, args, rfl, ⟨st, gp, mo, wd, m, rfl, h0, h1, h2, h3, hm⟩, hp, k⟩ := h
   refine ⟨_, (aj (bV (rA rfl T.jr T.iC oq (hr.mono (by decide)) (ae (pv 0) (ae (pv 1) (ae (pv 2) (ae (pv 4) (ae (pv 5) af)))))))
    (aj (bV (aq aU (hr.mono (by decide)) rfl T.bo T.bp (ae (pv 3) (ae (pv 2) (ae aP af)))))
    (ak (iI (pv 0) (pv 3) rfl)))), ?_⟩
   repeat' (walk_at "rd1")
   simp only [oz]
   exact k
theorem vR (T : Txt K mg a) : Binds K a.dR ["self", "start", "gap", "most", "wide", "many"] [] := T.ej.binds fun _ _ _ _ _ _ s us kx hl => by
 obtain ⟨o, n, h1, h2⟩ := T.gJ.ex
 have hl : us.length = 6 := by simp at hl; omega
 match us, hl with
 | [_, _, _, _, _, _], _ => exact PySem.W.binds_K kx rfl h1 h2 rfl rfl
theorem nc (T : Txt K mg a) : dt P w K mg base 5 a.bu ["self", "start", "gap", "most", "wide", "many"] [] (fR a.ag sH o4) := ⟨⟨_, _, rl T, vR T, .nil⟩⟩
structure SIx where
 st : Int
 gp : Int
 mo : Int
 wd : Int
 m : V
 ho : uq m
 h1 : 1 <= gp
 h2 : gp <= mo
 hb : mo < 10 ^ 100
abbrev fS (i : SIx) : List (Str × V) := [("many", i.m), ("start", .int i.st), ("gap", .int i.gp), ("wide", .int i.wd), ("most", .int i.mo)]
theorem AJ (i : SIx) (T : Txt K mg a) : aV P w K mg base gs 1 a.bb a.fD ["self", "number"] (qu a.ag (fS i) (gS i.gp i.mo)) := by
 have cl := T.aw
 have n1 := T.cM
 have n2 := T.bQ
 obtain ⟨st, gp, mo, wd, m, ho, h1, h2, h3⟩ := i
 refine T.dO.ok bJ (fun vs H Q E h => ?_) (fun dw A outer s H vs Q E hr h => ?_)
 . obtain ⟨_, _, rfl, _⟩ := h; rfl
 . obtain ⟨v, n, rfl, hp, hn, hb, k⟩ := h
   refine ⟨_, (aj (aM (i := 2) bJ.nd rfl (Or.inl rfl) (aH (pv 0) rfl))
    (aj (aM (i := 3) bJ.nd rfl (Or.inl rfl) (ax vg (pv 1) ai))
    (aj (rY PassesOwn.never (PW.pt (xJ (aK HP (pv 3) ai (aO _)) (vt (aK vO (pv 2) (aH (pv 0) rfl) (aO _)))))
     (aj (aM (i := 2) bJ.nd rfl (Or.inl rfl) (ax rO (pv 2) ai))
     (ak (aM (i := 3) bJ.nd rfl (Or.inl rfl) (ax vg (pv 3) ai)))))
    (ak (aF (b7 (uv rfl) rfl T.rV PyProof.Rows.boot_min (ae (pv 2) (ae (aH (pv 0) rfl) af)))))))), ?_⟩
   repeat' (walk_at "rd1")
   refine uD (fun j σ' H' => ∃ g e, σ' = [some v, some (.int n), some (.int g), some (.int e)] /\ H' = H /\ 1 <= g /\ g <= 2 * mo /\ 0 <= e /\ j = e.toNat /\ min (g * 2 ^ e.toNat) mo = gS gp mo n) ⟨_, gp, n - 1, rfl, rfl, h1, by omega, by omega, rfl, rfl⟩ ?_
   rintro j σ' H' ⟨g, e, rfl, rfl, hg, MV, he, rfl, hG⟩
   have Aa : g * 1 <= g * 2 ^ e.toNat := Int.mul_le_mul_of_nonneg_left (vT _) (by omega)
   repeat' (walk_at "rd1")
   . refine ⟨_, ?_, _, _, rfl, rfl, by omega, by omega, by omega, rfl, ?_⟩
     . omega
     . rw [Int.mul_assoc, <- ug (by assumption)]; exact hG
   . rename_i x hx Kt Kl
     have e0 : x = gS gp mo n := by rw [<- hG]; omega
     subst e0
     exact k
   . rename_i x hx Kt Kl
     have e1 : e.toNat = 0 := by omega
     have e0 : x = gS gp mo n := by rw [<- hG, e1, Int.pow_zero, Int.mul_one]; omega
     subst e0
     exact k
theorem uB (i : SIx) (T : Txt K mg a) : dt P w K mg base 1 a.bb ["self", "number"] [] (qu a.ag (fS i) (gS i.gp i.mo)) :=
 ⟨⟨_, _, AJ i T, T.dO.binds fun _ _ _ _ _ _ => .all fun us hl => match us, hl with | [_, _], _ => rfl, .nil⟩⟩
theorem EI {gp mo N : Int} (h1 : 1 <= N) (h0 : 0 <= mo) (h : gS gp mo N = mo) (i : Nat) : gS gp mo (N + i) = mo := by
 induction i with
 | zero => simpa using h
 | succ i ih =>
   rw [show N + ((i + 1 : Nat) : Int) = N + (i : Int) + 1 by omega, yF (by omega) h0, ih]
   omega
def qg (gp mo wd n s : Int) : Int × Int := (s + gS gp mo (n + 1), s + gS gp mo (n + 1) + wd)
structure Ke extends SIx where
 w1 : 0 <= wd
 w2 : wd < 10 ^ 100
theorem xm (i : Ke) (T : Txt K mg a) : aV P w K mg base gs 3 a.bD a.iB ["self", "number", "last", "now"] (gN a.ag (fS i.toSIx) (qg i.gp i.mo i.wd) i.m) := by
 have hV := uB (P := P) (w := w) (base := base) i.toSIx T
 obtain ⟨⟨st, gp, mo, wd, m, ho, h1, h2, hb⟩, w1, w2⟩ := i
 have yc := wx (P := P) (w := w) (base := base) (C := a.ag) (fs := [("many", m), ("start", .int st), ("gap", .int gp), ("wide", .int wd), ("most", .int mo)]) (wd := wd) (m := m) T T.aw T.bB T.bq T.eu ho (by walk_at "lk") (by walk_at "lk") (by walk_at "lk")
 have cl := T.aw
 have n2 := T.bQ
 have n3 := T.bq
 have xT := T.k7
 have lj := T.dS
 dsimp only at hV w1 w2
 refine T.fe.ok bx (fun vs H Q E h => ?_) (fun dw A outer s H vs Q E hr h => ?_)
 . obtain ⟨_, _, _, _, rfl, _⟩ := h; rfl
 . obtain ⟨v, n, sd, t, rfl, hp, hn, DT, ht, k⟩ := h
   have g1 := uF (n := n + 1) h1 h2
   have g2 := Bw (gp := gp) (mo := mo) (n := n + 1)
   refine ⟨_, (aj (aM (i := 1) bx.nd rfl (Or.inl rfl) (ax aY (pv 1) ai))
    (aj (aM (i := 4) bx.nd rfl (Or.inl rfl) (aX (pv 0) cl lj hV (hr.mono (by decide)) (ae (pv 1) af)))
    (aj (aM (i := 5) bx.nd rfl (Or.inl rfl) (ax aY (ax aY (pv 2) (pv 4)) (aH (pv 0) rfl)))
    (eV (rY PassesOwn.never (PW.pt (xJ (aK Aw (pv 5) (pv 3) (aO _)) (vt (aK vO (pv 4) (aH (pv 0) rfl) (aO _)))))
     (aj (aM (i := 1) bx.nd rfl (Or.inl rfl) (ax aY (pv 1) ai))
     (aj (aM (i := 4) bx.nd rfl (Or.inl rfl) (b7 (uv rfl) rfl T.rV PyProof.Rows.boot_min (ae (ax rO (pv 4) ai) (ae (aH (pv 0) rfl) af))))
     (ak (aM (i := 5) bx.nd rfl (Or.inl rfl) (ax aY (ax aY (pv 5) (pv 4)) (aH (pv 0) rfl)))))))
    (ak (aF (aX (pv 0) cl xT yc (hr.mono (by decide)) (ae (pv 1) (ae (pv 5) (ae (pv 4) (ae (pv 3) af))))))))))), ?_⟩
   repeat' (walk_at "rd1")
   refine j5 (fun σ' H' => H' = H /\ ∃ N e, σ' = [some v, some (.int N), some (.int sd), some (.int t), some (.int (gS gp mo N)), some (.int e)] /\ n + 1 <= N /\ sd <= e /\ (∀ k x y, Wk (qg gp mo wd) t N (e - wd) e k x y -> Wk (qg gp mo wd) t (n + 1) (qg gp mo wd n sd).1 (qg gp mo wd n sd).2 k x y) /\ (t < e \/ gS gp mo N = mo)) ?_ ?_
   . refine uD (fun j σ' H' => H' = H /\ ∃ N e, σ' = [some v, some (.int N), some (.int sd), some (.int t), some (.int (gS gp mo N)), some (.int e)] /\ n + 1 <= N /\ sd <= e /\ (∀ k x y, Wk (qg gp mo wd) t N (e - wd) e k x y -> Wk (qg gp mo wd) t (n + 1) (qg gp mo wd n sd).1 (qg gp mo wd n sd).2 k x y) /\ j = (t + 1 - e).toNat) ⟨_, rfl, n + 1, sd + gS gp mo (n + 1) + wd, rfl, by omega, by omega, ?_, rfl⟩ ?_
     . intro k x y h
       rw [show sd + gS gp mo (n + 1) + wd - wd = sd + gS gp mo (n + 1) by omega] at h
       exact h
     . rintro j σ' H' ⟨rfl, N, e, rfl, hN, he, hW, rfl⟩
       have g3 := uF (n := N) h1 h2
       have g4 := Bw (gp := gp) (mo := mo) (n := N)
       have g5 := yF (gp := gp) (mo := mo) (n := N) (by omega) (by omega)
       have g6 := uF (n := N + 1) h1 h2
       repeat' (walk_at "rd1")
       . rename_i x hx Kt Kl
         have e0 : x = gS gp mo (N + 1) := by omega
         subst e0
         refine ⟨_, ?_, rfl, N + 1, e + gS gp mo (N + 1) + wd, rfl, by omega, by omega, ?_, rfl⟩
         . omega
         . intro k x y h
           refine hW _ _ _ (.next (by assumption) ?_)
           rw [show e + gS gp mo (N + 1) + wd - wd = e + gS gp mo (N + 1) by omega] at h
           exact h
       . exact ⟨rfl, N, e, rfl, hN, he, hW, .inr (by omega)⟩
       . exact ⟨rfl, N, e, rfl, hN, he, hW, .inl (by omega)⟩
   . rintro σ' H' ⟨rfl, N, e, rfl, hN, he, hW, yf⟩
     have g3 := uF (n := N) h1 h2
     have g4 := Bw (gp := gp) (mo := mo) (n := N)
     repeat' (walk_at "rd1")
     rename_i hx
     rcases yf with yf | yf
     . rw [rW (by omega) yf, Int.zero_mul, Int.add_zero, Int.add_zero] at hx
       refine k _ _ _ _ _ (hW _ _ _ (.here yf)) ?_ hx
       walk_at "same"
     . have hw := uR (R := qg gp mo wd) (now := t) (span := gS gp mo N + wd) (wd := wd) (by omega) _ (num := N) (e := e) rfl (fun i => by
        unfold qg
        have gt := EI (gp := gp) (by omega) (by omega) yf (i + 1)
        rw [show N + (i : Int) + 1 = N + ((i + 1 : Nat) : Int) by omega, gt, yf, Int.add_mul (i : Int) 1, Int.one_mul]
        refine Prod.ext ?_ ?_ <;> simp only <;> omega)
       refine k _ _ _ _ _ (hW _ _ _ hw) ?_ hx
       walk_at "same"
def yA (args : List V) : Prop := ∃ f, 0 <= f /\ (args = [.int f, .cf] \/ ∃ l, args = [.int f, .int l] /\ f <= l)
theorem u3 (T : Txt K mg a) : aV P w K mg base gs 4 a.bN a.fi ["self", "first", "last"] (fR a.ay yA yr) := by
 have aU : dt P w K mg base 2 a.a6 ["number", "least", "what"] [] fE := dz T
 have dc : dt P w K mg base 3 a.aT ["self", "many"] [] (dM a.ay) := iO T T.aS T.eQ
 have cl := T.aS
 have n1 := T.dh; have n2 := T.dI
 refine T.fK.ok jf (fun vs H Q E h => ?_) (fun dw A outer s H vs Q E hr h => ?_)
 . obtain ⟨_, _, _, rfl, ⟨_, _, rfl | ⟨_, rfl, _⟩⟩, _⟩ := h <;> rfl
 . obtain ⟨p, dx, args, rfl, ⟨f, h0, hl⟩, hp, k⟩ := h
   refine ⟨_, (aj (bV (aq aU (hr.mono (by decide)) rfl T.bo T.bp (ae (pv 1) (ae ai (ae aP af)))))
    (aj (cK (aK Bp (pv 2) iS (aO _))
     (ak (aM (i := 2) jf.nd rfl (Or.inl rfl) (pv 1)))
     aW)
    (aj (bV (aq aU (hr.mono (by decide)) rfl T.bo T.bp (ae (pv 2) (ae (pv 1) (ae aP af)))))
    (aj (bV (rA rfl T.rG T.ef dc (hr.mono (by decide)) (ae (pv 0) (ae ai af))))
    (aj (iI (pv 0) (pv 1) rfl)
    (ak (iI (pv 0) (pv 2) rfl))))))), ?_⟩
   rcases hl with rfl | ⟨l, rfl, h1⟩
   . repeat' (walk_at "rd1")
     simp only [oz]
     exact k
   . repeat' (walk_at "rd1")
     simp only [oz]
     exact k
theorem Bn (T : Txt K mg a) : Binds K a.fi ["self", "first", "last"] [] := T.fK.binds fun _ _ _ _ _ _ s us kx hl => by
 obtain ⟨o, n, h1, h2⟩ := T.kB.ex
 have hl : us.length = 3 := by simp at hl; omega
 match us, hl with
 | [_, _, _], _ => exact PySem.W.binds_K kx rfl h1 h2 rfl rfl
theorem sY (T : Txt K mg a) : dt P w K mg base 4 a.bN ["self", "first", "last"] [] (fR a.ay yA yr) := ⟨⟨_, _, u3 T, Bn T, .nil⟩⟩
def kj (C : Addr) : Sp := fun vs H Q _ => ∃ v f l, vs = [v] /\ eZ H v C [("many", .int 1), ("first", .int f), ("last", .int l)] /\ ∀ v' H', av H H' -> Dv H' v' (.tuple [.int f, .int l]) -> Q v' H'
theorem t6 {C : Addr} {H : Hp} {Q : VK} {E : XK} {v : V} {f l : Int} (hp : eZ H v C [("many", .int 1), ("first", .int f), ("last", .int l)]) (q : ∀ v' H', av H H' -> Dv H' v' (.tuple [.int f, .int l]) -> Q v' H') : kj C [v] H Q E := ⟨v, f, l, rfl, hp, q⟩
def hX : Sp := fun vs H Q _ => ∃ v n s, vs = [v, n, s] /\ Q .cf H
theorem sF {H : Hp} {Q : VK} {E : XK} {v n s : V} (q : Q .cf H) : hX [v, n, s] H Q E := ⟨v, n, s, rfl, q⟩
def kq : Sp := fun vs H Q _ => ∃ v n s t, vs = [v, n, s, t] /\ ∀ v' H', av H H' -> Dv H' v' (.tuple [.int 1, .none]) -> Q v' H'
theorem t5 {H : Hp} {Q : VK} {E : XK} {v n s t : V} (q : ∀ v' H', av H H' -> Dv H' v' (.tuple [.int 1, .none]) -> Q v' H') : kq [v, n, s, t] H Q E := ⟨v, n, s, t, rfl, q⟩
local macro_rules | `(tactic| walk_at "use") => `(tactic| first
 | ((with_reducible refine' t6 ?e (fun _ _ _ _ => ?_)); case e => walk_at "ins")
 | with_reducible refine sF ?_
 | with_reducible refine t5 (fun _ _ _ _ => ?_))
theorem xN (T : Txt K mg a) : aV P w K mg base gs 1 a.cU a.nJ ["self"] (kj a.ay) := by
 have cl := T.aS
 have n1 := T.dh; have n2 := T.dI
 refine T.jJ.ok tM (fun vs H Q E h => ?_) (fun dw A outer s H vs Q E hr h => ?_)
 . obtain ⟨_, _, _, rfl, _⟩ := h; rfl
 . obtain ⟨v, f, l, rfl, hp, k⟩ := h
   refine ⟨_, (ak (aF (fx (ae (aH (pv 0) rfl) (ae (aH (pv 0) rfl) af))))), ?_⟩
   repeat' (walk_at "rd1")
   (refine k _ _ ?_ ?_; walk_at "same"; walk_at "dat")
theorem wI (T : Txt K mg a) : dt P w K mg base 1 a.cU ["self"] [] (kj a.ay) :=
 ⟨⟨_, _, xN T, T.jJ.binds fun _ _ _ _ _ _ => .all fun us hl => match us, hl with | [_], _ => rfl, .nil⟩⟩
theorem vE (T : Txt K mg a) : aV P w K mg base gs 1 a.cH a.ll ["self", "number", "settled"] hX := by
 refine T.iL.ok tD (fun vs H Q E h => ?_) (fun dw A outer s H vs Q E hr h => ?_)
 . obtain ⟨_, _, _, rfl, _⟩ := h; rfl
 . obtain ⟨v, n, s, rfl, k⟩ := h
   refine ⟨_, (ak (aF iS)), ?_⟩
   repeat' (walk_at "rd1")
   exact k
theorem vy (T : Txt K mg a) : dt P w K mg base 1 a.cH ["self", "number", "settled"] [] hX :=
 ⟨⟨_, _, vE T, T.iL.binds fun _ _ _ _ _ _ => .all fun us hl => match us, hl with | [_, _, _], _ => rfl, .nil⟩⟩
theorem xW (T : Txt K mg a) : aV P w K mg base gs 1 a.cC a.lK ["self", "number", "last", "now"] kq := by
 refine T.iX.ok sS (fun vs H Q E h => ?_) (fun dw A outer s H vs Q E hr h => ?_)
 . obtain ⟨_, _, _, _, rfl, _⟩ := h; rfl
 . obtain ⟨v, n, s, t, rfl, k⟩ := h
   refine ⟨_, (ak (aF (fx (ae ai (ae iS af))))), ?_⟩
   repeat' (walk_at "rd1")
   (refine k _ _ ?_ ?_; walk_at "same"; walk_at "dat")
theorem vP (T : Txt K mg a) : dt P w K mg base 1 a.cC ["self", "number", "last", "now"] [] kq :=
 ⟨⟨_, _, xW T, T.iX.binds fun _ _ _ _ _ _ => .all fun us hl => match us, hl with | [_, _, _, _], _ => rfl, .nil⟩⟩
inductive RU where
 | once (f l : Int)
 | each (st sp wd : Int) (m : V)
 | behind (st gp wd : Int) (m : V)
 | du (st gp mo wd : Int) (m : V)
def KO : RU -> V
 | .once _ _ => .int 1
 | .each _ _ _ m => m
 | .behind _ _ _ m => m
 | .du _ _ _ _ m => m
def raw : RU -> Int -> Int -> Int × Int
 | .once _ _ => fun _ _ => (0, 0)
 | .each st sp wd _ => qp st sp wd
 | .behind _ gp wd _ => Bq gp wd
 | .du _ gp mo wd _ => qg gp mo wd
def oh (a : Ad) (H : Hp) (v : V) : RU -> Prop
 | .once f l => eZ H v a.ay [("many", .int 1), ("first", .int f), ("last", .int l)]
 | .each st sp wd m => eZ H v a.au [("many", m), ("start", .int st), ("step", .int sp), ("wide", .int wd)] /\ uq m /\ 0 <= st /\ st < 10 ^ 50 /\ 1 <= sp /\ sp < 10 ^ 50 /\ 0 <= wd /\ wd < 10 ^ 50
 | .behind st gp wd m => eZ H v a.ah [("many", m), ("start", .int st), ("gap", .int gp), ("wide", .int wd)] /\ uq m /\ 1 <= gp /\ gp < 10 ^ 50 /\ 0 <= wd /\ wd < 10 ^ 50
 | .du st gp mo wd m => eZ H v a.ag [("many", m), ("start", .int st), ("gap", .int gp), ("wide", .int wd), ("most", .int mo)] /\ uq m /\ 1 <= gp /\ gp <= mo /\ mo < 10 ^ 50 /\ 0 <= wd /\ wd < 10 ^ 50
theorem oh.keeps {H H' : Hp} {v : V} {r : RU} (s : av H H') (h : oh a H v r) : oh a H' v r := by
 cases r with
 | once => exact eZ.keeps s h
 | each => exact ⟨eZ.keeps s h.1, h.2⟩
 | behind => exact ⟨eZ.keeps s h.1, h.2⟩
 | du => exact ⟨eZ.keeps s h.1, h.2⟩
local macro_rules | `(tactic| walk_at "ris") => `(tactic| first
 | assumption
 | (refine' oh.keeps ?s ?m; (case s => assumption); (case m => walk_at "ris")))
def oA (C : Addr) : Sp := fun vs H Q E => ∃ i : D1, iA C (fB i) (fun _ => i.gp) i.wd i.m vs H Q E
theorem tQ (T : Txt K mg a) : dt P w K mg base 2 a.aZ ["self", "number", "settled"] [] (oA a.ah) :=
 ⟨⟨_, _, aV.ex fun i : D1 => qO T T.aA T.bK T.bw T.gG T.eY (zW T) i.ho (by walk_at "lk") (by walk_at "lk") (by walk_at "lk") (by walk_at "lk"), T.ec.binds fun _ _ _ _ _ _ => .all fun us hl => match us, hl with | [_, _, _], _ => rfl, .nil⟩⟩
def oR (C : Addr) : Sp := fun vs H Q E => ∃ i : SIx, iA C (fS i) (gS i.gp i.mo) i.wd i.m vs H Q E
theorem tL (T : Txt K mg a) : dt P w K mg base 2 a.aZ ["self", "number", "settled"] [] (oR a.ag) :=
 ⟨⟨_, _, aV.ex fun i : SIx => qO T T.aw T.bB T.bq T.dS T.eu (uB i T) i.ho (by walk_at "lk") (by walk_at "lk") (by walk_at "lk") (by walk_at "lk"), T.ec.binds fun _ _ _ _ _ _ => .all fun us hl => match us, hl with | [_, _, _], _ => rfl, .nil⟩⟩
def qV (C : Addr) : Sp := fun vs H Q E => ∃ i : D1, gN C (fB i) (Bq i.gp i.wd) i.m vs H Q E
theorem uG (T : Txt K mg a) : dt P w K mg base 3 a.bM ["self", "number", "last", "now"] [] (qV a.ah) :=
 ⟨⟨_, _, aV.ex fun i : D1 => xA i T, T.fQ.binds fun _ _ _ _ _ _ => .all fun us hl => match us, hl with | [_, _, _, _], _ => rfl, .nil⟩⟩
def qW (C : Addr) : Sp := fun vs H Q E => ∃ i : Ke, gN C (fS i.toSIx) (qg i.gp i.mo i.wd) i.m vs H Q E
theorem uX (T : Txt K mg a) : dt P w K mg base 3 a.bD ["self", "number", "last", "now"] [] (qW a.ag) :=
 ⟨⟨_, _, aV.ex fun i : Ke => xm i T, T.fe.binds fun _ _ _ _ _ _ => .all fun us hl => match us, hl with | [_, _, _, _], _ => rfl, .nil⟩⟩
set_option hygiene false in
local macro_rules | `(tactic| walk_at "om") => `(tactic| omega)
set_option hygiene false in
local macro_rules | `(tactic| walk_at "use") => `(tactic| first
 | fail)
def mD : V -> PyData
 | .int i => .int i
 | _ => .none
def rR : RU -> List PyData
 | .once f l => [.int f, .int l]
 | .each st sp wd m => [.int st, .int sp, .int wd, mD m]
 | .behind st gp wd m => [.int st, .int gp, .int wd, mD m]
 | .du st gp mo wd m => [.int st, .int gp, .int mo, .int wd, mD m]
def kR : RU -> Int
 | .once _ _ => 0
 | .each _ _ _ _ => 1
 | .behind _ _ _ _ => 2
 | .du _ _ _ _ _ => 3
def BV (m : V) : Prop := m = .cf \/ ∃ i, m = .int i /\ 1 <= i /\ i < 10 ^ 45
def HS (B : Int) : RU -> Prop
 | .once f l => 0 <= f /\ f <= l /\ l < B
 | .each st sp wd m => 0 <= st /\ st < B /\ 1 <= sp /\ sp < B /\ 0 <= wd /\ wd < sp /\ BV m
 | .behind st gp wd m => 0 <= st /\ st < B /\ 1 <= gp /\ gp < B /\ 0 <= wd /\ wd < B /\ BV m
 | .du st gp mo wd m => 0 <= st /\ st < B /\ 1 <= gp /\ gp <= mo /\ mo < B /\ 0 <= wd /\ wd < B /\ BV m
def GoodR (r : RU) : Prop := HS (10 ^ 45) r
theorem BV.Jz {m : V} (h : BV m) : uq m := by
 rcases h with h | ⟨i, h, h1, _⟩
 . exact .inl h
 . exact .inr ⟨i, h, h1⟩
theorem BV.md {m : V} (h : BV m) : pB m (mD m) := by
 rcases h with rfl | ⟨i, rfl, h1, h2⟩
 . exact .inl ⟨rfl, rfl⟩
 . exact .inr ⟨i, rfl, rfl, by omega, by omega⟩
theorem GoodR.len (r : RU) : (rR r).length <= 10 := by cases r <;> exact Nat.le_of_ble_eq_true rfl
theorem GoodR.num {r : RU} (h : GoodR r) : ∀ d ∈ rR r, f7 d := by
 intro x hx
 cases r with
 | once f l =>
   obtain ⟨h0, h1, h2⟩ := h
   simp only [rR, List.mem_cons, List.not_mem_nil, or_false] at hx
   rcases hx with rfl | rfl
   . exact .int h0 (by omega)
   . exact .int (by omega) (by omega)
 | each st sp wd m =>
   obtain ⟨h0, h1, h2, h3, h4, h5, h6⟩ := h
   simp only [rR, List.mem_cons, List.not_mem_nil, or_false] at hx
   rcases hx with rfl | rfl | rfl | rfl
   . exact .int h0 (by omega)
   . exact .int (by omega) (by omega)
   . exact .int (by omega) (by omega)
   . exact h6.md.ok
 | behind st gp wd m =>
   obtain ⟨h0, h1, h2, h3, h4, h5, h6⟩ := h
   simp only [rR, List.mem_cons, List.not_mem_nil, or_false] at hx
   rcases hx with rfl | rfl | rfl | rfl
   . exact .int h0 (by omega)
   . exact .int (by omega) (by omega)
   . exact .int (by omega) (by omega)
   . exact h6.md.ok
 | du st gp mo wd m =>
   obtain ⟨h0, h1, h2, h3, h4, h5, h6, h7⟩ := h
   simp only [rR, List.mem_cons, List.not_mem_nil, or_false] at hx
   rcases hx with rfl | rfl | rfl | rfl | rfl
   . exact .int h0 (by omega)
   . exact .int (by omega) (by omega)
   . exact .int (by omega) (by omega)
   . exact .int (by omega) (by omega)
   . exact h7.md.ok
structure WO where
 (f l : Int)
 (h0 : 0 <= f) (h1 : f < 10 ^ 64) (h2 : 0 <= l) (h3 : l < 10 ^ 64)
structure W3 where
 (st sp wd : Int) (m : V) (d : PyData)
 (h0 : 0 <= st) (h1 : st < 10 ^ 64) (h2 : 0 <= sp) (h3 : sp < 10 ^ 64) (h4 : 0 <= wd) (h5 : wd < 10 ^ 64) (hm : pB m d)
structure W4 where
 (st gp mo wd : Int) (m : V) (d : PyData)
 (h0 : 0 <= st) (h1 : st < 10 ^ 64) (h2 : 0 <= gp) (h3 : gp < 10 ^ 64) (h4 : 0 <= mo) (h5 : mo < 10 ^ 64) (h6 : 0 <= wd) (h7 : wd < 10 ^ 64) (hm : pB m d)
def D8 (C : Addr) : Sp := fun vs H Q E => ∃ i : WO, eH C "once" [("many", .int 1), ("first", .int i.f), ("last", .int i.l)] [.int i.f, .int i.l] vs H Q E
def DV (C : Addr) : Sp := fun vs H Q E => ∃ i : W3, eH C "each" [("many", i.m), ("start", .int i.st), ("step", .int i.sp), ("wide", .int i.wd)] [.int i.st, .int i.sp, .int i.wd, i.d] vs H Q E
def D9 (C : Addr) : Sp := fun vs H Q E => ∃ i : W3, eH C "behind" [("many", i.m), ("start", .int i.st), ("gap", .int i.sp), ("wide", .int i.wd)] [.int i.st, .int i.sp, .int i.wd, i.d] vs H Q E
def Ep (C : Addr) : Sp := fun vs H Q E => ∃ i : W4, eH C "slowing" [("many", i.m), ("start", .int i.st), ("gap", .int i.gp), ("wide", .int i.wd), ("most", .int i.mo)] [.int i.st, .int i.gp, .int i.mo, .int i.wd, i.d] vs H Q E
theorem Gn (T : Txt K mg a) : dt P w K mg base 4 a.cX ["self"] [] (D8 a.ay) :=
 ⟨⟨_, _, aV.ex fun i : WO => xB T i.h0 i.h1 i.h2 i.h3, T.ky.binds fun _ _ _ _ _ _ => .all fun us hl => match us, hl with | [_], _ => rfl, .nil⟩⟩
theorem Ey (T : Txt K mg a) : dt P w K mg base 4 a.c0 ["self"] [] (DV a.au) :=
 ⟨⟨_, _, aV.ex fun i : W3 => xK T i.h0 i.h1 i.h2 i.h3 i.h4 i.h5 i.hm, T.jK.binds fun _ _ _ _ _ _ => .all fun us hl => match us, hl with | [_], _ => rfl, .nil⟩⟩
theorem FY (T : Txt K mg a) : dt P w K mg base 4 a.b9 ["self"] [] (D9 a.ah) :=
 ⟨⟨_, _, aV.ex fun i : W3 => xF T i.h0 i.h1 i.h2 i.h3 i.h4 i.h5 i.hm, T.gH.binds fun _ _ _ _ _ _ => .all fun us hl => match us, hl with | [_], _ => rfl, .nil⟩⟩
theorem Fe (T : Txt K mg a) : dt P w K mg base 4 a.bS ["self"] [] (Ep a.ag) :=
 ⟨⟨_, _, aV.ex fun i : W4 => xM T i.h0 i.h1 i.h2 i.h3 i.h4 i.h5 i.h6 i.h7 i.hm, T.fO.binds fun _ _ _ _ _ _ => .all fun us hl => match us, hl with | [_], _ => rfl, .nil⟩⟩
theorem J3 {C : Addr} {H : Hp} {Q : VK} {E : XK} {v : V} {f l : Int} (hp : eZ H v C [("many", .int 1), ("first", .int f), ("last", .int l)]) (h : 0 <= f /\ f < 10 ^ 64 /\ 0 <= l /\ l < 10 ^ 64) (q : ∀ H', av H H' -> Q (.str (jc "once" [.int f, .int l])) H') : D8 C [v] H Q E := ⟨⟨f, l, h.1, h.2.1, h.2.2.1, h.2.2.2⟩, rP hp q⟩
theorem KU {C : Addr} {H : Hp} {Q : VK} {E : XK} {v : V} {st sp wd : Int} {m : V} (hp : eZ H v C [("many", m), ("start", .int st), ("step", .int sp), ("wide", .int wd)]) (hm : pB m (mD m)) (h : 0 <= st /\ st < 10 ^ 64 /\ 0 <= sp /\ sp < 10 ^ 64 /\ 0 <= wd /\ wd < 10 ^ 64) (q : ∀ H', av H H' -> Q (.str (jc "each" [.int st, .int sp, .int wd, mD m])) H') : DV C [v] H Q E := ⟨⟨st, sp, wd, m, _, h.1, h.2.1, h.2.2.1, h.2.2.2.1, h.2.2.2.2.1, h.2.2.2.2.2, hm⟩, rP hp q⟩
theorem JN {C : Addr} {H : Hp} {Q : VK} {E : XK} {v : V} {st sp wd : Int} {m : V} (hp : eZ H v C [("many", m), ("start", .int st), ("gap", .int sp), ("wide", .int wd)]) (hm : pB m (mD m)) (h : 0 <= st /\ st < 10 ^ 64 /\ 0 <= sp /\ sp < 10 ^ 64 /\ 0 <= wd /\ wd < 10 ^ 64) (q : ∀ H', av H H' -> Q (.str (jc "behind" [.int st, .int sp, .int wd, mD m])) H') : D9 C [v] H Q E := ⟨⟨st, sp, wd, m, _, h.1, h.2.1, h.2.2.1, h.2.2.2.1, h.2.2.2.2.1, h.2.2.2.2.2, hm⟩, rP hp q⟩
theorem Kz {C : Addr} {H : Hp} {Q : VK} {E : XK} {v : V} {st gp mo wd : Int} {m : V} (hp : eZ H v C [("many", m), ("start", .int st), ("gap", .int gp), ("wide", .int wd), ("most", .int mo)]) (hm : pB m (mD m)) (h : 0 <= st /\ st < 10 ^ 64 /\ 0 <= gp /\ gp < 10 ^ 64 /\ 0 <= mo /\ mo < 10 ^ 64 /\ 0 <= wd /\ wd < 10 ^ 64) (q : ∀ H', av H H' -> Q (.str (jc "slowing" [.int st, .int gp, .int mo, .int wd, mD m])) H') : Ep C [v] H Q E := ⟨⟨st, gp, mo, wd, m, _, h.1, h.2.1, h.2.2.1, h.2.2.2.1, h.2.2.2.2.1, h.2.2.2.2.2.1, h.2.2.2.2.2.2.1, h.2.2.2.2.2.2.2, hm⟩, rP hp q⟩
local macro_rules | `(tactic| walk_at "use") => `(tactic| first
 | ((with_reducible refine' J3 ?e0 ?e1 (fun _ _ => ?_)); (case e0 => walk_at "ins"); (case e1 => assumption))
 | ((with_reducible refine' KU ?e0 ?e1 ?e2 (fun _ _ => ?_)); (case e0 => walk_at "ins"); (case e1 => assumption); (case e2 => assumption))
 | ((with_reducible refine' JN ?e0 ?e1 ?e2 (fun _ _ => ?_)); (case e0 => walk_at "ins"); (case e1 => assumption); (case e2 => assumption))
 | ((with_reducible refine' Kz ?e0 ?e1 ?e2 (fun _ _ => ?_)); (case e0 => walk_at "ins"); (case e1 => assumption); (case e2 => assumption))
 | fail)
def dig (c : Nat) : Bool := decide (48 <= c) && decide (c <= 57)
def fq (l : List Nat) : List Nat := if (l.head? == some 45) = true then l.drop 1 else l
def zz (l : List Nat) : Bool := (decide (1 <= (fq l).length) && decide ((fq l).length <= 60)) && ((fq l).all dig && (l == [48] || (fq l).head? != some 48))
def oV (x : Str) : Bool := zz x.cps.toList
def Ca (n : Nat) (x : Str) : Prop := x.length <= n /\ ∀ c ∈ x.cps.toList, c < 128
theorem Ca.up {n m : Nat} {x : Str} (h : Ca n x) (hm : n <= m) : Ca m x := ⟨Nat.le_trans h.1 hm, h.2⟩
theorem lY (x : Str) : x.length = x.cps.toList.length := by show x.cps.size = _; simp
theorem ML : ∀ c : Fin 128, (Builtin.Str.occurrences "0123456789" ⟨#[c.val]⟩ 0 (Str.length "0123456789") 1).isEmpty = !dig c.val := by decide +kernel
theorem Ay {n : Int} (h1 : -(10 ^ 60) < n) (h2 : n < 10 ^ 60) : Ca 61 (toString n : String) := by
 have e : (toString n).length <= 60 + 1 := PySem.int_text_length_le10 (by decide) (by omega)
 refine ⟨by have : (Str.ofString (toString n)).length = (toString n).length := PySem.ofString_length _; omega, fun c hc => ?_⟩
 by_cases h : c < 128
 . exact h
 . exact absurd hc (PyProof.Rows.int_text_free' c ⟨by omega, by omega⟩ n)
def sT : Sp := fun vs H Q _ => ∃ x : Str, vs = [.str x] /\ Ca 300 x /\ ∀ H', av H H' -> Q (.bl (oV x)) H'
theorem Dc {H : Hp} {Q : VK} {E : XK} {x : Str} (h : Ca 300 x) (q : ∀ H', av H H' -> Q (.bl (oV x)) H') : sT [.str x] H Q E := ⟨x, rfl, h, q⟩
local macro_rules | `(tactic| walk_at "use") => `(tactic| first
 | ((with_reducible refine' Dc ?e1 (fun _ _ => ?_)); (case e1 => assumption))
 | fail)
theorem LL : (Str.ofString "-") = ⟨#[45]⟩ := by decide +kernel
theorem Kn : (Str.ofString "0") = ⟨#[48]⟩ := by decide +kernel
theorem Bo {l : List Nat} {c : Nat} (h : c ∈ fq l) : c ∈ l := by
 unfold fq at h
 split at h
 . exact List.mem_of_mem_drop h
 . exact h
theorem A7 (l : List Nat) : (fq l).length <= l.length := by
 unfold fq
 split
 . rw [List.length_drop]; omega
 . exact Nat.le_refl _
def GP (x : Str) : Str := ⟨(fq x.cps.toList).toArray⟩
theorem DE {x : Str} {n : Nat} (h : Ca n x) : ∃ r : Str, GP x = r /\ r.cps.toList = fq x.cps.toList /\ Ca n r := by
 refine ⟨_, rfl, rfl, ?_, fun c hc => h.2 c (Bo hc)⟩
 have h1 := A7 x.cps.toList
 have h2 := h.1
 rw [lY] at h2 ⊢
 show (fq x.cps.toList).length <= n
 omega
theorem DA {x : Str} (h : (x.cps.toList.head? == some 45) = true) : n9 x (some 1) none = GP x := by
 rw [xr]
 unfold GP fq
 rw [if_pos h]
theorem CH {x : Str} (h : (x.cps.toList.head? == some 45) = false) : x = GP x := by
 unfold GP fq
 rw [if_neg (by rw [h]; decide)]
theorem A8 {x : Str} (h : ¬ (fq x.cps.toList).length <= 60) : oV x = false := by
 unfold oV zz
 rw [decide_eq_false h]
 simp
theorem zi {x : Str} (h : ¬ 1 <= (fq x.cps.toList).length) : oV x = false := by
 unfold oV zz
 rw [decide_eq_false h]
 simp
theorem C0 {x : Str} (h : (fq x.cps.toList).all dig = false) : oV x = false := by
 unfold oV zz
 rw [h]
 simp
theorem BZ {x : Str} (h1 : 1 <= (fq x.cps.toList).length) (h2 : (fq x.cps.toList).length <= 60) (h3 : (fq x.cps.toList).all dig = true) : oV x = (x.cps.toList == [48] || (fq x.cps.toList).head? != some 48) := by
 unfold oV zz
 rw [h3, decide_eq_true h1, decide_eq_true h2]
 rfl
theorem DQ (c : Nat) (t : List Nat) : (!decide (V.str ⟨#[c]⟩ = V.str (Str.ofString "0"))) = ((c :: t).head? != some 48) := by
 rw [Kn, Bool.eq_iff_iff]
 simp
theorem Bm {x : Str} (h : V.str x = V.str (Str.ofString "0")) : oV x = true := by
 rw [Kn] at h
 cases h
 decide
theorem AX {r : Str} {l : List Nat} (h : r.cps.toList = l) (h1 : 1 <= l.length) : ∃ c t, l = c :: t /\ vA r.cps.toList 0 = some c := by
 subst h
 cases e : r.cps.toList with
 | nil => rw [e] at h1; simp at h1
 | cons c t => exact ⟨c, t, rfl, by have z : vA (c :: t) ((0 : Nat) : Int) = some c := yH rfl; exact z⟩
theorem Mx (x : Str) : decide (V.str x = V.str (Str.ofString "0")) = (x.cps.toList == [48]) := by
 rw [Kn, Bool.eq_iff_iff, decide_eq_true_eq, beq_iff_eq]
 constructor
 . intro h; cases h; rfl
 . intro h
   obtain ⟨⟨l⟩⟩ := x
   cases (show l = [48] from h)
   rfl
theorem Cd {x : Str} {c : Nat} {t : List Nat} (h : ¬ V.str x = V.str (Str.ofString "0")) (hl : fq x.cps.toList = c :: t) (h2 : (fq x.cps.toList).length <= 60) (h3 : (fq x.cps.toList).all dig = true) : oV x = !decide (V.str ⟨#[c]⟩ = V.str (Str.ofString "0")) := by
 rw [BZ (by rw [hl]; simp) h2 h3, <- Mx, decide_eq_false h, hl, DQ c t]
 rfl
theorem vf (T : Txt K mg a) : aV P w K mg base gs 1 a.cO a.o9 ["text"] sT := by
 refine T.lT.ok oQ (fun vs H Q E h => ?_) (fun dw A outer s H vs Q E hr h => ?_)
 . obtain ⟨_, rfl, _⟩ := h; rfl
 . obtain ⟨x, rfl, hx, q⟩ := h
   have Mq := hx.1
   refine ⟨_, (eV (aM (i := 1) oQ.nd rfl (Or.inl rfl) (oK (je (vU PySem.F.plainAttrs_str PySem.F.slot_str_startswith PySem.F.type_str_startswith zY (pv 0) (ae aP af)) (fun _ => rfl)) (sL B7 (pv 0) (rL ai) yM) (pv 0)))
    (aj (cK (PW.pt (yG (rT (BJ Aw Aw ai (b7 qv rfl T.qy PySem.boot_len (ae (pv 1) af)) (ip (v := .int 60) rfl T.kN ⟨_, rfl⟩))) (uU (rT (je (b7 (y8 rfl) rfl T.uY PyProof.Rows.boot_all (ae (yi (T := ["sign"]) (M := ["text", "row"]) (Jw (ao iq) ["text", "row"] rfl rfl (by decide +kernel)) rfl (FX (pv 1)) (fun _ _ _ _ _ => (jM (i := 0) (show List.Nodup (["sign", "text", "row"] : List Str) by decide +kernel) rfl (Or.inl rfl))) (mh (by decide)) (fun _ _ _ _ _ => rC) (fun _ _ _ _ _ => (gx B2 (pv 0) (ip (v := .str "0123456789") rfl T.sq ⟨_, rfl⟩) rfl))) af)) (fun _ => rfl))))))
     (ak (aF t8))
     aW)
    (ak (aF (HN (gx (cF hr.qw) (pv 0) aP (aO _)) (vb (gx (qB hr.qw) (dN hJ (pv 1) ai (fun _ _ => rfl)) aP (aO _)))))))), ?_⟩
   refine j5 (fun σ' H' => H' = H /\ σ' = [some (.str x), some (.str (GP x))]) ?_ ?_
   . repeat' (walk_at "rd1")
     . rename_i hb
       rw [LL, sW] at hb
       rw [DA hb]
       exact ⟨rfl, rfl⟩
     . rename_i hb
       rw [LL, sW] at hb
       exact ⟨rfl, by rw [<- CH hb]; rfl⟩
   rintro σ' H' ⟨rfl, rfl⟩
   obtain ⟨r, er, Kx, Lf⟩ := DE hx
   rw [er]
   have wX := Lf.1
   have wU : r.length = (fq x.cps.toList).length := by rw [lY, Kx]
   repeat' (walk_at "rd1")
   . rename_i b1 b2
     have := q H' (av.refl _)
     rw [A8 (by omega)] at this
     exact this
   . rename_i b1 b2
     refine Hm (fun _ => true) (fun c => .bool (dig c)) (by show r.length <= 4000; omega) (fun _ => rfl) (fun c H2 N hc sm yes no => ?_) (fun pq H2 sm hn Ab => ?_)
     . have ho := ML ⟨c, Lf.2 c hc⟩
       repeat' (walk_at "rd1")
       refine uo (fun _ => ?_) (fun hb => by cases hb)
       repeat' (walk_at "rd1")
       refine yes rfl _ _ (av.refl _) ?_
       have zh : (!(Builtin.Str.occurrences "0123456789" ⟨#[c]⟩ 0 (Str.length "0123456789") 1).isEmpty) = dig c := by rw [ho, Bool.not_not]
       rw [<- zh]
       exact .bl _
     . have Ma : kQ H2 pq ((r.cps.toList.map dig).map PyData.bool) := by
        have e : (r.cps.toList.filter fun _ => true) = r.cps.toList := List.filter_eq_self.mpr (fun _ _ => rfl)
        rw [e] at Ab
        rw [List.map_map]
        exact Ab
       have wW : (r.cps.toList.map dig).all id = (fq x.cps.toList).all dig := by rw [List.all_map, Kx]; rfl
       repeat' (walk_at "rd1")
       . rename_i hb
         rw [wW] at hb
         have := q H2 sm
         rw [C0 hb] at this
         exact this
       . rename_i hb hz
         have := q H2 sm
         rw [Bm hz] at this
         exact this
       . rename_i hb hz
         obtain ⟨c, t, el, ei⟩ := AX Kx (by omega)
         refine GC (by rw [PySem.sizeLine_eq]; omega) ei ?_
         repeat' (walk_at "rd1")
         have := q H2 sm
         rw [Cd hz el (by omega) (by rw [<- wW]; exact hb)] at this
         exact this
   . rename_i b1 b2
     have := q H' (av.refl _)
     rw [zi (by omega)] at this
     exact this
theorem tX (T : Txt K mg a) : dt P w K mg base 1 a.cO ["text"] [] sT :=
 ⟨⟨_, _, vf T, T.lT.binds fun _ _ _ _ _ _ => .all fun us hl => match us, hl with | [_], _ => rfl, .nil⟩⟩
theorem v7 {n : Int} (h0 : 0 <= n) : ∃ m : Nat, n = m /\ (dr n).cps.toList = (Nat.toDigits 10 m).map Char.toNat := by
 obtain ⟨m, rfl⟩ := Int.eq_ofNat_of_zero_le h0
 exact ⟨m, rfl, PySem.W.KIN.signs_num m⟩
theorem v3 (m : Nat) : PySem.NumText.AllDigits ((Nat.toDigits 10 m).map Char.toNat) := fun c hc => by
 obtain ⟨d, hd, rfl⟩ := List.mem_map.mp hc
 have := Nat.isDigit_of_mem_toDigits (by decide) (by decide) hd
 simpa [Char.isDigit, UInt32.le_iff_toNat_le] using this
theorem z6 (m : Nat) : (Nat.toDigits 10 m).map Char.toNat = [48] \/ ((Nat.toDigits 10 m).map Char.toNat).head? ≠ some 48 := by
 have h1 := PySem.NumText.toDigits_all _ (v3 m)
 rw [PySem.W.KIN.val_back] at h1
 by_cases h : ((Nat.toDigits 10 m).map Char.toNat).head? = some 48
 . left
   cases e : (Nat.toDigits 10 m).map Char.toNat with
   | nil => rw [e] at h; cases h
   | cons c r =>
     rw [e] at h
     have hc : c = 48 := by simpa using h
     subst hc
     rw [e] at h1
     rw [List.dropWhile_cons, if_pos (by decide)] at h1
     have hlen : (Nat.toDigits 10 m).length = r.length + 1 := by
      have := congrArg List.length e
      simpa using this
     have hle : (r.dropWhile fun x => x == 48).length <= r.length := (List.dropWhile_sublist _).length_le
     cases e2 : r.dropWhile fun x => x == 48 with
     | nil =>
       rw [e2] at h1
       rw [h1] at e
       exact e.symm
     | cons d t =>
       rw [e2] at h1 hle
       have := congrArg List.length h1
       simp only [List.length_map] at this
       omega
 . exact .inr h
theorem Dj {n : Int} (h0 : 0 <= n) (h1 : n < 10 ^ 60) : oV (dr n) = true /\ PySem.intText? (dr n) = some n := by
 obtain ⟨m, rfl, hl⟩ := v7 h0
 have ha := v3 m
 have F3 : (Nat.toDigits 10 m).map Char.toNat ≠ [] := by
  intro z
  exact Nat.toDigits_ne_nil (List.map_eq_nil_iff.mp z)
 have hlen : (dr m).length <= 60 := by
  have e : (toString (m : Int)).length <= 60 := by
   show (Nat.repr m).length <= 60
   have h := (Nat.length_toDigits_le_iff (b := 10) (k := 60) (by decide) (by decide) (n := m)).mpr (by omega)
   rw [<- String.length_toList, Nat.toList_repr]
   exact h
  have : (dr m).length = (toString (m : Int)).length := PySem.ofString_length _
  omega
 have Kq : fq (dr m).cps.toList = (dr m).cps.toList := by
  unfold fq
  rw [if_neg]
  intro z
  rw [hl] at z
  cases e : (Nat.toDigits 10 m).map Char.toNat with
  | nil => exact F3 e
  | cons c r =>
    rw [e] at z ha
    have : c = 45 := by simpa using z
    have := ha c List.mem_cons_self
    omega
 constructor
 . unfold oV zz
   rw [Kq]
   rw [lY] at hlen
   have Kp : 1 <= (dr m).cps.toList.length := by
    rw [hl]
    cases e : (Nat.toDigits 10 m).map Char.toNat with
    | nil => exact absurd e F3
    | cons c r => simp
   rw [decide_eq_true Kp, decide_eq_true hlen]
   have Ki : (dr m).cps.toList.all dig = true := List.all_eq_true.mpr fun c hc => by
    rw [hl] at hc
    have := ha c hc
    unfold dig
    rw [decide_eq_true this.1, decide_eq_true this.2]; rfl
   rw [Ki, hl]
   rcases z6 m with e | e
   . rw [e]; rfl
   . have : (((Nat.toDigits 10 m).map Char.toNat).head? != some 48) = true := by simpa [bne_iff_ne] using e
     rw [this]; simp
 . have := PySem.intText_digits (x := dr m) (by rw [hl]; exact ha) (by rw [hl]; exact F3) (by omega)
   rw [this, hl, PySem.W.KIN.val_back]
theorem CT {n : Int} (h0 : 0 <= n) (h1 : n < 10 ^ 60) : Ca 300 (dr n) := (Ay (by omega) h1).up (by decide)
theorem KS : (Str.ofString " ") = ⟨#[32]⟩ := by decide +kernel
theorem zK (d : PyData) : 32 ∉ (dy d).cps.toList := by
 cases d with
 | int n => exact PyProof.Rows.int_text_free' 32 ⟨by decide, by decide⟩ n
 | _ => show 32 ∉ (Str.ofString "ever").cps.toList; decide +kernel
theorem Bi (n : Int) : ¬ V.str (dr n) = V.str (Str.ofString "ever") := fun z => by
 injection z with z
 have h := PyProof.Rows.int_text_free' 101 ⟨by decide, by decide⟩ n
 have z' : Str.ofString (toString n) = Str.ofString "ever" := z
 rw [z'] at h
 exact h (by decide +kernel)
def vB : RU -> Str
 | .once _ _ => "once"
 | .each _ _ _ _ => "each"
 | .behind _ _ _ _ => "behind"
 | .du _ _ _ _ _ => "slowing"
def j8 (r : RU) : Str := jc (vB r) (rR r)
theorem Dw : ∀ r : RU, 32 ∉ (vB r).cps.toList
 | .once _ _ => show 32 ∉ (Str.ofString "once").cps.toList by decide +kernel
 | .each _ _ _ _ => show 32 ∉ (Str.ofString "each").cps.toList by decide +kernel
 | .behind _ _ _ _ => show 32 ∉ (Str.ofString "behind").cps.toList by decide +kernel
 | .du _ _ _ _ _ => show 32 ∉ (Str.ofString "slowing").cps.toList by decide +kernel
theorem zc (r : RU) : Txt.split (j8 r) (Str.ofString " ") = vB r :: (rR r).map dy := by
 unfold j8 jc
 rw [KS]
 refine xk (by simp) fun x hx => ?_
 rcases List.mem_cons.mp hx with rfl | hx
 . exact Dw r
 . obtain ⟨d, _, rfl⟩ := List.mem_map.mp hx
   exact zK d
theorem Ba : ∀ (ds : List PyData) (kd : Str), (∀ d ∈ ds, f7 d) -> kd.length <= 20 -> ds.length <= 10 -> (jc kd ds).length <= 700 := by
 have key : ∀ (ds : List PyData), (∀ d ∈ ds, f7 d) -> ((ds.map dy).flatMap fun p => (Str.ofString " ").cps.toList ++ p.cps.toList).length <= 66 * ds.length := by
  intro ds h
  induction ds with
  | nil => exact Nat.le_refl _
  | cons d ds ih =>
    have h1 := uw (h d List.mem_cons_self)
    have h2 := ih fun x hx => h x (List.mem_cons_of_mem _ hx)
    rw [List.map_cons, List.flatMap_cons, List.length_append, List.length_append, List.length_cons, KS]
    rw [KS] at h2
    rw [lY] at h1
    have : (⟨#[32]⟩ : Str).cps.toList.length = 1 := rfl
    omega
 intro ds kd h hk hd
 have h1 := key ds h
 unfold jc
 rw [lY, gY, List.length_append]
 rw [lY] at hk
 omega
theorem GoodR.Ku {r : RU} (h : GoodR r) : (j8 r).length <= 700 := Ba _ _ h.num (by cases r <;> exact Nat.le_of_ble_eq_true rfl) (GoodR.len r)
def qa : Sp := fun vs H Q _ => vs = [.bl true] /\ Q .cf H
theorem Bj {H : Hp} {Q : VK} {E : XK} {b : Bool} (hb : b = true) (q : Q .cf H) : qa [.bl b] H Q E := by subst hb; exact ⟨rfl, q⟩
def sU : Sp := fun vs H Q _ => ∃ n : Int, vs = [.str (dr n)] /\ 0 <= n /\ n < 10 ^ 60 /\ ∀ H', av H H' -> Q (.int n) H'
theorem BW {H : Hp} {Q : VK} {E : XK} {n : Int} (h0 : 0 <= n) (h1 : n < 10 ^ 60) (q : ∀ H', av H H' -> Q (.int n) H') : sU [.str (dr n)] H Q E := ⟨n, rfl, h0, h1, q⟩
def E5 (d : PyData) : Prop := d = .none \/ ∃ n, d = .int n /\ 0 <= n /\ n < 10 ^ 60
def tG : Sp := fun vs H Q _ => ∃ d, vs = [.str (dy d)] /\ E5 d /\ ∀ v H', av H H' -> Dv H' v d -> Q v H'
theorem DN {H : Hp} {Q : VK} {E : XK} {d : PyData} (h : E5 d) (q : ∀ v H', av H H' -> Dv H' v d -> Q v H') : tG [.str (dy d)] H Q E := ⟨d, rfl, h, q⟩
def qc : Sp := fun vs H Q _ => ∃ p r, vs = [.ref p] /\ GoodR r /\ kQ H p ((vB r :: (rR r).map dy).map PyData.str) /\ ∀ v' H', av H H' -> Dv H' v' (.tuple [.str (vB r), .list (rR r)]) -> Q v' H'
theorem Ah {H : Hp} {Q : VK} {E : XK} {p : Addr} {r : RU} {ds : List PyData} (hg : GoodR r) (hd : kQ H p ds) (e : ds = (vB r :: (rR r).map dy).map PyData.str) (q : ∀ v' H', av H H' -> Dv H' v' (.tuple [.str (vB r), .list (rR r)]) -> Q v' H') : qc [.ref p] H Q E := by subst e; exact ⟨p, r, rfl, hg, hd, q⟩
def uQ (a : Ad) : Sp := fun vs H Q _ => ∃ v r, vs = [.str (vB r), v] /\ GoodR r /\ Dv H v (.list (rR r)) /\ ∀ v' H', av H H' -> oh a H' v' r -> Q v' H'
theorem Fy {a : Ad} {H : Hp} {Q : VK} {E : XK} {k : Str} {v : V} {r : RU} (hk : k = vB r) (hg : GoodR r) (hd : Dv H v (.list (rR r))) (q : ∀ v' H', av H H' -> oh a H' v' r -> Q v' H') : uQ a [.str k, v] H Q E := by subst hk; exact ⟨v, r, rfl, hg, hd, q⟩
def rQ (a : Ad) : Sp := fun vs H Q _ => ∃ r, vs = [.str (j8 r)] /\ GoodR r /\ ∀ v' H', av H H' -> oh a H' v' r -> Q v' H'
theorem C7 {a : Ad} {H : Hp} {Q : VK} {E : XK} {x : Str} {r : RU} (hk : x = j8 r) (hg : GoodR r) (q : ∀ v' H', av H H' -> oh a H' v' r -> Q v' H') : rQ a [.str x] H Q E := by subst hk; exact ⟨r, rfl, hg, q⟩
local macro_rules | `(tactic| walk_at "use") => `(tactic| first
 | ((with_reducible refine' Bj ?e1 ?_); (case e1 => first | rfl | assumption))
 | ((with_reducible refine' BW ?e1 ?e2 (fun _ _ => ?_)); (case e1 => omega); (case e2 => omega))
 | ((with_reducible refine' DN ?e1 (fun _ _ _ _ => ?_)); (case e1 => assumption))
 | fail)
theorem zf (T : Txt K mg a) : aV P w K mg base gs 1 a.fC a.t7 ["good"] qa := by
 refine T.se.ok zR (fun vs H Q E h => ?_) (fun dw A outer s H vs Q E hr h => ?_)
 . obtain ⟨rfl, _⟩ := h; rfl
 . obtain ⟨rfl, q⟩ := h
   refine ⟨_, (ak (cK (rT (je (pv 0) (fun _ => rfl)))
    (ak lu)
    aW)), ?_⟩
   repeat' (walk_at "rd1")
   exact q
theorem og (T : Txt K mg a) : dt P w K mg base 1 a.fC ["good"] [] qa :=
 ⟨⟨_, _, zf T, T.se.binds fun _ _ _ _ _ _ => .all fun us hl => match us, hl with | [_], _ => rfl, .nil⟩⟩
theorem Dh (T : Txt K mg a) : aV P w K mg base gs 2 a.cA a.mJ ["text"] sU := by
 have lD := og (P := P) (w := w) (base := base) T
 have wj := tX (P := P) (w := w) (base := base) T
 refine T.jD.ok tN (fun vs H Q E h => ?_) (fun dw A outer s H vs Q E hr h => ?_)
 . obtain ⟨_, rfl, _⟩ := h; rfl
 . obtain ⟨n, rfl, h0, h1, q⟩ := h
   obtain ⟨f1, f2⟩ := Dj h0 h1
   have f3 := CT h0 h1
   have f4 := f3.1
   refine ⟨_, (aj (bV (aq lD (hr.mono (by decide)) rfl T.l0 T.lW (ae (ye (b7 fF rfl T.bh PyProof.Rows.boot_isinstance (ae (pv 0) (ae (rM (v := .ty "str") rfl T.cZ PyProof.Rows.boot_str rfl) af))) (vb (aq wj (hr.mono (by decide)) rfl T.pJ T.ph (ae (pv 0) af)))) af)))
    (ak (aF (bE zX rfl T.sf PyProof.Rows.boot_int (ae (pv 0) af))))), ?_⟩
   repeat' (walk_at "rd1")
   exact q _ (by walk_at "same")
theorem vD (T : Txt K mg a) : dt P w K mg base 2 a.cA ["text"] [] sU :=
 ⟨⟨_, _, Dh T, T.jD.binds fun _ _ _ _ _ _ => .all fun us hl => match us, hl with | [_], _ => rfl, .nil⟩⟩
theorem Ax (T : Txt K mg a) : aV P w K mg base gs 3 a.cQ a.pW ["word"] tG := by
 have gA := vD (P := P) (w := w) (base := base) T
 refine T.lB.ok uS (fun vs H Q E h => ?_) (fun dw A outer s H vs Q E hr h => ?_)
 . obtain ⟨_, rfl, _⟩ := h; rfl
 . obtain ⟨d, rfl, hd, q⟩ := h
   refine ⟨_, (ak (aF (oK (aK (cF hr.qw) (pv 0) aP (aO _)) iS (aq gA (hr.mono (by decide)) rfl T.fu T.fy (ae (pv 0) af))))), ?_⟩
   rcases hd with rfl | ⟨n, rfl, h0, h1⟩
   . simp only [dy]
     repeat' (walk_at "rd1")
     exact q _ _ (by walk_at "same") .cf
   . simp only [dy]
     have hn := Bi n
     repeat' (walk_at "rd1")
     . exact absurd (by assumption) hn
     . exact q _ _ (by walk_at "same") (.int _)
theorem zm (T : Txt K mg a) : dt P w K mg base 3 a.cQ ["word"] [] tG :=
 ⟨⟨_, _, Ax T, T.lB.binds fun _ _ _ _ _ _ => .all fun us hl => match us, hl with | [_], _ => rfl, .nil⟩⟩
theorem yV : BP cG (Str.ofString "once") = some 2 := by decide +kernel
theorem yC : BP cG (Str.ofString "each") = some 4 := by decide +kernel
theorem uz : BP cG (Str.ofString "behind") = some 4 := by decide +kernel
theorem yj : BP cG (Str.ofString "slowing") = some 5 := by decide +kernel
theorem En : ¬ V.str (Str.ofString "each") = V.str (Str.ofString "once") /\ ¬ V.str (Str.ofString "behind") = V.str (Str.ofString "once") /\ ¬ V.str (Str.ofString "slowing") = V.str (Str.ofString "once") /\ ¬ V.str (Str.ofString "behind") = V.str (Str.ofString "each") /\ ¬ V.str (Str.ofString "slowing") = V.str (Str.ofString "each") /\ ¬ V.str (Str.ofString "slowing") = V.str (Str.ofString "behind") := by
 refine ⟨?_, ?_, ?_, ?_, ?_, ?_⟩ <;> (intro z; injection z with z; revert z; decide +kernel)
theorem BV.nb {m : V} (h : BV m) : E5 (mD m) := by
 rcases h with rfl | ⟨i, rfl, h1, h2⟩
 . exact .inl rfl
 . exact .inr ⟨i, rfl, by omega, by omega⟩
local macro_rules | `(tactic| walk_at "rd1") => `(tactic| first
 | with_reducible refine Gy ?_
 | with_reducible refine CK ?_
 | ((with_reducible refine' G3 ?e1 ?_); (case e1 => first | exact yV | exact yC | exact uz | exact yj))
 | ((with_reducible refine' Fu ?e1 ?_); (case e1 => first | exact yV | exact yC | exact uz | exact yj))
 | fail)
local macro_rules | `(tactic| walk_at "rd1") => `(tactic| first
 | ((with_reducible refine' A0 ?e1 ?e2 ?e3 (fun _ _ _ _ _ => ?_)); (case e1 => exact yU rfl); (case e2 => walk_at "dats"); (case e3 => assumption))
 | fail)
theorem vz (ns : List Int) : (ns.filter fun _ => true) = ns := List.filter_eq_self.mpr (by simp)
theorem xo (m : V) : wK (mD m) = true := by cases m <;> rfl
theorem z0 (T : Txt K mg a) (dC : k9 w K a.cL cG) : aV P w K mg base gs 4 a.ck a.mE ["words"] qc := by
 have lD := og (P := P) (w := w) (base := base) T
 have gA := vD (P := P) (w := w) (base := base) T
 have wa := zm (P := P) (w := w) (base := base) T
 obtain ⟨k1, k2, k3, k4, k5, k6⟩ := En
 refine T.kr.ok nr (fun vs H Q E h => ?_) (fun dw A outer s H vs Q E hr h => ?_)
 . obtain ⟨_, _, rfl, _⟩ := h; rfl
 . obtain ⟨p, r, rfl, hg, hd, q⟩ := h
   refine ⟨_, (aj (aM (i := 1) nr.nd rfl (Or.inl rfl) (oK (je (pv 0) (fun _ => rfl)) (dN hJ (pv 0) ai (fun _ _ => rfl)) aP))
    (aj (bV (aq lD (hr.mono (by decide)) rfl T.l0 T.lW (ae (ye (Gr (EW dC (pv 1) (ip (v := .ref a.cL) rfl T.ku rfl)) rfl) (vb (gx (cF hr.qw) (b7 qv rfl T.qy PySem.boot_len (ae (pv 0) af)) (ax aY (CI dC (ip (v := .ref a.cL) rfl T.ku rfl) (pv 1) (fun _ _ => rfl)) ai) (aO _)))) af)))
    (aj (cK (aK (cF hr.qw) (pv 1) aP (aO _))
     (ak (aF (fx (ae (pv 1) (ae (yi (T := ["word"]) (M := ["words", "kind"]) (Jw (ao eC) ["words", "kind"] rfl rfl (by decide +kernel)) rfl (uT (sL yT (pv 0) (rL ai) yM)) (fun _ _ _ _ _ => (jM (i := 0) (show List.Nodup (["word", "words", "kind"] : List Str) by decide +kernel) rfl (Or.inl rfl))) (mh (by decide)) (fun _ _ _ _ _ => rC) (fun _ _ _ _ _ => (aq gA (hr.mono (by decide)) rfl T.fu T.fy (ae (pv 0) af)))) af)))))
     aW)
    (ak (aF (fx (ae (pv 1) (ae (ax xV (yi (T := ["word"]) (M := ["words", "kind"]) (Jw (ao eC) ["words", "kind"] rfl rfl (by decide +kernel)) rfl (uT (sL yT (pv 0) (rL ai) (rL (DW A5 ai)))) (fun _ _ _ _ _ => (jM (i := 0) (show List.Nodup (["word", "words", "kind"] : List Str) by decide +kernel) rfl (Or.inl rfl))) (mh (by decide)) (fun _ _ _ _ _ => rC) (fun _ _ _ _ _ => (aq gA (hr.mono (by decide)) rfl T.fu T.fy (ae (pv 0) af)))) (fw (ae (aq wa (hr.mono (by decide)) rfl T.pe T.o8 (ae (dN hJ (pv 0) (DW A5 ai) (fun _ _ => rfl)) af)) af))) af)))))))), ?_⟩
   cases r with
   | once f l =>
     obtain ⟨g0, g1, g2⟩ := hg
     simp only [vB, rR, dy, List.map_cons, List.map_nil] at hd q
     repeat' (walk_at "rd1")
     refine Bl 1 hd (fun q1 H1 s1 n1 Ff => ?_)
     refine A1 (cs := [f, l]) (gd := fun n => .str (dr n)) (fun _ => true) (fun n => .int n) Ff.dv (Nat.le_of_ble_eq_true rfl) (fun _ => rfl) (fun x c H' N hc Jx Ae yes no => ?_) (fun pq H5 Jl Jr Ab => ?_)
     . have Fv : 0 <= c /\ c < 10 ^ 60 := by
        simp only [List.mem_cons, List.not_mem_nil, or_false] at hc
        rcases hc with rfl | rfl <;> omega
       cases Ae
       obtain ⟨JL, Kh⟩ := Fv
       repeat' (walk_at "rd1")
       refine uo (fun _ => ?_) (fun hb => by cases hb)
       repeat' (walk_at "rd1")
       exact yes rfl _ _ (by walk_at "same") (by walk_at "dat")
     . rw [vz] at Ab
       repeat' (walk_at "rd1")
       exact q _ _ (by walk_at "same") (by walk_at "dat")
   | each st sp wd m =>
     obtain ⟨g0, g1, g2, g3, g4, g5, hm⟩ := hg
     have hm := hm.nb
     have hI : a7 [mD m] = true := by simp [a7, xo]
     have hd : kQ H p [.str (Str.ofString "each"), .str (dr st), .str (dr sp), .str (dr wd), .str (dy (mD m))] := hd
     have q : ∀ v' H', av H H' -> Dv H' v' (.tuple [.str (Str.ofString "each"), .list [.int st, .int sp, .int wd, mD m]]) -> Q v' H' := q
     repeat' (walk_at "rd1")
     . exact absurd (by assumption) k1
     . refine x4 hd (Nat.le_of_ble_eq_true rfl) (fun q1 H1 s1 n1 Ff => ?_)
       refine A1 (cs := [st, sp, wd]) (gd := fun n => .str (dr n)) (fun _ => true) (fun n => .int n) Ff.dv (Nat.le_of_ble_eq_true rfl) (fun _ => rfl) (fun x c H' N hc Jx Ae yes no => ?_) (fun pq H5 Jl Jr Ab => ?_)
       . have Fv : 0 <= c /\ c < 10 ^ 60 := by
          simp only [List.mem_cons, List.not_mem_nil, or_false] at hc
          rcases hc with rfl | rfl | rfl <;> omega
         cases Ae
         obtain ⟨JL, Kh⟩ := Fv
         repeat' (walk_at "rd1")
         refine uo (fun _ => ?_) (fun hb => by cases hb)
         repeat' (walk_at "rd1")
         exact yes rfl _ _ (by walk_at "same") (by walk_at "dat")
       . rw [vz] at Ab
         repeat' (walk_at "rd1")
         exact q _ _ (by walk_at "same") (by walk_at "dat")
   | behind st gp wd m =>
     obtain ⟨g0, g1, g2, g3, g4, g5, hm⟩ := hg
     have hm := hm.nb
     have hI : a7 [mD m] = true := by simp [a7, xo]
     have hd : kQ H p [.str (Str.ofString "behind"), .str (dr st), .str (dr gp), .str (dr wd), .str (dy (mD m))] := hd
     have q : ∀ v' H', av H H' -> Dv H' v' (.tuple [.str (Str.ofString "behind"), .list [.int st, .int gp, .int wd, mD m]]) -> Q v' H' := q
     repeat' (walk_at "rd1")
     . exact absurd (by assumption) k2
     . refine x4 hd (Nat.le_of_ble_eq_true rfl) (fun q1 H1 s1 n1 Ff => ?_)
       refine A1 (cs := [st, gp, wd]) (gd := fun n => .str (dr n)) (fun _ => true) (fun n => .int n) Ff.dv (Nat.le_of_ble_eq_true rfl) (fun _ => rfl) (fun x c H' N hc Jx Ae yes no => ?_) (fun pq H5 Jl Jr Ab => ?_)
       . have Fv : 0 <= c /\ c < 10 ^ 60 := by
          simp only [List.mem_cons, List.not_mem_nil, or_false] at hc
          rcases hc with rfl | rfl | rfl <;> omega
         cases Ae
         obtain ⟨JL, Kh⟩ := Fv
         repeat' (walk_at "rd1")
         refine uo (fun _ => ?_) (fun hb => by cases hb)
         repeat' (walk_at "rd1")
         exact yes rfl _ _ (by walk_at "same") (by walk_at "dat")
       . rw [vz] at Ab
         repeat' (walk_at "rd1")
         exact q _ _ (by walk_at "same") (by walk_at "dat")
   | du st gp mo wd m =>
     obtain ⟨g0, g1, g2, g3, g4, g5, g6, hm⟩ := hg
     have hm := hm.nb
     have hI : a7 [mD m] = true := by simp [a7, xo]
     have hd : kQ H p [.str (Str.ofString "slowing"), .str (dr st), .str (dr gp), .str (dr mo), .str (dr wd), .str (dy (mD m))] := hd
     have q : ∀ v' H', av H H' -> Dv H' v' (.tuple [.str (Str.ofString "slowing"), .list [.int st, .int gp, .int mo, .int wd, mD m]]) -> Q v' H' := q
     repeat' (walk_at "rd1")
     . exact absurd (by assumption) k3
     . refine x4 hd (Nat.le_of_ble_eq_true rfl) (fun q1 H1 s1 n1 Ff => ?_)
       refine A1 (cs := [st, gp, mo, wd]) (gd := fun n => .str (dr n)) (fun _ => true) (fun n => .int n) Ff.dv (Nat.le_of_ble_eq_true rfl) (fun _ => rfl) (fun x c H' N hc Jx Ae yes no => ?_) (fun pq H5 Jl Jr Ab => ?_)
       . have Fv : 0 <= c /\ c < 10 ^ 60 := by
          simp only [List.mem_cons, List.not_mem_nil, or_false] at hc
          rcases hc with rfl | rfl | rfl | rfl <;> omega
         cases Ae
         obtain ⟨JL, Kh⟩ := Fv
         repeat' (walk_at "rd1")
         refine uo (fun _ => ?_) (fun hb => by cases hb)
         repeat' (walk_at "rd1")
         exact yes rfl _ _ (by walk_at "same") (by walk_at "dat")
       . rw [vz] at Ab
         repeat' (walk_at "rd1")
         exact q _ _ (by walk_at "same") (by walk_at "dat")
theorem xc (T : Txt K mg a) (dC : k9 w K a.cL cG) : dt P w K mg base 4 a.ck ["words"] [] qc :=
 ⟨⟨_, _, z0 T dC, T.kr.binds fun _ _ _ _ _ _ => .all fun us hl => match us, hl with | [_], _ => rfl, .nil⟩⟩
theorem Di (T : Txt K mg a) : aV P w K mg base gs 7 a.cR a.oP ["kind", "numbers"] (uQ a) := by
 have tH := sY (P := P) (w := w) (base := base) T
 have tE := tB (P := P) (w := w) (base := base) T
 have nT := o2 (P := P) (w := w) (base := base) T
 have kW := nc (P := P) (w := w) (base := base) T
 obtain ⟨k1, k2, k3, k4, k5, k6⟩ := En
 refine T.lR.ok vp (fun vs H Q E h => ?_) (fun dw A outer s H vs Q E hr h => ?_)
 . obtain ⟨_, _, rfl, _⟩ := h; rfl
 . obtain ⟨v, r, rfl, hg, hd, q⟩ := h
   refine ⟨_, (aj (cK (aK (cF hr.qw) (pv 0) aP (aO _))
    (ak (aF (iy T.xx tH (hr.mono (by decide)) rfl T.rB (ae (dN hJ (pv 1) ai (fun _ _ => rfl)) (ae (dN hJ (pv 1) ai (fun _ _ => rfl)) af)))))
    aW)
    (aj (cK (aK (cF hr.qw) (pv 0) aP (aO _))
     (ak (aF (iy T.wV tE (hr.mono (by decide)) rfl T.rJ (ae (dN hJ (pv 1) ai (fun _ _ => rfl)) (ae (dN hJ (pv 1) ai (fun _ _ => rfl)) (ae (dN hJ (pv 1) ai (fun _ _ => rfl)) (ae (dN hJ (pv 1) ai (fun _ _ => rfl)) af)))))))
     aW)
    (aj (cK (aK (cF hr.qw) (pv 0) aP (aO _))
     (ak (aF (iy T.tq nT (hr.mono (by decide)) rfl T.jr (ae (dN hJ (pv 1) ai (fun _ _ => rfl)) (ae (dN hJ (pv 1) ai (fun _ _ => rfl)) (ae (dN hJ (pv 1) ai (fun _ _ => rfl)) (ae (dN hJ (pv 1) ai (fun _ _ => rfl)) af)))))))
     aW)
    (ak (aF (iy T.qA kW (hr.mono (by decide)) rfl T.jU (ae (dN hJ (pv 1) ai (fun _ _ => rfl)) (ae (dN hJ (pv 1) ai (fun _ _ => rfl)) (ae (dN hJ (pv 1) ai (fun _ _ => rfl)) (ae (dN hJ (pv 1) ai (fun _ _ => rfl)) (ae (dN hJ (pv 1) ai (fun _ _ => rfl)) af))))))))))), ?_⟩
   cases r with
   | once f l =>
     obtain ⟨g0, g1, g2⟩ := hg
     simp only [rR, vB] at hd ⊢
     repeat' (walk_at "rd1")
     . exact ⟨_, by omega, .inr ⟨_, rfl, by omega⟩⟩
     . rename_i hi
       exact q _ _ (by walk_at "same") hi
   | each st sp wd m =>
     obtain ⟨g0, g1, g2, g3, g4, g5, hm⟩ := hg
     rcases hm with rfl | ⟨i, rfl, i1, i2⟩
     . simp only [rR, vB, mD] at hd ⊢
       repeat' (walk_at "rd1")
       all_goals (try (first | exact absurd (by assumption) k1 | exact absurd (by assumption) k2 | exact absurd (by assumption) k3 | exact absurd (by assumption) k4 | exact absurd (by assumption) k5 | exact absurd (by assumption) k6))
       . exact ⟨_, _, _, _, rfl, by omega, by omega, by omega, by omega, .inl rfl⟩
       . rename_i hi
         exact q _ _ (by walk_at "same") ⟨hi, .inl rfl, by omega, by omega, by omega, by omega, by omega, by omega⟩
     . simp only [rR, vB, mD] at hd ⊢
       repeat' (walk_at "rd1")
       all_goals (try (first | exact absurd (by assumption) k1 | exact absurd (by assumption) k2 | exact absurd (by assumption) k3 | exact absurd (by assumption) k4 | exact absurd (by assumption) k5 | exact absurd (by assumption) k6))
       . exact ⟨_, _, _, _, rfl, by omega, by omega, by omega, by omega, .inr ⟨i, rfl, i1⟩⟩
       . rename_i hi
         exact q _ _ (by walk_at "same") ⟨hi, .inr ⟨i, rfl, i1⟩, by omega, by omega, by omega, by omega, by omega, by omega⟩
   | behind st gp wd m =>
     obtain ⟨g0, g1, g2, g3, g4, g5, hm⟩ := hg
     rcases hm with rfl | ⟨i, rfl, i1, i2⟩
     . simp only [rR, vB, mD] at hd ⊢
       repeat' (walk_at "rd1")
       all_goals (try (first | exact absurd (by assumption) k1 | exact absurd (by assumption) k2 | exact absurd (by assumption) k3 | exact absurd (by assumption) k4 | exact absurd (by assumption) k5 | exact absurd (by assumption) k6))
       . exact ⟨_, _, _, _, rfl, by omega, by omega, by omega, .inl rfl⟩
       . rename_i hi
         exact q _ _ (by walk_at "same") ⟨hi, .inl rfl, by omega, by omega, by omega, by omega⟩
     . simp only [rR, vB, mD] at hd ⊢
       repeat' (walk_at "rd1")
       all_goals (try (first | exact absurd (by assumption) k1 | exact absurd (by assumption) k2 | exact absurd (by assumption) k3 | exact absurd (by assumption) k4 | exact absurd (by assumption) k5 | exact absurd (by assumption) k6))
       . exact ⟨_, _, _, _, rfl, by omega, by omega, by omega, .inr ⟨i, rfl, i1⟩⟩
       . rename_i hi
         exact q _ _ (by walk_at "same") ⟨hi, .inr ⟨i, rfl, i1⟩, by omega, by omega, by omega, by omega⟩
   | du st gp mo wd m =>
     obtain ⟨g0, g1, g2, g3, g4, g5, g6, hm⟩ := hg
     rcases hm with rfl | ⟨i, rfl, i1, i2⟩
     . simp only [rR, vB, mD] at hd ⊢
       repeat' (walk_at "rd1")
       all_goals (try (first | exact absurd (by assumption) k1 | exact absurd (by assumption) k2 | exact absurd (by assumption) k3 | exact absurd (by assumption) k4 | exact absurd (by assumption) k5 | exact absurd (by assumption) k6))
       . exact ⟨_, _, _, _, _, rfl, by omega, by omega, by omega, by omega, .inl rfl⟩
       . rename_i hi
         exact q _ _ (by walk_at "same") ⟨hi, .inl rfl, by omega, by omega, by omega, by omega, by omega⟩
     . simp only [rR, vB, mD] at hd ⊢
       repeat' (walk_at "rd1")
       all_goals (try (first | exact absurd (by assumption) k1 | exact absurd (by assumption) k2 | exact absurd (by assumption) k3 | exact absurd (by assumption) k4 | exact absurd (by assumption) k5 | exact absurd (by assumption) k6))
       . exact ⟨_, _, _, _, _, rfl, by omega, by omega, by omega, by omega, .inr ⟨i, rfl, i1⟩⟩
       . rename_i hi
         exact q _ _ (by walk_at "same") ⟨hi, .inr ⟨i, rfl, i1⟩, by omega, by omega, by omega, by omega, by omega⟩
theorem As (T : Txt K mg a) : dt P w K mg base 7 a.cR ["kind", "numbers"] [] (uQ a) :=
 ⟨⟨_, _, Di T, T.lR.binds fun _ _ _ _ _ _ => .all fun us hl => match us, hl with | [_, _], _ => rfl, .nil⟩⟩
local macro_rules | `(tactic| walk_at "use") => `(tactic| first
 | ((with_reducible refine' Ah ?e1 ?e2 ?e3 (fun _ _ _ _ => ?_)); (case e1 => assumption); (case e2 => walk_at "lat"); (case e3 => assumption))
 | ((with_reducible refine' Fy ?e1 ?e2 ?e3 (fun _ _ _ _ => ?_)); (case e2 => assumption); (case e1 => rfl); (case e3 => walk_at "dat"))
 | fail)
theorem Az (T : Txt K mg a) (dC : k9 w K a.cL cG) : aV P w K mg base gs 8 a.cP a.oE ["text"] (rQ a) := by
 have lD := og (P := P) (w := w) (base := base) T
 have uL := xc (P := P) (base := base) T dC
 have vM := As (P := P) (w := w) (base := base) T
 refine T.lg.ok jN (fun vs H Q E h => ?_) (fun dw A outer s H vs Q E hr h => ?_)
 . obtain ⟨_, rfl, _⟩ := h; rfl
 . obtain ⟨r, rfl, hg, q⟩ := h
   have hl := hg.Ku
   have es : (Txt.split (j8 r) (Str.ofString " ")).map PyData.str = (vB r :: (rR r).map dy).map PyData.str := by rw [zc]
   refine ⟨_, (aj (bV (aq lD (hr.mono (by decide)) rfl T.l0 T.lW (ae (b7 fF rfl T.bh PyProof.Rows.boot_isinstance (ae (pv 0) (ae (rM (v := .ty "str") rfl T.cZ PyProof.Rows.boot_str rfl) af))) af)))
    (aj (EB (aq uL (hr.mono (by decide)) rfl T.mN T.mW (ae (vU PySem.F.plainAttrs_str PySem.F.slot_str_split PySem.F.type_str_split An (pv 0) (ae aP af)) af)) (EV (n := 2) rfl (vX (jM (i := 1) jN.nd rfl (Or.inl rfl)) (vX (jM (i := 2) jN.nd rfl (Or.inl rfl)) DH))))
    (ak (CB (fun _ _ => (ak (aF (aq vM (hr.mono (by decide)) rfl T.pw T.pV (ae (pv 1) (ae (pv 2) af)))))))))), ?_⟩
   repeat' (walk_at "rd1")
   refine Dp (by decide) (by omega) (fun p1 H1 s1 n1 LC => ?_)
   repeat' (walk_at "rd1")
   refine Gg (by walk_at "dat") (fun v1 v2 h1 h2 => ?_)
   cases h1
   repeat' (walk_at "rd1")
   exact q _ _ (by walk_at "same") (by assumption)
theorem zv (T : Txt K mg a) (dC : k9 w K a.cL cG) : dt P w K mg base 8 a.cP ["text"] [] (rQ a) :=
 ⟨⟨_, _, Az T dC, T.lg.binds fun _ _ _ _ _ _ => .all fun us hl => match us, hl with | [_], _ => rfl, .nil⟩⟩
def mK (ns : List Int) : V := if cell ns 4 % 2 = 1 then .int (1 + num (cell ns 4 / 2)) else .cf
def rK (ns : List Int) (k : Int) : RU :=
 if k = 0 then .once (num (cell ns 1)) (num (cell ns 1) + num (cell ns 3))
 else if k = 1 then .each (num (cell ns 1)) (1 + num (cell ns 2)) (num (cell ns 3) % (1 + num (cell ns 2))) (mK ns)
 else if k = 2 then .behind (num (cell ns 1)) (1 + num (cell ns 2)) (num (cell ns 3)) (mK ns)
 else .du (num (cell ns 1)) (1 + num (cell ns 2)) (1 + num (cell ns 2) + num (cell ns 5)) (num (cell ns 3)) (mK ns)
def KW (a : Ad) (H : Hp) (v : V) : RU -> Prop
 | .once f l => eZ H v a.ay [("many", .int 1), ("first", .int f), ("last", .int l)]
 | .each st sp wd m => eZ H v a.au [("many", m), ("start", .int st), ("step", .int sp), ("wide", .int wd)]
 | .behind st gp wd m => eZ H v a.ah [("many", m), ("start", .int st), ("gap", .int gp), ("wide", .int wd)]
 | .du st gp mo wd m => eZ H v a.ag [("many", m), ("start", .int st), ("gap", .int gp), ("wide", .int wd), ("most", .int mo)]
theorem GoodR.Kk {H : Hp} {v : V} {r : RU} (hg : GoodR r) (hi : KW a H v r) : oh a H v r := by
 cases r with
 | once f l => exact hi
 | each st sp wd m =>
   obtain ⟨g0, g1, g2, g3, g4, g5, hm⟩ := hg
   exact ⟨hi, hm.Jz, by omega, by omega, by omega, by omega, by omega, by omega⟩
 | behind st gp wd m =>
   obtain ⟨g0, g1, g2, g3, g4, g5, hm⟩ := hg
   exact ⟨hi, hm.Jz, by omega, by omega, by omega, by omega⟩
 | du st gp mo wd m =>
   obtain ⟨g0, g1, g2, g3, g4, g5, g6, hm⟩ := hg
   exact ⟨hi, hm.Jz, by omega, by omega, by omega, by omega, by omega⟩
theorem yu (ns : List Int) : BV (mK ns) := by
 unfold mK
 have h1 := qk (cell ns 4 / 2)
 have h2 := qo (cell ns 4 / 2)
 split
 . exact .inr ⟨_, rfl, by omega, by omega⟩
 . exact .inl rfl
theorem yI (ns : List Int) (k : Int) : GoodR (rK ns k) := by
 have a1 := qk (cell ns 1); have a2 := qo (cell ns 1)
 have b1 := qk (cell ns 2); have b2 := qo (cell ns 2)
 have c1 := qk (cell ns 3); have c2 := qo (cell ns 3)
 have d1 := qk (cell ns 5); have d2 := qo (cell ns 5)
 unfold rK
 split
 . exact ⟨a1, by omega, by omega⟩
 . split
   . exact ⟨a1, by omega, by omega, by omega, Int.emod_nonneg _ (by omega), Int.emod_lt_of_pos _ (by omega), yu ns⟩
   . split
     . exact ⟨a1, by omega, by omega, by omega, by omega, by omega, yu ns⟩
     . exact ⟨a1, by omega, by omega, by omega, by omega, by omega, by omega, yu ns⟩
theorem CP {ns : List Int} {k : Int} (h0 : 0 <= k) (h1 : k < 4) : kR (rK ns k) = k := by
 unfold rK
 split
 . rename_i h; exact h.symm
 . split
   . rename_i h; exact h.symm
   . split
     . rename_i h; exact h.symm
     . show (3 : Int) = k; omega
def tm (K : PySem.W.Frag) (a : Ad) : Sp := fun vs H Q _ => ∃ (l : Addr) (ns : List Int) (k : Int), vs = [.ref l, .int k] /\ i6 K H l (ns.map V.int) /\ ∀ v H', av H H' -> oh a H' v (rK ns k) -> Q v H'
theorem BU {a : Ad} {H : Hp} {Q : VK} {E : XK} {l : Addr} {ns : List Int} {k : Int} (h : i6 K H l (ns.map V.int)) (q : ∀ v H', av H H' -> oh a H' v (rK ns k) -> Q v H') : tm K a [.ref l, .int k] H Q E := ⟨l, ns, k, rfl, h, q⟩
theorem AB (T : Txt K mg a) : aV P w K mg base gs 7 a.cS a.pT ["_law_script", "_law_kind"] (tm K a) := by
 have aN := g7 (P := P) (w := w) (base := base) T
 have aC := eg (P := P) (w := w) (base := base) T
 have tH := sY (P := P) (w := w) (base := base) T
 have tE := tB (P := P) (w := w) (base := base) T
 have nT := o2 (P := P) (w := w) (base := base) T
 have kW := nc (P := P) (w := w) (base := base) T
 refine T.lH.ok dD (fun vs H Q E h => ?_) (fun dw A outer s H vs Q E hr h => ?_)
 . obtain ⟨_, _, _, rfl, _⟩ := h; rfl
 . obtain ⟨l, ns, k, rfl, hS, q⟩ := h
   have hm := yu ns
   have hg := yI ns k
   refine ⟨_, (aj (aM (i := 2) dD.nd rfl (Or.inl rfl) iS)
    (eV (cK (aK (cF hr.qw) (ax eK (aq aC (hr.mono (by decide)) rfl T.aD T.aE (ae (pv 0) (ae ai af))) ai) ai (aO _))
     (ak (aM (i := 2) dD.nd rfl (Or.inl rfl) (ax aY ai (aq aN (hr.mono (by decide)) rfl T.aI T.aL (ae (ax gZ (aq aC (hr.mono (by decide)) rfl T.aD T.aE (ae (pv 0) (ae ai af))) ai) af)))))
     aW)
    (aj (aM (i := 3) dD.nd rfl (Or.inl rfl) (aq aN (hr.mono (by decide)) rfl T.aI T.aL (ae (aq aC (hr.mono (by decide)) rfl T.aD T.aE (ae (pv 0) (ae ai af))) af)))
    (aj (aM (i := 4) dD.nd rfl (Or.inl rfl) (ax aY ai (aq aN (hr.mono (by decide)) rfl T.aI T.aL (ae (aq aC (hr.mono (by decide)) rfl T.aD T.aE (ae (pv 0) (ae ai af))) af))))
    (aj (aM (i := 5) dD.nd rfl (Or.inl rfl) (aq aN (hr.mono (by decide)) rfl T.aI T.aL (ae (aq aC (hr.mono (by decide)) rfl T.aD T.aE (ae (pv 0) (ae ai af))) af)))
    (aj (cK (aK (cF hr.qw) (pv 1) ai (aO _))
     (ak (aF (iy T.xx tH (hr.mono (by decide)) rfl T.rB (ae (pv 3) (ae (ax aY (pv 3) (pv 5)) af)))))
     aW)
    (aj (cK (aK (cF hr.qw) (pv 1) ai (aO _))
     (ak (aF (iy T.wV tE (hr.mono (by decide)) rfl T.rJ (ae (pv 3) (ae (pv 4) (ae (ax eK (pv 5) (pv 4)) (ae (pv 2) af)))))))
     aW)
    (aj (cK (aK (cF hr.qw) (pv 1) ai (aO _))
     (ak (aF (iy T.tq nT (hr.mono (by decide)) rfl T.jr (ae (pv 3) (ae (pv 4) (ae (pv 5) (ae (pv 2) af)))))))
     aW)
    (ak (aF (iy T.qA kW (hr.mono (by decide)) rfl T.jU (ae (pv 3) (ae (pv 4) (ae (ax aY (pv 4) (aq aN (hr.mono (by decide)) rfl T.aI T.aL (ae (aq aC (hr.mono (by decide)) rfl T.aD T.aE (ae (pv 0) (ae ai af))) af))) (ae (pv 5) (ae (pv 2) af)))))))))))))))), ?_⟩
   repeat' (walk_at "rd1")
   refine j5 (fun σ' H' => H' = H /\ σ' = [some (.ref l), some (.int k), some (mK ns), none, none, none]) ?_ ?_
   . repeat' (walk_at "rd1")
     . rename_i hb n e _ _
       refine ⟨rfl, ?_⟩
       have z : mK ns = .int (1 + n) := by
        have hb : cell ns 4 % 2 = 1 := hb
        subst e
        unfold mK
        rw [if_pos hb]
        rfl
       rw [z]; rfl
     . rename_i hb
       refine ⟨rfl, ?_⟩
       have z : mK ns = .cf := by
        have hb : ¬ cell ns 4 % 2 = 1 := hb
        unfold mK
        rw [if_neg hb]
       rw [z]; rfl
   rintro σ' H' ⟨rfl, rfl⟩
   have JS := hm.Jz
   generalize Fm : mK ns = m at *
   repeat' (walk_at "rd1")
   . exact ⟨_, by omega, .inr ⟨_, rfl, by omega⟩⟩
   . rename_i x1 e1 _ _ x2 e2 _ _ x3 e3 _ _ h0 v1 H1 s1 hi
     have er : rK ns k = .once x1 (x1 + x3) := by rw [rK, if_pos h0, e1, e3]; rfl
     rw [er] at hg q
     exact q _ _ s1 hi
   . exact ⟨_, _, _, _, rfl, by omega, by omega, by omega, by omega, JS⟩
   . rename_i x1 e1 _ _ x2 e2 _ _ x3 e3 _ _ h0 h1 _ _ v1 H1 s1 hi
     have er : rK ns k = .each x1 (1 + x2) (x3 % (1 + x2)) m := by rw [rK, if_neg h0, if_pos h1, e1, e2, e3, Fm]; rfl
     rw [er] at hg q
     exact q _ _ s1 (hg.Kk hi)
   . exact ⟨_, _, _, _, rfl, by omega, by omega, by omega, JS⟩
   . rename_i x1 e1 _ _ x2 e2 _ _ x3 e3 _ _ h0 h1 h2 v1 H1 s1 hi
     have er : rK ns k = .behind x1 (1 + x2) x3 m := by rw [rK, if_neg h0, if_neg h1, if_pos h2, e1, e2, e3, Fm]; rfl
     rw [er] at hg q
     exact q _ _ s1 (hg.Kk hi)
   . exact ⟨_, _, _, _, _, rfl, by omega, by omega, by omega, by omega, JS⟩
   . rename_i x1 e1 _ _ x2 e2 _ _ x3 e3 _ _ h0 h1 h2 x5 e5 _ _ v1 H1 s1 hi
     have er : rK ns k = .du x1 (1 + x2) (1 + x2 + x5) x3 m := by rw [rK, if_neg h0, if_neg h1, if_neg h2, e1, e2, e3, e5, Fm]; rfl
     rw [er] at hg q
     exact q _ _ s1 (hg.Kk hi)
theorem zP (T : Txt K mg a) : dt P w K mg base 7 a.cS ["_law_script", "_law_kind"] [] (tm K a) :=
 ⟨⟨_, _, AB T, T.lH.binds fun _ _ _ _ _ _ => .all fun us hl => match us, hl with | [_, _], _ => rfl, .nil⟩⟩
local macro_rules | `(tactic| walk_at "rd1") => `(tactic| first
 | ((with_reducible refine' Fb ?e1 ?e2 ?e3 (fun _ => ?_)); (case e1 => first | assumption | exact lP (by omega) (by omega)); (case e2 => first | assumption | exact lP (by omega) (by omega)); (case e3 => omega))
 | fail)
theorem Kc : (Str.ofString " ").cps.toList = [32] := by decide +kernel
theorem Ex : (Str.ofString "once ").cps.toList = (Str.ofString "once").cps.toList ++ [32] := by decide +kernel
theorem GI : (Str.ofString "each ").cps.toList = (Str.ofString "each").cps.toList ++ [32] := by decide +kernel
theorem Av : (Str.ofString "behind ").cps.toList = (Str.ofString "behind").cps.toList ++ [32] := by decide +kernel
theorem ER : (Str.ofString "slowing ").cps.toList = (Str.ofString "slowing").cps.toList ++ [32] := by decide +kernel
theorem Gf (ns : List Int) : (dy (mD (mK ns))).length <= 300 := by
 have h1 := qk (cell ns 4 / 2)
 have h2 := qo (cell ns 4 / 2)
 unfold mK
 split
 . exact Nat.le_trans (lP (by omega) (by omega)) (by decide)
 . exact Nat.le_of_ble_eq_true rfl
section
variable {kd ks x y z u v : Str}
theorem IH (h : ks.cps.toList = kd.cps.toList ++ [32]) : ks ++ x ++ Str.ofString " " ++ y = Txt.join (Str.ofString " ") [kd, x, y] := by
 refine o1 ?_
 rw [gY]
 simp only [nP, h, Kc, List.flatMap_cons, List.flatMap_nil, List.append_assoc, List.append_nil]
theorem D0 (h : ks.cps.toList = kd.cps.toList ++ [32]) : ks ++ x ++ Str.ofString " " ++ y ++ Str.ofString " " ++ z ++ Str.ofString " " ++ u = Txt.join (Str.ofString " ") [kd, x, y, z, u] := by
 refine o1 ?_
 rw [gY]
 simp only [nP, h, Kc, List.flatMap_cons, List.flatMap_nil, List.append_assoc, List.append_nil]
theorem Hs (h : ks.cps.toList = kd.cps.toList ++ [32]) : ks ++ x ++ Str.ofString " " ++ y ++ Str.ofString " " ++ z ++ Str.ofString " " ++ u ++ Str.ofString " " ++ v = Txt.join (Str.ofString " ") [kd, x, y, z, u, v] := by
 refine o1 ?_
 rw [gY]
 simp only [nP, h, Kc, List.flatMap_cons, List.flatMap_nil, List.append_assoc, List.append_nil]
end
def qz (K : PySem.W.Frag) : Sp := fun vs H Q _ => ∃ (l : Addr) (ns : List Int) (k : Int), vs = [.ref l, .int k] /\ i6 K H l (ns.map V.int) /\ Q (.str (j8 (rK ns k))) H
theorem A3 {H : Hp} {Q : VK} {E : XK} {l : Addr} {ns : List Int} {k : Int} (h : i6 K H l (ns.map V.int)) (q : Q (.str (j8 (rK ns k))) H) : qz K [.ref l, .int k] H Q E := ⟨l, ns, k, rfl, h, q⟩
theorem zb (T : Txt K mg a) : aV P w K mg base gs 2 a.cq a.m8 ["_law_script", "_law_kind"] (qz K) := by
 have aN := g7 (P := P) (w := w) (base := base) T
 have aC := eg (P := P) (w := w) (base := base) T
 refine T.jH.ok cJ (fun vs H Q E h => ?_) (fun dw A outer s H vs Q E hr h => ?_)
 . obtain ⟨_, _, _, rfl, _⟩ := h; rfl
 . obtain ⟨l, ns, k, rfl, hS, q⟩ := h
   have hw := Gf ns
   have w0 : (Str.ofString " ").length <= 1 := Nat.le_of_ble_eq_true rfl
   have w1 : (Str.ofString "once ").length <= 9 := Nat.le_of_ble_eq_true rfl
   have w2 : (Str.ofString "each ").length <= 9 := Nat.le_of_ble_eq_true rfl
   have w3 : (Str.ofString "behind ").length <= 9 := Nat.le_of_ble_eq_true rfl
   have w4 : (Str.ofString "slowing ").length <= 9 := Nat.le_of_ble_eq_true rfl
   refine ⟨_, (aj (aM (i := 2) cJ.nd rfl (Or.inl rfl) (aq aN (hr.mono (by decide)) rfl T.aI T.aL (ae (aq aC (hr.mono (by decide)) rfl T.aD T.aE (ae (pv 0) (ae ai af))) af)))
    (aj (aM (i := 3) cJ.nd rfl (Or.inl rfl) (ax aY ai (aq aN (hr.mono (by decide)) rfl T.aI T.aL (ae (aq aC (hr.mono (by decide)) rfl T.aD T.aE (ae (pv 0) (ae ai af))) af))))
    (aj (aM (i := 4) cJ.nd rfl (Or.inl rfl) (aq aN (hr.mono (by decide)) rfl T.aI T.aL (ae (aq aC (hr.mono (by decide)) rfl T.aD T.aE (ae (pv 0) (ae ai af))) af)))
    (aj (aM (i := 5) cJ.nd rfl (Or.inl rfl) aP)
    (eV (cK (aK (cF hr.qw) (ax eK (aq aC (hr.mono (by decide)) rfl T.aD T.aE (ae (pv 0) (ae ai af))) ai) ai (aO _))
     (ak (aM (i := 5) cJ.nd rfl (Or.inl rfl) (bE bL rfl T.cZ PyProof.Rows.boot_str (ae (ax aY ai (aq aN (hr.mono (by decide)) rfl T.aI T.aL (ae (ax gZ (aq aC (hr.mono (by decide)) rfl T.aD T.aE (ae (pv 0) (ae ai af))) ai) af))) af))))
     aW)
    (aj (cK (aK (cF hr.qw) (pv 1) ai (aO _))
     (ak (aF (ax bf (ax bf (ax bf aP (bE bL rfl T.cZ PyProof.Rows.boot_str (ae (pv 2) af))) aP) (bE bL rfl T.cZ PyProof.Rows.boot_str (ae (ax aY (pv 2) (pv 4)) af)))))
     aW)
    (aj (cK (aK (cF hr.qw) (pv 1) ai (aO _))
     (ak (aF (ax bf (ax bf (ax bf (ax bf (ax bf (ax bf (ax bf aP (bE bL rfl T.cZ PyProof.Rows.boot_str (ae (pv 2) af))) aP) (bE bL rfl T.cZ PyProof.Rows.boot_str (ae (pv 3) af))) aP) (bE bL rfl T.cZ PyProof.Rows.boot_str (ae (ax eK (pv 4) (pv 3)) af))) aP) (pv 5))))
     aW)
    (aj (cK (aK (cF hr.qw) (pv 1) ai (aO _))
     (ak (aF (ax bf (ax bf (ax bf (ax bf (ax bf (ax bf (ax bf aP (bE bL rfl T.cZ PyProof.Rows.boot_str (ae (pv 2) af))) aP) (bE bL rfl T.cZ PyProof.Rows.boot_str (ae (pv 3) af))) aP) (bE bL rfl T.cZ PyProof.Rows.boot_str (ae (pv 4) af))) aP) (pv 5))))
     aW)
    (aj (aM (i := 6) cJ.nd rfl (Or.inl rfl) (bE bL rfl T.cZ PyProof.Rows.boot_str (ae (ax aY (pv 3) (aq aN (hr.mono (by decide)) rfl T.aI T.aL (ae (aq aC (hr.mono (by decide)) rfl T.aD T.aE (ae (pv 0) (ae ai af))) af))) af)))
    (ak (aF (ax bf (ax bf (ax bf (ax bf (ax bf (ax bf (ax bf (ax bf (ax bf aP (bE bL rfl T.cZ PyProof.Rows.boot_str (ae (pv 2) af))) aP) (bE bL rfl T.cZ PyProof.Rows.boot_str (ae (pv 3) af))) aP) (pv 6)) aP) (bE bL rfl T.cZ PyProof.Rows.boot_str (ae (pv 4) af))) aP) (pv 5))))))))))))), ?_⟩
   repeat' (walk_at "rd1")
   rename_i x1 e1 _ _ x2 e2 _ _ x3 e3 _ _
   refine j5 (fun σ' H' => H' = H /\ σ' = [some (.ref l), some (.int k), some (.int x1), some (.int (1 + x2)), some (.int x3), some (.str (dy (mD (mK ns)))), none]) ?_ ?_
   . repeat' (walk_at "rd1")
     . rename_i hb n e _ _
       refine ⟨rfl, ?_⟩
       have z : mK ns = .int (1 + n) := by
        have hb : cell ns 4 % 2 = 1 := hb
        subst e
        unfold mK
        rw [if_pos hb]
        rfl
       rw [z]; rfl
     . rename_i hb
       refine ⟨rfl, ?_⟩
       have z : mK ns = .cf := by
        have hb : ¬ cell ns 4 % 2 = 1 := hb
        unfold mK
        rw [if_neg hb]
       rw [z]; rfl
   rintro σ' H' ⟨rfl, rfl⟩
   generalize Fm : mK ns = m at *
   repeat' (walk_at "rd1")
   . rename_i h0 _ _ _
     have er : rK ns k = .once x1 (x1 + x3) := by rw [rK, if_pos h0, e1, e3]; rfl
     rw [er] at q
     rw [IH Ex]
     exact q
   . rename_i h0 h1 _ _ _ _ _ _ _ _ _
     have er : rK ns k = .each x1 (1 + x2) (x3 % (1 + x2)) m := by rw [rK, if_neg h0, if_pos h1, e1, e2, e3, Fm]; rfl
     rw [er] at q
     rw [D0 GI]
     exact q
   . rename_i h0 h1 h2 _ _ _ _ _ _ _
     have er : rK ns k = .behind x1 (1 + x2) x3 m := by rw [rK, if_neg h0, if_neg h1, if_pos h2, e1, e2, e3, Fm]; rfl
     rw [er] at q
     rw [D0 Av]
     exact q
   . rename_i h0 h1 h2 x5 e5 _ _ _ _ _ _ _ _ _ _ _
     have er : rK ns k = .du x1 (1 + x2) (1 + x2 + x5) x3 m := by rw [rK, if_neg h0, if_neg h1, if_neg h2, e1, e2, e3, e5, Fm]; rfl
     rw [er] at q
     rw [Hs ER]
     exact q
theorem x6 (T : Txt K mg a) : dt P w K mg base 2 a.cq ["_law_script", "_law_kind"] [] (qz K) :=
 ⟨⟨_, _, zb T, T.jH.binds fun _ _ _ _ _ _ => .all fun us hl => match us, hl with | [_, _], _ => rfl, .nil⟩⟩
def kinds (k : Int) : List PyData := [.bool (decide (k = 0)), .bool (decide (k = 1)), .bool (decide (2 <= k)), .bool (decide (k = 3))]
def p9 (a : Ad) : Sp := fun vs H Q _ => ∃ v r, vs = [v] /\ oh a H v r /\ ∀ v' H', av H H' -> Dv H' v' (.list (kinds (kR r))) -> Q v' H'
theorem Ai {H : Hp} {Q : VK} {E : XK} {v : V} {r : RU} (h : oh a H v r) (q : ∀ v' H', av H H' -> Dv H' v' (.list (kinds (kR r))) -> Q v' H') : p9 a [v] H Q E := ⟨v, r, rfl, h, q⟩
theorem zE (T : Txt K mg a) : aV P w K mg base gs 1 a.cn a.mw ["_law_rule_here"] (p9 a) := by
 have l1 := T.aS; have l2 := T.aG; have l3 := T.aA; have l4 := T.aw
 have y1 := T.yq; have y2 := T.yp; have y3 := T.uc; have y4 := T.rZ
 have i1 := T.gy; have i2 := T.gv; have i3 := T.eU; have i4 := T.d5
 have j1 := T.gg; have j2 := T.gk; have j3 := T.eG; have j4 := T.d3
 have m1 := T.eX; have m2 := T.eO; have m3 := T.dE; have m4 := T.dq
 have n1 := T.d8; have n2 := T.d9; have n3 := T.dn; have n4 := T.cT
 refine T.j9.ok nk (fun vs H Q E h => ?_) (fun dw A outer s H vs Q E hr h => ?_)
 . obtain ⟨_, _, rfl, _⟩ := h; rfl
 . obtain ⟨v, r, rfl, hR, q⟩ := h
   refine ⟨_, (aj (aM (i := 1) nk.nd rfl (Or.inl rfl) (fw (ae (b7 fF rfl T.bh PyProof.Rows.boot_isinstance (ae (pv 0) (ae (ip (v := .ref a.ay) rfl T.rB rfl) af))) (ae (b7 fF rfl T.bh PyProof.Rows.boot_isinstance (ae (pv 0) (ae (ip (v := .ref a.au) rfl T.rJ rfl) af))) (ae (b7 fF rfl T.bh PyProof.Rows.boot_isinstance (ae (pv 0) (ae (ip (v := .ref a.ah) rfl T.jr rfl) af))) af)))))
    (ak (aF (ax xV (pv 1) (fw (ae (b7 fF rfl T.bh PyProof.Rows.boot_isinstance (ae (pv 0) (ae (ip (v := .ref a.ag) rfl T.jU rfl) af))) af)))))), ?_⟩
   cases r with
   | once f l =>
     have hp : eZ H v a.ay [("many", .int 1), ("first", .int f), ("last", .int l)] := hR
     repeat' (walk_at "rd1")
     exact q _ _ (by walk_at "same") (by walk_at "dat")
   | each st sp wd m =>
     obtain ⟨hp, _⟩ := hR
     repeat' (walk_at "rd1")
     exact q _ _ (by walk_at "same") (by walk_at "dat")
   | behind st gp wd m =>
     obtain ⟨hp, _⟩ := hR
     repeat' (walk_at "rd1")
     exact q _ _ (by walk_at "same") (by walk_at "dat")
   | du st gp mo wd m =>
     obtain ⟨hp, _⟩ := hR
     repeat' (walk_at "rd1")
     exact q _ _ (by walk_at "same") (by walk_at "dat")
theorem xg (T : Txt K mg a) : dt P w K mg base 1 a.cn ["_law_rule_here"] [] (p9 a) :=
 ⟨⟨_, _, zE T, T.j9.binds fun _ _ _ _ _ _ => .all fun us hl => match us, hl with | [_], _ => rfl, .nil⟩⟩
def pD (p : Int × Int) : PyData := .tuple [.int p.1, .int p.2]
def Jk : RU -> Int × Int
 | .once f l => (f, l)
 | .each st _ wd _ => (st, st + wd)
 | .behind st _ wd _ => (st, st + wd)
 | .du st _ _ wd _ => (st, st + wd)
def v8 : RU -> Int -> Int -> PyData
 | .once _ _, _, _ => .none
 | r, n, s => gi (KO r) (n + 1) (pD (raw r n s))
def Dy : RU -> Int -> Int -> Int -> PyData -> Prop
 | .once _ _, _, _, _, d => d = .tuple [.int 1, .none]
 | r, n, s, t, d => ∃ k x y, Wk (raw r) t (n + 1) (raw r n s).1 (raw r n s).2 k x y /\ d = .tuple [.int (oy (KO r) k), gi (KO r) k (.tuple [.int x, .int y])]
theorem Dy.det {r : RU} {n s t : Int} {d e : PyData} (h : Dy r n s t d) (g : Dy r n s t e) : d = e := by
 have key : ∀ {R : Int -> Int -> Int × Int} {m : V}, (∃ k x y, Wk R t (n + 1) (R n s).1 (R n s).2 k x y /\ d = .tuple [.int (oy m k), gi m k (.tuple [.int x, .int y])]) -> (∃ k x y, Wk R t (n + 1) (R n s).1 (R n s).2 k x y /\ e = .tuple [.int (oy m k), gi m k (.tuple [.int x, .int y])]) -> d = e := by
  rintro R m ⟨k, x, y, w1, rfl⟩ ⟨k2, x2, y2, w2, rfl⟩
  obtain ⟨rfl, rfl, rfl⟩ := w1.inj w2
  rfl
 cases r with
 | once f l => exact Eq.trans (show d = _ from h) (show e = _ from g).symm
 | each => exact key h g
 | behind => exact key h g
 | du => exact key h g
theorem dZ {m : V} {n x y : Int} : (gi m n (.tuple [.int x, .int y])).canLay0 = true /\ (gi m n (.tuple [.int x, .int y])).depth <= 1 /\ PyData.eqv (gi m n (.tuple [.int x, .int y])) (gi m n (.tuple [.int x, .int y])) = true := by
 have key : ∀ d : PyData, d = .none \/ d = .tuple [.int x, .int y] -> d.canLay0 = true /\ d.depth <= 1 /\ PyData.eqv d d = true := by
  rintro d (rfl | rfl)
  . exact ⟨rfl, Nat.zero_le _, rfl⟩
  . refine ⟨rfl, Nat.le_of_ble_eq_true rfl, ?_⟩
    simp [PyData.eqv, PyData.eqvAll]
 refine key _ ?_
 cases m with
 | int i => unfold gi; simp only; split <;> simp
 | _ => exact .inr rfl
theorem BF {r : RU} {n s : Int} : (v8 r n s).canLay0 = true /\ (v8 r n s).depth <= 8 /\ PyData.eqv (v8 r n s) (v8 r n s) = true := by
 cases r with
 | once => exact ⟨rfl, Nat.zero_le _, rfl⟩
 | each => exact ⟨dZ.1, Nat.le_trans dZ.2.1 (by decide), dZ.2.2⟩
 | behind => exact ⟨dZ.1, Nat.le_trans dZ.2.1 (by decide), dZ.2.2⟩
 | du => exact ⟨dZ.1, Nat.le_trans dZ.2.1 (by decide), dZ.2.2⟩
theorem Dy.lay {r : RU} {n s t : Int} {d : PyData} (h : Dy r n s t d) : d.canLay0 = true /\ d.depth <= 8 /\ PyData.eqv d d = true := by
 have key : ∀ {m : V} {k x y : Int}, d = .tuple [.int (oy m k), gi m k (.tuple [.int x, .int y])] -> d.canLay0 = true /\ d.depth <= 8 /\ PyData.eqv d d = true := by
  rintro m k x y rfl
  obtain ⟨h1, h2, h3⟩ := dZ (m := m) (n := k) (x := x) (y := y)
  refine ⟨?_, ?_, ?_⟩
  . simp [PyData.canLay0, PyData.canLayAll0, h1]
  . simp only [PyData.depth, PyData.depthAll]
    omega
  . simp [PyData.eqv, PyData.eqvAll, h3]
 cases r with
 | once f l =>
   cases (show d = _ from h)
   exact ⟨rfl, Nat.le_of_ble_eq_true rfl, by simp [PyData.eqv, PyData.eqvAll]⟩
 | each => obtain ⟨k, x, y, _, e⟩ := h; exact key e
 | behind => obtain ⟨k, x, y, _, e⟩ := h; exact key e
 | du => obtain ⟨k, x, y, _, e⟩ := h; exact key e
def nW (C : Addr) : Sp := fun vs H Q _ => ∃ v st sp wd m, vs = [v] /\ eZ H v C [("many", m), ("start", .int st), ("step", .int sp), ("wide", .int wd)] /\ (-(10 ^ 200) < sp /\ sp < 10 ^ 200) /\ ∀ v' H', av H H' -> Dv H' v' (.tuple [.int st, .int (st + wd)]) -> Q v' H'
theorem xj (T : Txt K mg a) : aV P w K mg base gs 2 a.c6 a.nu ["self"] (nW a.au) := by
 have dF : dt P w K mg base 1 a.aR ["self", "number"] [] (di a.au) := gM T
 have cl := T.aG
 have dH := T.dk
 refine T.ko.ok tO (fun vs H Q E h => ?_) (fun dw A outer s H vs Q E hr h => ?_)
 . obtain ⟨_, _, _, _, _, rfl, _⟩ := h; rfl
 . obtain ⟨v, st, sp, wd, m, rfl, hp, b2, k⟩ := h
   refine ⟨_, (ak (aF (aX (pv 0) cl dH dF (hr.mono (by decide)) (ae ai af)))), ?_⟩
   repeat' (walk_at "rd1")
   rename_i hx
   rw [Int.zero_mul, Int.add_zero] at hx
   (refine k _ _ ?_ ?_; walk_at "same"; walk_at "dat")
theorem wg (T : Txt K mg a) : dt P w K mg base 2 a.c6 ["self"] [] (nW a.au) :=
 ⟨⟨_, _, xj T, T.ko.binds fun _ _ _ _ _ _ => .all fun us hl => match us, hl with | [_], _ => rfl, .nil⟩⟩
def qJ (C : Addr) : Sp := fun vs H Q E => ∃ i : D1, j7 C (fB i) i.st i.wd vs H Q E
theorem uE (T : Txt K mg a) : dt P w K mg base 1 a.bj ["self"] [] (qJ a.ah) :=
 ⟨⟨_, _, aV.ex fun i : D1 => su T T.aA T.cg T.bw (by walk_at "lk") (by walk_at "lk"), T.eS.binds fun _ _ _ _ _ _ => .all fun us hl => match us, hl with | [_], _ => rfl, .nil⟩⟩
def qI (C : Addr) : Sp := fun vs H Q E => ∃ i : SIx, j7 C (fS i) i.st i.wd vs H Q E
theorem vh (T : Txt K mg a) : dt P w K mg base 1 a.bj ["self"] [] (qI a.ag) :=
 ⟨⟨_, _, aV.ex fun i : SIx => su T T.aw T.bY T.bq (by walk_at "lk") (by walk_at "lk"), T.eS.binds fun _ _ _ _ _ _ => .all fun us hl => match us, hl with | [_], _ => rfl, .nil⟩⟩
section
variable {H : Hp} {Q : VK} {E : XK} {v : V} {st sp gp mo wd f l n s t : Int} {m : V}
theorem Ii (h : oh a H v (.once f l)) (q : ∀ v' H', av H H' -> Dv H' v' (pD (Jk (.once f l))) -> Q v' H') : kj a.ay [v] H Q E := t6 h q
theorem Im (h : oh a H v (.each st sp wd m)) (q : ∀ v' H', av H H' -> Dv H' v' (pD (Jk (.each st sp wd m))) -> Q v' H') : nW a.au [v] H Q E := by
 obtain ⟨hp, ho, r0, r1, r2, r3, r4, r5⟩ := h
 exact ⟨v, st, sp, wd, m, rfl, hp, ⟨by omega, by omega⟩, q⟩
theorem Ie (h : oh a H v (.behind st gp wd m)) (q : ∀ v' H', av H H' -> Dv H' v' (pD (Jk (.behind st gp wd m))) -> Q v' H') : qJ a.ah [v] H Q E := by
 obtain ⟨hp, ho, r2, r3, r4, r5⟩ := h
 exact ⟨⟨st, gp, wd, m, ho, r2, by omega, r4, by omega⟩, qd hp q⟩
theorem IW (h : oh a H v (.du st gp mo wd m)) (q : ∀ v' H', av H H' -> Dv H' v' (pD (Jk (.du st gp mo wd m))) -> Q v' H') : qI a.ag [v] H Q E := by
 obtain ⟨hp, ho, r2, r3, r6, r4, r5⟩ := h
 exact ⟨⟨st, gp, mo, wd, m, ho, r2, r3, by omega⟩, qd hp q⟩
theorem Io (h : oh a H v (.once f l)) (q : ∀ v' H', av H H' -> Dv H' v' (v8 (.once f l) n s) -> Q v' H') : hX [v, .int n, .int s] H Q E := sF (q _ _ (av.refl _) .cf)
theorem IT (h : oh a H v (.each st sp wd m)) (h1 : 0 <= n) (h2 : n < 10 ^ 60) (q : ∀ v' H', av H H' -> Dv H' v' (v8 (.each st sp wd m) n s) -> Q v' H') : ig a.au [v, .int n, .int s] H Q E := by
 obtain ⟨hp, ho, r0, r1, r2, r3, r4, r5⟩ := h
 exact si ho hp ⟨by omega, by omega⟩ ⟨by omega, by omega⟩ q
theorem GX (h : oh a H v (.behind st gp wd m)) (h1 : 0 <= n) (h2 : n < 10 ^ 60) (q : ∀ v' H', av H H' -> Dv H' v' (v8 (.behind st gp wd m) n s) -> Q v' H') : oA a.ah [v, .int n, .int s] H Q E := by
 obtain ⟨hp, ho, r2, r3, r4, r5⟩ := h
 exact ⟨⟨st, gp, wd, m, ho, r2, by omega, r4, by omega⟩, nU hp h1 (by omega) q⟩
theorem Jd (h : oh a H v (.du st gp mo wd m)) (h1 : 0 <= n) (h2 : n < 10 ^ 60) (q : ∀ v' H', av H H' -> Dv H' v' (v8 (.du st gp mo wd m) n s) -> Q v' H') : oR a.ag [v, .int n, .int s] H Q E := by
 obtain ⟨hp, ho, r2, r3, r6, r4, r5⟩ := h
 exact ⟨⟨st, gp, mo, wd, m, ho, r2, r3, by omega⟩, nU hp h1 (by omega) q⟩
theorem HD (h : oh a H v (.once f l)) (q : ∀ v' H' d, av H H' -> Dv H' v' d -> Dy (.once f l) n s t d -> Q v' H') : kq [v, .int n, .int s, .int t] H Q E := t5 fun _ _ h1 h2 => q _ _ _ h1 h2 rfl
theorem IU (h : oh a H v (.each st sp wd m)) (h1 : 0 <= n) (h2 : n < 10 ^ 99) (h3 : t < 10 ^ 80) (q : ∀ v' H' d, av H H' -> Dv H' v' d -> Dy (.each st sp wd m) n s t d -> Q v' H') : jW a.au [v, .int n, .int s, .int t] H Q E := by
 obtain ⟨hp, ho, r0, r1, r2, r3, r4, r5⟩ := h
 exact uh ho hp r0 r2 (by omega) r4 h1 (by omega) (by omega) fun k x y v' H' w hs hd => q _ _ _ hs hd ⟨k, x, y, w, rfl⟩
theorem Hf (h : oh a H v (.behind st gp wd m)) (h1 : 0 <= n) (h2 : n < 10 ^ 99) (h3 : t - s < 10 ^ 80) (q : ∀ v' H' d, av H H' -> Dv H' v' d -> Dy (.behind st gp wd m) n s t d -> Q v' H') : qV a.ah [v, .int n, .int s, .int t] H Q E := by
 obtain ⟨hp, ho, r2, r3, r4, r5⟩ := h
 exact ⟨⟨st, gp, wd, m, ho, r2, by omega, r4, by omega⟩, uA hp h1 (by omega) (by omega) fun k x y v' H' w hs hd => q _ _ _ hs hd ⟨k, x, y, w, rfl⟩⟩
theorem Hw (h : oh a H v (.du st gp mo wd m)) (h1 : 0 <= n) (h2 : n < 10 ^ 99) (h3 : t - s < 10 ^ 80) (q : ∀ v' H' d, av H H' -> Dv H' v' d -> Dy (.du st gp mo wd m) n s t d -> Q v' H') : qW a.ag [v, .int n, .int s, .int t] H Q E := by
 obtain ⟨hp, ho, r2, r3, r6, r4, r5⟩ := h
 exact ⟨⟨⟨st, gp, mo, wd, m, ho, r2, r3, by omega⟩, r4, Int.lt_trans r5 (by decide)⟩, uA hp h1 (by omega) (by omega) fun k x y v' H' w hs hd => q _ _ _ hs hd ⟨k, x, y, w, rfl⟩⟩
end
local macro_rules | `(tactic| walk_at "use") => `(tactic| first
 | ((with_reducible refine' Ii ?e (fun _ _ _ _ => ?_)); case e => walk_at "ris")
 | ((with_reducible refine' Im ?e (fun _ _ _ _ => ?_)); case e => walk_at "ris")
 | ((with_reducible refine' Ie ?e (fun _ _ _ _ => ?_)); case e => walk_at "ris")
 | ((with_reducible refine' IW ?e (fun _ _ _ _ => ?_)); case e => walk_at "ris")
 | ((with_reducible refine' Io ?e (fun _ _ _ _ => ?_)); case e => walk_at "ris")
 | ((with_reducible refine' IT ?e ?e1 ?e2 (fun _ _ _ _ => ?_)); (case e => walk_at "ris"); (case e1 => omega); (case e2 => omega))
 | ((with_reducible refine' GX ?e ?e1 ?e2 (fun _ _ _ _ => ?_)); (case e => walk_at "ris"); (case e1 => omega); (case e2 => omega))
 | ((with_reducible refine' Jd ?e ?e1 ?e2 (fun _ _ _ _ => ?_)); (case e => walk_at "ris"); (case e1 => omega); (case e2 => omega))
 | ((with_reducible refine' HD ?e (fun _ _ _ _ _ _ => ?_)); case e => walk_at "ris")
 | ((with_reducible refine' IU ?e ?e1 ?e2 ?e3 (fun _ _ _ _ _ _ => ?_)); (case e => walk_at "ris"); (case e1 => omega); (case e2 => omega); (case e3 => omega))
 | ((with_reducible refine' Hf ?e ?e1 ?e2 ?e3 (fun _ _ _ _ _ _ => ?_)); (case e => walk_at "ris"); (case e1 => omega); (case e2 => omega); (case e3 => omega))
 | ((with_reducible refine' Hw ?e ?e1 ?e2 ?e3 (fun _ _ _ _ _ _ => ?_)); (case e => walk_at "ris"); (case e1 => omega); (case e2 => omega); (case e3 => omega))
 | fail)
def sM (K : PySem.W.Frag) (a : Ad) : Sp := fun vs H Q _ => ∃ v v2 r l ns, vs = [v, v2, .ref l] /\ oh a H v r /\ oh a H v2 r /\ GoodR r /\ i6 K H l ((ns : List Int).map V.int) /\ ∀ H', av H H' -> Q (.bl true) H'
theorem C5 {H : Hp} {Q : VK} {E : XK} {v v2 : V} {r : RU} {l : Addr} {ns : List Int} (h1 : oh a H v r) (h2 : oh a H v2 r) (h3 : GoodR r) (h4 : i6 K H l (ns.map V.int)) (q : ∀ H', av H H' -> Q (.bl true) H') : sM K a [v, v2, .ref l] H Q E := ⟨v, v2, r, l, ns, rfl, h1, h2, h3, h4, q⟩
theorem jL {p : Int × Int} (h : (pD p).eqv (pD p) = false) : False := by simp [pD, PyData.eqv, PyData.eqvAll] at h
theorem Bt (T : Txt K mg a) : aV P w K mg base gs 4 a.cx a.mL ["_law_rule_here", "_law_other", "_law_script"] (sM K a) := by
 have n1 := T.eQ; have n2 := T.cu; have n3 := T.bK; have n4 := T.bB
 have l1 := T.aS; have l2 := T.aG; have l3 := T.aA; have l4 := T.aw
 have aN := g7 (P := P) (w := w) (base := base) T
 have aC := eg (P := P) (w := w) (base := base) T
 have pR := wI (P := P) (w := w) (base := base) T
 have om := wg (P := P) (w := w) (base := base) T
 have kX := uE (P := P) (w := w) (base := base) T
 have kL := vh (P := P) (w := w) (base := base) T
 have mQ := vy (P := P) (w := w) (base := base) T
 have nI := u5 (P := P) (w := w) (base := base) T
 have kz := tQ (P := P) (w := w) (base := base) T
 have jg := tL (P := P) (w := w) (base := base) T
 have mG := vP (P := P) (w := w) (base := base) T
 have nj := vN (P := P) (w := w) (base := base) T
 have kC := uG (P := P) (w := w) (base := base) T
 have jl := uX (P := P) (w := w) (base := base) T
 refine T.j0.ok dU (fun vs H Q E h => ?_) (fun dw A outer s H vs Q E hr h => ?_)
 . obtain ⟨_, _, _, _, _, rfl, _⟩ := h; rfl
 . obtain ⟨v, v2, r, l, ns, rfl, hR, pZ, hg, hS, q⟩ := h
   refine ⟨_, (aj (aM (i := 3) dU.nd rfl (Or.inl rfl) (aq aN (hr.mono (by decide)) rfl T.aI T.aL (ae (aq aC (hr.mono (by decide)) rfl T.aD T.aE (ae (pv 2) (ae ai af))) af)))
    (eV (cK (aK vd (aH (pv 0) rfl) iS (aO _))
     (ak (aM (i := 3) dU.nd rfl (Or.inl rfl) (ax eK (pv 3) (aH (pv 0) rfl))))
     aW)
    (aj (aM (i := 4) dU.nd rfl (Or.inl rfl) (aq aN (hr.mono (by decide)) rfl T.aI T.aL (ae (aq aC (hr.mono (by decide)) rfl T.aD T.aE (ae (pv 2) (ae ai af))) af)))
    (aj (aM (i := 5) dU.nd rfl (Or.inl rfl) (ax aY (pv 4) (aq aN (hr.mono (by decide)) rfl T.aI T.aL (ae (aq aC (hr.mono (by decide)) rfl T.aD T.aE (ae (pv 2) (ae ai af))) af))))
    (eV (cK (PW.pt (yG (aK (qB hr.qw) (aH (pv 0) rfl) (aH (pv 1) rfl) (aO _)) (uU (aK (qB hr.qw) (bW (bU (pv 0) T.aS T.jS pR (hr.mono (by decide))) (bW (bU (pv 0) T.aG T.jP om (hr.mono (by decide))) (bW (bU (pv 0) T.aA T.gQ kX (hr.mono (by decide))) (bU (pv 0) T.aw T.f6 kL (hr.mono (by decide)))))) (bW (bU (pv 1) T.aS T.jS pR (hr.mono (by decide))) (bW (bU (pv 1) T.aG T.jP om (hr.mono (by decide))) (bW (bU (pv 1) T.aA T.gQ kX (hr.mono (by decide))) (bU (pv 1) T.aw T.f6 kL (hr.mono (by decide)))))) (aO _)))))
     (ak (aF t8))
     aW)
    (eV (cK (aK (qB hr.qw) (bW (aX (pv 0) T.aS T.iU mQ (hr.mono (by decide)) (ae (pv 3) (ae (pv 4) af))) (bW (aX (pv 0) T.aG T.i5 nI (hr.mono (by decide)) (ae (pv 3) (ae (pv 4) af))) (bW (aX (pv 0) T.aA T.fM kz (hr.mono (by decide)) (ae (pv 3) (ae (pv 4) af))) (aX (pv 0) T.aw T.fm jg (hr.mono (by decide)) (ae (pv 3) (ae (pv 4) af)))))) (bW (aX (pv 1) T.aS T.iU mQ (hr.mono (by decide)) (ae (pv 3) (ae (pv 4) af))) (bW (aX (pv 1) T.aG T.i5 nI (hr.mono (by decide)) (ae (pv 3) (ae (pv 4) af))) (bW (aX (pv 1) T.aA T.fM kz (hr.mono (by decide)) (ae (pv 3) (ae (pv 4) af))) (aX (pv 1) T.aw T.fm jg (hr.mono (by decide)) (ae (pv 3) (ae (pv 4) af)))))) (aO _))
     (ak (aF t8))
     aW)
    (ak (aF (gx (cF hr.qw) (bW (aX (pv 0) T.aS T.iG mG (hr.mono (by decide)) (ae (pv 3) (ae (pv 4) (ae (pv 5) af)))) (bW (aX (pv 0) T.aG T.iK nj (hr.mono (by decide)) (ae (pv 3) (ae (pv 4) (ae (pv 5) af)))) (bW (aX (pv 0) T.aA T.fG kC (hr.mono (by decide)) (ae (pv 3) (ae (pv 4) (ae (pv 5) af)))) (aX (pv 0) T.aw T.fh jl (hr.mono (by decide)) (ae (pv 3) (ae (pv 4) (ae (pv 5) af))))))) (bW (aX (pv 1) T.aS T.iG mG (hr.mono (by decide)) (ae (pv 3) (ae (pv 4) (ae (pv 5) af)))) (bW (aX (pv 1) T.aG T.iK nj (hr.mono (by decide)) (ae (pv 3) (ae (pv 4) (ae (pv 5) af)))) (bW (aX (pv 1) T.aA T.fG kC (hr.mono (by decide)) (ae (pv 3) (ae (pv 4) (ae (pv 5) af)))) (aX (pv 1) T.aw T.fh jl (hr.mono (by decide)) (ae (pv 3) (ae (pv 4) (ae (pv 5) af))))))) (aO _)))))))))), ?_⟩
   repeat' (walk_at "rd1")
   rename_i n e _ _
   refine j5 (fun σ' H' => H' = H /\ ∃ n, 0 <= n /\ n < 10 ^ 45 /\ σ' = [some v, some v2, some (.ref l), some (.int n), none, none]) ?_ ?_
   . cases r with
     | once f g =>
       have hp : eZ H v a.ay [("many", .int 1), ("first", .int f), ("last", .int g)] := hR
       repeat' (walk_at "rd1")
       all_goals exact ⟨rfl, _, by omega, by omega, rfl⟩
     | each st sp wd m =>
       obtain ⟨hp, _⟩ := hR
       obtain ⟨g0, g1, g2, g3, g4, g5, hm⟩ := hg
       rcases hm with rfl | ⟨i, rfl, i1, i2⟩
       . repeat' (walk_at "rd1")
         all_goals exact ⟨rfl, _, by omega, by omega, rfl⟩
       . repeat' (walk_at "rd1")
         all_goals exact ⟨rfl, _, by omega, by omega, rfl⟩
     | behind st gp wd m =>
       obtain ⟨hp, _⟩ := hR
       obtain ⟨g0, g1, g2, g3, g4, g5, hm⟩ := hg
       rcases hm with rfl | ⟨i, rfl, i1, i2⟩
       . repeat' (walk_at "rd1")
         all_goals exact ⟨rfl, _, by omega, by omega, rfl⟩
       . repeat' (walk_at "rd1")
         all_goals exact ⟨rfl, _, by omega, by omega, rfl⟩
     | du st gp mo wd m =>
       obtain ⟨hp, _⟩ := hR
       obtain ⟨g0, g1, g2, g3, g4, g5, g6, hm⟩ := hg
       rcases hm with rfl | ⟨i, rfl, i1, i2⟩
       . repeat' (walk_at "rd1")
         all_goals exact ⟨rfl, _, by omega, by omega, rfl⟩
       . repeat' (walk_at "rd1")
         all_goals exact ⟨rfl, _, by omega, by omega, rfl⟩
   rintro σ' H' ⟨rfl, n, h0, h1, rfl⟩
   repeat' (walk_at "rd1")
   rename_i x e7 _ _ y e8 _ _
   refine j5 (fun σ' H2 => av H' H2 /\ σ' = [some v, some v2, some (.ref l), some (.int n), some (.int x), some (.int (x + y))]) ?_ ?_
   . cases r with
     | once f g =>
       have wX := hR; have wU := pZ
       have hp : eZ H' v a.ay [("many", .int 1), ("first", .int f), ("last", .int g)] := hR
       have Aa : eZ H' v2 a.ay [("many", .int 1), ("first", .int f), ("last", .int g)] := pZ
       repeat' (walk_at "rd1")
       all_goals first | exact ⟨by walk_at "same", rfl⟩ | exact (jL (by assumption)).elim
     | each st sp wd m =>
       have wX := hR; have wU := pZ
       obtain ⟨hp, _⟩ := hR
       obtain ⟨Aa, _⟩ := pZ
       obtain ⟨g0, g1, g2, g3, g4, g5, hm⟩ := hg
       rcases hm with rfl | ⟨i, rfl, i1, i2⟩
       . repeat' (walk_at "rd1")
         all_goals first | exact ⟨by walk_at "same", rfl⟩ | exact (jL (by assumption)).elim
       . repeat' (walk_at "rd1")
         all_goals first | exact ⟨by walk_at "same", rfl⟩ | exact (jL (by assumption)).elim
     | behind st gp wd m =>
       have wX := hR; have wU := pZ
       obtain ⟨hp, _⟩ := hR
       obtain ⟨Aa, _⟩ := pZ
       obtain ⟨g0, g1, g2, g3, g4, g5, hm⟩ := hg
       rcases hm with rfl | ⟨i, rfl, i1, i2⟩
       . repeat' (walk_at "rd1")
         all_goals first | exact ⟨by walk_at "same", rfl⟩ | exact (jL (by assumption)).elim
       . repeat' (walk_at "rd1")
         all_goals first | exact ⟨by walk_at "same", rfl⟩ | exact (jL (by assumption)).elim
     | du st gp mo wd m =>
       have wX := hR; have wU := pZ
       obtain ⟨hp, _⟩ := hR
       obtain ⟨Aa, _⟩ := pZ
       obtain ⟨g0, g1, g2, g3, g4, g5, g6, hm⟩ := hg
       rcases hm with rfl | ⟨i, rfl, i1, i2⟩
       . repeat' (walk_at "rd1")
         all_goals first | exact ⟨by walk_at "same", rfl⟩ | exact (jL (by assumption)).elim
       . repeat' (walk_at "rd1")
         all_goals first | exact ⟨by walk_at "same", rfl⟩ | exact (jL (by assumption)).elim
   rintro σ' H2 ⟨s2, rfl⟩
   replace hR := hR.keeps s2
   replace pZ := pZ.keeps s2
   obtain ⟨f1, f2, f3⟩ := BF (r := r) (n := n) (s := x)
   refine j5 (fun σ' H3 => av H2 H3 /\ σ' = [some v, some v2, some (.ref l), some (.int n), some (.int x), some (.int (x + y))]) ?_ ?_
   . cases r with
     | once f g =>
       have wX := hR; have wU := pZ
       have hp : eZ H2 v a.ay [("many", .int 1), ("first", .int f), ("last", .int g)] := hR
       have Aa : eZ H2 v2 a.ay [("many", .int 1), ("first", .int f), ("last", .int g)] := pZ
       repeat' (walk_at "rd1")
       all_goals first | exact ⟨by walk_at "same", rfl⟩ | (exfalso; simp_all)
     | each st sp wd m =>
       have wX := hR; have wU := pZ
       obtain ⟨hp, _⟩ := hR
       obtain ⟨Aa, _⟩ := pZ
       repeat' (walk_at "rd1")
       all_goals first | exact ⟨by walk_at "same", rfl⟩ | (exfalso; simp_all)
     | behind st gp wd m =>
       have wX := hR; have wU := pZ
       obtain ⟨hp, _⟩ := hR
       obtain ⟨Aa, _⟩ := pZ
       repeat' (walk_at "rd1")
       all_goals first | exact ⟨by walk_at "same", rfl⟩ | (exfalso; simp_all)
     | du st gp mo wd m =>
       have wX := hR; have wU := pZ
       obtain ⟨hp, _⟩ := hR
       obtain ⟨Aa, _⟩ := pZ
       repeat' (walk_at "rd1")
       all_goals first | exact ⟨by walk_at "same", rfl⟩ | (exfalso; simp_all)
   rintro σ' H3 ⟨s3, rfl⟩
   replace hR := hR.keeps s3
   replace pZ := pZ.keeps s3
   clear f1 f2 f3
   cases r with
   | once f g =>
     have wX := hR; have wU := pZ
     have hp : eZ H3 v a.ay [("many", .int 1), ("first", .int f), ("last", .int g)] := hR
     have Aa : eZ H3 v2 a.ay [("many", .int 1), ("first", .int f), ("last", .int g)] := pZ
     repeat' (walk_at "rd1")
     (rename_i d1 _ _ z1 _ _ d2 _ _ z2; have ed := z1.det z2; subst ed; obtain ⟨f1, f2, f3⟩ := z1.lay; refine wk (by walk_at "dat") (by walk_at "dat") f1 f1 f2 ?_; rw [f3]; exact q _ (by walk_at "same"))
   | each st sp wd m =>
     have wX := hR; have wU := pZ
     obtain ⟨hp, _⟩ := hR
     obtain ⟨Aa, _⟩ := pZ
     repeat' (walk_at "rd1")
     (rename_i d1 _ _ z1 _ _ d2 _ _ z2; have ed := z1.det z2; subst ed; obtain ⟨f1, f2, f3⟩ := z1.lay; refine wk (by walk_at "dat") (by walk_at "dat") f1 f1 f2 ?_; rw [f3]; exact q _ (by walk_at "same"))
   | behind st gp wd m =>
     have wX := hR; have wU := pZ
     obtain ⟨hp, _⟩ := hR
     obtain ⟨Aa, _⟩ := pZ
     repeat' (walk_at "rd1")
     (rename_i d1 _ _ z1 _ _ d2 _ _ z2; have ed := z1.det z2; subst ed; obtain ⟨f1, f2, f3⟩ := z1.lay; refine wk (by walk_at "dat") (by walk_at "dat") f1 f1 f2 ?_; rw [f3]; exact q _ (by walk_at "same"))
   | du st gp mo wd m =>
     have wX := hR; have wU := pZ
     obtain ⟨hp, _⟩ := hR
     obtain ⟨Aa, _⟩ := pZ
     repeat' (walk_at "rd1")
     (rename_i d1 _ _ z1 _ _ d2 _ _ z2; have ed := z1.det z2; subst ed; obtain ⟨f1, f2, f3⟩ := z1.lay; refine wk (by walk_at "dat") (by walk_at "dat") f1 f1 f2 ?_; rw [f3]; exact q _ (by walk_at "same"))
theorem zU (T : Txt K mg a) : dt P w K mg base 4 a.cx ["_law_rule_here", "_law_other", "_law_script"] [] (sM K a) :=
 ⟨⟨_, _, Bt T, T.j0.binds fun _ _ _ _ _ _ => .all fun us hl => match us, hl with | [_, _, _], _ => rfl, .nil⟩⟩
local macro_rules | `(tactic| walk_at "use") => `(tactic| first
 | ((with_reducible refine' BU ?e1 (fun _ _ _ _ => ?_)); (case e1 => walk_at "sql"))
 | ((with_reducible refine' A3 ?e1 ?_); (case e1 => walk_at "sql"))
 | ((with_reducible refine' Ai ?e1 (fun _ _ _ _ => ?_)); (case e1 => walk_at "ris"))
 | ((with_reducible refine' C7 ?e1 ?e2 (fun _ _ _ _ => ?_)); (case e1 => rfl); (case e2 => assumption))
 | ((with_reducible refine' C5 ?e1 ?e2 ?e3 ?e4 (fun _ _ => ?_)); (case e1 => walk_at "ris"); (case e2 => walk_at "ris"); (case e3 => assumption); (case e4 => walk_at "sql"))
 | fail)
theorem Fh (T : Txt K mg a) (gd : k9 w K a.cL cG) : aV P w K mg base gs 12 a.mZ a.va ["_law_script"] (AU K) := by
 have l1 := T.aS; have l2 := T.aG; have l3 := T.aA; have l4 := T.aw
 have aC := eg (P := P) (w := w) (base := base) T
 have wG := zP (P := P) (w := w) (base := base) T
 have uM := x6 (P := P) (w := w) (base := base) T
 have vw := xg (P := P) (w := w) (base := base) T
 have uK := zU (P := P) (w := w) (base := base) T
 have vS := zv (P := P) (base := base) T gd
 have ow := Gn (P := P) (w := w) (base := base) T
 have pA := Ey (P := P) (w := w) (base := base) T
 have k8 := FY (P := P) (w := w) (base := base) T
 have kI := Fe (P := P) (w := w) (base := base) T
 refine T.AK.ok nQ (fun vs H Q E h => ?_) (fun dw A outer s H vs Q E hr h => ?_)
 . obtain ⟨_, _, rfl, _⟩ := h; rfl
 . obtain ⟨l, ns, rfl, hS, hl, q⟩ := h
   refine ⟨_, (aj (aM (i := 1) nQ.nd rfl (Or.inl rfl) (ax eK (aq aC (hr.mono (by decide)) rfl T.aD T.aE (ae (pv 0) (ae ai af))) ai))
    (aj (aM (i := 2) nQ.nd rfl (Or.inl rfl) (aq wG (hr.mono (by decide)) rfl T.pF T.px (ae (pv 0) (ae (pv 1) af))))
    (aj (aM (i := 3) nQ.nd rfl (Or.inl rfl) (aq uM (hr.mono (by decide)) rfl T.mx T.my (ae (pv 0) (ae (pv 1) af))))
    (aj (E8 PassesOwn.never rfl (zj rfl T.pz (ae ai af)) (jM (i := 4) nQ.nd rfl (Or.inl rfl))
     (aj (aM (i := 5) nQ.nd rfl (Or.inl rfl) (aq vS (hr.mono (by decide)) rfl T.oY T.oj (ae (pv 3) af)))
     (eV (cK (aK (qB hr.qw) (aq vw (hr.mono (by decide)) rfl T.nh T.mO (ae (pv 5) af)) (fw (ae (gx (cF hr.qw) (pv 1) ai (aO _)) (ae (gx (cF hr.qw) (pv 1) ai (aO _)) (ae (gx yk (pv 1) ai (aO _)) (ae (gx (cF hr.qw) (pv 1) ai (aO _)) af))))) (aO _))
      (ak (aF t8))
      aW)
     (eV (cK (PW.pt (yG (aK (qB hr.qw) (bW (bU (pv 5) T.aS T.kc ow (hr.mono (by decide))) (bW (bU (pv 5) T.aG T.ka pA (hr.mono (by decide))) (bW (bU (pv 5) T.aA T.gT k8 (hr.mono (by decide))) (bU (pv 5) T.aw T.fI kI (hr.mono (by decide)))))) (pv 3) (aO _)) (uU (rT (je (aq uK (hr.mono (by decide)) rfl T.mI T.nB (ae (pv 2) (ae (pv 5) (ae (pv 0) af)))) (fun _ => rfl))))))
      (ak (aF t8))
      aW)
     (ak (aM (i := 3) nQ.nd rfl (Or.inl rfl) (bW (bU (pv 2) T.aS T.kc ow (hr.mono (by decide))) (bW (bU (pv 2) T.aG T.ka pA (hr.mono (by decide))) (bW (bU (pv 2) T.aA T.gT k8 (hr.mono (by decide))) (bU (pv 2) T.aw T.fI kI (hr.mono (by decide))))))))))))
    (ak (aF t8)))))), ?_⟩
   repeat' (walk_at "rd1")
   rename_i k0 k1 v1 H1 s1 wX
   have hg := yI ns (cell ns (Int.toNat 0) % 4)
   have hk := CP (ns := ns) k0 k1
   generalize cell ns (Int.toNat 0) % 4 = kk at *
   generalize rK ns kk = r at *
   have Li := av.seq s1 hS
   clear hS
   refine zu (fun j σ' => ∃ z1 z2, σ' = [some (.ref l), some (.int kk), some v1, some (.str (j8 r)), z1, z2]) ⟨_, _, rfl⟩ ?_ ?_
   . rintro j σ' H7 hj ⟨z1, z2, rfl⟩ Hn
     repeat' (walk_at "rd1")
     rename_i v2 H8 s8 wU
     refine j5 (fun σ' H9 => av H8 H9 /\ ∃ z, σ' = [some (.ref l), some (.int kk), some v1, some (.str (j8 r)), z, some v2]) ?_ ?_
     . repeat' (walk_at "rd1")
       . rename_i hb
         rw [hk] at hb
         simp [kinds, PyData.eqvAll, PyData.eqv] at hb
       . exact ⟨by walk_at "same", _, rfl⟩
     rintro σ' H9 ⟨s9, z, rfl⟩
     have Gw := wU.keeps s9
     have GJ : oh a H9 v1 r := ((wX.keeps Hn).keeps s8).keeps s9
     have M6 : i6 K H9 l (ns.map V.int) := av.seq s9 (av.seq s8 (av.seq Hn Li))
     have MZ : av H1 H9 := (Hn.trans s8).trans s9
     clear wX wU Li Hn s8 s9
     refine j5 (fun σ' HA => av H9 HA /\ σ' = [some (.ref l), some (.int kk), some v1, some (.str (j8 r)), z, some v2]) ?_ ?_
     . cases r with
       | once f g =>
         have hp : eZ H9 v2 a.ay [("many", .int 1), ("first", .int f), ("last", .int g)] := Gw
         have hG := hg
         obtain ⟨g0, g1, g2⟩ := hg
         have hb : 0 <= f /\ f < 10 ^ 64 /\ 0 <= g /\ g < 10 ^ 64 := by omega
         have e : j8 (.once f g) = jc "once" [.int f, .int g] := rfl
         rw [e] at *
         repeat' (walk_at "rd1")
         all_goals first | exact ⟨by walk_at "same", rfl⟩ | trace_state
       | each st sp wd m =>
         have hG := hg; have Lr := Gw
         obtain ⟨hp, _⟩ := Gw
         obtain ⟨g0, g1, g2, g3, g4, g5, hm⟩ := hg
         have hm := hm.md
         have hb : 0 <= st /\ st < 10 ^ 64 /\ 0 <= sp /\ sp < 10 ^ 64 /\ 0 <= wd /\ wd < 10 ^ 64 := by omega
         have e : j8 (.each st sp wd m) = jc "each" [.int st, .int sp, .int wd, mD m] := rfl
         rw [e] at *
         repeat' (walk_at "rd1")
         all_goals first | exact ⟨by walk_at "same", rfl⟩ | trace_state
       | behind st gp wd m =>
         have hG := hg; have Lr := Gw
         obtain ⟨hp, _⟩ := Gw
         obtain ⟨g0, g1, g2, g3, g4, g5, hm⟩ := hg
         have hm := hm.md
         have hb : 0 <= st /\ st < 10 ^ 64 /\ 0 <= gp /\ gp < 10 ^ 64 /\ 0 <= wd /\ wd < 10 ^ 64 := by omega
         have e : j8 (.behind st gp wd m) = jc "behind" [.int st, .int gp, .int wd, mD m] := rfl
         rw [e] at *
         repeat' (walk_at "rd1")
         all_goals first | exact ⟨by walk_at "same", rfl⟩ | trace_state
       | du st gp mo wd m =>
         have hG := hg; have Lr := Gw
         obtain ⟨hp, _⟩ := Gw
         obtain ⟨g0, g1, g2, g3, g4, g5, g6, hm⟩ := hg
         have hm := hm.md
         have hb : 0 <= st /\ st < 10 ^ 64 /\ 0 <= gp /\ gp < 10 ^ 64 /\ 0 <= mo /\ mo < 10 ^ 64 /\ 0 <= wd /\ wd < 10 ^ 64 := by omega
         have e : j8 (.du st gp mo wd m) = jc "slowing" [.int st, .int gp, .int mo, .int wd, mD m] := rfl
         rw [e] at *
         repeat' (walk_at "rd1")
         all_goals first | exact ⟨by walk_at "same", rfl⟩ | trace_state
     rintro σ' HA ⟨sA, rfl⟩
     replace GJ := GJ.keeps sA
     cases r with
     | once f g =>
      have hp : eZ HA v1 a.ay [("many", .int 1), ("first", .int f), ("last", .int g)] := GJ
      have hG := hg
      obtain ⟨g0, g1, g2⟩ := hg
      have hb : 0 <= f /\ f < 10 ^ 64 /\ 0 <= g /\ g < 10 ^ 64 := by omega
      have e : j8 (.once f g) = jc "once" [.int f, .int g] := rfl
      rw [e] at *
      repeat' (walk_at "rd1")
      all_goals first | exact ⟨⟨_, _, rfl⟩, by walk_at "same"⟩ | trace_state
     | each st sp wd m =>
      obtain ⟨hp, _⟩ := GJ
      obtain ⟨g0, g1, g2, g3, g4, g5, hm⟩ := hg
      have hm := hm.md
      have hb : 0 <= st /\ st < 10 ^ 64 /\ 0 <= sp /\ sp < 10 ^ 64 /\ 0 <= wd /\ wd < 10 ^ 64 := by omega
      have e : j8 (.each st sp wd m) = jc "each" [.int st, .int sp, .int wd, mD m] := rfl
      rw [e] at *
      repeat' (walk_at "rd1")
      all_goals first | exact ⟨⟨_, _, rfl⟩, by walk_at "same"⟩ | trace_state
     | behind st gp wd m =>
      obtain ⟨hp, _⟩ := GJ
      obtain ⟨g0, g1, g2, g3, g4, g5, hm⟩ := hg
      have hm := hm.md
      have hb : 0 <= st /\ st < 10 ^ 64 /\ 0 <= gp /\ gp < 10 ^ 64 /\ 0 <= wd /\ wd < 10 ^ 64 := by omega
      have e : j8 (.behind st gp wd m) = jc "behind" [.int st, .int gp, .int wd, mD m] := rfl
      rw [e] at *
      repeat' (walk_at "rd1")
      all_goals first | exact ⟨⟨_, _, rfl⟩, by walk_at "same"⟩ | trace_state
     | du st gp mo wd m =>
      obtain ⟨hp, _⟩ := GJ
      obtain ⟨g0, g1, g2, g3, g4, g5, g6, hm⟩ := hg
      have hm := hm.md
      have hb : 0 <= st /\ st < 10 ^ 64 /\ 0 <= gp /\ gp < 10 ^ 64 /\ 0 <= mo /\ mo < 10 ^ 64 /\ 0 <= wd /\ wd < 10 ^ 64 := by omega
      have e : j8 (.du st gp mo wd m) = jc "slowing" [.int st, .int gp, .int mo, .int wd, mD m] := rfl
      rw [e] at *
      repeat' (walk_at "rd1")
      all_goals first | exact ⟨⟨_, _, rfl⟩, by walk_at "same"⟩ | trace_state
   . rintro σ' H7 ⟨z1, z2, rfl⟩ Hn
     repeat' (walk_at "rd1")
     exact q _
end
end My
open PySem PySem.W PyProof.Rows
local macro_rules | `(tactic| walk_at "k_dg") => `(tactic| (refine' ⟨?a, ⟨_, L2.yL ?l ?c⟩, ?k⟩; (case a => k_is); (case l => k_is); (case c => k_is); (case k => k_is)))
local macro_rules | `(tactic| walk_at "k_dm") => `(tactic| (refine' ⟨?a, ⟨_, L2.yL ?l ?c⟩, ?k, ?i⟩; (case a => k_is); (case l => k_is); (case c => k_is); (case k => k_is); (case i => k_is)))
local macro_rules | `(tactic| walk_at "k_dt") => `(tactic| (refine' My.Cq ?l; (case l => k_is)))
local macro_rules | `(tactic| walk_at "k_ck") => `(tactic| (refine' ⟨?a, ?b, ?c, ?d, ?e, ?f, ?g⟩; (case a => k_is); (case b => k_is); (case c => k_is); (case d => k_is); (case e => k_is); (case f => k_is); (case g => k_is)))
theorem PySem.W.Fast.tw16093995482833924700 : True := trivial
theorem PySem.W.Fast.tw18184999505883746676 : True := trivial
theorem PySem.W.Fast.tw1799426128556828567 : True := trivial
theorem PySem.W.Fast.tw2120187024793293719 : True := trivial
theorem PySem.W.Fast.tw14059031146841833474 : True := trivial
theorem PySem.W.Fast.tw10423184807101698848 : True := trivial
theorem PySem.W.Fast.tw5226129694002962877 : True := trivial
theorem PySem.W.Fast.tw2911950258424219207 : True := trivial
theorem PySem.W.Fast.tw14298057944647450386 : True := trivial
theorem PySem.W.Fast.tw14888753264675933844 : True := trivial
theorem PySem.W.Fast.tw3309990228369791433 : True := trivial
theorem PySem.W.Fast.tw3046324339945944695 : True := trivial
set_option maxRecDepth 100000 in
set_option maxHeartbeats 0 in
theorem PySem.Challenge.cw_wakefew_k73_rules_read_again_holds : PySem.Challenge.rw_wakefew_k73_rules_read_again.Holds := by
 w_on; o_law; k_head; (case hw => w_witness2)
 k_fill
 refine L2.AF (l := PySem.Challenge.rw_wakefew_k73_rules_read_again) (n := 63) (k := 30) (x := "_law_script") (CX := L2.gs) (sp := My.AU) rfl (by decide) rfl ⟨rfl, by decide, by decide⟩ (fun w h Y => PySem.W.kIn_of Y) ?F ?S ?C
 case F =>
  intro w mg fa h KX G HR
  have T : ∃ a : My.Ad, a.mZ = a.mZ /\ My.Txt (L2.Jp KX) mg a := by
   dsimp only [L2.Jp]
   refine' My.E1 KX G ?h0 ?h1 ?h2 ?h3 ?h4 ?h5 ?h6 ?h7 ?h8 ?h9 ?h10 ?h11 ?h12 ?h13 ?h14 ?h15 ?h16 ?h17 ?h18 ?h19 ?h20 ?h21 ?h22 ?h23 ?h24 ?h25 ?h26 ?h27 ?h28 ?h29 ?h30 ?h31 ?h32 ?h33 ?h34 ?h35 ?h36 ?h37 ?h38 ?h39 ?h40 ?h41 ?h42 ?h43 ?h44 ?h45 ?h46 ?h47 ?h48 ?h49 ?h50 ?h51 ?h52 ?h53 ?h54 ?h66 ?h67 ?h68 ?h69 ?h70 ?h71 ?h73 ?h74 ?h75 ?h76 ?h77 ?h78 ?h79 ?h80 ?h81 ?h82 ?h83 ?h84 ?h85 ?h86 ?h87 ?h88 ?h89 ?h90 ?h91 ?h92 ?h93 ?h94 ?h95 ?h96 ?h97 ?h98 ?h99 ?h100 ?h101 ?h102 ?h103 ?h104 ?h105 ?h106 ?h107 ?h108 ?h109 ?h110 ?h111 ?h112 ?h113 ?h114 ?h115 ?h116 ?h117 ?h118 ?h119 ?h120 ?h121 ?h122 ?h123 ?h124 ?h125 ?h126 ?h127 ?h128 ?h129 ?h130 ?h131 ?h132 ?h133 ?h134 ?h135 ?h136 ?h137 ?h138 ?h139 ?h140 ?h141 ?h142 ?h143 ?h144 ?h145
   (case h0 => k_is)
   (case h1 => k_is)
   (case h2 => k_is)
   (case h3 => k_is)
   (case h4 => k_is)
   (case h5 => k_is)
   (case h6 => k_is)
   (case h7 => walk_at "k_dg")
   (case h8 => walk_at "k_dg")
   (case h9 => walk_at "k_dg")
   (case h10 => walk_at "k_dg")
   (case h11 => walk_at "k_dg")
   (case h12 => walk_at "k_dg")
   (case h13 => walk_at "k_dm")
   (case h14 => walk_at "k_dm")
   (case h15 => walk_at "k_dm")
   (case h16 => walk_at "k_dt")
   (case h17 => walk_at "k_dm")
   (case h18 => walk_at "k_dm")
   (case h19 => walk_at "k_dm")
   (case h20 => walk_at "k_dm")
   (case h21 => walk_at "k_dm")
   (case h22 => walk_at "k_dt")
   (case h23 => walk_at "k_dm")
   (case h24 => walk_at "k_dm")
   (case h25 => walk_at "k_dm")
   (case h26 => walk_at "k_dm")
   (case h27 => walk_at "k_dm")
   (case h28 => walk_at "k_dm")
   (case h29 => walk_at "k_dt")
   (case h30 => walk_at "k_dm")
   (case h31 => walk_at "k_dm")
   (case h32 => walk_at "k_dm")
   (case h33 => walk_at "k_dm")
   (case h34 => walk_at "k_dm")
   (case h35 => walk_at "k_dm")
   (case h36 => walk_at "k_dm")
   (case h37 => walk_at "k_dt")
   (case h38 => walk_at "k_dm")
   (case h39 => walk_at "k_dm")
   (case h40 => walk_at "k_dm")
   (case h41 => walk_at "k_dg")
   (case h42 => walk_at "k_dg")
   (case h43 => walk_at "k_dg")
   (case h44 => walk_at "k_dg")
   (case h45 => walk_at "k_dg")
   (case h46 => walk_at "k_dg")
   (case h47 => walk_at "k_dg")
   (case h48 => walk_at "k_dg")
   (case h49 => walk_at "k_dg")
   (case h50 => walk_at "k_dg")
   (case h51 => walk_at "k_dg")
   (case h52 => walk_at "k_dg")
   (case h53 => walk_at "k_dg")
   (case h54 => walk_at "k_dg")
   (case h66 => walk_at "k_ck")
   (case h67 => k_is)
   (case h68 => k_is)
   (case h69 => k_is)
   (case h70 => k_is)
   (case h71 => k_is)
   (case h73 => k_is)
   (case h74 => decide)
   (case h75 => k_is)
   (case h76 => decide)
   (case h77 => k_is)
   (case h78 => k_is)
   (case h79 => decide)
   (case h80 => walk_at "k_ck")
   (case h81 => k_is)
   (case h82 => k_is)
   (case h83 => k_is)
   (case h84 => k_is)
   (case h85 => k_is)
   (case h86 => k_is)
   (case h87 => k_is)
   (case h88 => k_is)
   (case h89 => decide)
   (case h90 => k_is)
   (case h91 => k_is)
   (case h92 => decide)
   (case h93 => k_is)
   (case h94 => decide)
   (case h95 => walk_at "k_ck")
   (case h96 => k_is)
   (case h97 => k_is)
   (case h98 => k_is)
   (case h99 => k_is)
   (case h100 => k_is)
   (case h101 => k_is)
   (case h102 => k_is)
   (case h103 => k_is)
   (case h104 => k_is)
   (case h105 => decide)
   (case h106 => k_is)
   (case h107 => decide)
   (case h108 => k_is)
   (case h109 => decide)
   (case h110 => walk_at "k_ck")
   (case h111 => k_is)
   (case h112 => k_is)
   (case h113 => k_is)
   (case h114 => k_is)
   (case h115 => k_is)
   (case h116 => k_is)
   (case h117 => k_is)
   (case h118 => k_is)
   (case h119 => k_is)
   (case h120 => k_is)
   (case h121 => k_is)
   (case h122 => k_is)
   (case h123 => k_is)
   (case h124 => decide)
   (case h125 => k_is)
   (case h126 => decide)
   (case h127 => k_is)
   (case h128 => k_is)
   (case h129 => k_is)
   (case h130 => k_is)
   (case h131 => k_is)
   (case h132 => k_is)
   (case h133 => k_is)
   (case h134 => k_is)
   (case h135 => k_is)
   (case h136 => k_is)
   (case h137 => k_is)
   (case h138 => k_is)
   (case h139 => k_is)
   (case h140 => k_is)
   (case h141 => k_is)
   (case h142 => k_is)
   (case h143 => k_is)
   (case h144 => k_is)
   (case h145 => k_is)
  obtain ⟨a, _, T⟩ := T
  have e0 := HR.symm.trans T.BA
  cases e0
  have gd : ∃ A, mg "LENGTHS" = some (.ref A) /\ L2.k9 w (L2.Jp KX) A My.cG := by
   dsimp only [L2.Jp]
   refine' L2.IG KX G ?h0 ?h1 ?h2 ?h3 (by decide +kernel)
   (case h0 => k_is)
   (case h1 => k_is)
   (case h2 => decide)
   (case h3 => exact (.cons _ _ _ _ (.cons _ _ _ _ (.cons _ _ _ _ (.cons _ _ _ _ .nil)))))
  obtain ⟨A, eA, gd⟩ := gd
  have e1 := eA.symm.trans T.ku
  cases e1
  exact ⟨a.va, fun s u => My.yZ T s u, fun base kb nb => (My.Fh T gd).mono (by decide)⟩
 case S => exact fun K H l ns hl hO hS => ⟨l, ns, rfl, hS, hl, fun _ => rfl⟩
 case C => exact fun H s e s' h => h
